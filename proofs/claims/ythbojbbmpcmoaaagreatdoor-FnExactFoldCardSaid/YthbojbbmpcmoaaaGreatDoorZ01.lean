/- Pure, Va, Vn. -/
import Derived.Lib.ParseIntB
import Derived.Test.YthbojbbmpcmoaaaGreatDoorProg
import Derived.WalkKit
import Derived.WalkSpells
import Derived.WalkLawsBesides
import Derived.Deep.DeepFit
import Derived.Deep.DeepMust
import Derived.Lib.Strings
import Derived.Maps.AppendAt
import Derived.Deep.QuietTactic
import Derived.BigQuiet
import Derived.Deep.RegionWith
namespace Go.Proofs.YthbojbbmpcmoaaaGreatDoor.Sc
def dig (b:UInt8):Bool:=decide (48≤b.toNat∧b.toNat≤57)
def beg (b:UInt8):Bool:=decide ((97≤b.toNat∧b.toNat≤122)∨b.toNat=95)
def nm (b:UInt8):Bool:=beg b || dig b
def hexv (b:UInt8):Int:=if 48≤b.toNat∧b.toNat≤57 then (b.toNat:Int) - 48 else if 97≤b.toNat∧b.toNat≤102 then (b.toNat:Int) - 97+10 else -1
def gapLen:Bool→List UInt8→Nat
 | _,[]=>0
 | false,b :: r=>if b.toNat=35 then 1+gapLen true r else if b.toNat=32∨b.toNat=10 then 1+gapLen false r else 0
 | true,b :: r=>if b.toNat=10 then 1+gapLen false r else 1+gapLen true r
def numVal (l:List UInt8):Nat:=l.foldl (fun a b=>a*10+(b.toNat - 48)) 0
def unq:List UInt8→Option (List UInt8 × Nat)
 | []=>none
 | b :: r =>
  if b.toNat=34 then some ([],1)
  else if b.toNat=92 then
   match r with
   | h :: lo :: r'=>if hexv h < 0∨hexv lo < 0 then none else (unq r').map fun p=>(UInt8.ofNat (16 * hexv h+hexv lo).toNat :: p.1,p.2+3)
   | _=>none
  else if b.toNat < 32∨126 < b.toNat then none
  else (unq r).map fun p=>(b :: p.1,p.2+1)
def words:List (List UInt8):=[[97,110,100],[100,101,102],[101,108,115,101],[101,109,105,116],[102,97,108,115,101],[102,110],[102,111,114],[104,97,115],[105,102],[105,110],[108,101,116],[108,111,97,100],[110,111,110,101],[110,111,116],[111,114],[116,104,101,110],[116,114,117,101]]
def marks:List (List UInt8):=[[61,61],[33,61],[60,61],[62,61],[61,62],[40],[41],[91],[93],[123],[125],[44],[59],[58],[46],[61],[60],[62],[43],[45],[42],[47],[37]]
structure R where
 code:Nat
 kind:Nat
 text:List UInt8
 n:Nat
 size:Nat
def bad (c:Nat):R:=⟨c,0,[],0,0⟩
def oneNum (l:List UInt8):R :=
 if (l.takeWhile nm).all dig=true∧numVal (l.takeWhile nm)≤9223372036854775807∧¬ (l.head?=some 48∧1 < (l.takeWhile nm).length) then ⟨0,3,[],numVal (l.takeWhile nm),(l.takeWhile nm).length⟩ else bad 3
def oneName (l:List UInt8):R :=
 if (l.takeWhile nm)∈words then ⟨0,2,l.takeWhile nm,0,(l.takeWhile nm).length⟩ else if 30 < (l.takeWhile nm).length then bad 5 else ⟨0,1,l.takeWhile nm,0,(l.takeWhile nm).length⟩
def oneText (l:List UInt8):R :=
 match unq l.tail with
 | none=>bad 4
 | some p=>if 1000 < p.1.length then bad 5 else ⟨0,4,p.1,0,p.2+1⟩
def oneMark (l:List UInt8):R :=
 match marks.find? (fun m=>m.isPrefixOf l) with
 | none=>bad 2
 | some m=>⟨0,5,m,0,m.length⟩
def one (l:List UInt8):R :=
 match l with
 | []=>bad 2
 | b :: _=>if dig b=true then oneNum l else if beg b=true then oneName l else if b.toNat=34 then oneText l else oneMark l
structure T where
 kind:Nat
 text:List UInt8
 n:Nat
 place:Nat
def scan:Nat→Nat→List UInt8→List T × Nat × Nat
 | 0,_,_=>([],0,0)
 | f+1,k,l =>
  if l.drop (gapLen false l)=[] then ([],0,0)
  else if (one (l.drop (gapLen false l))).code≠0 then ([],(one (l.drop (gapLen false l))).code,k+gapLen false l)
  else (⟨(one (l.drop (gapLen false l))).kind,(one (l.drop (gapLen false l))).text,(one (l.drop (gapLen false l))).n,k+gapLen false l⟩ ::
    (scan f (k+gapLen false l+(one (l.drop (gapLen false l))).size) ((l.drop (gapLen false l)).drop (one (l.drop (gapLen false l))).size)).1,
   (scan f (k+gapLen false l+(one (l.drop (gapLen false l))).size) ((l.drop (gapLen false l)).drop (one (l.drop (gapLen false l))).size)).2)
theorem drop_cons (s:ByteArray) (k:Nat) (h:k < s.size):s.data.toList.drop k=s[k] :: s.data.toList.drop (k+1):=by
 rw [List.drop_eq_getElem_cons (by simpa using h)];rfl
theorem gapLen_le:∀ (b:Bool) (l:List UInt8),gapLen b l≤l.length:=by
 intro b l
 induction l generalizing b with
 | nil=>simp [gapLen]
 | cons x r ih =>
  cases b <;> simp only [gapLen,List.length_cons]
  ·split
   ·have:=ih true;omega
   ·split
    ·have:=ih false;omega
    ·omega
  ·split
   ·have:=ih false;omega
   ·have:=ih true;omega
theorem takeWhile_le (p:UInt8→Bool) (l:List UInt8):(l.takeWhile p).length≤l.length:=by
 induction l with
 | nil=>simp
 | cons x r ih=>simp only [List.takeWhile_cons];split <;> simp <;> omega
theorem unq_size:∀ (l:List UInt8) (t:List UInt8) (n:Nat),unq l=some (t,n)→1≤n∧n≤l.length∧t.length < n
 | [],t,n,h=>by simp [unq] at h
 | b :: r,t,n,h=>by
  unfold unq at h
  split at h
  ·simp at h;obtain ⟨rfl,rfl⟩:=h;simp
  ·split at h
   ·match r,h with
    | [],h=>simp at h
    | [_],h=>simp at h
    | x :: y :: r',h =>
     simp only at h
     split at h
     ·simp at h
     ·rw [Option.map_eq_some_iff] at h
      obtain ⟨p,hp,he⟩:=h
      simp at he
      obtain ⟨rfl,rfl⟩:=he
      have:=unq_size r' p.1 p.2 hp
      simp;omega
   ·split at h
    ·simp at h
    ·rw [Option.map_eq_some_iff] at h
     obtain ⟨p,hp,he⟩:=h
     simp at he
     obtain ⟨rfl,rfl⟩:=he
     have:=unq_size r p.1 p.2 hp
     simp;omega
theorem marks_pos:∀ m∈marks,1≤m.length∧m.length≤2:=by decide
theorem one_size (l:List UInt8) (h:(one l).code=0):1≤(one l).size∧(one l).size≤l.length:=by
 unfold one at h ⊢
 match l,h with
 | [],h=>simp [bad] at h
 | b :: r,h =>
  have hnm:nm b=true→1≤((b :: r).takeWhile nm).length:=by intro hb;simp [hb]
  have hle:=takeWhile_le nm (b :: r)
  simp only at h ⊢
  split at h
  ·rename_i hd
   rw [if_pos hd]
   have:=hnm (by simp [nm,hd])
   unfold oneNum at h ⊢
   split at h
   ·rename_i hc;rw [if_pos hc];exact ⟨this,hle⟩
   ·simp [bad] at h
  ·rename_i hd
   rw [if_neg hd]
   split at h
   ·rename_i hb
    rw [if_pos hb]
    have:=hnm (by simp [nm,hb])
    unfold oneName at h ⊢
    split at h
    ·rename_i hc;rw [if_pos hc];exact ⟨this,hle⟩
    ·rename_i hc
     rw [if_neg hc]
     split at h
     ·simp [bad] at h
     ·rename_i hc2;rw [if_neg hc2];exact ⟨this,hle⟩
   ·rename_i hb
    rw [if_neg hb]
    split at h
    ·rename_i hq
     rw [if_pos hq]
     unfold oneText at h ⊢
     split at h
     ·simp [bad] at h
     ·rename_i p hp
      split at h
      ·simp [bad] at h
      ·rename_i hc
       rw [if_neg hc]
       have:=unq_size r p.1 p.2 hp
       simp;omega
    ·rename_i hq
     rw [if_neg hq]
     unfold oneMark at h ⊢
     split at h
     ·simp [bad] at h
     ·rename_i m hm
      have h1:=List.mem_of_find?_eq_some hm
      have h2:=List.find?_some hm
      have h3:=marks_pos m h1
      have h4:m <+: (b :: r):=List.isPrefixOf_iff_prefix.1 h2
      exact ⟨h3.1,h4.length_le⟩
theorem scan_fuel:∀ (f g k:Nat) (l:List UInt8),l.length < f→l.length < g→scan f k l=scan g k l
 | 0,_,_,_,h,_=>by omega
 | f+1,0,_,_,_,h=>by omega
 | f+1,g+1,k,l,hf,hg=>by
  unfold scan
  by_cases h0:l.drop (gapLen false l)=[]
  ·rw [if_pos h0,if_pos h0]
  ·rw [if_neg h0,if_neg h0]
   by_cases hc:(one (l.drop (gapLen false l))).code≠0
   ·rw [if_pos hc,if_pos hc]
   ·rw [if_neg hc,if_neg hc]
    have hs:=one_size _ (by omega:(one (l.drop (gapLen false l))).code=0)
    have e:=scan_fuel f g (k+gapLen false l+(one (l.drop (gapLen false l))).size) ((l.drop (gapLen false l)).drop (one (l.drop (gapLen false l))).size)
     (by simp only [List.length_drop] at hs ⊢;omega) (by simp only [List.length_drop] at hs ⊢;omega)
    rw [e]
def from_ (l:List UInt8) (k:Nat):List T × Nat × Nat:=scan (l.length+1) k (l.drop k)
theorem from_end (l:List UInt8) (k:Nat) (h:l.length≤k+gapLen false (l.drop k)):from_ l k=([],0,0):=by
 unfold from_ scan
 rw [if_pos]
 rw [List.drop_drop,List.drop_eq_nil_iff];omega
theorem from_gap (l:List UInt8) (k:Nat) (hg:gapLen false (l.drop (k+gapLen false (l.drop k)))=0):from_ l k=from_ l (k+gapLen false (l.drop k)):=by
 unfold from_
 conv=>lhs;unfold scan
 conv=>rhs;unfold scan
 rw [hg,List.drop_drop,List.drop_zero,Nat.add_zero]
theorem gap_gap:∀ (b:Bool) (l:List UInt8),gapLen false (l.drop (gapLen b l))=0:=by
 intro b l
 induction l generalizing b with
 | nil=>simp [gapLen]
 | cons x r ih =>
  cases b
  ·simp only [gapLen]
   split
   ·rw [Nat.add_comm,List.drop_succ_cons];exact ih true
   ·split
    ·rw [Nat.add_comm,List.drop_succ_cons];exact ih false
    ·rename_i h1 h2;rw [List.drop_zero];simp [gapLen,h1,h2]
  ·simp only [gapLen]
   split
   ·rw [Nat.add_comm,List.drop_succ_cons];exact ih false
   ·rw [Nat.add_comm,List.drop_succ_cons];exact ih true
theorem from_bad (l:List UInt8) (k:Nat) (hk:k < l.length) (hg:gapLen false (l.drop k)=0) (hc:(one (l.drop k)).code≠0):from_ l k=([],(one (l.drop k)).code,k):=by
 unfold from_ scan
 rw [hg,List.drop_zero,Nat.add_zero,if_neg (by rw [List.drop_eq_nil_iff];omega),if_pos hc]
theorem from_tok (l:List UInt8) (k:Nat) (hk:k < l.length) (hg:gapLen false (l.drop k)=0) (hc:(one (l.drop k)).code=0) :
  from_ l k=(⟨(one (l.drop k)).kind,(one (l.drop k)).text,(one (l.drop k)).n,k⟩ :: (from_ l (k+(one (l.drop k)).size)).1,(from_ l (k+(one (l.drop k)).size)).2):=by
 have hs:=one_size _ hc
 unfold from_
 conv=>lhs;unfold scan
 rw [hg,List.drop_zero,Nat.add_zero,if_neg (by rw [List.drop_eq_nil_iff];omega),if_neg (by omega),List.drop_drop]
 rw [scan_fuel l.length (l.length+1) _ _ (by simp only [List.length_drop] at hs ⊢;omega) (by simp only [List.length_drop] at hs ⊢;omega)]
end Go.Proofs.YthbojbbmpcmoaaaGreatDoor.Sc
namespace Go.Proofs.YthbojbbmpcmoaaaGreatDoor
open Go.RowKit
theorem bA {w:World} (o:Obj):Below w.heap.size w (w.alloc o):=(Below.refl _ _).alloc (Nat.le_refl _) o
theorem hide {p:Prop} (h:p):Hid p:=h
theorem ret_bool {a b:Bool} (h:a=b):Ending.returned (.bool a) = .returned (.bool b):=by rw [h]
theorem ret_int {k:IntKind} {a b:Int} (h:a=b):Ending.returned (.int k a) = .returned (.int k b):=by rw [h]
def Tr.inr (a lo hi:Int):Bool:=decide (lo≤a∧a≤hi)
theorem Tr.inr_true {a lo hi:Int} (h:Tr.inr a lo hi=true):lo≤a∧a≤hi:=by simpa [Tr.inr] using h
set_option maxHeartbeats 400000 in
theorem digit_any (b:UInt8) (w:World):Calls Tryz.prog 206 #[.int .u8 b.toNat] w fun e w'=>e = .returned (.bool (Sc.dig b))∧w'=w:=by
 by_cases h1:48≤(b.toNat:Int)
 all_goals by_cases h2:(b.toNat:Int)≤57
 all_goals
  go_enter Tryz.func206,Tryz.ntmps206
  go_wp2
  go_ret
  exact ⟨ret_bool (by simp [Sc.dig];omega),rfl⟩
set_option maxHeartbeats 400000 in
theorem begins_any (b:UInt8) (w:World):Calls Tryz.prog 207 #[.int .u8 b.toNat] w fun e w'=>e = .returned (.bool (Sc.beg b))∧w'=w:=by
 by_cases h1:97≤(b.toNat:Int)
 all_goals by_cases h2:(b.toNat:Int)≤122
 all_goals
  go_enter Tryz.func207,Tryz.ntmps207
  go_wp2
  go_ret
  exact ⟨ret_bool (Bool.eq_iff_iff.2 (by simp [Sc.beg];omega)),rfl⟩
set_option maxHeartbeats 400000 in
theorem letter_any (b:UInt8) (w:World):Calls Tryz.prog 209 #[.int .u8 b.toNat] w fun e w'=>e = .returned (.bool (Sc.nm b))∧w'=w:=by
 have hn:Sc.nm b=(Sc.beg b || Sc.dig b):=rfl
 rw [hn];clear hn
 cases hb:Sc.beg b
 all_goals
  go_enter Tryz.func209,Tryz.ntmps209
  go_wp2_with (first | (go_at_call 207;refine (begins_any _ _).mono ?_;rintro e w' ⟨rfl,rfl⟩) | (go_at_call 206;refine (digit_any _ _).mono ?_;rintro e w' ⟨rfl,rfl⟩))
  go_ret
  exact ⟨ret_bool (by simp),rfl⟩
def Lies (w:World) (b:Nat) (l:List (List UInt8)):Prop:=∀ i (h:i < l.length),w.cell? ⟨b,i,none⟩=some (.string ⟨(l[i]).toArray⟩)
theorem has_any (l:List (List UInt8)) (b:Nat) (s:ByteArray) (w:World) (hl:l.length≤1000) (hc:Lies w b l) :
  Calls Tryz.prog 181 #[.slice (some ⟨b,0,none⟩) l.length l.length,.string s] w fun e w'=>e = .returned (.bool (decide (s.data.toList∈l)))∧w'=w:=by
 go_enter Tryz.func181,Tryz.ntmps181
 go_wp2
 go_loop [5] (fun t=>∃ j:Nat,j≤l.length∧t = .int .i64 j∧∀ i (h:i < l.length),i < j→l[i]≠s.data.toList) (fun t=>l.length - (intOf t).toNat)
 case atStart=>exact ⟨0,Nat.zero_le _,rfl,fun i _ h=>by omega⟩
 case round =>
  obtain ⟨j,hj,rfl,he⟩:=hrel
  have HE:=hide he
  clear he
  by_cases hlt:j < l.length
  ·have hcj:=hc j hlt
   cases hq:(l[j] == s.toList)
   ·go_wp2
    go_round
    case rel =>
     refine ⟨j+1,by omega,by go_num,?_⟩
     intro i hi hij
     by_cases e:i=j
     ·subst e;rw [Lib.toList_data] at hq;simpa using hq
     ·exact HE.out i hi (by omega)
    case measure=>simp [intOf];omega
   ·go_wp2
    go_ret
    refine ⟨ret_bool ?_,rfl⟩
    rw [Lib.toList_data] at hq
    have e:l[j]=s.data.toList:=by simpa using hq
    rw [eq_comm,decide_eq_true_iff,← e]
    exact List.getElem_mem _
  ·go_wp2
   go_ret
   refine ⟨ret_bool ?_,rfl⟩
   rw [eq_comm,decide_eq_false_iff_not]
   intro hm
   obtain ⟨i,hi,e⟩:=List.getElem_of_mem hm
   exact HE.out i hi (by omega) e
theorem heap_alloc_new' (w:World) (o:Obj):(w.alloc o).heap[w.heap.size]?=some o:=(Go.MapKept.heap_alloc w o).1
theorem lies_lit (w:World) (t:TypeId) (l:List (List UInt8)):Lies (w.alloc (.cells (l.map fun x=>Value.string ⟨x.toArray⟩).toArray t)) w.heap.size l:=by
 intro i h
 rw [World.cell?,heap_alloc_new']
 simp [h]
set_option maxHeartbeats 400000 in
theorem words_any (w:World):Calls Tryz.prog 208 #[] w fun e w'=>e = .returned (.slice (some ⟨w.heap.size,0,none⟩) 17 17)∧Below w.heap.size w w'∧w.heap.size < w'.heap.size∧Lies w' w.heap.size Sc.words:=by
 go_enter Tryz.func208,Tryz.ntmps208
 go_wp2
 go_ret
 refine ⟨rfl,bA _,by simp,?_⟩
 exact lies_lit w 9 Sc.words
set_option maxHeartbeats 400000 in
theorem in_any (a lo hi:Int) (w:World):Calls Tryz.prog 85 #[.int .i64 a,.int .i64 lo,.int .i64 hi] w fun e w'=>e = .returned (.bool (Tr.inr a lo hi))∧w'=w:=by
 by_cases h1:lo≤a
 all_goals by_cases h2:a≤hi
 all_goals
  go_enter Tryz.func85,Tryz.ntmps85
  go_wp2
  go_ret
  exact ⟨ret_bool (by simp [Tr.inr,h1,h2]),rfl⟩
set_option maxHeartbeats 400000 in
theorem e_any (a:Int) (w:World):Calls Tryz.prog 179 #[.int .i64 a] w fun e w'=>e = .returned (.bool (Tr.inr a 1 16))∧w'=w:=by
 go_enter Tryz.func179,Tryz.ntmps179
 go_wp2_with (go_at_call 85;refine (in_any _ _ _ _).mono ?_;rintro e w' ⟨rfl,rfl⟩)
 go_ret
 exact ⟨rfl,rfl⟩
def Tr.pkgB (b:UInt8):Bool:=decide (97≤(b.toNat:Int)) && decide ((b.toNat:Int)≤122) || Sc.dig b || !((b.toNat:Int) != 95) || !((b.toNat:Int) != 45) || !((b.toNat:Int) != 46) || !((b.toNat:Int) != 47)
def Tr.allOf (p:UInt8→Bool):List UInt8→Bool
 | []=>true
 | b :: r=>p b && Tr.allOf p r
theorem Tr.allOf_cons (p:UInt8→Bool) (b:UInt8) (r:List UInt8):Tr.allOf p (b :: r)=(p b && Tr.allOf p r):=rfl
def Tr.pkgOk (s:ByteArray):Bool:=Tr.inr s.size 1 30 && Tr.allOf Tr.pkgB s.data.toList
def Tr.nameOk (s:ByteArray):Bool:=Tr.inr s.size 1 30 && (s.data.toList.head?.map Sc.beg == some true) && !decide (s.data.toList∈Sc.words) && Tr.allOf Sc.nm s.data.toList
set_option maxHeartbeats 1000000 in
theorem pkg_any (s:ByteArray) (w:World):Calls Tryz.prog 177 #[.string s] w fun e w'=>e = .returned (.bool (Tr.pkgOk s))∧w'=w:=by
 cases hi:Tr.inr s.size 1 30
 ·go_enter Tryz.func177,Tryz.ntmps177
  go_wp2_with (go_at_call 85;refine (in_any _ _ _ _).mono ?_;rintro e w' ⟨rfl,rfl⟩)
  go_ret
  exact ⟨ret_bool (by simp [Tr.pkgOk,hi]),rfl⟩
 ·obtain ⟨hs1,hs2⟩:=Tr.inr_true hi
  have hpk:Tr.pkgOk s=Tr.allOf Tr.pkgB s.data.toList:=by simp [Tr.pkgOk,hi]
  rw [hpk]
  clear hpk
  go_enter Tryz.func177,Tryz.ntmps177
  go_wp2_with (go_at_call 85;refine (in_any _ _ _ _).mono ?_;rintro e w' ⟨rfl,rfl⟩)
  go_loop [3] (fun t=>∃ j:Nat,j≤s.size∧t = .int .i64 j∧Tr.allOf Tr.pkgB s.data.toList=Tr.allOf Tr.pkgB (s.data.toList.drop j)) (fun t=>s.size - (intOf t).toNat)
  case atStart=>exact ⟨0,Nat.zero_le _,rfl,by simp⟩
  case round =>
   obtain ⟨j,hj,rfl,he⟩:=hrel
   have HE:=hide he
   clear he
   by_cases hlt:j < s.size
   ·have hd:=hide (Sc.drop_cons s j hlt)
    have hb:Tr.pkgB s[j]=(decide (97≤(s[j].toNat:Int)) && decide ((s[j].toNat:Int)≤122) || Sc.dig s[j] || !((s[j].toNat:Int) != 95) || !((s[j].toNat:Int) != 45) || !((s[j].toNat:Int) != 46) || !((s[j].toNat:Int) != 47)):=rfl
    have HB:=hide hb
    clear hb
    have fin:∀ b,Tr.pkgB s[j]=b→Tr.allOf Tr.pkgB s.data.toList=(b && Tr.allOf Tr.pkgB (s.data.toList.drop (j+1))):=by
     intro b e;rw [HE.out,hd.out,Tr.allOf_cons,e]
    have HF:=hide fin
    clear fin
    by_cases h1:97≤(s[j].toNat:Int)
    all_goals by_cases h2:(s[j].toNat:Int)≤122
    all_goals cases h3:Sc.dig s[j]
    all_goals cases h4:((s[j].toNat:Int) != 95)
    all_goals cases h5:((s[j].toNat:Int) != 45)
    all_goals cases h6:((s[j].toNat:Int) != 46)
    all_goals cases h7:((s[j].toNat:Int) != 47)
    all_goals first | (exfalso;have:=HB.out;simp [Sc.dig] at h3 h4 h5 h6 h7;omega) | skip
    all_goals
     have hq:=HB.out
     rw [h3,h4,h5,h6,h7] at hq
     simp [h1,h2] at hq
     have HQ:=hide (HF.out _ hq)
     clear hq
     go_wp2_with (go_at_call 206;refine (digit_any _ _).mono ?_;rintro e w' ⟨rfl,rfl⟩)
     first
     | (go_ret;exact ⟨ret_bool (by rw [HQ.out];rfl),rfl⟩)
     | (go_round
        case rel=>exact ⟨j+1,by omega,by go_num,by rw [HQ.out];rfl⟩
        case measure=>simp [intOf];omega)
   ·go_wp2
    go_ret
    refine ⟨ret_bool ?_,rfl⟩
    have e:=HE.out
    rw [List.drop_of_length_le (i:=j) (by simp;omega)] at e
    rw [e];rfl
theorem has_words (s:ByteArray) (w:World) (b:Nat) (hc:Lies w b Sc.words) :
  Calls Tryz.prog 181 #[.slice (some ⟨b,0,none⟩) 17 17,.string s] w fun e w'=>e = .returned (.bool (decide (s.data.toList∈Sc.words)))∧w'=w:=has_any Sc.words b s w (by decide) hc
set_option maxHeartbeats 1000000 in
theorem nameOk_any (s:ByteArray) (w:World):Calls Tryz.prog 178 #[.string s] w fun e w'=>e = .returned (.bool (Tr.nameOk s))∧Below w.heap.size w w':=by
 cases hi:Tr.inr s.size 1 30
 ·go_enter Tryz.func178,Tryz.ntmps178
  go_wp2_with (go_at_call 85;refine (in_any _ _ _ _).mono ?_;rintro e w' ⟨rfl,rfl⟩)
  go_ret
  exact ⟨ret_bool (by simp [Tr.nameOk,hi]),Below.refl _ _⟩
 ·obtain ⟨hs1,hs2⟩:=Tr.inr_true hi
  have hs0:0 < s.size:=by omega
  have hh:s.data.toList.head?=some s[0]:=by have:=Sc.drop_cons s 0 hs0;rw [List.drop_zero] at this;rw [this];rfl
  have hn:Tr.nameOk s=(Sc.beg s[0] && !decide (s.data.toList∈Sc.words) && Tr.allOf Sc.nm s.data.toList):=by simp [Tr.nameOk,hi,hh]
  rw [hn]
  clear hn hh
  cases hb:Sc.beg s[0]
  ·go_enter Tryz.func178,Tryz.ntmps178
   go_wp2_with (first | (go_at_call 85;refine (in_any _ _ _ _).mono ?_;rintro e w' ⟨rfl,rfl⟩) | (go_at_call 207;refine (begins_any _ _).mono ?_;rintro e w' ⟨rfl,rfl⟩))
   go_ret
   exact ⟨rfl,Below.refl _ _⟩
  ·cases hw:decide (s.data.toList∈Sc.words)
   ·go_enter Tryz.func178,Tryz.ntmps178
    go_wp2_with (first | (go_at_call 85;refine (in_any _ _ _ _).mono ?_;rintro e w' ⟨rfl,rfl⟩) | (go_at_call 207;refine (begins_any _ _).mono ?_;rintro e w' ⟨rfl,rfl⟩) | (go_at_call 208;refine (words_any _).mono ?_;rintro e w1 ⟨rfl,hbel,hz,hli⟩) | (go_at_call 181;refine (has_words s _ _ hli).mono ?_;rintro e w' ⟨rfl,rfl⟩))
    go_loop [3] (fun t=>∃ j:Nat,j≤s.size∧t = .int .i64 j∧Tr.allOf Sc.nm s.data.toList=Tr.allOf Sc.nm (s.data.toList.drop j)) (fun t=>s.size - (intOf t).toNat)
    case atStart=>exact ⟨0,Nat.zero_le _,rfl,by simp⟩
    case round =>
     obtain ⟨j,hj,rfl,he⟩:=hrel
     have HE:=hide he
     clear he
     by_cases hlt:j < s.size
     ·have hd:=hide (Sc.drop_cons s j hlt)
      cases hq:Sc.nm s[j]
      ·go_wp2_with (go_at_call 209;refine (letter_any _ _).mono ?_;rintro e w' ⟨rfl,rfl⟩)
       go_ret
       refine ⟨ret_bool ?_,hbel⟩
       rw [HE.out,hd.out,Tr.allOf_cons,hq];rfl
      ·go_wp2_with (go_at_call 209;refine (letter_any _ _).mono ?_;rintro e w' ⟨rfl,rfl⟩)
       go_round
       case rel=>exact ⟨j+1,by omega,by go_num,by rw [HE.out,hd.out,Tr.allOf_cons,hq];rfl⟩
       case measure=>simp [intOf];omega
     ·go_wp2
      go_ret
      refine ⟨ret_bool ?_,hbel⟩
      have e:=HE.out
      rw [List.drop_of_length_le (i:=j) (by simp;omega)] at e
      rw [e];rfl
   ·go_enter Tryz.func178,Tryz.ntmps178
    go_wp2_with (first | (go_at_call 85;refine (in_any _ _ _ _).mono ?_;rintro e w' ⟨rfl,rfl⟩) | (go_at_call 207;refine (begins_any _ _).mono ?_;rintro e w' ⟨rfl,rfl⟩) | (go_at_call 208;refine (words_any _).mono ?_;rintro e w1 ⟨rfl,hbel,hz,hli⟩) | (go_at_call 181;refine (has_words s _ _ hli).mono ?_;rintro e w' ⟨rfl,rfl⟩))
    go_ret
    exact ⟨rfl,hbel⟩
structure Tr.Nd where
 kind:Int
 op:Int
 n:Int
 text:ByteArray
 kids:Int
def Tr.Nd.cells (x:Tr.Nd):List Value:=[.int .i64 x.kind,.int .i64 x.op,.int .i64 x.n,.string x.text,.int .i64 x.kids]
def Tr.cellsOf (l:List Tr.Nd):List Value:=l.flatMap Tr.Nd.cells
def NodesAt (w:World) (g:Nat) (l:List Tr.Nd):Prop:=g < w.heap.size∧∀ i (h:i < l.length),w.cell? ⟨g,i*5,none⟩=some (.int .i64 l[i].kind)∧w.cell? ⟨g,i*5+1,none⟩=some (.int .i64 l[i].op)∧w.cell? ⟨g,i*5+2,none⟩=some (.int .i64 l[i].n)∧w.cell? ⟨g,i*5+3,none⟩=some (.string l[i].text)∧w.cell? ⟨g,i*5+4,none⟩=some (.int .i64 l[i].kids)
theorem NodesAt.below {w w':World} {g:Nat} {l:List Tr.Nd} (h:NodesAt w g l) (hb:Below w.heap.size w w'):NodesAt w' g l:=by
 refine ⟨Nat.lt_of_lt_of_le h.1 hb.size,fun i hi=>?_⟩
 obtain ⟨a,b,c,d,e⟩:=h.2 i hi
 exact ⟨(hb.cell (p:=⟨g,i*5,none⟩) h.1).trans a,(hb.cell (p:=⟨g,i*5+1,none⟩) h.1).trans b,(hb.cell (p:=⟨g,i*5+2,none⟩) h.1).trans c,(hb.cell (p:=⟨g,i*5+3,none⟩) h.1).trans d,(hb.cell (p:=⟨g,i*5+4,none⟩) h.1).trans e⟩
def IntsAt (w:World) (g o:Nat) (l:List Nat):Prop:=g < w.heap.size∧∀ j (h:j < l.length),w.cell? ⟨g,o+j,none⟩=some (.int .i64 l[j])
theorem IntsAt.below {w w':World} {g o:Nat} {l:List Nat} (h:IntsAt w g o l) (hb:Below w.heap.size w w'):IntsAt w' g o l :=
 ⟨Nat.lt_of_lt_of_le h.1 hb.size,fun j hj=>(hb.cell (p:=⟨g,o+j,none⟩) h.1).trans (h.2 j hj)⟩
theorem IntsAt.drop {w:World} {g o:Nat} {l:List Nat} (h:IntsAt w g o l) (k:Nat):IntsAt w g (o+k) (l.drop k) :=
 ⟨h.1,fun j hj=>by have:=h.2 (k+j) (by simp at hj;omega);rw [List.getElem_drop,← this,Nat.add_assoc]⟩
def Tr.textK (k:Int):Bool:=k == 4 || k == 5 || k == 11 || k == 14 || Tr.inr k 16 21 || k == 23
def Tr.plain (x:Tr.Nd):Bool :=
 if (!Tr.textK x.kind && !(x.text.toList == []) || (x.kind != 2 && x.kind != 3 && x.n != 0) || (x.kind != 6 && x.kind != 7 && x.op != 0))=true then false
 else if x.kind=2 then x.n == 0 || x.n == 1
 else if x.kind=3 then decide (0≤x.n)
 else if x.kind=4∨x.kind=17 then decide ((x.text.size:Int)≤1000)
 else if x.kind=6 then Tr.inr x.op 1 2
 else if x.kind=7 then Tr.inr x.op 1 14
 else if x.kind=23 then Tr.pkgOk x.text
 else !Tr.textK x.kind || Tr.nameOk x.text
theorem Tr.kinds (k:Int):k=2∨k=3∨k=4∨k=5∨k=11∨k=14∨k=6∨k=7∨k=17∨k=23∨(Tr.inr k 16 21=true∧k≠17)∨(Tr.textK k=false∧Tr.inr k 16 21=false∧k≠2∧k≠3∧k≠4∧k≠5∧k≠11∧k≠14∧k≠6∧k≠7∧k≠17∧k≠23):=by
 by_cases h:Tr.inr k 16 21=true
 ·by_cases h17:k=17
  ·simp [h17]
  ·simp [h,h17]
 ·simp [Tr.textK]
  simp at h
  simp [h]
  omega
end Go.Proofs.YthbojbbmpcmoaaaGreatDoor
