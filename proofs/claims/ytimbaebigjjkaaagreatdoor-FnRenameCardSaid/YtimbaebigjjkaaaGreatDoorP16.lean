/- Id, Ie, If, Hr, Hs, Ht, Hu. -/
import Derived.Test.YtimbaebigjjkaaaGreatDoorP15
import Derived.Test.YtimbaebigjjkaaaGreatDoorP14
import Derived.BigQuiet
namespace Go.Proofs.YtimbaebigjjkaaaGreatDoor
open Go.RowKit
theorem oneOut_shape (k:Nat) (r:Sc.R):∃ (kd:Int) (tx:ByteArray) (n a en cd:Int),oneOut k r = .tuple #[.agg #[.int .i64 kd,.string tx,.int .i64 n,.int .i64 a],.int .i64 en,.int .i64 cd]:=by
 unfold oneOut;split <;> exact ⟨_,_,_,_,_,_,rfl⟩
theorem Qx {B b:Nat} {w w1:World} {v0 v1 v2 v3:Value} (h:Below B w w1) (hb:B≤b):Below B w ((((w1.setCell ⟨b,0,none⟩ v0).setCell ⟨b,1,none⟩ v1).setCell ⟨b,2,none⟩ v2).setCell ⟨b,3,none⟩ v3) :=
 (((h.setCell (p:=⟨b,0,none⟩) hb _).setCell (p:=⟨b,1,none⟩) hb _).setCell (p:=⟨b,2,none⟩) hb _).setCell (p:=⟨b,3,none⟩) hb _
def Jg (l:List UInt8):Bool:=decide (l∈Sc.words)
theorem Jv (b:Nat) (s:ByteArray) (w:World) (t:List UInt8) (ht:s.data.toList=t) (hc:Lies w b Sc.words) :
  Calls Tryz.prog 24 #[.slice (some ⟨b,0,none⟩) 17 17,.string s] w fun e w'=>e = .returned (.bool (Jg t))∧w'=w:=by
 subst ht;exact has_any Sc.words b s w (by decide) hc
theorem ext_mk {x:ByteArray} {t:List UInt8} (h:x.data.toList=t):x=⟨t.toArray⟩:=by subst h;exact (Lib.mk_data x).symm
theorem bcell {W w1:World} (hb:Below W.heap.size W w1):(∀ b o,b < W.heap.size→w1.cell? ⟨b,o,none⟩=W.cell? ⟨b,o,none⟩)∧(∀ b o,b < W.heap.size→w1.frozen? ⟨b,o,none⟩=W.frozen? ⟨b,o,none⟩) :=
 ⟨fun b o h=>hb.cell (p:=⟨b,o,none⟩) h,fun b o h=>hb.frozen (p:=⟨b,o,none⟩) h⟩
theorem Sc.one_num (s:ByteArray) (k:Nat) (hk:k < s.size) (hd:Sc.dig s[k]=true):Sc.one (s.data.toList.drop k)=Sc.oneNum (s.data.toList.drop k):=by
 rw [Sc.drop_cons s k hk];simp only [Sc.one];rw [if_pos hd]
theorem Sc.one_name (s:ByteArray) (k:Nat) (hk:k < s.size) (hd:Sc.dig s[k]=false) (hb:Sc.beg s[k]=true):Sc.one (s.data.toList.drop k)=Sc.oneName (s.data.toList.drop k):=by
 rw [Sc.drop_cons s k hk];simp only [Sc.one];rw [if_neg (by simp [hd]),if_pos hb]
theorem Sc.one_text (s:ByteArray) (k:Nat) (hk:k < s.size) (hd:Sc.dig s[k]=false) (hb:Sc.beg s[k]=false) (hq:s[k].toNat=34):Sc.one (s.data.toList.drop k)=Sc.oneText (s.data.toList.drop k):=by
 rw [Sc.drop_cons s k hk];simp only [Sc.one];rw [if_neg (by simp [hd]),if_neg (by simp [hb]),if_pos hq]
theorem Sc.one_mark (s:ByteArray) (k:Nat) (hk:k < s.size) (hd:Sc.dig s[k]=false) (hb:Sc.beg s[k]=false) (hq:s[k].toNat≠34):Sc.one (s.data.toList.drop k)=Sc.oneMark (s.data.toList.drop k):=by
 rw [Sc.drop_cons s k hk];simp only [Sc.one];rw [if_neg (by simp [hd]),if_neg (by simp [hb]),if_neg hq]
set_option maxHeartbeats 1000000 in
theorem one_num (s:ByteArray) (k:Nat) (w:World) (hs:s.size≤1048576) (hk:k < s.size) (hd:Sc.dig s[k]=true) :
  Calls Tryz.prog 85 #[.string s,.int .i64 k] w fun e w'=>e = .returned (oneOut k (Sc.one (s.data.toList.drop k)))∧Below w.heap.size w w':=by
 rw [Sc.one_num s k hk hd]
 obtain ⟨kd,tx,n,a,en,cd,heq⟩:=oneOut_shape k (Sc.oneNum (s.data.toList.drop k))
 have hN:=fun w=>number_any s k k w hs hk rfl
 rw [heq] at hN ⊢
 clear heq
 have HN:=X1 hN
 clear hN
 go_enter Tryz.func85,Tryz.ntmps85
 go_wp2_with (first | (go_at_call 69;refine (Yi _ _).mono ?_;rintro e w' ⟨rfl,rfl⟩) | (go_at_call 98;refine (HN.o _).mono ?_;rintro e w1 ⟨rfl,hb⟩;obtain ⟨hc,hf⟩:=bcell hb))
 have hb0:Below w.heap.size w w1:=(bA _).trans (hb.mono (by simp))
 refine bodyPost_ret (v:= .tuple #[.agg #[.int .i64 kd,.string tx,.int .i64 n,.int .i64 a],.int .i64 en,.int .i64 cd]) (by simp [results,Tryz.results85,go_sem,hc]) rfl ⟨rfl,?_⟩
 exact Qx hb0 (Nat.le_refl _)
set_option maxHeartbeats 1000000 in
theorem one_text (s:ByteArray) (k:Nat) (w:World) (hs:s.size≤1048576) (hk:k < s.size) (hd:Sc.dig s[k]=false) (hbg:Sc.beg s[k]=false) (hq:((s[k].toNat:Int) == 34)=true) :
  Calls Tryz.prog 85 #[.string s,.int .i64 k] w fun e w'=>e = .returned (oneOut k (Sc.one (s.data.toList.drop k)))∧Below w.heap.size w w':=by
 rw [Sc.one_text s k hk hd hbg (by simp at hq;omega)]
 have b:(s.data.toList.drop k).tail=s.data.toList.drop (k+1):=by simp
 have ho:Sc.oneText (s.data.toList.drop k)=match Sc.unq (s.data.toList.drop (k+1)) with
  | none=>Sc.bad 4
  | some p=>if 1000 < p.1.length then Sc.bad 5 else ⟨0,4,p.1,0,p.2+1⟩:=by unfold Sc.oneText;rw [b];rfl
 have hU:=fun w=>unquote_any s k k w hs hk rfl
 cases hu:Sc.unq (s.data.toList.drop (k+1)) with
 | none =>
  rw [hu] at ho hU
  rw [ho]
  simp only [unqOut] at hU
  have HU:=X1 hU
  clear hU ho b hu
  go_enter Tryz.func85,Tryz.ntmps85
  go_wp2_with (first | (go_at_call 69;refine (Yi _ _).mono ?_;rintro e w' ⟨rfl,rfl⟩) | (go_at_call 43;refine (ZB _ _).mono ?_;rintro e w' ⟨rfl,rfl⟩) | (go_at_call 99;refine (HU.o _).mono ?_;rintro e w1 ⟨rfl,hb⟩;obtain ⟨hc,hf⟩:=bcell hb))
  have a:Below w.heap.size w w1:=(bA _).trans (hb.mono (by simp))
  refine bodyPost_ret (v:= .tuple #[.agg #[.int .i64 0,.string ⟨#[]⟩,.int .i64 0,.int .i64 0],.int .i64 0,.int .i64 4]) (by simp [results,Tryz.results85,go_sem,hc]) rfl ⟨by rw [oneOut_bad rfl (by decide)];rfl,?_⟩
  exact Qx a (Nat.le_refl _)
 | some p =>
  rw [hu] at ho hU
  simp only at ho
  simp only [unqOut] at hU
  have HU:=X1 hU
  have hus:=X1 (Sc.unq_size _ p.1 p.2 hu)
  clear hU b hu
  by_cases hlong:1000 < p.1.length
  ·rw [if_pos hlong] at ho
   rw [ho]
   clear ho
   go_enter Tryz.func85,Tryz.ntmps85
   go_wp2_with (first | (go_at_call 69;refine (Yi _ _).mono ?_;rintro e w' ⟨rfl,rfl⟩) | (go_at_call 43;refine (ZB _ _).mono ?_;rintro e w' ⟨rfl,rfl⟩) | (go_at_call 99;refine (HU.o _).mono ?_;rintro e w1 ⟨rfl,hb⟩;obtain ⟨hc,hf⟩:=bcell hb))
   have a:Below w.heap.size w w1:=(bA _).trans (hb.mono (by simp))
   refine bodyPost_ret (v:= .tuple #[.agg #[.int .i64 0,.string ⟨#[]⟩,.int .i64 0,.int .i64 0],.int .i64 0,.int .i64 5]) (by simp [results,Tryz.results85,go_sem,hc]) rfl ⟨by rw [oneOut_bad rfl (by decide)];rfl,?_⟩
   exact Qx a (Nat.le_refl _)
  ·rw [if_neg hlong] at ho
   rw [ho]
   clear ho
   go_enter Tryz.func85,Tryz.ntmps85
   go_wp2_with (first | (go_at_call 69;refine (Yi _ _).mono ?_;rintro e w' ⟨rfl,rfl⟩) | (go_at_call 43;refine (ZB _ _).mono ?_;rintro e w' ⟨rfl,rfl⟩) | (go_at_call 99;refine (HU.o _).mono ?_;rintro e w1 ⟨rfl,hb⟩;obtain ⟨hc,hf⟩:=bcell hb))
   have a:Below w.heap.size w w1:=(bA _).trans (hb.mono (by simp))
   refine bodyPost_ret (v:= .tuple #[.agg #[.int .i64 4,.string ⟨p.1.toArray⟩,.int .i64 0,.int .i64 k],.int .i64 ((k:Int)+1+p.2),.int .i64 0]) (by simp [results,Tryz.results85,go_sem,hc]) rfl ⟨by rw [oneOut_good rfl];simp;omega,?_⟩
   exact Qx a (Nat.le_refl _)
theorem U2 (p:UInt8→Bool) (l:List UInt8):l.take (l.takeWhile p).length=l.takeWhile p:=by
 induction l with
 | nil=>rfl
 | cons x r ih=>simp only [List.takeWhile_cons];split <;> simp [ih]
set_option maxRecDepth 100000 in
set_option maxHeartbeats 1000000 in
theorem one_name (s:ByteArray) (k:Nat) (w:World) (hs:s.size≤1048576) (hk:k < s.size) (hd:Sc.dig s[k]=false) (hbg:Sc.beg s[k]=true) :
  Calls Tryz.prog 85 #[.string s,.int .i64 k] w fun e w'=>e = .returned (oneOut k (Sc.one (s.data.toList.drop k)))∧Below w.heap.size w w':=by
 rw [Sc.one_name s k hk hd hbg]
 go_enter Tryz.func85,Tryz.ntmps85
 go_wp2_with (first | (go_at_call 69;refine (Yi _ _).mono ?_;rintro e w' ⟨rfl,rfl⟩) | (go_at_call 43;refine (ZB _ _).mono ?_;rintro e w' ⟨rfl,rfl⟩))
 go_loop [7] (fun t=>∃ j:Nat,k≤j∧j≤s.size∧t = .int .i64 j∧j+((s.data.toList.drop j).takeWhile Sc.nm).length=k+((s.data.toList.drop k).takeWhile Sc.nm).length) (fun t=>s.size - (intOf t).toNat)
 case atStart=>exact ⟨k,Nat.le_refl _,by omega,rfl,rfl⟩
 case round =>
  obtain ⟨j,hkj,hj,rfl,he⟩:=hrel
  have HE:=X1 he
  clear he
  by_cases hgo:∃ h:j < s.size,Sc.nm s[j]=true
  ·obtain ⟨a,hn⟩:=hgo
   have hdj:=X1 (Sc.drop_cons s j a)
   go_wp2_with (go_at_call 45;refine (Yv _ _).mono ?_;rintro e w' ⟨rfl,rfl⟩)
   go_round
   case rel =>
    refine ⟨j+1,by omega,by omega,by go_num,?_⟩
    have e:=HE.o
    rw [hdj.o,Sc.takeWhile_cons_pos hn] at e
    omega
   case measure=>simp [intOf];omega
  ·have he:((s.data.toList.drop j).takeWhile Sc.nm).length=0:=by
    by_cases a:j < s.size
    ·have hn:Sc.nm s[j]=false:=by cases h:Sc.nm s[j] <;> simp_all
     rw [Sc.drop_cons s j a,Sc.takeWhile_cons_neg hn]
    ·rw [List.drop_of_length_le (i:=j) (by simp;omega)];rfl
   have hx:(s.extract k j).data.toList=(s.data.toList.drop k).takeWhile Sc.nm:=by
    have e:=HE.o
    rw [Lib.extract_data,show j - k=((s.data.toList.drop k).takeWhile Sc.nm).length from by omega,U2]
   have hjk:j=k+((s.data.toList.drop k).takeWhile Sc.nm).length:=by have e:=HE.o;omega
   have HX:=X1 hx
   have HJ:=X1 hjk
   clear he hx hjk
   have d:(∃ h:j < s.size,Sc.nm s[j]=false)∨¬ j < s.size:=by
    by_cases a:j < s.size
    ·left;refine ⟨a,?_⟩;cases h:Sc.nm s[j] <;> simp_all
    ·exact .inr a
   clear hgo
   have a0:(s.extract k j).size=j - k:=by simp;omega
   have HL:=X1 a0
   clear a0
   cases hw:Jg ((s.data.toList.drop k).takeWhile Sc.nm)
   ·have c:¬ (s.data.toList.drop k).takeWhile Sc.nm∈Sc.words:=by simpa [Jg] using hw
    by_cases hl:30 < j - k
    ·have HO:Hid (Sc.oneName (s.data.toList.drop k)=Sc.bad 5):=X1 (by have e:=HJ.o;unfold Sc.oneName;rw [if_neg c,if_pos (by omega)])
     clear c
     rcases d with ⟨a,hn⟩ | a
     all_goals
      go_wp2_with (first | (go_at_call 45;refine (Yv _ _).mono ?_;rintro e w' ⟨rfl,rfl⟩) | (go_at_call 44;refine (Ql _).mono ?_;rintro e w1 ⟨rfl,hb,hz,b⟩;obtain ⟨hc,hf⟩:=bcell hb;rw [World.size_alloc] at b) | (go_at_call 24;refine (Jv (w.heap.size+1) _ _ _ HX.o b).mono ?_;rintro e w1 ⟨rfl,rfl⟩))
      have f:Below w.heap.size w w1:=(bA _).trans (hb.mono (by simp))
      refine bodyPost_ret (v:= .tuple #[.agg #[.int .i64 0,.string ⟨#[]⟩,.int .i64 0,.int .i64 0],.int .i64 0,.int .i64 5]) (by simp [results,Tryz.results85,go_sem,hc]) rfl ⟨by rw [oneOut_bad HO.o (by decide)];rfl,?_⟩
      exact Qx f (Nat.le_refl _)
    ·have HO:Hid (Sc.oneName (s.data.toList.drop k)=⟨0,1,(s.data.toList.drop k).takeWhile Sc.nm,0,j - k⟩):=X1 (by have e:=HJ.o;unfold Sc.oneName;rw [if_neg c,if_neg (by omega),show ((s.data.toList.drop k).takeWhile Sc.nm).length=j - k from by omega])
     clear c
     rcases d with ⟨a,hn⟩ | a
     all_goals
      go_wp2_with (first | (go_at_call 45;refine (Yv _ _).mono ?_;rintro e w' ⟨rfl,rfl⟩) | (go_at_call 44;refine (Ql _).mono ?_;rintro e w1 ⟨rfl,hb,hz,b⟩;obtain ⟨hc,hf⟩:=bcell hb;rw [World.size_alloc] at b) | (go_at_call 24;refine (Jv (w.heap.size+1) _ _ _ HX.o b).mono ?_;rintro e w1 ⟨rfl,rfl⟩))
      have f:Below w.heap.size w w1:=(bA _).trans (hb.mono (by simp))
      refine bodyPost_ret (v:= .tuple #[.agg #[.int .i64 1,.string (s.extract k j),.int .i64 0,.int .i64 k],.int .i64 j,.int .i64 0]) (by simp [results,Tryz.results85,go_sem,hc]) rfl ⟨by rw [oneOut_good HO.o,ext_mk HX.o,show (k:Int)+(j - k:Nat)=j from by omega];rfl,?_⟩
      exact Qx f (Nat.le_refl _)
   ·have c:(s.data.toList.drop k).takeWhile Sc.nm∈Sc.words:=by simpa [Jg] using hw
    have HO:Hid (Sc.oneName (s.data.toList.drop k)=⟨0,2,(s.data.toList.drop k).takeWhile Sc.nm,0,j - k⟩):=X1 (by have e:=HJ.o;unfold Sc.oneName;rw [if_pos c,show ((s.data.toList.drop k).takeWhile Sc.nm).length=j - k from by omega])
    clear c
    rcases d with ⟨a,hn⟩ | a
    all_goals
      go_wp2_with (first | (go_at_call 45;refine (Yv _ _).mono ?_;rintro e w' ⟨rfl,rfl⟩) | (go_at_call 44;refine (Ql _).mono ?_;rintro e w1 ⟨rfl,hb,hz,b⟩;obtain ⟨hc,hf⟩:=bcell hb;rw [World.size_alloc] at b) | (go_at_call 24;refine (Jv (w.heap.size+1) _ _ _ HX.o b).mono ?_;rintro e w1 ⟨rfl,rfl⟩))
      have f:Below w.heap.size w w1:=(bA _).trans (hb.mono (by simp))
      refine bodyPost_ret (v:= .tuple #[.agg #[.int .i64 2,.string (s.extract k j),.int .i64 0,.int .i64 k],.int .i64 j,.int .i64 0]) (by simp [results,Tryz.results85,go_sem,hc]) rfl ⟨by rw [oneOut_good HO.o,ext_mk HX.o,show (k:Int)+(j - k:Nat)=j from by omega];rfl,?_⟩
      exact Qx f (Nat.le_refl _)
theorem Sc.pre_eq (s:ByteArray) (k:Nat) (m:List UInt8):m.isPrefixOf (s.data.toList.drop k)=((s.extract k (k+m.length)).toList == m):=by
 rw [Lib.extract_toList,show k+m.length - k=m.length from by omega,Bool.eq_iff_iff,List.isPrefixOf_iff_prefix,List.prefix_iff_eq_take,beq_iff_eq]
 exact ⟨fun h=>h.symm,fun h=>h.symm⟩
theorem Sc.pre_long (s:ByteArray) (k:Nat) (m:List UInt8) (h1:1≤m.length) (h:¬ k+m.length≤s.size):m.isPrefixOf (s.data.toList.drop k)=false:=by
 rw [Bool.eq_false_iff]
 intro hp
 have:=(List.isPrefixOf_iff_prefix.1 hp).length_le
 simp at this
 omega
theorem Sc.mark_hit (l:List UInt8) (i:Nat) (hi:i < Sc.marks.length) (h1:∀ (j:Nat) (h:j < Sc.marks.length),j < i→(Sc.marks[j]).isPrefixOf l=false) (h2:(Sc.marks[i]).isPrefixOf l=true) :
  Sc.oneMark l=⟨0,5,Sc.marks[i],0,(Sc.marks[i]).length⟩:=by
 have:Sc.marks.find? (fun m=>m.isPrefixOf l)=some Sc.marks[i]:=by
  rw [List.find?_eq_some_iff_getElem]
  exact ⟨h2,i,hi,rfl,fun j hj=>by simp [h1 j (by omega) hj]⟩
 unfold Sc.oneMark;rw [this]
theorem Sc.mark_none (l:List UInt8) (h1:∀ (j:Nat) (h:j < Sc.marks.length),j < 23→(Sc.marks[j]).isPrefixOf l=false):Sc.oneMark l=Sc.bad 2:=by
 have:Sc.marks.find? (fun m=>m.isPrefixOf l)=none:=by
  rw [List.find?_eq_none]
  intro x hx
  obtain ⟨j,hj,rfl⟩:=List.getElem_of_mem hx
  simp [h1 j hj hj]
 unfold Sc.oneMark;rw [this]
set_option maxRecDepth 100000 in
set_option maxHeartbeats 1000000 in
theorem one_mark (s:ByteArray) (k:Nat) (w:World) (hs:s.size≤1048576) (hk:k < s.size) (hd:Sc.dig s[k]=false) (hbg:Sc.beg s[k]=false) (hq:((s[k].toNat:Int) == 34)=false) :
  Calls Tryz.prog 85 #[.string s,.int .i64 k] w fun e w'=>e = .returned (oneOut k (Sc.one (s.data.toList.drop k)))∧Below w.heap.size w w':=by
 rw [Sc.one_mark s k hk hd hbg (by simp at hq;omega)]
 go_enter Tryz.func85,Tryz.ntmps85
 go_wp2_with (first | (go_at_call 69;refine (Yi _ _).mono ?_;rintro e w' ⟨rfl,rfl⟩) | (go_at_call 43;refine (ZB _ _).mono ?_;rintro e w' ⟨rfl,rfl⟩) | (go_at_call 100;refine (marks_any _).mono ?_;rintro e w1 ⟨rfl,hb,hz,b⟩;obtain ⟨hc,hf⟩:=bcell hb;rw [World.size_alloc] at b hz))
 have HLI:=X1 b
 clear b
 go_loop [13] (fun t=>∃ i:Nat,i≤23∧t = .int .i64 i∧∀ (j:Nat) (h:j < Sc.marks.length),j < i→(Sc.marks[j]).isPrefixOf (s.data.toList.drop k)=false) (fun t=>23 - (intOf t).toNat)
 case atStart=>exact ⟨0,by omega,rfl,fun j _ h=>by omega⟩
 case round =>
  obtain ⟨i,hi,rfl,he⟩:=hrel
  have HE:=X1 he
  clear he
  by_cases hlt:i < 23
  ·have hci:=HLI.o i hlt
   have hmp:=Sc.marks_pos Sc.marks[i] (List.getElem_mem _)
   obtain ⟨m,hm⟩:∃ m,m=Sc.marks[i]:=⟨_,rfl⟩
   rw [← hm] at hci hmp
   have HM:=X1 hm
   clear hm
   obtain ⟨hm1,hm2⟩:=hmp
   by_cases hsz:k+m.length≤s.size
   ·cases hp:((s.extract k (k+m.length)).toList == m)
    ·have HP:Hid (m.isPrefixOf (s.data.toList.drop k)=false):=X1 ((Sc.pre_eq s k m).trans hp)
     go_wp2
     go_round
     case rel =>
      refine ⟨i+1,by omega,by go_num,?_⟩
      intro j hj hji
      by_cases e:j=i
      ·subst e;have h:=HP.o;rw [HM.o] at h;exact h
      ·exact HE.o j hj (by omega)
     case measure=>simp [intOf];omega
    ·have HO:Hid (Sc.oneMark (s.data.toList.drop k)=⟨0,5,m,0,m.length⟩):=X1 (by have h:=HM.o;rw [h];exact Sc.mark_hit _ i hlt HE.o (by rw [← h];exact (Sc.pre_eq s k m).trans hp))
     go_wp2
     have a:Below w.heap.size w w1:=(bA _).trans (hb.mono (by simp))
     refine bodyPost_ret (v:= .tuple #[.agg #[.int .i64 5,.string ⟨m.toArray⟩,.int .i64 0,.int .i64 k],.int .i64 ((k:Int)+m.length),.int .i64 0]) (by simp [results,Tryz.results85,go_sem,hc]) rfl ⟨by rw [oneOut_good HO.o];rfl,?_⟩
     exact Qx a (Nat.le_refl _)
   ·have HP:Hid (m.isPrefixOf (s.data.toList.drop k)=false):=X1 (Sc.pre_long s k m hm1 hsz)
    go_wp2
    go_round
    case rel =>
     refine ⟨i+1,by omega,by go_num,?_⟩
     intro j hj hji
     by_cases e:j=i
     ·subst e;have h:=HP.o;rw [HM.o] at h;exact h
     ·exact HE.o j hj (by omega)
    case measure=>simp [intOf];omega
  ·have HO:Hid (Sc.oneMark (s.data.toList.drop k)=Sc.bad 2):=X1 (Sc.mark_none _ (fun j h hj=>HE.o j h (by omega)))
   go_wp2
   have a:Below w.heap.size w w1:=(bA _).trans (hb.mono (by simp))
   refine bodyPost_ret (v:= .tuple #[.agg #[.int .i64 0,.string ⟨#[]⟩,.int .i64 0,.int .i64 0],.int .i64 0,.int .i64 2]) (by simp [results,Tryz.results85,go_sem,hc]) rfl ⟨by rw [oneOut_bad HO.o (by decide)];rfl,?_⟩
   exact Qx a (Nat.le_refl _)
theorem one_any (s:ByteArray) (k:Nat) (a:Int) (w:World) (hs:s.size≤1048576) (hk:k < s.size) (ha:a=(k:Int)) :
  Calls Tryz.prog 85 #[.string s,.int .i64 a] w fun e w'=>e = .returned (oneOut k (Sc.one (s.data.toList.drop k)))∧Below w.heap.size w w':=by
 subst ha
 cases hd:Sc.dig s[k]
 ·cases hb:Sc.beg s[k]
  ·cases hq:((s[k].toNat:Int) == 34)
   ·exact one_mark s k w hs hk hd hb hq
   ·exact one_text s k w hs hk hd hb hq
  ·exact one_name s k w hs hk hd hb
 ·exact one_num s k w hs hk hd
def Sc.T.cells (x:Sc.T):List Value:=[.int .i64 x.kind,.string ⟨x.text.toArray⟩,.int .i64 x.n,.int .i64 x.place]
def YL (l:List Sc.T):List Value:=l.flatMap Sc.T.cells
theorem Sc.cellsOf_snoc (l:List Sc.T) (x:Sc.T):YL (l++[x])=YL l++x.cells:=by simp [YL]
theorem Tryz.infoS33:(Tryz.prog.info? 132).map (fun i=>(i.zero,i.size,i.bytes))=some (some (.agg #[.int .i64 0,.string ⟨#[]⟩,.int .i64 0,.int .i64 0]),4,40):=by kernel_rfl
def Zt (s:ByteArray):List Sc.T:=if 8000 < s.size then [] else if (Sc.from_ s.data.toList 0).2.1=0 then (Sc.from_ s.data.toList 0).1 else []
def YK (s:ByteArray):Nat:=if 8000 < s.size then 1 else (Sc.from_ s.data.toList 0).2.1
def YR (s:ByteArray):Nat:=if 8000 < s.size then 0 else (Sc.from_ s.data.toList 0).2.2
theorem cells_new (w:World) (cs:List Value) (t:TypeId) (j:Nat) (u:Value) (h:cs[j]?=some u):(w.alloc (.cells cs.toArray t)).cell? ((⟨w.heap.size,0,none⟩:Addr).add j)=some u:=by
 have e:((⟨w.heap.size,0,none⟩:Addr).add j)=⟨w.heap.size,j,none⟩:=by simp [Addr.add];exact fun h=>h.symm
 rw [e,World.cell?,Xi]
 simpa using h
theorem size_setCell' (w:World) (a:Addr) (v:Value):(w.setCell a v).heap.size=w.heap.size:=by simp [World.setCell]
theorem app2_step {w wr w1:World} {base:Nat} {o1 o2:Obj} {v:Value} {n:Nat} {xs:List Value} (hown:wr.ownsRow base 132 4 v n xs) (hB:Below base w wr) (hs:base≤wr.heap.size)
  (hg:((wr.alloc o1).alloc o2).grownBy w1 v.ownBlock):Below base w w1 :=
 ((hB.alloc hs _).alloc (by simp;omega) _).grown hg (by simp;omega) (fun k e=>(hown.lt k e).1)
theorem code_big {s:ByteArray} (h:8000 < s.size):YK s=1∧YR s=0∧Zt s=[]:=by simp [YK,YR,Zt,h]
theorem code_small {s:ByteArray} (h:¬ 8000 < s.size):YK s=(Sc.from_ s.data.toList 0).2.1∧YR s=(Sc.from_ s.data.toList 0).2.2∧Zt s=if (Sc.from_ s.data.toList 0).2.1=0 then (Sc.from_ s.data.toList 0).1 else []:=by simp [YK,YR,Zt,h]
theorem fin_ok {s:ByteArray} {ts:List Sc.T} {k:Nat} (h:YK s=(Sc.from_ s.data.toList 0).2.1∧YR s=(Sc.from_ s.data.toList 0).2.2∧Zt s=if (Sc.from_ s.data.toList 0).2.1=0 then (Sc.from_ s.data.toList 0).1 else [])
  (he:Sc.from_ s.data.toList 0=(ts++(Sc.from_ s.data.toList k).1,(Sc.from_ s.data.toList k).2)) (hf:Sc.from_ s.data.toList k=([],0,0)):YK s=0∧YR s=0∧Zt s=ts:=by
 rw [he,hf] at h;simpa using h
theorem fin_bad {s:ByteArray} {ts:List Sc.T} {k c:Nat} (h:YK s=(Sc.from_ s.data.toList 0).2.1∧YR s=(Sc.from_ s.data.toList 0).2.2∧Zt s=if (Sc.from_ s.data.toList 0).2.1=0 then (Sc.from_ s.data.toList 0).1 else [])
  (he:Sc.from_ s.data.toList 0=(ts++(Sc.from_ s.data.toList k).1,(Sc.from_ s.data.toList k).2)) (hf:Sc.from_ s.data.toList k=([],c,k)) (hc:c≠0):YK s=c∧YR s=k∧Zt s=[]:=by
 rw [he,hf] at h;simpa [hc] using h
set_option maxRecDepth 100000 in
set_option maxHeartbeats 1000000 in
theorem sscan_any (s:ByteArray) (w:World) (hs:s.size≤1048576) :
  Calls Tryz.prog 58 #[.string s] w fun e w'=>∃ v,e = .returned (.tuple #[v,.agg #[.int .i64 (YK s),.int .i64 (YR s)]])∧w'.ownsRow w.heap.size 132 4 v (Zt s).length (YL (Zt s))∧Below w.heap.size w w':=by
 obtain ⟨i0,hi,hz0,hz1,hz2⟩:=info_parts Tryz.infoS33
 by_cases hbig:8000 < s.size
 ·obtain ⟨c1,c2,c3⟩:=code_big hbig
  rw [c1,c2,c3]
  clear c1 c2 c3
  go_enter Tryz.func58,Tryz.ntmps58
  go_wp2
  refine bodyPost_ret (v:= .tuple #[.slice (some ⟨w.heap.size+1,0,none⟩) 0 0,.agg #[.int .i64 1,.int .i64 0]]) (by simp [results,Tryz.results58,go_sem]) rfl ⟨_,rfl,?_,?_⟩
  ·have:=World.ownsRow_lit (base:=w.heap.size) (e:=132) (size:=4) (w.alloc (.cells #[.int .i64 1,.int .i64 0] 37)) #[] 0 (by simp) (Nat.zero_le _) rfl
   rw [World.size_alloc] at this
   exact this
  ·exact (bA _).alloc (by simp) _
 ·have h0:=fun w=>gap_any s 0 0 w hs (Nat.zero_le _) rfl
  have H0:=X1 h0
  clear h0
  have hg0:=X1 (Sc.gapLen_le false s.data.toList)
  have HC:=X1 (code_small hbig)
  go_enter Tryz.func58,Tryz.ntmps58
  go_wp2_with (go_at_call 84;refine (H0.o _).mono ?_;rintro e w' ⟨rfl,rfl⟩)
  go_loopw [4,5] (fun v t wr=>∃ (k:Nat) (ts:List Sc.T),k≤s.size∧t = .int .i64 k∧Sc.gapLen false (s.data.toList.drop k)=0∧wr.ownsRow (w.heap.size+1) 132 4 v ts.length (YL ts)∧Below w.heap.size w wr∧w.heap.size < wr.heap.size ∧
    wr.cell? ⟨w.heap.size,0,none⟩=some (.int .i64 0)∧wr.cell? ⟨w.heap.size,1,none⟩=some (.int .i64 0)∧wr.frozen? ⟨w.heap.size,0,none⟩=false∧wr.frozen? ⟨w.heap.size,1,none⟩=false∧ts.length≤k ∧
    Sc.from_ s.data.toList 0=(ts++(Sc.from_ s.data.toList k).1,(Sc.from_ s.data.toList k).2)) (fun _ t _=>s.size - (intOf t).toNat)
  case atStart =>
   have hg:=hg0.o
   refine ⟨Sc.gapLen false s.data.toList,[],by simpa using hg,rfl,Sc.gap_gap _ _,?_,?_,by simp;omega,by simp,by simp,by simp,by simp,Nat.zero_le _,?_⟩
   ·have:=World.ownsRow_lit (base:=w.heap.size+1) (e:=132) (size:=4) (w.alloc (.cells #[.int .i64 0,.int .i64 0] 37)) #[] 0 (by simp) (Nat.zero_le _) rfl
    rw [World.size_alloc] at this
    exact this
   ·exact (bA _).alloc (by simp) _
   ·have:=Sc.from_gap s.data.toList 0 (by simpa using Sc.gap_gap false s.data.toList)
    simp only [List.drop_zero,Nat.zero_add] at this
    rw [← this];simp
  case round =>
   obtain ⟨k,ts,hk,rfl,hgk,f,hB,a,l,i,hf0,hf1,hlen,he⟩:=hrel
   have HE:=X1 he
   have HG:=X1 hgk
   clear he hgk
   by_cases hlt:k < s.size
   ·have hO:=fun w=>one_any s k k w hs hlt rfl
    by_cases hcode:(Sc.one (s.data.toList.drop k)).code=0
    ·have hsz:=Sc.one_size _ hcode
     have d:=Sc.from_tok s.data.toList k (by simpa using hlt) HG.o hcode
     have e:oneOut k (Sc.one (s.data.toList.drop k)) = .tuple #[.agg #[.int .i64 (Sc.one (s.data.toList.drop k)).kind,.string ⟨(Sc.one (s.data.toList.drop k)).text.toArray⟩,.int .i64 (Sc.one (s.data.toList.drop k)).n,.int .i64 k],.int .i64 ((k:Int)+(Sc.one (s.data.toList.drop k)).size),.int .i64 0]:=by
      unfold oneOut;rw [if_pos hcode]
     rw [e] at hO
     clear e hcode
     generalize Sc.one (s.data.toList.drop k)=r at *
     have HO:=X1 hO
     have m:=X1 d
     obtain ⟨hsz1,a1⟩:=hsz
     simp only [List.length_drop,Array.length_toList] at a1
     have a3:k+r.size≤s.size:=by have:s.data.size=s.size:=rfl;omega
     clear hO d a1
     go_wp2_with (first
      | (go_at_call 85;refine (HO.o _).mono ?_;rintro e w1 ⟨rfl,hb⟩;obtain ⟨hc,hf⟩:=bcell hb;have a2:w.heap.size < w1.heap.size:=Nat.lt_of_lt_of_le a hb.size;have b:=row_below f hb)
      | (at_builtin;refine wpList_append_own _ rfl _ _ 99 rfl (w.heap.size+1) 132 i0 (.agg #[.int .i64 0,.string ⟨#[]⟩,.int .i64 0,.int .i64 0]) 4 40 Tryz.underlying99 hi hz0 hz1 hz2 rfl (by decide) _ _ _ rfl ((b.alloc _).alloc _) ⟨w1.heap.size+1,0,none⟩ 1 1 [.int .i64 r.kind,.string ⟨r.text.toArray⟩,.int .i64 r.n,.int .i64 k] rfl rfl ?_ ?_ ?_ ?_ ?_ ?_))
     ·intro j u h
      have:=cells_new (w1.alloc (.cells #[.int .i64 r.kind,.string ⟨r.text.toArray⟩,.int .i64 r.n,.int .i64 k] 132)) _ 132 j u h
      rw [World.size_alloc] at this
      exact this
     ·simp [Value.oneCell']
     ·unfold maxLen;omega
     ·omega
     ·simp;omega
     ·intro v' w2 a0 c _
      have hB2:Below w.heap.size w w2:=((app2_step b ((Below.refl _ _)) (by omega) c).mono (by omega)) |> fun h=>(hB.trans (hb.mono (by omega))).trans h
      have a4:w.heap.size < w2.heap.size:=by have:=c.size;simp at this;omega
      have g:Below (w.heap.size+1) w1 w2:=app2_step b ((Below.refl _ _)) (by omega) c
      have q0:w2.cell? ⟨w.heap.size,0,none⟩=some (.int .i64 0):=(g.cell (p:=⟨w.heap.size,0,none⟩) (Nat.lt_succ_self _)).trans ((hc _ _ a).trans l)
      have q1:w2.cell? ⟨w.heap.size,1,none⟩=some (.int .i64 0):=(g.cell (p:=⟨w.heap.size,1,none⟩) (Nat.lt_succ_self _)).trans ((hc _ _ a).trans i)
      have q2:w2.frozen? ⟨w.heap.size,0,none⟩=false:=(g.frozen (p:=⟨w.heap.size,0,none⟩) (Nat.lt_succ_self _)).trans ((hf _ _ a).trans hf0)
      have q3:w2.frozen? ⟨w.heap.size,1,none⟩=false:=(g.frozen (p:=⟨w.heap.size,1,none⟩) (Nat.lt_succ_self _)).trans ((hf _ _ a).trans hf1)
      clear c g hc hf l i hf0 hf1 f b
      go_wp2_with (go_at_call 84;refine (gap_any s (k+r.size) _ _ hs a3 (by omega)).mono ?_;rintro e w3 ⟨rfl,rfl⟩)
      go_roundw
      case rel =>
       have hgl:=Sc.gapLen_le false (s.data.toList.drop (k+r.size))
       have hgg:Sc.gapLen false (s.data.toList.drop (k+r.size+Sc.gapLen false (s.data.toList.drop (k+r.size))))=0:=by have:=Sc.gap_gap false (s.data.toList.drop (k+r.size));rwa [List.drop_drop] at this
       simp only [List.length_drop,Array.length_toList] at hgl
       have hds:s.data.size=s.size:=rfl
       refine ⟨k+r.size+Sc.gapLen false (s.data.toList.drop (k+r.size)),ts++[⟨r.kind,r.text,r.n,k⟩],by omega,by go_num,hgg,?_,hB2,a4,q0,q1,q2,q3,by simp;omega,?_⟩
       ·rw [Sc.cellsOf_snoc,List.length_append];exact a0
       ·rw [HE.o,m.o,← Sc.from_gap s.data.toList (k+r.size) hgg];simp
      case measure=>simp [intOf];omega
    ·have d:=Sc.from_bad s.data.toList k (by simpa using hlt) HG.o hcode
     have e:oneOut k (Sc.one (s.data.toList.drop k)) = .tuple #[.agg #[.int .i64 0,.string ⟨#[]⟩,.int .i64 0,.int .i64 0],.int .i64 0,.int .i64 (Sc.one (s.data.toList.drop k)).code]:=by
      unfold oneOut;rw [if_neg hcode]
     rw [e] at hO
     have hcb:(((Sc.one (s.data.toList.drop k)).code:Int) != 0)=true:=by simp [hcode]
     clear e
     generalize Sc.one (s.data.toList.drop k)=r at *
     have HO:=X1 hO
     have m:=X1 d
     have HCD:=X1 hcode
     clear hO d hcode
     go_wp2_with (go_at_call 85;refine (HO.o _).mono ?_;rintro e w1 ⟨rfl,hb⟩;obtain ⟨hc,hf⟩:=bcell hb;have a2:w.heap.size < w1.heap.size:=Nat.lt_of_lt_of_le a hb.size)
     refine bodyPost_ret (v:= .tuple #[.slice (some ⟨w1.heap.size+1,0,none⟩) 0 0,.agg #[.int .i64 r.code,.int .i64 k]]) (by simp [results,Tryz.results58,go_sem,hc,l,i,a,a2]) rfl ⟨.slice (some ⟨w1.heap.size+1,0,none⟩) 0 0,?_,?_,?_⟩
     ·have h:=fin_bad HC.o HE.o m.o HCD.o;rw [h.1,h.2.1]
     ·have h:=fin_bad HC.o HE.o m.o HCD.o
      rw [h.2.2]
      have:=World.ownsRow_lit (base:=w.heap.size) (e:=132) (size:=4) (((w1.setCell ⟨w.heap.size,0,none⟩ (.int .i64 r.code)).setCell ⟨w.heap.size,1,none⟩ (.int .i64 k)).alloc (.cells #[.int .i64 0,.string ⟨#[]⟩,.int .i64 0,.int .i64 0] 132)) #[] 0 (by simp [World.setCell];omega) (Nat.zero_le _) rfl
      simp only [World.size_alloc,size_setCell'] at this
      exact this
     ·have hB1:=hB.trans (hb.mono (Nat.le_of_lt a))
      exact ((((hB1.setCell (p:=⟨w.heap.size,0,none⟩) (Nat.le_refl _) _).setCell (p:=⟨w.heap.size,1,none⟩) (Nat.le_refl _) _).alloc (by simp;omega) _).alloc (by simp;omega) _)
   ·have d:=X1 (Sc.from_end s.data.toList k (by simp;omega))
    go_wp2
    refine bodyPost_ret (v:= .tuple #[u4,.agg #[.int .i64 0,.int .i64 0]]) (by simp [results,Tryz.results58,go_sem,l,i]) rfl ⟨u4,?_,?_,?_⟩
    ·have h:=fin_ok HC.o HE.o d.o;rw [h.1,h.2.1];rfl
    ·have h:=fin_ok HC.o HE.o d.o;rw [h.2.2];exact ZE (ownsRow_setCell_below (ownsRow_setCell_below f (by simp) _) (by simp) _) (by omega)
    ·exact (hB.setCell (p:=⟨w.heap.size,0,none⟩) (Nat.le_refl _) _).setCell (p:=⟨w.heap.size,1,none⟩) (Nat.le_refl _) _
theorem Sc.cellsOf_atP (l:List Sc.T) (i:Nat) (h:i < l.length):(YL l)[i*4]?=some (.int .i64 l[i].kind)∧(YL l)[i*4+1]?=some (.string ⟨l[i].text.toArray⟩)∧(YL l)[i*4+2]?=some (.int .i64 l[i].n)∧(YL l)[i*4+3]?=some (.int .i64 l[i].place):=by
 induction l generalizing i with
 | nil=>simp at h
 | cons x r ih =>
  have e:YL (x :: r)=[.int .i64 x.kind,.string ⟨x.text.toArray⟩,.int .i64 x.n,.int .i64 x.place]++YL r:=by simp [YL,Sc.T.cells]
  rw [e]
  match i,h with
  | 0,_=>simp
  | i+1,h =>
   have:=ih i (by simpa using h)
   refine ⟨?_,?_,?_,?_⟩
   all_goals rw [List.getElem?_append_right (by simp;omega)]
   ·rw [show (i+1)*4 - ([.int .i64 x.kind,.string ⟨x.text.toArray⟩,.int .i64 x.n,.int .i64 x.place]:List Value).length=i*4 from by simp;omega];exact this.1
   ·rw [show (i+1)*4+1 - ([.int .i64 x.kind,.string ⟨x.text.toArray⟩,.int .i64 x.n,.int .i64 x.place]:List Value).length=i*4+1 from by simp;omega];exact this.2.1
   ·rw [show (i+1)*4+2 - ([.int .i64 x.kind,.string ⟨x.text.toArray⟩,.int .i64 x.n,.int .i64 x.place]:List Value).length=i*4+2 from by simp;omega];exact this.2.2.1
   ·rw [show (i+1)*4+3 - ([.int .i64 x.kind,.string ⟨x.text.toArray⟩,.int .i64 x.n,.int .i64 x.place]:List Value).length=i*4+3 from by simp;omega];exact this.2.2.2
def K7:Pr.Dk:=⟨0,false,0,[]⟩
theorem DK.init {w:World} {B tg tc sz:Nat} {ts:List Sc.T} (h:w.ownsRow B 132 4 (.slice (some ⟨tg,0,none⟩) ts.length tc) ts.length (YL ts)) (hn:ts.length≤1048576) :
  DK w.heap.size tg tc ts sz (.slice none 0 0) K7 (w.alloc (.cells #[.slice (some ⟨tg,0,none⟩) ts.length tc,.int .i64 sz,.int .i64 0,.bool false,.int .i64 0,.slice none 0 0] 104)):=by
 have hl:tg < w.heap.size:=(h.lt tg rfl).2
 have hb:=(Below.refl w.heap.size w).alloc (Nat.le_refl _) (.cells #[.slice (some ⟨tg,0,none⟩) ts.length tc,.int .i64 sz,.int .i64 0,.bool false,.int .i64 0,.slice none 0 0] 104)
 have ct:∀ j u,(YL ts)[j]?=some u→(w.alloc (.cells #[.slice (some ⟨tg,0,none⟩) ts.length tc,.int .i64 sz,.int .i64 0,.bool false,.int .i64 0,.slice none 0 0] 104)).cell? ⟨tg,j,none⟩=some u:=fun j u hu=>(hb.cell (p:=⟨tg,j,none⟩) hl).trans (ZK h hu)
 refine ⟨by simp,by simp,by simp [K7],by simp [K7],by simp [K7],by simp,fun j=>by simp,hl,fun i hi=>?_,Nat.zero_le _,hn,World.ownsRow_nil _ _ _ _⟩
 obtain ⟨a,b,c,d⟩:=Sc.cellsOf_atP ts i hi
 exact ⟨ct _ _ a,ct _ _ b,ct _ _ c,ct _ _ d⟩
theorem U3:∀ (f k:Nat) (l:List UInt8),(Sc.scan f k l).1.length≤l.length
 | 0,_,_=>by simp [Sc.scan]
 | f+1,k,l=>by
  rw [Sc.scan]
  split
  ·simp
  ·split
   ·simp
   ·rename_i h1 h2
    have hc:(Sc.one (l.drop (Sc.gapLen false l))).code=0:=by omega
    have hs:=Sc.one_size _ hc
    have ih:=U3 f (k+Sc.gapLen false l+(Sc.one (l.drop (Sc.gapLen false l))).size) ((l.drop (Sc.gapLen false l)).drop (Sc.one (l.drop (Sc.gapLen false l))).size)
    simp only [List.length_cons,List.length_drop] at *
    omega
theorem Sc.toks_lenP (s:ByteArray):(Zt s).length≤8000:=by
 by_cases h:8000 < s.size
 ·rw [(code_big h).2.2];simp
 ·rw [(code_small h).2.2]
  split
  ·have:=U3 (s.data.toList.length+1) 0 (s.data.toList.drop 0)
   simp only [List.drop_zero,Array.length_toList] at this
   unfold Sc.from_
   simp only [List.drop_zero,Array.length_toList]
   have e:s.data.size=s.size:=rfl
   omega
  ·simp
def KY (s:ByteArray) (r:Pr.Dk × Nat):Prop:=Pr.Cv (Zt s) s.size (.fileL 0) K7 r
def ZA (r:Pr.Dk × Nat):List Tr.Nd × Nat × Nat :=
 if r.1.bad then ([],6,r.1.place)
 else if XS (r.1.o++[⟨24,0,0,⟨#[]⟩,r.2⟩]) then (r.1.o++[⟨24,0,0,⟨#[]⟩,r.2⟩],0,0)
 else ([],7,0)
abbrev treeO:Obj:= .cells #[.slice none 0 0] 25
abbrev fltO (a b:Int):Obj:= .cells #[.int .i64 a,.int .i64 b] 37
structure PB (w W:World):Prop where
 B:Below w.heap.size w W
 z:w.heap.size+1 < W.heap.size
 t0:W.cell? ⟨w.heap.size,0,none⟩=some (.slice none 0 0)
 f0:W.cell? ⟨w.heap.size+1,0,none⟩=some (.int .i64 0)
 f1:W.cell? ⟨w.heap.size+1,1,none⟩=some (.int .i64 0)
 ft:W.frozen? ⟨w.heap.size,0,none⟩=false
 ff:∀ j,W.frozen? ⟨w.heap.size+1,j,none⟩=false
theorem PB.new (w:World):PB w ((w.alloc treeO).alloc (fltO 0 0)):=by
 have hb:=(Below.refl (w.heap.size+1) (w.alloc treeO)).alloc (by simp) (fltO 0 0)
 refine ⟨(bA _).alloc (by simp) _,by simp,(hb.cell (p:=⟨w.heap.size,0,none⟩) (Nat.lt_succ_self _)).trans (by simp),?_,?_,(hb.frozen (p:=⟨w.heap.size,0,none⟩) (Nat.lt_succ_self _)).trans (by simp),fun j=>?_⟩
 ·rw [World.cell?,show w.heap.size+1=(w.alloc treeO).heap.size from by simp,Xi];rfl
 ·rw [World.cell?,show w.heap.size+1=(w.alloc treeO).heap.size from by simp,Xi];rfl
 ·rw [World.frozen?,show w.heap.size+1=(w.alloc treeO).heap.size from by simp,Xi];simp
theorem PB.below {w W W':World} (h:PB w W) (hb:Below W.heap.size W W'):PB w W' :=
 ⟨h.B.trans (hb.mono h.B.size),Nat.lt_of_lt_of_le h.z hb.size,(hb.cell (p:=⟨w.heap.size,0,none⟩) (show w.heap.size < W.heap.size by have:=h.z;omega)).trans h.t0,(hb.cell (p:=⟨w.heap.size+1,0,none⟩) h.z).trans h.f0,(hb.cell (p:=⟨w.heap.size+1,1,none⟩) h.z).trans h.f1,(hb.frozen (p:=⟨w.heap.size,0,none⟩) (show w.heap.size < W.heap.size by have:=h.z;omega)).trans h.ft,fun j=>(hb.frozen (p:=⟨w.heap.size+1,j,none⟩) h.z).trans (h.ff j)⟩
set_option maxRecDepth 100000 in
set_option maxHeartbeats 2000000 in
theorem parse_fault (s:ByteArray) (w:World) (hs:s.size≤1048576) (hc:YK s≠0) :
  Calls Tryz.prog 32 #[.string s] w fun e w'=>e = .returned (.tuple #[.agg #[.slice none 0 0],.agg #[.int .i64 (YK s),.int .i64 (YR s)]])∧Below w.heap.size w w':=by
 have HP0:=X1 (PB.new w)
 have HQ:=X1 (sscan_any s ((w.alloc treeO).alloc (fltO 0 0)) hs)
 have hci:¬ ((YK s:Nat):Int)=0:=by omega
 have hcb:(((YK s:Nat):Int) != 0)=true:=by simpa using hc
 go_enter Tryz.func32,Tryz.ntmps32
 go_wp2_with fail
 refine HQ.o.mono ?_
 rintro e w1 ⟨v,rfl,a0,hb1⟩
 have b:=HP0.o.below hb1
 have a:=b.below (bA (fltO (YK s) (YR s)))
 have t0:=a.t0
 have f0:=a.f0
 have f1:=a.f1
 have ft:=a.ft
 have ff0:=a.ff 0
 have ff1:=a.ff 1
 have hz:=b.z
 have HP2:=X1 a
 clear b a hb1 a0 HQ
 go_wp2
 go_region
 all_goals
  try go_wp2
  refine bodyPost_ret (v:= .tuple #[.agg #[.slice none 0 0],.agg #[.int .i64 (YK s),.int .i64 (YR s)]]) (by simp [results,Tryz.results32,go_sem,t0,f0,f1]) rfl ⟨rfl,?_⟩
  repeat (first | (refine Below.setCell ?_ (by show w.heap.size≤_;simp) _) | (refine Below.drew ?_))
  exact HP2.o.B
section
variable {ts:List Sc.T} {sz:Nat}
theorem J3 (s:Pr.Dk):(Yt ts sz s).bad=true:=by unfold Yt;split;assumption;rfl
theorem Pr.need_stop (s:Pr.Dk) (t:List UInt8):(Xr ts sz (Yt ts sz s) t).bad=true:=by
 have h:=J3 (ts:=ts) (sz:=sz) s
 have hi:Xa ts sz (Yt ts sz s) t=false:=by unfold Xa;rw [h];rfl
 unfold Xr
 rw [hi]
 exact J3 _
theorem Pr.pe_on (f:Nat) (s:Pr.Dk):(Xh ts sz (f+1) .statement s).1.bad=true∨s.p < (Xh ts sz (f+1) .statement s).1.p:=by
 have st:∀ (c:Pr.Cmd) (s:Pr.Dk),s.p≤ts.length→Pr.Stp ts s (Xh ts sz f c s).1 (X6 c):=Pr.pe_stp f
 unfold Xh
 split
 ·rename_i hi
  have h1:(X7 s).p≤ts.length:=XG hi
  exact .inr ((((((((Pr.Stp.refl h1).name (sz:=sz)).run st .params).need (sz:=sz) [61]).run st .e).put 20 0 0 (Xd ts sz (X7 s)) ((Xh ts sz f .params (XP ts sz (X7 s))).2+1)).need (sz:=sz) [59]).ge)
 ·split
  ·rename_i _ hi
   have h1:(X7 s).p≤ts.length:=XG hi
   exact .inr (((((((Pr.Stp.refl h1).name (sz:=sz)).need (sz:=sz) [61]).run st .e).put 21 0 0 (Xd ts sz (X7 s)) 1).need (sz:=sz) [59]).ge)
  ·split
   ·rename_i _ _ hi
    have h1:(X7 s).p≤ts.length:=XG hi
    exact .inr (((((Pr.Stp.refl h1).run st .e).put 22 0 0 [] 1).need (sz:=sz) [59]).ge)
   ·split
    ·rename_i _ _ _ hi
     have h1:(X7 s).p≤ts.length:=XG hi
     split
     ·rename_i hk
      have hl:(X7 s).p < ts.length:=YY (sz:=sz) (by simp only [beq_iff_eq] at hk;omega)
      exact .inr (((((((Pr.Stp.refl h1).advL hl).need (sz:=sz) [58]).run st (.loadL 0)).put 23 0 0 (X3 ts sz (X7 s)).text (Xh ts sz f (.loadL 0) (Xr ts sz (X7 (X7 s)) [58])).2).need (sz:=sz) [59]).ge)
     ·exact .inl (J3 _)
    ·exact .inl (Pr.need_stop _ _)
theorem Pr.Cv.on {s:Pr.Dk} {r:Pr.Dk × Nat} (h:Pr.Cv ts sz .statement s r):r.1.bad=true∨s.p < r.1.p:=by
 obtain ⟨f,hf⟩:=h
 have:=Pr.pe_on (ts:=ts) (sz:=sz) f s
 rwa [hf (f+1) (by omega)] at this
end
def J6 (b:Nat) (ts:List Sc.T) (w:World):Nat :=
 match w.cell? ⟨b,3,none⟩ with
 | some (.bool true)=>0
 | _=>XQ b ts w+1
theorem DK.leftB {b tg tc:Nat} {ts:List Sc.T} {sz:Nat} {v:Value} {s:Pr.Dk} {w:World} (h:DK b tg tc ts sz v s w):J6 b ts w=if s.bad then 0 else ts.length - s.p+1:=by
 unfold J6
 rw [h.c3,h.left]
 cases s.bad <;> rfl
theorem PB.gr {w W W':World} {b:Nat} {v v':Value} (h:PB w W) (hg:Pr.Gr b v v' W W') (hb:w.heap.size+1 < b) (hv:∀ q,v.ownBlock=some q→b < q):PB w W':=by
 have k:∀ q,q≤w.heap.size+1→W'.heap[q]?=W.heap[q]?:=fun q hq=>hg.mv.block q (by have:=h.z;omega) (fun e=>e.elim (fun e=>by omega) (fun e=>by have:=hv q e;omega))
 refine ⟨⟨hg.mv.os.trans h.B.os,hg.mv.tape.trans h.B.tape,hg.mv.output.trans h.B.output,Nat.le_trans h.B.size hg.mv.size,fun q hq=>(k q (by omega)).trans (h.B.block q hq)⟩,Nat.lt_of_lt_of_le h.z hg.mv.size,(World.cell?_of_block (a:=⟨w.heap.size,0,none⟩) (k w.heap.size (by omega))).trans h.t0,(World.cell?_of_block (a:=⟨w.heap.size+1,0,none⟩) (k (w.heap.size+1) (Nat.le_refl _))).trans h.f0,(World.cell?_of_block (a:=⟨w.heap.size+1,1,none⟩) (k (w.heap.size+1) (Nat.le_refl _))).trans h.f1,(World.frozen?_of_block (a:=⟨w.heap.size,0,none⟩) (k w.heap.size (by omega))).trans h.ft,fun j=>(World.frozen?_of_block (a:=⟨w.heap.size+1,j,none⟩) (k (w.heap.size+1) (Nat.le_refl _))).trans (h.ff j)⟩
theorem Tr.cellsOf_atP (l:List Tr.Nd) (i:Nat) (h:i < l.length):(X2 l)[i*5]?=some (.int .i64 l[i].kind)∧(X2 l)[i*5+1]?=some (.int .i64 l[i].op)∧(X2 l)[i*5+2]?=some (.int .i64 l[i].n)∧(X2 l)[i*5+3]?=some (.string l[i].text)∧(X2 l)[i*5+4]?=some (.int .i64 l[i].kids):=by
 induction l generalizing i with
 | nil=>simp at h
 | cons x r ih =>
  rw [show X2 (x :: r)=x.cells++X2 r from rfl]
  match i,h with
  | 0,_=>simp [Tr.Nd.cells]
  | i+1,h =>
   have:=ih i (by simpa using h)
   have hl:x.cells.length=5:=rfl
   refine ⟨?_,?_,?_,?_,?_⟩
   all_goals rw [List.getElem?_append_right (by omega),hl]
   ·rw [show (i+1)*5 - 5=i*5 from by omega];exact this.1
   ·rw [show (i+1)*5+1 - 5=i*5+1 from by omega];exact this.2.1
   ·rw [show (i+1)*5+2 - 5=i*5+2 from by omega];exact this.2.2.1
   ·rw [show (i+1)*5+3 - 5=i*5+3 from by omega];exact this.2.2.2.1
   ·rw [show (i+1)*5+4 - 5=i*5+4 from by omega];exact this.2.2.2.2
theorem QL {w:World} {B g c:Nat} {l:List Tr.Nd} (h:w.ownsRow B 35 5 (.slice (some ⟨g,0,none⟩) l.length c) l.length (X2 l)):NodesAt w g l :=
 ⟨(h.lt g rfl).2,fun i hi=>by
  obtain ⟨a,b,c',d,e⟩:=Tr.cellsOf_atP l i hi
  exact ⟨ZK h a,ZK h b,ZK h c',ZK h d,ZK h e⟩⟩
def ParsePost (w:World) (r:List Tr.Nd × Nat × Nat) (e:Ending) (w':World):Prop:=∃ v,e = .returned (.tuple #[.agg #[v],.agg #[.int .i64 r.2.1,.int .i64 r.2.2]])∧w'.ownsRow w.heap.size 35 5 v r.1.length (X2 r.1)∧Below w.heap.size w w'
end Go.Proofs.YtimbaebigjjkaaaGreatDoor
