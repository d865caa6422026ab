/- Foo, Jb, Jc. -/
import Derived.Test.YthbojbbmpcmoaaaGreatDoorZ16
import Derived.Test.YthbojbbmpcmoaaaGreatDoorZ20
import Derived.Test.YthbojbbmpcmoaaaGreatDoorZ17
namespace Go.Proofs.YthbojbbmpcmoaaaGreatDoor
open Go.RowKit
theorem Fd.fnOpen_cons (t:ByteArray) (y:Fd) (r:List Fd):Fd.fnOpen t (y :: r)=if r=[] then 1 else if y.x.text=t then 1 else 1+Fd.fnOpen t r:=by rw [Fd.fnOpen]
theorem text_ne {t s:ByteArray} (h:t≠s):(t.toList == s.toList)=false:=by
 cases e:(t.toList == s.toList)
 ·rfl
 ·exact absurd (by
   have e2:t.toList=s.toList:=by simpa using e
   rw [ByteArray.toList_eq,ByteArray.toList_eq] at e2
   exact ByteArray.ext (Array.toList_inj.1 e2)) h
set_option maxRecDepth 100000 in
set_option maxHeartbeats 4000000 in
theorem iopen_fn (k o m c:Int) (t s:ByteArray) (ks:List Fd) (sl:Value) (xs:List Value) (w:World) (hrow:w.ownsRow 0 56 1 sl ks.length xs) (hB:∀ q,sl.ownBlock=some q→q < w.heap.size) (hk:Fd.Pt.ptL (fun q=>q < w.heap.size) w ks xs) (h0:0 < ks.length) (hl:ks.length≤1000000) :
  Calls Tryz.prog 282 #[.agg #[.int .i64 k,.int .i64 o,.int .i64 m,.string t,.int .i64 c,sl],.string s] w fun e w'=>e = .returned (.int .i64 (Fd.fnOpen s ks:Int))∧Below w.heap.size w w':=by
 obtain ⟨g,cp,hsl⟩:=row_posF hrow h0
 subst hsl
 have hcap:ks.length≤cp:=by
  rcases hrow.2 with ⟨h1,_⟩ | ⟨g',cap,cur,hv,_,_,hc,_⟩
  ·cases h1
  ·cases hv;exact hc
 have b0:Below w.heap.size w (w.alloc (.cells #[.int .i64 k,.int .i64 o,.int .i64 m,.string t,.int .i64 c,.slice (some ⟨g,0,none⟩) ks.length cp] 203)):=bA _
 have HB0:=hide b0
 have HR:=hide hrow
 have HK:=hide hk
 have hgl:=hB g rfl
 have HX:Hid ((w.alloc (.cells #[.int .i64 k,.int .i64 o,.int .i64 m,.string t,.int .i64 c,.slice (some ⟨g,0,none⟩) ks.length cp] 203)).cell? ⟨w.heap.size,5,none⟩=some (.slice (some ⟨g,0,none⟩) ks.length cp)∧w.heap.size < (w.alloc (.cells #[.int .i64 k,.int .i64 o,.int .i64 m,.string t,.int .i64 c,.slice (some ⟨g,0,none⟩) ks.length cp] 203)).heap.size):=hide ⟨by simp,by simp⟩
 have ew:IntKind.i64.wrap ((ks.length:Int) - 1)=((ks.length - 1:Nat):Int):=by rw [IntKind.wrap_i64];omega
 have hle:((ks.length - 1:Nat):Int)≤(cp:Int):=by omega
 have hle2:ks.length - 1≤cp:=by omega
 clear hrow hk hB b0
 go_enter Tryz.func282,Tryz.ntmps282
 go_wp2_with fail
 go_loopw [19] (fun iv wr=>∃ i:Nat,i≤ks.length - 1∧iv = .int .i64 (i:Int)∧Fd.fnOpen s ks=i+Fd.fnOpen s (ks.drop i)∧Below w.heap.size w wr∧wr.cell? ⟨w.heap.size,5,none⟩=some (.slice (some ⟨g,0,none⟩) ks.length cp)∧w.heap.size < wr.heap.size) (fun iv _=>ks.length - (intOf iv).toNat)
 case atStart=>exact ⟨0,Nat.zero_le _,rfl,by simp,HB0.out,HX.out.1,HX.out.2⟩
 case round =>
  obtain ⟨i,hi,rfl,hfo,hB,hx5,hlw⟩:=hrel
  have HB:=hide hB
  have HFO:=hide hfo
  clear hfo
  by_cases hlt:i < ks.length - 1
  ·have hlti:(i:Int) < ((ks.length - 1:Nat):Int):=by omega
   obtain ⟨ai,hai,hta⟩:=Fd.ptL_get i HK.out (by omega)
   have ke0:w.cell? ⟨g,i,none⟩=some ai:=row_cellF HR.out hai
   obtain ⟨yi,hyi⟩:∃ yi,yi=ks[i]:=⟨_,rfl⟩
   rw [← hyi] at hta
   obtain ⟨⟨yk,yo,ym,yt,yc⟩,yp,yb,yks⟩:=yi
   obtain ⟨ysl,yxs,hu,yr,_⟩:=(Fd.pt_mk _ _ _ _ _ _ _).1 hta
   obtain ⟨ysp,ysc,hys⟩:=row_formF yr
   subst hys
   subst hu
   have ke:=(hB.cell (p:=⟨g,i,none⟩) hgl).trans ke0
   unfold Fd.nk Ip.pv at ke
   have hms:=meth_self yk yo ym (yks.length:Int) yt (.slice ysp yks.length ysc)
   have Q:=hide (iself_at yk yo ym (yks.length:Int) yt (.slice ysp yks.length ysc) ⟨_,_,_,rfl⟩ wr)
   have hdr:ks.drop i=(.mk ⟨yk,yo,ym,yt,yc⟩ yp yb yks) :: ks.drop (i+1):=by rw [List.drop_eq_getElem_cons (by omega),hyi]
   have hne:ks.drop (i+1)≠[]:=by
    intro e
    have:=congrArg List.length e
    rw [List.length_drop,List.length_nil] at this
    omega
   have hfc:=Fd.fnOpen_cons s (.mk ⟨yk,yo,ym,yt,yc⟩ yp yb yks) (ks.drop (i+1))
   rw [← hdr,if_neg hne] at hfc
   have HFC:Hid (Fd.fnOpen s (ks.drop i)=if yt=s then 1 else 1+Fd.fnOpen s (ks.drop (i+1))):=hide hfc
   clear hta yr ke0 hai hyi hdr hne hfc hB
   go_wp2_with fail
   refine Q.out.mono ?_
   rintro e w2 ⟨rfl,hb2⟩
   have HB2:=hide (HB.out.trans (hb2.mono HB.out.size))
   have hx2:=(hb2.cell (p:=⟨w.heap.size,5,none⟩) hlw).trans hx5
   have hlw2:=hb2.size
   clear hb2 Q
   by_cases hts:yt=s
   ·have HE:Hid (Fd.fnOpen s ks=i+1):=hide (by rw [HFO.out,HFC.out,if_pos hts])
    subst hts
    have ew1:IntKind.i64.wrap ((i:Int)+1)=((i+1:Nat):Int):=by rw [IntKind.wrap_i64];omega
    go_wp2
    change (?K:Act→World→Prop) (Act.put ?a ?d (Value.string yt)) ?w
    go_wp2
    go_ret
    exact ⟨by rw [HE.out];rfl,HB2.out⟩
   ·have hf:=text_ne hts
    have HE:Hid (Fd.fnOpen s ks=(i+1)+Fd.fnOpen s (ks.drop (i+1))):=hide (by rw [HFO.out,HFC.out,if_neg hts];omega)
    go_wp2
    change (?K2:Act→World→Prop) (Act.put ?a2 ?d2 (Value.string yt)) ?w2
    go_wp2
    go_roundw
    case rel=>exact ⟨i+1,by omega,by go_num,HE.out,HB2.out,hx2,by omega⟩
    case measure=>simp [intOf];omega
  ·obtain rfl:i=ks.length - 1:=by omega
   have hlti:¬ (((ks.length - 1:Nat):Int) < ((ks.length - 1:Nat):Int)):=by omega
   have HE:Hid (Fd.fnOpen s ks=ks.length):=hide (by
    have hd:ks.drop (ks.length - 1)=[ks[ks.length - 1]]:=by
     rw [List.drop_eq_getElem_cons (by omega),List.drop_eq_nil_of_le (by omega)]
    rw [HFO.out,hd,Fd.fnOpen_cons,if_pos rfl]
    omega)
   clear hB
   go_wp2
   go_ret
   exact ⟨by rw [HE.out];rfl,HB.out⟩
theorem Tr.between_cons (a b:Int) (x:Tr.Gr) (r:List Tr.Gr):Tr.between a b (x :: r)=(decide (a≤x.nd.kind) && decide (x.nd.kind≤b) && Tr.between a b r):=rfl
set_option maxHeartbeats 400000 in
theorem kinds_nil (p:Option Addr) (c:Nat) (a b:Int) (w:World) :
  Calls Tryz.prog 145 #[.slice p 0 c,.int .i64 a,.int .i64 b] w fun e w'=>e = .returned (.bool true)∧Below w.heap.size w w':=by
 go_enter Tryz.func145,Tryz.ntmps145
 go_wp2
 go_loop [11] (fun t=>t = .int .i64 0) (fun _=>0)
 case atStart=>rfl
 case round =>
  subst hrel
  go_wp2
  go_ret
  exact ⟨rfl,Below.refl _ _⟩
set_option maxRecDepth 100000 in
set_option maxHeartbeats 1000000 in
theorem kinds_some (l:List Tr.Gr) (g o c:Nat) (a b:Int) (w:World) (hl:l.length≤1048576) (ht:GrAt w g o l) :
  Calls Tryz.prog 145 #[.slice (some ⟨g,o,none⟩) l.length c,.int .i64 a,.int .i64 b] w fun e w'=>e = .returned (.bool (Tr.between a b l))∧Below w.heap.size w w':=by
 have HT:=hide ht
 clear ht
 go_enter Tryz.func145,Tryz.ntmps145
 go_wp2
 go_loopw [11] (fun t wr=>∃ j:Nat,j≤l.length∧t = .int .i64 j∧Below w.heap.size w wr∧Tr.between a b l=Tr.between a b (l.drop j)) (fun t _=>l.length - (intOf t).toNat)
 case atStart=>exact ⟨0,Nat.zero_le _,rfl,Below.refl _ _,by simp⟩
 case round =>
  obtain ⟨j,hj,rfl,hB,he⟩:=hrel
  have HE:=hide he
  clear he
  by_cases hlt:j < l.length
  ·obtain ⟨c0,c1,c2,c3,c4,c5⟩:=(HT.out.below hB).2 j hlt
   have HS:=hide (show Tr.between a b l=(decide (a≤l[j].nd.kind) && decide (l[j].nd.kind≤b) && Tr.between a b (l.drop (j+1))) by rw [HE.out,List.drop_eq_getElem_cons hlt,Tr.between_cons])
   generalize l[j].nd.kind=kj at *
   by_cases h1:kj < a
   ·go_wp2
    go_ret
    refine ⟨ret_bool ?_,hB.alloc hB.size _⟩
    rw [HS.out,decide_eq_false (by omega:¬ a≤kj)];rfl
   ·by_cases h2:b < kj
    ·go_wp2
     go_ret
     refine ⟨ret_bool ?_,hB.alloc hB.size _⟩
     rw [HS.out,decide_eq_false (by omega:¬ kj≤b)];simp
    ·go_wp2
     go_roundw
     case rel=>exact ⟨j+1,by omega,by go_num,hB.alloc hB.size _,by rw [HS.out,decide_eq_true (by omega:a≤kj),decide_eq_true (by omega:kj≤b)];simp⟩
     case measure=>simp [intOf];omega
  ·go_wp2
   go_ret
   refine ⟨ret_bool ?_,hB⟩
   rw [HE.out,List.drop_of_length_le (by omega)];rfl
theorem kinds_any (l:List Tr.Gr) (v:Value) (a b:Int) (w:World) (hl:l.length≤1048576) (ht:GrV w v l) :
  Calls Tryz.prog 145 #[v,.int .i64 a,.int .i64 b] w fun e w'=>e = .returned (.bool (Tr.between a b l))∧Below w.heap.size w w':=by
 rcases ht with ⟨p,c,rfl,rfl⟩ | ⟨g,o,c,rfl,_,h⟩
 ·exact kinds_nil p c a b w
 ·exact kinds_some l g o c a b w hl h
theorem Tr.over_at (l:List Tr.Gr) (j h:Nat) (hj:j < l.length):Tr.over (l.drop j) h=Tr.over (l.drop (j+1)) (if h < l[j].high+1 then l[j].high+1 else h):=by
 rw [List.drop_eq_getElem_cons hj];rfl
set_option maxHeartbeats 400000 in
theorem height_nil (p:Option Addr) (c:Nat) (w:World) :
  Calls Tryz.prog 97 #[.slice p 0 c] w fun e w'=>e = .returned (.int .i64 0)∧Below w.heap.size w w':=by
 go_enter Tryz.func97,Tryz.ntmps97
 go_wp2
 go_loop [3,8] (fun a t=>a = .int .i64 0∧t = .int .i64 0) (fun _ _=>0)
 case atStart=>exact ⟨rfl,rfl⟩
 case round =>
  obtain ⟨rfl,rfl⟩:=hrel
  go_wp2
  go_ret
  exact ⟨rfl,Below.refl _ _⟩
set_option maxRecDepth 100000 in
set_option maxHeartbeats 1000000 in
theorem height_some (l:List Tr.Gr) (g o c:Nat) (w:World) (hl:l.length≤1048576) (hh:∀ x∈l,x.high≤1048576) (ht:GrAt w g o l) :
  Calls Tryz.prog 97 #[.slice (some ⟨g,o,none⟩) l.length c] w fun e w'=>e = .returned (.int .i64 (Tr.over l 0))∧Below w.heap.size w w':=by
 have HT:=hide ht
 have HH:=hide hh
 clear ht hh
 go_enter Tryz.func97,Tryz.ntmps97
 go_wp2
 go_loopw [3,8] (fun a t wr=>∃ j h:Nat,j≤l.length∧t = .int .i64 j∧a = .int .i64 h∧h≤1048577∧Below w.heap.size w wr∧Tr.over l 0=Tr.over (l.drop j) h) (fun _ t _=>l.length - (intOf t).toNat)
 case atStart=>exact ⟨0,0,Nat.zero_le _,rfl,rfl,by omega,Below.refl _ _,by simp⟩
 case round =>
  obtain ⟨j,h,hj,rfl,rfl,hh,hB,he⟩:=hrel
  have HE:=hide he
  clear he
  by_cases hlt:j < l.length
  ·obtain ⟨c0,c1,c2,c3,c4,c5⟩:=(HT.out.below hB).2 j hlt
   have HS:=hide (show Tr.over l 0=Tr.over (l.drop (j+1)) (if h < l[j].high+1 then l[j].high+1 else h) by rw [HE.out,Tr.over_at l j h hlt])
   have hy:=HH.out _ (List.getElem_mem hlt)
   generalize l[j].high=y at *
   by_cases hc:(h:Int) < (y:Int)+1
   ·go_wp2
    go_roundw
    case rel=>exact ⟨j+1,y+1,by omega,by go_num,by first | go_num | (congr 1;omega),by omega,hB.alloc hB.size _,by rw [HS.out,if_pos (by omega)]⟩
    case measure=>simp [intOf];omega
   ·go_wp2
    go_roundw
    case rel=>exact ⟨j+1,h,by omega,by go_num,by first | rfl | (congr 1;omega),by omega,hB.alloc hB.size _,by rw [HS.out,if_neg (by omega)]⟩
    case measure=>simp [intOf];omega
  ·go_wp2
   go_ret
   refine ⟨ret_int ?_,hB⟩
   rw [HE.out,List.drop_of_length_le (by omega)];rfl
theorem height_any (l:List Tr.Gr) (v:Value) (w:World) (hl:l.length≤1048576) (hh:∀ x∈l,x.high≤1048576) (ht:GrV w v l) :
  Calls Tryz.prog 97 #[v] w fun e w'=>e = .returned (.int .i64 (Tr.over l 0))∧Below w.heap.size w w':=by
 rcases ht with ⟨p,c,rfl,rfl⟩ | ⟨g,o,c,rfl,_,h⟩
 ·exact height_nil p c w
 ·exact height_some l g o c w hl hh h
def Tr.addS (L:List (List UInt8)) (x:List UInt8):List (List UInt8):=if x∈L then L else L++[x]
theorem Tr.addKey_S (L:List (List UInt8)) (x:List UInt8):Maps.addKey (L.map Lit.string) (.string x)=(Tr.addS L x).map Lit.string:=by
 unfold Maps.addKey Tr.addS
 have h:(L.map Lit.string).any (fun y=>y.sameKey (.string x))=decide (x∈L):=by
  rw [Bool.eq_iff_iff]
  simp [Lit.sameKey]
 rw [h]
 by_cases e:x∈L
 ·simp [e]
 ·simp [e]
theorem Tr.fold_S (xs L:List (List UInt8)):(xs.map Lit.string).foldl Maps.addKey (L.map Lit.string)=(xs.foldl Tr.addS L).map Lit.string:=by
 induction xs generalizing L with
 | nil=>rfl
 | cons x r ih=>rw [List.map_cons,List.foldl_cons,List.foldl_cons,Tr.addKey_S,ih]
theorem Tr.fold_len (xs L:List (List UInt8)):(xs.foldl Tr.addS L).length≤L.length+xs.length∧((xs.foldl Tr.addS L).length=L.length+xs.length↔xs.Nodup∧∀ x∈xs,x∉L):=by
 induction xs generalizing L with
 | nil=>simp
 | cons x r ih =>
  rw [List.foldl_cons]
  by_cases e:x∈L
  ·have h1:=(ih L).1
   have:Tr.addS L x=L:=if_pos e
   rw [this]
   refine ⟨by simp only [List.length_cons];omega,⟨fun h=>?_,fun h=>absurd e (h.2 x (by simp))⟩⟩
   simp only [List.length_cons] at h
   omega
  ·have h1:=ih (L++[x])
   have:Tr.addS L x=L++[x]:=if_neg e
   rw [this]
   simp only [List.length_append,List.length_cons,List.length_nil] at h1 ⊢
   refine ⟨by omega,?_⟩
   rw [show (r.foldl Tr.addS (L++[x])).length=L.length+(r.length+1)↔(r.foldl Tr.addS (L++[x])).length=L.length+(0+1)+r.length from by omega,h1.2]
   simp only [List.nodup_cons,List.mem_append,List.mem_cons,List.not_mem_nil,or_false]
   constructor
   ·rintro ⟨a,b⟩
    exact ⟨⟨fun h=>(b x h) (.inr rfl),a⟩,fun y hy=>by
     rcases hy with rfl | hy
     ·exact e
     ·exact fun h=>b y hy (.inl h)⟩
   ·rintro ⟨⟨a,b⟩,c⟩
    exact ⟨b,fun y hy h=>by
     rcases h with h | rfl
     ·exact c y (.inr hy) h
     ·exact a hy⟩
def Tr.keys (l:List Tr.Gr):List Lit:=l.map fun g=>Lit.string g.nd.text.data.toList
theorem Tr.keys_ok (l:List Tr.Gr):∀ x∈Tr.keys l,WideAt.IsKeyLit x:=by
 intro x hx
 simp only [Tr.keys,List.mem_map] at hx
 obtain ⟨y,_,rfl⟩:=hx
 trivial
theorem Tr.differ_size (l:List Tr.Gr):(Maps.size (Maps.setOf (H:=Unit) (.agg []) (Tr.keys l))=l.length↔Tr.differ l=true)∧Maps.size (Maps.setOf (H:=Unit) (.agg []) (Tr.keys l))≤l.length:=by
 have e:Tr.keys l=(l.map fun g=>g.nd.text.data.toList).map Lit.string:=by simp [Tr.keys]
 have h:=Tr.fold_len (l.map fun g=>g.nd.text.data.toList) []
 have f:=Tr.fold_S (l.map fun g=>g.nd.text.data.toList) []
 rw [Maps.size_setOf _ _ (Tr.keys_ok l),e,show ([]:List Lit)=List.map Lit.string [] from rfl,f,List.length_map]
 simp only [List.length_nil,Nat.zero_add,List.length_map] at h
 refine ⟨h.2.trans ?_,h.1⟩
 unfold Tr.differ
 rw [decide_eq_true_iff]
 simp only [List.not_mem_nil,not_false_eq_true,implies_true,and_true]
 rw [List.nodup_iff_pairwise_ne,List.nodup_iff_pairwise_ne,List.pairwise_map,List.pairwise_map]
 constructor
 ·intro q;exact q.imp fun hne e=>hne (by rw [e])
 ·intro q;exact q.imp fun hne e=>hne (ByteArray.ext (Array.toList_inj.1 e))
set_option maxHeartbeats 400000 in
theorem texts_nil (p:Option Addr) (c:Nat) (w:World) :
  Calls Tryz.prog 146 #[.slice p 0 c] w fun e w'=>e = .returned (.bool true)∧Below w.heap.size w w':=by
 have hmm:=@run_makeMap Tryz.prog
 have hm0:=World.ownsMap_made (H:=Unit) w Tryz.prog 9 unitElem
 go_enter Tryz.func146,Tryz.ntmps146
 go_wp2
 go_loopw [9] (fun t wr=>t = .int .i64 0∧wr=w.alloc (.map #[] 0)) (fun _ _=>0)
 case atStart=>exact ⟨rfl,rfl⟩
 case round =>
  obtain ⟨rfl,rfl⟩:=hrel
  go_wp2_with (at_len;refine wpList_len_own _ rfl _ 153 rfl 9 229 Tryz.underlying153 _ w.heap.size _ _ rfl hm0 ?_)
  go_ret
  exact ⟨rfl,bA _⟩
set_option maxRecDepth 100000 in
set_option maxHeartbeats 1000000 in
theorem texts_some (l:List Tr.Gr) (g o c:Nat) (w:World) (hl:l.length≤1048576) (hh:∀ x∈l,x.nd.text.size≤1048576) (ht:GrAt w g o l) :
  Calls Tryz.prog 146 #[.slice (some ⟨g,o,none⟩) l.length c] w fun e w'=>e = .returned (.bool (Tr.differ l))∧Below w.heap.size w w':=by
 have hmm:=@run_makeMap Tryz.prog
 have hm0:=World.ownsMap_made (H:=Unit) w Tryz.prog 9 unitElem
 have hb0:Below w.heap.size w (w.alloc (.map #[] 0)):=bA _
 have HT:=hide ht
 have HH:=hide hh
 have HM:=hide hm0
 clear ht hh hm0
 go_enter Tryz.func146,Tryz.ntmps146
 go_wp2
 go_loopw [9] (fun t wr=>∃ j:Nat,j≤l.length∧t = .int .i64 j∧Below w.heap.size w wr∧w.heap.size < wr.heap.size∧wr.ownsMap (H:=Unit) Tryz.prog 9 unitElem w.heap.size j (Maps.setOf (.agg []) (Tr.keys (l.take j)))) (fun t _=>l.length - (intOf t).toNat)
 case atStart=>exact ⟨0,Nat.zero_le _,rfl,hb0,by simp,HM.out⟩
 case round =>
  obtain ⟨j,hj,rfl,hB,hz,hown⟩:=hrel
  have HO:=hide hown
  clear hown
  by_cases hlt:j < l.length
  ·obtain ⟨c0,c1,c2,c3,c4,c5⟩:=(HT.out.below hB).2 j hlt
   have hy:=HH.out _ (List.getElem_mem hlt)
   have HK:=hide (show Maps.setOf (H:=Unit) (.agg []) (Tr.keys (l.take (j+1)))=(Maps.setOf (.agg []) (Tr.keys (l.take j))).put (.string l[j].nd.text.data.toList) (.agg []) by
    rw [← Maps.setOf_snoc];congr 1;unfold Tr.keys;rw [List.take_succ_eq_append_getElem hlt,List.map_append];rfl)
   have HY:Hid (keyOf Tryz.prog 9 (.string l[j].nd.text)=some (.string l[j].nd.text.data.toList)):=hide (WideMaps.keyOf_string_mk Tryz.underlying9 (by unfold maxLen;omega))
   generalize l[j].nd.text=tx at *
   go_wp2_with (at_mapUpdate;refine wpList_mapUpdate_own _ rfl _ _ _ 153 rfl 9 229 lawS Tryz.underlying153 _ w.heap.size j _ rfl (HO.out.alloc _) (by unfold maxLen;omega) _ _ _ rfl rfl HY.out _ [] unitElem_mk ?_)
   intro w1 hown1 hgrow1
   have hB1:Below w.heap.size w w1:=(hB.alloc hB.size _).grown hgrow1 (by simp;omega) (fun k e=>by cases e;exact Nat.le_refl _)
   have hz1:w.heap.size < w1.heap.size:=by have:=hgrow1.size;simp at this;omega
   rw [← HK.out] at hown1
   go_wp2
   go_roundw
   case rel=>exact ⟨j+1,by omega,by go_num,hB1,hz1,hown1⟩
   case measure=>simp [intOf];omega
  ·have hq:=Tr.differ_size l
   have HL:Hid (wr.ownsMap (H:=Unit) Tryz.prog 9 unitElem w.heap.size j (Maps.setOf (.agg []) (Tr.keys l))):=hide (by have:=HO.out;rwa [List.take_of_length_le (by omega)] at this)
   generalize Maps.setOf (H:=Unit) (.agg []) (Tr.keys l)=D at *
   go_wp2_with (at_len;refine wpList_len_own _ rfl _ 153 rfl 9 229 Tryz.underlying153 _ w.heap.size j D rfl HL.out ?_)
   all_goals
    go_ret
    refine ⟨ret_bool ?_,hB⟩
    rw [Bool.eq_iff_iff,← hq.1]
    simp
    omega
theorem texts_any (l:List Tr.Gr) (v:Value) (w:World) (hl:l.length≤1048576) (hh:∀ x∈l,x.nd.text.size≤1048576) (ht:GrV w v l) :
  Calls Tryz.prog 146 #[v] w fun e w'=>e = .returned (.bool (Tr.differ l))∧Below w.heap.size w w':=by
 rcases ht with ⟨p,c,rfl,rfl⟩ | ⟨g,o,c,rfl,_,h⟩
 ·exact texts_nil p c w
 ·exact texts_some l g o c w hl hh h
set_option maxRecDepth 100000 in
set_option maxHeartbeats 1000000 in
theorem isName_any (s:ByteArray) (b:Nat) (w:World) (hs:s.size≤1048576) (hm:w.ownsMap (H:=Unit) Tryz.prog 9 unitElem b 17 Sc.wordMap) :
  Calls Tryz.prog 144 #[.string s,.map (some b)] w fun e w'=>e = .returned (.bool (Tr.nameOk s))∧Below w.heap.size w w':=by
 have hb0:=ba_empty s
 have HM:=hide hm
 clear hm
 by_cases h0:s.size=0
 ·have h1:(s.toList == [])=true:=by rw [hb0];simpa using h0
  have HN:=hide (Tr.nameOk_empty s h0)
  clear hb0
  go_enter Tryz.func144,Tryz.ntmps144
  go_wp2
  go_ret
  exact ⟨ret_bool HN.out.symm,Below.refl _ _⟩
 ·have h1:(s.toList == [])=false:=by rw [hb0];simpa using h0
  have hpos:0 < s.size:=by omega
  have HN:=hide (Tr.nameOk_form s hpos)
  clear hb0
  by_cases h30:30 < (s.size:Int)
  ·go_enter Tryz.func144,Tryz.ntmps144
   go_wp2
   go_ret
   exact ⟨ret_bool (by rw [HN.out];simp [h30]),Below.refl _ _⟩
  ·cases hdg:Sc.dig s[0]
   ·have HK:Hid (keyOf Tryz.prog 9 (.string s)=some (.string s.data.toList)):=hide (WideMaps.keyOf_string_mk Tryz.underlying9 (by unfold maxLen;omega))
    have hhas:=Sc.has_word (H:=Unit) s.data.toList
    cases hw:decide (s.data.toList∈Sc.words)
    all_goals
     rw [hw] at hhas
     go_enter Tryz.func144,Tryz.ntmps144
     go_wp2_with (first | (go_at_call 185;refine (idigit_any _ _).mono ?_;rintro e w' ⟨rfl,rfl⟩) | (at_lookup;refine wpList_lookup_own_unit _ rfl _ _ 153 rfl 9 229 lawS Tryz.underlying153 (zeroU _) b 17 Sc.wordMap rfl HM.out _ _ rfl HK.out ?_) | (go_at_call 186;refine (nameSize_any _ _ hs).mono ?_;rintro e w' ⟨rfl,rfl⟩))
     go_ret
     refine ⟨ret_bool ?_,bA _⟩
     rw [HN.out,hdg,hw]
     first
     | (simp;done)
     | (rw [Bool.eq_iff_iff];simp;omega)
   ·go_enter Tryz.func144,Tryz.ntmps144
    go_wp2_with (go_at_call 185;refine (idigit_any _ _).mono ?_;rintro e w' ⟨rfl,rfl⟩)
    go_ret
    exact ⟨ret_bool (by rw [HN.out,hdg];simp),Below.refl _ _⟩
theorem Tr.pkg_index (b:UInt8):Tr.pkgB b=(Sc.nm b || !decide (Lib.indexByte [45,46,47] b < 0)):=by
 have h:∀ n,n < 256→Tr.pkgB (UInt8.ofNat n)=(Sc.nm (UInt8.ofNat n) || !decide (Lib.indexByte [45,46,47] (UInt8.ofNat n) < 0)):=by decide +kernel
 have:=h b.toNat b.toNat_lt
 simpa using this
theorem pkgI_any (b:UInt8) (w:World):Calls Tryz.prog 184 #[.string ⟨#[45,46,47]⟩,.int .u8 b.toNat] w fun e w'=>e = .returned (.int .i64 (Lib.indexByte [45,46,47] b))∧w'=w:=by
 have h:=Tryz.strings_IndexByte ⟨#[45,46,47]⟩ b.toNat w
 rw [show ((b.toNat:Int)).toNat.toUInt8=b from by simp] at h
 exact h
set_option maxRecDepth 100000 in
set_option maxHeartbeats 1000000 in
theorem isPkg_any (s:ByteArray) (w:World) (hs:s.size≤1048576) :
  Calls Tryz.prog 143 #[.string s] w fun e w'=>e = .returned (.bool (Tr.pkgOk s))∧w'=w:=by
 have HP:=hide (show Tr.pkgOk s=(Tr.inr s.size 1 30 && Tr.allOf Tr.pkgB s.data.toList) from rfl)
 go_enter Tryz.func143,Tryz.ntmps143
 go_wp2
 go_loop [6] (fun t=>∃ j:Nat,j≤s.size∧t = .int .i64 j∧Tr.allOf Tr.pkgB s.data.toList=Tr.allOf Tr.pkgB (s.data.toList.drop j)) (fun t=>s.size - (intOf t).toNat)
 case atStart=>exact ⟨0,Nat.zero_le _,rfl,by simp⟩
 case round =>
  obtain ⟨j,hj,rfl,he⟩:=hrel
  have HE:=hide he
  clear he
  by_cases hlt:j < s.size
  ·have hd:=hide (Sc.drop_cons s j hlt)
   have HS:=hide (show Tr.allOf Tr.pkgB s.data.toList=(Tr.pkgB s[j] && Tr.allOf Tr.pkgB (s.data.toList.drop (j+1))) by rw [HE.out,hd.out,Tr.allOf_cons])
   have HB:=hide (Tr.pkg_index s[j])
   have HI:=hide (pkgI_any s[j])
   cases hn:Sc.nm s[j]
   ·generalize Lib.indexByte [45,46,47] s[j]=ix at *
    by_cases hx:ix < 0
    ·go_wp2_with (first | (go_at_call 183;refine (iname_any _ _).mono ?_;rintro e w' ⟨rfl,rfl⟩) | (go_at_call 184;refine (HI.out _).mono ?_;rintro e w' ⟨rfl,rfl⟩))
     go_ret
     exact ⟨ret_bool (by rw [HP.out,HS.out,HB.out,hn];simp [hx]),rfl⟩
    ·go_wp2_with (first | (go_at_call 183;refine (iname_any _ _).mono ?_;rintro e w' ⟨rfl,rfl⟩) | (go_at_call 184;refine (HI.out _).mono ?_;rintro e w' ⟨rfl,rfl⟩))
     go_round
     case rel=>exact ⟨j+1,by omega,by go_num,by rw [HS.out,HB.out,hn,decide_eq_false (by omega:¬ ix < 0)];rfl⟩
     case measure=>simp [intOf];omega
   ·go_wp2_with (first | (go_at_call 183;refine (iname_any _ _).mono ?_;rintro e w' ⟨rfl,rfl⟩))
    go_round
    case rel=>exact ⟨j+1,by omega,by go_num,by rw [HS.out,HB.out,hn];rfl⟩
    case measure=>simp [intOf];omega
  ·have HF:=hide (show Tr.pkgOk s=Tr.inr s.size 1 30 by
    rw [HP.out,HE.out,List.drop_of_length_le (i:=j) (by simp;omega)];simp [Tr.allOf])
   by_cases a1:1≤(s.size:Int)
   all_goals by_cases a2:(s.size:Int)≤30
   all_goals
    go_wp2
    go_ret
    exact ⟨ret_bool (by rw [HF.out];simp [Tr.inr];try omega),rfl⟩
end Go.Proofs.YthbojbbmpcmoaaaGreatDoor
