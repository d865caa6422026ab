/- Jl, Fod. -/
import Derived.Test.YthbojbbmpcmoaaaGreatDoorZ28
import Derived.OwnWalk
import Derived.Test.YthbojbbmpcmoaaaGreatDoorZ30
namespace Go.Proofs.YthbojbbmpcmoaaaGreatDoor
open Go.RowKit
theorem nodes_of_row {w:World} {base:Nat} {e:TypeId} {g cap:Nat} {l:List Tr.Nd} (h:w.ownsRow base e 5 (.slice (some ⟨g,0,none⟩) l.length cap) l.length (Tr.cellsOf l)):NodesAt w g l:=by
 refine ⟨(h.lt g rfl).2,fun i hi=>?_⟩
 obtain ⟨p0,p1,p2,p3,p4⟩:=Tr.cellsOf_at l i hi
 exact ⟨(h.cellAt (i*5) (by omega)).trans p0,(h.cellAt (i*5+1) (by omega)).trans p1,(h.cellAt (i*5+2) (by omega)).trans p2,(h.cellAt (i*5+3) (by omega)).trans p3,(h.cellAt (i*5+4) (by omega)).trans p4⟩
theorem NodesAt.setOther {w:World} {g:Nat} {l:List Tr.Nd} (h:NodesAt w g l) {a:Addr} (ha:g≠a.block) (v:Value):NodesAt (w.setCell a v) g l:=by
 have hb:(w.setCell a v).heap[g]?=w.heap[g]?:=Below.heap_setCell _ _ _ _ ha
 refine ⟨by rw [show (w.setCell a v).heap.size=w.heap.size from by simp];exact h.1,fun i hi=>?_⟩
 obtain ⟨q0,q1,q2,q3,q4⟩:=h.2 i hi
 exact ⟨(World.cell?_of_block hb).trans q0,(World.cell?_of_block hb).trans q1,(World.cell?_of_block hb).trans q2,(World.cell?_of_block hb).trans q3,(World.cell?_of_block hb).trans q4⟩
theorem drop5 (xs:List Value) (i:Nat) (h:i*5+5≤xs.length):∃ a b c d e,xs.drop (i*5)=a :: b :: c :: d :: e :: xs.drop ((i+1)*5):=by
 refine ⟨xs[i*5],xs[i*5+1],xs[i*5+2],xs[i*5+3],xs[i*5+4],?_⟩
 rw [List.drop_eq_getElem_cons (by omega),List.drop_eq_getElem_cons (by omega),List.drop_eq_getElem_cons (by omega),List.drop_eq_getElem_cons (by omega),List.drop_eq_getElem_cons (by omega),show i*5+1+1+1+1+1=(i+1)*5 from by omega]
theorem set5_0 (P R:List Value) (a b c d e v:Value) (k:Nat) (h:P.length=k):(P++a :: b :: c :: d :: e :: R).set k v=P++v :: b :: c :: d :: e :: R:=by
 subst h;simp
theorem set5_1 (P R:List Value) (a b c d e v:Value) (k:Nat) (h:P.length=k):(P++a :: b :: c :: d :: e :: R).set (k+1) v=P++a :: v :: c :: d :: e :: R:=by
 subst h;simp
theorem set5_2 (P R:List Value) (a b c d e v:Value) (k:Nat) (h:P.length=k):(P++a :: b :: c :: d :: e :: R).set (k+2) v=P++a :: b :: v :: d :: e :: R:=by
 subst h;simp
theorem set5_3 (P R:List Value) (a b c d e v:Value) (k:Nat) (h:P.length=k):(P++a :: b :: c :: d :: e :: R).set (k+3) v=P++a :: b :: c :: v :: e :: R:=by
 subst h;simp
theorem set5_4 (P R:List Value) (a b c d e v:Value) (k:Nat) (h:P.length=k):(P++a :: b :: c :: d :: e :: R).set (k+4) v=P++a :: b :: c :: d :: v :: R:=by
 subst h;simp
set_option maxRecDepth 100000 in
set_option maxHeartbeats 1000000 in
theorem toS_some (l:List Tr.Nd) (g o c:Nat) (w:World) (hl:l.length≤1048576) (ht:NodesO w g o l) :
  Calls Tryz.prog 18 #[.slice (some ⟨g,o,none⟩) l.length c] w fun e w'=>e = .returned (.slice (some ⟨w.heap.size,0,none⟩) l.length l.length)∧NodesAt w' w.heap.size l∧Below w.heap.size w w':=by
 obtain ⟨iN,hN,hNz,hNs,hNb⟩:=info_parts Tryz.infoNd
 have HT:=hide ht
 clear ht
 go_enter Tryz.func18,Tryz.ntmps18
 go_wp2_with (at_make;refine wpList_make_full _ rfl _ _ 26 rfl w.heap.size 64 iN _ 5 Tryz.underlying26 hN hNz hNs _ _ _ _ l.length rfl rfl rfl rfl (by rw [hNb];omega) (by unfold maxLen;omega) (Nat.le_refl _) ?_)
 intro w1 hown hgrow
 have hb1:Below w.heap.size w w1:=(Below.refl _ _).grown hgrow (Nat.le_refl _) (fun q e=>by cases e)
 have hz1:w.heap.size < w1.heap.size:=(hown.lt _ rfl).2
 replace hown:∃ xs,w1.ownsRow w.heap.size 64 5 (.slice (some ⟨w.heap.size,0,none⟩) l.length l.length) l.length xs:=⟨_,hown⟩
 obtain ⟨xs,hown⟩:=hown
 have hxl:xs.length=l.length*5:=hown.1
 have HO:=hide hown
 clear hown hgrow
 go_wp2
 go_loopw [4] (fun t wr=>∃ i:Nat,i≤l.length∧t = .int .i64 i∧wr.ownsRow w.heap.size 64 5 (.slice (some ⟨w.heap.size,0,none⟩) l.length l.length) l.length (Tr.cellsOf (l.take i)++xs.drop (i*5))∧Below w.heap.size w wr∧w.heap.size < wr.heap.size) (fun t _=>l.length - (intOf t).toNat)
 case atStart=>exact ⟨0,Nat.zero_le _,rfl,by simpa [Tr.cellsOf] using HO.out,hb1,hz1⟩
 case round =>
  obtain ⟨i,hi,rfl,ho,hB,hsz⟩:=hrel
  by_cases hlt:i < l.length
  ·obtain ⟨c0,c1,c2,c3,c4⟩:=(HT.out.below hB).2 i hlt
   have htk:Tr.cellsOf (l.take (i+1))=Tr.cellsOf (l.take i)++l[i].cells:=by unfold Tr.cellsOf;rw [List.take_succ_eq_append_getElem hlt,List.flatMap_append,List.flatMap_cons,List.flatMap_nil,List.append_nil]
   have hml:(Tr.cellsOf (l.take i)).length=i*5:=by rw [Tr.cellsOf_len,List.length_take];congr 1;omega
   obtain ⟨a0,a1,a2,a3,a4,hd5⟩:=drop5 xs i (by omega)
   rw [hd5] at ho
   have HTK:=hide htk
   have HO2:=hide ho
   have HTN:=hide (toNode_any l[i].kind l[i].op l[i].n l[i].kids l[i].text wr)
   have hcell:l[i].cells=[.int .i64 l[i].kind,.int .i64 l[i].op,.int .i64 l[i].n,.string l[i].text,.int .i64 l[i].kids]:=rfl
   rw [hcell] at HTK
   clear hd5 ho htk hcell
   generalize l[i]=d at *
   go_wp2_with fail
   refine HTN.out.mono ?_
   rintro e w2 ⟨rfl,hb2⟩
   have ho2:w2.ownsRow w.heap.size 64 5 (.slice (some ⟨w.heap.size,0,none⟩) l.length l.length) l.length (Tr.cellsOf (l.take i)++a0 :: a1 :: a2 :: a3 :: a4 :: xs.drop ((i+1)*5)):=by
    have hg:wr.grownBy w2 none:=⟨hb2.os,hb2.tape,hb2.output,hb2.size,fun k hk _=>hb2.block k hk⟩
    exact HO2.out.kept hg (.inr (by simp [Value.ownBlock]))
   have hB2:=hB.trans (hb2.mono hB.size)
   have hsz2:w.heap.size < w2.heap.size:=Nat.lt_of_lt_of_le hsz hb2.size
   have q:∀ j v,(a0 :: a1 :: a2 :: a3 :: a4 :: xs.drop ((i+1)*5))[j]?=some v→j < 5→w2.cell? ⟨w.heap.size,i*5+j,none⟩=some v:=by
    intro j v hv hj
    rw [ho2.cellAt (i*5+j) (by omega),List.getElem?_append_right (by omega),hml,show i*5+j - i*5=j from by omega];exact hv
   have q0:=q 0 a0 rfl (by omega)
   have q1:=q 1 a1 rfl (by omega)
   have q2:=q 2 a2 rfl (by omega)
   have q3:=q 3 a3 rfl (by omega)
   have q4:=q 4 a4 rfl (by omega)
   rw [Nat.add_zero] at q0
   have z0:=ho2.frozenAt (i*5)
   have z1:=ho2.frozenAt (i*5+1)
   have z2:=ho2.frozenAt (i*5+2)
   have z3:=ho2.frozenAt (i*5+3)
   have z4:=ho2.frozenAt (i*5+4)
   have HO3:=hide ho2
   clear ho2 q c0 c1 c2 c3 c4
   go_wp2
   go_roundw
   case rel =>
    have t0:=(HO3.out.stored (i*5) (.int .i64 d.kind)).1
    rw [set5_0 _ _ _ _ _ _ _ _ _ hml] at t0
    have t1:=(t0.stored (i*5+1) (.int .i64 d.op)).1
    rw [set5_1 _ _ _ _ _ _ _ _ _ hml] at t1
    have t2:=(t1.stored (i*5+2) (.int .i64 d.n)).1
    rw [set5_2 _ _ _ _ _ _ _ _ _ hml] at t2
    have t3:=(t2.stored (i*5+3) (.string d.text)).1
    rw [set5_3 _ _ _ _ _ _ _ _ _ hml] at t3
    have t4:=(t3.stored (i*5+4) (.int .i64 d.kids)).1
    rw [set5_4 _ _ _ _ _ _ _ _ _ hml] at t4
    refine ⟨i+1,by omega,by go_num,?_,((((hB2.setCell (p:=⟨w.heap.size,i*5,none⟩) (Nat.le_refl _) _).setCell (p:=⟨w.heap.size,i*5+1,none⟩) (Nat.le_refl _) _).setCell (p:=⟨w.heap.size,i*5+2,none⟩) (Nat.le_refl _) _).setCell (p:=⟨w.heap.size,i*5+3,none⟩) (Nat.le_refl _) _).setCell (p:=⟨w.heap.size,i*5+4,none⟩) (Nat.le_refl _) _,by simp only [size_set5];exact hsz2⟩
    rw [HTK.out,List.append_assoc]
    exact t4
   case measure=>simp [intOf];omega
  ·go_wp2
   go_ret
   obtain rfl:i=l.length:=by omega
   rw [List.take_length,List.drop_of_length_le (by omega),List.append_nil] at ho
   exact ⟨rfl,nodes_of_row ho,hB⟩
set_option maxRecDepth 100000 in
set_option maxHeartbeats 1000000 in
theorem toS_nil (p:Option Addr) (c:Nat) (w:World) :
  Calls Tryz.prog 18 #[.slice p 0 c] w fun e w'=>e = .returned (.slice (some ⟨w.heap.size,0,none⟩) 0 0)∧NodesAt w' w.heap.size []∧Below w.heap.size w w':=by
 obtain ⟨iN,hN,hNz,hNs,hNb⟩:=info_parts Tryz.infoNd
 go_enter Tryz.func18,Tryz.ntmps18
 go_wp2_with (at_make;refine wpList_make_full _ rfl _ _ 26 rfl w.heap.size 64 iN _ 5 Tryz.underlying26 hN hNz hNs _ _ _ _ 0 rfl rfl rfl rfl (by omega) (by unfold maxLen;omega) (Nat.le_refl _) ?_)
 intro w1 hown hgrow
 have hb1:Below w.heap.size w w1:=(Below.refl _ _).grown hgrow (Nat.le_refl _) (fun q e=>by cases e)
 have hz1:w.heap.size < w1.heap.size:=(hown.lt _ rfl).2
 clear hown hgrow
 go_wp2
 go_loopw [4] (fun t wr=>t = .int .i64 0∧wr=w1) (fun _ _=>0)
 case atStart=>exact ⟨rfl,rfl⟩
 case round =>
  obtain ⟨rfl,rfl⟩:=hrel
  go_wp2
  go_ret
  exact ⟨rfl,⟨hz1,fun i h=>absurd h (Nat.not_lt_zero _)⟩,hb1⟩
theorem toS_any (l:List Tr.Nd) (v:Value) (w:World) (hl:l.length≤1048576) (ht:NodesV w v l) :
  Calls Tryz.prog 18 #[v] w fun e w'=>e = .returned (.slice (some ⟨w.heap.size,0,none⟩) l.length l.length)∧NodesAt w' w.heap.size l∧Below w.heap.size w w':=by
 rcases ht with ⟨p,c,rfl,rfl⟩ | ⟨g,o,c,rfl,h⟩
 ·exact toS_nil p c w
 ·exact toS_some l g o c w hl h
set_option maxRecDepth 100000 in
set_option maxHeartbeats 1000000 in
theorem toTree_any (l:List Tr.Nd) (v:Value) (w:World) (hl:l.length≤1048576) (ht:NodesV w v l) :
  Calls Tryz.prog 6 #[.agg #[v]] w fun e w'=>∃ g,e = .returned (.agg #[.slice (some ⟨g,0,none⟩) l.length l.length])∧NodesAt w' g l∧Below w.heap.size w w':=by
 have HS:=hide (fun w' (hb:Below w.heap.size w w')=>toS_any l v w' hl (ht.below hb))
 clear ht
 go_enter Tryz.func6,Tryz.ntmps6
 go_wp2_with fail
 have hq:Below w.heap.size w (((w.alloc (.cells #[v] 24)).alloc (.cells #[.slice none 0 0] 28)).alloc (.cells #[.slice none 0 0] 28)):=((bA _).alloc (by simp) _).alloc (by simp;omega) _
 refine (HS.out _ hq).mono ?_
 rintro e w1 ⟨rfl,hN,hb1⟩
 simp only [World.size_alloc] at hN hb1 ⊢
 have hn2:=cell_new ((w.alloc (.cells #[v] 24)).alloc (.cells #[.slice none 0 0] 28)) (.slice none 0 0) 28
 have hn1:=cell_new (w.alloc (.cells #[v] 24)) (.slice none 0 0) 28
 have hk1:=((Below.refl ((w.alloc (.cells #[v] 24)).alloc (.cells #[.slice none 0 0] 28)).heap.size ((w.alloc (.cells #[v] 24)).alloc (.cells #[.slice none 0 0] 28))).alloc (Nat.le_refl _) (.cells #[.slice none 0 0] 28))
 simp only [World.size_alloc] at hn2 hn1 hk1
 have hx:w1.cell? ⟨w.heap.size+1+1,0,none⟩=some (.slice none 0 0):=(hb1.cell (p:=⟨w.heap.size+1+1,0,none⟩) (Nat.lt_succ_self _)).trans hn2.1
 have hy:w1.cell? ⟨w.heap.size+1,0,none⟩=some (.slice none 0 0):=(hb1.cell (p:=⟨w.heap.size+1,0,none⟩) (Nat.lt_succ_of_lt (Nat.lt_succ_self _))).trans ((hk1.cell (p:=⟨w.heap.size+1,0,none⟩) (Nat.lt_succ_self _)).trans hn1.1)
 have fx:w1.frozen? ⟨w.heap.size+1+1,0,none⟩=false:=(hb1.frozen (p:=⟨w.heap.size+1+1,0,none⟩) (Nat.lt_succ_self _)).trans hn2.2
 have fy:w1.frozen? ⟨w.heap.size+1,0,none⟩=false:=(hb1.frozen (p:=⟨w.heap.size+1,0,none⟩) (Nat.lt_succ_of_lt (Nat.lt_succ_self _))).trans ((hk1.frozen (p:=⟨w.heap.size+1,0,none⟩) (Nat.lt_succ_self _)).trans hn1.2)
 have hB1:Below w.heap.size w w1:=hq.trans (by have:=hb1.mono (show w.heap.size≤w.heap.size+1+1+1 by omega);exact this)
 clear hb1 hq
 go_wp2
 refine bodyPost_ret (v:= .agg #[.slice (some ⟨w.heap.size+1+1+1,0,none⟩) l.length l.length]) (by simp [results,Tryz.results6,go_sem,hy]) rfl ⟨_,rfl,?_,?_⟩
 ·exact (hN.setOther (a:=⟨w.heap.size+1+1,0,none⟩) (by simp) _).setOther (a:=⟨w.heap.size+1,0,none⟩) (by simp;omega) _
 ·exact (hB1.setCell (p:=⟨w.heap.size+1+1,0,none⟩) (by simp;omega) _).setCell (p:=⟨w.heap.size+1,0,none⟩) (by simp) _
set_option maxRecDepth 100000 in
set_option maxHeartbeats 1000000 in
theorem eqS_same (l:List Tr.Nd) (ga gb ca cb:Nat) (w:World) (hl:l.length≤1048576) (ha:NodesAt w ga l) (hb:NodesAt w gb l) :
  Calls Tryz.prog 24 #[.slice (some ⟨ga,0,none⟩) l.length ca,.slice (some ⟨gb,0,none⟩) l.length cb] w fun e w'=>e = .returned (.bool true)∧Below w.heap.size w w':=by
 have HA:=hide ha
 have HB:=hide hb
 clear ha hb
 go_enter Tryz.func24,Tryz.ntmps24
 go_wp2
 go_loopw [5] (fun t wr=>∃ i:Nat,i≤l.length∧t = .int .i64 i∧Below w.heap.size w wr) (fun t _=>l.length - (intOf t).toNat)
 case atStart=>exact ⟨0,Nat.zero_le _,rfl,Below.refl _ _⟩
 case round =>
  obtain ⟨i,hi,rfl,hB⟩:=hrel
  by_cases hlt:i < l.length
  ·obtain ⟨a0,a1,a2,a3,a4⟩:=(HA.out.below hB).2 i hlt
   obtain ⟨b0,b1,b2,b3,b4⟩:=(HB.out.below hB).2 i hlt
   generalize l[i]=x at *
   go_wp2
   go_region_with (go_at_call 74;refine (eqNode_same _ _ _ _ _ _).mono ?_;rintro e w1 ⟨rfl,hb1⟩)
   all_goals go_wp2
   all_goals
    have hfin:Below w.heap.size w w1:=by first | exact hB.trans (hb1.mono hB.size) | exact hB.drew.trans (hb1.mono hB.size) | exact hB.drew.drew.trans (hb1.mono hB.size)
    go_roundw
    case rel=>exact ⟨i+1,by omega,by go_num,hfin⟩
    case measure=>simp [intOf];omega
  ·go_wp2
   go_ret
   exact ⟨rfl,hB⟩
set_option maxRecDepth 100000 in
set_option maxHeartbeats 1000000 in
theorem eqTree_same (l:List Tr.Nd) (ga gb ca cb:Nat) (w:World) (hl:l.length≤1048576) (ha:NodesAt w ga l) (hb:NodesAt w gb l) :
  Calls Tryz.prog 8 #[.agg #[.slice (some ⟨ga,0,none⟩) l.length ca],.agg #[.slice (some ⟨gb,0,none⟩) l.length cb]] w fun e w'=>e = .returned (.bool true)∧Below w.heap.size w w':=by
 have HS:=hide (fun w' (hq:Below w.heap.size w w')=>eqS_same l ga gb ca cb w' hl (ha.below hq) (hb.below hq))
 clear ha hb
 go_enter Tryz.func8,Tryz.ntmps8
 go_wp2_with fail
 have hq:Below w.heap.size w ((w.alloc (.cells #[.slice (some ⟨ga,0,none⟩) l.length ca] 28)).alloc (.cells #[.slice (some ⟨gb,0,none⟩) l.length cb] 28)):=(bA _).alloc (by simp) _
 refine (HS.out _ hq).mono ?_
 rintro e w1 ⟨rfl,hb1⟩
 go_wp2
 go_ret
 exact ⟨rfl,hq.trans (hb1.mono hq.size)⟩
set_option maxRecDepth 100000 in
set_option maxHeartbeats 16000000 in
theorem fold_6 {O:FOp} (HO:OpsS O) (hF:Fd.Fine O) (f:Nat) (ih:FoldAt O f) (y:Fd) (hy:y.size≤f+1) (hn:f+1≤1000000) (hgd:Fd.Good y) (hkd:y.x.kind=6) (a:Nat) (w:World) (h:Fd.Is w y a):Calls Tryz.prog 14 #[pt a] w fun e w'=>FdPost w (Fd.fold O (f+1) y) e w':=by
 obtain ⟨x,p,b,ks⟩:=y
 have HKD:Hid (x.kind=6):=hide hkd
 clear hkd
 rw [Fd.size_mk] at hy
 have hs:∀ t∈ks,t.size≤f:=fun t ht=>by have:=Fd.size_mem ht;omega
 obtain ⟨hloc,hgk⟩:=(Fd.good_mk _ _ _ _).1 hgd
 obtain ⟨sl,ad,h1,h1b,h2,h2b,h3⟩:=(Fd.at_mk _ _ _ _ _ _ _).1 h
 have hkl:ks.length≤1000000:=by
  have:ks.length≤Fd.sizeL ks:=by
   clear h3 h2 hs hy h hgk hloc hgd
   induction ks with
   | nil=>simp
   | cons t r ih=>have:=Fd.size_pos t;rw [Fd.sizeL_cons,List.length_cons];omega
  omega
 have HA:=hide h3
 have HR:=hide h2
 have HX:=hide h1
 have HLO:=hide hloc
 have HGK:=hide hgk
 have HOS:=hide HO
 have HFI:=hide hF
 have HIH:=hide ih
 obtain ⟨iN,hN,hNz,hNs,hNb⟩:=info_parts infoLn
 obtain ⟨iV,hV,hVz,hVs,hVb⟩:=info_parts infoVaF
 obtain ⟨sp,sc,hsl⟩:=row_formF HR.out
 subst hsl
 have c0:=h1.c0
 have c1:=h1.c1
 have c2:=h1.c2
 have c3:=h1.c3
 have c4:=h1.c4
 have c6:=h1.c6
 have c7:=h1.c7
 rw [Fd.fold_succ]
 clear h h1 h2 h3 h1b h2b hloc hgk hgd ih HO hF
 go_enter Tryz.func14,Tryz.ntmps14
 go_upto_region 1 with fail
 go_cut [3] from 21 to 34 (fun v3 wx=>∃ bo,v3=pt bo∧LnB w x p b bo [] (.slice none 0 0) [] wx)
 case first =>
  go_region_law (fail)
  all_goals
   go_wp2_with fail
   go_meet
   case rel=>exact ⟨_,rfl,LnB.new (Below.refl _ _).drew⟩
 case rest =>
  obtain ⟨bo,rfl,hln⟩:=hcut
  have HL0:=hide hln
  clear hln c0 c1 c2 c3 c4 c6 c7
  go_upto_region 3 with fail
  have hfb:FB w x p b bo [] (.slice none 0 0) [] (.slice (some ⟨wc.heap.size,0,none⟩) 0 0) [] [] (wc.alloc (.cells #[] 71)):=by
   have hl:=HL0.out.below (bA (.cells #[] 71))
   refine ⟨hl.B,hl.ge,hl.ln,hl.row,(Fd.atL_nil _ _).2 rfl,hl.ne,?_,?_,(fun q _ e=>by cases e),rfl⟩
   ·exact World.ownsRow_lit (base:=w.heap.size) (e:=71) (size:=1) wc #[] 0 HL0.out.B.size (Nat.zero_le _) rfl
   ·intro e
    have hb:=HL0.out.ln.lt
    have e2:wc.heap.size=bo:=by simpa [Value.ownBlock] using e
    omega
  have HFB:=hide hfb
  clear hfb
  generalize hwb:wc.alloc (.cells #[] 71)=wb at *
  generalize wc.heap.size=vb at *
  clear hwb HL0
  go_wp2_with fail
  go_loopw [4,5] (fun vv t wr=>∃ (i:Nat) (sb:Value) (ab:List Nat) (xs:List Value),i≤ks.length∧t = .int .i64 (i:Int)∧FB w x p b bo ((ks.take i).map (Fd.fold O f)) sb ab vv xs (csOf ((ks.take i).map (Fd.fold O f))) wr) (fun _ t _=>ks.length - (intOf t).toNat)
  case atStart=>exact ⟨0,_,_,_,Nat.zero_le _,rfl,HFB.out⟩
  case round =>
   obtain ⟨i,sb,ab,xs,hi,rfl,hL⟩:=hrel
   have HL:=hide hL
   have k5:=(HX.out.below hL.B).c5
   clear hL HFB
   by_cases hlt:i < ks.length
   ·have hlti:(i:Int) < (ks.length:Int):=by omega
    obtain ⟨g,cc,hsl⟩:=row_posF HR.out (by omega)
    cases hsl
    obtain ⟨ai,hai,hta⟩:=Fd.atL_get i HA.out hlt
    have ke:wr.cell? ⟨g,i,none⟩=some (pt ai):=row_cellF (row_below HR.out HL.out.B) (by rw [List.getElem?_map,hai];rfl)
    have hmem:ks[i]∈ks:=List.getElem_mem _
    have HK:=hide (HIH.out ks[i] (hs _ hmem) (by omega) (HGK.out _ hmem) ai wr (Fd.Is.below hta HL.out.B))
    have HGF:=hide (Fd.good_fold HFI.out f ks[i] (HGK.out _ hmem))
    have htk:(ks.take (i+1)).map (Fd.fold O f)=(ks.take i).map (Fd.fold O f)++[Fd.fold O f ks[i]]:=by rw [List.take_succ_eq_append_getElem hlt,List.map_append];rfl
    have HTK:=hide htk
    have hdl:((ks.take i).map (Fd.fold O f)).length=i:=by rw [List.length_map,List.length_take];omega
    obtain ⟨tt,htt⟩:∃ tt,tt=Fd.fold O f ks[i]:=⟨_,rfl⟩
    rw [← htt] at HK HGF HTK
    obtain ⟨dd,hdd⟩:∃ dd,dd=(ks.take i).map (Fd.fold O f):=⟨_,rfl⟩
    rw [← hdd] at HL HTK hdl
    clear htk htt hdd
    obtain ⟨sbp,sbc,hsb⟩:=row_formF HL.out.row
    rw [hdl] at hsb
    subst hsb
    go_wp2_with fail
    refine HK.out.mono ?_
    rintro e w5 ⟨a5,rfl,hat5,hb5⟩
    have q5:=(HL.out.below hb5).ln.c5
    have HAT5:=hide hat5
    have HB5:=hide hb5
    clear hat5 hb5 HK
    have q5a:=((HL.out.below HB5.out).below (bA (.cells #[pt a5] 39))).ln.c5
    go_wp2_with (at_builtin;refine wpList_append_own_at _ rfl _ _ 65 rfl w.heap.size 39 iN _ 1 8 Tryz.underlying65 hN hNz hNs hNb rfl (by decide) (.slice sbp i sbc) i (ab.map pt) rfl (((hdl ▸ (HL.out.below HB5.out).row)).alloc _) ⟨w5.heap.size,0,none⟩ 1 1 [pt a5] rfl rfl ?_ ?_ ?_ ?_ ?_ ?_)
    ·exact one_new _ _ _
    ·simp [Value.oneCell']
    ·unfold maxLen;omega
    ·omega
    ·have:=(HL.out.below HB5.out).B.size;simp;omega
    ·intro v6 w6 hown6 hgrow6 hnil6 hat6
     obtain ⟨p6,c6,rfl⟩:=row_formF hown6
     have q6:=(FB.keep6 HL.out HB5.out hgrow6).c5
     have q6f:=(FB.keep6 HL.out HB5.out hgrow6).fr 5
     have HP:=hide (HL.out.push HB5.out HAT5.out (by rw [hdl];exact hown6) hgrow6 (by rw [World.size_alloc];exact hat6))
     clear hgrow6 hown6 hat6 hnil6 q5 q5a
     go_upto_region 8 with fail
     generalize hw7:w6.setCell ⟨bo,5,none⟩ (.slice p6 (i+1) c6)=w7 at *
     clear hw7 q6 q6f
     obtain ⟨rsl,hroot,_⟩:=at_root (HP.out.kids_last)
     have HC:=hide (const_any HOS.out.leaf a5 tt.x rsl tt.p tt.b w7 hroot (fun hc=>((Fd.Good.const HGF.out) hc).1))
     clear hroot
     go_wp2_with fail
     refine HC.out.mono ?_
     rintro e w8 ⟨hb8,⟨hc8,g8,c8,rfl,hg8,hv8⟩ | ⟨hc8,rfl⟩⟩
     ·have hb9:Below w7.heap.size w7 (w8.alloc (.cells #[.slice (some ⟨g8,0,none⟩) 1 c8] 71)):=hb8.alloc hb8.size _
      have HB9:=hide hb9
      have HV9:=hide (hv8.below (bA (.cells #[.slice (some ⟨g8,0,none⟩) 1 c8] 71)))
      have HCS:Hid (csOf ((ks.take (i+1)).map (Fd.fold O f))=csOf dd++[tt.x]):=hide (by rw [HTK.out,cs_snoc,if_pos hc8])
      have hxl:xs.length≤1000000:=by
       have h1:=HP.out.vals.len
       have h2:(csOf dd).length≤dd.length:=by unfold csOf;exact Nat.le_trans (List.length_filter_le _ _) (by rw [List.length_map];exact Nat.le_refl _)
       omega
      obtain ⟨vp,vc,hvv⟩:=row_formF HP.out.vrow
      subst hvv
      have HG8:=hide hg8
      clear hb8 hv8 hb9 hg8 HC hc8
      go_wp2_with (at_builtin;refine wpList_append_own_at _ rfl _ _ 68 rfl w.heap.size 71 iV _ 1 24 Tryz.underlying68 hV hVz hVs hVb rfl (by decide) (.slice vp xs.length vc) xs.length xs rfl ((HP.out.below HB9.out).vrow.alloc _) ⟨w8.heap.size+1,0,none⟩ 1 1 [.slice (some ⟨g8,0,none⟩) 1 c8] rfl rfl ?_ ?_ ?_ ?_ ?_ ?_)
      ·intro j u h
       have:=one_new (w8.alloc (.cells #[.slice (some ⟨g8,0,none⟩) 1 c8] 71)) (.slice (some ⟨g8,0,none⟩) 1 c8) 71 j u h
       rw [World.size_alloc] at this
       exact this
      ·simp [Value.oneCell']
      ·unfold maxLen;omega
      ·omega
      ·have:=(HP.out.below HB9.out).B.size;simp at this ⊢;omega
      ·intro v9 w9 hown9 hgrow9 hnil9 hat9
       have HP9:=hide (HP.out.pushV HB9.out HG8.out HV9.out hown9 hgrow9 (by rw [World.size_alloc,World.size_alloc];exact hat9))
       clear hown9 hgrow9 hnil9 hat9
       go_wp2
       go_roundw
       case rel=>exact ⟨i+1,_,_,_,by omega,by go_num,by rw [HCS.out,HTK.out];exact HP9.out⟩
       case measure=>simp [intOf];omega
     ·have hb9:Below w7.heap.size w7 (w8.alloc (.cells #[.slice none 0 0] 71)):=hb8.alloc hb8.size _
      have HP9:=hide (HP.out.below hb9)
      have HCS:Hid (csOf ((ks.take (i+1)).map (Fd.fold O f))=csOf dd):=hide (by rw [HTK.out,cs_snoc,if_neg hc8,List.append_nil])
      clear hb8 hb9 HC hc8
      go_wp2
      go_roundw
      case rel=>exact ⟨i+1,_,_,_,by omega,by go_num,by rw [HCS.out,HTK.out];exact HP9.out⟩
      case measure=>simp [intOf];omega
   ·obtain rfl:i=ks.length:=by omega
    have hL2:=HL.out
    rw [List.take_length] at hL2
    have hlsl:(ks.map (Fd.fold O f)).length=ks.length:=List.length_map _
    have hgl:∀ t∈ks.map (Fd.fold O f),Fd.Good t:=fun t ht=>by
     obtain ⟨u,hu,rfl⟩:=List.mem_map.1 ht
     exact Fd.good_fold HFI.out f u (HGK.out u hu)
    have hlc:Fd.Loc x (ks.map (Fd.fold O f)):=HLO.out.len hlsl
    have hszl:Fd.sizeL (ks.map (Fd.fold O f))≤Fd.sizeL ks:=Fd.size_map_le (F:=Fd.fold O f) ks (fun t _=>Fd.size_fold O f t)
    obtain ⟨ls,hls⟩:∃ ls,ls=ks.map (Fd.fold O f):=⟨_,rfl⟩
    rw [← hls] at hL2 hlsl hgl hlc hszl
    have HLE:=hide hls
    have HF:=hide hL2
    have HGL:=hide hgl
    have HLC:=hide hlc
    have hb:=hL2.B
    clear HL hls hL2 hgl hlc
    obtain ⟨sbp,sbc,hsb⟩:=row_formF HF.out.row
    obtain ⟨vp,vc,hvv⟩:=row_formF HF.out.vrow
    subst hsb hvv
    have k0:=(HX.out.below hb).c0
    have k1:=(HX.out.below hb).c1
    have k6:=(HX.out.below hb).c6
    have b5:=HF.out.ln.c5
    have hcsl:=HF.out.vals.len
    have HBW:=hide hb
    clear hb
    have hkd:=HLC.out.low
    by_cases e6:x.kind=6
    ·have t6:(x.kind == 6)=true:=by simpa using e6
     obtain ⟨hl1,ho1,ho2⟩:=HLC.out.un e6
     have hk1:ks.length=1:=by omega
     obtain ⟨k,hk⟩:∃ k,ls=[k]:=by
      match ls,hl1 with
      | [k],_=>exact ⟨k,rfl⟩
     have HLK:=hide hk
     have HGk:=hide (HGL.out k (by rw [hk];simp))
     by_cases hc:Fd.isC k.x
     ·have hcs:csOf ls=[k.x]:=by rw [hk];unfold csOf;simp [hc]
      have hv:=HF.out.vals
      rw [hcs] at hv hcsl
      obtain ⟨g0,cc0,hx0,hv0⟩:=VL.one hv
      have hxl:xs.length=1:=hcsl
      obtain ⟨vg,vcc,hvg⟩:=row_posF HF.out.vrow (by omega)
      cases hvg
      have v0c:wr.cell? ⟨vg,0,none⟩=some (.slice (some ⟨g0,0,none⟩) 1 cc0):=row_cellF HF.out.vrow (by rw [hx0];rfl)
      have HUN:Hid (∀ w',Below wr.heap.size wr w'→Calls Tryz.prog 30 #[.int .i64 x.op,.agg #[.slice (some ⟨g0,0,none⟩) 1 cc0]] w' fun e w''=>∃ r,e = .returned r∧∃ p m c s q,r = .tuple #[.agg #[.slice p m c],.string s]∧VR w'' (.agg #[.slice p m c]) q∧Fd.okC q=O.un x.op k.x∧Below w'.heap.size w' w''):=hide (fun w' hb=>(HOS.out.un x.op k.x _ w' (HGk.out.const hc).1 (hv0.below hb) ho1 ho2).mono (fun _ _ ⟨p,m,c,s,q,h1,h2,h3,h4⟩=>⟨_,h1,p,m,c,s,q,rfl,h2,h3,h4⟩))
      have HB1:Hid (Below wr.heap.size wr wr.drew):=hide (Below.refl _ _).drew
      have HB2:Hid (Below wr.heap.size wr (wr.alloc (.cells #[.slice none 0 0] 71)).drew):=hide (bA _).drew
      have k1a:=(HB2.out.cell (p:=⟨a,1,none⟩) (Nat.lt_of_lt_of_le HX.out.lt HBW.out.size)).trans k1
      have v0a:=(HB2.out.cell (p:=⟨vg,0,none⟩) (HF.out.vrow.lt vg rfl).2).trans v0c
      rw [World.cell?_drew] at k1a v0a
      clear hcs hv hv0 hk hx0
      go_upto_region 15 with fail
      have hx0i:0 < xs.length:=by omega
      have hx0j:(0:Int) < (xs.length:Int):=by omega
      clear hxl hk1 hl1 hlsl hcsl
      go_cut [10,11] from 89 to 100 (fun v10 v11 wx=>∃ bx p m c q,v10=pt bx∧wx.cell? ⟨bx,0,none⟩=some (.slice p m c)∧VR wx (.agg #[.slice p m c]) q∧Fd.okC q=O.un x.op k.x∧Below wr.heap.size wr wx)
      case first =>
       go_region_law (first
        | (refine step_callF rfl 30 [.tmp 94,.tmp 97] _ rfl [.int .i64 x.op,.agg #[.slice (some ⟨g0,0,none⟩) 1 cc0]] (by simp [Act.eval]) Tryz.f30 Tryz.func30 (by kernel_rfl) (by kernel_rfl) _ (HUN.out _ HB1.out) ?_;rintro r w5 ⟨p5,m5,c5,s5,q5,rfl,hv5,ho5,hb5⟩;have HZ:=hide (And.intro hv5 (And.intro ho5 (And.intro (HB1.out.trans (hb5.mono HB1.out.size)) (HB1.out.trans (hb5.mono HB1.out.size)).size)));clear hv5 ho5 hb5)
        | (refine step_callF rfl 30 [.tmp 94,.tmp 97] _ rfl [.int .i64 x.op,.agg #[.slice (some ⟨g0,0,none⟩) 1 cc0]] (by simp [Act.eval]) Tryz.f30 Tryz.func30 (by kernel_rfl) (by kernel_rfl) _ (HUN.out _ HB2.out) ?_;rintro r w5 ⟨p5,m5,c5,s5,q5,rfl,hv5,ho5,hb5⟩;have y1:=(hb5.cell (p:=⟨wr.heap.size,0,none⟩) (by simp)).trans (box_new wr (.slice none 0 0) 71).1;have y2:=(hb5.frozen (p:=⟨wr.heap.size,0,none⟩) (by simp)).trans (box_new wr (.slice none 0 0) 71).2;have HZ:=hide (And.intro hv5 (And.intro ho5 (And.intro (HB2.out.trans (hb5.mono HB2.out.size)) (HB2.out.trans (hb5.mono HB2.out.size)).size)));clear hv5 ho5 hb5))
       all_goals
        go_wp2_with fail
        go_meet
        case rel =>
         first
          | exact ⟨_,p5,m5,c5,q5,rfl,by simp,HZ.out.1.below (bA _),HZ.out.2.1,HZ.out.2.2.1.alloc HZ.out.2.2.2 _⟩
          | exact ⟨wr.heap.size,p5,m5,c5,q5,rfl,set_same y1,HZ.out.1.setS y1,HZ.out.2.1,HZ.out.2.2.1.setCell (Nat.le_refl _) _⟩
      case rest =>
       obtain ⟨bx,p5,m5,c5,q5,rfl,x0,hv5,ho5,hb5⟩:=hcut
       have HBK:=hide (back_any _ q5 wc hv5)
       have HFc:=hide (HF.out.below hb5)
       have HO5:=hide ho5
       clear hv5 ho5 hb5 HUN HB1 HB2
       have hx5:=(HX.out.below HFc.out.B).c0
       go_wp2_with fail
       refine HBK.out.mono ?_
       rintro e w6 ⟨hb6,hm6⟩
       rw [HO5.out] at hm6
       have HF6:=hide (HFc.out.below hb6)
       have HB6:=hide hb6
       cases hun:O.un x.op k.x with
       | none =>
        rw [hun] at hm6
        obtain ⟨pp,rfl⟩:=hm6
        have HFIN:Hid (Fd.fin O (Fd.fold O f) x p b ls = .mk x p b ls):=hide (by unfold Fd.fin;rw [if_pos e6,HLK.out];simp only;rw [if_pos hc,hun];rfl)
        clear hb6 HBK hun
        go_wp2
        go_ret
        refine ⟨bo,rfl,?_,HF6.out.B⟩
        rw [← HLE.out,HFIN.out]
        exact HF6.out.end_
       | some cc6 =>
        rw [hun] at hm6
        obtain ⟨a6,rfl,hat6⟩:=hm6
        have HFIN:Hid (Fd.fin O (Fd.fold O f) x p b ls=Fd.one cc6):=hide (by unfold Fd.fin;rw [if_pos e6,HLK.out];simp only;rw [if_pos hc,hun];rfl)
        have HAT6:=hide hat6
        clear hb6 HBK hun hat6
        go_wp2
        go_ret
        refine ⟨a6,rfl,?_,HF6.out.B⟩
        rw [← HLE.out,HFIN.out]
        exact HAT6.out.go (fun q e=>⟨by have:=HFc.out.B.size;omega,e.2⟩) (fun _ _=>rfl)
     ·have hcs:csOf ls=[]:=by rw [hk];unfold csOf;simp [hc]
      rw [hcs] at hcsl
      have hxl:xs.length=0:=hcsl
      have HFIN:Hid (Fd.fin O (Fd.fold O f) x p b ls = .mk x p b ls):=hide (by unfold Fd.fin;rw [if_pos e6,HLK.out];simp only;rw [if_neg hc])
      clear hcs hk
      go_wp2
      go_ret
      refine ⟨bo,rfl,?_,HF.out.B⟩
      rw [← HLE.out,HFIN.out]
      exact HF.out.end_
    ·by_cases e7:x.kind=7
     ·exact absurd HKD.out (by omega)
     ·by_cases e13:x.kind=13
      ·exact absurd HKD.out (by omega)
      ·by_cases e14:x.kind=14
       ·exact absurd HKD.out (by omega)
       ·exact absurd HKD.out (by omega)
end Go.Proofs.YthbojbbmpcmoaaaGreatDoor
