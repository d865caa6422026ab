/- Foi, Fwa, Fq1, Fq3. -/
import Derived.Test.YthbojbbmpcmoaaaGreatDoorZ36
import Derived.Test.YthbojbbmpcmoaaaGreatDoorZ44
import Derived.Test.YthbojbbmpcmoaaaGreatDoorZ45
import Derived.Test.YthbojbbmpcmoaaaGreatDoorZ46
import Derived.Test.YthbojbbmpcmoaaaGreatDoorZ48
import Derived.Test.YthbojbbmpcmoaaaGreatDoorZ49
import Derived.Test.YthbojbbmpcmoaaaGreatDoorZ37
import Derived.Test.YthbojbbmpcmoaaaGreatDoorZ43
import Derived.Test.YthbojbbmpcmoaaaGreatDoorZ35
import Derived.HandedShaped
import Derived.Shelf.Vars
namespace Go.Proofs.YthbojbbmpcmoaaaGreatDoor
open Go.RowKit
theorem fold_any {O:FOp} (HO:OpsS O) (hF:Fd.Fine O):∀ f:Nat,FoldAt O f:=by
 intro f
 induction f with
 | zero=>intro y hy;have:=Fd.size_pos y;omega
 | succ f ih =>
  intro y hy hn hg a w h
  by_cases e6:y.x.kind=6
  ·exact fold_6 HO hF f ih y hy hn hg e6 a w h
  ·by_cases e7:y.x.kind=7
   ·exact fold_7 HO hF f ih y hy hn hg e7 a w h
   ·by_cases e13:y.x.kind=13
    ·exact fold_13 HO hF f ih y hy hn hg e13 a w h
    ·by_cases e14:y.x.kind=14
     ·exact fold_14 HO hF f ih y hy hn hg e14 a w h
     ·exact fold_p HO hF f ih y hy hn hg ⟨e6,e7,e13,e14⟩ a w h
theorem bin_no (op:Int) (hop:op=11∨op=12∨op=13∨op=14) {t u:Vl.T} (h:¬ (t.kind=3∧u.kind=3)):Vl.binOut op t u = .inl Vl.tyW:=by
 rcases hop with rfl | rfl | rfl | rfl <;> exact if_neg h
set_option maxRecDepth 100000 in
set_option maxHeartbeats 4000000 in
theorem opD (op:Int) (hop:op=11∨op=12∨op=13∨op=14) (x y:Tr.Nd) (hx:Fd.CN x) (hy:Fd.CN y) (g c g' c':Nat) (w:World) (h:AC w g x) (h':AC w g' y):Calls Tryz.prog 32 #[.int .i64 op,av g c,av g' c'] w (SPost (Vl.binOut op (Fd.tn x) (Fd.tn y)) w):=by
 have HK1:=hide (fun (w':World) (hb:Below w.heap.size w w')=>kind1 x g c w' (h.below hb))
 have HK2:=hide (fun (w':World) (hb:Below w.heap.size w w')=>kind1 y g' c' w' (h'.below hb))
 have HL1:=hide (fun (w':World) (hb:Below w.heap.size w w')=>last1 x g c w' (h.below hb))
 have HL2:=hide (fun (w':World) (hb:Below w.heap.size w w')=>last1 y g' c' w' (h'.below hb))
 have HV1:=hide (fun (w':World) (hb:Below w.heap.size w w')=>valid1 x (.inl hx) g c w' (h.below hb))
 have HV2:=hide (fun (w':World) (hb:Below w.heap.size w w')=>valid1 y (.inl hy) g' c' w' (h'.below hb))
 have HHAS:=hide (fun (w':World) (hb:Below w.heap.size w w')=>has1 x y hx hy g c g' c' w' (h.below hb) (h'.below hb))
 have HADD:=hide (fun (w':World) (hb:Below w.heap.size w w')=>add1 x y hx hy g c g' c' w' (h.below hb) (h'.below hb))
 obtain ⟨od,hod⟩:∃ od,od=(Fd.tn x).ord (Fd.tn y):=⟨_,rfl⟩
 have HRNG:Hid (od = -1∨od=0∨od=1):=hide (hod ▸ ord_rangeL x y)
 have HO:=hide (fun (w':World) (hb:Below w.heap.size w w')=>order1 x y hx.c g c g' c' w' (h.below hb) (h'.below hb))
 rw [← hod] at HO
 have HOD:=hide hod
 have HIN:=hide (fun w=>in1W op (by omega) (by omega) w)
 have hcx:=hx.c
 unfold Fd.isC at hcx
 have HCX:=hide hcx
 have G1:=fun w=>fldA1 x.kind x.n 0 x.text w
 have G2:=fun w=>fldA1 y.kind y.n 0 y.text w
 have HX:=hide hx
 have HY:=hide hy
 have O0:=hide (OB.start w (.slice (some ⟨g,0,none⟩) 1 c) (.slice (some ⟨g',0,none⟩) 1 c'))
 have a0:=O0.out.a
 have b0:=O0.out.b
 clear h h' hod hcx hx hy
 go_enter Tryz.func32,Tryz.ntmps32
 go_wp2_with fail
 refine (HV1.out _ O0.out.B).mono ?_
 rintro e w1 ⟨rfl,hb1⟩
 have O1:=hide (O0.out.below hb1)
 have a1:=O1.out.a
 have b1:=O1.out.b
 clear hb1 a0 b0
 go_wp2_with fail
 refine (HV2.out _ O1.out.B).mono ?_
 rintro e w2 ⟨rfl,hb2⟩
 have O2:=hide (O1.out.below hb2)
 have a2:=O2.out.a
 have b2:=O2.out.b
 clear hb2 a1 b1
 go_wp2_with fail
 refine (HIN.out _).mono ?_
 rintro e w2' ⟨rfl,rfl⟩
 go_wp2_with fail
 refine (HO.out _ O2.out.B).mono ?_
 rintro e w3 ⟨rfl,hb3⟩
 have O3:=hide (O2.out.below hb3)
 have a3:=O3.out.a
 have b3:=O3.out.b
 clear hb3 a2 b2
 go_wp2_with fail
 refine (HK1.out _ O3.out.B).mono ?_
 rintro e w4 ⟨rfl,hb4⟩
 have O4:=hide (O3.out.below hb4)
 have a4:=O4.out.a
 have b4:=O4.out.b
 clear hb4 a3 b3
 have HBIG:Hid (op≤14∧11≤op):=hide ⟨by omega,by omega⟩
 have n3:(op == 3)=false:=by simpa using (by omega:op≠3)
 have n4:(op == 4)=false:=by simpa using (by omega:op≠4)
 have n9:(op == 9)=false:=by simpa using (by omega:op≠9)
 have n10:(op == 10)=false:=by simpa using (by omega:op≠10)
 have m2:¬ (op≤2):=by omega
 have m8:¬ (op≤8):=by omega
 by_cases hk:x.kind=y.kind
 ·have tk:(x.kind != y.kind)=false:=by simpa using hk
  by_cases h1:x.kind=3
  ·have t1:(x.kind != 3)=false:=by simpa using h1
   have HNU:=hide (fun w=>num1 op hop HX.out HY.out h1 (by omega) w)
   obtain ⟨OT,hOT⟩:∃ o,o=Vl.binOut op (Fd.tn x) (Fd.tn y):=⟨_,rfl⟩
   rw [← hOT] at HNU
   have HOUT:=hide hOT
   clear hk h1 hop hOT
   go_wp2_with fail
   refine (HK2.out _ O4.out.B).mono ?_
   rintro e w5 ⟨rfl,hb5⟩
   have O5:=hide (O4.out.below hb5)
   have a5:=O5.out.a
   have b5:=O5.out.b
   clear hb5 a4 b4
   go_wp2_with fail
   go_region_held3 (fun w'=>w'.cell? ⟨w.heap.size,0,none⟩=some (.slice (some ⟨g,0,none⟩) 1 c)∧w'.cell? ⟨w.heap.size+1,0,none⟩=some (.slice (some ⟨g',0,none⟩) 1 c')) (go_keep) (first
    | (refine Vl.step_call1 rfl 83 (.tmp 126) 71 rfl (av g c) (agA x) (by simp [Act.eval]) Tryz.f83 Tryz.func83 (by kernel_rfl) (by kernel_rfl) _ (HL1.out _ O5.out.drew.B) ?_;intro w6 hw6;have ow6:=O5.out.drew.below hw6;have aw6:=ow6.a;have bw6:=ow6.b)
    | (refine Vl.step_call1 rfl 83 (.tmp 129) 71 rfl (av g' c') (agA y) (by simp [Act.eval]) Tryz.f83 Tryz.func83 (by kernel_rfl) (by kernel_rfl) _ (HL2.out _ ow6.B) ?_;intro w7 hw7;have ow7:=ow6.below hw7;have aw7:=ow7.a;have bw7:=ow7.b)
    | (refine step_callF rfl 89 [.tmp 125,.tmp 128,.tmp 131] _ rfl [.int .i64 op,.int .i64 x.n,.int .i64 y.n] (by simp [Act.eval]) Tryz.f89 Tryz.func89 (by kernel_rfl) (by kernel_rfl) (fun r w8=>∃ p8 m8 c8 s8,r = .tuple #[.agg #[.slice p8 m8 c8],.string s8]∧SV OT w7.heap.size (.slice p8 m8 c8) w8∧Below w7.heap.size w7 w8) ((HNU.out w7).mono (fun _ _ ⟨p8,m8,c8,s8,y1,y2,y3⟩=>⟨_,y1,p8,m8,c8,s8,rfl,y2,y3⟩)) ?_;rintro r w8 ⟨p8,m8,c8,s8,rfl,hsv,hb8⟩;have o8:=ow7.below hb8;have a8:=o8.a;have b8:=o8.b;have r8:=o8.r;have f8:=o8.f;have s0:=(World.cell?_setCell_other w8 ⟨w.heap.size+1+1,0,none⟩ ⟨w.heap.size,0,none⟩ (.slice p8 m8 c8) (by simp)).trans a8;have s1:=(World.cell?_setCell_other w8 ⟨w.heap.size+1+1,0,none⟩ ⟨w.heap.size+1,0,none⟩ (.slice p8 m8 c8) (by simp)).trans b8)
    | fail)
   have hz7:=ow7.z
   have O8:=hide o8
   have HSV:=hide hsv
   have hB7:=ow7.B.size
   clear s0 s1 a8 b8 ow6 ow7 hw6 hw7 hb8 aw6 bw6 aw7 bw7 hsv o8
   go_wp2
   refine bodyPost_ret (v:= .tuple #[.agg #[.slice p8 m8 c8],.string s8]) (by simp [results,Tryz.results32,go_sem,r8]) rfl ?_
   rw [← HOUT.out]
   exact ⟨p8,m8,c8,s8,rfl,HSV.out.set (by omega) (by omega),O8.out.set _⟩
  ·have t1:(x.kind != 3)=true:=by simpa using h1
   have HOUT:=hide (bin_no op hop (t:=Fd.tn x) (u:=Fd.tn y) (fun e=>h1 e.1))
   clear hk h1 hop
   go_wp2_with fail
   refine (HK2.out _ O4.out.B).mono ?_
   rintro e w5 ⟨rfl,hb5⟩
   have O5:=hide (O4.out.below hb5)
   have a5:=O5.out.a
   have b5:=O5.out.b
   clear hb5 a4 b4
   go_wp2_with fail
   refine (noW _ _).mono ?_
   rintro e w6 ⟨rfl,hb6⟩
   have O6:=hide (O5.out.below hb6)
   have r6:=O6.out.r
   have f6:=O6.out.f
   clear hb6
   go_wp2
   refine bodyPost_ret (v:= .tuple #[.agg #[.slice none 0 0],.string ⟨#[116,121,112,101]⟩]) (by simp [results,Tryz.results32,go_sem,r6]) rfl ?_
   rw [HOUT.out]
   exact sp_word (O6.out.set _)
 ·have tk:(x.kind != y.kind)=true:=by simpa using hk
  have hki:¬ (x.kind=y.kind):=hk
  have HOUT:=hide (bin_no op hop (t:=Fd.tn x) (u:=Fd.tn y) (fun e=>hk (e.1.trans e.2.symm)))
  clear hk hop
  go_wp2_with fail
  refine (HK2.out _ O4.out.B).mono ?_
  rintro e w5 ⟨rfl,hb5⟩
  have O5:=hide (O4.out.below hb5)
  have a5:=O5.out.a
  have b5:=O5.out.b
  clear hb5 a4 b4
  go_wp2_with fail
  refine (noW _ _).mono ?_
  rintro e w6 ⟨rfl,hb6⟩
  have O6:=hide (O5.out.below hb6)
  have r6:=O6.out.r
  have f6:=O6.out.f
  clear hb6
  go_wp2
  refine bodyPost_ret (v:= .tuple #[.agg #[.slice none 0 0],.string ⟨#[116,121,112,101]⟩]) (by simp [results,Tryz.results32,go_sem,r6]) rfl ?_
  rw [HOUT.out]
  exact sp_word (O6.out.set _)
theorem specOp_leaf (op:Int) (h1:1≤op) (h2:op≤14) (x y:Tr.Nd) (hx:Fd.CN x) (hy:Fd.CN y) (g c g' c':Nat) (w:World) (h:AC w g x) (h':AC w g' y):Calls Tryz.prog 32 #[.int .i64 op,av g c,av g' c'] w (SPost (Vl.binOut op (Fd.tn x) (Fd.tn y)) w):=by
 have hc:(op=3∨op=4∨op=9∨op=10)∨(op=5∨op=6∨op=7∨op=8)∨(op=1∨op=2)∨(op=11∨op=12∨op=13∨op=14):=by omega
 rcases hc with hc | hc | hc | hc
 ·exact opA op hc x y hx hy g c g' c' w h h'
 ·exact opB op hc x y hx hy g c g' c' w h h'
 ·exact opC op hc x y hx hy g c g' c' w h h'
 ·exact opD op hc x y hx hy g c g' c' w h h'
theorem opsS:OpsS Fd.O:=⟨leafS,fun op x v w hx hv h1 h2=>by
  obtain ⟨g,c,rfl,ha⟩:=hv.ac
  refine (specUn_any op (by omega) x hx g c w ha).mono fun e w' h=>?_
  obtain ⟨p,m,c,s,r,a1,a2,a3,a4⟩:=h.vr
  exact ⟨p,m,c,s,r,a1,a2,a3,a4⟩,fun op x y v u w hx hy hv hu h1 h2=>by
  obtain ⟨g,c,rfl,ha⟩:=hv.ac
  obtain ⟨g',c',rfl,ha'⟩:=hu.ac
  refine (specOp_leaf op h1 h2 x y hx hy g c g' c' w ha ha').mono fun e w' h=>?_
  obtain ⟨p,m,c,s,r,a1,a2,a3,a4⟩:=h.vr
  exact ⟨p,m,c,s,r,a1,a2,a3,a4⟩⟩
set_option maxRecDepth 100000 in
set_option maxHeartbeats 2000000 in
theorem lawF_any (l:List Tr.Nd) (v:Value) (w:World) (hl:l.length≤9223372036854775807) (hx:∀ x∈l,x.text.size≤9223372036854775807) (h64:∀ x∈l,x.n < 9223372036854775808) (hG:GlobB w) (hGI:Vl.GI w) (ht:NodesV w v l) :
  Calls Tryz.prog 3 #[.agg #[v]] w fun e w'=>e = .returned (.bool true)∧Below w.heap.size w w':=by
 have r1:Below w.heap.size w (w.alloc (.cells #[v] 24)):=bA _
 have HZ:=hide (szTree_any l v (w.alloc (.cells #[v] 24)) hl hx (ht.below r1))
 have HT:=hide ht
 have HG:=hide hG
 have HGI:=hide hGI
 have H64:=hide h64
 clear ht hG hGI h64
 by_cases hr:Tr.szS l 1048576 < 0
 ·have HZ2:=HZ.out
  rw [if_pos hr] at HZ2
  replace HZ2:=hide HZ2
  go_enter Tryz.func3,Tryz.ntmps3
  go_wp2_with fail
  refine HZ2.out.mono ?_
  rintro e w1 ⟨rfl,hb1⟩
  go_wp2
  go_ret
  exact ⟨rfl,r1.trans (hb1.mono (by simp))⟩
 ·obtain ⟨hl2,hx2⟩:=Tr.szS_ok l hr
  have HZ2:=HZ.out
  rw [if_neg hr] at HZ2
  replace HZ2:=hide HZ2
  have HX:=hide hx2
  clear HZ hx hl hx2
  generalize Tr.szS l 1048576=r at *
  have HTT:Hid (∀ w',Below w.heap.size w w'→Calls Tryz.prog 6 #[.agg #[v]] w' fun e w''=>∃ g,e = .returned (.agg #[.slice (some ⟨g,0,none⟩) l.length l.length])∧OwnN w'' w'.heap.size g l∧w'.heap.size≤g∧Below w'.heap.size w' w''):=hide fun w' hb=>toTreeO_any l v w' hl2 (HT.out.below hb)
  have HRS:=hide (fun tg w' (h:NodesAt w' tg l)=>(specFold_any (fold_any opsS Fd.fine_O) l tg l.length w' hl2 h H64.out).mono fun _ w'' ⟨vs,y1,y2,y3⟩=>(show ∃ vs,_=Ending.returned (.agg #[vs])∧RowT w'' w'.heap.size w''.heap.size vs (Fd.foldOf Fd.O l).length (Tr.cellsOf (Fd.foldOf Fd.O l))∧Below w'.heap.size w' w'' from ⟨vs,y1,rowt_of y2,y3⟩))
  have HRI:=hide (fun tg w' (hb:Below w.heap.size w w') (h:NodesAt w' tg l)=>(ifold_any l tg l.length w' hl2 HX.out H64.out (HG.out.below hb) (HGI.out.below hb) h).mono fun _ w'' ⟨vs,y1,y2,y3⟩=>(show ∃ vs,_=Ending.returned (.agg #[vs])∧RowT w'' w'.heap.size w''.heap.size vs (Fd.foldOf Fd.O l).length (Tr.cellsOf (Fd.foldOf Fd.O l))∧Below w'.heap.size w' w'' from ⟨vs,y1,rowt_of y2,y3⟩))
  have HLN:(Fd.foldOf Fd.O l).length≤1048576:=by
   unfold Fd.foldOf
   by_cases hf:Tr.fitsOf l=true
   ·rw [if_pos hf,Fd.give_len _ _ (Nat.le_refl _)]
    have h1:=Fd.size_fold Fd.O l.length (Fd.take l (Tr.kids l) (Tr.bindsOf l) l.length (l.length - 1))
    rw [(Fd.fits_tree hf H64.out).2.2] at h1
    omega
   ·rw [if_neg hf];simp
  generalize Fd.foldOf Fd.O l=b at *
  go_enter Tryz.func3,Tryz.ntmps3
  go_wp2_with fail
  refine HZ2.out.mono ?_
  rintro e w1 ⟨rfl,hb1⟩
  have L1:LB5 w v w1:=⟨r1.trans (hb1.mono (by simp)),(hb1.cell (p:=⟨w.heap.size,0,none⟩) (by simp)).trans (by simp),Nat.lt_of_lt_of_le (by simp) hb1.size⟩
  clear hb1
  have c1:=L1.c
  have HL1:=hide L1
  go_wp2_with fail
  refine (HTT.out _ HL1.out.B).mono ?_
  rintro e w2 ⟨ga,rfl,na,hga,hb2⟩
  have HL2:=hide (HL1.out.below hb2 HL1.out.z)
  have HNA:=hide na.nodes
  clear hb2 na L1 c1 HL1
  go_wp2_with fail
  refine (HRS.out _ _ HNA.out).mono ?_
  rintro e w3 ⟨vs,rfl,hs3,hb3⟩
  obtain ⟨ps,ms,cs,rfl⟩:=hs3.slice
  obtain ⟨t3,u3,z3⟩:=box_in w3 (.slice ps ms cs)
  have HL3':=hide (HL2.out.below hb3 HL2.out.z)
  have HR3:Hid (LR w v (.slice ps ms cs) w2.heap.size w3.heap.size b (w3.alloc (.cells #[.slice ps ms cs] 28))):=hide ⟨HL3'.out.below t3 HL3'.out.z,u3,hs3.below t3 (Nat.le_refl _),HL3'.out.z,by rw [z3];exact Nat.lt_succ_self _⟩
  have c3:=HR3.out.L.c
  clear hb3 hs3 HNA HL2 hga u3 t3 HL3'
  go_wp2_with fail
  refine (HTT.out _ HR3.out.L.B).mono ?_
  rintro e w4 ⟨gb,rfl,nb,hgb,hb4⟩
  rw [z3] at hb4 hgb
  obtain ⟨t4,u4,z4⟩:=box_in w4 (.slice (some ⟨gb,0,none⟩) l.length l.length)
  have hz4:=hb4.size
  rw [z3] at hz4
  have HR4:=hide ((HR3.out.below hb4 (Nat.lt_succ_self _)).below t4 (by omega))
  have HX4:Hid (LX (w3.heap.size+1) w4.heap.size gb l (w4.alloc (.cells #[.slice (some ⟨gb,0,none⟩) l.length l.length] 28))):=hide ⟨u4,by rw [← z3];exact nb.alloc (.cells #[.slice (some ⟨gb,0,none⟩) l.length l.length] 28),(nb.lt gb rfl).2,by rw [z4];exact Nat.lt_succ_self _⟩
  clear hb4 nb t4 c3 HR3
  have HB5:=hide (HRI.out gb _ HR4.out.L.B (OwnN.nodes HX4.out.N))
  go_wp2_with fail
  refine HB5.out.mono ?_
  rintro e w5 ⟨vg,rfl,hg5,hb5⟩
  rw [z4] at hb5 hg5
  obtain ⟨pg,mg,cg,rfl⟩:=hg5.slice
  obtain ⟨t5,u5,z5⟩:=box_in w5 (.slice pg mg cg)
  have hz5:=hb5.size
  rw [z4] at hz5
  have HR5:=hide ((HR4.out.below hb5 (by omega)).below t5 (by omega))
  have HX5:=hide ((HX4.out.below hb5 (Nat.lt_succ_self _)).below t5 (by omega))
  have HG5:Hid (LG (.slice pg mg cg) (w4.heap.size+1) w5.heap.size b.length (Tr.cellsOf b) (w5.alloc (.cells #[.slice pg mg cg] 28))):=hide ⟨u5,hg5.below t5 (Nat.le_refl _),by rw [z5];exact Nat.lt_succ_self _⟩
  have d5:=HR5.out.U
  clear hb5 hg5 t5 HB5 HR4 HX4 u4
  go_wp2_with fail
  refine (eqTree_v b _ _ _ HLN HG5.out.R.nod HR5.out.S.nod).mono ?_
  rintro e w6 ⟨rfl,hb6⟩
  have hz6:=hb6.size
  rw [z5] at hz6 hb6
  have HR6:=hide (HR5.out.below hb6 (by omega))
  have HX6:=hide (HX5.out.below hb6 (by omega))
  have HG6:=hide (HG5.out.below hb6 (by omega))
  have x6:=HX6.out.X
  have c6:=HR6.out.L.c
  have hzz6:w4.heap.size < w6.heap.size:=by omega
  clear hb6 d5 u5 HR5 HX5 HG5
  go_upto_region 10 with fail
  go_cut [31] from 27 to 31 (fun v31 wx=>v31 = .bool false∧Below w6.heap.size w6 wx)
  case first =>
   go_region_with (first
    | (go_at_call 6;refine (HTT.out _ HR6.out.L.B.drew).mono ?_;rintro e w7 ⟨gc,rfl,nc,hgc,hb7⟩;have s7:=(hb7.cell (p:=⟨w4.heap.size,0,none⟩) hzz6).trans x6;have nb7:=(OwnN.nodes HX6.out.N).below ((Below.refl _ _).drew.trans hb7))
    | (go_at_call 8;refine (eqTree_same l gb gc l.length l.length _ hl2 nb7 nc.nodes).mono ?_;rintro e w8 ⟨rfl,hb8⟩))
   all_goals
    go_wp2_with fail
    go_meet
    case rel=>exact ⟨rfl,(Below.refl _ _).drew.trans (hb7.trans (hb8.mono hb7.size))⟩
  case rest =>
   obtain ⟨rfl,hb8⟩:=hcut
   have hz8:=hb8.size
   have HR8:=hide (HR6.out.below hb8 (by omega))
   have HX8:=hide (HX6.out.below hb8 (by omega))
   have HG8:=hide (HG6.out.below hb8 (by omega))
   have x8:=HX8.out.X
   have hgb4:=HX8.out.o
   clear hb8 x6 c6 HR6 HX6 HG6
   have HMT:=hide (markTree_any l.length gb l.length (w3.heap.size+1) _ wc hl2 HX8.out.N (by omega))
   go_wp2_with fail
   refine HMT.out.mono ?_
   rintro e w9 ⟨rfl,_,hfr9,hb9⟩
   have hz9:=hb9.size
   have HR9:=hide (HR8.out.below hb9 (Nat.lt_succ_self _))
   have HG9:=hide (HG8.out.but hb9.size hfr9 (by omega) (by omega))
   have g9:=HG9.out.G
   have d9:=HR9.out.U
   clear hb9 hfr9 x8 HR8 HX8 HG8 HMT
   have hkp:¬ (1+5*(l.length:Int) < 0):=by omega
   have hkd:decide (1+5*(l.length:Int) < 0)=false:=by simp;omega
   go_wp2_with fail
   refine (eqTree_v b _ _ _ HLN HG9.out.R.nod HR9.out.S.nod).mono ?_
   rintro e w10 ⟨rfl,hb10⟩
   have hz10:=hb10.size
   have HR10:=hide (HR9.out.below hb10 (by omega))
   have HG10:=hide (HG9.out.below hb10 (by omega))
   have g10:=HG10.out.G
   clear hb10 HR9 HG9 g9 d9
   go_wp2_with fail
   refine (markT_t b.length _ _ _ _ w10 HLN (by omega) HG10.out.R).mono ?_
   rintro e w11 ⟨rfl,hr11,hfr11,hb11⟩
   have hz11:=hb11.size
   have HR11:=hide (HR10.out.below hb11 (by omega))
   have HG11:Hid (LG (.slice pg mg cg) (w4.heap.size+1) w5.heap.size b.length (Tr.marked5 b.length) w11):=hide ⟨(World.cell?_of_block (a:=⟨w5.heap.size,0,none⟩) (hfr11 _ (by show w5.heap.size < w10.heap.size;omega) (Nat.le_refl _))).trans g10,hr11,by omega⟩
   have g11:=HG11.out.G
   clear hb11 hfr11 hr11 HR10 HG10 g10
   go_wp2_with fail
   refine (heldT_t b.length _ _ _ w11 HLN HG11.out.R).mono ?_
   rintro e w12 ⟨rfl,hb12⟩
   have hz12:=hb12.size
   have HR12:=hide (HR11.out.below hb12 (by omega))
   have HG12:=hide (HG11.out.below hb12 (by omega))
   have c12:=HR12.out.L.c
   clear hb12 HR11 HG11 g11
   have hnn:¬ (1+5*(b.length:Int) < 0):=by omega
   go_wp2_with fail
   refine (HTT.out _ HR12.out.L.B).mono ?_
   rintro e w13 ⟨gd,rfl,nd,hgd,hb13⟩
   have hz13:=hb13.size
   have HR13:=hide (HR12.out.below hb13 (by omega))
   have HG13:=hide (HG12.out.below hb13 (by omega))
   have HND:=hide nd.nodes
   clear hb13 nd hgd c12 HR12 HG12
   have HB14:=hide (HRI.out gd _ HR13.out.L.B HND.out)
   go_wp2_with fail
   refine HB14.out.mono ?_
   rintro e w14 ⟨vh,rfl,hrh,hb14⟩
   have hz14:=hb14.size
   obtain ⟨ph,mh,ch,rfl⟩:=hrh.slice
   obtain ⟨t14,u14,z14⟩:=box_in w14 (.slice ph mh ch)
   have HR14:=hide ((HR13.out.below hb14 (by omega)).below t14 (by omega))
   have HG14:=hide ((HG13.out.below hb14 (by omega)).below t14 (by omega))
   have HRH:=hide (hrh.below t14 (Nat.le_refl _))
   have d14:=HR14.out.U
   clear hb14 hrh t14 HR13 HG13 HB14 HND
   go_wp2_with fail
   refine (eqTree_v b _ _ _ HLN HRH.out.nod HR14.out.S.nod).mono ?_
   rintro e w15 ⟨rfl,hb15⟩
   have hz15:=hb15.size
   rw [z14] at hb15 hz15
   have HR15:=hide (HR14.out.below hb15 (by omega))
   have HG15:=hide (HG14.out.below hb15 (by omega))
   have g15:=HG15.out.G
   clear hb15 u14 d14 HR14 HG14 HRH
   go_wp2_with fail
   refine (heldT_t b.length _ _ _ w15 HLN HG15.out.R).mono ?_
   rintro e w16 ⟨rfl,hb16⟩
   have HR16:=hide (HR15.out.below hb16 (by omega))
   clear hb16 g15 HR15 HG15
   go_wp2
   go_ret
   exact ⟨rfl,HR16.out.L.B⟩
end Go.Proofs.YthbojbbmpcmoaaaGreatDoor
namespace Go.Proofs.YthbojbbmpcmoaaaGreatDoor
open Go.ChangeShapes Go.WideShapes Go.ChangeAt Go.RowKit Go.ChangeMaps
theorem ret_shaped {H:Type} {enc:TypeId × Value→H} {a:Assume} {C:Checked} {os:Os} {f:FuncId} {fn:Func} {s:ChangeSpec} {conds:List PathCond} {apart fresh handsOn again:Bool} {X:World→Array Value→Prop}
  (hX:∀ (w w':World) (args:Array Value),w.heap=w'.heap→X w args→X w' args)
  (own:ownKnob C.prog.godebug=none) (started:os.Started) (noInit:C.prog.inits.idxOf? f=none) (hfn:C.prog.funcs[f]?=some fn)
  (witness:∃ (w:World) (tape:Tape) (i:Input),w.os=os∧(w.forCall tape i).Shaped C.prog∧i.vars=[]∧Input.okWide C.prog (w.forCall tape i) .any w.heap.size f i ∧
    ((s.pre enc C.prog fn conds apart (w.forCall tape i).memory i.args∧X (w.forCall tape i).memory i.args)∧sizedMet enc C.prog fn (OpenSpec.ofChange s) apart (w.forCall tape i).memory i.args)∧a.holds C.prog (lone (Frame.enter C.prog f i.args .normal) [] (w.forCall tape i)))
  (contract:∀ (W:World) (base:Nat) (args:Array Value) (ds gs:List (DataW H)) (before:List MemPlace),
    (∀ (j:Nat) t v,fn.params[j]?=some t→args[j]?=some v→Value.okWide C.prog W .any base t v) →
    DataW.Whole enc C.prog fn.params.toList s.vars apart W args.toList ds gs before→X W args→W.ShapedOpen C.prog →
    Calls C.prog f args W fun e W'=>∃ v,e = .returned v∧s.post enc C.prog fn apart fresh handsOn again W args v W') :
  ReturnsInHanded a C os f .any (fun w args=>(s.pre enc C.prog fn conds apart w args∧X w args)∧sizedMet enc C.prog fn (OpenSpec.ofChange s) apart w args) (s.post enc C.prog fn apart fresh handsOn again):=by
 refine returnsInHanded_of_calls own started noInit witness fun w tape i _ hsh _ hok hpre _=>?_
 obtain ⟨_,_,_,fn',hfn',_,_,_,_,hval⟩:=hok
 have e:fn'=fn:=Option.some.inj (hfn'.symm.trans hfn)
 subst e
 obtain ⟨⟨⟨ds,gs,before,hw,_⟩,hx⟩,_⟩:=hpre
 refine (contract (w.forCall tape i) w.heap.size i.args ds gs before hval (DataW.Whole.of_heap (w':=w.forCall tape i) (by rfl) hw) (hX _ _ _ (by rfl) hx) hsh).mono fun e W' ⟨v,he,hp⟩=>?_
 subst he
 exact ChangeSpec.post_blind hp
theorem door_metF (os:Os) (args:Array Value):laidMetH Tryz.prog Rows.fnExactFoldRow.laid ((World.doorLaid Tryz.prog 303 os).forCall (fun _ _=>0) ⟨#[],args,[]⟩).memory :=
 laidMetH_of_parts3 (fuel:=8) (laidMet_of_run' 8 (by kernel_rfl) (by kernel_rfl)) (by kernel_rfl) (by kernel_rfl)
set_option maxRecDepth 100000 in
set_option maxHeartbeats 1000000 in
theorem liftedF (os:Os) (started:os.Started) (H:Type) (enc:TypeId × Value→H) :
  ReturnsInHanded {} Tryz.checked os 3 .any (fun w args=>(Rows.fnExactFoldSpec.pre enc Tryz.prog Tryz.f3 [] false w args∧laidMetH Tryz.prog Rows.fnExactFoldRow.laid w)∧sizedMet enc Tryz.prog Tryz.f3 (OpenSpec.ofChange Rows.fnExactFoldSpec) false w args)
   (Rows.fnExactFoldSpec.post enc Tryz.prog Tryz.f3 false true false false):=by
 refine ret_shaped (C:=Tryz.checked) (X:=fun w _=>laidMetH Tryz.prog Rows.fnExactFoldRow.laid w) (fun _ _ _ hh h=>h.of_heap hh) own started (by kernel_rfl) Tryz.func3
  (ChangeSpec.witness_shaped (enc:=enc) (C:=Tryz.checked) (os:=os) (X:=fun w _=>laidMetH Tryz.prog Rows.fnExactFoldRow.laid w) false (World.doorLaid Tryz.prog 303 os) #[.agg #[.slice none 0 0]] 8 rfl (World.shaped_of_RefB (by kernel_rfl) (by kernel_rfl)) (by kernel_rfl) (by kernel_rfl) (by kernel_rfl) (door_metF os _)) ?_
 intro W base args ds gs before hval0 hW hL hsh
 have hGI:Vl.GI W:=Go.Proofs.cell_of_shapedOpen_int (zero:=#[.int .i64 0]) (t:=3) hsh (of_decide_eq_true (by kernel_rfl)) (by kernel_rfl) rfl (by kernel_rfl) (by kernel_rfl) Tryz.underlying3
 have hval:∀ (j:Nat) t v,Tryz.f3.params[j]?=some t→args[j]?=some v→Value.okWide Tryz.prog W .any base t v:=hval0
 have hW':=hW
 obtain ⟨p,q,hA0,hV,rfl,hfz,hnd⟩:=hW
 have hA:DataW.TrodAll enc Tryz.prog W 0 (fun _=>true) true Tryz.f3.params.toList args.toList ds p:=hA0
 rw [Tryz.params3] at hA hval
 obtain ⟨v0,d0,rfl,rfl,h0⟩:=trodAll_one hA
 have hVk:DataW.TrodVars enc Tryz.prog W (fun _=>true) ["loop.example/kilnclay/impl.builtNames"] gs q:=hV
 obtain ⟨_,_,_,_,dg,_,rfl,_⟩:=trodVars_one hVk
 have h0k:=h0
 have hlt:∀ x∈p,x.block < W.heap.size:=fun x hx=>by simpa using hW'.lt x (by simp [hx])
 obtain ⟨v,l,rfl,hN,hl,hx,h64⟩:=open_tree (hval 0 24 v0 rfl rfl) h0
 have hG:=glob_of hL
 clear hA0 hval0 hL
 refine (lawF_any l v W hl hx h64 hG hGI hN).mono fun e W' ⟨he,hb⟩=>?_
 subst he
 exact ⟨_,rfl,[d0],[dg],_,[],p,q,hW',trodAll_mk1 (shut_bool Tryz.underlying4 _),trodAll_mk1 (Below.trod laidOut (by kernel_rfl) (of_decide_eq_true (by kernel_rfl)) h0k hb hlt),Below.trodVars laidOut hb (by kernel_rfl) hVk,hb.frame _,fun h=>by cases h⟩
theorem saidF:Rows.FnExactFoldSaid :=
 OpenClaim.holds_of_wide 3 Tryz.f3 rfl rfl rfl rfl rfl rfl rfl ⟨rfl,rfl,rfl,rfl,rfl⟩ rfl rfl rfl rfl rfl (by kernel_rfl) Tryz.func3 (by kernel_rfl)
  (of_decide_eq_true (by kernel_rfl)) (by unfold Func.isWrapper;first | (rw [if_pos (by decide +kernel)];kernel_rfl) | (rw [if_neg (by decide +kernel)];exact ⟨rfl,rfl⟩))
  (fun os started H enc _=>liftedF os started H enc)
theorem plainF (f:FuncId) (fn:Func) (hf:Tryz.pinned.checked.prog.funcNamed Rows.fnExactFoldRow.func=some f) (hfn:Tryz.pinned.checked.prog.funcs[f]?=some fn) :
  true=Tryz.pinned.checked.prog.looks []∧∀ (j:Nat) t,fn.params[j]?=some t→Tryz.pinned.checked.prog.wantsStandIn t=false:=by
 obtain rfl:f=3:=Option.some.inj ((show Tryz.prog.funcNamed Rows.fnExactFoldRow.func=some 3 by kernel_rfl).symm.trans hf) |>.symm
 obtain rfl:fn=Tryz.f3:=(Option.some.inj (Tryz.func3.symm.trans hfn)).symm
 refine ⟨by kernel_rfl,fun j t ht=>?_⟩
 rw [Tryz.params3] at ht
 obtain rfl:t=24:=by simpa using Array.mem_of_getElem? ht
 exact (show Tryz.prog.wantsStandIn 24=false by kernel_rfl)
theorem cardF:Rows.FnExactFoldCardSaid :=
 Claim7.holds_tied_plain_at .later [] _ _ _ _ saidF (fun _ h=>by cases h) (by kernel_rfl) (fun _ h=>by cases h) fnExactFold_row_tie rfl ⟨rfl,rfl⟩ (by kernel_rfl) rfl plainF (by kernel_rfl)
#print axioms cardF
end Go.Proofs.YthbojbbmpcmoaaaGreatDoor
