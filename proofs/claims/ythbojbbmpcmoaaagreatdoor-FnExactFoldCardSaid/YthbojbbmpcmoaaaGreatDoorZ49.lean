/- Fw9. -/
import Derived.Test.YthbojbbmpcmoaaaGreatDoorZ47
namespace Go.Proofs.YthbojbbmpcmoaaaGreatDoor
open Go.RowKit
set_option maxRecDepth 100000 in
set_option maxHeartbeats 4000000 in
theorem opC (op:Int) (hop:op=1∨op=2) (x y:Tr.Nd) (hx:Fd.CN x) (hy:Fd.CN y) (g c g' c':Nat) (w:World) (h:AC w g x) (h':AC w g' y):Calls Tryz.prog 32 #[.int .i64 op,av g c,av g' c'] w (SPost (Vl.binOut op (Fd.tn x) (Fd.tn y)) w):=by
 have HK1:=hide (fun (w':World) (hb:Below w.heap.size w w')=>kind1 x g c w' (h.below hb))
 have HK2:=hide (fun (w':World) (hb:Below w.heap.size w w')=>kind1 y g' c' w' (h'.below hb))
 have HL1:=hide (fun (w':World) (hb:Below w.heap.size w w')=>last1 x g c w' (h.below hb))
 have HL2:=hide (fun (w':World) (hb:Below w.heap.size w w')=>last1 y g' c' w' (h'.below hb))
 have HV1:=hide (fun (w':World) (hb:Below w.heap.size w w')=>valid1 x (.inl hx) g c w' (h.below hb))
 have HV2:=hide (fun (w':World) (hb:Below w.heap.size w w')=>valid1 y (.inl hy) g' c' w' (h'.below hb))
 have HHAS:=hide (fun (w':World) (hb:Below w.heap.size w w')=>has1 x y hx hy g c g' c' w' (h.below hb) (h'.below hb))
 have HADD:=hide (fun (w':World) (hb:Below w.heap.size w w')=>add1 x y hx hy g c g' c' w' (h.below hb) (h'.below hb))
 obtain ⟨od,hod⟩:∃ od,od=(Fd.tn x).ord (Fd.tn y):=⟨_,rfl⟩
 have HRNG:Hid (od = -1∨od=0∨od=1):=hide (hod ▸ ord_rangeL x y)
 have HO:=hide (fun (w':World) (hb:Below w.heap.size w w')=>order1 x y hx.c g c g' c' w' (h.below hb) (h'.below hb))
 rw [← hod] at HO
 have HOD:=hide hod
 have HIN:=hide (fun w=>in1W op (by omega) (by omega) w)
 have hcx:=hx.c
 unfold Fd.isC at hcx
 have HCX:=hide hcx
 have G1:=fun w=>fldA1 x.kind x.n 0 x.text w
 have G2:=fun w=>fldA1 y.kind y.n 0 y.text w
 have HX:=hide hx
 have HY:=hide hy
 have O0:=hide (OB.start w (.slice (some ⟨g,0,none⟩) 1 c) (.slice (some ⟨g',0,none⟩) 1 c'))
 have a0:=O0.out.a
 have b0:=O0.out.b
 clear h h' hod hcx hx hy
 go_enter Tryz.func32,Tryz.ntmps32
 go_wp2_with fail
 refine (HV1.out _ O0.out.B).mono ?_
 rintro e w1 ⟨rfl,hb1⟩
 have O1:=hide (O0.out.below hb1)
 have a1:=O1.out.a
 have b1:=O1.out.b
 clear hb1 a0 b0
 go_wp2_with fail
 refine (HV2.out _ O1.out.B).mono ?_
 rintro e w2 ⟨rfl,hb2⟩
 have O2:=hide (O1.out.below hb2)
 have a2:=O2.out.a
 have b2:=O2.out.b
 clear hb2 a1 b1
 go_wp2_with fail
 refine (HIN.out _).mono ?_
 rintro e w2' ⟨rfl,rfl⟩
 go_wp2_with fail
 refine (HO.out _ O2.out.B).mono ?_
 rintro e w3 ⟨rfl,hb3⟩
 have O3:=hide (O2.out.below hb3)
 have a3:=O3.out.a
 have b3:=O3.out.b
 clear hb3 a2 b2
 go_wp2_with fail
 refine (HK1.out _ O3.out.B).mono ?_
 rintro e w4 ⟨rfl,hb4⟩
 have O4:=hide (O3.out.below hb4)
 have a4:=O4.out.a
 have b4:=O4.out.b
 clear hb4 a3 b3
 by_cases hk:x.kind=y.kind
 ·have tk:(x.kind != y.kind)=false:=by simpa using hk
  by_cases h1:x.kind=2
  ·have t1:(x.kind != 2)=false:=by simpa using h1
   have hbx:=HX.out.bit h1
   have hby:=HY.out.bit (by omega)
   have HN:Hid (Vl.binOut 1 (Fd.tn x) (Fd.tn y) = .inr (Vl.boolT ((x.n == 1) || (y.n == 1)))∧Vl.binOut 2 (Fd.tn x) (Fd.tn y) = .inr (Vl.boolT ((x.n == 1) && (y.n == 1)))):=hide ⟨if_pos ⟨h1,show y.kind=2 by omega⟩,if_pos ⟨h1,show y.kind=2 by omega⟩⟩
   clear hk h1
   rcases hbx with h2 | h2 <;> rcases hby with h3 | h3 <;> rcases hop with rfl | rfl
   ·rw [h2,h3] at HN
    have HOUT:Hid (Vl.binOut 1 (Fd.tn x) (Fd.tn y) = .inr (Vl.boolT false)):=hide HN.out.1
    unfold agA at HL1 HL2
    rw [h2] at HL1 G1
    rw [h3] at HL2 G2
    clear h2 h3
    go_wp2_with fail
    refine (HK2.out _ O4.out.B).mono ?_
    rintro e w5 ⟨rfl,hb5⟩
    have O5:=hide (O4.out.below hb5)
    have a5:=O5.out.a
    have b5:=O5.out.b
    clear hb5 a4 b4
    go_wp2_with fail
    go_region_held3 (fun w'=>w'.cell? ⟨w.heap.size,0,none⟩=some (.slice (some ⟨g,0,none⟩) 1 c)∧w'.cell? ⟨w.heap.size+1,0,none⟩=some (.slice (some ⟨g',0,none⟩) 1 c')) (go_keep) (first
     | (refine Vl.step_call1 rfl 83 (.tmp 72) 71 rfl (av g c) (.agg #[.int .i64 x.kind,.int .i64 0,.string x.text,.int .i64 0]) (by simp [Act.eval]) Tryz.f83 Tryz.func83 (by kernel_rfl) (by kernel_rfl) _ (HL1.out _ O5.out.drew.B) ?_;intro w6 hw6;have ow6:=O5.out.drew.below hw6;have aw6:=ow6.a;have bw6:=ow6.b)
     | (refine Vl.step_call1 rfl 83 (.tmp 75) 71 rfl (av g' c') (.agg #[.int .i64 y.kind,.int .i64 0,.string y.text,.int .i64 0]) (by simp [Act.eval]) Tryz.f83 Tryz.func83 (by kernel_rfl) (by kernel_rfl) _ (HL2.out _ ow6.B) ?_;intro w7 hw7;have ow7:=ow6.below hw7;have aw7:=ow7.a;have bw7:=ow7.b)
     | (refine step_callF rfl 78 [.tmp 79] _ rfl [.bool false] (by first | (simp [Act.eval];done) | (simp [Act.eval];decide) | (simp [Act.eval];omega)) Tryz.f78 Tryz.func78 (by kernel_rfl) (by kernel_rfl) (fun r w8=>∃ ga,r=av ga 1∧w7.heap.size≤ga∧AC w8 ga (Fd.cn 2 (if false then 1 else 0) ⟨#[]⟩)∧Below w7.heap.size w7 w8) ((bool5A false w7).mono (fun _ _ ⟨ga,y1,y2,y3,y4⟩=>⟨_,y1,ga,rfl,y2,y3,y4⟩)) ?_;rintro r w8 ⟨ga,rfl,hga,hac,hb8⟩;have o8:=ow7.below hb8;have a8:=o8.a;have b8:=o8.b;have r8:=o8.r;have f8:=o8.f;have s0:=(World.cell?_setCell_other w8 ⟨w.heap.size+1+1,0,none⟩ ⟨w.heap.size,0,none⟩ (.slice (some ⟨ga,0,none⟩) 1 1) (by simp)).trans a8;have s1:=(World.cell?_setCell_other w8 ⟨w.heap.size+1+1,0,none⟩ ⟨w.heap.size+1,0,none⟩ (.slice (some ⟨ga,0,none⟩) 1 1) (by simp)).trans b8)
     | fail)
    have hz7:=ow7.z
    have O8:=hide o8
    have HAC:=hide hac
    have hB7:=ow7.B.size
    clear s0 s1 a8 b8 ow6 ow7 hw6 hw7 hb8 aw6 bw6 aw7 bw7 hac o8
    go_wp2
    refine bodyPost_ret (v:= .tuple #[av ga 1,.string ⟨#[]⟩]) (by simp [results,Tryz.results32,go_sem,r8]) rfl ?_
    rw [HOUT.out]
    exact sp_bool (b:=false) (HAC.out.set (by omega)) (by omega) (O8.out.set _)
   ·rw [h2,h3] at HN
    have HOUT:Hid (Vl.binOut 2 (Fd.tn x) (Fd.tn y) = .inr (Vl.boolT false)):=hide HN.out.2
    unfold agA at HL1 HL2
    rw [h2] at HL1 G1
    rw [h3] at HL2 G2
    clear h2 h3
    go_wp2_with fail
    refine (HK2.out _ O4.out.B).mono ?_
    rintro e w5 ⟨rfl,hb5⟩
    have O5:=hide (O4.out.below hb5)
    have a5:=O5.out.a
    have b5:=O5.out.b
    clear hb5 a4 b4
    go_wp2_with fail
    go_region_held3 (fun w'=>w'.cell? ⟨w.heap.size,0,none⟩=some (.slice (some ⟨g,0,none⟩) 1 c)∧w'.cell? ⟨w.heap.size+1,0,none⟩=some (.slice (some ⟨g',0,none⟩) 1 c')) (go_keep) (first
     | (refine Vl.step_call1 rfl 83 (.tmp 81) 71 rfl (av g c) (.agg #[.int .i64 x.kind,.int .i64 0,.string x.text,.int .i64 0]) (by simp [Act.eval]) Tryz.f83 Tryz.func83 (by kernel_rfl) (by kernel_rfl) _ (HL1.out _ O5.out.drew.B) ?_;intro w6 hw6;have ow6:=O5.out.drew.below hw6;have aw6:=ow6.a;have bw6:=ow6.b)
     | (refine Vl.step_call1 rfl 83 (.tmp 84) 71 rfl (av g' c') (.agg #[.int .i64 y.kind,.int .i64 0,.string y.text,.int .i64 0]) (by simp [Act.eval]) Tryz.f83 Tryz.func83 (by kernel_rfl) (by kernel_rfl) _ (HL2.out _ ow6.B) ?_;intro w7 hw7;have ow7:=ow6.below hw7;have aw7:=ow7.a;have bw7:=ow7.b)
     | (refine step_callF rfl 78 [.tmp 88] _ rfl [.bool false] (by first | (simp [Act.eval];done) | (simp [Act.eval];decide) | (simp [Act.eval];omega)) Tryz.f78 Tryz.func78 (by kernel_rfl) (by kernel_rfl) (fun r w8=>∃ ga,r=av ga 1∧w7.heap.size≤ga∧AC w8 ga (Fd.cn 2 (if false then 1 else 0) ⟨#[]⟩)∧Below w7.heap.size w7 w8) ((bool5A false w7).mono (fun _ _ ⟨ga,y1,y2,y3,y4⟩=>⟨_,y1,ga,rfl,y2,y3,y4⟩)) ?_;rintro r w8 ⟨ga,rfl,hga,hac,hb8⟩;have o8:=ow7.below hb8;have a8:=o8.a;have b8:=o8.b;have r8:=o8.r;have f8:=o8.f;have s0:=(World.cell?_setCell_other w8 ⟨w.heap.size+1+1,0,none⟩ ⟨w.heap.size,0,none⟩ (.slice (some ⟨ga,0,none⟩) 1 1) (by simp)).trans a8;have s1:=(World.cell?_setCell_other w8 ⟨w.heap.size+1+1,0,none⟩ ⟨w.heap.size+1,0,none⟩ (.slice (some ⟨ga,0,none⟩) 1 1) (by simp)).trans b8)
     | fail)
    have hz7:=ow7.z
    have O8:=hide o8
    have HAC:=hide hac
    have hB7:=ow7.B.size
    clear s0 s1 a8 b8 ow6 ow7 hw6 hw7 hb8 aw6 bw6 aw7 bw7 hac o8
    go_wp2
    refine bodyPost_ret (v:= .tuple #[av ga 1,.string ⟨#[]⟩]) (by simp [results,Tryz.results32,go_sem,r8]) rfl ?_
    rw [HOUT.out]
    exact sp_bool (b:=false) (HAC.out.set (by omega)) (by omega) (O8.out.set _)
   ·rw [h2,h3] at HN
    have HOUT:Hid (Vl.binOut 1 (Fd.tn x) (Fd.tn y) = .inr (Vl.boolT true)):=hide HN.out.1
    unfold agA at HL1 HL2
    rw [h2] at HL1 G1
    rw [h3] at HL2 G2
    clear h2 h3
    go_wp2_with fail
    refine (HK2.out _ O4.out.B).mono ?_
    rintro e w5 ⟨rfl,hb5⟩
    have O5:=hide (O4.out.below hb5)
    have a5:=O5.out.a
    have b5:=O5.out.b
    clear hb5 a4 b4
    go_wp2_with fail
    go_region_held3 (fun w'=>w'.cell? ⟨w.heap.size,0,none⟩=some (.slice (some ⟨g,0,none⟩) 1 c)∧w'.cell? ⟨w.heap.size+1,0,none⟩=some (.slice (some ⟨g',0,none⟩) 1 c')) (go_keep) (first
     | (refine Vl.step_call1 rfl 83 (.tmp 72) 71 rfl (av g c) (.agg #[.int .i64 x.kind,.int .i64 0,.string x.text,.int .i64 0]) (by simp [Act.eval]) Tryz.f83 Tryz.func83 (by kernel_rfl) (by kernel_rfl) _ (HL1.out _ O5.out.drew.B) ?_;intro w6 hw6;have ow6:=O5.out.drew.below hw6;have aw6:=ow6.a;have bw6:=ow6.b)
     | (refine Vl.step_call1 rfl 83 (.tmp 75) 71 rfl (av g' c') (.agg #[.int .i64 y.kind,.int .i64 1,.string y.text,.int .i64 0]) (by simp [Act.eval]) Tryz.f83 Tryz.func83 (by kernel_rfl) (by kernel_rfl) _ (HL2.out _ ow6.B) ?_;intro w7 hw7;have ow7:=ow6.below hw7;have aw7:=ow7.a;have bw7:=ow7.b)
     | (refine step_callF rfl 78 [.tmp 79] _ rfl [.bool true] (by first | (simp [Act.eval];done) | (simp [Act.eval];decide) | (simp [Act.eval];omega)) Tryz.f78 Tryz.func78 (by kernel_rfl) (by kernel_rfl) (fun r w8=>∃ ga,r=av ga 1∧w7.heap.size≤ga∧AC w8 ga (Fd.cn 2 (if true then 1 else 0) ⟨#[]⟩)∧Below w7.heap.size w7 w8) ((bool5A true w7).mono (fun _ _ ⟨ga,y1,y2,y3,y4⟩=>⟨_,y1,ga,rfl,y2,y3,y4⟩)) ?_;rintro r w8 ⟨ga,rfl,hga,hac,hb8⟩;have o8:=ow7.below hb8;have a8:=o8.a;have b8:=o8.b;have r8:=o8.r;have f8:=o8.f;have s0:=(World.cell?_setCell_other w8 ⟨w.heap.size+1+1,0,none⟩ ⟨w.heap.size,0,none⟩ (.slice (some ⟨ga,0,none⟩) 1 1) (by simp)).trans a8;have s1:=(World.cell?_setCell_other w8 ⟨w.heap.size+1+1,0,none⟩ ⟨w.heap.size+1,0,none⟩ (.slice (some ⟨ga,0,none⟩) 1 1) (by simp)).trans b8)
     | fail)
    have hz7:=ow7.z
    have O8:=hide o8
    have HAC:=hide hac
    have hB7:=ow7.B.size
    clear s0 s1 a8 b8 ow6 ow7 hw6 hw7 hb8 aw6 bw6 aw7 bw7 hac o8
    go_wp2
    refine bodyPost_ret (v:= .tuple #[av ga 1,.string ⟨#[]⟩]) (by simp [results,Tryz.results32,go_sem,r8]) rfl ?_
    rw [HOUT.out]
    exact sp_bool (b:=true) (HAC.out.set (by omega)) (by omega) (O8.out.set _)
   ·rw [h2,h3] at HN
    have HOUT:Hid (Vl.binOut 2 (Fd.tn x) (Fd.tn y) = .inr (Vl.boolT false)):=hide HN.out.2
    unfold agA at HL1 HL2
    rw [h2] at HL1 G1
    rw [h3] at HL2 G2
    clear h2 h3
    go_wp2_with fail
    refine (HK2.out _ O4.out.B).mono ?_
    rintro e w5 ⟨rfl,hb5⟩
    have O5:=hide (O4.out.below hb5)
    have a5:=O5.out.a
    have b5:=O5.out.b
    clear hb5 a4 b4
    go_wp2_with fail
    go_region_held3 (fun w'=>w'.cell? ⟨w.heap.size,0,none⟩=some (.slice (some ⟨g,0,none⟩) 1 c)∧w'.cell? ⟨w.heap.size+1,0,none⟩=some (.slice (some ⟨g',0,none⟩) 1 c')) (go_keep) (first
     | (refine Vl.step_call1 rfl 83 (.tmp 81) 71 rfl (av g c) (.agg #[.int .i64 x.kind,.int .i64 0,.string x.text,.int .i64 0]) (by simp [Act.eval]) Tryz.f83 Tryz.func83 (by kernel_rfl) (by kernel_rfl) _ (HL1.out _ O5.out.drew.B) ?_;intro w6 hw6;have ow6:=O5.out.drew.below hw6;have aw6:=ow6.a;have bw6:=ow6.b)
     | (refine Vl.step_call1 rfl 83 (.tmp 84) 71 rfl (av g' c') (.agg #[.int .i64 y.kind,.int .i64 1,.string y.text,.int .i64 0]) (by simp [Act.eval]) Tryz.f83 Tryz.func83 (by kernel_rfl) (by kernel_rfl) _ (HL2.out _ ow6.B) ?_;intro w7 hw7;have ow7:=ow6.below hw7;have aw7:=ow7.a;have bw7:=ow7.b)
     | (refine step_callF rfl 78 [.tmp 88] _ rfl [.bool false] (by first | (simp [Act.eval];done) | (simp [Act.eval];decide) | (simp [Act.eval];omega)) Tryz.f78 Tryz.func78 (by kernel_rfl) (by kernel_rfl) (fun r w8=>∃ ga,r=av ga 1∧w7.heap.size≤ga∧AC w8 ga (Fd.cn 2 (if false then 1 else 0) ⟨#[]⟩)∧Below w7.heap.size w7 w8) ((bool5A false w7).mono (fun _ _ ⟨ga,y1,y2,y3,y4⟩=>⟨_,y1,ga,rfl,y2,y3,y4⟩)) ?_;rintro r w8 ⟨ga,rfl,hga,hac,hb8⟩;have o8:=ow7.below hb8;have a8:=o8.a;have b8:=o8.b;have r8:=o8.r;have f8:=o8.f;have s0:=(World.cell?_setCell_other w8 ⟨w.heap.size+1+1,0,none⟩ ⟨w.heap.size,0,none⟩ (.slice (some ⟨ga,0,none⟩) 1 1) (by simp)).trans a8;have s1:=(World.cell?_setCell_other w8 ⟨w.heap.size+1+1,0,none⟩ ⟨w.heap.size+1,0,none⟩ (.slice (some ⟨ga,0,none⟩) 1 1) (by simp)).trans b8)
     | fail)
    have hz7:=ow7.z
    have O8:=hide o8
    have HAC:=hide hac
    have hB7:=ow7.B.size
    clear s0 s1 a8 b8 ow6 ow7 hw6 hw7 hb8 aw6 bw6 aw7 bw7 hac o8
    go_wp2
    refine bodyPost_ret (v:= .tuple #[av ga 1,.string ⟨#[]⟩]) (by simp [results,Tryz.results32,go_sem,r8]) rfl ?_
    rw [HOUT.out]
    exact sp_bool (b:=false) (HAC.out.set (by omega)) (by omega) (O8.out.set _)
   ·rw [h2,h3] at HN
    have HOUT:Hid (Vl.binOut 1 (Fd.tn x) (Fd.tn y) = .inr (Vl.boolT true)):=hide HN.out.1
    unfold agA at HL1 HL2
    rw [h2] at HL1 G1
    rw [h3] at HL2 G2
    clear h2 h3
    go_wp2_with fail
    refine (HK2.out _ O4.out.B).mono ?_
    rintro e w5 ⟨rfl,hb5⟩
    have O5:=hide (O4.out.below hb5)
    have a5:=O5.out.a
    have b5:=O5.out.b
    clear hb5 a4 b4
    go_wp2_with fail
    go_region_held3 (fun w'=>w'.cell? ⟨w.heap.size,0,none⟩=some (.slice (some ⟨g,0,none⟩) 1 c)∧w'.cell? ⟨w.heap.size+1,0,none⟩=some (.slice (some ⟨g',0,none⟩) 1 c')) (go_keep) (first
     | (refine Vl.step_call1 rfl 83 (.tmp 72) 71 rfl (av g c) (.agg #[.int .i64 x.kind,.int .i64 1,.string x.text,.int .i64 0]) (by simp [Act.eval]) Tryz.f83 Tryz.func83 (by kernel_rfl) (by kernel_rfl) _ (HL1.out _ O5.out.drew.B) ?_;intro w6 hw6;have ow6:=O5.out.drew.below hw6;have aw6:=ow6.a;have bw6:=ow6.b)
     | (refine Vl.step_call1 rfl 83 (.tmp 75) 71 rfl (av g' c') (.agg #[.int .i64 y.kind,.int .i64 0,.string y.text,.int .i64 0]) (by simp [Act.eval]) Tryz.f83 Tryz.func83 (by kernel_rfl) (by kernel_rfl) _ (HL2.out _ ow6.B) ?_;intro w7 hw7;have ow7:=ow6.below hw7;have aw7:=ow7.a;have bw7:=ow7.b)
     | (refine step_callF rfl 78 [.tmp 79] _ rfl [.bool true] (by first | (simp [Act.eval];done) | (simp [Act.eval];decide) | (simp [Act.eval];omega)) Tryz.f78 Tryz.func78 (by kernel_rfl) (by kernel_rfl) (fun r w8=>∃ ga,r=av ga 1∧w7.heap.size≤ga∧AC w8 ga (Fd.cn 2 (if true then 1 else 0) ⟨#[]⟩)∧Below w7.heap.size w7 w8) ((bool5A true w7).mono (fun _ _ ⟨ga,y1,y2,y3,y4⟩=>⟨_,y1,ga,rfl,y2,y3,y4⟩)) ?_;rintro r w8 ⟨ga,rfl,hga,hac,hb8⟩;have o8:=ow7.below hb8;have a8:=o8.a;have b8:=o8.b;have r8:=o8.r;have f8:=o8.f;have s0:=(World.cell?_setCell_other w8 ⟨w.heap.size+1+1,0,none⟩ ⟨w.heap.size,0,none⟩ (.slice (some ⟨ga,0,none⟩) 1 1) (by simp)).trans a8;have s1:=(World.cell?_setCell_other w8 ⟨w.heap.size+1+1,0,none⟩ ⟨w.heap.size+1,0,none⟩ (.slice (some ⟨ga,0,none⟩) 1 1) (by simp)).trans b8)
     | fail)
    have hz7:=ow7.z
    have O8:=hide o8
    have HAC:=hide hac
    have hB7:=ow7.B.size
    clear s0 s1 a8 b8 ow6 ow7 hw6 hw7 hb8 aw6 bw6 aw7 bw7 hac o8
    go_wp2
    refine bodyPost_ret (v:= .tuple #[av ga 1,.string ⟨#[]⟩]) (by simp [results,Tryz.results32,go_sem,r8]) rfl ?_
    rw [HOUT.out]
    exact sp_bool (b:=true) (HAC.out.set (by omega)) (by omega) (O8.out.set _)
   ·rw [h2,h3] at HN
    have HOUT:Hid (Vl.binOut 2 (Fd.tn x) (Fd.tn y) = .inr (Vl.boolT false)):=hide HN.out.2
    unfold agA at HL1 HL2
    rw [h2] at HL1 G1
    rw [h3] at HL2 G2
    clear h2 h3
    go_wp2_with fail
    refine (HK2.out _ O4.out.B).mono ?_
    rintro e w5 ⟨rfl,hb5⟩
    have O5:=hide (O4.out.below hb5)
    have a5:=O5.out.a
    have b5:=O5.out.b
    clear hb5 a4 b4
    go_wp2_with fail
    go_region_held3 (fun w'=>w'.cell? ⟨w.heap.size,0,none⟩=some (.slice (some ⟨g,0,none⟩) 1 c)∧w'.cell? ⟨w.heap.size+1,0,none⟩=some (.slice (some ⟨g',0,none⟩) 1 c')) (go_keep) (first
     | (refine Vl.step_call1 rfl 83 (.tmp 81) 71 rfl (av g c) (.agg #[.int .i64 x.kind,.int .i64 1,.string x.text,.int .i64 0]) (by simp [Act.eval]) Tryz.f83 Tryz.func83 (by kernel_rfl) (by kernel_rfl) _ (HL1.out _ O5.out.drew.B) ?_;intro w6 hw6;have ow6:=O5.out.drew.below hw6;have aw6:=ow6.a;have bw6:=ow6.b)
     | (refine Vl.step_call1 rfl 83 (.tmp 84) 71 rfl (av g' c') (.agg #[.int .i64 y.kind,.int .i64 0,.string y.text,.int .i64 0]) (by simp [Act.eval]) Tryz.f83 Tryz.func83 (by kernel_rfl) (by kernel_rfl) _ (HL2.out _ ow6.B) ?_;intro w7 hw7;have ow7:=ow6.below hw7;have aw7:=ow7.a;have bw7:=ow7.b)
     | (refine step_callF rfl 78 [.tmp 88] _ rfl [.bool false] (by first | (simp [Act.eval];done) | (simp [Act.eval];decide) | (simp [Act.eval];omega)) Tryz.f78 Tryz.func78 (by kernel_rfl) (by kernel_rfl) (fun r w8=>∃ ga,r=av ga 1∧w7.heap.size≤ga∧AC w8 ga (Fd.cn 2 (if false then 1 else 0) ⟨#[]⟩)∧Below w7.heap.size w7 w8) ((bool5A false w7).mono (fun _ _ ⟨ga,y1,y2,y3,y4⟩=>⟨_,y1,ga,rfl,y2,y3,y4⟩)) ?_;rintro r w8 ⟨ga,rfl,hga,hac,hb8⟩;have o8:=ow7.below hb8;have a8:=o8.a;have b8:=o8.b;have r8:=o8.r;have f8:=o8.f;have s0:=(World.cell?_setCell_other w8 ⟨w.heap.size+1+1,0,none⟩ ⟨w.heap.size,0,none⟩ (.slice (some ⟨ga,0,none⟩) 1 1) (by simp)).trans a8;have s1:=(World.cell?_setCell_other w8 ⟨w.heap.size+1+1,0,none⟩ ⟨w.heap.size+1,0,none⟩ (.slice (some ⟨ga,0,none⟩) 1 1) (by simp)).trans b8)
     | fail)
    have hz7:=ow7.z
    have O8:=hide o8
    have HAC:=hide hac
    have hB7:=ow7.B.size
    clear s0 s1 a8 b8 ow6 ow7 hw6 hw7 hb8 aw6 bw6 aw7 bw7 hac o8
    go_wp2
    refine bodyPost_ret (v:= .tuple #[av ga 1,.string ⟨#[]⟩]) (by simp [results,Tryz.results32,go_sem,r8]) rfl ?_
    rw [HOUT.out]
    exact sp_bool (b:=false) (HAC.out.set (by omega)) (by omega) (O8.out.set _)
   ·rw [h2,h3] at HN
    have HOUT:Hid (Vl.binOut 1 (Fd.tn x) (Fd.tn y) = .inr (Vl.boolT true)):=hide HN.out.1
    unfold agA at HL1 HL2
    rw [h2] at HL1 G1
    rw [h3] at HL2 G2
    clear h2 h3
    go_wp2_with fail
    refine (HK2.out _ O4.out.B).mono ?_
    rintro e w5 ⟨rfl,hb5⟩
    have O5:=hide (O4.out.below hb5)
    have a5:=O5.out.a
    have b5:=O5.out.b
    clear hb5 a4 b4
    go_wp2_with fail
    go_region_held3 (fun w'=>w'.cell? ⟨w.heap.size,0,none⟩=some (.slice (some ⟨g,0,none⟩) 1 c)∧w'.cell? ⟨w.heap.size+1,0,none⟩=some (.slice (some ⟨g',0,none⟩) 1 c')) (go_keep) (first
     | (refine Vl.step_call1 rfl 83 (.tmp 72) 71 rfl (av g c) (.agg #[.int .i64 x.kind,.int .i64 1,.string x.text,.int .i64 0]) (by simp [Act.eval]) Tryz.f83 Tryz.func83 (by kernel_rfl) (by kernel_rfl) _ (HL1.out _ O5.out.drew.B) ?_;intro w6 hw6;have ow6:=O5.out.drew.below hw6;have aw6:=ow6.a;have bw6:=ow6.b)
     | (refine Vl.step_call1 rfl 83 (.tmp 75) 71 rfl (av g' c') (.agg #[.int .i64 y.kind,.int .i64 1,.string y.text,.int .i64 0]) (by simp [Act.eval]) Tryz.f83 Tryz.func83 (by kernel_rfl) (by kernel_rfl) _ (HL2.out _ ow6.B) ?_;intro w7 hw7;have ow7:=ow6.below hw7;have aw7:=ow7.a;have bw7:=ow7.b)
     | (refine step_callF rfl 78 [.tmp 79] _ rfl [.bool true] (by first | (simp [Act.eval];done) | (simp [Act.eval];decide) | (simp [Act.eval];omega)) Tryz.f78 Tryz.func78 (by kernel_rfl) (by kernel_rfl) (fun r w8=>∃ ga,r=av ga 1∧w7.heap.size≤ga∧AC w8 ga (Fd.cn 2 (if true then 1 else 0) ⟨#[]⟩)∧Below w7.heap.size w7 w8) ((bool5A true w7).mono (fun _ _ ⟨ga,y1,y2,y3,y4⟩=>⟨_,y1,ga,rfl,y2,y3,y4⟩)) ?_;rintro r w8 ⟨ga,rfl,hga,hac,hb8⟩;have o8:=ow7.below hb8;have a8:=o8.a;have b8:=o8.b;have r8:=o8.r;have f8:=o8.f;have s0:=(World.cell?_setCell_other w8 ⟨w.heap.size+1+1,0,none⟩ ⟨w.heap.size,0,none⟩ (.slice (some ⟨ga,0,none⟩) 1 1) (by simp)).trans a8;have s1:=(World.cell?_setCell_other w8 ⟨w.heap.size+1+1,0,none⟩ ⟨w.heap.size+1,0,none⟩ (.slice (some ⟨ga,0,none⟩) 1 1) (by simp)).trans b8)
     | fail)
    have hz7:=ow7.z
    have O8:=hide o8
    have HAC:=hide hac
    have hB7:=ow7.B.size
    clear s0 s1 a8 b8 ow6 ow7 hw6 hw7 hb8 aw6 bw6 aw7 bw7 hac o8
    go_wp2
    refine bodyPost_ret (v:= .tuple #[av ga 1,.string ⟨#[]⟩]) (by simp [results,Tryz.results32,go_sem,r8]) rfl ?_
    rw [HOUT.out]
    exact sp_bool (b:=true) (HAC.out.set (by omega)) (by omega) (O8.out.set _)
   ·rw [h2,h3] at HN
    have HOUT:Hid (Vl.binOut 2 (Fd.tn x) (Fd.tn y) = .inr (Vl.boolT true)):=hide HN.out.2
    unfold agA at HL1 HL2
    rw [h2] at HL1 G1
    rw [h3] at HL2 G2
    clear h2 h3
    go_wp2_with fail
    refine (HK2.out _ O4.out.B).mono ?_
    rintro e w5 ⟨rfl,hb5⟩
    have O5:=hide (O4.out.below hb5)
    have a5:=O5.out.a
    have b5:=O5.out.b
    clear hb5 a4 b4
    go_wp2_with fail
    go_region_held3 (fun w'=>w'.cell? ⟨w.heap.size,0,none⟩=some (.slice (some ⟨g,0,none⟩) 1 c)∧w'.cell? ⟨w.heap.size+1,0,none⟩=some (.slice (some ⟨g',0,none⟩) 1 c')) (go_keep) (first
     | (refine Vl.step_call1 rfl 83 (.tmp 81) 71 rfl (av g c) (.agg #[.int .i64 x.kind,.int .i64 1,.string x.text,.int .i64 0]) (by simp [Act.eval]) Tryz.f83 Tryz.func83 (by kernel_rfl) (by kernel_rfl) _ (HL1.out _ O5.out.drew.B) ?_;intro w6 hw6;have ow6:=O5.out.drew.below hw6;have aw6:=ow6.a;have bw6:=ow6.b)
     | (refine Vl.step_call1 rfl 83 (.tmp 84) 71 rfl (av g' c') (.agg #[.int .i64 y.kind,.int .i64 1,.string y.text,.int .i64 0]) (by simp [Act.eval]) Tryz.f83 Tryz.func83 (by kernel_rfl) (by kernel_rfl) _ (HL2.out _ ow6.B) ?_;intro w7 hw7;have ow7:=ow6.below hw7;have aw7:=ow7.a;have bw7:=ow7.b)
     | (refine step_callF rfl 78 [.tmp 88] _ rfl [.bool true] (by first | (simp [Act.eval];done) | (simp [Act.eval];decide) | (simp [Act.eval];omega)) Tryz.f78 Tryz.func78 (by kernel_rfl) (by kernel_rfl) (fun r w8=>∃ ga,r=av ga 1∧w7.heap.size≤ga∧AC w8 ga (Fd.cn 2 (if true then 1 else 0) ⟨#[]⟩)∧Below w7.heap.size w7 w8) ((bool5A true w7).mono (fun _ _ ⟨ga,y1,y2,y3,y4⟩=>⟨_,y1,ga,rfl,y2,y3,y4⟩)) ?_;rintro r w8 ⟨ga,rfl,hga,hac,hb8⟩;have o8:=ow7.below hb8;have a8:=o8.a;have b8:=o8.b;have r8:=o8.r;have f8:=o8.f;have s0:=(World.cell?_setCell_other w8 ⟨w.heap.size+1+1,0,none⟩ ⟨w.heap.size,0,none⟩ (.slice (some ⟨ga,0,none⟩) 1 1) (by simp)).trans a8;have s1:=(World.cell?_setCell_other w8 ⟨w.heap.size+1+1,0,none⟩ ⟨w.heap.size+1,0,none⟩ (.slice (some ⟨ga,0,none⟩) 1 1) (by simp)).trans b8)
     | fail)
    have hz7:=ow7.z
    have O8:=hide o8
    have HAC:=hide hac
    have hB7:=ow7.B.size
    clear s0 s1 a8 b8 ow6 ow7 hw6 hw7 hb8 aw6 bw6 aw7 bw7 hac o8
    go_wp2
    refine bodyPost_ret (v:= .tuple #[av ga 1,.string ⟨#[]⟩]) (by simp [results,Tryz.results32,go_sem,r8]) rfl ?_
    rw [HOUT.out]
    exact sp_bool (b:=true) (HAC.out.set (by omega)) (by omega) (O8.out.set _)
  ·have t1:(x.kind != 2)=true:=by simpa using h1
   have HN:Hid (Vl.binOut 1 (Fd.tn x) (Fd.tn y) = .inl Vl.tyW∧Vl.binOut 2 (Fd.tn x) (Fd.tn y) = .inl Vl.tyW):=hide ⟨if_neg (fun e=>h1 e.1),if_neg (fun e=>h1 e.1)⟩
   clear hk h1
   rcases hop with rfl | rfl
   ·have HOUT:=hide HN.out.1
    go_wp2_with fail
    refine (HK2.out _ O4.out.B).mono ?_
    rintro e w5 ⟨rfl,hb5⟩
    have O5:=hide (O4.out.below hb5)
    have a5:=O5.out.a
    have b5:=O5.out.b
    clear hb5 a4 b4
    go_wp2_with fail
    refine (noW _ _).mono ?_
    rintro e w6 ⟨rfl,hb6⟩
    have O6:=hide (O5.out.below hb6)
    have r6:=O6.out.r
    have f6:=O6.out.f
    clear hb6
    go_wp2
    refine bodyPost_ret (v:= .tuple #[.agg #[.slice none 0 0],.string ⟨#[116,121,112,101]⟩]) (by simp [results,Tryz.results32,go_sem,r6]) rfl ?_
    rw [HOUT.out]
    exact sp_word (O6.out.set _)
   ·have HOUT:=hide HN.out.2
    go_wp2_with fail
    refine (HK2.out _ O4.out.B).mono ?_
    rintro e w5 ⟨rfl,hb5⟩
    have O5:=hide (O4.out.below hb5)
    have a5:=O5.out.a
    have b5:=O5.out.b
    clear hb5 a4 b4
    go_wp2_with fail
    refine (noW _ _).mono ?_
    rintro e w6 ⟨rfl,hb6⟩
    have O6:=hide (O5.out.below hb6)
    have r6:=O6.out.r
    have f6:=O6.out.f
    clear hb6
    go_wp2
    refine bodyPost_ret (v:= .tuple #[.agg #[.slice none 0 0],.string ⟨#[116,121,112,101]⟩]) (by simp [results,Tryz.results32,go_sem,r6]) rfl ?_
    rw [HOUT.out]
    exact sp_word (O6.out.set _)
 ·have tk:(x.kind != y.kind)=true:=by simpa using hk
  have hki:¬ (x.kind=y.kind):=hk
  have HN:Hid (Vl.binOut 1 (Fd.tn x) (Fd.tn y) = .inl Vl.tyW∧Vl.binOut 2 (Fd.tn x) (Fd.tn y) = .inl Vl.tyW):=hide ⟨if_neg (fun e=>hk (e.1.trans e.2.symm)),if_neg (fun e=>hk (e.1.trans e.2.symm))⟩
  clear hk
  rcases hop with rfl | rfl
  ·have HOUT:=hide HN.out.1
   go_wp2_with fail
   refine (HK2.out _ O4.out.B).mono ?_
   rintro e w5 ⟨rfl,hb5⟩
   have O5:=hide (O4.out.below hb5)
   have a5:=O5.out.a
   have b5:=O5.out.b
   clear hb5 a4 b4
   go_wp2_with fail
   refine (noW _ _).mono ?_
   rintro e w6 ⟨rfl,hb6⟩
   have O6:=hide (O5.out.below hb6)
   have r6:=O6.out.r
   have f6:=O6.out.f
   clear hb6
   go_wp2
   refine bodyPost_ret (v:= .tuple #[.agg #[.slice none 0 0],.string ⟨#[116,121,112,101]⟩]) (by simp [results,Tryz.results32,go_sem,r6]) rfl ?_
   rw [HOUT.out]
   exact sp_word (O6.out.set _)
  ·have HOUT:=hide HN.out.2
   go_wp2_with fail
   refine (HK2.out _ O4.out.B).mono ?_
   rintro e w5 ⟨rfl,hb5⟩
   have O5:=hide (O4.out.below hb5)
   have a5:=O5.out.a
   have b5:=O5.out.b
   clear hb5 a4 b4
   go_wp2_with fail
   refine (noW _ _).mono ?_
   rintro e w6 ⟨rfl,hb6⟩
   have O6:=hide (O5.out.below hb6)
   have r6:=O6.out.r
   have f6:=O6.out.f
   clear hb6
   go_wp2
   refine bodyPost_ret (v:= .tuple #[.agg #[.slice none 0 0],.string ⟨#[116,121,112,101]⟩]) (by simp [results,Tryz.results32,go_sem,r6]) rfl ?_
   rw [HOUT.out]
   exact sp_word (O6.out.set _)
end Go.Proofs.YthbojbbmpcmoaaaGreatDoor
