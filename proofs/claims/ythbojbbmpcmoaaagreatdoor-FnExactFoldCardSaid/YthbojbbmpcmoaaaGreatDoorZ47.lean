/- Fw6, Fw7. -/
import Derived.Test.YthbojbbmpcmoaaaGreatDoorZ43
namespace Go.Proofs.YthbojbbmpcmoaaaGreatDoor
open Go.RowKit
set_option maxRecDepth 100000 in
set_option maxHeartbeats 4000000 in
theorem add1 (x y:Tr.Nd) (hx:Fd.CN x) (hy:Fd.CN y) (g c g' c':Nat) (w:World) (h:AC w g x) (h':AC w g' y):Calls Tryz.prog 88 #[av g c,av g' c'] w (SPost (Vl.addAll (Fd.tn x) (Fd.tn y)) w):=by
 have HK1:=hide (fun (w':World) (hb:Below w.heap.size w w')=>kind1 x g c w' (h.below hb))
 have HK2:=hide (fun (w':World) (hb:Below w.heap.size w w')=>kind1 y g' c' w' (h'.below hb))
 have HL1:=hide (fun (w':World) (hb:Below w.heap.size w w')=>last1 x g c w' (h.below hb))
 have HL2:=hide (fun (w':World) (hb:Below w.heap.size w w')=>last1 y g' c' w' (h'.below hb))
 have HD1:=hide (fun (w':World) (hb:Below w.heap.size w w')=>kids1 x g c w' (h.below hb))
 have HD2:=hide (fun (w':World) (hb:Below w.heap.size w w')=>kids1 y g' c' w' (h'.below hb))
 have O0:=hide (OB.start w (.slice (some ⟨g,0,none⟩) 1 c) (.slice (some ⟨g',0,none⟩) 1 c'))
 have a0:=O0.out.a
 have b0:=O0.out.b
 have hcx:=hx.c
 unfold Fd.isC at hcx
 have F1:=fun w=>fldA2 x.kind x.n 0 x.text w
 have F2:=fun w=>fldA2 y.kind y.n 0 y.text w
 have G1:=fun w=>fldA1 x.kind x.n 0 x.text w
 have G2:=fun w=>fldA1 y.kind y.n 0 y.text w
 have hxn0:=hx.n0
 have hxn1:=hx.n1
 have hyn0:=hy.n0
 have hyn1:=hy.n1
 have hxl:=hx.long
 have hyl:=hy.long
 clear h h'
 by_cases hk:x.kind=y.kind
 ·have tk:(x.kind != y.kind)=false:=by simpa using hk
  by_cases h3:x.kind=3
  ·have t3:(x.kind == 3)=true:=by simpa using h3
   have HOUT:=hide (add_ii (t:=Fd.tn x) (u:=Fd.tn y) h3 (show y.kind=3 by omega))
   have HOUT:Hid (Vl.addAll (Fd.tn x) (Fd.tn y)=Vl.numOut (Vl.fit64 (x.n+y.n)) Vl.rgW):=HOUT
   rw [HOUT.out]
   clear hk h3 hcx hx hy hxl hyl F1 F2
   have hlt:¬ (y.n < 0):=by omega
   have ew:IntKind.i64.wrap (9223372036854775807 - y.n)=9223372036854775807 - y.n:=by rw [IntKind.wrap_i64];omega
   by_cases hbig:x.n≤9223372036854775807 - y.n
   ·have hfit:Vl.numOut (Vl.fit64 (x.n+y.n)) Vl.rgW = .inr (Vl.intT (x.n+y.n)):=by
     unfold Vl.fit64
     rw [if_pos (by omega)]
     rfl
    rw [hfit]
    have es:IntKind.i64.wrap (x.n+y.n)=x.n+y.n:=by rw [IntKind.wrap_i64];omega
    have hng:¬ (9223372036854775807 - y.n < x.n):=by omega
    clear hfit
    by_cases h0:0 < y.n
    ·go_enter Tryz.func88,Tryz.ntmps88
     go_wp2_with fail
     go_region_held3 (fun w'=>w'.cell? ⟨w.heap.size,0,none⟩=some (.slice (some ⟨g,0,none⟩) 1 c)∧w'.cell? ⟨w.heap.size+1,0,none⟩=some (.slice (some ⟨g',0,none⟩) 1 c')) (go_keep) (first
      | (refine Vl.step_call1 rfl 82 (.tmp 13) 71 rfl (av g c) (.int .i64 x.kind) (by simp [Act.eval]) Tryz.f82 Tryz.func82 (by kernel_rfl) (by kernel_rfl) _ (HK1.out _ O0.out.drew.B) ?_;intro w1 hw1;have ow1:=O0.out.drew.below hw1;have aw1:=ow1.a;have bw1:=ow1.b)
      | (refine Vl.step_call1 rfl 82 (.tmp 15) 71 rfl (av g' c') (.int .i64 y.kind) (by simp [Act.eval]) Tryz.f82 Tryz.func82 (by kernel_rfl) (by kernel_rfl) _ (HK2.out _ ow1.B) ?_;intro w2 hw2;have ow2:=ow1.below hw2;have aw2:=ow2.a;have bw2:=ow2.b)
      | fail)
     have O2:=hide ow2
     have a2:=O2.out.a
     have b2:=O2.out.b
     clear ow1 ow2 hw1 hw2 aw1 bw1 aw2 bw2 a0 b0
     go_wp2_with fail
     refine (HD1.out _ O2.out.B).mono ?_
     rintro e w3 ⟨q3,rfl,hb3⟩
     have O3:=hide (O2.out.below hb3)
     have a3:=O3.out.a
     have b3:=O3.out.b
     clear hb3 a2 b2
     go_wp2_with fail
     refine (HD2.out _ O3.out.B).mono ?_
     rintro e w4 ⟨q4,rfl,hb4⟩
     have O4:=hide (O3.out.below hb4)
     have a4:=O4.out.a
     have b4:=O4.out.b
     clear hb4 a3 b3
     go_wp2_with fail
     refine (HK1.out _ O4.out.B).mono ?_
     rintro e w5 ⟨rfl,hb5⟩
     have O5:=hide (O4.out.below hb5)
     have a5:=O5.out.a
     have b5:=O5.out.b
     clear hb5 a4 b4
     go_wp2_with fail
     refine (HL1.out _ O5.out.B).mono ?_
     rintro e w6 ⟨rfl,hb6⟩
     have O6:=hide (O5.out.below hb6)
     have a6:=O6.out.a
     have b6:=O6.out.b
     clear hb6 a5 b5
     go_wp2_with fail
     refine (HL2.out _ O6.out.B).mono ?_
     rintro e w7 ⟨rfl,hb7⟩
     have O7:=hide (O6.out.below hb7)
     have a7:=O7.out.a
     have b7:=O7.out.b
     clear hb7 a6 b6
     go_wp2_with fail
     refine (int5A _ _).mono ?_
     rintro e w8 ⟨ga,rfl,hga,hac,hb8⟩
     have O8:=hide (O7.out.below hb8)
     have r8:=O8.out.r
     have f8:=O8.out.f
     have HAC:=hide hac
     have hz7:=O7.out.z
     have hB7:=O7.out.B.size
     clear hb8 hac
     go_wp2
     refine bodyPost_ret (v:= .tuple #[av ga 1,.string ⟨#[]⟩]) (by simp [results,Tryz.results88,go_sem,r8]) rfl ?_
     exact sp_int (HAC.out.set (by omega)) (by omega) (O8.out.set _)
    ·go_enter Tryz.func88,Tryz.ntmps88
     go_wp2_with fail
     go_region_held3 (fun w'=>w'.cell? ⟨w.heap.size,0,none⟩=some (.slice (some ⟨g,0,none⟩) 1 c)∧w'.cell? ⟨w.heap.size+1,0,none⟩=some (.slice (some ⟨g',0,none⟩) 1 c')) (go_keep) (first
      | (refine Vl.step_call1 rfl 82 (.tmp 13) 71 rfl (av g c) (.int .i64 x.kind) (by simp [Act.eval]) Tryz.f82 Tryz.func82 (by kernel_rfl) (by kernel_rfl) _ (HK1.out _ O0.out.drew.B) ?_;intro w1 hw1;have ow1:=O0.out.drew.below hw1;have aw1:=ow1.a;have bw1:=ow1.b)
      | (refine Vl.step_call1 rfl 82 (.tmp 15) 71 rfl (av g' c') (.int .i64 y.kind) (by simp [Act.eval]) Tryz.f82 Tryz.func82 (by kernel_rfl) (by kernel_rfl) _ (HK2.out _ ow1.B) ?_;intro w2 hw2;have ow2:=ow1.below hw2;have aw2:=ow2.a;have bw2:=ow2.b)
      | fail)
     have O2:=hide ow2
     have a2:=O2.out.a
     have b2:=O2.out.b
     clear ow1 ow2 hw1 hw2 aw1 bw1 aw2 bw2 a0 b0
     go_wp2_with fail
     refine (HD1.out _ O2.out.B).mono ?_
     rintro e w3 ⟨q3,rfl,hb3⟩
     have O3:=hide (O2.out.below hb3)
     have a3:=O3.out.a
     have b3:=O3.out.b
     clear hb3 a2 b2
     go_wp2_with fail
     refine (HD2.out _ O3.out.B).mono ?_
     rintro e w4 ⟨q4,rfl,hb4⟩
     have O4:=hide (O3.out.below hb4)
     have a4:=O4.out.a
     have b4:=O4.out.b
     clear hb4 a3 b3
     go_wp2_with fail
     refine (HK1.out _ O4.out.B).mono ?_
     rintro e w5 ⟨rfl,hb5⟩
     have O5:=hide (O4.out.below hb5)
     have a5:=O5.out.a
     have b5:=O5.out.b
     clear hb5 a4 b4
     go_wp2_with fail
     refine (HL1.out _ O5.out.B).mono ?_
     rintro e w6 ⟨rfl,hb6⟩
     have O6:=hide (O5.out.below hb6)
     have a6:=O6.out.a
     have b6:=O6.out.b
     clear hb6 a5 b5
     go_wp2_with fail
     refine (HL2.out _ O6.out.B).mono ?_
     rintro e w7 ⟨rfl,hb7⟩
     have O7:=hide (O6.out.below hb7)
     have a7:=O7.out.a
     have b7:=O7.out.b
     clear hb7 a6 b6
     go_wp2_with fail
     refine (int5A _ _).mono ?_
     rintro e w8 ⟨ga,rfl,hga,hac,hb8⟩
     have O8:=hide (O7.out.below hb8)
     have r8:=O8.out.r
     have f8:=O8.out.f
     have HAC:=hide hac
     have hz7:=O7.out.z
     have hB7:=O7.out.B.size
     clear hb8 hac
     go_wp2
     refine bodyPost_ret (v:= .tuple #[av ga 1,.string ⟨#[]⟩]) (by simp [results,Tryz.results88,go_sem,r8]) rfl ?_
     exact sp_int (HAC.out.set (by omega)) (by omega) (O8.out.set _)
   ·have hfit:Vl.numOut (Vl.fit64 (x.n+y.n)) Vl.rgW = .inl Vl.rgW:=by
     unfold Vl.fit64
     rw [if_neg (by omega)]
     rfl
    rw [hfit]
    have hgt:9223372036854775807 - y.n < x.n:=by omega
    have h0:0 < y.n:=by omega
    clear hfit
    go_enter Tryz.func88,Tryz.ntmps88
    go_wp2_with fail
    go_region_held3 (fun w'=>w'.cell? ⟨w.heap.size,0,none⟩=some (.slice (some ⟨g,0,none⟩) 1 c)∧w'.cell? ⟨w.heap.size+1,0,none⟩=some (.slice (some ⟨g',0,none⟩) 1 c')) (go_keep) (first
     | (refine Vl.step_call1 rfl 82 (.tmp 13) 71 rfl (av g c) (.int .i64 x.kind) (by simp [Act.eval]) Tryz.f82 Tryz.func82 (by kernel_rfl) (by kernel_rfl) _ (HK1.out _ O0.out.drew.B) ?_;intro w1 hw1;have ow1:=O0.out.drew.below hw1;have aw1:=ow1.a;have bw1:=ow1.b)
     | (refine Vl.step_call1 rfl 82 (.tmp 15) 71 rfl (av g' c') (.int .i64 y.kind) (by simp [Act.eval]) Tryz.f82 Tryz.func82 (by kernel_rfl) (by kernel_rfl) _ (HK2.out _ ow1.B) ?_;intro w2 hw2;have ow2:=ow1.below hw2;have aw2:=ow2.a;have bw2:=ow2.b)
     | fail)
    have O2:=hide ow2
    have a2:=O2.out.a
    have b2:=O2.out.b
    clear ow1 ow2 hw1 hw2 aw1 bw1 aw2 bw2 a0 b0
    go_wp2_with fail
    refine (HD1.out _ O2.out.B).mono ?_
    rintro e w3 ⟨q3,rfl,hb3⟩
    have O3:=hide (O2.out.below hb3)
    have a3:=O3.out.a
    have b3:=O3.out.b
    clear hb3 a2 b2
    go_wp2_with fail
    refine (HD2.out _ O3.out.B).mono ?_
    rintro e w4 ⟨q4,rfl,hb4⟩
    have O4:=hide (O3.out.below hb4)
    have a4:=O4.out.a
    have b4:=O4.out.b
    clear hb4 a3 b3
    go_wp2_with fail
    refine (HK1.out _ O4.out.B).mono ?_
    rintro e w5 ⟨rfl,hb5⟩
    have O5:=hide (O4.out.below hb5)
    have a5:=O5.out.a
    have b5:=O5.out.b
    clear hb5 a4 b4
    go_wp2_with fail
    refine (HL1.out _ O5.out.B).mono ?_
    rintro e w6 ⟨rfl,hb6⟩
    have O6:=hide (O5.out.below hb6)
    have a6:=O6.out.a
    have b6:=O6.out.b
    clear hb6 a5 b5
    go_wp2_with fail
    refine (HL2.out _ O6.out.B).mono ?_
    rintro e w7 ⟨rfl,hb7⟩
    have O7:=hide (O6.out.below hb7)
    have a7:=O7.out.a
    have b7:=O7.out.b
    clear hb7 a6 b6
    go_wp2_with fail
    refine (noW _ _).mono ?_
    rintro e w8 ⟨rfl,hb8⟩
    have O8:=hide (O7.out.below hb8)
    have r8:=O8.out.r
    have f8:=O8.out.f
    clear hb8
    go_wp2
    refine bodyPost_ret (v:= .tuple #[.agg #[.slice none 0 0],.string ⟨#[114,97,110,103,101]⟩]) (by simp [results,Tryz.results88,go_sem,r8]) rfl ?_
    exact sp_word (O8.out.set _)
  ·have t3:(x.kind == 3)=false:=by simpa using h3
   by_cases h4:x.kind=4
   ·have t4:(x.kind == 4)=true:=by simpa using h4
    have HOUT:=hide (add_tt (t:=Fd.tn x) (u:=Fd.tn y) h4 (show y.kind=4 by omega))
    have HOUT:Hid (Vl.addAll (Fd.tn x) (Fd.tn y)=if (x.text++y.text).size≤1000 then .inr (.mk 4 0 (x.text++y.text) []) else .inl Vl.lgW):=HOUT
    rw [HOUT.out]
    have HRT:=hide (fun g c w h=>right1 (x.text++y.text) g c w h)
    obtain ⟨OT,hOT⟩:∃ o:Vl.Out,o=(if (x.text++y.text).size≤1000 then Sum.inr (.mk 4 0 (x.text++y.text) []) else .inl Vl.lgW):=⟨_,rfl⟩
    rw [← hOT] at HRT ⊢
    clear hOT HOUT
    have hsum:(x.text++y.text).size=x.text.size+y.text.size:=ByteArray.size_append
    have hlen:¬ 9223372036854775807 < x.text.size+y.text.size:=by omega
    clear hk h3 h4 hcx hx hy G1 G2 hsum
    go_enter Tryz.func88,Tryz.ntmps88
    go_wp2_with fail
    go_region_held3 (fun w'=>w'.cell? ⟨w.heap.size,0,none⟩=some (.slice (some ⟨g,0,none⟩) 1 c)∧w'.cell? ⟨w.heap.size+1,0,none⟩=some (.slice (some ⟨g',0,none⟩) 1 c')) (go_keep) (first
     | (refine Vl.step_call1 rfl 82 (.tmp 13) 71 rfl (av g c) (.int .i64 x.kind) (by simp [Act.eval]) Tryz.f82 Tryz.func82 (by kernel_rfl) (by kernel_rfl) _ (HK1.out _ O0.out.drew.B) ?_;intro w1 hw1;have ow1:=O0.out.drew.below hw1;have aw1:=ow1.a;have bw1:=ow1.b)
     | (refine Vl.step_call1 rfl 82 (.tmp 15) 71 rfl (av g' c') (.int .i64 y.kind) (by simp [Act.eval]) Tryz.f82 Tryz.func82 (by kernel_rfl) (by kernel_rfl) _ (HK2.out _ ow1.B) ?_;intro w2 hw2;have ow2:=ow1.below hw2;have aw2:=ow2.a;have bw2:=ow2.b)
     | fail)
    have O2:=hide ow2
    have a2:=O2.out.a
    have b2:=O2.out.b
    clear ow1 ow2 hw1 hw2 aw1 bw1 aw2 bw2 a0 b0
    go_wp2_with fail
    refine (HD1.out _ O2.out.B).mono ?_
    rintro e w3 ⟨q3,rfl,hb3⟩
    have O3:=hide (O2.out.below hb3)
    have a3:=O3.out.a
    have b3:=O3.out.b
    clear hb3 a2 b2
    go_wp2_with fail
    refine (HD2.out _ O3.out.B).mono ?_
    rintro e w4 ⟨q4,rfl,hb4⟩
    have O4:=hide (O3.out.below hb4)
    have a4:=O4.out.a
    have b4:=O4.out.b
    clear hb4 a3 b3
    go_wp2_with fail
    refine (HK1.out _ O4.out.B).mono ?_
    rintro e w5 ⟨rfl,hb5⟩
    have O5:=hide (O4.out.below hb5)
    have a5:=O5.out.a
    have b5:=O5.out.b
    clear hb5 a4 b4
    go_wp2_with fail
    go_region_held3 (fun w'=>w'.cell? ⟨w.heap.size,0,none⟩=some (.slice (some ⟨g,0,none⟩) 1 c)∧w'.cell? ⟨w.heap.size+1,0,none⟩=some (.slice (some ⟨g',0,none⟩) 1 c')) (go_keep) (first
     | (refine Vl.step_call1 rfl 83 (.tmp 68) 71 rfl (av g c) (agA x) (by simp [Act.eval]) Tryz.f83 Tryz.func83 (by kernel_rfl) (by kernel_rfl) _ (HL1.out _ O5.out.drew.B) ?_;intro w6 hw6;have ow6:=O5.out.drew.below hw6;have aw6:=ow6.a;have bw6:=ow6.b)
     | (refine Vl.step_call1 rfl 83 (.tmp 71) 71 rfl (av g' c') (agA y) (by simp [Act.eval]) Tryz.f83 Tryz.func83 (by kernel_rfl) (by kernel_rfl) _ (HL2.out _ ow6.B) ?_;intro w7 hw7;have ow7:=ow6.below hw7;have aw7:=ow7.a;have bw7:=ow7.b)
     | (refine step_callF rfl 80 [.tmp 74] _ rfl [.string (x.text++y.text)] (by first | (simp [Act.eval];done) | simp [Act.eval,Act.put]) Tryz.f80 Tryz.func80 (by kernel_rfl) (by kernel_rfl) (fun r w8=>∃ ga,r=av ga 1∧AC w8 ga (Fd.cn 4 0 (x.text++y.text))∧Below w7.heap.size w7 w8) ((text5A (x.text++y.text) w7).mono (fun _ _ ⟨ga,y1,y2,y3,y4⟩=>⟨_,y1,ga,rfl,y3,y4⟩)) ?_;rintro r w9 ⟨ga,rfl,hac,hb9⟩;have ow9:=ow7.below hb9;have aw9:=ow9.a;have bw9:=ow9.b)
     | (refine step_callF rfl 137 [.tmp 75] _ rfl [av ga 1] (by simp [Act.eval]) Tryz.f137 Tryz.func137 (by kernel_rfl) (by kernel_rfl) (fun r w8=>∃ p8 m8 c8 s8,r = .tuple #[.agg #[.slice p8 m8 c8],.string s8]∧SV OT w9.heap.size (.slice p8 m8 c8) w8∧Below w9.heap.size w9 w8) ((HRT.out ga 1 w9 hac).mono (fun _ _ ⟨p8,m8,c8,s8,y1,y2,y3⟩=>⟨_,y1,p8,m8,c8,s8,rfl,y2,y3⟩)) ?_;rintro r w8 ⟨p8,m8,c8,s8,rfl,hsv,hb8⟩;have o8:=ow9.below hb8;have a8:=o8.a;have b8:=o8.b;have r8:=o8.r;have f8:=o8.f;have s0:=(World.cell?_setCell_other w8 ⟨w.heap.size+1+1,0,none⟩ ⟨w.heap.size,0,none⟩ (.slice p8 m8 c8) (by simp)).trans a8;have s1:=(World.cell?_setCell_other w8 ⟨w.heap.size+1+1,0,none⟩ ⟨w.heap.size+1,0,none⟩ (.slice p8 m8 c8) (by simp)).trans b8)
     | fail)
    have hz9:=ow9.z
    have O8:=hide o8
    have HSV:=hide hsv
    have hB9:=ow9.B.size
    clear s0 s1 a8 b8 ow6 ow7 hw6 hw7 hb8 aw6 bw6 aw7 bw7 hsv o8 ow9 hb9 aw9 bw9 hac
    go_wp2
    refine bodyPost_ret (v:= .tuple #[.agg #[.slice p8 m8 c8],.string s8]) (by simp [results,Tryz.results88,go_sem,r8]) rfl ?_
    exact ⟨p8,m8,c8,s8,rfl,HSV.out.set (by omega) (by omega),O8.out.set _⟩
   ·have t4:(x.kind == 4)=false:=by simpa using h4
    have t5:(x.kind == 5)=false:=by simpa using (by omega:x.kind≠5)
    have t6:(x.kind == 6)=false:=by simpa using (by omega:x.kind≠6)
    have HOUT:=hide (add_no (t:=Fd.tn x) (u:=Fd.tn y) (fun e=>h3 e.1) (fun e=>h4 e.1))
    rw [HOUT.out]
    clear hk h3 h4 hcx hx hy F1 F2 G1 G2
    go_enter Tryz.func88,Tryz.ntmps88
    go_wp2_with fail
    go_region_held3 (fun w'=>w'.cell? ⟨w.heap.size,0,none⟩=some (.slice (some ⟨g,0,none⟩) 1 c)∧w'.cell? ⟨w.heap.size+1,0,none⟩=some (.slice (some ⟨g',0,none⟩) 1 c')) (go_keep) (first
     | (refine Vl.step_call1 rfl 82 (.tmp 13) 71 rfl (av g c) (.int .i64 x.kind) (by simp [Act.eval]) Tryz.f82 Tryz.func82 (by kernel_rfl) (by kernel_rfl) _ (HK1.out _ O0.out.drew.B) ?_;intro w1 hw1;have ow1:=O0.out.drew.below hw1;have aw1:=ow1.a;have bw1:=ow1.b)
     | (refine Vl.step_call1 rfl 82 (.tmp 15) 71 rfl (av g' c') (.int .i64 y.kind) (by simp [Act.eval]) Tryz.f82 Tryz.func82 (by kernel_rfl) (by kernel_rfl) _ (HK2.out _ ow1.B) ?_;intro w2 hw2;have ow2:=ow1.below hw2;have aw2:=ow2.a;have bw2:=ow2.b)
     | fail)
    have O2:=hide ow2
    have a2:=O2.out.a
    have b2:=O2.out.b
    clear ow1 ow2 hw1 hw2 aw1 bw1 aw2 bw2 a0 b0
    go_wp2_with fail
    refine (HD1.out _ O2.out.B).mono ?_
    rintro e w3 ⟨q3,rfl,hb3⟩
    have O3:=hide (O2.out.below hb3)
    have a3:=O3.out.a
    have b3:=O3.out.b
    clear hb3 a2 b2
    go_wp2_with fail
    refine (HD2.out _ O3.out.B).mono ?_
    rintro e w4 ⟨q4,rfl,hb4⟩
    have O4:=hide (O3.out.below hb4)
    have a4:=O4.out.a
    have b4:=O4.out.b
    clear hb4 a3 b3
    go_wp2_with fail
    refine (HK1.out _ O4.out.B).mono ?_
    rintro e w5 ⟨rfl,hb5⟩
    have O5:=hide (O4.out.below hb5)
    have a5:=O5.out.a
    have b5:=O5.out.b
    clear hb5 a4 b4
    go_wp2_with fail
    refine (noW _ _).mono ?_
    rintro e w6 ⟨rfl,hb6⟩
    have O6:=hide (O5.out.below hb6)
    have r6:=O6.out.r
    have f6:=O6.out.f
    clear hb6
    go_wp2
    refine bodyPost_ret (v:= .tuple #[.agg #[.slice none 0 0],.string ⟨#[116,121,112,101]⟩]) (by simp [results,Tryz.results88,go_sem,r6]) rfl ?_
    exact sp_word (O6.out.set _)
 ·have tk:(x.kind != y.kind)=true:=by simpa using hk
  have hki:¬ (x.kind=y.kind):=hk
  have HOUT:=hide (add_no (t:=Fd.tn x) (u:=Fd.tn y) (fun e=>hk (e.1.trans e.2.symm)) (fun e=>hk (e.1.trans e.2.symm)))
  rw [HOUT.out]
  clear hk hcx hx hy F1 F2 G1 G2
  go_enter Tryz.func88,Tryz.ntmps88
  go_wp2_with fail
  go_region_held3 (fun w'=>w'.cell? ⟨w.heap.size,0,none⟩=some (.slice (some ⟨g,0,none⟩) 1 c)∧w'.cell? ⟨w.heap.size+1,0,none⟩=some (.slice (some ⟨g',0,none⟩) 1 c')) (go_keep) (first
   | (refine Vl.step_call1 rfl 82 (.tmp 13) 71 rfl (av g c) (.int .i64 x.kind) (by simp [Act.eval]) Tryz.f82 Tryz.func82 (by kernel_rfl) (by kernel_rfl) _ (HK1.out _ O0.out.drew.B) ?_;intro w1 hw1;have ow1:=O0.out.drew.below hw1;have aw1:=ow1.a;have bw1:=ow1.b)
   | (refine Vl.step_call1 rfl 82 (.tmp 15) 71 rfl (av g' c') (.int .i64 y.kind) (by simp [Act.eval]) Tryz.f82 Tryz.func82 (by kernel_rfl) (by kernel_rfl) _ (HK2.out _ ow1.B) ?_;intro w2 hw2;have ow2:=ow1.below hw2;have aw2:=ow2.a;have bw2:=ow2.b)
   | fail)
  have O2:=hide ow2
  have a2:=O2.out.a
  have b2:=O2.out.b
  clear ow1 ow2 hw1 hw2 aw1 bw1 aw2 bw2 a0 b0
  go_wp2_with fail
  refine (noW _ _).mono ?_
  rintro e w3 ⟨rfl,hb3⟩
  have O3:=hide (O2.out.below hb3)
  have r3:=O3.out.r
  have f3:=O3.out.f
  clear hb3
  go_wp2
  refine bodyPost_ret (v:= .tuple #[.agg #[.slice none 0 0],.string ⟨#[116,121,112,101]⟩]) (by simp [results,Tryz.results88,go_sem,r3]) rfl ?_
  exact sp_word (O3.out.set _)
theorem in1W (a:Int) (h1:1≤a) (h2:a≤14) (w:World):Calls Tryz.prog 85 #[.int .i64 a,.int .i64 1,.int .i64 14] w fun e w'=>e = .returned (.bool true)∧w'=w:=by
 go_enter Tryz.func85,Tryz.ntmps85
 go_wp2
 go_ret
 exact ⟨rfl,rfl⟩
theorem cmpB_range (l e:Bool):Vl.cmpB l e = -1∨Vl.cmpB l e=0∨Vl.cmpB l e=1:=by cases l <;> cases e <;> simp [Vl.cmpB]
theorem ord_rangeL (x y:Tr.Nd):(Fd.tn x).ord (Fd.tn y) = -1∨(Fd.tn x).ord (Fd.tn y)=0∨(Fd.tn x).ord (Fd.tn y)=1:=by
 rw [Vl.T.ord_eq]
 split
 ·exact cmpB_range _ _
 ·split
  ·exact cmpB_range _ _
  ·split
   ·exact cmpB_range _ _
   ·exact cmpB_range _ _
theorem alike_yes {hb:Int→Bool} {t u:Vl.T} (h:t.kind=u.kind) (hk:t.kind=2∨t.kind=3∨t.kind=4):Vl.alike hb t u = .inr (Vl.boolT (hb (t.ord u))):=by
 unfold Vl.alike
 simp only [List.map_cons,List.map_nil]
 rcases hk with e | e | e
 ·have e1:Vl.cmpsB hb t u = .inr (Vl.boolT (hb (t.ord u))):=if_pos ⟨e,by omega⟩
  rw [e1]
  rfl
 ·have e1:Vl.cmpsB hb t u = .inl Vl.tyW:=if_neg (fun q=>by omega)
  have e2:Vl.cmpsI hb t u = .inr (Vl.boolT (hb (t.ord u))):=if_pos ⟨e,by omega⟩
  rw [e1,e2]
  rfl
 ·have e1:Vl.cmpsB hb t u = .inl Vl.tyW:=if_neg (fun q=>by omega)
  have e2:Vl.cmpsI hb t u = .inl Vl.tyW:=if_neg (fun q=>by omega)
  have e3:Vl.cmpsT hb t u = .inr (Vl.boolT (hb (t.ord u))):=if_pos ⟨e,by omega⟩
  rw [e1,e2,e3]
  rfl
theorem alike_no {hb:Int→Bool} {t u:Vl.T} (h:t.kind≠u.kind∨t.kind=1):Vl.alike hb t u = .inl Vl.tyW:=by
 unfold Vl.alike
 simp only [List.map_cons,List.map_nil]
 have e1:Vl.cmpsB hb t u = .inl Vl.tyW:=if_neg (fun q=>by omega)
 have e2:Vl.cmpsI hb t u = .inl Vl.tyW:=if_neg (fun q=>by omega)
 have e3:Vl.cmpsT hb t u = .inl Vl.tyW:=if_neg (fun q=>by omega)
 rw [e1,e2,e3]
 rfl
theorem num_out (op:Int) (hop:op=11∨op=12∨op=13∨op=14) {x y:Tr.Nd} (hx:x.kind=3) (hy:y.kind=3):∃ r l,Vl.numOp op x.n y.n=(r,l)∧Vl.binOut op (Fd.tn x) (Fd.tn y)=Vl.numOut r l:=by
 have hk:(Fd.tn x).kind=3∧(Fd.tn y).kind=3:=⟨hx,hy⟩
 rcases hop with rfl | rfl | rfl | rfl
 ·refine ⟨Vl.fit64 (x.n - y.n),if (Vl.fit64 (x.n - y.n)).isSome then [] else Vl.wRng,by unfold Vl.numOp;rw [if_pos rfl],?_⟩
  refine (show Vl.binOut 11 (Fd.tn x) (Fd.tn y)=Vl.numOut (Vl.fit64 (x.n - y.n)) Vl.rgW from if_pos hk).trans ?_
  cases Vl.fit64 (x.n - y.n) <;> rfl
 ·refine ⟨Vl.fit64 (x.n * y.n),if (Vl.fit64 (x.n * y.n)).isSome then [] else Vl.wRng,by unfold Vl.numOp;rw [if_neg (by decide),if_pos rfl],?_⟩
  refine (show Vl.binOut 12 (Fd.tn x) (Fd.tn y)=Vl.numOut (Vl.fit64 (x.n * y.n)) Vl.rgW from if_pos hk).trans ?_
  cases Vl.fit64 (x.n * y.n) <;> rfl
 ·have e:Vl.binOut 13 (Fd.tn x) (Fd.tn y)=(if y.n=0 then Sum.inl Vl.wDiv else if x.n = -9223372036854775808∧y.n = -1 then .inl Vl.wRng else .inr (Vl.intT (Vl.quoV x.n y.n))):=if_pos hk
  rw [e]
  unfold Vl.numOp
  rw [if_neg (by decide),if_neg (by decide)]
  by_cases h1:y.n=0
  ·rw [if_pos h1,if_pos h1];exact ⟨_,_,rfl,rfl⟩
  ·rw [if_neg h1,if_neg h1,if_pos rfl]
   by_cases h2:x.n = -9223372036854775808∧y.n = -1
   ·rw [if_pos h2,if_pos h2];exact ⟨_,_,rfl,rfl⟩
   ·rw [if_neg h2,if_neg h2];exact ⟨_,_,rfl,rfl⟩
 ·have e:Vl.binOut 14 (Fd.tn x) (Fd.tn y)=(if y.n=0 then Sum.inl Vl.wDiv else .inr (Vl.intT (Vl.remV x.n y.n))):=if_pos hk
  rw [e]
  unfold Vl.numOp
  rw [if_neg (by decide),if_neg (by decide)]
  by_cases h1:y.n=0
  ·rw [if_pos h1,if_pos h1];exact ⟨_,_,rfl,rfl⟩
  ·rw [if_neg h1,if_neg h1,if_neg (by decide)];exact ⟨_,_,rfl,rfl⟩
theorem num1 (op:Int) (hop:op=11∨op=12∨op=13∨op=14) {x y:Tr.Nd} (hx:Fd.CN x) (hy:Fd.CN y) (kx:x.kind=3) (ky:y.kind=3) (w:World):Calls Tryz.prog 89 #[.int .i64 op,.int .i64 x.n,.int .i64 y.n] w (SPost (Vl.binOut op (Fd.tn x) (Fd.tn y)) w):=by
 obtain ⟨r,l,h1,h2⟩:=num_out op hop kx ky
 have hi:Vl.in64 x.n:=by have a:=hx.n0;have b:=hx.n1;unfold Vl.in64;omega
 have hj:Vl.in64 y.n:=by have a:=hy.n0;have b:=hy.n1;unfold Vl.in64;omega
 have key:Calls Tryz.prog 89 #[.int .i64 op,.int .i64 x.n,.int .i64 y.n] w (Vl.NumPost w (Vl.numOp op x.n y.n)):=by
  rcases hop with rfl | rfl | rfl | rfl
  ·exact Vl.number6_sub _ _ w hi hj
  ·exact Vl.number6_mul _ _ w hi hj
  ·exact Vl.number6_div _ _ w hi hj
  ·exact Vl.number6_rem _ _ w hi hj
 rw [h1] at key
 rw [h2]
 refine key.mono fun e w' h=>?_
 obtain ⟨hb,hm⟩:=h
 cases r with
 | none =>
  have hm:e = .returned (.tuple #[.agg #[.slice none 0 0],.string ⟨l.toArray⟩]):=hm
  rw [hm]
  exact sp_word hb
 | some n =>
  obtain ⟨g,hg,he,ha⟩:=hm
  rw [he]
  exact sp_int (ac_of ha) hg hb
set_option maxRecDepth 100000 in
set_option maxHeartbeats 4000000 in
theorem opA (op:Int) (hop:op=3∨op=4∨op=9∨op=10) (x y:Tr.Nd) (hx:Fd.CN x) (hy:Fd.CN y) (g c g' c':Nat) (w:World) (h:AC w g x) (h':AC w g' y):Calls Tryz.prog 32 #[.int .i64 op,av g c,av g' c'] w (SPost (Vl.binOut op (Fd.tn x) (Fd.tn y)) w):=by
 have HK1:=hide (fun (w':World) (hb:Below w.heap.size w w')=>kind1 x g c w' (h.below hb))
 have HK2:=hide (fun (w':World) (hb:Below w.heap.size w w')=>kind1 y g' c' w' (h'.below hb))
 have HL1:=hide (fun (w':World) (hb:Below w.heap.size w w')=>last1 x g c w' (h.below hb))
 have HL2:=hide (fun (w':World) (hb:Below w.heap.size w w')=>last1 y g' c' w' (h'.below hb))
 have HV1:=hide (fun (w':World) (hb:Below w.heap.size w w')=>valid1 x (.inl hx) g c w' (h.below hb))
 have HV2:=hide (fun (w':World) (hb:Below w.heap.size w w')=>valid1 y (.inl hy) g' c' w' (h'.below hb))
 have HHAS:=hide (fun (w':World) (hb:Below w.heap.size w w')=>has1 x y hx hy g c g' c' w' (h.below hb) (h'.below hb))
 have HADD:=hide (fun (w':World) (hb:Below w.heap.size w w')=>add1 x y hx hy g c g' c' w' (h.below hb) (h'.below hb))
 obtain ⟨od,hod⟩:∃ od,od=(Fd.tn x).ord (Fd.tn y):=⟨_,rfl⟩
 have HRNG:Hid (od = -1∨od=0∨od=1):=hide (hod ▸ ord_rangeL x y)
 have HO:=hide (fun (w':World) (hb:Below w.heap.size w w')=>order1 x y hx.c g c g' c' w' (h.below hb) (h'.below hb))
 rw [← hod] at HO
 have HOD:=hide hod
 have HIN:=hide (fun w=>in1W op (by omega) (by omega) w)
 have hcx:=hx.c
 unfold Fd.isC at hcx
 have HCX:=hide hcx
 have G1:=fun w=>fldA1 x.kind x.n 0 x.text w
 have G2:=fun w=>fldA1 y.kind y.n 0 y.text w
 have HX:=hide hx
 have HY:=hide hy
 have O0:=hide (OB.start w (.slice (some ⟨g,0,none⟩) 1 c) (.slice (some ⟨g',0,none⟩) 1 c'))
 have a0:=O0.out.a
 have b0:=O0.out.b
 clear h h' hod hcx hx hy
 go_enter Tryz.func32,Tryz.ntmps32
 go_wp2_with fail
 refine (HV1.out _ O0.out.B).mono ?_
 rintro e w1 ⟨rfl,hb1⟩
 have O1:=hide (O0.out.below hb1)
 have a1:=O1.out.a
 have b1:=O1.out.b
 clear hb1 a0 b0
 go_wp2_with fail
 refine (HV2.out _ O1.out.B).mono ?_
 rintro e w2 ⟨rfl,hb2⟩
 have O2:=hide (O1.out.below hb2)
 have a2:=O2.out.a
 have b2:=O2.out.b
 clear hb2 a1 b1
 go_wp2_with fail
 refine (HIN.out _).mono ?_
 rintro e w2' ⟨rfl,rfl⟩
 go_wp2_with fail
 refine (HO.out _ O2.out.B).mono ?_
 rintro e w3 ⟨rfl,hb3⟩
 have O3:=hide (O2.out.below hb3)
 have a3:=O3.out.a
 have b3:=O3.out.b
 clear hb3 a2 b2
 go_wp2_with fail
 refine (HK1.out _ O3.out.B).mono ?_
 rintro e w4 ⟨rfl,hb4⟩
 have O4:=hide (O3.out.below hb4)
 have a4:=O4.out.a
 have b4:=O4.out.b
 clear hb4 a3 b3
 rcases hop with rfl | rfl | rfl | rfl
 ·have HOUT:Hid (Vl.binOut 3 (Fd.tn x) (Fd.tn y) = .inr (Vl.boolT (decide (od=0)))):=hide (by rw [HOD.out];rfl)
  rcases HRNG.out with h | h | h
  ·subst h
   go_wp2_with fail
   refine (bool5A false _).mono ?_
   rintro e w5 ⟨ga,rfl,hga,hac,hb5⟩
   have O5:=hide (O4.out.below hb5)
   have r5:=O5.out.r
   have f5:=O5.out.f
   have HAC:=hide hac
   have hz4:=O4.out.z
   have hB4:=O4.out.B.size
   clear hb5 hac
   go_wp2
   refine bodyPost_ret (v:= .tuple #[av ga 1,.string ⟨#[]⟩]) (by simp [results,Tryz.results32,go_sem,r5]) rfl ?_
   rw [HOUT.out]
   exact sp_bool (b:=false) (HAC.out.set (by omega)) (by omega) (O5.out.set _)
  ·subst h
   go_wp2_with fail
   refine (bool5A true _).mono ?_
   rintro e w5 ⟨ga,rfl,hga,hac,hb5⟩
   have O5:=hide (O4.out.below hb5)
   have r5:=O5.out.r
   have f5:=O5.out.f
   have HAC:=hide hac
   have hz4:=O4.out.z
   have hB4:=O4.out.B.size
   clear hb5 hac
   go_wp2
   refine bodyPost_ret (v:= .tuple #[av ga 1,.string ⟨#[]⟩]) (by simp [results,Tryz.results32,go_sem,r5]) rfl ?_
   rw [HOUT.out]
   exact sp_bool (b:=true) (HAC.out.set (by omega)) (by omega) (O5.out.set _)
  ·subst h
   go_wp2_with fail
   refine (bool5A false _).mono ?_
   rintro e w5 ⟨ga,rfl,hga,hac,hb5⟩
   have O5:=hide (O4.out.below hb5)
   have r5:=O5.out.r
   have f5:=O5.out.f
   have HAC:=hide hac
   have hz4:=O4.out.z
   have hB4:=O4.out.B.size
   clear hb5 hac
   go_wp2
   refine bodyPost_ret (v:= .tuple #[av ga 1,.string ⟨#[]⟩]) (by simp [results,Tryz.results32,go_sem,r5]) rfl ?_
   rw [HOUT.out]
   exact sp_bool (b:=false) (HAC.out.set (by omega)) (by omega) (O5.out.set _)
 ·have HOUT:Hid (Vl.binOut 4 (Fd.tn x) (Fd.tn y) = .inr (Vl.boolT (decide (od≠0)))):=hide (by rw [HOD.out];rfl)
  rcases HRNG.out with h | h | h
  ·subst h
   go_wp2_with fail
   refine (bool5A true _).mono ?_
   rintro e w5 ⟨ga,rfl,hga,hac,hb5⟩
   have O5:=hide (O4.out.below hb5)
   have r5:=O5.out.r
   have f5:=O5.out.f
   have HAC:=hide hac
   have hz4:=O4.out.z
   have hB4:=O4.out.B.size
   clear hb5 hac
   go_wp2
   refine bodyPost_ret (v:= .tuple #[av ga 1,.string ⟨#[]⟩]) (by simp [results,Tryz.results32,go_sem,r5]) rfl ?_
   rw [HOUT.out]
   exact sp_bool (b:=true) (HAC.out.set (by omega)) (by omega) (O5.out.set _)
  ·subst h
   go_wp2_with fail
   refine (bool5A false _).mono ?_
   rintro e w5 ⟨ga,rfl,hga,hac,hb5⟩
   have O5:=hide (O4.out.below hb5)
   have r5:=O5.out.r
   have f5:=O5.out.f
   have HAC:=hide hac
   have hz4:=O4.out.z
   have hB4:=O4.out.B.size
   clear hb5 hac
   go_wp2
   refine bodyPost_ret (v:= .tuple #[av ga 1,.string ⟨#[]⟩]) (by simp [results,Tryz.results32,go_sem,r5]) rfl ?_
   rw [HOUT.out]
   exact sp_bool (b:=false) (HAC.out.set (by omega)) (by omega) (O5.out.set _)
  ·subst h
   go_wp2_with fail
   refine (bool5A true _).mono ?_
   rintro e w5 ⟨ga,rfl,hga,hac,hb5⟩
   have O5:=hide (O4.out.below hb5)
   have r5:=O5.out.r
   have f5:=O5.out.f
   have HAC:=hide hac
   have hz4:=O4.out.z
   have hB4:=O4.out.B.size
   clear hb5 hac
   go_wp2
   refine bodyPost_ret (v:= .tuple #[av ga 1,.string ⟨#[]⟩]) (by simp [results,Tryz.results32,go_sem,r5]) rfl ?_
   rw [HOUT.out]
   exact sp_bool (b:=true) (HAC.out.set (by omega)) (by omega) (O5.out.set _)
 ·go_wp2_with fail
  refine (HHAS.out _ O4.out.B).mono ?_
  rintro e w5 ⟨p8,m8,c8,s8,rfl,hsv,hb5⟩
  have O5:=hide (O4.out.below hb5)
  have r5:=O5.out.r
  have f5:=O5.out.f
  have HSV:=hide hsv
  have hz4:=O4.out.z
  have hB4:=O4.out.B.size
  clear hb5 hsv
  go_wp2
  refine bodyPost_ret (v:= .tuple #[.agg #[.slice p8 m8 c8],.string s8]) (by simp [results,Tryz.results32,go_sem,r5]) rfl ?_
  exact ⟨p8,m8,c8,s8,rfl,HSV.out.set (by omega) (by omega),O5.out.set _⟩
 ·go_wp2_with fail
  refine (HADD.out _ O4.out.B).mono ?_
  rintro e w5 ⟨p8,m8,c8,s8,rfl,hsv,hb5⟩
  have O5:=hide (O4.out.below hb5)
  have r5:=O5.out.r
  have f5:=O5.out.f
  have HSV:=hide hsv
  have hz4:=O4.out.z
  have hB4:=O4.out.B.size
  clear hb5 hsv
  go_wp2
  refine bodyPost_ret (v:= .tuple #[.agg #[.slice p8 m8 c8],.string s8]) (by simp [results,Tryz.results32,go_sem,r5]) rfl ?_
  exact ⟨p8,m8,c8,s8,rfl,HSV.out.set (by omega) (by omega),O5.out.set _⟩
end Go.Proofs.YthbojbbmpcmoaaaGreatDoor
