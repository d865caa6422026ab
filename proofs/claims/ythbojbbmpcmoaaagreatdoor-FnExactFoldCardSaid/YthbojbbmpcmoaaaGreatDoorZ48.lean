/- Fw8. -/
import Derived.Test.YthbojbbmpcmoaaaGreatDoorZ47
namespace Go.Proofs.YthbojbbmpcmoaaaGreatDoor
open Go.RowKit
set_option maxRecDepth 100000 in
set_option maxHeartbeats 4000000 in
theorem opB (op:Int) (hop:op=5∨op=6∨op=7∨op=8) (x y:Tr.Nd) (hx:Fd.CN x) (hy:Fd.CN y) (g c g' c':Nat) (w:World) (h:AC w g x) (h':AC w g' y):Calls Tryz.prog 32 #[.int .i64 op,av g c,av g' c'] w (SPost (Vl.binOut op (Fd.tn x) (Fd.tn y)) w):=by
 have HK1:=hide (fun (w':World) (hb:Below w.heap.size w w')=>kind1 x g c w' (h.below hb))
 have HK2:=hide (fun (w':World) (hb:Below w.heap.size w w')=>kind1 y g' c' w' (h'.below hb))
 have HL1:=hide (fun (w':World) (hb:Below w.heap.size w w')=>last1 x g c w' (h.below hb))
 have HL2:=hide (fun (w':World) (hb:Below w.heap.size w w')=>last1 y g' c' w' (h'.below hb))
 have HV1:=hide (fun (w':World) (hb:Below w.heap.size w w')=>valid1 x (.inl hx) g c w' (h.below hb))
 have HV2:=hide (fun (w':World) (hb:Below w.heap.size w w')=>valid1 y (.inl hy) g' c' w' (h'.below hb))
 have HHAS:=hide (fun (w':World) (hb:Below w.heap.size w w')=>has1 x y hx hy g c g' c' w' (h.below hb) (h'.below hb))
 have HADD:=hide (fun (w':World) (hb:Below w.heap.size w w')=>add1 x y hx hy g c g' c' w' (h.below hb) (h'.below hb))
 obtain ⟨od,hod⟩:∃ od,od=(Fd.tn x).ord (Fd.tn y):=⟨_,rfl⟩
 have HRNG:Hid (od = -1∨od=0∨od=1):=hide (hod ▸ ord_rangeL x y)
 have HO:=hide (fun (w':World) (hb:Below w.heap.size w w')=>order1 x y hx.c g c g' c' w' (h.below hb) (h'.below hb))
 rw [← hod] at HO
 have HOD:=hide hod
 have HIN:=hide (fun w=>in1W op (by omega) (by omega) w)
 have hcx:=hx.c
 unfold Fd.isC at hcx
 have HCX:=hide hcx
 have G1:=fun w=>fldA1 x.kind x.n 0 x.text w
 have G2:=fun w=>fldA1 y.kind y.n 0 y.text w
 have HX:=hide hx
 have HY:=hide hy
 have O0:=hide (OB.start w (.slice (some ⟨g,0,none⟩) 1 c) (.slice (some ⟨g',0,none⟩) 1 c'))
 have a0:=O0.out.a
 have b0:=O0.out.b
 clear h h' hod hcx hx hy
 go_enter Tryz.func32,Tryz.ntmps32
 go_wp2_with fail
 refine (HV1.out _ O0.out.B).mono ?_
 rintro e w1 ⟨rfl,hb1⟩
 have O1:=hide (O0.out.below hb1)
 have a1:=O1.out.a
 have b1:=O1.out.b
 clear hb1 a0 b0
 go_wp2_with fail
 refine (HV2.out _ O1.out.B).mono ?_
 rintro e w2 ⟨rfl,hb2⟩
 have O2:=hide (O1.out.below hb2)
 have a2:=O2.out.a
 have b2:=O2.out.b
 clear hb2 a1 b1
 go_wp2_with fail
 refine (HIN.out _).mono ?_
 rintro e w2' ⟨rfl,rfl⟩
 go_wp2_with fail
 refine (HO.out _ O2.out.B).mono ?_
 rintro e w3 ⟨rfl,hb3⟩
 have O3:=hide (O2.out.below hb3)
 have a3:=O3.out.a
 have b3:=O3.out.b
 clear hb3 a2 b2
 go_wp2_with fail
 refine (HK1.out _ O3.out.B).mono ?_
 rintro e w4 ⟨rfl,hb4⟩
 have O4:=hide (O3.out.below hb4)
 have a4:=O4.out.a
 have b4:=O4.out.b
 clear hb4 a3 b3
 by_cases hk:x.kind=y.kind
 ·have tk:(x.kind != y.kind)=false:=by simpa using hk
  by_cases h1:x.kind=1
  ·have t1:(x.kind == 1)=true:=by simpa using h1
   have HN:Hid (∀ hb:Int→Bool,Vl.alike hb (Fd.tn x) (Fd.tn y) = .inl Vl.tyW):=hide (fun hb=>alike_no (.inr h1))
   clear hk h1
   rcases hop with rfl | rfl | rfl | rfl
   ·have HOUT:Hid (Vl.binOut 5 (Fd.tn x) (Fd.tn y) = .inl Vl.tyW):=hide (HN.out _)
    go_wp2_with fail
    refine (HK2.out _ O4.out.B).mono ?_
    rintro e w5 ⟨rfl,hb5⟩
    have O5:=hide (O4.out.below hb5)
    have a5:=O5.out.a
    have b5:=O5.out.b
    clear hb5 a4 b4
    go_wp2_with fail
    refine (noW _ _).mono ?_
    rintro e w6 ⟨rfl,hb6⟩
    have O6:=hide (O5.out.below hb6)
    have r6:=O6.out.r
    have f6:=O6.out.f
    clear hb6
    go_wp2
    refine bodyPost_ret (v:= .tuple #[.agg #[.slice none 0 0],.string ⟨#[116,121,112,101]⟩]) (by simp [results,Tryz.results32,go_sem,r6]) rfl ?_
    rw [HOUT.out]
    exact sp_word (O6.out.set _)
   ·have HOUT:Hid (Vl.binOut 6 (Fd.tn x) (Fd.tn y) = .inl Vl.tyW):=hide (HN.out _)
    go_wp2_with fail
    refine (HK2.out _ O4.out.B).mono ?_
    rintro e w5 ⟨rfl,hb5⟩
    have O5:=hide (O4.out.below hb5)
    have a5:=O5.out.a
    have b5:=O5.out.b
    clear hb5 a4 b4
    go_wp2_with fail
    refine (noW _ _).mono ?_
    rintro e w6 ⟨rfl,hb6⟩
    have O6:=hide (O5.out.below hb6)
    have r6:=O6.out.r
    have f6:=O6.out.f
    clear hb6
    go_wp2
    refine bodyPost_ret (v:= .tuple #[.agg #[.slice none 0 0],.string ⟨#[116,121,112,101]⟩]) (by simp [results,Tryz.results32,go_sem,r6]) rfl ?_
    rw [HOUT.out]
    exact sp_word (O6.out.set _)
   ·have HOUT:Hid (Vl.binOut 7 (Fd.tn x) (Fd.tn y) = .inl Vl.tyW):=hide (HN.out _)
    go_wp2_with fail
    refine (HK2.out _ O4.out.B).mono ?_
    rintro e w5 ⟨rfl,hb5⟩
    have O5:=hide (O4.out.below hb5)
    have a5:=O5.out.a
    have b5:=O5.out.b
    clear hb5 a4 b4
    go_wp2_with fail
    refine (noW _ _).mono ?_
    rintro e w6 ⟨rfl,hb6⟩
    have O6:=hide (O5.out.below hb6)
    have r6:=O6.out.r
    have f6:=O6.out.f
    clear hb6
    go_wp2
    refine bodyPost_ret (v:= .tuple #[.agg #[.slice none 0 0],.string ⟨#[116,121,112,101]⟩]) (by simp [results,Tryz.results32,go_sem,r6]) rfl ?_
    rw [HOUT.out]
    exact sp_word (O6.out.set _)
   ·have HOUT:Hid (Vl.binOut 8 (Fd.tn x) (Fd.tn y) = .inl Vl.tyW):=hide (HN.out _)
    go_wp2_with fail
    refine (HK2.out _ O4.out.B).mono ?_
    rintro e w5 ⟨rfl,hb5⟩
    have O5:=hide (O4.out.below hb5)
    have a5:=O5.out.a
    have b5:=O5.out.b
    clear hb5 a4 b4
    go_wp2_with fail
    refine (noW _ _).mono ?_
    rintro e w6 ⟨rfl,hb6⟩
    have O6:=hide (O5.out.below hb6)
    have r6:=O6.out.r
    have f6:=O6.out.f
    clear hb6
    go_wp2
    refine bodyPost_ret (v:= .tuple #[.agg #[.slice none 0 0],.string ⟨#[116,121,112,101]⟩]) (by simp [results,Tryz.results32,go_sem,r6]) rfl ?_
    rw [HOUT.out]
    exact sp_word (O6.out.set _)
  ·have t1:(x.kind == 1)=false:=by simpa using h1
   have t6:(x.kind == 6)=false:=by have:=HCX.out;simpa using (by omega:x.kind≠6)
   have HN:Hid (∀ hb:Int→Bool,Vl.alike hb (Fd.tn x) (Fd.tn y) = .inr (Vl.boolT (hb od))):=hide (fun hb=>by rw [HOD.out];exact alike_yes hk (by have:=HCX.out;show x.kind=2∨x.kind=3∨x.kind=4;omega))
   clear hk h1
   rcases hop with rfl | rfl | rfl | rfl
   ·have HOUT:Hid (Vl.binOut 5 (Fd.tn x) (Fd.tn y) = .inr (Vl.boolT (decide (od < 0)))):=hide (HN.out _)
    go_wp2_with fail
    refine (HK2.out _ O4.out.B).mono ?_
    rintro e w5 ⟨rfl,hb5⟩
    have O5:=hide (O4.out.below hb5)
    have a5:=O5.out.a
    have b5:=O5.out.b
    clear hb5 a4 b4
    rcases HRNG.out with h | h | h
    ·subst h
     go_wp2_with fail
     refine (bool5A true _).mono ?_
     rintro e w6 ⟨ga,rfl,hga,hac,hb6⟩
     have O6:=hide (O5.out.below hb6)
     have r6:=O6.out.r
     have f6:=O6.out.f
     have HAC:=hide hac
     have hz5:=O5.out.z
     have hB5:=O5.out.B.size
     clear hb6 hac
     go_wp2
     refine bodyPost_ret (v:= .tuple #[av ga 1,.string ⟨#[]⟩]) (by simp [results,Tryz.results32,go_sem,r6]) rfl ?_
     rw [HOUT.out]
     exact sp_bool (b:=true) (HAC.out.set (by omega)) (by omega) (O6.out.set _)
    ·subst h
     go_wp2_with fail
     refine (bool5A false _).mono ?_
     rintro e w6 ⟨ga,rfl,hga,hac,hb6⟩
     have O6:=hide (O5.out.below hb6)
     have r6:=O6.out.r
     have f6:=O6.out.f
     have HAC:=hide hac
     have hz5:=O5.out.z
     have hB5:=O5.out.B.size
     clear hb6 hac
     go_wp2
     refine bodyPost_ret (v:= .tuple #[av ga 1,.string ⟨#[]⟩]) (by simp [results,Tryz.results32,go_sem,r6]) rfl ?_
     rw [HOUT.out]
     exact sp_bool (b:=false) (HAC.out.set (by omega)) (by omega) (O6.out.set _)
    ·subst h
     go_wp2_with fail
     refine (bool5A false _).mono ?_
     rintro e w6 ⟨ga,rfl,hga,hac,hb6⟩
     have O6:=hide (O5.out.below hb6)
     have r6:=O6.out.r
     have f6:=O6.out.f
     have HAC:=hide hac
     have hz5:=O5.out.z
     have hB5:=O5.out.B.size
     clear hb6 hac
     go_wp2
     refine bodyPost_ret (v:= .tuple #[av ga 1,.string ⟨#[]⟩]) (by simp [results,Tryz.results32,go_sem,r6]) rfl ?_
     rw [HOUT.out]
     exact sp_bool (b:=false) (HAC.out.set (by omega)) (by omega) (O6.out.set _)
   ·have HOUT:Hid (Vl.binOut 6 (Fd.tn x) (Fd.tn y) = .inr (Vl.boolT (decide (od≤0)))):=hide (HN.out _)
    go_wp2_with fail
    refine (HK2.out _ O4.out.B).mono ?_
    rintro e w5 ⟨rfl,hb5⟩
    have O5:=hide (O4.out.below hb5)
    have a5:=O5.out.a
    have b5:=O5.out.b
    clear hb5 a4 b4
    rcases HRNG.out with h | h | h
    ·subst h
     go_wp2_with fail
     refine (bool5A true _).mono ?_
     rintro e w6 ⟨ga,rfl,hga,hac,hb6⟩
     have O6:=hide (O5.out.below hb6)
     have r6:=O6.out.r
     have f6:=O6.out.f
     have HAC:=hide hac
     have hz5:=O5.out.z
     have hB5:=O5.out.B.size
     clear hb6 hac
     go_wp2
     refine bodyPost_ret (v:= .tuple #[av ga 1,.string ⟨#[]⟩]) (by simp [results,Tryz.results32,go_sem,r6]) rfl ?_
     rw [HOUT.out]
     exact sp_bool (b:=true) (HAC.out.set (by omega)) (by omega) (O6.out.set _)
    ·subst h
     go_wp2_with fail
     refine (bool5A true _).mono ?_
     rintro e w6 ⟨ga,rfl,hga,hac,hb6⟩
     have O6:=hide (O5.out.below hb6)
     have r6:=O6.out.r
     have f6:=O6.out.f
     have HAC:=hide hac
     have hz5:=O5.out.z
     have hB5:=O5.out.B.size
     clear hb6 hac
     go_wp2
     refine bodyPost_ret (v:= .tuple #[av ga 1,.string ⟨#[]⟩]) (by simp [results,Tryz.results32,go_sem,r6]) rfl ?_
     rw [HOUT.out]
     exact sp_bool (b:=true) (HAC.out.set (by omega)) (by omega) (O6.out.set _)
    ·subst h
     go_wp2_with fail
     refine (bool5A false _).mono ?_
     rintro e w6 ⟨ga,rfl,hga,hac,hb6⟩
     have O6:=hide (O5.out.below hb6)
     have r6:=O6.out.r
     have f6:=O6.out.f
     have HAC:=hide hac
     have hz5:=O5.out.z
     have hB5:=O5.out.B.size
     clear hb6 hac
     go_wp2
     refine bodyPost_ret (v:= .tuple #[av ga 1,.string ⟨#[]⟩]) (by simp [results,Tryz.results32,go_sem,r6]) rfl ?_
     rw [HOUT.out]
     exact sp_bool (b:=false) (HAC.out.set (by omega)) (by omega) (O6.out.set _)
   ·have HOUT:Hid (Vl.binOut 7 (Fd.tn x) (Fd.tn y) = .inr (Vl.boolT (decide (0 < od)))):=hide (HN.out _)
    go_wp2_with fail
    refine (HK2.out _ O4.out.B).mono ?_
    rintro e w5 ⟨rfl,hb5⟩
    have O5:=hide (O4.out.below hb5)
    have a5:=O5.out.a
    have b5:=O5.out.b
    clear hb5 a4 b4
    rcases HRNG.out with h | h | h
    ·subst h
     go_wp2_with fail
     refine (bool5A false _).mono ?_
     rintro e w6 ⟨ga,rfl,hga,hac,hb6⟩
     have O6:=hide (O5.out.below hb6)
     have r6:=O6.out.r
     have f6:=O6.out.f
     have HAC:=hide hac
     have hz5:=O5.out.z
     have hB5:=O5.out.B.size
     clear hb6 hac
     go_wp2
     refine bodyPost_ret (v:= .tuple #[av ga 1,.string ⟨#[]⟩]) (by simp [results,Tryz.results32,go_sem,r6]) rfl ?_
     rw [HOUT.out]
     exact sp_bool (b:=false) (HAC.out.set (by omega)) (by omega) (O6.out.set _)
    ·subst h
     go_wp2_with fail
     refine (bool5A false _).mono ?_
     rintro e w6 ⟨ga,rfl,hga,hac,hb6⟩
     have O6:=hide (O5.out.below hb6)
     have r6:=O6.out.r
     have f6:=O6.out.f
     have HAC:=hide hac
     have hz5:=O5.out.z
     have hB5:=O5.out.B.size
     clear hb6 hac
     go_wp2
     refine bodyPost_ret (v:= .tuple #[av ga 1,.string ⟨#[]⟩]) (by simp [results,Tryz.results32,go_sem,r6]) rfl ?_
     rw [HOUT.out]
     exact sp_bool (b:=false) (HAC.out.set (by omega)) (by omega) (O6.out.set _)
    ·subst h
     go_wp2_with fail
     refine (bool5A true _).mono ?_
     rintro e w6 ⟨ga,rfl,hga,hac,hb6⟩
     have O6:=hide (O5.out.below hb6)
     have r6:=O6.out.r
     have f6:=O6.out.f
     have HAC:=hide hac
     have hz5:=O5.out.z
     have hB5:=O5.out.B.size
     clear hb6 hac
     go_wp2
     refine bodyPost_ret (v:= .tuple #[av ga 1,.string ⟨#[]⟩]) (by simp [results,Tryz.results32,go_sem,r6]) rfl ?_
     rw [HOUT.out]
     exact sp_bool (b:=true) (HAC.out.set (by omega)) (by omega) (O6.out.set _)
   ·have HOUT:Hid (Vl.binOut 8 (Fd.tn x) (Fd.tn y) = .inr (Vl.boolT (decide (0≤od)))):=hide (HN.out _)
    go_wp2_with fail
    refine (HK2.out _ O4.out.B).mono ?_
    rintro e w5 ⟨rfl,hb5⟩
    have O5:=hide (O4.out.below hb5)
    have a5:=O5.out.a
    have b5:=O5.out.b
    clear hb5 a4 b4
    rcases HRNG.out with h | h | h
    ·subst h
     go_wp2_with fail
     refine (bool5A false _).mono ?_
     rintro e w6 ⟨ga,rfl,hga,hac,hb6⟩
     have O6:=hide (O5.out.below hb6)
     have r6:=O6.out.r
     have f6:=O6.out.f
     have HAC:=hide hac
     have hz5:=O5.out.z
     have hB5:=O5.out.B.size
     clear hb6 hac
     go_wp2
     refine bodyPost_ret (v:= .tuple #[av ga 1,.string ⟨#[]⟩]) (by simp [results,Tryz.results32,go_sem,r6]) rfl ?_
     rw [HOUT.out]
     exact sp_bool (b:=false) (HAC.out.set (by omega)) (by omega) (O6.out.set _)
    ·subst h
     go_wp2_with fail
     refine (bool5A true _).mono ?_
     rintro e w6 ⟨ga,rfl,hga,hac,hb6⟩
     have O6:=hide (O5.out.below hb6)
     have r6:=O6.out.r
     have f6:=O6.out.f
     have HAC:=hide hac
     have hz5:=O5.out.z
     have hB5:=O5.out.B.size
     clear hb6 hac
     go_wp2
     refine bodyPost_ret (v:= .tuple #[av ga 1,.string ⟨#[]⟩]) (by simp [results,Tryz.results32,go_sem,r6]) rfl ?_
     rw [HOUT.out]
     exact sp_bool (b:=true) (HAC.out.set (by omega)) (by omega) (O6.out.set _)
    ·subst h
     go_wp2_with fail
     refine (bool5A true _).mono ?_
     rintro e w6 ⟨ga,rfl,hga,hac,hb6⟩
     have O6:=hide (O5.out.below hb6)
     have r6:=O6.out.r
     have f6:=O6.out.f
     have HAC:=hide hac
     have hz5:=O5.out.z
     have hB5:=O5.out.B.size
     clear hb6 hac
     go_wp2
     refine bodyPost_ret (v:= .tuple #[av ga 1,.string ⟨#[]⟩]) (by simp [results,Tryz.results32,go_sem,r6]) rfl ?_
     rw [HOUT.out]
     exact sp_bool (b:=true) (HAC.out.set (by omega)) (by omega) (O6.out.set _)
 ·have tk:(x.kind != y.kind)=true:=by simpa using hk
  have hki:¬ (x.kind=y.kind):=hk
  have HN:Hid (∀ hb:Int→Bool,Vl.alike hb (Fd.tn x) (Fd.tn y) = .inl Vl.tyW):=hide (fun hb=>alike_no (.inl hk))
  clear hk
  rcases hop with rfl | rfl | rfl | rfl
  ·have HOUT:Hid (Vl.binOut 5 (Fd.tn x) (Fd.tn y) = .inl Vl.tyW):=hide (HN.out _)
   go_wp2_with fail
   refine (HK2.out _ O4.out.B).mono ?_
   rintro e w5 ⟨rfl,hb5⟩
   have O5:=hide (O4.out.below hb5)
   have a5:=O5.out.a
   have b5:=O5.out.b
   clear hb5 a4 b4
   go_wp2_with fail
   refine (noW _ _).mono ?_
   rintro e w6 ⟨rfl,hb6⟩
   have O6:=hide (O5.out.below hb6)
   have r6:=O6.out.r
   have f6:=O6.out.f
   clear hb6
   go_wp2
   refine bodyPost_ret (v:= .tuple #[.agg #[.slice none 0 0],.string ⟨#[116,121,112,101]⟩]) (by simp [results,Tryz.results32,go_sem,r6]) rfl ?_
   rw [HOUT.out]
   exact sp_word (O6.out.set _)
  ·have HOUT:Hid (Vl.binOut 6 (Fd.tn x) (Fd.tn y) = .inl Vl.tyW):=hide (HN.out _)
   go_wp2_with fail
   refine (HK2.out _ O4.out.B).mono ?_
   rintro e w5 ⟨rfl,hb5⟩
   have O5:=hide (O4.out.below hb5)
   have a5:=O5.out.a
   have b5:=O5.out.b
   clear hb5 a4 b4
   go_wp2_with fail
   refine (noW _ _).mono ?_
   rintro e w6 ⟨rfl,hb6⟩
   have O6:=hide (O5.out.below hb6)
   have r6:=O6.out.r
   have f6:=O6.out.f
   clear hb6
   go_wp2
   refine bodyPost_ret (v:= .tuple #[.agg #[.slice none 0 0],.string ⟨#[116,121,112,101]⟩]) (by simp [results,Tryz.results32,go_sem,r6]) rfl ?_
   rw [HOUT.out]
   exact sp_word (O6.out.set _)
  ·have HOUT:Hid (Vl.binOut 7 (Fd.tn x) (Fd.tn y) = .inl Vl.tyW):=hide (HN.out _)
   go_wp2_with fail
   refine (HK2.out _ O4.out.B).mono ?_
   rintro e w5 ⟨rfl,hb5⟩
   have O5:=hide (O4.out.below hb5)
   have a5:=O5.out.a
   have b5:=O5.out.b
   clear hb5 a4 b4
   go_wp2_with fail
   refine (noW _ _).mono ?_
   rintro e w6 ⟨rfl,hb6⟩
   have O6:=hide (O5.out.below hb6)
   have r6:=O6.out.r
   have f6:=O6.out.f
   clear hb6
   go_wp2
   refine bodyPost_ret (v:= .tuple #[.agg #[.slice none 0 0],.string ⟨#[116,121,112,101]⟩]) (by simp [results,Tryz.results32,go_sem,r6]) rfl ?_
   rw [HOUT.out]
   exact sp_word (O6.out.set _)
  ·have HOUT:Hid (Vl.binOut 8 (Fd.tn x) (Fd.tn y) = .inl Vl.tyW):=hide (HN.out _)
   go_wp2_with fail
   refine (HK2.out _ O4.out.B).mono ?_
   rintro e w5 ⟨rfl,hb5⟩
   have O5:=hide (O4.out.below hb5)
   have a5:=O5.out.a
   have b5:=O5.out.b
   clear hb5 a4 b4
   go_wp2_with fail
   refine (noW _ _).mono ?_
   rintro e w6 ⟨rfl,hb6⟩
   have O6:=hide (O5.out.below hb6)
   have r6:=O6.out.r
   have f6:=O6.out.f
   clear hb6
   go_wp2
   refine bodyPost_ret (v:= .tuple #[.agg #[.slice none 0 0],.string ⟨#[116,121,112,101]⟩]) (by simp [results,Tryz.results32,go_sem,r6]) rfl ?_
   rw [HOUT.out]
   exact sp_word (O6.out.set _)
end Go.Proofs.YthbojbbmpcmoaaaGreatDoor
