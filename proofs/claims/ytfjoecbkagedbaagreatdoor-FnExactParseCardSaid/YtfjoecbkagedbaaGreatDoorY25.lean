/- Hi, Hj. -/
import Derived.Test.YtfjoecbkagedbaaGreatDoorY24
namespace Go.Proofs.YtfjoecbkagedbaaGreatDoor
open Go.RowKit
/-- How far the desk in b has to go. -/
def Pr.left (b : Nat) (ts : List Sc.T) (w : World) : Nat := ts.length - (intOf ((w.cell? ⟨b, 2, none⟩).getD (.int .i64 0))).toNat
theorem DK.left {b tg tc : Nat} {ts : List Sc.T} {sz : Nat} {v : Value} {s : Pr.Dk} {w : World} (h : DK b tg tc ts sz v s w) : Pr.left b ts w = ts.length - s.p := by
  unfold Pr.left; rw [h.c2]; simp [intOf]
abbrev Pr.SOi (b tg tc : Nat) (ts : List Sc.T) (sz : Nat) (i : Int) (r : Nat) (s : Pr.Dk) : Prop := Pr.Says b tg tc ts sz 54 [.int .i64 i] Pr.un (.ops r) s
set_option maxRecDepth 100000 in
set_option maxHeartbeats 2000000 in
theorem ops_bad {b tg tc : Nat} {ts : List Sc.T} {sz : Nat} {s : Pr.Dk} (r : Nat) (hbad : s.bad = true) : Pr.SOi b tg tc ts sz r r s := by
  intro v0 w0 hd0 hN
  have HD0 := hide hd0
  have c3 := hd0.c3
  rw [hbad] at c3
  clear hd0
  go_enter Tryz.func54, Tryz.ntmps54
  go_wp2
  (first | go_end0 | refine bodyPost_ret (results_none rfl _ _ _) rfl ?_)
  exact ⟨(s, 0), rfl, Pr.Cv.ops_bad hbad, v0, HD0.out, .refl _ _ _⟩
set_option maxRecDepth 100000 in
set_option maxHeartbeats 2000000 in
theorem ops_at3 {b tg tc : Nat} {ts : List Sc.T} {sz : Nat} {s : Pr.Dk} (hbad : s.bad = false) (ihE : ∀ q : Pr.Dk, s.p < q.p → q.p ≤ ts.length → Pr.SOi b tg tc ts sz 3 3 q) (ihN : Pr.SOi b tg tc ts sz 4 4 s) : Pr.SOi b tg tc ts sz 3 3 s := by
  intro v0 w0 hd0 hN
  have h0 := hd0.le
  have HD0 := hide hd0
  have HG0 := hide (Pr.Gr.refl b v0 w0)
  have HS0 := hide (Pr.Stp.refl h0)
  have c3 := hd0.c3
  rw [hbad] at c3
  clear hd0
  cases hi : Pr.is ts sz s Pr.sNot
  · go_enter Tryz.func54, Tryz.ntmps54
    have Q1 := hide (takeN HD0.out Pr.sNot #[110, 111, 116] rfl hi)
    go_wp2_with fail
    refine Q1.out.mono ?_
    rintro e1 w1 ⟨rfl, v1, hd1, hg1⟩
    have HD1 := hide hd1
    have HG1 := hide (HG0.out.trans hg1)
    have HS1 := hide (HS0.out)
    clear hd1 hg1 Q1
    have Q2 := hide (ihN _ _ HD1.out (HS1.out.phi (by first | omega | (simp only [Pr.extra]; omega)) h0 hN))
    go_wp2_with fail
    refine Q2.out.mono ?_
    rintro e2 w2 ⟨r2, rfl, hc2, v2, hd2, hg2⟩
    have HC2 := hide hc2
    have HD2 := hide hd2
    have HG2 := hide (HG1.out.trans hg2)
    have HS2 := hide (HS1.out.trans (hc2.stp HS1.out.le))
    clear hc2 hd2 hg2 Q2
    go_wp2
    (first | go_end0 | refine bodyPost_ret (results_none rfl _ _ _) rfl ?_)
    exact ⟨_, rfl, Pr.Cv.ops_3 hbad hi HC2.out, v2, HD2.out, HG2.out⟩
  · go_enter Tryz.func54, Tryz.ntmps54
    have Q1 := hide (takeY HD0.out Pr.sNot #[110, 111, 116] rfl hi)
    go_wp2_with fail
    refine Q1.out.mono ?_
    rintro e1 w1 ⟨rfl, v1, hd1, hg1⟩
    have HD1 := hide hd1
    have HG1 := hide (HG0.out.trans hg1)
    have HS1 := hide (HS0.out.adv hi)
    clear hd1 hg1 Q1
    have HA1 := hide (Pr.Stp.refl HS1.out.le)
    have Q2 := hide (ihE _ HA1.out.ge HS1.out.le _ _ HD1.out (HS1.out.phi (by first | omega | (simp only [Pr.extra]; omega)) h0 hN))
    go_wp2_with fail
    refine Q2.out.mono ?_
    rintro e2 w2 ⟨r2, rfl, hc2, v2, hd2, hg2⟩
    have HC2 := hide hc2
    have HD2 := hide hd2
    have HG2 := hide (HG1.out.trans hg2)
    have HS2 := hide (HS1.out.trans (hc2.stp HS1.out.le))
    have HA2 := hide (HA1.out.trans (hc2.stp HA1.out.le))
    clear hc2 hd2 hg2 Q2
    have Q3 := hide (put_any HD2.out (HS2.out.len (by first | omega | (simp only [Pr.extra]; omega)) h0 hN) 6 1 0 [] 1)
    go_wp2_with fail
    refine Q3.out.mono ?_
    rintro e3 w3 ⟨rfl, v3, hd3, hg3⟩
    have HD3 := hide hd3
    have HG3 := hide (HG2.out.trans hg3)
    have HS3 := hide (HS2.out.put 6 1 0 [] 1)
    have HA3 := hide (HA2.out.put 6 1 0 [] 1)
    clear hd3 hg3 Q3
    go_wp2
    (first | go_end0 | refine bodyPost_ret (results_none rfl _ _ _) rfl ?_)
    exact ⟨(_, 0), rfl, Pr.Cv.ops_not hbad hi HC2.out, v3, HD3.out, HG3.out⟩
set_option maxRecDepth 100000 in
set_option maxHeartbeats 2000000 in
theorem ops_at7 {b tg tc : Nat} {ts : List Sc.T} {sz : Nat} {s : Pr.Dk} (hbad : s.bad = false) (ihE : ∀ q : Pr.Dk, s.p < q.p → q.p ≤ ts.length → Pr.SOi b tg tc ts sz 7 7 q) (ihN : Pr.ST b tg tc ts sz s) : Pr.SOi b tg tc ts sz 7 7 s := by
  intro v0 w0 hd0 hN
  have h0 := hd0.le
  have HD0 := hide hd0
  have HG0 := hide (Pr.Gr.refl b v0 w0)
  have HS0 := hide (Pr.Stp.refl h0)
  have c3 := hd0.c3
  rw [hbad] at c3
  clear hd0
  cases hi : Pr.is ts sz s [45]
  · go_enter Tryz.func54, Tryz.ntmps54
    have Q1 := hide (takeN HD0.out [45] #[45] rfl hi)
    go_wp2_with fail
    refine Q1.out.mono ?_
    rintro e1 w1 ⟨rfl, v1, hd1, hg1⟩
    have HD1 := hide hd1
    have HG1 := hide (HG0.out.trans hg1)
    have HS1 := hide (HS0.out)
    clear hd1 hg1 Q1
    have Q2 := hide (ihN _ _ HD1.out (HS1.out.phi (by first | omega | (simp only [Pr.extra]; omega)) h0 hN))
    go_wp2_with fail
    refine Q2.out.mono ?_
    rintro e2 w2 ⟨r2, rfl, hc2, v2, hd2, hg2⟩
    have HC2 := hide hc2
    have HD2 := hide hd2
    have HG2 := hide (HG1.out.trans hg2)
    have HS2 := hide (HS1.out.trans (hc2.stp HS1.out.le))
    clear hc2 hd2 hg2 Q2
    go_wp2
    (first | go_end0 | refine bodyPost_ret (results_none rfl _ _ _) rfl ?_)
    exact ⟨_, rfl, Pr.Cv.ops_7 hbad rfl hi HC2.out, v2, HD2.out, HG2.out⟩
  · go_enter Tryz.func54, Tryz.ntmps54
    have Q1 := hide (takeY HD0.out [45] #[45] rfl hi)
    go_wp2_with fail
    refine Q1.out.mono ?_
    rintro e1 w1 ⟨rfl, v1, hd1, hg1⟩
    have HD1 := hide hd1
    have HG1 := hide (HG0.out.trans hg1)
    have HS1 := hide (HS0.out.adv hi)
    clear hd1 hg1 Q1
    have HA1 := hide (Pr.Stp.refl HS1.out.le)
    have Q2 := hide (ihE _ HA1.out.ge HS1.out.le _ _ HD1.out (HS1.out.phi (by first | omega | (simp only [Pr.extra]; omega)) h0 hN))
    go_wp2_with fail
    refine Q2.out.mono ?_
    rintro e2 w2 ⟨r2, rfl, hc2, v2, hd2, hg2⟩
    have HC2 := hide hc2
    have HD2 := hide hd2
    have HG2 := hide (HG1.out.trans hg2)
    have HS2 := hide (HS1.out.trans (hc2.stp HS1.out.le))
    have HA2 := hide (HA1.out.trans (hc2.stp HA1.out.le))
    clear hc2 hd2 hg2 Q2
    have Q3 := hide (put_any HD2.out (HS2.out.len (by first | omega | (simp only [Pr.extra]; omega)) h0 hN) 6 2 0 [] 1)
    go_wp2_with fail
    refine Q3.out.mono ?_
    rintro e3 w3 ⟨rfl, v3, hd3, hg3⟩
    have HD3 := hide hd3
    have HG3 := hide (HG2.out.trans hg3)
    have HS3 := hide (HS2.out.put 6 2 0 [] 1)
    have HA3 := hide (HA2.out.put 6 2 0 [] 1)
    clear hd3 hg3 Q3
    go_wp2
    (first | go_end0 | refine bodyPost_ret (results_none rfl _ _ _) rfl ?_)
    exact ⟨(_, 0), rfl, Pr.Cv.ops_neg hbad rfl hi HC2.out, v3, HD3.out, HG3.out⟩
set_option maxRecDepth 100000 in
set_option maxHeartbeats 4000000 in
theorem ops_at {b tg tc : Nat} {ts : List Sc.T} {sz : Nat} {s : Pr.Dk} (r : Nat) (hr : r ≤ 6) (hr3 : r ≠ 3) (hbad : s.bad = false) (ihF : ∀ q : Pr.Dk, s.p < q.p → q.p ≤ ts.length → Pr.SOi b tg tc ts sz ((r : Int) + 1) (r + 1) q) (ihN : Pr.SOi b tg tc ts sz ((r : Int) + 1) (r + 1) s) : Pr.SOi b tg tc ts sz r r s := by
  intro v0 w0 hd0 hN
  have h0 := hd0.le
  have HD0 := hide hd0
  have HG0 := hide (Pr.Gr.refl b v0 w0)
  have HS0 := hide (Pr.Stp.refl h0)
  have c3 := hd0.c3
  rw [hbad] at c3
  clear hd0
  have hm := HD0.out.most
  have e3 : ¬ (r : Int) = 3 := by omega
  have e7 : ¬ (r : Int) = 7 := by omega
  have b3 : (r == 3) = false := by simp [hr3]
  have b7 : (r == 7) = false := by simp; omega
  go_enter Tryz.func54, Tryz.ntmps54
  have Q1 := hide (ihN _ _ HD0.out (HS0.out.phi (by first | omega | (simp only [Pr.extra]; omega)) h0 hN))
  go_wp2_with fail
  refine Q1.out.mono ?_
  rintro e1 w1 ⟨r1, rfl, hc1, v1, hd1, hg1⟩
  have HC1 := hide hc1
  have HD1 := hide hd1
  have HG1 := hide (HG0.out.trans hg1)
  have HS1 := hide (HS0.out.trans (hc1.stp HS0.out.le))
  clear hc1 hd1 hg1 Q1
  have HI := hide (show ∀ r2, Pr.Cv ts sz (.opsL r) r1.1 r2 → Pr.Cv ts sz (.ops r) s r2 from fun r2 h => Pr.Cv.ops_r hbad b3 b7 HC1.out h)
  clear HC1
  go_wp2_with fail
  go_loopw [4] (fun _ wr => ∃ (q : Pr.Dk) (vq : Value), DK b tg tc ts sz vq q wr ∧ Pr.Gr b v0 vq w0 wr ∧ Pr.Stp ts s q 0 ∧ ∀ r2, Pr.Cv ts sz (.opsL r) q r2 → Pr.Cv ts sz (.ops r) s r2) (fun _ wr => Pr.left b ts wr)
  case atStart => exact ⟨r1.1, v1, HD1.out, HG1.out, HS1.out.mono (by first | omega | (simp only [Pr.extra]; omega)), HI.out⟩
  case round =>
    obtain ⟨q, v10, hd10, hg10, hs10, hi10⟩ := hrel
    have HD10 := hide hd10
    have HG10 := hide hg10
    have HS10 := hide hs10
    have HI10 := hide hi10
    have HQ := hide (op_any hd10 r)
    clear hd10 hg10 hs10 hi10 HI HD1 HG1 HS1
    cases hz : (Pr.op ts sz q r == 0)
    · have hlt := Pr.op_lt hz
      have hzi : ¬ ((Pr.op ts sz q r : Nat) : Int) = 0 := by simp at hz; omega
      by_cases h4 : r = 4
      · subst h4
        go_wp2_with fail
        refine HQ.out.mono ?_
        rintro e w2 ⟨rfl, hb2⟩
        have hd2 := HD10.out.below hb2
        have c2 := hd2.c2
        have f2 := hd2.fr 2
        have hdA := hd2.adv hlt
        have HD11 := hide hdA
        have HG11 := hide ((HG10.out.trans (.below hb2)).trans (.set v10 _ b 2 (.int .i64 ((q.p : Int) + 1))))
        have HS11 := hide (HS10.out.advL hlt)
        clear hd2 hdA hb2
        have Q12 := hide (ihF _ (Nat.lt_succ_of_le HS10.out.ge) HS11.out.le _ _ HD11.out (HS11.out.phi (by first | omega | (simp only [Pr.extra]; omega)) h0 hN))
        go_wp2_with fail
        refine Q12.out.mono ?_
        rintro e12 w12 ⟨r12, rfl, hc12, v12, hd12, hg12⟩
        have HC12 := hide hc12
        have HD12 := hide hd12
        have HG12 := hide (HG11.out.trans hg12)
        have HS12 := hide (HS11.out.trans (hc12.stp HS11.out.le))
        clear hc12 hd12 hg12 Q12
        have Q13 := hide (put_any HD12.out (HS12.out.len (by first | omega | (simp only [Pr.extra]; omega)) h0 hN) 7 (Pr.op ts sz q 4 : Nat) 0 [] 2)
        go_wp2_with fail
        refine Q13.out.mono ?_
        rintro e13 w13 ⟨rfl, v13, hd13, hg13⟩
        have HD13 := hide hd13
        have HG13 := hide (HG12.out.trans hg13)
        have HS13 := hide (HS12.out.put 7 (Pr.op ts sz q 4 : Nat) 0 [] 2)
        clear hd13 hg13 Q13
        go_wp2
        (first | go_end0 | refine bodyPost_ret (results_none rfl _ _ _) rfl ?_)
        exact ⟨(_, 0), rfl, HI10.out _ (Pr.Cv.opsL_4 hz HC12.out), v13, HD13.out, HG13.out⟩
      · have e4 : ¬ (r : Int) = 4 := by omega
        have b4 : (r == 4) = false := by simp [h4]
        go_wp2_with fail
        refine HQ.out.mono ?_
        rintro e w2 ⟨rfl, hb2⟩
        have hd2 := HD10.out.below hb2
        have c2 := hd2.c2
        have f2 := hd2.fr 2
        have hdA := hd2.adv hlt
        have HD11 := hide hdA
        have HG11 := hide ((HG10.out.trans (.below hb2)).trans (.set v10 _ b 2 (.int .i64 ((q.p : Int) + 1))))
        have HS11 := hide (HS10.out.advL hlt)
        clear hd2 hdA hb2
        have HA11 := hide (Pr.Stp.refl HS11.out.le)
        have Q12 := hide (ihF _ (Nat.lt_succ_of_le HS10.out.ge) HS11.out.le _ _ HD11.out (HS11.out.phi (by first | omega | (simp only [Pr.extra]; omega)) h0 hN))
        go_wp2_with fail
        refine Q12.out.mono ?_
        rintro e12 w12 ⟨r12, rfl, hc12, v12, hd12, hg12⟩
        have HC12 := hide hc12
        have HD12 := hide hd12
        have HG12 := hide (HG11.out.trans hg12)
        have HS12 := hide (HS11.out.trans (hc12.stp HS11.out.le))
        have HA12 := hide (HA11.out.trans (hc12.stp HA11.out.le))
        clear hc12 hd12 hg12 Q12
        have Q13 := hide (put_any HD12.out (HS12.out.len (by first | omega | (simp only [Pr.extra]; omega)) h0 hN) 7 (Pr.op ts sz q r : Nat) 0 [] 2)
        go_wp2_with fail
        refine Q13.out.mono ?_
        rintro e13 w13 ⟨rfl, v13, hd13, hg13⟩
        have HD13 := hide hd13
        have HG13 := hide (HG12.out.trans hg13)
        have HS13 := hide (HS12.out.put 7 (Pr.op ts sz q r : Nat) 0 [] 2)
        have HA13 := hide (HA12.out.put 7 (Pr.op ts sz q r : Nat) 0 [] 2)
        clear hd13 hg13 Q13
        have HM := hide (show Pr.left b ts w13 < Pr.left b ts wr from by rw [HD13.out.left, HD10.out.left]; have := HA13.out.ge; rw [Pr.adv_p] at this; omega)
        go_wp2
        go_roundw
        case rel => exact ⟨_, v13, HD13.out, HG13.out, HS13.out.mono (by first | omega | (simp only [Pr.extra]; omega)), fun r2 h => HI10.out _ (Pr.Cv.opsL_go hz b4 HC12.out h)⟩
        case measure => exact HM.out
    · have hzi : ((Pr.op ts sz q r : Nat) : Int) = 0 := by simp at hz; omega
      rw [hzi] at HQ
      go_wp2_with fail
      refine HQ.out.mono ?_
      rintro e w2 ⟨rfl, hb2⟩
      have HB2 := hide hb2
      clear hb2
      go_wp2
      (first | go_end0 | refine bodyPost_ret (results_none rfl _ _ _) rfl ?_)
      exact ⟨(q, 0), rfl, HI10.out _ (Pr.Cv.opsL_end hz), v10, HD10.out.below HB2.out, HG10.out.trans (.below HB2.out)⟩
end Go.Proofs.YtfjoecbkagedbaaGreatDoor
namespace Go.Proofs.YtfjoecbkagedbaaGreatDoor
open Go.RowKit
set_option maxRecDepth 100000 in
set_option maxHeartbeats 4000000 in
theorem post_says {b tg tc : Nat} {ts : List Sc.T} {sz : Nat} {s : Pr.Dk} (ihS : Pr.SI b tg tc ts sz s) (ihE : ∀ q : Pr.Dk, s.p < q.p → q.p ≤ ts.length → Pr.SE b tg tc ts sz q) (ihA : ∀ q : Pr.Dk, s.p < q.p → q.p ≤ ts.length → Pr.SA b tg tc ts sz q) : Pr.ST b tg tc ts sz s := by
  intro v0 w0 hd0 hN
  have h0 := hd0.le
  have hm := hd0.most
  have HD0 := hide hd0
  have HG0 := hide (Pr.Gr.refl b v0 w0)
  have HS0 := hide (Pr.Stp.refl h0)
  clear hd0
  go_enter Tryz.func74, Tryz.ntmps74
  have Q1 := hide (ihS _ _ HD0.out (HS0.out.phi (by first | omega | (simp only [Pr.extra]; omega)) h0 hN))
  go_wp2_with fail
  refine Q1.out.mono ?_
  rintro e1 w1 ⟨r1, rfl, hc1, v1, hd1, hg1⟩
  have HC1 := hide hc1
  have HD1 := hide hd1
  have HG1 := hide (HG0.out.trans hg1)
  have HS1 := hide (HS0.out.trans (hc1.stp HS0.out.le))
  clear hc1 hd1 hg1 Q1
  have HI := hide (show ∀ r2, Pr.Cv ts sz .postL r1.1 r2 → Pr.Cv ts sz .post s r2 from fun r2 h => Pr.Cv.post HC1.out h)
  clear HC1
  go_wp2_with fail
  go_loopw [9] (fun _ wr => ∃ (q : Pr.Dk) (vq : Value), DK b tg tc ts sz vq q wr ∧ Pr.Gr b v0 vq w0 wr ∧ Pr.Stp ts s q 0 ∧ ∀ r2, Pr.Cv ts sz .postL q r2 → Pr.Cv ts sz .post s r2) (fun _ wr => Pr.left b ts wr)
  case atStart => exact ⟨r1.1, v1, HD1.out, HG1.out, HS1.out.mono (by first | omega | (simp only [Pr.extra]; omega)), HI.out⟩
  case round =>
    obtain ⟨q, v10, hd10, hg10, hs10, hi10⟩ := hrel
    have c3 := hd10.c3
    have HD10 := hide hd10
    have HG10 := hide hg10
    have HS10 := hide hs10
    have HI10 := hide hi10
    clear hd10 hg10 hs10 hi10 HI HD1 HG1 HS1
    cases hbad : q.bad
    · rw [hbad] at c3
      cases i0 : Pr.is ts sz q [40]
      · cases i1 : Pr.is ts sz q [91]
        · cases i2 : Pr.is ts sz q [46]
          · have Q11 := hide (takeN HD10.out [40] #[40] rfl i0)
            go_wp2_with fail
            refine Q11.out.mono ?_
            rintro e11 w11 ⟨rfl, v11, hd11, hg11⟩
            have HD11 := hide hd11
            have HG11 := hide (HG10.out.trans hg11)
            have HS11 := hide (HS10.out)
            clear hd11 hg11 Q11
            have Q12 := hide (takeN HD11.out [91] #[91] rfl i1)
            go_wp2_with fail
            refine Q12.out.mono ?_
            rintro e12 w12 ⟨rfl, v12, hd12, hg12⟩
            have HD12 := hide hd12
            have HG12 := hide (HG11.out.trans hg12)
            have HS12 := hide (HS11.out)
            clear hd12 hg12 Q12
            have Q13 := hide (takeN HD12.out [46] #[46] rfl i2)
            go_wp2_with fail
            refine Q13.out.mono ?_
            rintro e13 w13 ⟨rfl, v13, hd13, hg13⟩
            have HD13 := hide hd13
            have HG13 := hide (HG12.out.trans hg13)
            have HS13 := hide (HS12.out)
            clear hd13 hg13 Q13
            go_wp2
            (first | go_end0 | refine bodyPost_ret (results_none rfl _ _ _) rfl ?_)
            exact ⟨(q, 0), rfl, HI10.out _ (Pr.Cv.postL_end hbad i0 i1 i2), v13, HD13.out, HG13.out⟩
          · have Q11 := hide (takeN HD10.out [40] #[40] rfl i0)
            go_wp2_with fail
            refine Q11.out.mono ?_
            rintro e11 w11 ⟨rfl, v11, hd11, hg11⟩
            have HD11 := hide hd11
            have HG11 := hide (HG10.out.trans hg11)
            have HS11 := hide (HS10.out)
            clear hd11 hg11 Q11
            have Q12 := hide (takeN HD11.out [91] #[91] rfl i1)
            go_wp2_with fail
            refine Q12.out.mono ?_
            rintro e12 w12 ⟨rfl, v12, hd12, hg12⟩
            have HD12 := hide hd12
            have HG12 := hide (HG11.out.trans hg12)
            have HS12 := hide (HS11.out)
            clear hd12 hg12 Q12
            have Q13 := hide (takeY HD12.out [46] #[46] rfl i2)
            go_wp2_with fail
            refine Q13.out.mono ?_
            rintro e13 w13 ⟨rfl, v13, hd13, hg13⟩
            have HD13 := hide hd13
            have HG13 := hide (HG12.out.trans hg13)
            have HS13 := hide (HS12.out.adv i2)
            clear hd13 hg13 Q13
            have HA13 := hide (Pr.Stp.refl HS13.out.le)
            have Q14 := hide (nameW HD13.out)
            go_wp2_with fail
            refine Q14.out.mono ?_
            rintro e14 w14 ⟨rfl, v14, hd14, hg14⟩
            have HD14 := hide hd14
            have HG14 := hide (HG13.out.trans hg14)
            have HS14 := hide (HS13.out.name (sz := sz))
            have HA14 := hide (HA13.out.name (sz := sz))
            clear hd14 hg14 Q14
            have Q15 := hide (put_any HD14.out (HS14.out.len (by first | omega | (simp only [Pr.extra]; omega)) h0 hN) 11 0 0 (Pr.nameT ts sz (Pr.adv q)) 1)
            go_wp2_with fail
            refine Q15.out.mono ?_
            rintro e15 w15 ⟨rfl, v15, hd15, hg15⟩
            have HD15 := hide hd15
            have HG15 := hide (HG14.out.trans hg15)
            have HS15 := hide (HS14.out.put 11 0 0 (Pr.nameT ts sz (Pr.adv q)) 1)
            have HA15 := hide (HA14.out.put 11 0 0 (Pr.nameT ts sz (Pr.adv q)) 1)
            clear hd15 hg15 Q15
            have HM := hide (show Pr.left b ts w15 < Pr.left b ts wr from by rw [HD15.out.left, HD10.out.left]; have := HA15.out.ge; have := Pr.is_lt i2; rw [Pr.adv_p] at *; omega)
            go_wp2
            go_roundw
            case rel => exact ⟨_, v15, HD15.out, HG15.out, HS15.out.mono (by first | omega | (simp only [Pr.extra]; omega)), fun r2 h => HI10.out _ (Pr.Cv.postL_dot hbad i0 i1 i2 h)⟩
            case measure => exact HM.out
        · have Q11 := hide (takeN HD10.out [40] #[40] rfl i0)
          go_wp2_with fail
          refine Q11.out.mono ?_
          rintro e11 w11 ⟨rfl, v11, hd11, hg11⟩
          have HD11 := hide hd11
          have HG11 := hide (HG10.out.trans hg11)
          have HS11 := hide (HS10.out)
          clear hd11 hg11 Q11
          have Q12 := hide (takeY HD11.out [91] #[91] rfl i1)
          go_wp2_with fail
          refine Q12.out.mono ?_
          rintro e12 w12 ⟨rfl, v12, hd12, hg12⟩
          have HD12 := hide hd12
          have HG12 := hide (HG11.out.trans hg12)
          have HS12 := hide (HS11.out.adv i1)
          clear hd12 hg12 Q12
          have HA12 := hide (Pr.Stp.refl HS12.out.le)
          have Q13 := hide (ihE _ (Nat.lt_of_lt_of_le (Nat.lt_succ_of_le HS10.out.ge) HA12.out.ge) HS12.out.le _ _ HD12.out (HS12.out.phi (by first | omega | (simp only [Pr.extra]; omega)) h0 hN))
          go_wp2_with fail
          refine Q13.out.mono ?_
          rintro e13 w13 ⟨r13, rfl, hc13, v13, hd13, hg13⟩
          have HC13 := hide hc13
          have HD13 := hide hd13
          have HG13 := hide (HG12.out.trans hg13)
          have HS13 := hide (HS12.out.trans (hc13.stp HS12.out.le))
          have HA13 := hide (HA12.out.trans (hc13.stp HA12.out.le))
          clear hc13 hd13 hg13 Q13
          have Q14 := hide (needW HD13.out [93] #[93] rfl)
          go_wp2_with fail
          refine Q14.out.mono ?_
          rintro e14 w14 ⟨rfl, v14, hd14, hg14⟩
          have HD14 := hide hd14
          have HG14 := hide (HG13.out.trans hg14)
          have HS14 := hide (HS13.out.need (sz := sz) [93])
          have HA14 := hide (HA13.out.need (sz := sz) [93])
          clear hd14 hg14 Q14
          have Q15 := hide (put_any HD14.out (HS14.out.len (by first | omega | (simp only [Pr.extra]; omega)) h0 hN) 10 0 0 [] 2)
          go_wp2_with fail
          refine Q15.out.mono ?_
          rintro e15 w15 ⟨rfl, v15, hd15, hg15⟩
          have HD15 := hide hd15
          have HG15 := hide (HG14.out.trans hg15)
          have HS15 := hide (HS14.out.put 10 0 0 [] 2)
          have HA15 := hide (HA14.out.put 10 0 0 [] 2)
          clear hd15 hg15 Q15
          have HM := hide (show Pr.left b ts w15 < Pr.left b ts wr from by rw [HD15.out.left, HD10.out.left]; have := HA15.out.ge; have := Pr.is_lt i1; rw [Pr.adv_p] at *; omega)
          go_wp2
          go_roundw
          case rel => exact ⟨_, v15, HD15.out, HG15.out, HS15.out.mono (by first | omega | (simp only [Pr.extra]; omega)), fun r2 h => HI10.out _ (Pr.Cv.postL_index hbad i0 i1 HC13.out h)⟩
          case measure => exact HM.out
      · have Q11 := hide (takeY HD10.out [40] #[40] rfl i0)
        go_wp2_with fail
        refine Q11.out.mono ?_
        rintro e11 w11 ⟨rfl, v11, hd11, hg11⟩
        have HD11 := hide hd11
        have HG11 := hide (HG10.out.trans hg11)
        have HS11 := hide (HS10.out.adv i0)
        clear hd11 hg11 Q11
        have HA11 := hide (Pr.Stp.refl HS11.out.le)
        have Q12 := hide (ihA _ (Nat.lt_of_lt_of_le (Nat.lt_succ_of_le HS10.out.ge) HA11.out.ge) HS11.out.le _ _ HD11.out (HS11.out.phi (by first | omega | (simp only [Pr.extra]; omega)) h0 hN))
        go_wp2_with fail
        refine Q12.out.mono ?_
        rintro e12 w12 ⟨r12, rfl, hc12, v12, hd12, hg12⟩
        have HC12 := hide hc12
        have HD12 := hide hd12
        have HG12 := hide (HG11.out.trans hg12)
        have HS12 := hide (HS11.out.trans (hc12.stp HS11.out.le))
        have HA12 := hide (HA11.out.trans (hc12.stp HA11.out.le))
        clear hc12 hd12 hg12 Q12
        have hn1 := HC12.out.num rfl (Pr.is_lt i0)
        have hl1 := HS12.out.le
        simp only [Pr.cnt] at hn1
        unfold Pr.nu
        have Q13 := hide (put_any HD12.out (HS12.out.len (by first | omega | (simp only [Pr.extra]; omega)) h0 hN) 12 0 0 [] (1 + r12.2))
        go_wp2_with fail
        refine Q13.out.mono ?_
        rintro e13 w13 ⟨rfl, v13, hd13, hg13⟩
        have HD13 := hide hd13
        have HG13 := hide (HG12.out.trans hg13)
        have HS13 := hide (HS12.out.put 12 0 0 [] (1 + r12.2))
        have HA13 := hide (HA12.out.put 12 0 0 [] (1 + r12.2))
        clear hd13 hg13 Q13
        have HM := hide (show Pr.left b ts w13 < Pr.left b ts wr from by rw [HD13.out.left, HD10.out.left]; have := HA13.out.ge; have := Pr.is_lt i0; rw [Pr.adv_p] at *; omega)
        go_wp2
        go_roundw
        case rel => exact ⟨_, v13, HD13.out, HG13.out, HS13.out.mono (by first | omega | (simp only [Pr.extra]; omega)), fun r2 h => HI10.out _ (Pr.Cv.postL_call hbad i0 HC12.out h)⟩
        case measure => exact HM.out
    · rw [hbad] at c3
      go_wp2
      (first | go_end0 | refine bodyPost_ret (results_none rfl _ _ _) rfl ?_)
      exact ⟨(q, 0), rfl, HI10.out _ (Pr.Cv.postL_bad hbad), v10, HD10.out, HG10.out⟩
end Go.Proofs.YtfjoecbkagedbaaGreatDoor
