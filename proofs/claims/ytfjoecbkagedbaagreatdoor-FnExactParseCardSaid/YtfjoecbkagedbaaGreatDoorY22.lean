/- P2. -/
import Derived.Test.YtfjoecbkagedbaaGreatDoorY21
namespace Go.Proofs.YtfjoecbkagedbaaGreatDoor
open Go.RowKit
/-- Climbing from a rank. -/
abbrev Ip.CL (b : Nat) (tp : Option Addr) (tc : Nat) (ts : List Sc.T) (sz r : Nat) (d : Pr.Dk) : Prop := Ip.Does b tp tc ts sz 88 #[.pointer (some ⟨b, 0, none⟩), .int .i64 r] (Ip.cmd r) d d
def Ip.FOut (b : Nat) (tp : Option Addr) (tc : Nat) (ts : List Sc.T) (sz least : Nat) (s : Pr.Dk) (w : World) (e : Ending) (w' : World) : Prop :=
  (∃ (t : Pr.Dk) (k : Nat) (v : Value) (l : List Tr.Nd), e = .returned (.tuple #[v, .int .i64 k]) ∧ k ≤ 8 ∧ Ip.First ts sz least k s t ∧ t.bad = false ∧ t.out = s.out ++ l ∧ s.p ≤ t.p ∧ IP b tp tc ts sz t.p w' ∧ Ip.Mv b w w' ∧ Ip.Pt w.heap.size w' v l) ∨
  (∃ q, e = .panicked (Ip.stuck q) ∧ Pr.Ends ts sz (Ip.cmd least) s q ∧ Ip.Mv b w w')
set_option maxRecDepth 100000 in
set_option maxHeartbeats 2000000 in
theorem ifirst_any {b tc sz m : Nat} {tp : Option Addr} {ts : List Sc.T} {s : Pr.Dk} {least : Nat} (hl7 : least ≤ 7) (hbad : s.bad = false) (hm0 : m ≤ s.p) (ihE : ∀ q : Pr.Dk, m < q.p → q.p ≤ ts.length → q.bad = false → Ip.DE b tp tc ts sz q) (ihC : ∀ r : Nat, r ≤ 7 → ∀ q : Pr.Dk, m < q.p → q.p ≤ ts.length → q.bad = false → Ip.CL b tp tc ts sz r q) :
    ∀ w0, IP b tp tc ts sz s.p w0 → Calls Tryz.prog 101 #[.pointer (some ⟨b, 0, none⟩), .int .i64 least] w0 (Ip.FOut b tp tc ts sz least s w0) := by
  intro w0 hd0
  have hlt := hd0.lt
  have hmost := hd0.most
  have HD0 := hide hd0
  have HM0 := hide (Ip.Mv.refl b w0)
  have HG0 := hide (show m ≤ (s).p from hm0)
  clear hd0
  have hle0 := HD0.out.le
  by_cases hl0 : least = 0
  rotate_left
  · have hz : ¬ (least : Int) ≤ 0 := by omega
    by_cases hl3 : least ≤ 3
    · have hli : (least : Int) ≤ 3 := by omega
      cases hNot : Pr.is ts sz s Pr.sNot
      case true =>
        go_enter Tryz.func101, Tryz.ntmps101
        have Q := hide (skipY (s := s) HD0.out Pr.sNot #[110, 111, 116] rfl hNot)
        go_wp2_with fail
        refine Q.out.mono ?_
        rintro e w1 ⟨rfl, hd, hm⟩
        have HD1 := hide (show IP b tp tc ts sz (Pr.adv (s)).p w1 from hd)
        have HM1 := hide (HM0.out.t hm)
        have HG1 := hide (show m ≤ (Pr.adv (s)).p from Nat.le_succ_of_le HG0.out)
        clear hd hm Q
        have hbad2 : (Pr.adv s).bad = false := hbad
        have Q := hide (ihC 3 (by decide) (Pr.adv s) (Nat.lt_succ_of_le HG0.out) HD1.out.le hbad2 _ HD1.out)
        go_wp2_with fail
        refine Q.out.mono ?_
        rintro e w2 (⟨r1, v1, l1, rfl, hc, hb1, ho, hd, hm, hp⟩ | ⟨q, rfl, hq, hm⟩)
        rotate_left
        · exact ⟨rfl, .inr ⟨_, rfl, Ip.ends_not hbad hl3 hNot hq, HM1.out.t hm⟩⟩
        obtain ⟨t1, u1, rfl⟩ := hp.iface
        have HC1 := hide hc
        have HO1 := hide ho
        have HPn := hide (hp.low HM1.out.size)
        clear ho hp
        have HD2 := hide (show IP b tp tc ts sz (r1.1).p w2 from hd)
        have HM2 := hide (HM1.out.t hm)
        have HG2 := hide (show m ≤ (r1.1).p from Nat.le_trans HG1.out (hc.stp HD1.out.le).ge)
        clear hd hm Q
        clear hc
        have HP1_2 := hide HPn.out
        clear HPn
        have HC1n := hide (show Pr.Cv ts sz (.ops 3) (Pr.adv s) r1 from HC1.out)
        have Q := hide (newPart_any 6 1 0 0 ⟨#[]⟩ (some ⟨w2.heap.size, 0, none⟩) 1 1 (w2.alloc (.cells #[.iface t1 u1] 46)))
        go_wp2_with fail
        refine Q.out.mono ?_
        rintro e w3 ⟨rfl, hb⟩
        have hr : Ip.Row w0.heap.size (w2.alloc (.cells #[.iface t1 u1] 46)) (.slice (some ⟨w2.heap.size, 0, none⟩) 1 1) 1 (l1) := (Ip.some1 HP1_2.out).row HM2.out.size (by simp)
        have HPm := hide ((hr.below hb).made (x := ⟨6, 1, 0, ⟨#[]⟩, 1⟩) rfl)
        clear hr
        have hbb := below_lit hb
        have HD3 := hide (HD2.out.below hbb)
        have HM3 := hide (HM2.out.more hbb)
        clear hb hbb Q
        go_wp2
        refine bodyPost_ret (v := .tuple #[(Ip.pv ⟨6, 1, 0, ⟨#[]⟩, 1⟩ (.slice (some ⟨w2.heap.size, 0, none⟩) 1 1)), .int .i64 (3 : Nat)]) (by simp [results, Tryz.results101, go_sem]) rfl ?_
        exact .inl ⟨Pr.put r1.1 6 1 0 [] 1, 3, _, (l1 ++ [⟨6, 1, 0, ⟨#[]⟩, 1⟩]), rfl, by decide, .not hbad hl3 hNot HC1n.out, hb1, by simp [Pr.put, HO1.out], by have := (HC1n.out.stp HD1.out.le).ge; simp at this ⊢; omega, HD3.out, HM3.out, HPm.out⟩
      cases hNeg : Pr.is ts sz s [45]
      case true =>
        go_enter Tryz.func101, Tryz.ntmps101
        have Q := hide (skipN (s := s) HD0.out hbad Pr.sNot #[110, 111, 116] rfl hNot)
        go_wp2_with fail
        refine Q.out.mono ?_
        rintro e w1 ⟨rfl, hd, hb⟩
        have hm : Ip.Mv b w0 w1 := .below hb
        clear hb
        have HD1 := hide (show IP b tp tc ts sz (s).p w1 from hd)
        have HM1 := hide (HM0.out.t hm)
        have HG1 := hide (show m ≤ (s).p from HG0.out)
        clear hd hm Q
        have Q := hide (skipY (s := s) HD1.out [45] #[45] rfl hNeg)
        go_wp2_with fail
        refine Q.out.mono ?_
        rintro e w2 ⟨rfl, hd, hm⟩
        have HD2 := hide (show IP b tp tc ts sz (Pr.adv (s)).p w2 from hd)
        have HM2 := hide (HM1.out.t hm)
        have HG2 := hide (show m ≤ (Pr.adv (s)).p from Nat.le_succ_of_le HG1.out)
        clear hd hm Q
        have hbad2 : (Pr.adv s).bad = false := hbad
        have Q := hide (ihC 7 (by decide) (Pr.adv s) (Nat.lt_succ_of_le HG0.out) HD2.out.le hbad2 _ HD2.out)
        go_wp2_with fail
        refine Q.out.mono ?_
        rintro e w3 (⟨r1, v1, l1, rfl, hc, hb1, ho, hd, hm, hp⟩ | ⟨q, rfl, hq, hm⟩)
        rotate_left
        · exact ⟨rfl, .inr ⟨_, rfl, Ip.ends_high hbad hl7 (fun _ => hNot) (fun e => absurd e hl0) (.neg hNeg hq), HM2.out.t hm⟩⟩
        obtain ⟨t1, u1, rfl⟩ := hp.iface
        have HC1 := hide hc
        have HO1 := hide ho
        have HPn := hide (hp.low HM2.out.size)
        clear ho hp
        have HD3 := hide (show IP b tp tc ts sz (r1.1).p w3 from hd)
        have HM3 := hide (HM2.out.t hm)
        have HG3 := hide (show m ≤ (r1.1).p from Nat.le_trans HG2.out (hc.stp HD2.out.le).ge)
        clear hd hm Q
        clear hc
        have HP1_3 := hide HPn.out
        clear HPn
        have HC1n := hide (show Pr.Cv ts sz (.ops 7) (Pr.adv s) r1 from HC1.out)
        have Q := hide (newPart_any 6 2 0 0 ⟨#[]⟩ (some ⟨w3.heap.size, 0, none⟩) 1 1 (w3.alloc (.cells #[.iface t1 u1] 46)))
        go_wp2_with fail
        refine Q.out.mono ?_
        rintro e w4 ⟨rfl, hb⟩
        have hr : Ip.Row w0.heap.size (w3.alloc (.cells #[.iface t1 u1] 46)) (.slice (some ⟨w3.heap.size, 0, none⟩) 1 1) 1 (l1) := (Ip.some1 HP1_3.out).row HM3.out.size (by simp)
        have HPm := hide ((hr.below hb).made (x := ⟨6, 2, 0, ⟨#[]⟩, 1⟩) rfl)
        clear hr
        have hbb := below_lit hb
        have HD4 := hide (HD3.out.below hbb)
        have HM4 := hide (HM3.out.more hbb)
        clear hb hbb Q
        go_wp2
        refine bodyPost_ret (v := .tuple #[(Ip.pv ⟨6, 2, 0, ⟨#[]⟩, 1⟩ (.slice (some ⟨w3.heap.size, 0, none⟩) 1 1)), .int .i64 (7 : Nat)]) (by simp [results, Tryz.results101, go_sem]) rfl ?_
        exact .inl ⟨Pr.put r1.1 6 2 0 [] 1, 7, _, (l1 ++ [⟨6, 2, 0, ⟨#[]⟩, 1⟩]), rfl, by decide, Ip.First.high (m := (Pr.put r1.1 6 2 0 [] 1, 0)) hbad hl7 (by decide) (fun _ => hNot) (fun e => absurd e hl0) (.ops_neg hbad rfl hNeg HC1n.out), hb1, by simp [Pr.put, HO1.out], by have := (HC1n.out.stp HD2.out.le).ge; simp at this ⊢; omega, HD4.out, HM4.out, HPm.out⟩
      go_enter Tryz.func101, Tryz.ntmps101
      have Q := hide (skipN (s := s) HD0.out hbad Pr.sNot #[110, 111, 116] rfl hNot)
      go_wp2_with fail
      refine Q.out.mono ?_
      rintro e w1 ⟨rfl, hd, hb⟩
      have hm : Ip.Mv b w0 w1 := .below hb
      clear hb
      have HD1 := hide (show IP b tp tc ts sz (s).p w1 from hd)
      have HM1 := hide (HM0.out.t hm)
      have HG1 := hide (show m ≤ (s).p from HG0.out)
      clear hd hm Q
      have Q := hide (skipN (s := s) HD1.out hbad [45] #[45] rfl hNeg)
      go_wp2_with fail
      refine Q.out.mono ?_
      rintro e w2 ⟨rfl, hd, hb⟩
      have hm : Ip.Mv b w1 w2 := .below hb
      clear hb
      have HD2 := hide (show IP b tp tc ts sz (s).p w2 from hd)
      have HM2 := hide (HM1.out.t hm)
      have HG2 := hide (show m ≤ (s).p from HG1.out)
      clear hd hm Q
      have Q := hide (ireach_any (s := s) hbad hm0 ihE _ HD2.out)
      go_wp2_with fail
      refine Q.out.mono ?_
      rintro e w3 (⟨r1, v1, l1, rfl, hc, hb1, ho, hd, hm, hp⟩ | ⟨q, rfl, hq, hm⟩)
      rotate_left
      · exact ⟨rfl, .inr ⟨_, rfl, Ip.ends_high hbad hl7 (fun _ => hNot) (fun e => absurd e hl0) (.ops_post hbad hNeg hq), HM2.out.t hm⟩⟩
      have HGe := hide (hc.stp hle0).ge
      have HC1 := hide hc
      have HO1 := hide ho
      have HD3 := hide hd
      have HM3 := hide (HM2.out.t hm)
      have HP := hide (hp.low HM2.out.size)
      clear hc ho hd hm hp Q
      go_wp2
      refine bodyPost_ret (v := .tuple #[v1, .int .i64 (8 : Nat)]) (by simp [results, Tryz.results101, go_sem]) rfl ?_
      exact .inl ⟨r1.1, 8, _, l1, rfl, by decide, Ip.First.high hbad hl7 (by decide) (fun _ => hNot) (fun e => absurd e hl0) (.ops_7 hbad rfl hNeg HC1.out), hb1, HO1.out, HGe.out, HD3.out, HM3.out, HP.out⟩
    · have hli : ¬ (least : Int) ≤ 3 := by omega
      cases hNeg : Pr.is ts sz s [45]
      case true =>
        go_enter Tryz.func101, Tryz.ntmps101
        have Q := hide (skipY (s := s) HD0.out [45] #[45] rfl hNeg)
        go_wp2_with fail
        refine Q.out.mono ?_
        rintro e w1 ⟨rfl, hd, hm⟩
        have HD1 := hide (show IP b tp tc ts sz (Pr.adv (s)).p w1 from hd)
        have HM1 := hide (HM0.out.t hm)
        have HG1 := hide (show m ≤ (Pr.adv (s)).p from Nat.le_succ_of_le HG0.out)
        clear hd hm Q
        have hbad2 : (Pr.adv s).bad = false := hbad
        have Q := hide (ihC 7 (by decide) (Pr.adv s) (Nat.lt_succ_of_le HG0.out) HD1.out.le hbad2 _ HD1.out)
        go_wp2_with fail
        refine Q.out.mono ?_
        rintro e w2 (⟨r1, v1, l1, rfl, hc, hb1, ho, hd, hm, hp⟩ | ⟨q, rfl, hq, hm⟩)
        rotate_left
        · exact ⟨rfl, .inr ⟨_, rfl, Ip.ends_high hbad hl7 (fun e => absurd e hl3) (fun e => absurd e hl0) (.neg hNeg hq), HM1.out.t hm⟩⟩
        obtain ⟨t1, u1, rfl⟩ := hp.iface
        have HC1 := hide hc
        have HO1 := hide ho
        have HPn := hide (hp.low HM1.out.size)
        clear ho hp
        have HD2 := hide (show IP b tp tc ts sz (r1.1).p w2 from hd)
        have HM2 := hide (HM1.out.t hm)
        have HG2 := hide (show m ≤ (r1.1).p from Nat.le_trans HG1.out (hc.stp HD1.out.le).ge)
        clear hd hm Q
        clear hc
        have HP1_2 := hide HPn.out
        clear HPn
        have HC1n := hide (show Pr.Cv ts sz (.ops 7) (Pr.adv s) r1 from HC1.out)
        have Q := hide (newPart_any 6 2 0 0 ⟨#[]⟩ (some ⟨w2.heap.size, 0, none⟩) 1 1 (w2.alloc (.cells #[.iface t1 u1] 46)))
        go_wp2_with fail
        refine Q.out.mono ?_
        rintro e w3 ⟨rfl, hb⟩
        have hr : Ip.Row w0.heap.size (w2.alloc (.cells #[.iface t1 u1] 46)) (.slice (some ⟨w2.heap.size, 0, none⟩) 1 1) 1 (l1) := (Ip.some1 HP1_2.out).row HM2.out.size (by simp)
        have HPm := hide ((hr.below hb).made (x := ⟨6, 2, 0, ⟨#[]⟩, 1⟩) rfl)
        clear hr
        have hbb := below_lit hb
        have HD3 := hide (HD2.out.below hbb)
        have HM3 := hide (HM2.out.more hbb)
        clear hb hbb Q
        go_wp2
        refine bodyPost_ret (v := .tuple #[(Ip.pv ⟨6, 2, 0, ⟨#[]⟩, 1⟩ (.slice (some ⟨w2.heap.size, 0, none⟩) 1 1)), .int .i64 (7 : Nat)]) (by simp [results, Tryz.results101, go_sem]) rfl ?_
        exact .inl ⟨Pr.put r1.1 6 2 0 [] 1, 7, _, (l1 ++ [⟨6, 2, 0, ⟨#[]⟩, 1⟩]), rfl, by decide, Ip.First.high (m := (Pr.put r1.1 6 2 0 [] 1, 0)) hbad hl7 (by decide) (fun e => absurd e hl3) (fun e => absurd e hl0) (.ops_neg hbad rfl hNeg HC1n.out), hb1, by simp [Pr.put, HO1.out], by have := (HC1n.out.stp HD1.out.le).ge; simp at this ⊢; omega, HD3.out, HM3.out, HPm.out⟩
      go_enter Tryz.func101, Tryz.ntmps101
      have Q := hide (skipN (s := s) HD0.out hbad [45] #[45] rfl hNeg)
      go_wp2_with fail
      refine Q.out.mono ?_
      rintro e w1 ⟨rfl, hd, hb⟩
      have hm : Ip.Mv b w0 w1 := .below hb
      clear hb
      have HD1 := hide (show IP b tp tc ts sz (s).p w1 from hd)
      have HM1 := hide (HM0.out.t hm)
      have HG1 := hide (show m ≤ (s).p from HG0.out)
      clear hd hm Q
      have Q := hide (ireach_any (s := s) hbad hm0 ihE _ HD1.out)
      go_wp2_with fail
      refine Q.out.mono ?_
      rintro e w2 (⟨r1, v1, l1, rfl, hc, hb1, ho, hd, hm, hp⟩ | ⟨q, rfl, hq, hm⟩)
      rotate_left
      · exact ⟨rfl, .inr ⟨_, rfl, Ip.ends_high hbad hl7 (fun e => absurd e hl3) (fun e => absurd e hl0) (.ops_post hbad hNeg hq), HM1.out.t hm⟩⟩
      have HGe := hide (hc.stp hle0).ge
      have HC1 := hide hc
      have HO1 := hide ho
      have HD2 := hide hd
      have HM2 := hide (HM1.out.t hm)
      have HP := hide (hp.low HM1.out.size)
      clear hc ho hd hm hp Q
      go_wp2
      refine bodyPost_ret (v := .tuple #[v1, .int .i64 (8 : Nat)]) (by simp [results, Tryz.results101, go_sem]) rfl ?_
      exact .inl ⟨r1.1, 8, _, l1, rfl, by decide, Ip.First.high hbad hl7 (by decide) (fun e => absurd e hl3) (fun e => absurd e hl0) (.ops_7 hbad rfl hNeg HC1.out), hb1, HO1.out, HGe.out, HD2.out, HM2.out, HP.out⟩
  subst hl0
  cases hLet : Pr.is ts sz s Pr.sLet
  case true =>
    go_enter Tryz.func101, Tryz.ntmps101
    have Q := hide (skipY (s := s) HD0.out Pr.sLet #[108, 101, 116] rfl hLet)
    go_wp2_with fail
    refine Q.out.mono ?_
    rintro e w1 ⟨rfl, hd, hm⟩
    have HD1 := hide (show IP b tp tc ts sz (Pr.adv (s)).p w1 from hd)
    have HM1 := hide (HM0.out.t hm)
    have HG1 := hide (show m ≤ (Pr.adv (s)).p from Nat.le_succ_of_le HG0.out)
    clear hd hm Q
    have Q := hide (ilet_any (m := m + 1) hLet (Nat.succ_le_succ hm0) ihE _ HD1.out)
    go_wp2_with fail
    refine Q.out.mono ?_
    rintro e w2 (⟨r1, v1, l1, rfl, hc, hb1, ho, hd, hm, hp⟩ | ⟨q, rfl, hq, hm⟩)
    rotate_left
    · exact ⟨rfl, .inr ⟨_, rfl, hq, HM1.out.t hm⟩⟩
    have HGe := hide (hc.stp hle0).ge
    have HC1 := hide hc
    have HO1 := hide ho
    have HD2 := hide hd
    have HM2 := hide (HM1.out.t hm)
    have HP := hide (hp.low HM1.out.size)
    clear hc ho hd hm hp Q
    go_wp2
    refine bodyPost_ret (v := .tuple #[v1, .int .i64 (0 : Nat)]) (by simp [results, Tryz.results101, go_sem]) rfl ?_
    exact .inl ⟨r1.1, 0, _, l1, rfl, by decide, .open HC1.out, hb1, HO1.out, HGe.out, HD2.out, HM2.out, HP.out⟩
  cases hIf : Pr.is ts sz s Pr.sIf
  case true =>
    go_enter Tryz.func101, Tryz.ntmps101
    have Q := hide (skipN (s := s) HD0.out hbad Pr.sLet #[108, 101, 116] rfl hLet)
    go_wp2_with fail
    refine Q.out.mono ?_
    rintro e w1 ⟨rfl, hd, hb⟩
    have hm : Ip.Mv b w0 w1 := .below hb
    clear hb
    have HD1 := hide (show IP b tp tc ts sz (s).p w1 from hd)
    have HM1 := hide (HM0.out.t hm)
    have HG1 := hide (show m ≤ (s).p from HG0.out)
    clear hd hm Q
    have Q := hide (skipY (s := s) HD1.out Pr.sIf #[105, 102] rfl hIf)
    go_wp2_with fail
    refine Q.out.mono ?_
    rintro e w2 ⟨rfl, hd, hm⟩
    have HD2 := hide (show IP b tp tc ts sz (Pr.adv (s)).p w2 from hd)
    have HM2 := hide (HM1.out.t hm)
    have HG2 := hide (show m ≤ (Pr.adv (s)).p from Nat.le_succ_of_le HG1.out)
    clear hd hm Q
    have Q := hide (iif_any (m := m + 1) hIf (Nat.succ_le_succ hm0) ihE _ HD2.out)
    go_wp2_with fail
    refine Q.out.mono ?_
    rintro e w3 (⟨r1, v1, l1, rfl, hc, hb1, ho, hd, hm, hp⟩ | ⟨q, rfl, hq, hm⟩)
    rotate_left
    · exact ⟨rfl, .inr ⟨_, rfl, hq, HM2.out.t hm⟩⟩
    have HGe := hide (hc.stp hle0).ge
    have HC1 := hide hc
    have HO1 := hide ho
    have HD3 := hide hd
    have HM3 := hide (HM2.out.t hm)
    have HP := hide (hp.low HM2.out.size)
    clear hc ho hd hm hp Q
    go_wp2
    refine bodyPost_ret (v := .tuple #[v1, .int .i64 (0 : Nat)]) (by simp [results, Tryz.results101, go_sem]) rfl ?_
    exact .inl ⟨r1.1, 0, _, l1, rfl, by decide, .open HC1.out, hb1, HO1.out, HGe.out, HD3.out, HM3.out, HP.out⟩
  cases hFn : Pr.is ts sz s Pr.sFn
  case true =>
    go_enter Tryz.func101, Tryz.ntmps101
    have Q := hide (skipN (s := s) HD0.out hbad Pr.sLet #[108, 101, 116] rfl hLet)
    go_wp2_with fail
    refine Q.out.mono ?_
    rintro e w1 ⟨rfl, hd, hb⟩
    have hm : Ip.Mv b w0 w1 := .below hb
    clear hb
    have HD1 := hide (show IP b tp tc ts sz (s).p w1 from hd)
    have HM1 := hide (HM0.out.t hm)
    have HG1 := hide (show m ≤ (s).p from HG0.out)
    clear hd hm Q
    have Q := hide (skipN (s := s) HD1.out hbad Pr.sIf #[105, 102] rfl hIf)
    go_wp2_with fail
    refine Q.out.mono ?_
    rintro e w2 ⟨rfl, hd, hb⟩
    have hm : Ip.Mv b w1 w2 := .below hb
    clear hb
    have HD2 := hide (show IP b tp tc ts sz (s).p w2 from hd)
    have HM2 := hide (HM1.out.t hm)
    have HG2 := hide (show m ≤ (s).p from HG1.out)
    clear hd hm Q
    have Q := hide (skipY (s := s) HD2.out Pr.sFn #[102, 110] rfl hFn)
    go_wp2_with fail
    refine Q.out.mono ?_
    rintro e w3 ⟨rfl, hd, hm⟩
    have HD3 := hide (show IP b tp tc ts sz (Pr.adv (s)).p w3 from hd)
    have HM3 := hide (HM2.out.t hm)
    have HG3 := hide (show m ≤ (Pr.adv (s)).p from Nat.le_succ_of_le HG2.out)
    clear hd hm Q
    have Q := hide (ifn_any (m := m + 1) hFn (Nat.succ_le_succ hm0) ihE _ HD3.out)
    go_wp2_with fail
    refine Q.out.mono ?_
    rintro e w4 (⟨r1, v1, l1, rfl, hc, hb1, ho, hd, hm, hp⟩ | ⟨q, rfl, hq, hm⟩)
    rotate_left
    · exact ⟨rfl, .inr ⟨_, rfl, hq, HM3.out.t hm⟩⟩
    have HGe := hide (hc.stp hle0).ge
    have HC1 := hide hc
    have HO1 := hide ho
    have HD4 := hide hd
    have HM4 := hide (HM3.out.t hm)
    have HP := hide (hp.low HM3.out.size)
    clear hc ho hd hm hp Q
    go_wp2
    refine bodyPost_ret (v := .tuple #[v1, .int .i64 (0 : Nat)]) (by simp [results, Tryz.results101, go_sem]) rfl ?_
    exact .inl ⟨r1.1, 0, _, l1, rfl, by decide, .open HC1.out, hb1, HO1.out, HGe.out, HD4.out, HM4.out, HP.out⟩
  have hl3 : (0 : Nat) ≤ 3 := by decide
  cases hNot : Pr.is ts sz s Pr.sNot
  case true =>
    go_enter Tryz.func101, Tryz.ntmps101
    have Q := hide (skipN (s := s) HD0.out hbad Pr.sLet #[108, 101, 116] rfl hLet)
    go_wp2_with fail
    refine Q.out.mono ?_
    rintro e w1 ⟨rfl, hd, hb⟩
    have hm : Ip.Mv b w0 w1 := .below hb
    clear hb
    have HD1 := hide (show IP b tp tc ts sz (s).p w1 from hd)
    have HM1 := hide (HM0.out.t hm)
    have HG1 := hide (show m ≤ (s).p from HG0.out)
    clear hd hm Q
    have Q := hide (skipN (s := s) HD1.out hbad Pr.sIf #[105, 102] rfl hIf)
    go_wp2_with fail
    refine Q.out.mono ?_
    rintro e w2 ⟨rfl, hd, hb⟩
    have hm : Ip.Mv b w1 w2 := .below hb
    clear hb
    have HD2 := hide (show IP b tp tc ts sz (s).p w2 from hd)
    have HM2 := hide (HM1.out.t hm)
    have HG2 := hide (show m ≤ (s).p from HG1.out)
    clear hd hm Q
    have Q := hide (skipN (s := s) HD2.out hbad Pr.sFn #[102, 110] rfl hFn)
    go_wp2_with fail
    refine Q.out.mono ?_
    rintro e w3 ⟨rfl, hd, hb⟩
    have hm : Ip.Mv b w2 w3 := .below hb
    clear hb
    have HD3 := hide (show IP b tp tc ts sz (s).p w3 from hd)
    have HM3 := hide (HM2.out.t hm)
    have HG3 := hide (show m ≤ (s).p from HG2.out)
    clear hd hm Q
    have Q := hide (skipY (s := s) HD3.out Pr.sNot #[110, 111, 116] rfl hNot)
    go_wp2_with fail
    refine Q.out.mono ?_
    rintro e w4 ⟨rfl, hd, hm⟩
    have HD4 := hide (show IP b tp tc ts sz (Pr.adv (s)).p w4 from hd)
    have HM4 := hide (HM3.out.t hm)
    have HG4 := hide (show m ≤ (Pr.adv (s)).p from Nat.le_succ_of_le HG3.out)
    clear hd hm Q
    have hbad2 : (Pr.adv s).bad = false := hbad
    have Q := hide (ihC 3 (by decide) (Pr.adv s) (Nat.lt_succ_of_le HG0.out) HD4.out.le hbad2 _ HD4.out)
    go_wp2_with fail
    refine Q.out.mono ?_
    rintro e w5 (⟨r1, v1, l1, rfl, hc, hb1, ho, hd, hm, hp⟩ | ⟨q, rfl, hq, hm⟩)
    rotate_left
    · exact ⟨rfl, .inr ⟨_, rfl, Ip.ends_not hbad hl3 hNot hq, HM4.out.t hm⟩⟩
    obtain ⟨t1, u1, rfl⟩ := hp.iface
    have HC1 := hide hc
    have HO1 := hide ho
    have HPn := hide (hp.low HM4.out.size)
    clear ho hp
    have HD5 := hide (show IP b tp tc ts sz (r1.1).p w5 from hd)
    have HM5 := hide (HM4.out.t hm)
    have HG5 := hide (show m ≤ (r1.1).p from Nat.le_trans HG4.out (hc.stp HD4.out.le).ge)
    clear hd hm Q
    clear hc
    have HP1_5 := hide HPn.out
    clear HPn
    have HC1n := hide (show Pr.Cv ts sz (.ops 3) (Pr.adv s) r1 from HC1.out)
    have Q := hide (newPart_any 6 1 0 0 ⟨#[]⟩ (some ⟨w5.heap.size, 0, none⟩) 1 1 (w5.alloc (.cells #[.iface t1 u1] 46)))
    go_wp2_with fail
    refine Q.out.mono ?_
    rintro e w6 ⟨rfl, hb⟩
    have hr : Ip.Row w0.heap.size (w5.alloc (.cells #[.iface t1 u1] 46)) (.slice (some ⟨w5.heap.size, 0, none⟩) 1 1) 1 (l1) := (Ip.some1 HP1_5.out).row HM5.out.size (by simp)
    have HPm := hide ((hr.below hb).made (x := ⟨6, 1, 0, ⟨#[]⟩, 1⟩) rfl)
    clear hr
    have hbb := below_lit hb
    have HD6 := hide (HD5.out.below hbb)
    have HM6 := hide (HM5.out.more hbb)
    clear hb hbb Q
    go_wp2
    refine bodyPost_ret (v := .tuple #[(Ip.pv ⟨6, 1, 0, ⟨#[]⟩, 1⟩ (.slice (some ⟨w5.heap.size, 0, none⟩) 1 1)), .int .i64 (3 : Nat)]) (by simp [results, Tryz.results101, go_sem]) rfl ?_
    exact .inl ⟨Pr.put r1.1 6 1 0 [] 1, 3, _, (l1 ++ [⟨6, 1, 0, ⟨#[]⟩, 1⟩]), rfl, by decide, .not hbad hl3 hNot HC1n.out, hb1, by simp [Pr.put, HO1.out], by have := (HC1n.out.stp HD4.out.le).ge; simp at this ⊢; omega, HD6.out, HM6.out, HPm.out⟩
  cases hNeg : Pr.is ts sz s [45]
  case true =>
    go_enter Tryz.func101, Tryz.ntmps101
    have Q := hide (skipN (s := s) HD0.out hbad Pr.sLet #[108, 101, 116] rfl hLet)
    go_wp2_with fail
    refine Q.out.mono ?_
    rintro e w1 ⟨rfl, hd, hb⟩
    have hm : Ip.Mv b w0 w1 := .below hb
    clear hb
    have HD1 := hide (show IP b tp tc ts sz (s).p w1 from hd)
    have HM1 := hide (HM0.out.t hm)
    have HG1 := hide (show m ≤ (s).p from HG0.out)
    clear hd hm Q
    have Q := hide (skipN (s := s) HD1.out hbad Pr.sIf #[105, 102] rfl hIf)
    go_wp2_with fail
    refine Q.out.mono ?_
    rintro e w2 ⟨rfl, hd, hb⟩
    have hm : Ip.Mv b w1 w2 := .below hb
    clear hb
    have HD2 := hide (show IP b tp tc ts sz (s).p w2 from hd)
    have HM2 := hide (HM1.out.t hm)
    have HG2 := hide (show m ≤ (s).p from HG1.out)
    clear hd hm Q
    have Q := hide (skipN (s := s) HD2.out hbad Pr.sFn #[102, 110] rfl hFn)
    go_wp2_with fail
    refine Q.out.mono ?_
    rintro e w3 ⟨rfl, hd, hb⟩
    have hm : Ip.Mv b w2 w3 := .below hb
    clear hb
    have HD3 := hide (show IP b tp tc ts sz (s).p w3 from hd)
    have HM3 := hide (HM2.out.t hm)
    have HG3 := hide (show m ≤ (s).p from HG2.out)
    clear hd hm Q
    have Q := hide (skipN (s := s) HD3.out hbad Pr.sNot #[110, 111, 116] rfl hNot)
    go_wp2_with fail
    refine Q.out.mono ?_
    rintro e w4 ⟨rfl, hd, hb⟩
    have hm : Ip.Mv b w3 w4 := .below hb
    clear hb
    have HD4 := hide (show IP b tp tc ts sz (s).p w4 from hd)
    have HM4 := hide (HM3.out.t hm)
    have HG4 := hide (show m ≤ (s).p from HG3.out)
    clear hd hm Q
    have Q := hide (skipY (s := s) HD4.out [45] #[45] rfl hNeg)
    go_wp2_with fail
    refine Q.out.mono ?_
    rintro e w5 ⟨rfl, hd, hm⟩
    have HD5 := hide (show IP b tp tc ts sz (Pr.adv (s)).p w5 from hd)
    have HM5 := hide (HM4.out.t hm)
    have HG5 := hide (show m ≤ (Pr.adv (s)).p from Nat.le_succ_of_le HG4.out)
    clear hd hm Q
    have hbad2 : (Pr.adv s).bad = false := hbad
    have Q := hide (ihC 7 (by decide) (Pr.adv s) (Nat.lt_succ_of_le HG0.out) HD5.out.le hbad2 _ HD5.out)
    go_wp2_with fail
    refine Q.out.mono ?_
    rintro e w6 (⟨r1, v1, l1, rfl, hc, hb1, ho, hd, hm, hp⟩ | ⟨q, rfl, hq, hm⟩)
    rotate_left
    · exact ⟨rfl, .inr ⟨_, rfl, Ip.ends_high hbad hl7 (fun _ => hNot) (fun _ => ⟨hLet, hIf, hFn⟩) (.neg hNeg hq), HM5.out.t hm⟩⟩
    obtain ⟨t1, u1, rfl⟩ := hp.iface
    have HC1 := hide hc
    have HO1 := hide ho
    have HPn := hide (hp.low HM5.out.size)
    clear ho hp
    have HD6 := hide (show IP b tp tc ts sz (r1.1).p w6 from hd)
    have HM6 := hide (HM5.out.t hm)
    have HG6 := hide (show m ≤ (r1.1).p from Nat.le_trans HG5.out (hc.stp HD5.out.le).ge)
    clear hd hm Q
    clear hc
    have HP1_6 := hide HPn.out
    clear HPn
    have HC1n := hide (show Pr.Cv ts sz (.ops 7) (Pr.adv s) r1 from HC1.out)
    have Q := hide (newPart_any 6 2 0 0 ⟨#[]⟩ (some ⟨w6.heap.size, 0, none⟩) 1 1 (w6.alloc (.cells #[.iface t1 u1] 46)))
    go_wp2_with fail
    refine Q.out.mono ?_
    rintro e w7 ⟨rfl, hb⟩
    have hr : Ip.Row w0.heap.size (w6.alloc (.cells #[.iface t1 u1] 46)) (.slice (some ⟨w6.heap.size, 0, none⟩) 1 1) 1 (l1) := (Ip.some1 HP1_6.out).row HM6.out.size (by simp)
    have HPm := hide ((hr.below hb).made (x := ⟨6, 2, 0, ⟨#[]⟩, 1⟩) rfl)
    clear hr
    have hbb := below_lit hb
    have HD7 := hide (HD6.out.below hbb)
    have HM7 := hide (HM6.out.more hbb)
    clear hb hbb Q
    go_wp2
    refine bodyPost_ret (v := .tuple #[(Ip.pv ⟨6, 2, 0, ⟨#[]⟩, 1⟩ (.slice (some ⟨w6.heap.size, 0, none⟩) 1 1)), .int .i64 (7 : Nat)]) (by simp [results, Tryz.results101, go_sem]) rfl ?_
    exact .inl ⟨Pr.put r1.1 6 2 0 [] 1, 7, _, (l1 ++ [⟨6, 2, 0, ⟨#[]⟩, 1⟩]), rfl, by decide, Ip.First.high (m := (Pr.put r1.1 6 2 0 [] 1, 0)) hbad hl7 (by decide) (fun _ => hNot) (fun _ => ⟨hLet, hIf, hFn⟩) (.ops_neg hbad rfl hNeg HC1n.out), hb1, by simp [Pr.put, HO1.out], by have := (HC1n.out.stp HD5.out.le).ge; simp at this ⊢; omega, HD7.out, HM7.out, HPm.out⟩
  go_enter Tryz.func101, Tryz.ntmps101
  have Q := hide (skipN (s := s) HD0.out hbad Pr.sLet #[108, 101, 116] rfl hLet)
  go_wp2_with fail
  refine Q.out.mono ?_
  rintro e w1 ⟨rfl, hd, hb⟩
  have hm : Ip.Mv b w0 w1 := .below hb
  clear hb
  have HD1 := hide (show IP b tp tc ts sz (s).p w1 from hd)
  have HM1 := hide (HM0.out.t hm)
  have HG1 := hide (show m ≤ (s).p from HG0.out)
  clear hd hm Q
  have Q := hide (skipN (s := s) HD1.out hbad Pr.sIf #[105, 102] rfl hIf)
  go_wp2_with fail
  refine Q.out.mono ?_
  rintro e w2 ⟨rfl, hd, hb⟩
  have hm : Ip.Mv b w1 w2 := .below hb
  clear hb
  have HD2 := hide (show IP b tp tc ts sz (s).p w2 from hd)
  have HM2 := hide (HM1.out.t hm)
  have HG2 := hide (show m ≤ (s).p from HG1.out)
  clear hd hm Q
  have Q := hide (skipN (s := s) HD2.out hbad Pr.sFn #[102, 110] rfl hFn)
  go_wp2_with fail
  refine Q.out.mono ?_
  rintro e w3 ⟨rfl, hd, hb⟩
  have hm : Ip.Mv b w2 w3 := .below hb
  clear hb
  have HD3 := hide (show IP b tp tc ts sz (s).p w3 from hd)
  have HM3 := hide (HM2.out.t hm)
  have HG3 := hide (show m ≤ (s).p from HG2.out)
  clear hd hm Q
  have Q := hide (skipN (s := s) HD3.out hbad Pr.sNot #[110, 111, 116] rfl hNot)
  go_wp2_with fail
  refine Q.out.mono ?_
  rintro e w4 ⟨rfl, hd, hb⟩
  have hm : Ip.Mv b w3 w4 := .below hb
  clear hb
  have HD4 := hide (show IP b tp tc ts sz (s).p w4 from hd)
  have HM4 := hide (HM3.out.t hm)
  have HG4 := hide (show m ≤ (s).p from HG3.out)
  clear hd hm Q
  have Q := hide (skipN (s := s) HD4.out hbad [45] #[45] rfl hNeg)
  go_wp2_with fail
  refine Q.out.mono ?_
  rintro e w5 ⟨rfl, hd, hb⟩
  have hm : Ip.Mv b w4 w5 := .below hb
  clear hb
  have HD5 := hide (show IP b tp tc ts sz (s).p w5 from hd)
  have HM5 := hide (HM4.out.t hm)
  have HG5 := hide (show m ≤ (s).p from HG4.out)
  clear hd hm Q
  have Q := hide (ireach_any (s := s) hbad hm0 ihE _ HD5.out)
  go_wp2_with fail
  refine Q.out.mono ?_
  rintro e w6 (⟨r1, v1, l1, rfl, hc, hb1, ho, hd, hm, hp⟩ | ⟨q, rfl, hq, hm⟩)
  rotate_left
  · exact ⟨rfl, .inr ⟨_, rfl, Ip.ends_high hbad hl7 (fun _ => hNot) (fun _ => ⟨hLet, hIf, hFn⟩) (.ops_post hbad hNeg hq), HM5.out.t hm⟩⟩
  have HGe := hide (hc.stp hle0).ge
  have HC1 := hide hc
  have HO1 := hide ho
  have HD6 := hide hd
  have HM6 := hide (HM5.out.t hm)
  have HP := hide (hp.low HM5.out.size)
  clear hc ho hd hm hp Q
  go_wp2
  refine bodyPost_ret (v := .tuple #[v1, .int .i64 (8 : Nat)]) (by simp [results, Tryz.results101, go_sem]) rfl ?_
  exact .inl ⟨r1.1, 8, _, l1, rfl, by decide, Ip.First.high hbad hl7 (by decide) (fun _ => hNot) (fun _ => ⟨hLet, hIf, hFn⟩) (.ops_7 hbad rfl hNeg HC1.out), hb1, HO1.out, HGe.out, HD6.out, HM6.out, HP.out⟩

end Go.Proofs.YtfjoecbkagedbaaGreatDoor
