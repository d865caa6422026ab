/- Py. -/
import Derived.Test.YtfjoecbkagedbaaGreatDoorY18
import Derived.Test.YtfjoecbkagedbaaGreatDoorY19
import Derived.Laws.AppendOwnNone
namespace Go.Proofs.YtfjoecbkagedbaaGreatDoor
open Go.RowKit
theorem Ip.Kids.one_cell {B : Nat → Prop} {w : World} {n : Nat} : ∀ {xs : List Value} {l : List Tr.Nd}, Ip.Kids (Ip.At B w n) xs l → ∀ u ∈ xs, u.oneCell' = true
  | [], _, _, _, h => by cases h
  | _ :: _, _, ⟨_, _, k1, k2, _⟩, u, h => by
    rcases List.mem_cons.1 h with rfl | h
    · exact k1.one
    · exact Ip.Kids.one_cell k2 u h
/-- The parts of a slice are put behind those of another. -/
theorem wp_appendR {ops : Array Oper} {rest : List Oper} {o : Oper} {a : Act} {w : World} {Q : Exit → Act → World → Prop} (hgd : o.guard = none) (s x : Operand) (ho : o.op = .call { callee := .builtin .append, args := #[s, x], argTypes := #[75, 75] })
    (lo lo' n m B : Nat) (sv sw : Value) (l la : List Tr.Nd) (hr : Ip.Row lo w sv n l) (hv : Ip.Row lo' w sw m la) (hll : lo ≤ lo') (hlw : lo ≤ w.heap.size) (hap : ∀ q, sv.ownBlock = some q → q < lo' ∧ B ≤ q) (hBw : B ≤ w.heap.size) (hn : n ≤ 2000000) (hm : m ≤ 2000000) (hs : a.eval s = sv) (hx : a.eval x = sw)
    (h : ∀ v' w', Ip.Row lo w' v' (n + m) (l ++ la) → Below B w w' → wpList Tryz.prog ops Q rest (a.put o.dst v') w') : wpList Tryz.prog ops Q (o :: rest) a w := by
  obtain ⟨iN, hN, hNz, hNs, hNb⟩ := info_parts Tryz.infoPart
  have hlt := fun q e => hr.lt (q := q) e
  have hr0 := hr
  obtain ⟨xs, k1, h1, h2⟩ := hr
  obtain ⟨ys, k2, g1, g2⟩ := hv
  have hyl : ys.length = m := by have := g1.1; omega
  rcases g1.2 with ⟨rfl, rfl⟩ | ⟨g, cap, cur, rfl, hgl, hgb, hmc, _, hsz, ht⟩
  · have hy : ys = [] := List.eq_nil_of_length_eq_zero hyl
    subst hy
    have g2 : la = [] := g2
    subst g2
    refine wpList_append_own_none hgd s x 75 ho lo 46 iN 1 Tryz.underlying75 hN sv n xs hs h1 hx ?_
    exact h sv w (by rw [List.append_nil]; exact hr0) (Below.refl _ _)
  · refine wpList_append_own_at _ hgd s x 75 ho lo 46 iN _ 1 16 Tryz.underlying75 hN hNz hNs hNb rfl (by decide) sv n xs hs h1 ⟨g, 0, none⟩ m cap ys hx (by rw [Nat.mul_one]; exact hyl) ?_ g2.one_cell (by unfold maxLen; omega) (by omega) hlw ?_
    · intro j u hu
      rw [add_plainP, Nat.zero_add, World.cell?, hgb]
      have hj : j < m := by rw [← hyl]; exact (List.getElem?_eq_some_iff.1 hu).1
      rw [← ht, List.getElem?_take, if_pos (by omega)] at hu
      simpa using hu
    · intro v' w' r1 r2 _ r4
      have hB : ∀ q, q < w.heap.size → sv.ownBlock ≠ some q → v'.ownBlock ≠ some q := fun q hq e1 e2 => by
        rcases r4 with r4 | r4
        · exact e1 (r4 ▸ e2)
        · rw [r4] at e2; cases e2; exact absurd hq (Nat.lt_irrefl _)
      have hW : ∀ q, q < w.heap.size → sv.ownBlock ≠ some q → w'.heap[q]? = w.heap[q]? := fun q hq e => r2.block q hq (fun e' => e e'.symm)
      refine h v' w' ⟨xs ++ ys, k1 + k2, r1, Ip.Kids.append (h2.mono (fun _ _ e => (e.go (fun q z => ⟨z.1, Nat.lt_of_lt_of_le z.2.1 r2.size, hB q z.2.1 z.2.2⟩) (fun q z => hW q z.2.1 z.2.2)).le (Nat.le_add_right _ _))) (g2.mono (fun _ _ e => (e.go (fun q z => ⟨Nat.le_trans hll z.1, Nat.lt_of_lt_of_le z.2.1 r2.size, hB q z.2.1 (fun e' => by have := (hap q e').1; omega)⟩) (fun q z => hW q z.2.1 (fun e' => by have := (hap q e').1; omega))).le (Nat.le_add_left _ _)))⟩ ?_
      refine ⟨r2.os, r2.tape, r2.output, r2.size, fun q hq => r2.block q (by omega) (fun e => ?_)⟩
      have := (hap q e.symm).2; omega
set_option maxRecDepth 100000 in
set_option maxHeartbeats 2000000 in
theorem ireach_any {b tc sz m : Nat} {tp : Option Addr} {ts : List Sc.T} {s : Pr.Dk} (hbad : s.bad = false) (hm0 : m ≤ s.p) (ihE : ∀ q : Pr.Dk, m < q.p → q.p ≤ ts.length → q.bad = false → Ip.DE b tp tc ts sz q) :
    Ip.Does b tp tc ts sz 114 #[.pointer (some ⟨b, 0, none⟩)] .post s (s) := by
  intro w0 hd0
  have hlt := hd0.lt
  have hmost := hd0.most
  have HD0 := hide hd0
  have HM0 := hide (Ip.Mv.refl b w0)
  have HG0 := hide (show m ≤ (s).p from hm0)
  clear hd0
  go_enter Tryz.func114, Tryz.ntmps114
  have Q := hide (iwhole_any (s := s) hbad hm0 ihE _ HD0.out)
  go_wp2_with fail
  refine Q.out.mono ?_
  rintro e w1 (⟨r1, v1, l1, rfl, hc, hb1, ho, hd, hm, hp⟩ | ⟨q, rfl, hq, hm⟩)
  rotate_left
  · exact ⟨rfl, .inr ⟨_, rfl, .post1 hq, HM0.out.t hm⟩⟩
  obtain ⟨t1, u1, rfl⟩ := hp.iface
  have HC1 := hide hc
  have HO1 := hide ho
  have HPn := hide (hp.low HM0.out.size)
  clear ho hp
  have HD1 := hide (show IP b tp tc ts sz (r1.1).p w1 from hd)
  have HM1 := hide (HM0.out.t hm)
  have HG1 := hide (show m ≤ (r1.1).p from Nat.le_trans HG0.out (hc.stp HD0.out.le).ge)
  clear hd hm Q
  clear hc
  have HP1_1 := hide HPn.out
  clear HPn
  have HS := hide (show ((fun v wr => ∃ (t : Pr.Dk) (l : List Tr.Nd), Ip.Pt w0.heap.size wr v l ∧ t.bad = false ∧ t.out = s.out ++ l ∧ m ≤ t.p ∧ IP b tp tc ts sz t.p wr ∧ Ip.Mv b w0 wr ∧ (∀ r, Pr.Cv ts sz .postL t r → Pr.Cv ts sz .post s r) ∧ (∀ q, Pr.Ends ts sz .postL t q → Pr.Ends ts sz .post s q))) (.iface t1 u1) w1 from ⟨r1.1, l1, HP1_1.out, hb1, HO1.out, HG1.out, HD1.out, HM1.out, fun r h => .post HC1.out h, fun q h => .post2 HC1.out h⟩)
  clear HP1_1 HO1 HG1 HD1 HM1 HC1 hb1
  go_wp2_with fail
  go_loopw [3] (fun v wr => ∃ (t : Pr.Dk) (l : List Tr.Nd), Ip.Pt w0.heap.size wr v l ∧ t.bad = false ∧ t.out = s.out ++ l ∧ m ≤ t.p ∧ IP b tp tc ts sz t.p wr ∧ Ip.Mv b w0 wr ∧ (∀ r, Pr.Cv ts sz .postL t r → Pr.Cv ts sz .post s r) ∧ (∀ q, Pr.Ends ts sz .postL t q → Pr.Ends ts sz .post s q)) (fun _ wr => Ip.left b ts wr)
  case atStart => exact HS.out
  case round =>
    clear HS
    obtain ⟨w10, rfl⟩ : ∃ w10, w10 = wr := ⟨_, rfl⟩
    obtain ⟨t, l, hp, hbt, ho, hg, hd, hm, hk1, hk2⟩ := hrel
    obtain ⟨tv, uv, rfl⟩ := hp.iface
    have HP0_10 := hide hp
    have HO := hide ho
    have HG10 := hide hg
    have HD10 := hide hd
    have HM10 := hide hm
    have HK1 := hide hk1
    have HK2 := hide hk2
    have HL := hide hd.left
    clear hp ho hg hd hm hk1 hk2 HM0 HD0 HG0
    cases hI : Pr.is ts sz t [91]
    case true =>
      have Q := hide (skipY (s := t) HD10.out [91] #[91] rfl hI)
      go_wp2_with fail
      refine Q.out.mono ?_
      rintro e w11 ⟨rfl, hd, hm⟩
      have HD11 := hide (show IP b tp tc ts sz (Pr.adv (t)).p w11 from hd)
      have HM11 := hide (HM10.out.t hm)
      have HG11 := hide (show m ≤ (Pr.adv (t)).p from Nat.le_succ_of_le HG10.out)
      have HP0_11 := hide (HP0_10.out.mv hm hlt (Nat.le_refl _))
      clear HP0_10
      clear hd hm Q
      have hbt2 : (Pr.adv t).bad = false := hbt
      have Q := hide (ihE (Pr.adv t) (Nat.lt_succ_of_le HG10.out) HD11.out.le hbt2 _ HD11.out)
      go_wp2_with fail
      refine Q.out.mono ?_
      rintro e w12 (⟨r1, v1, l1, rfl, hc, hb1, ho, hd, hm, hp⟩ | ⟨q, rfl, hq, hm⟩)
      rotate_left
      · exact ⟨rfl, .inr ⟨_, rfl, HK2.out _ (.index1 hI hq), HM11.out.t hm⟩⟩
      obtain ⟨t1, u1, rfl⟩ := hp.iface
      have HC1 := hide hc
      have HO1 := hide ho
      have HPn := hide (hp.low HM11.out.size)
      clear ho hp
      have HD12 := hide (show IP b tp tc ts sz (r1.1).p w12 from hd)
      have HM12 := hide (HM11.out.t hm)
      have HG12 := hide (show m ≤ (r1.1).p from Nat.le_trans HG11.out (hc.stp HD11.out.le).ge)
      have HP0_12 := hide (HP0_11.out.mv hm hlt (Nat.le_refl _))
      clear HP0_11
      clear hd hm Q
      clear hc
      have HP1_12 := hide HPn.out
      clear HPn
      cases hw13 : Pr.is ts sz (r1.1) [93]
      case false =>
        have hB := Pr.Bd.need_of (ts := ts) (sz := sz) (s := r1.1) hb1 hw13
        have HE := hide (show Pr.Ends ts sz .post s (Pr.tok ts sz (r1.1)).place from HK2.out _ (.index2 hI HC1.out (hB.put _ _ _ _ _).postL))
        have Q := hide (wantN (s := r1.1) HD12.out hb1 [93] #[93] rfl hw13)
        clear hB
        go_wp2_with fail
        refine Q.out.mono ?_
        rintro e w13 ⟨rfl, hm⟩
        exact ⟨rfl, .inr ⟨_, rfl, HE.out, HM12.out.t hm⟩⟩
      have Q := hide (wantY (s := r1.1) HD12.out [93] #[93] rfl hw13)
      go_wp2_with fail
      refine Q.out.mono ?_
      rintro e w13 ⟨rfl, hd, hm⟩
      have HD13 := hide (show IP b tp tc ts sz (Pr.adv (r1.1)).p w13 from hd)
      have HM13 := hide (HM12.out.t hm)
      have HG13 := hide (show m ≤ (Pr.adv (r1.1)).p from Nat.le_succ_of_le HG12.out)
      have HP0_13 := hide (HP0_12.out.mv hm hlt (Nat.le_refl _))
      have HP1_13 := hide (HP1_12.out.mv hm hlt (Nat.le_refl _))
      clear HP0_12
      clear HP1_12
      clear hd hm Q
      have HY := hide (show Pr.need ts sz r1.1 [93] = Pr.adv r1.1 from Pr.need_go hw13)
      have Q := hide (newPart_any 10 0 0 0 ⟨#[]⟩ (some ⟨w13.heap.size, 0, none⟩) 2 2 (w13.alloc (.cells #[.iface tv uv, .iface t1 u1] 46)))
      go_wp2_with fail
      refine Q.out.mono ?_
      rintro e w14 ⟨rfl, hb⟩
      have hr : Ip.Row w0.heap.size (w13.alloc (.cells #[.iface tv uv, .iface t1 u1] 46)) (.slice (some ⟨w13.heap.size, 0, none⟩) 2 2) 2 (l ++ l1) := (Ip.some2 HP0_13.out HP1_13.out).row HM13.out.size (by simp)
      have HPm := hide ((hr.below hb).made (x := ⟨10, 0, 0, ⟨#[]⟩, 2⟩) rfl)
      have hbb := below_lit hb
      have HD14 := hide (HD13.out.below hbb)
      have HM14 := hide (HM13.out.more hbb)
      have HG14 := hide HG13.out
      clear hb hbb hr Q
      have HDn := hide (show IP b tp tc ts sz (Pr.put (Pr.need ts sz r1.1 [93]) 10 0 0 [] 2).p w14 by rw [HY.out]; exact HD14.out)
      have HGn := hide (show m ≤ (Pr.put (Pr.need ts sz r1.1 [93]) 10 0 0 [] 2).p by rw [HY.out]; exact HG14.out)
      have HMS := hide (show Ip.left b ts w14 < Ip.left b ts w10 from by rw [HD14.out.left, HL.out]; have := HD14.out.le; have := (HC1.out.stp HD11.out.le).ge; simp at this ⊢; simp at *; omega)
      go_wp2
      go_roundw
      case rel => exact ⟨Pr.put (Pr.need ts sz r1.1 [93]) 10 0 0 [] 2, _, HPm.out, by rw [HY.out]; exact hb1, by rw [HY.out]; simp [Pr.put, HO1.out, HO.out], HGn.out, HDn.out, HM14.out, fun r h => HK1.out _ (.postL_index hbt (Pr.is_not hI (by decide)) hI HC1.out h), fun q h => HK2.out _ (.index2 hI HC1.out h)⟩
      case measure => exact HMS.out
    cases hD : Pr.is ts sz t [46]
    case true =>
      have Q := hide (skipN (s := t) HD10.out hbt [91] #[91] rfl hI)
      go_wp2_with fail
      refine Q.out.mono ?_
      rintro e w11 ⟨rfl, hd, hb⟩
      have hm : Ip.Mv b w10 w11 := .below hb
      clear hb
      have HD11 := hide (show IP b tp tc ts sz (t).p w11 from hd)
      have HM11 := hide (HM10.out.t hm)
      have HG11 := hide (show m ≤ (t).p from HG10.out)
      have HP0_11 := hide (HP0_10.out.mv hm hlt (Nat.le_refl _))
      clear HP0_10
      clear hd hm Q
      have Q := hide (skipY (s := t) HD11.out [46] #[46] rfl hD)
      go_wp2_with fail
      refine Q.out.mono ?_
      rintro e w12 ⟨rfl, hd, hm⟩
      have HD12 := hide (show IP b tp tc ts sz (Pr.adv (t)).p w12 from hd)
      have HM12 := hide (HM11.out.t hm)
      have HG12 := hide (show m ≤ (Pr.adv (t)).p from Nat.le_succ_of_le HG11.out)
      have HP0_12 := hide (HP0_11.out.mv hm hlt (Nat.le_refl _))
      clear HP0_11
      clear hd hm Q
      have hbt2 : (Pr.adv t).bad = false := hbt
      cases hk13 : ((Pr.tok ts sz (Pr.adv (t))).kind == 1)
      case false =>
        have hB := Pr.Bd.name_of (ts := ts) (sz := sz) (s := Pr.adv (t)) hbt2 (by rw [Pr.isName_of hbt2]; exact hk13)
        have HE := hide (show Pr.Ends ts sz .post s (Pr.tok ts sz (Pr.adv (t))).place from HK2.out _ (.dot1 hD (hB.put _ _ _ _ _).postL))
        have Q := hide (itakeN (s := Pr.adv (t)) HD12.out 1 (by simpa using hk13))
        clear hB
        go_wp2_with fail
        refine Q.out.mono ?_
        rintro e w13 ⟨rfl, hm⟩
        exact ⟨rfl, .inr ⟨_, rfl, HE.out, HM12.out.t hm⟩⟩
      have hn13 : Pr.isName ts sz (Pr.adv (t)) = true := by rw [Pr.isName_of hbt2]; exact hk13
      have Q := hide (itakeY (s := Pr.adv (t)) HD12.out 1 (by decide) (by simpa using hk13))
      go_wp2_with fail
      refine Q.out.mono ?_
      rintro e w13 ⟨rfl, hd, hm⟩
      have HD13 := hide (show IP b tp tc ts sz (Pr.adv (Pr.adv (t))).p w13 from hd)
      have HM13 := hide (HM12.out.t hm)
      have HG13 := hide (show m ≤ (Pr.adv (Pr.adv (t))).p from Nat.le_succ_of_le HG12.out)
      have HP0_13 := hide (HP0_12.out.mv hm hlt (Nat.le_refl _))
      clear HP0_12
      clear hd hm Q
      have hf1 := tokField1 (Pr.tok ts sz (Pr.adv (t))).kind (Pr.tok ts sz (Pr.adv (t))).n (Pr.tok ts sz (Pr.adv (t))).place ⟨(Pr.tok ts sz (Pr.adv (t))).text.toArray⟩
      unfold Pr.tokV
      have HY := hide (show Pr.name ts sz (Pr.adv t) = Pr.adv (Pr.adv t) from Pr.name_go hn13)
      have Q := hide (newPart_any 11 0 0 0 ⟨(Pr.tok ts sz (Pr.adv t)).text.toArray⟩ (some ⟨w13.heap.size, 0, none⟩) 1 1 (w13.alloc (.cells #[.iface tv uv] 46)))
      go_wp2_with fail
      refine Q.out.mono ?_
      rintro e w14 ⟨rfl, hb⟩
      have hr : Ip.Row w0.heap.size (w13.alloc (.cells #[.iface tv uv] 46)) (.slice (some ⟨w13.heap.size, 0, none⟩) 1 1) 1 (l) := (Ip.some1 HP0_13.out).row HM13.out.size (by simp)
      have HPm := hide ((hr.below hb).made (x := ⟨11, 0, 0, ⟨(Pr.tok ts sz (Pr.adv t)).text.toArray⟩, 1⟩) rfl)
      have hbb := below_lit hb
      have HD14 := hide (HD13.out.below hbb)
      have HM14 := hide (HM13.out.more hbb)
      have HG14 := hide HG13.out
      clear hb hbb hr Q
      have HDn := hide (show IP b tp tc ts sz (Pr.put (Pr.name ts sz (Pr.adv t)) 11 0 0 (Pr.nameT ts sz (Pr.adv t)) 1).p w14 by rw [HY.out]; exact HD14.out)
      have HGn := hide (show m ≤ (Pr.put (Pr.name ts sz (Pr.adv t)) 11 0 0 (Pr.nameT ts sz (Pr.adv t)) 1).p by rw [HY.out]; exact HG14.out)
      have HMS := hide (show Ip.left b ts w14 < Ip.left b ts w10 from by rw [HD14.out.left, HL.out]; have := HD14.out.le; simp at *; omega)
      go_wp2
      go_roundw
      case rel => exact ⟨Pr.put (Pr.name ts sz (Pr.adv t)) 11 0 0 (Pr.nameT ts sz (Pr.adv t)) 1, _, HPm.out, by rw [HY.out]; exact hbt, by rw [HY.out, Pr.nameT_go hn13]; simp [Pr.put, HO.out], HGn.out, HDn.out, HM14.out, fun r h => HK1.out _ (.postL_dot hbt (Pr.is_not hD (by decide)) hI hD h), fun q h => HK2.out _ (.dot1 hD h)⟩
      case measure => exact HMS.out
    cases hC : Pr.is ts sz t [40]
    case true =>
      have Q := hide (skipN (s := t) HD10.out hbt [91] #[91] rfl hI)
      go_wp2_with fail
      refine Q.out.mono ?_
      rintro e w11 ⟨rfl, hd, hb⟩
      have hm : Ip.Mv b w10 w11 := .below hb
      clear hb
      have HD11 := hide (show IP b tp tc ts sz (t).p w11 from hd)
      have HM11 := hide (HM10.out.t hm)
      have HG11 := hide (show m ≤ (t).p from HG10.out)
      have HP0_11 := hide (HP0_10.out.mv hm hlt (Nat.le_refl _))
      clear HP0_10
      clear hd hm Q
      have Q := hide (skipN (s := t) HD11.out hbt [46] #[46] rfl hD)
      go_wp2_with fail
      refine Q.out.mono ?_
      rintro e w12 ⟨rfl, hd, hb⟩
      have hm : Ip.Mv b w11 w12 := .below hb
      clear hb
      have HD12 := hide (show IP b tp tc ts sz (t).p w12 from hd)
      have HM12 := hide (HM11.out.t hm)
      have HG12 := hide (show m ≤ (t).p from HG11.out)
      have HP0_12 := hide (HP0_11.out.mv hm hlt (Nat.le_refl _))
      clear HP0_11
      clear hd hm Q
      have Q := hide (skipY (s := t) HD12.out [40] #[40] rfl hC)
      go_wp2_with fail
      refine Q.out.mono ?_
      rintro e w13 ⟨rfl, hd, hm⟩
      have HD13 := hide (show IP b tp tc ts sz (Pr.adv (t)).p w13 from hd)
      have HM13 := hide (HM12.out.t hm)
      have HG13 := hide (show m ≤ (Pr.adv (t)).p from Nat.le_succ_of_le HG12.out)
      have HP0_13 := hide (HP0_12.out.mv hm hlt (Nat.le_refl _))
      clear HP0_12
      clear hd hm Q
      have hbt2 : (Pr.adv t).bad = false := hbt
      have hr : Ip.Row w0.heap.size (w13.alloc (.cells #[.iface tv uv] 46)) (.slice (some ⟨w13.heap.size, 0, none⟩) 1 1) 1 l := (Ip.some1 HP0_13.out).row HM13.out.size (by simp)
      have hbb := below_new w13 (.cells #[.iface tv uv] 46)
      have hz : (w13.alloc (.cells #[.iface tv uv] 46)).heap.size = w13.heap.size + 1 := by simp
      have HDb := hide (HD13.out.below hbb)
      have HMb := hide (HM13.out.more hbb)
      have HRb := hide hr
      have hsi := HM13.out.size
      have Q := hide (iargs_any (m := m + 1) hbt2 (Nat.succ_le_succ HG10.out) ihE _ HDb.out)
      clear hr hbb
      go_wp2_with fail
      refine Q.out.mono ?_
      rintro e w14 (⟨d1, n1, sv, l1, rfl, hc, hb1, ho, hge, hd, hm, hr, hn1⟩ | ⟨q, rfl, hq, hm⟩)
      rotate_left
      · exact ⟨rfl, .inr ⟨_, rfl, HK2.out _ (.call1 hC hq), HMb.out.t hm⟩⟩
      obtain ⟨sp1, sc1, rfl⟩ := hr.form
      have hmost := hd.most
      have HC1 := hide hc
      have HO1 := hide ho
      have HD14 := hide hd
      have HM14 := hide (HMb.out.t hm)
      have HR0 := hide (HRb.out.mv hm hlt (Nat.le_refl _))
      have HR1 := hide hr
      have HG14 := hide (show m ≤ (Pr.adv d1).p from by have := HG10.out; simp at hge ⊢; omega)
      have HA := hide (show ∀ q, (Value.slice (some ⟨w13.heap.size, 0, none⟩) 1 1).ownBlock = some q → q < (w13.alloc (.cells #[.iface tv uv] 46)).heap.size ∧ w0.heap.size ≤ q from fun q e => by cases e; exact ⟨by rw [hz]; exact Nat.lt_succ_self _, hsi⟩)
      have hge2 : t.p + 1 ≤ d1.p := hge
      clear hc ho hd hm hr Q hge
      go_wp2_with (at_builtin; refine wp_appendR rfl _ _ rfl w0.heap.size (w13.alloc (.cells #[.iface tv uv] 46)).heap.size 1 n1 w0.heap.size (.slice (some ⟨w13.heap.size, 0, none⟩) 1 1) (.slice sp1 n1 sc1) l l1 HR0.out HR1.out (by rw [hz]; omega) HM14.out.size HA.out HM14.out.size (by omega) (by omega) rfl rfl ?_)
      intro v w15 hr hb
      obtain ⟨sq, sd, rfl⟩ := hr.form
      have HS := hide hr
      have HD15 := hide (HD14.out.fresh hb hlt)
      have HM15 := hide (HM14.out.fresh hb (Nat.le_refl _))
      have HG15 := hide HG14.out
      clear hr hb HR0 HR1 HA
      have Q := hide (newPart_any 12 0 0 0 ⟨#[]⟩ sq (1 + n1) sd w15)
      go_wp2_with fail
      refine Q.out.mono ?_
      rintro e w16 ⟨rfl, hb⟩
      have HPm := hide ((HS.out.below hb).made (x := ⟨12, 0, 0, ⟨#[]⟩, ((1 + n1 : Nat) : Int)⟩) rfl)
      have HD16 := hide (HD15.out.below hb)
      have HM16 := hide (HM15.out.more hb)
      clear hb Q
      have HDn := hide (show IP b tp tc ts sz (Pr.put (Pr.adv d1) 12 0 0 [] (1 + n1)).p w16 from HD16.out)
      have HGn := hide (show m ≤ (Pr.put (Pr.adv d1) 12 0 0 [] (1 + n1)).p from HG15.out)
      have HMS := hide (show Ip.left b ts w16 < Ip.left b ts w10 from by rw [HD16.out.left, HL.out]; have := HD16.out.le; simp at *; omega)
      go_wp2
      go_roundw
      case rel => exact ⟨Pr.put (Pr.adv d1) 12 0 0 [] (1 + n1), _, HPm.out, hb1, by simp [Pr.put, HO1.out, HO.out], HGn.out, HDn.out, HM16.out, fun r h => HK1.out _ (.postL_call (r1 := (Pr.adv d1, n1)) hbt hC HC1.out h), fun q h => HK2.out _ (.call2 (r1 := (Pr.adv d1, n1)) hC HC1.out h)⟩
      case measure => exact HMS.out
    have Q := hide (skipN (s := t) HD10.out hbt [91] #[91] rfl hI)
    go_wp2_with fail
    refine Q.out.mono ?_
    rintro e w11 ⟨rfl, hd, hb⟩
    have hm : Ip.Mv b w10 w11 := .below hb
    clear hb
    have HD11 := hide (show IP b tp tc ts sz (t).p w11 from hd)
    have HM11 := hide (HM10.out.t hm)
    have HG11 := hide (show m ≤ (t).p from HG10.out)
    have HP0_11 := hide (HP0_10.out.mv hm hlt (Nat.le_refl _))
    clear HP0_10
    clear hd hm Q
    have Q := hide (skipN (s := t) HD11.out hbt [46] #[46] rfl hD)
    go_wp2_with fail
    refine Q.out.mono ?_
    rintro e w12 ⟨rfl, hd, hb⟩
    have hm : Ip.Mv b w11 w12 := .below hb
    clear hb
    have HD12 := hide (show IP b tp tc ts sz (t).p w12 from hd)
    have HM12 := hide (HM11.out.t hm)
    have HG12 := hide (show m ≤ (t).p from HG11.out)
    have HP0_12 := hide (HP0_11.out.mv hm hlt (Nat.le_refl _))
    clear HP0_11
    clear hd hm Q
    have Q := hide (skipN (s := t) HD12.out hbt [40] #[40] rfl hC)
    go_wp2_with fail
    refine Q.out.mono ?_
    rintro e w13 ⟨rfl, hd, hb⟩
    have hm : Ip.Mv b w12 w13 := .below hb
    clear hb
    have HD13 := hide (show IP b tp tc ts sz (t).p w13 from hd)
    have HM13 := hide (HM12.out.t hm)
    have HG13 := hide (show m ≤ (t).p from HG12.out)
    have HP0_13 := hide (HP0_12.out.mv hm hlt (Nat.le_refl _))
    clear HP0_12
    clear hd hm Q
    go_wp2
    go_ret
    exact .inl ⟨(t, 0), _, l, rfl, HK1.out _ (.postL_end hbt hC hI hD), hbt, HO.out, HD13.out, HM13.out, HP0_13.out⟩

end Go.Proofs.YtfjoecbkagedbaaGreatDoor
