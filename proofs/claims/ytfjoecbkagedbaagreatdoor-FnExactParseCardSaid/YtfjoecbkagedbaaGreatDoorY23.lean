/- P3, P4. -/
import Derived.Test.YtfjoecbkagedbaaGreatDoorY22
import Derived.Recover
namespace Go.Proofs.YtfjoecbkagedbaaGreatDoor
open Go.RowKit
set_option maxRecDepth 100000 in
set_option maxHeartbeats 4000000 in
theorem iclimb_any {b tc sz m : Nat} {tp : Option Addr} {ts : List Sc.T} {s : Pr.Dk} {least : Nat} (hl7 : least ≤ 7) (hbad : s.bad = false) (hm0 : m ≤ s.p) (ihE : ∀ q : Pr.Dk, m < q.p → q.p ≤ ts.length → q.bad = false → Ip.DE b tp tc ts sz q) (ihC : ∀ r : Nat, r ≤ 7 → ∀ q : Pr.Dk, m < q.p → q.p ≤ ts.length → q.bad = false → Ip.CL b tp tc ts sz r q) : Ip.CL b tp tc ts sz least s := by
  intro w0 hd0
  have hlt := hd0.lt
  have hmost := hd0.most
  have Q := hide (ifirst_any (m := m) hl7 hbad hm0 ihE ihC w0 hd0)
  clear hd0
  go_enter Tryz.func88, Tryz.ntmps88
  go_wp2_with fail
  refine Q.out.mono ?_
  rintro e w1 (⟨t1, k1, v1, l1, rfl, hk1, hf1, hb1, ho1, hp1, hd1, hm1, hpt1⟩ | ⟨q, rfl, hq, hm1⟩)
  rotate_left
  · exact ⟨rfl, .inr ⟨_, rfl, hq, hm1⟩⟩
  have HS := hide (show ∃ (t : Pr.Dk) (k : Nat) (l : List Tr.Nd), (Value.int .i64 (k1 : Int)) = .int .i64 k ∧ k ≤ 8 ∧ Ip.First ts sz least k s t ∧ t.bad = false ∧ t.out = s.out ++ l ∧ m ≤ t.p ∧ IP b tp tc ts sz t.p w1 ∧ Ip.Mv b w0 w1 ∧ Ip.Pt w0.heap.size w1 v1 l from ⟨t1, k1, l1, rfl, hk1, hf1, hb1, ho1, Nat.le_trans hm0 hp1, hd1, hm1, hpt1⟩)
  clear hf1 hb1 ho1 hp1 hd1 hm1 hpt1 Q hk1
  go_wp2_with fail
  go_loopw [5, 6] (fun v kv wr => ∃ (t : Pr.Dk) (k : Nat) (l : List Tr.Nd), kv = .int .i64 k ∧ k ≤ 8 ∧ Ip.First ts sz least k s t ∧ t.bad = false ∧ t.out = s.out ++ l ∧ m ≤ t.p ∧ IP b tp tc ts sz t.p wr ∧ Ip.Mv b w0 wr ∧ Ip.Pt w0.heap.size wr v l) (fun _ _ wr => Ip.left b ts wr)
  case atStart => exact HS.out
  case round =>
    clear HS
    obtain ⟨w10, rfl⟩ : ∃ w10, w10 = wr := ⟨_, rfl⟩
    obtain ⟨t, k, l, rfl, hk, hf, hbt, ho, hg, hd, hm, hp⟩ := hrel
    obtain ⟨tv, uv, rfl⟩ := hp.iface
    have HF := hide hf
    have HO := hide ho
    have HM := hide hm
    have HP := hide hp
    have HL := hide hd.left
    have HD := hide hd
    have Q := hide (inext_any (s := t) hd)
    clear hf ho hm hp hd
    go_wp2_with fail
    refine Q.out.mono ?_
    rintro e w11 ⟨rfl, hb11⟩
    have HD1 := hide (HD.out.below hb11)
    have HM1 := hide (HM.out.more hb11)
    have HP1 := hide (HP.out.below hb11)
    have Q2 := hide (opOf_any (Pr.tok ts sz t) w11 (by have := HD1.out.lt; omega) HD1.out.gl.2)
    clear hb11 Q HD HM HP
    go_wp2_with fail
    refine Q2.out.mono ?_
    rintro e w12 ⟨o, rfl, hop, hb12⟩
    have HD2 := hide (HD1.out.below hb12)
    have HM2 := hide (HM1.out.more hb12)
    have HP2 := hide (HP1.out.below hb12)
    have hgl := HD2.out.gl.2
    have HOP := hide hop
    have ho14 : o ≤ 14 := by
      rcases hop with ⟨_, h, _⟩ | ⟨h, _⟩
      · exact h
      · omega
    have ho15 : (o : Int) < 15 := by omega
    have ho0 : (0 : Int) ≤ (o : Int) := by omega
    have x1 := (hgl o ho14).2
    clear hb12 Q2 HD1 HM1 HP1 hgl hop
    by_cases hst : o = 0 ∨ Pr.rank o < least ∨ k < (if Pr.rank o = 4 then 5 else Pr.rank o)
    · -- it ends
      obtain ⟨r, hc, hr⟩ := HF.out.stop hbt hk HOP.out hst
      have HC := hide hc
      have HR := hide hr
      clear hc hr
      by_cases hz : o = 0
      · subst hz
        have x1' : w12.cell? ⟨0, 1, none⟩ = some (.int .i64 0) := x1
        go_wp2
        go_ret
        exact .inl ⟨r, _, l, rfl, HC.out, by rw [HR.out]; exact hbt, by rw [HR.out]; exact HO.out, by rw [HR.out]; exact HD2.out, HM2.out, HP2.out⟩
      · have hob : ((o : Int) == 0) = false := by simp; omega
        by_cases hrl : Pr.rank o < least
        · have hri : ((Pr.rank o : Nat) : Int) < (least : Int) := by omega
          go_wp2
          go_ret
          exact .inl ⟨r, _, l, rfl, HC.out, by rw [HR.out]; exact hbt, by rw [HR.out]; exact HO.out, by rw [HR.out]; exact HD2.out, HM2.out, HP2.out⟩
        · have hri : ¬ ((Pr.rank o : Nat) : Int) < (least : Int) := by omega
          have hrd : decide (((Pr.rank o : Nat) : Int) < (least : Int)) = false := by simpa using hri
          have hkf : k < (if Pr.rank o = 4 then 5 else Pr.rank o) := by
            rcases hst with h | h | h
            · exact absurd h hz
            · exact absurd h hrl
            · exact h
          have hr6 : Pr.rank o ≤ 100 := by have := (Ip.rank_le (o := o) (by omega) ho14).2; omega
          have Q3 := hide (firstRank_any (Pr.rank o) w12 hr6)
          go_wp2_with fail
          refine Q3.out.mono ?_
          rintro e w13 ⟨rfl, rfl⟩
          have hki : (k : Int) < ((if Pr.rank o = 4 then 5 else Pr.rank o : Nat) : Int) := by omega
          generalize (if Pr.rank o = 4 then 5 else Pr.rank o : Nat) = fr at *
          go_wp2
          go_ret
          exact .inl ⟨r, _, l, rfl, HC.out, by rw [HR.out]; exact hbt, by rw [HR.out]; exact HO.out, by rw [HR.out]; exact HD2.out, HM2.out, HP2.out⟩
    · have hz : o ≠ 0 := fun e => hst (.inl e)
      have hrl : least ≤ Pr.rank o := by
        by_cases h : Pr.rank o < least
        · exact absurd (.inr (.inl h)) hst
        · omega
      have hkf : (if Pr.rank o = 4 then 5 else Pr.rank o) ≤ k := by
        by_cases h : k < (if Pr.rank o = 4 then 5 else Pr.rank o)
        · exact absurd (.inr (.inr h)) hst
        · omega
      have hsg : Pr.is ts sz t (Pr.mark o) = true := by
        rcases HOP.out with ⟨_, _, h⟩ | ⟨h, _⟩
        · rw [Pr.is_sign hbt]; exact h
        · exact absurd h hz
      have hrk := Ip.rank_le (o := o) (by omega) ho14
      have hob : ((o : Int) == 0) = false := by simp; omega
      have hri : ¬ ((Pr.rank o : Nat) : Int) < (least : Int) := by omega
      have hrd : decide (((Pr.rank o : Nat) : Int) < (least : Int)) = false := by simpa using hri
      have hpl := Pr.is_lt hsg
      have Q3 := hide (firstRank_any (Pr.rank o) w12 (by omega))
      have HKF := hide hkf
      have HEN := hide (show ∀ q, Pr.Ends ts sz (.ops (Pr.rank o + 1)) (Pr.adv t) q → Pr.Ends ts sz (Ip.cmd least) s q from fun q hq => HF.out.ends (by omega) ho14 hsg hrl hkf hq)
      have HST := hide (show ∀ r, Pr.Cv ts sz (.ops (Pr.rank o + 1)) (Pr.adv t) r → Ip.First ts sz least (Pr.rank o) s (Pr.put r.1 7 o 0 [] 2) from fun r hc => HF.out.step (by omega) ho14 hsg hrl hkf hc)
      clear hst hkf
      go_wp2_with fail
      refine Q3.out.mono ?_
      rintro e w13 ⟨rfl, rfl⟩
      have hki : ¬ (k : Int) < ((if Pr.rank o = 4 then 5 else Pr.rank o : Nat) : Int) := by have := HKF.out; omega
      have hkd : decide ((k : Int) < ((if Pr.rank o = 4 then 5 else Pr.rank o : Nat) : Int)) = false := by simpa using hki
      generalize (if Pr.rank o = 4 then 5 else Pr.rank o : Nat) = fr at *
      have c1 := HD2.out.c1
      have f1 := HD2.out.fr 1
      have HD3 := hide (HD2.out.adv hpl)
      have HM3 := hide (HM2.out.t (Ip.Mv.set _ b 1 (.int .i64 ((t.p : Int) + 1))))
      have HP3 := hide (HP2.out.mv (Ip.Mv.set _ b 1 (.int .i64 ((t.p : Int) + 1))) hlt (Nat.le_refl _))
      have Q4 := hide (ihC (Pr.rank o + 1) (by omega) (Pr.adv t) (Nat.lt_succ_of_le hg) HD3.out.le (show (Pr.adv t).bad = false from hbt) _ HD3.out)
      have hcmd : Ip.cmd (Pr.rank o + 1) = .ops (Pr.rank o + 1) := by unfold Ip.cmd; rw [if_neg (by omega)]
      rw [hcmd] at Q4
      clear HD2 HM2 HP2 Q3
      go_wp2_with fail
      refine Q4.out.mono ?_
      rintro e w14 (⟨r, v, l4, rfl, hc, hb4, ho4, hd4, hm4, hp4⟩ | ⟨q, rfl, hq, hm4⟩)
      rotate_left
      · exact ⟨rfl, .inr ⟨_, rfl, HEN.out _ hq, HM3.out.t hm4⟩⟩
      obtain ⟨t4, u4, rfl⟩ := hp4.iface
      have HC := hide hc
      have HO4 := hide ho4
      have HD4 := hide hd4
      have HM4 := hide (HM3.out.t hm4)
      have HP4 := hide (hp4.low (lo' := w0.heap.size) HM3.out.size)
      have HP0 := hide (HP3.out.mv hm4 hlt (Nat.le_refl _))
      have HGE := hide (hc.stp HD3.out.le).ge
      clear hc ho4 hd4 hm4 hp4 Q4 HP3 HM3
      have Q5 := hide (newPart_any 7 o 0 0 ⟨#[]⟩ (some ⟨w14.heap.size, 0, none⟩) 2 2 (w14.alloc (.cells #[.iface tv uv, .iface t4 u4] 46)))
      go_wp2_with fail
      refine Q5.out.mono ?_
      rintro e w15 ⟨rfl, hb⟩
      have hr : Ip.Row w0.heap.size (w14.alloc (.cells #[.iface tv uv, .iface t4 u4] 46)) (.slice (some ⟨w14.heap.size, 0, none⟩) 2 2) 2 (l ++ l4) := (Ip.some2 HP0.out HP4.out).row HM4.out.size (by simp)
      have HPm := hide ((hr.below hb).made (x := ⟨7, o, 0, ⟨#[]⟩, 2⟩) rfl)
      have hbb := below_lit hb
      have HD5 := hide (HD4.out.below hbb)
      have HM5 := hide (HM4.out.more hbb)
      have HMS := hide (show Ip.left b ts w15 < Ip.left b ts w10 from by rw [HD5.out.left, HL.out]; have := HD5.out.le; have := HGE.out; simp at *; omega)
      clear hr hb hbb Q5
      go_wp2
      go_roundw
      case rel => exact ⟨Pr.put r.1 7 o 0 [] 2, Pr.rank o, l ++ l4 ++ [⟨7, o, 0, ⟨#[]⟩, 2⟩], rfl, by omega, HST.out _ HC.out, hb4, by simp [Pr.put, HO4.out, HO.out], by have := HGE.out; simp at this ⊢; omega, HD5.out, HM5.out, HPm.out⟩
      case measure => exact HMS.out
end Go.Proofs.YtfjoecbkagedbaaGreatDoor
namespace Go.Proofs.YtfjoecbkagedbaaGreatDoor
open Go.RowKit
section
variable {b tc sz : Nat} {tp : Option Addr} {ts : List Sc.T}
set_option maxRecDepth 100000 in
set_option maxHeartbeats 1000000 in
theorem iexpr_any {d : Pr.Dk} (h : Ip.CL b tp tc ts sz 0 d) : Ip.DE b tp tc ts sz d := by
  intro w0 hd0
  have Q := hide (h w0 hd0)
  clear hd0
  go_enter Tryz.func65, Tryz.ntmps65
  go_wp2_with fail
  refine Q.out.mono ?_
  intro e w1 ho
  have HH : Hid (Ip.Out b tp tc ts sz .e d w0 e w1) := hide ho
  rcases ho with ⟨r, v, l, rfl, _⟩ | ⟨q, rfl, _⟩
  · go_wp2
    go_ret
    exact HH.out
  · exact ⟨rfl, HH.out⟩
theorem iall_any (n : Nat) : ∀ d : Pr.Dk, ts.length - d.p ≤ n → d.p ≤ ts.length → d.bad = false → (∀ r, r ≤ 7 → Ip.CL b tp tc ts sz r d) ∧ Ip.DE b tp tc ts sz d := by
  induction n with
  | zero =>
    intro d hn hle hb
    have h : ∀ r, r ≤ 7 → Ip.CL b tp tc ts sz r d := fun r hr => iclimb_any (m := d.p) hr hb (Nat.le_refl _) (fun q h1 h2 _ => by omega) (fun _ _ q h1 h2 _ => by omega)
    exact ⟨h, iexpr_any (h 0 (by omega))⟩
  | succ n ih =>
    intro d hn hle hb
    have h : ∀ r, r ≤ 7 → Ip.CL b tp tc ts sz r d := fun r hr => iclimb_any (m := d.p) hr hb (Nat.le_refl _) (fun q h1 h2 h3 => (ih q (by omega) h2 h3).2) (fun r' hr' q h1 h2 h3 => (ih q (by omega) h2 h3).1 r' hr')
    exact ⟨h, iexpr_any (h 0 (by omega))⟩
theorem iE_any (d : Pr.Dk) (hle : d.p ≤ ts.length) (hb : d.bad = false) : Ip.DE b tp tc ts sz d := (iall_any _ d (Nat.le_refl _) hle hb).2
/-- A statement. -/
theorem iS_any (d : Pr.Dk) (hb : d.bad = false) : Ip.Does b tp tc ts sz 36 #[.pointer (some ⟨b, 0, none⟩)] .statement d d := istatement_any (m := 0) hb (Nat.zero_le _) (fun q _ h2 h3 => iE_any q h2 h3)
end
/-- What the deferred function of file leaves: the two results are set, all else stays. -/
structure Ip.Caught (fb gb q : Nat) (w w' : World) : Prop where
  mv : Pr.Mv (fun k => k = fb ∨ k = gb) w w'
  c0 : w'.cell? ⟨fb, 0, none⟩ = some .nilIface
  c1 : w'.cell? ⟨gb, 0, none⟩ = some (.int .i64 6)
  c2 : w'.cell? ⟨gb, 1, none⟩ = some (.int .i64 (q : Int))
set_option maxRecDepth 100000 in
set_option maxHeartbeats 1000000 in
theorem catch_idle (p g : Addr) (w : World) :
    CallsD Tryz.prog 35 #[.pointer (some p), .pointer (some g)] .returning w fun e u' w' => e = .returned (.tuple #[]) ∧ u' = .returning ∧ w' = w := by
  refine callsD_of_wpS Tryz.func35 rfl fun c₀ cs hu => ?_
  apply wpS_seq
  apply wpS_region
  simp [wpOpsS, go_sem, recoverD, hu, Tryz.ntmps35, Exit.thenS]
  refine wpS_of_wp ?_
  have ht : (#[Value.pointer (some p), Value.pointer (some g)] ++ ((Array.replicate 17 undef).setIfInBounds 3 Value.nilIface).setIfInBounds 0 Value.nilIface) = #[.pointer (some p), .pointer (some g), Value.nilIface, undef, undef, Value.nilIface, undef, undef, undef, undef, undef, undef, undef, undef, undef, undef, undef, undef, undef] := rfl
  rw [ht]
  go_wp2
  cases c₀
  simp_all [bodyPostS, results, Tryz.results35]
theorem mv_set2 (fb gb k j : Nat) (v : Value) (w : World) (h : k = fb ∨ k = gb) : Pr.Mv (fun x => x = fb ∨ x = gb) w (w.setCell ⟨k, j, none⟩ v) := .grown (Pr.grown_set w k j v) (fun q e => by cases e; exact h)
theorem mv_t2 {fb gb : Nat} {a b c : World} (h : Pr.Mv (fun x => x = fb ∨ x = gb) a b) (k : Pr.Mv (fun x => x = fb ∨ x = gb) b c) : Pr.Mv (fun x => x = fb ∨ x = gb) a c := h.trans k (fun _ _ e => e) (fun _ _ e => e)
theorem off_ne {k i j : Nat} (h : i ≠ j) : (⟨k, i, none⟩ : Addr) ≠ ⟨k, j, none⟩ := fun e => h (congrArg Addr.off e)
theorem block_ne {k l i j : Nat} (h : k ≠ l) : (⟨k, i, none⟩ : Addr) ≠ ⟨l, j, none⟩ := fun e => h (congrArg Addr.block e)
theorem Ip.Caught.grow {fb gb q : Nat} {w w' w'' : World} (h : Ip.Caught fb gb q w w') (hb : Below w'.heap.size w' w'') : Ip.Caught fb gb q w w'' :=
  ⟨mv_t2 h.mv (.below hb), (hb.cell (p := ⟨fb, 0, none⟩) (World.block_lt_of_cell? w' ⟨fb, 0, none⟩ h.c0)).trans h.c0, (hb.cell (p := ⟨gb, 0, none⟩) (World.block_lt_of_cell? w' ⟨gb, 0, none⟩ h.c1)).trans h.c1, (hb.cell (p := ⟨gb, 1, none⟩) (World.block_lt_of_cell? w' ⟨gb, 1, none⟩ h.c2)).trans h.c2⟩
theorem Ip.Caught.of1 {fb gb q : Nat} {w : World} {u0 u1 u2 : Value} {o : Obj} (hne : fb ≠ gb) (c0 : w.cell? ⟨fb, 0, none⟩ = some u0) (c1 : w.cell? ⟨gb, 0, none⟩ = some u1) (c2 : w.cell? ⟨gb, 1, none⟩ = some u2) :
    Ip.Caught fb gb q w ((((w.setCell ⟨fb, 0, none⟩ .nilIface).setCell ⟨gb, 0, none⟩ (.int .i64 6)).setCell ⟨gb, 1, none⟩ (.int .i64 (q : Int))).alloc o).drew := by
  have k1 := (World.cell?_setCell_other (w := w) (a := ⟨fb, 0, none⟩) (b := ⟨gb, 0, none⟩) .nilIface (block_ne hne)).trans c1
  have k2 := (World.cell?_setCell_other (w := w) (a := ⟨fb, 0, none⟩) (b := ⟨gb, 1, none⟩) .nilIface (block_ne hne)).trans c2
  have k3 := (World.cell?_setCell_other (w := w.setCell ⟨fb, 0, none⟩ .nilIface) (a := ⟨gb, 0, none⟩) (b := ⟨gb, 1, none⟩) (.int .i64 6) (off_ne (by decide))).trans k2
  have h : Ip.Caught fb gb q w (((w.setCell ⟨fb, 0, none⟩ .nilIface).setCell ⟨gb, 0, none⟩ (.int .i64 6)).setCell ⟨gb, 1, none⟩ (.int .i64 (q : Int))) := by
    refine ⟨mv_t2 (mv_t2 (mv_set2 _ _ _ _ _ _ (.inl rfl)) (mv_set2 _ _ _ _ _ _ (.inr rfl))) (mv_set2 _ _ _ _ _ _ (.inr rfl)), ?_, ?_, World.cell?_setCell_same _ _ _ k3⟩
    · rw [World.cell?_setCell_other _ _ _ _ (block_ne (fun e => hne e.symm)), World.cell?_setCell_other _ _ _ _ (block_ne (fun e => hne e.symm))]
      exact World.cell?_setCell_same _ _ _ c0
    · rw [World.cell?_setCell_other _ _ _ _ (off_ne (by decide))]
      exact World.cell?_setCell_same _ _ _ k1
  exact (h.grow (below_new _ o)).grow (Below.refl _ _).drew
theorem Ip.Caught.of2 {fb gb q : Nat} {w : World} {u0 u1 u2 : Value} {o : Obj} (hne : fb ≠ gb) (c0 : w.cell? ⟨fb, 0, none⟩ = some u0) (c1 : w.cell? ⟨gb, 0, none⟩ = some u1) (c2 : w.cell? ⟨gb, 1, none⟩ = some u2) :
    Ip.Caught fb gb q w ((((w.setCell ⟨gb, 0, none⟩ (.int .i64 6)).setCell ⟨gb, 1, none⟩ (.int .i64 (q : Int))).setCell ⟨fb, 0, none⟩ .nilIface).alloc o).drew := by
  have k3 := (World.cell?_setCell_other (w := w) (a := ⟨gb, 0, none⟩) (b := ⟨gb, 1, none⟩) (.int .i64 6) (off_ne (by decide))).trans c2
  have k1 := (World.cell?_setCell_other (w := w) (a := ⟨gb, 0, none⟩) (b := ⟨fb, 0, none⟩) (.int .i64 6) (block_ne (fun e => hne e.symm))).trans c0
  have k2 := (World.cell?_setCell_other (w := w.setCell ⟨gb, 0, none⟩ (.int .i64 6)) (a := ⟨gb, 1, none⟩) (b := ⟨fb, 0, none⟩) (.int .i64 (q : Int)) (block_ne (fun e => hne e.symm))).trans k1
  have h : Ip.Caught fb gb q w (((w.setCell ⟨gb, 0, none⟩ (.int .i64 6)).setCell ⟨gb, 1, none⟩ (.int .i64 (q : Int))).setCell ⟨fb, 0, none⟩ .nilIface) := by
    refine ⟨mv_t2 (mv_t2 (mv_set2 _ _ _ _ _ _ (.inr rfl)) (mv_set2 _ _ _ _ _ _ (.inr rfl))) (mv_set2 _ _ _ _ _ _ (.inl rfl)), World.cell?_setCell_same _ _ _ k2, ?_, ?_⟩
    · rw [World.cell?_setCell_other _ _ _ _ (block_ne hne), World.cell?_setCell_other _ _ _ _ (off_ne (by decide))]
      exact World.cell?_setCell_same _ _ _ c1
    · rw [World.cell?_setCell_other _ _ _ _ (block_ne hne)]
      exact World.cell?_setCell_same _ _ _ k3
  exact (h.grow (below_new _ o)).grow (Below.refl _ _).drew
theorem ta_stuck (q : Int) (w : World) : (Instr.typeAssert (.iface 73 (.agg #[.int .i64 q])) 20 73 true).run Tryz.prog w = .ok (.tuple #[.agg #[.int .i64 q], .bool true]) w := by kernel_rfl
set_option maxRecDepth 100000 in
set_option maxHeartbeats 2000000 in
theorem catch_stuck (fb gb q : Nat) (w : World) (hne : fb ≠ gb) (u0 u1 u2 : Value) (c0 : w.cell? ⟨fb, 0, none⟩ = some u0) (c1 : w.cell? ⟨gb, 0, none⟩ = some u1) (c2 : w.cell? ⟨gb, 1, none⟩ = some u2) (f0 : w.frozen? ⟨fb, 0, none⟩ = false) (f1 : w.frozen? ⟨gb, 0, none⟩ = false) (f2 : w.frozen? ⟨gb, 1, none⟩ = false) :
    CallsD Tryz.prog 35 #[.pointer (some ⟨fb, 0, none⟩), .pointer (some ⟨gb, 0, none⟩)] (.panicking (Ip.stuck q)) w fun e u' w' => e = .returned (.tuple #[]) ∧ u' = .panicking [{ v := .iface 73 (.agg #[.int .i64 (q : Int)]), recovered := true }] ∧ Ip.Caught fb gb q w w' := by
  have hl0 : fb < w.heap.size := World.block_lt_of_cell? w ⟨fb, 0, none⟩ c0
  have hl1 : gb < w.heap.size := World.block_lt_of_cell? w ⟨gb, 0, none⟩ c1
  have hu0 : ∀ c₀ : Frame, c₀.mode = .panicking (Ip.stuck q) → c₀.mode = .panicking [{ v := .iface 73 (.agg #[.int .i64 (q : Int)]), recovered := false }] := fun _ h => h
  refine callsD_of_wpS Tryz.func35 rfl fun c₀ cs hu => ?_
  replace hu := hu0 c₀ hu
  clear hu0
  apply wpS_seq
  apply wpS_region
  simp [wpOpsS, go_sem, recoverD, hu, Tryz.ntmps35, Exit.thenS]
  refine wpS_of_wp ?_
  have ht : (#[Value.pointer (some ⟨fb, 0, none⟩), Value.pointer (some ⟨gb, 0, none⟩)] ++ ((Array.replicate 17 undef).setIfInBounds 3 (Value.iface 73 (.agg #[.int .i64 (q : Int)]))).setIfInBounds 0 (Value.iface 73 (.agg #[.int .i64 (q : Int)]))) = #[.pointer (some ⟨fb, 0, none⟩), .pointer (some ⟨gb, 0, none⟩), .iface 73 (.agg #[.int .i64 (q : Int)]), undef, undef, .iface 73 (.agg #[.int .i64 (q : Int)]), undef, undef, undef, undef, undef, undef, undef, undef, undef, undef, undef, undef, undef] := rfl
  rw [ht]
  clear ht
  have hta := ta_stuck (q : Int)
  have hbb := below_new w (.cells #[.int .i64 (q : Int)] 73)
  have d0 := (hbb.cell (p := ⟨fb, 0, none⟩) hl0).trans c0
  have d1 := (hbb.cell (p := ⟨gb, 0, none⟩) hl1).trans c1
  have d2 := (hbb.cell (p := ⟨gb, 1, none⟩) hl1).trans c2
  have e0 := (hbb.frozen (p := ⟨fb, 0, none⟩) hl0).trans f0
  have e1 := (hbb.frozen (p := ⟨gb, 0, none⟩) hl1).trans f1
  have e2 := (hbb.frozen (p := ⟨gb, 1, none⟩) hl1).trans f2
  have n1 : ¬ fb = gb := hne
  have n2 : ¬ gb = fb := fun e => hne e.symm
  have n3 : ¬ w.heap.size = fb := by omega
  have n4 : ¬ w.heap.size = gb := by omega
  clear hbb
  go_wp2
  go_region
  all_goals
    refine ⟨rfl, _, rfl, .tuple #[], by simp [results, Tryz.results35, go_sem], rfl, rfl, ?_⟩
    first
      | exact Ip.Caught.of1 hne c0 c1 c2
      | exact Ip.Caught.of2 hne c0 c1 c2
end Go.Proofs.YtfjoecbkagedbaaGreatDoor
