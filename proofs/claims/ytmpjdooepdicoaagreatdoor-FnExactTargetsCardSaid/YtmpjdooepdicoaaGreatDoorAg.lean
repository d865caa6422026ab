/- Targets: the law's comparisons of plans. -/
import Derived.Test.YtmpjdooepdicoaaGreatDoorAf
namespace Go.Proofs.YtmpjdooepdicoaaGreatDoor.Vl
open Go.RowKit T.atoms T.ok T.high T.good T.allPlain

set_option maxRecDepth 100000 in
set_option maxHeartbeats 1000000 in
theorem eqT_some (l : List ByteArray) (ga oa gb ob ca cb : Nat) (w : World) (hl : l.length ≤ 1048576) (ha : StrsO w ga oa l) (hb : StrsO w gb ob l) :
    Calls Tryz.prog 73 #[.slice (some ⟨ga, oa, none⟩) l.length ca, .slice (some ⟨gb, ob, none⟩) l.length cb] w fun e w' => e = .returned (.bool true) ∧ Below w.heap.size w w' := by
  have HA := hide ha
  have HB := hide hb
  clear ha hb
  go_enter Tryz.func73, Tryz.ntmps73
  go_wp2
  go_loopw [5] (fun t wr => ∃ i : Nat, i ≤ l.length ∧ t = .int .i64 i ∧ Below w.heap.size w wr) (fun t _ => l.length - (intOf t).toNat)
  case atStart => exact ⟨0, Nat.zero_le _, rfl, Below.refl _ _⟩
  case round =>
    obtain ⟨i, hi, rfl, hB⟩ := hrel
    by_cases hlt : i < l.length
    · have a0 := (HA.out.below hB).2 i hlt
      have b0 := (HB.out.below hB).2 i hlt
      generalize l[i] = x at *
      go_wp2
      go_quiet (fail)
      go_wp2
      all_goals
        go_roundw
        case rel => exact ⟨i + 1, by omega, by go_num, by first | exact hB | exact hB.drew | exact below_drewN hB _⟩
        case measure => simp [intOf]; omega
    · go_wp2
      go_ret
      exact ⟨rfl, hB⟩
set_option maxRecDepth 100000 in
set_option maxHeartbeats 1000000 in
theorem eqT_zero (p q : Option Addr) (ca cb : Nat) (w : World) :
    Calls Tryz.prog 73 #[.slice p 0 ca, .slice q 0 cb] w fun e w' => e = .returned (.bool true) ∧ Below w.heap.size w w' := by
  go_enter Tryz.func73, Tryz.ntmps73
  go_wp2
  go_loopw [5] (fun t wr => t = .int .i64 0 ∧ wr = w) (fun _ _ => 0)
  case atStart => exact ⟨rfl, rfl⟩
  case round =>
    obtain ⟨rfl, rfl⟩ := hrel
    go_wp2
    go_ret
    exact ⟨rfl, Below.refl _ _⟩
theorem eqT_any (l : List ByteArray) (va vb : Value) (w : World) (hl : l.length ≤ 1048576) (ha : StrsV w va l) (hb : StrsV w vb l) :
    Calls Tryz.prog 73 #[va, vb] w fun e w' => e = .returned (.bool true) ∧ Below w.heap.size w w' := by
  rcases ha with ⟨p, c, rfl, rfl⟩ | ⟨g, o, c, rfl, h1⟩
  · rcases hb with ⟨q, d, rfl, _⟩ | ⟨g2, o2, d, rfl, h2⟩
    · exact eqT_zero p q c d w
    · exact eqT_zero p (some ⟨g2, o2, none⟩) c d w
  · rcases hb with ⟨q, d, rfl, rfl⟩ | ⟨g2, o2, d, rfl, h2⟩
    · exact eqT_zero (some ⟨g, o, none⟩) q c d w
    · exact eqT_some l g o g2 o2 c d w hl h1 h2

theorem boxT5 (w : World) (a b c d e : Value) (t : TypeId) : Below w.heap.size w (w.alloc (.cells #[a, b, c, d, e] t)) ∧ (w.alloc (.cells #[a, b, c, d, e] t)).cell? ⟨w.heap.size, 3, none⟩ = some d ∧ (w.alloc (.cells #[a, b, c, d, e] t)).cell? ⟨w.heap.size, 4, none⟩ = some e ∧ (w.alloc (.cells #[a, b, c, d, e] t)).heap.size = w.heap.size + 1 :=
  ⟨(Below.refl _ _).alloc (Nat.le_refl _) _, by simp, by simp, World.size_alloc _ _⟩
set_option maxRecDepth 100000 in
set_option maxHeartbeats 1000000 in
theorem eqTg_same (x : Tg) (a b a' b' : Value) (w : World) (hi : x.ins.length ≤ 1048576) (ho : x.outs.length ≤ 1048576) (h1 : StrsV w a x.ins) (h2 : StrsV w b x.outs) (h3 : StrsV w a' x.ins) (h4 : StrsV w b' x.outs) :
    Calls Tryz.prog 48 #[.agg #[.string x.name, .string x.tool, .string x.arg, a, b], .agg #[.string x.name, .string x.tool, .string x.arg, a', b']] w fun e w' => e = .returned (.bool true) ∧ Below w.heap.size w w' := by
  have HF := hide (fun w' (hq : Below w.heap.size w w') => eqT_any x.ins a a' w' hi (h1.below hq) (h3.below hq))
  have HN := hide (fun w' (hq : Below w.heap.size w w') => eqT_any x.outs b b' w' ho (h2.below hq) (h4.below hq))
  clear h1 h2 h3 h4
  generalize x.name = n at *
  generalize x.tool = t at *
  generalize x.arg = r at *
  have m1 := boxT5 w (.string n) (.string t) (.string r) a b 49
  have m2 := boxT5 (w.alloc (.cells #[.string n, .string t, .string r, a, b] 49)) (.string n) (.string t) (.string r) a' b' 49
  rw [World.size_alloc] at m2
  obtain ⟨p0, p4, p5, p6⟩ := m1
  obtain ⟨q0, q4, q5, q6⟩ := m2
  have k5 := (q0.cell (p := ⟨w.heap.size, 4, none⟩) (by show w.heap.size < _; omega)).trans p5
  have hq := p0.trans (q0.mono (by omega))
  clear p0 q0 p5 p6
  go_enter Tryz.func48, Tryz.ntmps48
  go_wp2_with fail
  refine (HF.out _ hq).mono ?_
  rintro e w1 ⟨rfl, hb1⟩
  have B1 := hq.trans (hb1.mono (by omega))
  have j5 := (hb1.cell (p := ⟨w.heap.size, 4, none⟩) (by show w.heap.size < _; omega)).trans k5
  have i5 := (hb1.cell (p := ⟨w.heap.size + 1, 4, none⟩) (by show w.heap.size + 1 < _; omega)).trans q5
  clear k5 q5
  go_wp2_with fail
  refine (HN.out _ B1).mono ?_
  rintro e w2 ⟨rfl, hb2⟩
  go_wp2
  go_ret
  exact ⟨rfl, B1.trans (hb2.mono B1.size)⟩

theorem TgsO.below {w w' : World} {g : Nat} {l : List Tg} (h : TgsO w g l) (hb : Below w.heap.size w w') : TgsO w' g l := by
  refine ⟨Nat.lt_of_lt_of_le h.1 hb.size, fun i hi => ?_⟩
  obtain ⟨vi, vo, h0, h1, h2, h3, h4, h5, h6⟩ := h.2 i hi
  have e : ∀ j, w'.cell? ⟨g, j, none⟩ = w.cell? ⟨g, j, none⟩ := fun j => hb.cell (p := ⟨g, j, none⟩) h.1
  exact ⟨vi, vo, (e _).trans h0, (e _).trans h1, (e _).trans h2, (e _).trans h3, (e _).trans h4, h5.below hb, h6.below hb⟩
theorem TgsV.below {w w' : World} {v : Value} {l : List Tg} (h : TgsV w v l) (hb : Below w.heap.size w w') : TgsV w' v l := by
  rcases h with h | ⟨g, c, h1, h2⟩
  · exact .inl h
  · exact .inr ⟨g, c, h1, h2.below hb⟩
set_option maxRecDepth 100000 in
set_option maxHeartbeats 1000000 in
theorem eqTgs_some (l : List Tg) (ga gb ca cb : Nat) (w : World) (hl : l.length ≤ 1048576) (hx : ∀ x ∈ l, x.ins.length ≤ 1048576 ∧ x.outs.length ≤ 1048576) (ha : TgsO w ga l) (hb : TgsO w gb l) :
    Calls Tryz.prog 25 #[.slice (some ⟨ga, 0, none⟩) l.length ca, .slice (some ⟨gb, 0, none⟩) l.length cb] w fun e w' => e = .returned (.bool true) ∧ Below w.heap.size w w' := by
  have HA := hide ha
  have HB := hide hb
  have HX := hide hx
  clear ha hb hx
  go_enter Tryz.func25, Tryz.ntmps25
  go_wp2
  go_loopw [5] (fun t wr => ∃ i : Nat, i ≤ l.length ∧ t = .int .i64 i ∧ Below w.heap.size w wr) (fun t _ => l.length - (intOf t).toNat)
  case atStart => exact ⟨0, Nat.zero_le _, rfl, Below.refl _ _⟩
  case round =>
    obtain ⟨i, hi, rfl, hB⟩ := hrel
    by_cases hlt : i < l.length
    · obtain ⟨a, b, a0, a1, a2, a3, a4, a5, a6⟩ := (HA.out.below hB).2 i hlt
      obtain ⟨a', b', b0, b1, b2, b3, b4, b5, b6⟩ := (HB.out.below hB).2 i hlt
      have hxi := HX.out _ (List.getElem_mem hlt)
      have HE := hide (fun w' (hq : Below wr.heap.size wr w') => eqTg_same l[i] a b a' b' w' hxi.1 hxi.2 (a5.below hq) (a6.below hq) (b5.below hq) (b6.below hq))
      clear a5 a6 b5 b6 hxi
      generalize l[i] = x at *
      go_wp2
      go_region_with (go_at_call 48; refine (HE.out _ (by first | exact Below.refl _ _ | exact (Below.refl _ _).drew | exact (Below.refl _ _).drew.drew)).mono ?_; rintro e w1 ⟨rfl, hb1⟩)
      all_goals go_wp2
      all_goals
        have hfin : Below w.heap.size w w1 := by first | exact hB.trans (hb1.mono hB.size) | exact hB.drew.trans (hb1.mono hB.size) | exact hB.drew.drew.trans (hb1.mono hB.size)
        go_roundw
        case rel => exact ⟨i + 1, by omega, by go_num, hfin⟩
        case measure => simp [intOf]; omega
    · go_wp2
      go_ret
      exact ⟨rfl, hB⟩
set_option maxRecDepth 100000 in
set_option maxHeartbeats 1000000 in
theorem eqTgs_zero (p q : Option Addr) (ca cb : Nat) (w : World) :
    Calls Tryz.prog 25 #[.slice p 0 ca, .slice q 0 cb] w fun e w' => e = .returned (.bool true) ∧ Below w.heap.size w w' := by
  go_enter Tryz.func25, Tryz.ntmps25
  go_wp2
  go_loopw [5] (fun t wr => t = .int .i64 0 ∧ wr = w) (fun _ _ => 0)
  case atStart => exact ⟨rfl, rfl⟩
  case round =>
    obtain ⟨rfl, rfl⟩ := hrel
    go_wp2
    go_ret
    exact ⟨rfl, Below.refl _ _⟩
theorem eqTgs_any (l : List Tg) (va vb : Value) (w : World) (hl : l.length ≤ 1048576) (hx : ∀ x ∈ l, x.ins.length ≤ 1048576 ∧ x.outs.length ≤ 1048576) (ha : TgsV w va l) (hb : TgsV w vb l) :
    Calls Tryz.prog 25 #[va, vb] w fun e w' => e = .returned (.bool true) ∧ Below w.heap.size w w' := by
  rcases ha with ⟨rfl, rfl⟩ | ⟨g, c, rfl, h1⟩
  · rcases hb with ⟨rfl, _⟩ | ⟨g2, d, rfl, h2⟩
    · exact eqTgs_zero none none 0 0 w
    · exact eqTgs_zero none (some ⟨g2, 0, none⟩) 0 d w
  · rcases hb with ⟨rfl, rfl⟩ | ⟨g2, d, rfl, h2⟩
    · exact eqTgs_zero (some ⟨g, 0, none⟩) none c 0 w
    · exact eqTgs_some l g g2 c d w hl hx h1 h2
theorem boxP3 (w : World) (a b c : Value) (t : TypeId) : Below w.heap.size w (w.alloc (.cells #[a, b, c] t)) ∧ (w.alloc (.cells #[a, b, c] t)).cell? ⟨w.heap.size, 2, none⟩ = some c ∧ (w.alloc (.cells #[a, b, c] t)).heap.size = w.heap.size + 1 :=
  ⟨(Below.refl _ _).alloc (Nat.le_refl _) _, by simp, World.size_alloc _ _⟩
set_option maxRecDepth 100000 in
set_option maxHeartbeats 1000000 in
theorem eqPlan_same (k a : Int) (l : List Tg) (va vb : Value) (w : World) (hl : l.length ≤ 1048576) (hx : ∀ x ∈ l, x.ins.length ≤ 1048576 ∧ x.outs.length ≤ 1048576) (ha : TgsV w va l) (hb : TgsV w vb l) :
    Calls Tryz.prog 8 #[.agg #[.int .i64 k, .int .i64 a, va], .agg #[.int .i64 k, .int .i64 a, vb]] w fun e w' => e = .returned (.bool true) ∧ Below w.heap.size w w' := by
  have HF := hide (fun w' (hq : Below w.heap.size w w') => eqTgs_any l va vb w' hl hx (ha.below hq) (hb.below hq))
  clear ha hb hx hl
  have m1 := boxP3 w (.int .i64 k) (.int .i64 a) va 26
  have m2 := boxP3 (w.alloc (.cells #[.int .i64 k, .int .i64 a, va] 26)) (.int .i64 k) (.int .i64 a) vb 26
  rw [World.size_alloc] at m2
  obtain ⟨p0, p5, p6⟩ := m1
  obtain ⟨q0, q5, q6⟩ := m2
  have hq := p0.trans (q0.mono (by omega))
  clear p0 q0 p5 p6
  go_enter Tryz.func8, Tryz.ntmps8
  go_wp2_with fail
  refine (HF.out _ hq).mono ?_
  rintro e w1 ⟨rfl, hb1⟩
  go_wp2
  go_ret
  exact ⟨rfl, hq.trans (hb1.mono hq.size)⟩

set_option maxRecDepth 100000 in
set_option maxHeartbeats 1000000 in
theorem markPlan_any (k a : Int) (lc : List Lc) (v : Value) (B : Nat) (w : World) (hk : kP lc ≤ 4999999) (hl : lc.length ≤ 1048576) (hn : ∀ p ∈ lc, p.t.ins.length ≤ 1048576 ∧ p.t.outs.length ≤ 1048576) (hG : GI B v lc w) (hBs : B ≤ w.heap.size) (H : Nat) (hvH : ∀ b, v.ownBlock = some b → b < H) (hH : ∀ p ∈ lc, ∀ b, (p.vi.ownBlock = some b → b < H) ∧ (p.vo.ownBlock = some b → b < H)) :
    Calls Tryz.prog 11 #[.agg #[.int .i64 k, .int .i64 a, v], .int .i64 1] w fun e w' => e = .returned (.int .i64 ((1 + kP lc : Nat) : Int)) ∧ GI B v (mkP 1 lc) w' ∧ Below B w w' ∧ ∀ q, H ≤ q → q < w.heap.size → w'.heap[q]? = w.heap[q]? := by
  have hq : Below w.heap.size w (w.alloc (.cells #[.int .i64 k, .int .i64 a, v] 26)) := (Below.refl _ _).alloc (Nat.le_refl _) _
  have HM := hide (markP_any lc v B _ hk hl hn (hG.below hq) (Nat.le_trans hBs hq.size) H hvH hH)
  clear hG
  go_enter Tryz.func11, Tryz.ntmps11
  go_wp2_with fail
  refine HM.out.mono ?_
  rintro e w1 ⟨rfl, h2, h3, h4⟩
  go_wp2
  go_ret
  exact ⟨rfl, h2, (hq.mono hBs).trans h3, fun q h5 h6 => (h4 q h5 (by rw [World.size_alloc]; omega)).trans (hq.block q h6)⟩
set_option maxRecDepth 100000 in
set_option maxHeartbeats 1000000 in
theorem heldPlan_any (k a : Int) (lc : List Lc) (v : Value) (B : Nat) (w : World) (hk : kP lc ≤ 4999999) (hl : lc.length ≤ 1048576) (hn : ∀ p ∈ lc, p.t.ins.length ≤ 1048576 ∧ p.t.outs.length ≤ 1048576) (hG : GI B v (mkP 1 lc) w) :
    Calls Tryz.prog 12 #[.agg #[.int .i64 k, .int .i64 a, v], .int .i64 1] w fun e w' => e = .returned (.int .i64 ((1 + kP lc : Nat) : Int)) ∧ Below w.heap.size w w' := by
  have hq : Below w.heap.size w (w.alloc (.cells #[.int .i64 k, .int .i64 a, v] 26)) := (Below.refl _ _).alloc (Nat.le_refl _) _
  have HM := hide (heldP_any lc v B _ hk hl hn (hG.below hq))
  clear hG
  have hkp : ¬ (((1 + kP lc : Nat) : Int) < 0) := by omega
  generalize ((1 + kP lc : Nat) : Int) = r at *
  go_enter Tryz.func12, Tryz.ntmps12
  go_wp2_with fail
  refine HM.out.mono ?_
  rintro e w1 ⟨rfl, h3⟩
  go_wp2
  go_ret
  exact ⟨rfl, hq.trans (h3.mono hq.size)⟩
theorem GI.tgs {B : Nat} {v : Value} {lc : List Lc} {W : World} (h : GI B v lc W) : TgsV W v (lc.map Lc.t) :=
  tgs_of h.L (fun p hp => by
    have h1 := h.S.own (p.vi, p.t.ins) (List.mem_flatMap.2 ⟨p, hp, List.mem_cons_self ..⟩)
    have h2 := h.S.own (p.vo, p.t.outs) (List.mem_flatMap.2 ⟨p, hp, List.mem_cons_of_mem _ (List.mem_cons_self ..)⟩)
    obtain ⟨q1, c1, e1⟩ := row_form h1
    obtain ⟨q2, c2, e2⟩ := row_form h2
    simp only at e1 e2
    constructor
    · rw [e1] at h1 ⊢; exact strsV_of_row h1
    · rw [e2] at h2 ⊢; exact strsV_of_row h2)
/-- Blocks behind B are as they were. -/
theorem GI.same {B : Nat} {v : Value} {lc : List Lc} {W W' : World} (h : GI B v lc W) (hb : ∀ b, B ≤ b → b < W.heap.size → W'.heap[b]? = W.heap[b]?) : GI B v lc W' := by
  have k : ∀ {e : TypeId} {size n : Nat} {u : Value} {xs : List Value}, W.ownsRow B e size u n xs → W'.ownsRow B e size u n xs := by
    intro e size n u xs hr
    refine ⟨hr.1, ?_⟩
    rcases hr.2 with h1 | ⟨g, cap, cur, h1, h2, h3, h4⟩
    · exact .inl h1
    · have hlt := (own_lt hr (b := g) (by rw [h1]; rfl)).2
      exact .inr ⟨g, cap, cur, h1, h2, (hb g h2 hlt).trans h3, h4⟩
  exact ⟨⟨fun r hr => k (h.S.own r hr), h.S.sep⟩, k h.L⟩
end Go.Proofs.YtmpjdooepdicoaaGreatDoor.Vl
