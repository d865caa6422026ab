/- Walks: targets: the law's own functions: copies and comparisons of rows. -/
import Derived.Test.YtlganondmnhecaaTd
namespace Go.Proofs.Ytlganondmnhecaa.Pl
open Go.RowKit

/-- The rows of a copy lie behind block B. -/
def CopyP (W : World) (B : Nat) (p : Tg × Nat × Nat) : Prop := B < p.2.1 ∧ B < p.2.2 ∧ StrsO W p.2.1 0 p.1.ins ∧ StrsO W p.2.2 0 p.1.outs
theorem CopyP.below {W W' : World} {B : Nat} {p : Tg × Nat × Nat} (h : CopyP W B p) (hb : Below W.heap.size W W') : CopyP W' B p := ⟨h.1, h.2.1, h.2.2.1.below hb, h.2.2.2.below hb⟩
theorem CopyP.set {W : World} {B : Nat} {p : Tg × Nat × Nat} (h : CopyP W B p) (j : Nat) (v : Value) : CopyP (W.setCell ⟨B, j, none⟩ v) B p := ⟨h.1, h.2.1, h.2.2.1.set _ (by have := h.1; show _ ≠ B; omega) v, h.2.2.2.set _ (by have := h.2.1; show _ ≠ B; omega) v⟩
theorem tgs_of_row {w : World} {base B : Nat} {e : TypeId} {g cap : Nat} {l : List Tg} {lc : List (Tg × Nat × Nat)} (h : w.ownsRow base e 5 (.slice (some ⟨g, 0, none⟩) l.length cap) l.length (cellsC lc)) (hl : lc.map (·.1) = l) (hc : ∀ p ∈ lc, CopyP w B p) : TgsC w g l := by
  subst hl
  refine ⟨(h.lt g rfl).2, fun i hi => ?_⟩
  rw [List.length_map] at hi
  obtain ⟨p0, p1, p2, p3, p4⟩ := cellsC_at lc i hi
  have hp := hc _ (List.getElem_mem hi)
  have e : (lc.map (·.1))[i]'(by rw [List.length_map]; exact hi) = (lc[i]).1 := by simp
  rw [e]
  have hw : i * 5 + 4 < (lc.map (·.1)).length * 5 := by rw [List.length_map]; omega
  exact ⟨(lc[i]).2.1, (lc[i]).2.2, (h.cellAt (i * 5) (by omega)).trans p0, (h.cellAt (i * 5 + 1) (by omega)).trans p1, (h.cellAt (i * 5 + 2) (by omega)).trans p2, (h.cellAt (i * 5 + 3) (by omega)).trans p3, (h.cellAt (i * 5 + 4) (by omega)).trans p4, hp.2.2.1, hp.2.2.2⟩

set_option maxRecDepth 100000 in
set_option maxHeartbeats 1000000 in
theorem toP_some (l : List Tg) (g o c : Nat) (w : World) (hl : l.length ≤ 1048576) (hx : ∀ x ∈ l, x.ins.length ≤ 1048576 ∧ x.outs.length ≤ 1048576) (ht : TgsO w g o l) :
    Calls Try.prog 6 #[.slice (some ⟨g, o, none⟩) l.length c] w fun e w' => e = .returned (.slice (some ⟨w.heap.size, 0, none⟩) l.length l.length) ∧ TgsC w' w.heap.size l ∧ Below w.heap.size w w' := by
  obtain ⟨iN, hN, hNz, hNs, hNb⟩ := info_parts Try.infoTg
  have HT := hide ht
  have HX := hide hx
  clear ht hx
  go_enter Try.func6, Try.ntmps6
  go_wp2_with (at_make; refine wpList_make_full _ rfl _ _ 25 rfl w.heap.size 34 iN _ 5 Try.underlying25 hN hNz hNs _ _ _ _ l.length rfl rfl rfl rfl (by rw [hNb]; omega) (by unfold maxLen; omega) (Nat.le_refl _) ?_)
  intro w1 hown hgrow
  have hb1 : Below w.heap.size w w1 := (Below.refl _ _).grown hgrow (Nat.le_refl _) (fun q e => by cases e)
  have hz1 : w.heap.size < w1.heap.size := (hown.lt _ rfl).2
  replace hown : ∃ xs, w1.ownsRow w.heap.size 34 5 (.slice (some ⟨w.heap.size, 0, none⟩) l.length l.length) l.length xs := ⟨_, hown⟩
  obtain ⟨xs, hown⟩ := hown
  have hxl : xs.length = l.length * 5 := hown.1
  have HO := hide hown
  clear hown hgrow
  go_wp2
  go_loopw [4] (fun t wr => ∃ (i : Nat) (lc : List (Tg × Nat × Nat)), i ≤ l.length ∧ lc.length = i ∧ lc.map (·.1) = l.take i ∧ t = .int .i64 i ∧ wr.ownsRow w.heap.size 34 5 (.slice (some ⟨w.heap.size, 0, none⟩) l.length l.length) l.length (cellsC lc ++ xs.drop (i * 5)) ∧ (∀ p ∈ lc, CopyP wr w.heap.size p) ∧ Below w.heap.size w wr ∧ w.heap.size < wr.heap.size) (fun t _ => l.length - (intOf t).toNat)
  case atStart => exact ⟨0, [], Nat.zero_le _, rfl, rfl, rfl, by simpa [cellsC] using HO.out, (fun p hp => absurd hp (by simp)), hb1, hz1⟩
  case round =>
    obtain ⟨i, lc, hi, hlc, hmp, rfl, ho, hcp, hB, hsz⟩ := hrel
    have HMP := hide hmp
    have HCP := hide hcp
    clear hmp hcp
    by_cases hlt : i < l.length
    · obtain ⟨vi, vo, c0, c1, c2, c3, c4, si, so⟩ := (HT.out.below hB).2 i hlt
      have hml : (cellsC lc).length = i * 5 := by rw [cellsC_len, hlc]
      obtain ⟨a0, a1, a2, a3, a4, hd5⟩ := drop5 xs i (by omega)
      rw [hd5] at ho
      have HO2 := hide ho
      have hxi := HX.out _ (List.getElem_mem hlt)
      have HTN := hide (toTarget_any l[i] vi vo wr hxi.1 hxi.2 si so)
      have HTK : Hid (l.take (i + 1) = l.take i ++ [l[i]]) := hide (List.take_succ_eq_append_getElem hlt)
      clear hd5 ho si so hxi
      generalize l[i] = d at *
      go_wp2_with fail
      refine HTN.out.mono ?_
      rintro e w2 ⟨gi, go, rfl, hgi, hgo, si, so, hb2⟩
      have ho2 : w2.ownsRow w.heap.size 34 5 (.slice (some ⟨w.heap.size, 0, none⟩) l.length l.length) l.length (cellsC lc ++ a0 :: a1 :: a2 :: a3 :: a4 :: xs.drop ((i + 1) * 5)) := by
        have hg : wr.grownBy w2 none := ⟨hb2.os, hb2.tape, hb2.output, hb2.size, fun k hk _ => hb2.block k hk⟩
        exact HO2.out.kept hg (.inr (by simp [Value.ownBlock]))
      have hB2 := hB.trans (hb2.mono hB.size)
      have hsz2 : w.heap.size < w2.heap.size := Nat.lt_of_lt_of_le hsz hb2.size
      have q : ∀ j v, (a0 :: a1 :: a2 :: a3 :: a4 :: xs.drop ((i + 1) * 5))[j]? = some v → j < 5 → w2.cell? ⟨w.heap.size, i * 5 + j, none⟩ = some v := by
        intro j v hv hj
        rw [ho2.cellAt (i * 5 + j) (by omega), List.getElem?_append_right (by omega), hml, show i * 5 + j - i * 5 = j from by omega]; exact hv
      have q0 := q 0 a0 rfl (by omega)
      have q1 := q 1 a1 rfl (by omega)
      have q2 := q 2 a2 rfl (by omega)
      have q3 := q 3 a3 rfl (by omega)
      have q4 := q 4 a4 rfl (by omega)
      rw [Nat.add_zero] at q0
      have z0 := ho2.frozenAt (i * 5)
      have z1 := ho2.frozenAt (i * 5 + 1)
      have z2 := ho2.frozenAt (i * 5 + 2)
      have z3 := ho2.frozenAt (i * 5 + 3)
      have z4 := ho2.frozenAt (i * 5 + 4)
      have HO3 := hide ho2
      have HCN : Hid (∀ p ∈ lc ++ [(d, gi, go)], CopyP w2 w.heap.size p) := hide (by
        intro p hp
        rcases List.mem_append.1 hp with hp | hp
        · exact (HCP.out p hp).below hb2
        · obtain rfl := List.mem_singleton.1 hp
          exact ⟨by show w.heap.size < gi; omega, by show w.heap.size < go; omega, si, so⟩)
      clear ho2 q c0 c1 c2 c3 c4 si so
      go_wp2
      go_roundw
      case rel =>
        have t0 := (HO3.out.stored (i * 5) (.string d.name)).1
        rw [set5_0 _ _ _ _ _ _ _ _ _ hml] at t0
        have t1 := (t0.stored (i * 5 + 1) (.string d.tool)).1
        rw [set5_1 _ _ _ _ _ _ _ _ _ hml] at t1
        have t2 := (t1.stored (i * 5 + 2) (.string d.arg)).1
        rw [set5_2 _ _ _ _ _ _ _ _ _ hml] at t2
        have t3 := (t2.stored (i * 5 + 3) (.slice (some ⟨gi, 0, none⟩) d.ins.length d.ins.length)).1
        rw [set5_3 _ _ _ _ _ _ _ _ _ hml] at t3
        have t4 := (t3.stored (i * 5 + 4) (.slice (some ⟨go, 0, none⟩) d.outs.length d.outs.length)).1
        rw [set5_4 _ _ _ _ _ _ _ _ _ hml] at t4
        refine ⟨i + 1, lc ++ [(d, gi, go)], by omega, by simp [hlc], by rw [List.map_append, HMP.out, HTK.out]; rfl, by go_num, ?_, fun p hp => ((((HCN.out p hp).set _ _).set _ _).set _ _ |>.set _ _).set _ _, ?_, by simp only [size_set]; exact hsz2⟩
        · rw [cellsC_snoc, List.append_assoc]
          exact t4
        · iterate 5 (refine Below.setCell ?_ (by show w.heap.size ≤ w.heap.size; exact Nat.le_refl _) _)
          exact hB2
      case measure => simp [intOf]; omega
    · go_wp2
      go_ret
      obtain rfl : i = l.length := by omega
      rw [List.drop_of_length_le (by omega), List.append_nil] at ho
      have hm := HMP.out
      rw [List.take_length] at hm
      exact ⟨rfl, tgs_of_row ho hm HCP.out, hB⟩

set_option maxRecDepth 100000 in
set_option maxHeartbeats 1000000 in
theorem toP_nil (p : Option Addr) (c : Nat) (w : World) :
    Calls Try.prog 6 #[.slice p 0 c] w fun e w' => e = .returned (.slice (some ⟨w.heap.size, 0, none⟩) 0 0) ∧ TgsC w' w.heap.size [] ∧ Below w.heap.size w w' := by
  obtain ⟨iN, hN, hNz, hNs, hNb⟩ := info_parts Try.infoTg
  go_enter Try.func6, Try.ntmps6
  go_wp2_with (at_make; refine wpList_make_full _ rfl _ _ 25 rfl w.heap.size 34 iN _ 5 Try.underlying25 hN hNz hNs _ _ _ _ 0 rfl rfl rfl rfl (by omega) (by unfold maxLen; omega) (Nat.le_refl _) ?_)
  intro w1 hown hgrow
  have hb1 : Below w.heap.size w w1 := (Below.refl _ _).grown hgrow (Nat.le_refl _) (fun q e => by cases e)
  have hz1 : w.heap.size < w1.heap.size := (hown.lt _ rfl).2
  clear hown hgrow
  go_wp2
  go_loopw [4] (fun t wr => t = .int .i64 0 ∧ wr = w1) (fun _ _ => 0)
  case atStart => exact ⟨rfl, rfl⟩
  case round =>
    obtain ⟨rfl, rfl⟩ := hrel
    go_wp2
    go_ret
    exact ⟨rfl, ⟨hz1, fun i h => absurd h (Nat.not_lt_zero _)⟩, hb1⟩
theorem toP_any (l : List Tg) (v : Value) (w : World) (hl : l.length ≤ 1048576) (hx : ∀ x ∈ l, x.ins.length ≤ 1048576 ∧ x.outs.length ≤ 1048576) (ht : TgsV w v l) :
    Calls Try.prog 6 #[v] w fun e w' => e = .returned (.slice (some ⟨w.heap.size, 0, none⟩) l.length l.length) ∧ TgsC w' w.heap.size l ∧ Below w.heap.size w w' := by
  rcases ht with ⟨p, c, rfl, rfl⟩ | ⟨g, o, c, rfl, h⟩
  · exact toP_nil p c w
  · exact toP_some l g o c w hl hx h

set_option maxRecDepth 100000 in
set_option maxHeartbeats 1000000 in
theorem eqTarget_same (x : Tg) (a b a' b' : Nat) (w : World) (hi : x.ins.length ≤ 1048576) (ho : x.outs.length ≤ 1048576) (h1 : StrsO w a 0 x.ins) (h2 : StrsO w b 0 x.outs) (h3 : StrsO w a' 0 x.ins) (h4 : StrsO w b' 0 x.outs) :
    Calls Try.prog 15 #[.agg #[.string x.name, .string x.tool, .string x.arg, .slice (some ⟨a, 0, none⟩) x.ins.length x.ins.length, .slice (some ⟨b, 0, none⟩) x.outs.length x.outs.length], .agg #[.string x.name, .string x.tool, .string x.arg, .slice (some ⟨a', 0, none⟩) x.ins.length x.ins.length, .slice (some ⟨b', 0, none⟩) x.outs.length x.outs.length]] w fun e w' => e = .returned (.bool true) ∧ Below w.heap.size w w' := by
  have HF := hide (fun w' (hq : Below w.heap.size w w') => eqT_same x.ins a a' x.ins.length x.ins.length w' hi (h1.below hq) (h3.below hq))
  have HN := hide (fun w' (hq : Below w.heap.size w w') => eqT_same x.outs b b' x.outs.length x.outs.length w' ho (h2.below hq) (h4.below hq))
  clear h1 h2 h3 h4
  generalize x.name = n at *
  generalize x.tool = t at *
  generalize x.arg = r at *
  generalize x.ins.length = li at *
  generalize x.outs.length = lo at *
  have m1 := box5 w (.string n) (.string t) (.string r) (.slice (some ⟨a, 0, none⟩) li li) (.slice (some ⟨b, 0, none⟩) lo lo) 34
  have m2 := box5 (w.alloc (.cells #[.string n, .string t, .string r, .slice (some ⟨a, 0, none⟩) li li, .slice (some ⟨b, 0, none⟩) lo lo] 34)) (.string n) (.string t) (.string r) (.slice (some ⟨a', 0, none⟩) li li) (.slice (some ⟨b', 0, none⟩) lo lo) 34
  rw [World.size_alloc] at m2
  obtain ⟨p0, -, -, -, -, p5, p6⟩ := m1
  obtain ⟨q0, -, -, -, -, q5, q6⟩ := m2
  have k5 := (q0.cell (p := ⟨w.heap.size, 4, none⟩) (by show w.heap.size < _; omega)).trans p5
  have hq := p0.trans (q0.mono (by omega))
  clear p0 q0 p5 p6
  go_enter Try.func15, Try.ntmps15
  go_wp2_with fail
  refine (HF.out _ hq).mono ?_
  rintro e w1 ⟨rfl, hb1⟩
  have B1 := hq.trans (hb1.mono (by omega))
  have j5 := (hb1.cell (p := ⟨w.heap.size, 4, none⟩) (by show w.heap.size < _; omega)).trans k5
  have i5 := (hb1.cell (p := ⟨w.heap.size + 1, 4, none⟩) (by show w.heap.size + 1 < _; omega)).trans q5
  clear k5 q5
  go_wp2_with fail
  refine (HN.out _ B1).mono ?_
  rintro e w2 ⟨rfl, hb2⟩
  go_wp2
  go_ret
  exact ⟨rfl, B1.trans (hb2.mono B1.size)⟩

set_option maxRecDepth 100000 in
set_option maxHeartbeats 1000000 in
theorem eqP_same (l : List Tg) (ga gb : Nat) (w : World) (hl : l.length ≤ 1048576) (hx : ∀ x ∈ l, x.ins.length ≤ 1048576 ∧ x.outs.length ≤ 1048576) (ha : TgsC w ga l) (hb : TgsC w gb l) :
    Calls Try.prog 8 #[.slice (some ⟨ga, 0, none⟩) l.length l.length, .slice (some ⟨gb, 0, none⟩) l.length l.length] w fun e w' => e = .returned (.bool true) ∧ Below w.heap.size w w' := by
  have HA := hide ha
  have HB := hide hb
  have HX := hide hx
  clear ha hb hx
  go_enter Try.func8, Try.ntmps8
  go_wp2
  go_loopw [5] (fun t wr => ∃ i : Nat, i ≤ l.length ∧ t = .int .i64 i ∧ Below w.heap.size w wr) (fun t _ => l.length - (intOf t).toNat)
  case atStart => exact ⟨0, Nat.zero_le _, rfl, Below.refl _ _⟩
  case round =>
    obtain ⟨i, hi, rfl, hB⟩ := hrel
    by_cases hlt : i < l.length
    · obtain ⟨a, b, a0, a1, a2, a3, a4, a5, a6⟩ := (HA.out.below hB).2 i hlt
      obtain ⟨a', b', b0, b1, b2, b3, b4, b5, b6⟩ := (HB.out.below hB).2 i hlt
      have hxi := HX.out _ (List.getElem_mem hlt)
      have HE := hide (fun w' (hq : Below wr.heap.size wr w') => eqTarget_same l[i] a b a' b' w' hxi.1 hxi.2 (a5.below hq) (a6.below hq) (b5.below hq) (b6.below hq))
      clear a5 a6 b5 b6 hxi
      generalize l[i] = x at *
      go_wp2
      go_region_with (go_at_call 15; refine (HE.out _ (by first | exact Below.refl _ _ | exact (Below.refl _ _).drew | exact (Below.refl _ _).drew.drew)).mono ?_; rintro e w1 ⟨rfl, hb1⟩)
      all_goals go_wp2
      all_goals
        have hfin : Below w.heap.size w w1 := by first | exact hB.trans (hb1.mono hB.size) | exact hB.drew.trans (hb1.mono hB.size) | exact hB.drew.drew.trans (hb1.mono hB.size)
        go_roundw
        case rel => exact ⟨i + 1, by omega, by go_num, hfin⟩
        case measure => simp [intOf]; omega
    · go_wp2
      go_ret
      exact ⟨rfl, hB⟩
end Go.Proofs.Ytlganondmnhecaa.Pl
