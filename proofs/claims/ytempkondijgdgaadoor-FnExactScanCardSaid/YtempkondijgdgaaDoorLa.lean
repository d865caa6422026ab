/- Walks: the law's own comparisons. -/
import Derived.Test.YtempkondijgdgaaDoorIe
import Derived.Deep.RegionWith
namespace Go.Proofs.YtempkondijgdgaaDoor
open Go.RowKit

set_option maxHeartbeats 400000 in
theorem eqToken_same (k n p : Int) (t : ByteArray) (w : World) :
    Calls Tryd.prog 13 #[.agg #[.int .i64 k, .string t, .int .i64 n, .int .i64 p], .agg #[.int .i64 k, .string t, .int .i64 n, .int .i64 p]] w fun e w' => e = .returned (.bool true) ∧ Below w.heap.size w w' := by
  go_enter Tryd.func13, Tryd.ntmps13
  go_wp2
  go_ret
  exact ⟨rfl, ((Below.refl _ _).alloc (Nat.le_refl _) _).alloc (by simp) _⟩

set_option maxHeartbeats 400000 in
theorem eqFault_same (k p : Int) (w : World) :
    Calls Tryd.prog 7 #[.agg #[.int .i64 k, .int .i64 p], .agg #[.int .i64 k, .int .i64 p]] w fun e w' => e = .returned (.bool true) ∧ Below w.heap.size w w' := by
  go_enter Tryd.func7, Tryd.ntmps7
  go_wp2
  go_ret
  exact ⟨rfl, ((Below.refl _ _).alloc (Nat.le_refl _) _).alloc (by simp) _⟩

theorem row_view {w : World} {B n : Nat} {v : Value} {xs : List Value} (h : w.ownsRow B 33 4 v n xs) : (v = .slice none 0 0 ∧ n = 0) ∨ ∃ g cap, v = .slice (some ⟨g, 0, none⟩) n cap := by
  rcases h.2 with h | ⟨g, cap, _, hv, _⟩
  · exact .inl h
  · exact .inr ⟨g, cap, hv⟩
theorem Sc.cells_at (ts : List Sc.T) (i : Nat) (h : i < ts.length) : (Sc.cellsOf ts)[i * 4]? = some (.int .i64 ts[i].kind) ∧ (Sc.cellsOf ts)[i * 4 + 1]? = some (.string ⟨ts[i].text.toArray⟩) ∧ (Sc.cellsOf ts)[i * 4 + 2]? = some (.int .i64 ts[i].n) ∧ (Sc.cellsOf ts)[i * 4 + 3]? = some (.int .i64 ts[i].place) := by
  induction ts generalizing i with
  | nil => simp at h
  | cons x r ih =>
    have e : Sc.cellsOf (x :: r) = x.cells ++ Sc.cellsOf r := by simp [Sc.cellsOf]
    rw [e]
    match i, h with
    | 0, _ => simp [Sc.T.cells]
    | i + 1, h =>
      have := ih i (by simpa using h)
      have hl : x.cells.length = 4 := rfl
      refine ⟨?_, ?_, ?_, ?_⟩
      all_goals rw [List.getElem?_append_right (by omega), hl]
      · rw [show (i + 1) * 4 - 4 = i * 4 from by omega]; exact this.1
      · rw [show (i + 1) * 4 + 1 - 4 = i * 4 + 1 from by omega]; exact this.2.1
      · rw [show (i + 1) * 4 + 2 - 4 = i * 4 + 2 from by omega]; exact this.2.2.1
      · rw [show (i + 1) * 4 + 3 - 4 = i * 4 + 3 from by omega]; exact this.2.2.2

set_option maxHeartbeats 400000 in
theorem eqTokenS_none (oa ob : Option Addr) (ca cb : Nat) (w : World) :
    Calls Tryd.prog 6 #[.slice oa 0 ca, .slice ob 0 cb] w fun e w' => e = .returned (.bool true) ∧ Below w.heap.size w w' := by
  go_enter Tryd.func6, Tryd.ntmps6
  go_wp2
  go_loop [5] (fun t => t = .int .i64 0) (fun _ => 0)
  case atStart => rfl
  case round =>
    subst hrel
    go_wp2
    go_ret
    exact ⟨rfl, Below.refl _ _⟩

set_option maxRecDepth 100000 in
set_option maxHeartbeats 1000000 in
theorem eqTokenS_same (ts : List Sc.T) (va vb : Value) (Ba Bb : Nat) (w : World) (hl : ts.length ≤ 8000) (ha : w.ownsRow Ba 33 4 va ts.length (Sc.cellsOf ts)) (hb : w.ownsRow Bb 33 4 vb ts.length (Sc.cellsOf ts)) :
    Calls Tryd.prog 6 #[va, vb] w fun e w' => e = .returned (.bool true) ∧ Below w.heap.size w w' := by
  rcases row_view ha with ⟨rfl, hn⟩ | ⟨ga, ca, rfl⟩
  · rcases row_view hb with ⟨rfl, _⟩ | ⟨gb, cb, rfl⟩
    · exact eqTokenS_none _ _ _ _ w
    · rw [hn]; exact eqTokenS_none _ _ _ _ w
  · rcases row_view hb with ⟨rfl, hn⟩ | ⟨gb, cb, rfl⟩
    · rw [hn]; exact eqTokenS_none _ _ _ _ w
    · have hla := (ha.lt ga rfl).2
      have hlb := (hb.lt gb rfl).2
      go_enter Tryd.func6, Tryd.ntmps6
      go_wp2
      go_loopw [5] (fun t wr => ∃ i : Nat, i ≤ ts.length ∧ t = .int .i64 i ∧ Below w.heap.size w wr) (fun t _ => ts.length - (intOf t).toNat)
      case atStart => exact ⟨0, Nat.zero_le _, rfl, Below.refl _ _⟩
      case round =>
        obtain ⟨i, hi, rfl, hB⟩ := hrel
        by_cases hlt : i < ts.length
        · obtain ⟨p0, p1, p2, p3⟩ := Sc.cells_at ts i hlt
          have a0 := (hB.cell (p := ⟨ga, i * 4, none⟩) hla).trans ((ha.cellAt (i * 4) (by omega)).trans p0)
          have a1 := (hB.cell (p := ⟨ga, i * 4 + 1, none⟩) hla).trans ((ha.cellAt (i * 4 + 1) (by omega)).trans p1)
          have a2 := (hB.cell (p := ⟨ga, i * 4 + 2, none⟩) hla).trans ((ha.cellAt (i * 4 + 2) (by omega)).trans p2)
          have a3 := (hB.cell (p := ⟨ga, i * 4 + 3, none⟩) hla).trans ((ha.cellAt (i * 4 + 3) (by omega)).trans p3)
          have b0 := (hB.cell (p := ⟨gb, i * 4, none⟩) hlb).trans ((hb.cellAt (i * 4) (by omega)).trans p0)
          have b1 := (hB.cell (p := ⟨gb, i * 4 + 1, none⟩) hlb).trans ((hb.cellAt (i * 4 + 1) (by omega)).trans p1)
          have b2 := (hB.cell (p := ⟨gb, i * 4 + 2, none⟩) hlb).trans ((hb.cellAt (i * 4 + 2) (by omega)).trans p2)
          have b3 := (hB.cell (p := ⟨gb, i * 4 + 3, none⟩) hlb).trans ((hb.cellAt (i * 4 + 3) (by omega)).trans p3)
          generalize ts[i] = x at *
          clear p0 p1 p2 p3
          go_wp2
          go_region_with (go_at_call 13; refine (eqToken_same _ _ _ _ _).mono ?_; rintro e w1 ⟨rfl, hb1⟩)
          all_goals go_wp2
          all_goals
            have hfin : Below w.heap.size w w1 := by first | exact hB.trans (hb1.mono hB.size) | exact hB.drew.trans (hb1.mono hB.size) | exact hB.drew.drew.trans (hb1.mono hB.size)
            go_roundw
            case rel => exact ⟨i + 1, by omega, by go_num, hfin⟩
            case measure => simp [intOf]; omega
        · go_wp2
          go_ret
          exact ⟨rfl, hB⟩
end Go.Proofs.YtempkondijgdgaaDoor
