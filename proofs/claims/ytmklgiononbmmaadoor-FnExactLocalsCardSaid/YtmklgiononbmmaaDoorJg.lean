/- Walks: how many kids, and which, on the program's side. -/
import Derived.Test.YtmklgiononbmmaaDoorJb
namespace Go.Proofs.YtmklgiononbmmaaDoor
open Go.RowKit

set_option maxRecDepth 100000 in
set_option maxHeartbeats 4000000 in
theorem count_any (k op n m : Int) (s : ByteArray) (w : World) :
    Calls Tryd.prog 55 #[.agg #[.int .i64 k, .int .i64 op, .int .i64 n, .string s, .int .i64 m]] w fun e w' => e = .returned (.bool (Tr.count k m)) ∧ Below w.heap.size w w' := by
  by_cases hk : 1 ≤ k ∧ k ≤ 24
  · obtain ⟨j, hj1, hj2, rfl⟩ : ∃ j : Nat, 1 ≤ j ∧ j ≤ 24 ∧ k = j := ⟨k.toNat, by omega, by omega, by omega⟩
    clear hk
    have hj : j = 1 ∨ j = 2 ∨ j = 3 ∨ j = 4 ∨ j = 5 ∨ j = 6 ∨ j = 7 ∨ j = 8 ∨ j = 9 ∨ j = 10 ∨ j = 11 ∨ j = 12 ∨ j = 13 ∨ j = 14 ∨ j = 15 ∨ j = 16 ∨ j = 17 ∨ j = 18 ∨ j = 19 ∨ j = 20 ∨ j = 21 ∨ j = 22 ∨ j = 23 ∨ j = 24 := by omega
    clear hj1 hj2
    rcases hj with rfl | rfl | rfl | rfl | rfl | rfl | rfl | rfl | rfl | rfl | rfl | rfl | rfl | rfl | rfl | rfl | rfl | rfl | rfl | rfl | rfl | rfl | rfl | rfl
    all_goals
      go_enter Tryd.func55, Tryd.ntmps55
      go_wp2
      all_goals
        go_ret
        refine ⟨ret_bool ?_, (Below.refl _ _).alloc (Nat.le_refl _) _⟩
        simp only [Tr.count]
        first
        | (simp [*]; done)
        | (rw [Bool.eq_iff_iff]; simp; omega)
        | (simp; omega)
  · have HC := hide (show Tr.count k m = false by
      unfold Tr.count
      repeat rw [if_neg (by omega)]
      rw [decide_eq_false_iff_not]; omega)
    have q1 : (k == 1) = false := by simp; omega
    have q2 : (k == 2) = false := by simp; omega
    have q3 : (k == 3) = false := by simp; omega
    have q4 : (k == 4) = false := by simp; omega
    have q5 : (k == 5) = false := by simp; omega
    have q6 : (k == 6) = false := by simp; omega
    have q7 : (k == 7) = false := by simp; omega
    have q8 : (k == 8) = false := by simp; omega
    have q9 : (k == 9) = false := by simp; omega
    have q10 : (k == 10) = false := by simp; omega
    have q11 : (k == 11) = false := by simp; omega
    have q12 : (k == 12) = false := by simp; omega
    have q13 : (k == 13) = false := by simp; omega
    have q14 : (k == 14) = false := by simp; omega
    have q15 : (k == 15) = false := by simp; omega
    have q16 : (k == 16) = false := by simp; omega
    have q17 : (k == 17) = false := by simp; omega
    have q18 : (k == 18) = false := by simp; omega
    have q19 : (k == 19) = false := by simp; omega
    have q20 : (k == 20) = false := by simp; omega
    have q21 : (k == 21) = false := by simp; omega
    have q22 : (k == 22) = false := by simp; omega
    have q23 : (k == 23) = false := by simp; omega
    have q24 : (k == 24) = false := by simp; omega
    clear hk
    by_cases hm : 0 ≤ m
    all_goals
      go_enter Tryd.func55, Tryd.ntmps55
      go_wp2
      all_goals
        go_ret
        refine ⟨ret_bool ?_, (Below.refl _ _).alloc (Nat.le_refl _) _⟩
        rw [HC.out] <;> first | rfl | (simp; done) | (simp; omega)
end Go.Proofs.YtmklgiononbmmaaDoor
