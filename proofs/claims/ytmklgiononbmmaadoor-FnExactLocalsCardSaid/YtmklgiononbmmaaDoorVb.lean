/- Walks: what a node may use, on the specification's side. -/
import Derived.Test.YtmklgiononbmmaaDoorVn
namespace Go.Proofs.YtmklgiononbmmaaDoor
open Go.RowKit

set_option maxRecDepth 100000 in
set_option maxHeartbeats 1000000 in
theorem plain_2 (op n m : Int) (s : ByteArray) (w : World) : Calls Tryd.prog 47 #[.agg #[.int .i64 2, .int .i64 op, .int .i64 n, .string s, .int .i64 m]] w fun e w' => e = .returned (.bool (Tr.plain ⟨2, op, n, s, m⟩)) ∧ Below w.heap.size w w' := by
  have q : Tr.inr 2 16 21 = false := by decide
  go_enter Tryd.func47, Tryd.ntmps47
  go_wp2_with (first | (go_at_call 34; refine (in_any _ _ _ _).mono ?_; rintro e w' ⟨rfl, rfl⟩) | (go_at_call 73; refine (pkg_any _ _).mono ?_; rintro e w' ⟨rfl, rfl⟩) | (go_at_call 35; refine (nameOk_any _ _).mono ?_; rintro e w1 ⟨rfl, hb1⟩))
  all_goals
    go_ret
    refine ⟨ret_bool ?_, ?_⟩
    · first
      | (simp [Tr.plain, Tr.textK, *]; done)
      | (simp [Tr.plain, Tr.textK, *]; omega)
      | (exfalso; simp_all)
    · first
      | exact (Below.refl _ _).alloc (Nat.le_refl _) _
      | exact ((Below.refl _ _).alloc (Nat.le_refl _) _).trans (hb1.mono (by simp))

set_option maxRecDepth 100000 in
set_option maxHeartbeats 1000000 in
theorem plain_3 (op n m : Int) (s : ByteArray) (w : World) : Calls Tryd.prog 47 #[.agg #[.int .i64 3, .int .i64 op, .int .i64 n, .string s, .int .i64 m]] w fun e w' => e = .returned (.bool (Tr.plain ⟨3, op, n, s, m⟩)) ∧ Below w.heap.size w w' := by
  have q : Tr.inr 3 16 21 = false := by decide
  go_enter Tryd.func47, Tryd.ntmps47
  go_wp2_with (first | (go_at_call 34; refine (in_any _ _ _ _).mono ?_; rintro e w' ⟨rfl, rfl⟩) | (go_at_call 73; refine (pkg_any _ _).mono ?_; rintro e w' ⟨rfl, rfl⟩) | (go_at_call 35; refine (nameOk_any _ _).mono ?_; rintro e w1 ⟨rfl, hb1⟩))
  all_goals
    go_ret
    refine ⟨ret_bool ?_, ?_⟩
    · first
      | (simp [Tr.plain, Tr.textK, *]; done)
      | (simp [Tr.plain, Tr.textK, *]; omega)
      | (exfalso; simp_all)
    · first
      | exact (Below.refl _ _).alloc (Nat.le_refl _) _
      | exact ((Below.refl _ _).alloc (Nat.le_refl _) _).trans (hb1.mono (by simp))

set_option maxRecDepth 100000 in
set_option maxHeartbeats 1000000 in
theorem plain_4 (op n m : Int) (s : ByteArray) (w : World) : Calls Tryd.prog 47 #[.agg #[.int .i64 4, .int .i64 op, .int .i64 n, .string s, .int .i64 m]] w fun e w' => e = .returned (.bool (Tr.plain ⟨4, op, n, s, m⟩)) ∧ Below w.heap.size w w' := by
  go_enter Tryd.func47, Tryd.ntmps47
  go_wp2_with (first | (go_at_call 34; refine (in_any _ _ _ _).mono ?_; rintro e w' ⟨rfl, rfl⟩) | (go_at_call 73; refine (pkg_any _ _).mono ?_; rintro e w' ⟨rfl, rfl⟩) | (go_at_call 35; refine (nameOk_any _ _).mono ?_; rintro e w1 ⟨rfl, hb1⟩))
  all_goals
    go_ret
    refine ⟨ret_bool ?_, ?_⟩
    · first
      | (simp [Tr.plain, Tr.textK, *]; done)
      | (simp [Tr.plain, Tr.textK, *]; omega)
      | (exfalso; simp_all)
    · first
      | exact (Below.refl _ _).alloc (Nat.le_refl _) _
      | exact ((Below.refl _ _).alloc (Nat.le_refl _) _).trans (hb1.mono (by simp))

set_option maxRecDepth 100000 in
set_option maxHeartbeats 1000000 in
theorem plain_5 (op n m : Int) (s : ByteArray) (w : World) : Calls Tryd.prog 47 #[.agg #[.int .i64 5, .int .i64 op, .int .i64 n, .string s, .int .i64 m]] w fun e w' => e = .returned (.bool (Tr.plain ⟨5, op, n, s, m⟩)) ∧ Below w.heap.size w w' := by
  go_enter Tryd.func47, Tryd.ntmps47
  go_wp2_with (first | (go_at_call 34; refine (in_any _ _ _ _).mono ?_; rintro e w' ⟨rfl, rfl⟩) | (go_at_call 73; refine (pkg_any _ _).mono ?_; rintro e w' ⟨rfl, rfl⟩) | (go_at_call 35; refine (nameOk_any _ _).mono ?_; rintro e w1 ⟨rfl, hb1⟩))
  all_goals
    go_ret
    refine ⟨ret_bool ?_, ?_⟩
    · first
      | (simp [Tr.plain, Tr.textK, *]; done)
      | (simp [Tr.plain, Tr.textK, *]; omega)
      | (exfalso; simp_all)
    · first
      | exact (Below.refl _ _).alloc (Nat.le_refl _) _
      | exact ((Below.refl _ _).alloc (Nat.le_refl _) _).trans (hb1.mono (by simp))

set_option maxRecDepth 100000 in
set_option maxHeartbeats 1000000 in
theorem plain_11 (op n m : Int) (s : ByteArray) (w : World) : Calls Tryd.prog 47 #[.agg #[.int .i64 11, .int .i64 op, .int .i64 n, .string s, .int .i64 m]] w fun e w' => e = .returned (.bool (Tr.plain ⟨11, op, n, s, m⟩)) ∧ Below w.heap.size w w' := by
  go_enter Tryd.func47, Tryd.ntmps47
  go_wp2_with (first | (go_at_call 34; refine (in_any _ _ _ _).mono ?_; rintro e w' ⟨rfl, rfl⟩) | (go_at_call 73; refine (pkg_any _ _).mono ?_; rintro e w' ⟨rfl, rfl⟩) | (go_at_call 35; refine (nameOk_any _ _).mono ?_; rintro e w1 ⟨rfl, hb1⟩))
  all_goals
    go_ret
    refine ⟨ret_bool ?_, ?_⟩
    · first
      | (simp [Tr.plain, Tr.textK, *]; done)
      | (simp [Tr.plain, Tr.textK, *]; omega)
      | (exfalso; simp_all)
    · first
      | exact (Below.refl _ _).alloc (Nat.le_refl _) _
      | exact ((Below.refl _ _).alloc (Nat.le_refl _) _).trans (hb1.mono (by simp))

set_option maxRecDepth 100000 in
set_option maxHeartbeats 1000000 in
theorem plain_14 (op n m : Int) (s : ByteArray) (w : World) : Calls Tryd.prog 47 #[.agg #[.int .i64 14, .int .i64 op, .int .i64 n, .string s, .int .i64 m]] w fun e w' => e = .returned (.bool (Tr.plain ⟨14, op, n, s, m⟩)) ∧ Below w.heap.size w w' := by
  go_enter Tryd.func47, Tryd.ntmps47
  go_wp2_with (first | (go_at_call 34; refine (in_any _ _ _ _).mono ?_; rintro e w' ⟨rfl, rfl⟩) | (go_at_call 73; refine (pkg_any _ _).mono ?_; rintro e w' ⟨rfl, rfl⟩) | (go_at_call 35; refine (nameOk_any _ _).mono ?_; rintro e w1 ⟨rfl, hb1⟩))
  all_goals
    go_ret
    refine ⟨ret_bool ?_, ?_⟩
    · first
      | (simp [Tr.plain, Tr.textK, *]; done)
      | (simp [Tr.plain, Tr.textK, *]; omega)
      | (exfalso; simp_all)
    · first
      | exact (Below.refl _ _).alloc (Nat.le_refl _) _
      | exact ((Below.refl _ _).alloc (Nat.le_refl _) _).trans (hb1.mono (by simp))

set_option maxRecDepth 100000 in
set_option maxHeartbeats 1000000 in
theorem plain_6 (op n m : Int) (s : ByteArray) (w : World) : Calls Tryd.prog 47 #[.agg #[.int .i64 6, .int .i64 op, .int .i64 n, .string s, .int .i64 m]] w fun e w' => e = .returned (.bool (Tr.plain ⟨6, op, n, s, m⟩)) ∧ Below w.heap.size w w' := by
  have q : Tr.inr 6 16 21 = false := by decide
  go_enter Tryd.func47, Tryd.ntmps47
  go_wp2_with (first | (go_at_call 34; refine (in_any _ _ _ _).mono ?_; rintro e w' ⟨rfl, rfl⟩) | (go_at_call 73; refine (pkg_any _ _).mono ?_; rintro e w' ⟨rfl, rfl⟩) | (go_at_call 35; refine (nameOk_any _ _).mono ?_; rintro e w1 ⟨rfl, hb1⟩))
  all_goals
    go_ret
    refine ⟨ret_bool ?_, ?_⟩
    · first
      | (simp [Tr.plain, Tr.textK, *]; done)
      | (simp [Tr.plain, Tr.textK, *]; omega)
      | (exfalso; simp_all)
    · first
      | exact (Below.refl _ _).alloc (Nat.le_refl _) _
      | exact ((Below.refl _ _).alloc (Nat.le_refl _) _).trans (hb1.mono (by simp))

set_option maxRecDepth 100000 in
set_option maxHeartbeats 1000000 in
theorem plain_7 (op n m : Int) (s : ByteArray) (w : World) : Calls Tryd.prog 47 #[.agg #[.int .i64 7, .int .i64 op, .int .i64 n, .string s, .int .i64 m]] w fun e w' => e = .returned (.bool (Tr.plain ⟨7, op, n, s, m⟩)) ∧ Below w.heap.size w w' := by
  have q : Tr.inr 7 16 21 = false := by decide
  go_enter Tryd.func47, Tryd.ntmps47
  go_wp2_with (first | (go_at_call 34; refine (in_any _ _ _ _).mono ?_; rintro e w' ⟨rfl, rfl⟩) | (go_at_call 73; refine (pkg_any _ _).mono ?_; rintro e w' ⟨rfl, rfl⟩) | (go_at_call 35; refine (nameOk_any _ _).mono ?_; rintro e w1 ⟨rfl, hb1⟩))
  all_goals
    go_ret
    refine ⟨ret_bool ?_, ?_⟩
    · first
      | (simp [Tr.plain, Tr.textK, *]; done)
      | (simp [Tr.plain, Tr.textK, *]; omega)
      | (exfalso; simp_all)
    · first
      | exact (Below.refl _ _).alloc (Nat.le_refl _) _
      | exact ((Below.refl _ _).alloc (Nat.le_refl _) _).trans (hb1.mono (by simp))

set_option maxRecDepth 100000 in
set_option maxHeartbeats 1000000 in
theorem plain_17 (op n m : Int) (s : ByteArray) (w : World) : Calls Tryd.prog 47 #[.agg #[.int .i64 17, .int .i64 op, .int .i64 n, .string s, .int .i64 m]] w fun e w' => e = .returned (.bool (Tr.plain ⟨17, op, n, s, m⟩)) ∧ Below w.heap.size w w' := by
  have q : Tr.inr 17 16 21 = true := by decide
  go_enter Tryd.func47, Tryd.ntmps47
  go_wp2_with (first | (go_at_call 34; refine (in_any _ _ _ _).mono ?_; rintro e w' ⟨rfl, rfl⟩) | (go_at_call 73; refine (pkg_any _ _).mono ?_; rintro e w' ⟨rfl, rfl⟩) | (go_at_call 35; refine (nameOk_any _ _).mono ?_; rintro e w1 ⟨rfl, hb1⟩))
  all_goals
    go_ret
    refine ⟨ret_bool ?_, ?_⟩
    · first
      | (simp [Tr.plain, Tr.textK, *]; done)
      | (simp [Tr.plain, Tr.textK, *]; omega)
      | (exfalso; simp_all)
    · first
      | exact (Below.refl _ _).alloc (Nat.le_refl _) _
      | exact ((Below.refl _ _).alloc (Nat.le_refl _) _).trans (hb1.mono (by simp))

set_option maxRecDepth 100000 in
set_option maxHeartbeats 1000000 in
theorem plain_23 (op n m : Int) (s : ByteArray) (w : World) : Calls Tryd.prog 47 #[.agg #[.int .i64 23, .int .i64 op, .int .i64 n, .string s, .int .i64 m]] w fun e w' => e = .returned (.bool (Tr.plain ⟨23, op, n, s, m⟩)) ∧ Below w.heap.size w w' := by
  have q : Tr.inr 23 16 21 = false := by decide
  go_enter Tryd.func47, Tryd.ntmps47
  go_wp2_with (first | (go_at_call 34; refine (in_any _ _ _ _).mono ?_; rintro e w' ⟨rfl, rfl⟩) | (go_at_call 73; refine (pkg_any _ _).mono ?_; rintro e w' ⟨rfl, rfl⟩) | (go_at_call 35; refine (nameOk_any _ _).mono ?_; rintro e w1 ⟨rfl, hb1⟩))
  all_goals
    go_ret
    refine ⟨ret_bool ?_, ?_⟩
    · first
      | (simp [Tr.plain, Tr.textK, *]; done)
      | (simp [Tr.plain, Tr.textK, *]; omega)
      | (exfalso; simp_all)
    · first
      | exact (Below.refl _ _).alloc (Nat.le_refl _) _
      | exact ((Below.refl _ _).alloc (Nat.le_refl _) _).trans (hb1.mono (by simp))

set_option maxRecDepth 100000 in
set_option maxHeartbeats 1000000 in
theorem plain_in (k op n m : Int) (s : ByteArray) (w : World) (hk1 : Tr.inr k 16 21 = true) (hk2 : k ≠ 17) : Calls Tryd.prog 47 #[.agg #[.int .i64 k, .int .i64 op, .int .i64 n, .string s, .int .i64 m]] w fun e w' => e = .returned (.bool (Tr.plain ⟨k, op, n, s, m⟩)) ∧ Below w.heap.size w w' := by
  obtain ⟨q1, q2⟩ := Tr.inr_true hk1
  have n2 : k ≠ 2 := by omega
  have n3 : k ≠ 3 := by omega
  have n4 : k ≠ 4 := by omega
  have n6 : k ≠ 6 := by omega
  have n7 : k ≠ 7 := by omega
  have n23 : k ≠ 23 := by omega
  by_cases h2 : op = 0
  all_goals
    go_enter Tryd.func47, Tryd.ntmps47
    go_wp2_with (first | (go_at_call 34; refine (in_any _ _ _ _).mono ?_; rintro e w' ⟨rfl, rfl⟩) | (go_at_call 73; refine (pkg_any _ _).mono ?_; rintro e w' ⟨rfl, rfl⟩) | (go_at_call 35; refine (nameOk_any _ _).mono ?_; rintro e w1 ⟨rfl, hb1⟩))
  all_goals
    go_ret
    refine ⟨ret_bool ?_, ?_⟩
    · first
      | (simp [Tr.plain, Tr.textK, *]; done)
      | (simp [Tr.plain, Tr.textK, *]; omega)
      | (exfalso; simp_all)
    · first
      | exact (Below.refl _ _).alloc (Nat.le_refl _) _
      | exact ((Below.refl _ _).alloc (Nat.le_refl _) _).trans (hb1.mono (by simp))

set_option maxRecDepth 100000 in
set_option maxHeartbeats 1000000 in
theorem plain_out (k op n m : Int) (s : ByteArray) (w : World) (hk1 : Tr.inr k 16 21 = false) (hk : k ≠ 2 ∧ k ≠ 3 ∧ k ≠ 4 ∧ k ≠ 5 ∧ k ≠ 11 ∧ k ≠ 14 ∧ k ≠ 6 ∧ k ≠ 7 ∧ k ≠ 17 ∧ k ≠ 23) : Calls Tryd.prog 47 #[.agg #[.int .i64 k, .int .i64 op, .int .i64 n, .string s, .int .i64 m]] w fun e w' => e = .returned (.bool (Tr.plain ⟨k, op, n, s, m⟩)) ∧ Below w.heap.size w w' := by
  obtain ⟨hk2, hk3, hk4, hk5, hk11, hk14, hk6, hk7, hk17, hk23⟩ := hk
  by_cases h2 : op = 0
  all_goals
    go_enter Tryd.func47, Tryd.ntmps47
    go_wp2_with (first | (go_at_call 34; refine (in_any _ _ _ _).mono ?_; rintro e w' ⟨rfl, rfl⟩) | (go_at_call 73; refine (pkg_any _ _).mono ?_; rintro e w' ⟨rfl, rfl⟩) | (go_at_call 35; refine (nameOk_any _ _).mono ?_; rintro e w1 ⟨rfl, hb1⟩))
  all_goals
    go_ret
    refine ⟨ret_bool ?_, ?_⟩
    · first
      | (simp [Tr.plain, Tr.textK, *]; done)
      | (simp [Tr.plain, Tr.textK, *]; omega)
      | (exfalso; simp_all)
    · first
      | exact (Below.refl _ _).alloc (Nat.le_refl _) _
      | exact ((Below.refl _ _).alloc (Nat.le_refl _) _).trans (hb1.mono (by simp))

theorem plain_any (k op n m : Int) (s : ByteArray) (w : World) : Calls Tryd.prog 47 #[.agg #[.int .i64 k, .int .i64 op, .int .i64 n, .string s, .int .i64 m]] w fun e w' => e = .returned (.bool (Tr.plain ⟨k, op, n, s, m⟩)) ∧ Below w.heap.size w w' := by
  rcases Tr.kinds k with rfl | rfl | rfl | rfl | rfl | rfl | rfl | rfl | rfl | rfl | ⟨hk1, hk2⟩ | ⟨_, hk1, hk⟩
  · exact plain_2 op n m s w
  · exact plain_3 op n m s w
  · exact plain_4 op n m s w
  · exact plain_5 op n m s w
  · exact plain_11 op n m s w
  · exact plain_14 op n m s w
  · exact plain_6 op n m s w
  · exact plain_7 op n m s w
  · exact plain_17 op n m s w
  · exact plain_23 op n m s w
  · exact plain_in k op n m s w hk1 hk2
  · exact plain_out k op n m s w hk1 hk
end Go.Proofs.YtmklgiononbmmaaDoor
