/- Walks: what a node may use, on the program's side. -/
import Derived.Test.YtmklgiononbmmaaDoorJc
namespace Go.Proofs.YtmklgiononbmmaaDoor
open Go.RowKit

theorem below_own {w w1 : World} {o : Obj} (h : Below (w.alloc o).heap.size (w.alloc o) w1) (i : Nat) (v : Value) : Below w.heap.size w (w1.setCell ⟨w.heap.size, i, none⟩ v) :=
  (((Below.refl _ _).alloc (Nat.le_refl _) _).trans (h.mono (by simp))).setCell (by exact Nat.le_refl _) v
theorem box5 {w w1 : World} {a b c d e : Value} {t : TypeId} (h : Below (w.alloc (.cells #[a, b, c, d, e] t)).heap.size (w.alloc (.cells #[a, b, c, d, e] t)) w1) : w1.cell? ⟨w.heap.size, 0, none⟩ = some a ∧ w1.cell? ⟨w.heap.size, 1, none⟩ = some b ∧ w1.cell? ⟨w.heap.size, 2, none⟩ = some c ∧ w1.cell? ⟨w.heap.size, 3, none⟩ = some d ∧ w1.cell? ⟨w.heap.size, 4, none⟩ = some e ∧ w1.frozen? ⟨w.heap.size, 3, none⟩ = false := by
  have hb : w1.heap[w.heap.size]? = some (.cells #[a, b, c, d, e] t) := (h.block w.heap.size (by simp)).trans (heap_alloc_new' w _)
  have hf : w1.frozen? ⟨w.heap.size, 3, none⟩ = (w.alloc (.cells #[a, b, c, d, e] t)).frozen? ⟨w.heap.size, 3, none⟩ := h.frozen (p := ⟨w.heap.size, 3, none⟩) (by simp)
  refine ⟨?_, ?_, ?_, ?_, ?_, ?_⟩
  all_goals first | (rw [World.cell?, hb]; rfl) | (rw [hf]; simp)
theorem Tr.plain_f2 (op n m : Int) (s : ByteArray) : Tr.plain ⟨2, op, n, s, m⟩ = ((n == 0 || n == 1) && (op == 0) && s.toList.isEmpty) := by
  rw [Bool.eq_iff_iff]; simp [Tr.plain, Tr.textK, Tr.inr]; grind
theorem Tr.plain_f3 (op n m : Int) (s : ByteArray) : Tr.plain ⟨3, op, n, s, m⟩ = (decide (0 ≤ n) && (op == 0) && s.toList.isEmpty) := by
  rw [Bool.eq_iff_iff]; simp [Tr.plain, Tr.textK, Tr.inr]; grind
theorem Tr.plain_f6 (op n m : Int) (s : ByteArray) : Tr.plain ⟨6, op, n, s, m⟩ = ((op == 1 || op == 2) && (n == 0) && s.toList.isEmpty) := by
  rw [Bool.eq_iff_iff]; simp [Tr.plain, Tr.textK, Tr.inr]; grind
theorem Tr.plain_f7 (op n m : Int) (s : ByteArray) : Tr.plain ⟨7, op, n, s, m⟩ = (decide (1 ≤ op) && decide (op ≤ 14) && (n == 0) && s.toList.isEmpty) := by
  rw [Bool.eq_iff_iff]; simp [Tr.plain, Tr.textK, Tr.inr]; grind
theorem Tr.plain_f4 (op n m : Int) (s : ByteArray) : Tr.plain ⟨4, op, n, s, m⟩ = (decide ((s.size : Int) ≤ 1000) && (op == 0) && (n == 0)) := by
  rw [Bool.eq_iff_iff]; simp [Tr.plain, Tr.textK, Tr.inr]; grind
theorem Tr.plain_f17 (op n m : Int) (s : ByteArray) : Tr.plain ⟨17, op, n, s, m⟩ = (decide ((s.size : Int) ≤ 1000) && (op == 0) && (n == 0)) := by
  rw [Bool.eq_iff_iff]; simp [Tr.plain, Tr.textK, Tr.inr]; grind
theorem Tr.plain_f23 (op n m : Int) (s : ByteArray) : Tr.plain ⟨23, op, n, s, m⟩ = (Tr.pkgOk s && (op == 0) && (n == 0)) := by
  rw [Bool.eq_iff_iff]; simp [Tr.plain, Tr.textK, Tr.inr]; grind
theorem Tr.plain_f5 (op n m : Int) (s : ByteArray) : Tr.plain ⟨5, op, n, s, m⟩ = (Tr.nameOk s && (op == 0) && (n == 0)) := by
  rw [Bool.eq_iff_iff]; simp [Tr.plain, Tr.textK, Tr.inr]; grind
theorem Tr.plain_f11 (op n m : Int) (s : ByteArray) : Tr.plain ⟨11, op, n, s, m⟩ = (Tr.nameOk s && (op == 0) && (n == 0)) := by
  rw [Bool.eq_iff_iff]; simp [Tr.plain, Tr.textK, Tr.inr]; grind
theorem Tr.plain_f14 (op n m : Int) (s : ByteArray) : Tr.plain ⟨14, op, n, s, m⟩ = (Tr.nameOk s && (op == 0) && (n == 0)) := by
  rw [Bool.eq_iff_iff]; simp [Tr.plain, Tr.textK, Tr.inr]; grind
theorem Tr.plain_f16 (op n m : Int) (s : ByteArray) : Tr.plain ⟨16, op, n, s, m⟩ = (Tr.nameOk s && (op == 0) && (n == 0)) := by
  rw [Bool.eq_iff_iff]; simp [Tr.plain, Tr.textK, Tr.inr]; grind
theorem Tr.plain_f18 (op n m : Int) (s : ByteArray) : Tr.plain ⟨18, op, n, s, m⟩ = (Tr.nameOk s && (op == 0) && (n == 0)) := by
  rw [Bool.eq_iff_iff]; simp [Tr.plain, Tr.textK, Tr.inr]; grind
theorem Tr.plain_f19 (op n m : Int) (s : ByteArray) : Tr.plain ⟨19, op, n, s, m⟩ = (Tr.nameOk s && (op == 0) && (n == 0)) := by
  rw [Bool.eq_iff_iff]; simp [Tr.plain, Tr.textK, Tr.inr]; grind
theorem Tr.plain_f20 (op n m : Int) (s : ByteArray) : Tr.plain ⟨20, op, n, s, m⟩ = (Tr.nameOk s && (op == 0) && (n == 0)) := by
  rw [Bool.eq_iff_iff]; simp [Tr.plain, Tr.textK, Tr.inr]; grind
theorem Tr.plain_f21 (op n m : Int) (s : ByteArray) : Tr.plain ⟨21, op, n, s, m⟩ = (Tr.nameOk s && (op == 0) && (n == 0)) := by
  rw [Bool.eq_iff_iff]; simp [Tr.plain, Tr.textK, Tr.inr]; grind
theorem Tr.plain_fo (k op n m : Int) (s : ByteArray) (h : Tr.textK k = false) (h2 : k ≠ 2) (h3 : k ≠ 3) (h6 : k ≠ 6) (h7 : k ≠ 7) (h4 : k ≠ 4) (h17 : k ≠ 17) (h23 : k ≠ 23) : Tr.plain ⟨k, op, n, s, m⟩ = ((op == 0) && (n == 0) && s.toList.isEmpty) := by
  rw [Bool.eq_iff_iff]; simp [Tr.plain, h, h2, h3, h6, h7, h4, h17, h23]; grind

set_option maxRecDepth 100000 in
set_option maxHeartbeats 1000000 in
theorem uses_2 (op n m : Int) (s : ByteArray) (b : Nat) (w : World) (_hs : s.size ≤ 1048576) (hm : w.ownsMap (H := Unit) Tryd.prog 9 unitElem b 17 Sc.wordMap) :
    Calls Tryd.prog 54 #[.agg #[.int .i64 2, .int .i64 op, .int .i64 n, .string s, .int .i64 m], .map (some b)] w fun e w' => e = .returned (.bool (Tr.plain ⟨2, op, n, s, m⟩)) ∧ Below w.heap.size w w' := by
  have HM := hide hm
  have HF := hide (Tr.plain_f2 op n m s)
  clear hm
  go_enter Tryd.func54, Tryd.ntmps54
  go_wp2
  all_goals
    go_ret
    refine ⟨ret_bool ?_, (Below.refl _ _).alloc (Nat.le_refl _) _⟩
    rw [HF.out]
    first | (simp [*]; done) | (simp_all; done) | (simp_all; intros; omega)

set_option maxRecDepth 100000 in
set_option maxHeartbeats 1000000 in
theorem uses_3 (op n m : Int) (s : ByteArray) (b : Nat) (w : World) (_hs : s.size ≤ 1048576) (hm : w.ownsMap (H := Unit) Tryd.prog 9 unitElem b 17 Sc.wordMap) :
    Calls Tryd.prog 54 #[.agg #[.int .i64 3, .int .i64 op, .int .i64 n, .string s, .int .i64 m], .map (some b)] w fun e w' => e = .returned (.bool (Tr.plain ⟨3, op, n, s, m⟩)) ∧ Below w.heap.size w w' := by
  have HM := hide hm
  have HF := hide (Tr.plain_f3 op n m s)
  clear hm
  go_enter Tryd.func54, Tryd.ntmps54
  go_wp2
  all_goals
    go_ret
    refine ⟨ret_bool ?_, (Below.refl _ _).alloc (Nat.le_refl _) _⟩
    rw [HF.out]
    first | (simp [*]; done) | (simp_all; done) | (simp_all; intros; omega)

set_option maxRecDepth 100000 in
set_option maxHeartbeats 1000000 in
theorem uses_6 (op n m : Int) (s : ByteArray) (b : Nat) (w : World) (_hs : s.size ≤ 1048576) (hm : w.ownsMap (H := Unit) Tryd.prog 9 unitElem b 17 Sc.wordMap) :
    Calls Tryd.prog 54 #[.agg #[.int .i64 6, .int .i64 op, .int .i64 n, .string s, .int .i64 m], .map (some b)] w fun e w' => e = .returned (.bool (Tr.plain ⟨6, op, n, s, m⟩)) ∧ Below w.heap.size w w' := by
  have HM := hide hm
  have HF := hide (Tr.plain_f6 op n m s)
  clear hm
  go_enter Tryd.func54, Tryd.ntmps54
  go_wp2
  all_goals
    go_ret
    refine ⟨ret_bool ?_, (Below.refl _ _).alloc (Nat.le_refl _) _⟩
    rw [HF.out]
    first | (simp [*]; done) | (simp_all; done) | (simp_all; intros; omega)

set_option maxRecDepth 100000 in
set_option maxHeartbeats 1000000 in
theorem uses_7 (op n m : Int) (s : ByteArray) (b : Nat) (w : World) (_hs : s.size ≤ 1048576) (hm : w.ownsMap (H := Unit) Tryd.prog 9 unitElem b 17 Sc.wordMap) :
    Calls Tryd.prog 54 #[.agg #[.int .i64 7, .int .i64 op, .int .i64 n, .string s, .int .i64 m], .map (some b)] w fun e w' => e = .returned (.bool (Tr.plain ⟨7, op, n, s, m⟩)) ∧ Below w.heap.size w w' := by
  have HM := hide hm
  have HF := hide (Tr.plain_f7 op n m s)
  clear hm
  go_enter Tryd.func54, Tryd.ntmps54
  go_wp2
  all_goals
    go_ret
    refine ⟨ret_bool ?_, (Below.refl _ _).alloc (Nat.le_refl _) _⟩
    rw [HF.out]
    first | (simp [*]; done) | (simp_all; done) | (simp_all; intros; omega)

set_option maxRecDepth 100000 in
set_option maxHeartbeats 1000000 in
theorem uses_4 (op n m : Int) (s : ByteArray) (b : Nat) (w : World) (_hs : s.size ≤ 1048576) (hm : w.ownsMap (H := Unit) Tryd.prog 9 unitElem b 17 Sc.wordMap) :
    Calls Tryd.prog 54 #[.agg #[.int .i64 4, .int .i64 op, .int .i64 n, .string s, .int .i64 m], .map (some b)] w fun e w' => e = .returned (.bool (Tr.plain ⟨4, op, n, s, m⟩)) ∧ Below w.heap.size w w' := by
  have HM := hide hm
  have HF := hide (Tr.plain_f4 op n m s)
  clear hm
  go_enter Tryd.func54, Tryd.ntmps54
  go_wp2
  all_goals
    go_ret
    refine ⟨ret_bool ?_, (Below.refl _ _).alloc (Nat.le_refl _) _⟩
    rw [HF.out]
    first | (simp [*]; done) | (simp_all; done) | (simp_all; intros; omega)

set_option maxRecDepth 100000 in
set_option maxHeartbeats 1000000 in
theorem uses_17 (op n m : Int) (s : ByteArray) (b : Nat) (w : World) (_hs : s.size ≤ 1048576) (hm : w.ownsMap (H := Unit) Tryd.prog 9 unitElem b 17 Sc.wordMap) :
    Calls Tryd.prog 54 #[.agg #[.int .i64 17, .int .i64 op, .int .i64 n, .string s, .int .i64 m], .map (some b)] w fun e w' => e = .returned (.bool (Tr.plain ⟨17, op, n, s, m⟩)) ∧ Below w.heap.size w w' := by
  have HM := hide hm
  have HF := hide (Tr.plain_f17 op n m s)
  clear hm
  go_enter Tryd.func54, Tryd.ntmps54
  go_wp2
  all_goals
    go_ret
    refine ⟨ret_bool ?_, (Below.refl _ _).alloc (Nat.le_refl _) _⟩
    rw [HF.out]
    first | (simp [*]; done) | (simp_all; done) | (simp_all; intros; omega)

set_option maxRecDepth 100000 in
set_option maxHeartbeats 1000000 in
theorem uses_23 (op n m : Int) (s : ByteArray) (b : Nat) (w : World) (hs : s.size ≤ 1048576) (hm : w.ownsMap (H := Unit) Tryd.prog 9 unitElem b 17 Sc.wordMap) :
    Calls Tryd.prog 54 #[.agg #[.int .i64 23, .int .i64 op, .int .i64 n, .string s, .int .i64 m], .map (some b)] w fun e w' => e = .returned (.bool (Tr.plain ⟨23, op, n, s, m⟩)) ∧ Below w.heap.size w w' := by
  have HM := hide hm
  have HF := hide (Tr.plain_f23 op n m s)
  clear hm
  go_enter Tryd.func54, Tryd.ntmps54
  go_wp2_with (go_at_call 78; refine (isPkg_any _ _ hs).mono ?_; rintro e w' ⟨rfl, rfl⟩)
  all_goals
    go_ret
    refine ⟨ret_bool ?_, (Below.refl _ _).alloc (Nat.le_refl _) _⟩
    rw [HF.out]
    first | (simp [*]; done) | (simp_all; done) | (simp_all; intros; omega)

set_option maxRecDepth 100000 in
set_option maxHeartbeats 1000000 in
theorem uses_5 (op n m : Int) (s : ByteArray) (b : Nat) (w : World) (hs : s.size ≤ 1048576) (hm : w.ownsMap (H := Unit) Tryd.prog 9 unitElem b 17 Sc.wordMap) :
    Calls Tryd.prog 54 #[.agg #[.int .i64 5, .int .i64 op, .int .i64 n, .string s, .int .i64 m], .map (some b)] w fun e w' => e = .returned (.bool (Tr.plain ⟨5, op, n, s, m⟩)) ∧ Below w.heap.size w w' := by
  have HM := hide hm
  have HF := hide (Tr.plain_f5 op n m s)
  clear hm
  go_enter Tryd.func54, Tryd.ntmps54
  go_wp2_with (go_at_call 67; refine (isName_any s b _ hs (HM.out.alloc _)).mono ?_; rintro e w1 ⟨rfl, hb1⟩; obtain ⟨x0, x1, x2, x3, x4, x5⟩ := box5 hb1; have hz1 : w.heap.size < w1.heap.size := Nat.lt_of_lt_of_le (by simp) hb1.size)
  all_goals
    go_ret
    refine ⟨ret_bool ?_, below_own hb1 _ _⟩
    rw [HF.out]
    first | (simp [*]; done) | (simp_all; done) | (simp_all; intros; omega)

set_option maxRecDepth 100000 in
set_option maxHeartbeats 1000000 in
theorem uses_11 (op n m : Int) (s : ByteArray) (b : Nat) (w : World) (hs : s.size ≤ 1048576) (hm : w.ownsMap (H := Unit) Tryd.prog 9 unitElem b 17 Sc.wordMap) :
    Calls Tryd.prog 54 #[.agg #[.int .i64 11, .int .i64 op, .int .i64 n, .string s, .int .i64 m], .map (some b)] w fun e w' => e = .returned (.bool (Tr.plain ⟨11, op, n, s, m⟩)) ∧ Below w.heap.size w w' := by
  have HM := hide hm
  have HF := hide (Tr.plain_f11 op n m s)
  clear hm
  go_enter Tryd.func54, Tryd.ntmps54
  go_wp2_with (go_at_call 67; refine (isName_any s b _ hs (HM.out.alloc _)).mono ?_; rintro e w1 ⟨rfl, hb1⟩; obtain ⟨x0, x1, x2, x3, x4, x5⟩ := box5 hb1; have hz1 : w.heap.size < w1.heap.size := Nat.lt_of_lt_of_le (by simp) hb1.size)
  all_goals
    go_ret
    refine ⟨ret_bool ?_, below_own hb1 _ _⟩
    rw [HF.out]
    first | (simp [*]; done) | (simp_all; done) | (simp_all; intros; omega)

set_option maxRecDepth 100000 in
set_option maxHeartbeats 1000000 in
theorem uses_14 (op n m : Int) (s : ByteArray) (b : Nat) (w : World) (hs : s.size ≤ 1048576) (hm : w.ownsMap (H := Unit) Tryd.prog 9 unitElem b 17 Sc.wordMap) :
    Calls Tryd.prog 54 #[.agg #[.int .i64 14, .int .i64 op, .int .i64 n, .string s, .int .i64 m], .map (some b)] w fun e w' => e = .returned (.bool (Tr.plain ⟨14, op, n, s, m⟩)) ∧ Below w.heap.size w w' := by
  have HM := hide hm
  have HF := hide (Tr.plain_f14 op n m s)
  clear hm
  go_enter Tryd.func54, Tryd.ntmps54
  go_wp2_with (go_at_call 67; refine (isName_any s b _ hs (HM.out.alloc _)).mono ?_; rintro e w1 ⟨rfl, hb1⟩; obtain ⟨x0, x1, x2, x3, x4, x5⟩ := box5 hb1; have hz1 : w.heap.size < w1.heap.size := Nat.lt_of_lt_of_le (by simp) hb1.size)
  all_goals
    go_ret
    refine ⟨ret_bool ?_, below_own hb1 _ _⟩
    rw [HF.out]
    first | (simp [*]; done) | (simp_all; done) | (simp_all; intros; omega)

set_option maxRecDepth 100000 in
set_option maxHeartbeats 1000000 in
theorem uses_16 (op n m : Int) (s : ByteArray) (b : Nat) (w : World) (hs : s.size ≤ 1048576) (hm : w.ownsMap (H := Unit) Tryd.prog 9 unitElem b 17 Sc.wordMap) :
    Calls Tryd.prog 54 #[.agg #[.int .i64 16, .int .i64 op, .int .i64 n, .string s, .int .i64 m], .map (some b)] w fun e w' => e = .returned (.bool (Tr.plain ⟨16, op, n, s, m⟩)) ∧ Below w.heap.size w w' := by
  have HM := hide hm
  have HF := hide (Tr.plain_f16 op n m s)
  clear hm
  go_enter Tryd.func54, Tryd.ntmps54
  go_wp2_with (go_at_call 67; refine (isName_any s b _ hs (HM.out.alloc _)).mono ?_; rintro e w1 ⟨rfl, hb1⟩; obtain ⟨x0, x1, x2, x3, x4, x5⟩ := box5 hb1; have hz1 : w.heap.size < w1.heap.size := Nat.lt_of_lt_of_le (by simp) hb1.size)
  all_goals
    go_ret
    refine ⟨ret_bool ?_, below_own hb1 _ _⟩
    rw [HF.out]
    first | (simp [*]; done) | (simp_all; done) | (simp_all; intros; omega)

set_option maxRecDepth 100000 in
set_option maxHeartbeats 1000000 in
theorem uses_18 (op n m : Int) (s : ByteArray) (b : Nat) (w : World) (hs : s.size ≤ 1048576) (hm : w.ownsMap (H := Unit) Tryd.prog 9 unitElem b 17 Sc.wordMap) :
    Calls Tryd.prog 54 #[.agg #[.int .i64 18, .int .i64 op, .int .i64 n, .string s, .int .i64 m], .map (some b)] w fun e w' => e = .returned (.bool (Tr.plain ⟨18, op, n, s, m⟩)) ∧ Below w.heap.size w w' := by
  have HM := hide hm
  have HF := hide (Tr.plain_f18 op n m s)
  clear hm
  go_enter Tryd.func54, Tryd.ntmps54
  go_wp2_with (go_at_call 67; refine (isName_any s b _ hs (HM.out.alloc _)).mono ?_; rintro e w1 ⟨rfl, hb1⟩; obtain ⟨x0, x1, x2, x3, x4, x5⟩ := box5 hb1; have hz1 : w.heap.size < w1.heap.size := Nat.lt_of_lt_of_le (by simp) hb1.size)
  all_goals
    go_ret
    refine ⟨ret_bool ?_, below_own hb1 _ _⟩
    rw [HF.out]
    first | (simp [*]; done) | (simp_all; done) | (simp_all; intros; omega)

set_option maxRecDepth 100000 in
set_option maxHeartbeats 1000000 in
theorem uses_19 (op n m : Int) (s : ByteArray) (b : Nat) (w : World) (hs : s.size ≤ 1048576) (hm : w.ownsMap (H := Unit) Tryd.prog 9 unitElem b 17 Sc.wordMap) :
    Calls Tryd.prog 54 #[.agg #[.int .i64 19, .int .i64 op, .int .i64 n, .string s, .int .i64 m], .map (some b)] w fun e w' => e = .returned (.bool (Tr.plain ⟨19, op, n, s, m⟩)) ∧ Below w.heap.size w w' := by
  have HM := hide hm
  have HF := hide (Tr.plain_f19 op n m s)
  clear hm
  go_enter Tryd.func54, Tryd.ntmps54
  go_wp2_with (go_at_call 67; refine (isName_any s b _ hs (HM.out.alloc _)).mono ?_; rintro e w1 ⟨rfl, hb1⟩; obtain ⟨x0, x1, x2, x3, x4, x5⟩ := box5 hb1; have hz1 : w.heap.size < w1.heap.size := Nat.lt_of_lt_of_le (by simp) hb1.size)
  all_goals
    go_ret
    refine ⟨ret_bool ?_, below_own hb1 _ _⟩
    rw [HF.out]
    first | (simp [*]; done) | (simp_all; done) | (simp_all; intros; omega)

set_option maxRecDepth 100000 in
set_option maxHeartbeats 1000000 in
theorem uses_20 (op n m : Int) (s : ByteArray) (b : Nat) (w : World) (hs : s.size ≤ 1048576) (hm : w.ownsMap (H := Unit) Tryd.prog 9 unitElem b 17 Sc.wordMap) :
    Calls Tryd.prog 54 #[.agg #[.int .i64 20, .int .i64 op, .int .i64 n, .string s, .int .i64 m], .map (some b)] w fun e w' => e = .returned (.bool (Tr.plain ⟨20, op, n, s, m⟩)) ∧ Below w.heap.size w w' := by
  have HM := hide hm
  have HF := hide (Tr.plain_f20 op n m s)
  clear hm
  go_enter Tryd.func54, Tryd.ntmps54
  go_wp2_with (go_at_call 67; refine (isName_any s b _ hs (HM.out.alloc _)).mono ?_; rintro e w1 ⟨rfl, hb1⟩; obtain ⟨x0, x1, x2, x3, x4, x5⟩ := box5 hb1; have hz1 : w.heap.size < w1.heap.size := Nat.lt_of_lt_of_le (by simp) hb1.size)
  all_goals
    go_ret
    refine ⟨ret_bool ?_, below_own hb1 _ _⟩
    rw [HF.out]
    first | (simp [*]; done) | (simp_all; done) | (simp_all; intros; omega)

set_option maxRecDepth 100000 in
set_option maxHeartbeats 1000000 in
theorem uses_21 (op n m : Int) (s : ByteArray) (b : Nat) (w : World) (hs : s.size ≤ 1048576) (hm : w.ownsMap (H := Unit) Tryd.prog 9 unitElem b 17 Sc.wordMap) :
    Calls Tryd.prog 54 #[.agg #[.int .i64 21, .int .i64 op, .int .i64 n, .string s, .int .i64 m], .map (some b)] w fun e w' => e = .returned (.bool (Tr.plain ⟨21, op, n, s, m⟩)) ∧ Below w.heap.size w w' := by
  have HM := hide hm
  have HF := hide (Tr.plain_f21 op n m s)
  clear hm
  go_enter Tryd.func54, Tryd.ntmps54
  go_wp2_with (go_at_call 67; refine (isName_any s b _ hs (HM.out.alloc _)).mono ?_; rintro e w1 ⟨rfl, hb1⟩; obtain ⟨x0, x1, x2, x3, x4, x5⟩ := box5 hb1; have hz1 : w.heap.size < w1.heap.size := Nat.lt_of_lt_of_le (by simp) hb1.size)
  all_goals
    go_ret
    refine ⟨ret_bool ?_, below_own hb1 _ _⟩
    rw [HF.out]
    first | (simp [*]; done) | (simp_all; done) | (simp_all; intros; omega)

set_option maxRecDepth 100000 in
set_option maxHeartbeats 1000000 in
theorem uses_other (k op n m : Int) (s : ByteArray) (b : Nat) (w : World) (h : Tr.textK k = false) (h2 : k ≠ 2) (h3 : k ≠ 3) (h6 : k ≠ 6) (h7 : k ≠ 7) :
    Calls Tryd.prog 54 #[.agg #[.int .i64 k, .int .i64 op, .int .i64 n, .string s, .int .i64 m], .map (some b)] w fun e w' => e = .returned (.bool (Tr.plain ⟨k, op, n, s, m⟩)) ∧ Below w.heap.size w w' := by
  have hk : k ≠ 4 ∧ k ≠ 5 ∧ k ≠ 11 ∧ k ≠ 14 ∧ k ≠ 16 ∧ k ≠ 17 ∧ k ≠ 18 ∧ k ≠ 19 ∧ k ≠ 20 ∧ k ≠ 21 ∧ k ≠ 23 := by
    simp [Tr.textK, Tr.inr] at h; omega
  have HF := hide (Tr.plain_fo k op n m s h h2 h3 h6 h7 hk.1 hk.2.2.2.2.2.1 hk.2.2.2.2.2.2.2.2.2.2)
  have q2 : (k == 2) = false := by simp; omega
  have q3 : (k == 3) = false := by simp; omega
  have q6 : (k == 6) = false := by simp; omega
  have q7 : (k == 7) = false := by simp; omega
  have q4 : (k == 4) = false := by simp; omega
  have q17 : (k == 17) = false := by simp; omega
  have q23 : (k == 23) = false := by simp; omega
  have q5 : (k == 5) = false := by simp; omega
  have q11 : (k == 11) = false := by simp; omega
  have q14 : (k == 14) = false := by simp; omega
  have q16 : (k == 16) = false := by simp; omega
  have q18 : (k == 18) = false := by simp; omega
  have q19 : (k == 19) = false := by simp; omega
  have q20 : (k == 20) = false := by simp; omega
  have q21 : (k == 21) = false := by simp; omega
  clear h h2 h3 h6 h7 hk
  go_enter Tryd.func54, Tryd.ntmps54
  go_wp2
  all_goals
    go_ret
    refine ⟨ret_bool ?_, (Below.refl _ _).alloc (Nat.le_refl _) _⟩
    rw [HF.out]
    first | (simp [*]; done) | (simp_all; done) | (simp_all; intros; omega)

theorem uses_any (k op n m : Int) (s : ByteArray) (b : Nat) (w : World) (hs : s.size ≤ 1048576) (hm : w.ownsMap (H := Unit) Tryd.prog 9 unitElem b 17 Sc.wordMap) :
    Calls Tryd.prog 54 #[.agg #[.int .i64 k, .int .i64 op, .int .i64 n, .string s, .int .i64 m], .map (some b)] w fun e w' => e = .returned (.bool (Tr.plain ⟨k, op, n, s, m⟩)) ∧ Below w.heap.size w w' := by
  by_cases h2 : k = 2
  · subst h2; exact uses_2 op n m s b w hs hm
  by_cases h3 : k = 3
  · subst h3; exact uses_3 op n m s b w hs hm
  by_cases h6 : k = 6
  · subst h6; exact uses_6 op n m s b w hs hm
  by_cases h7 : k = 7
  · subst h7; exact uses_7 op n m s b w hs hm
  by_cases h4 : k = 4
  · subst h4; exact uses_4 op n m s b w hs hm
  by_cases h17 : k = 17
  · subst h17; exact uses_17 op n m s b w hs hm
  by_cases h23 : k = 23
  · subst h23; exact uses_23 op n m s b w hs hm
  by_cases h5 : k = 5
  · subst h5; exact uses_5 op n m s b w hs hm
  by_cases h11 : k = 11
  · subst h11; exact uses_11 op n m s b w hs hm
  by_cases h14 : k = 14
  · subst h14; exact uses_14 op n m s b w hs hm
  by_cases h16 : k = 16
  · subst h16; exact uses_16 op n m s b w hs hm
  by_cases h18 : k = 18
  · subst h18; exact uses_18 op n m s b w hs hm
  by_cases h19 : k = 19
  · subst h19; exact uses_19 op n m s b w hs hm
  by_cases h20 : k = 20
  · subst h20; exact uses_20 op n m s b w hs hm
  by_cases h21 : k = 21
  · subst h21; exact uses_21 op n m s b w hs hm
  exact uses_other k op n m s b w (by simp [Tr.textK, Tr.inr]; omega) h2 h3 h6 h7
end Go.Proofs.YtmklgiononbmmaaDoor
