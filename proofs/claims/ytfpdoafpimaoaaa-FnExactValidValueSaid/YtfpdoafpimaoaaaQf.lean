/- Walks: what the program's values are made with: sizes, texts, copies. -/
import Derived.Test.YtfpdoafpimaoaaaQc
namespace Go.Proofs.Ytfpdoafpimaoaaa.Vl
open Go.RowKit T.atoms T.ok T.high T.good T.allPlain DatAt

abbrev ext (a d : Int) : Value := .agg #[.int .i64 a, .int .i64 d]

theorem bcell {W w1 : World} (hb : Below W.heap.size W w1) : (∀ b o, b < W.heap.size → w1.cell? ⟨b, o, none⟩ = W.cell? ⟨b, o, none⟩) ∧ (∀ b o, b < W.heap.size → w1.frozen? ⟨b, o, none⟩ = W.frozen? ⟨b, o, none⟩) :=
  ⟨fun b o h => hb.cell (p := ⟨b, o, none⟩) h, fun b o h => hb.frozen (p := ⟨b, o, none⟩) h⟩
set_option maxHeartbeats 400000 in
theorem single_any (w : World) : Calls Try.prog 83 #[] w fun e w' => e = .returned (ext 1 0) ∧ Below w.heap.size w w' := by
  go_enter Try.func83, Try.ntmps83
  go_wp2
  refine bodyPost_ret (v := ext 1 0) (by simp [results, Try.results83, go_sem, ext]) rfl ⟨rfl, ?_⟩
  exact (Below.refl _ _).alloc (Nat.le_refl _) _

set_option maxHeartbeats 400000 in
theorem holding_any (a d b c : Nat) (w : World) (ha : a ≤ 1048576) (hb : b ≤ 1048576) (_hd : d ≤ 1048576) (hc : c ≤ 1048576) :
    Calls Try.prog 84 #[ext (a : Nat) (d : Nat), ext (b : Nat) (c : Nat)] w fun e w' => e = .returned (ext (a + b : Nat) (max d (c + 1) : Nat)) ∧ Below w.heap.size w w' := by
  unfold ext
  by_cases h : (d : Int) < (c : Int) + 1
  · go_enter Try.func84, Try.ntmps84
    go_wp2
    refine bodyPost_ret (v := .agg #[.int .i64 ((a : Int) + (b : Int)), .int .i64 ((c : Int) + 1)]) (by simp [results, Try.results84, go_sem]) rfl ⟨?_, ?_⟩
    · have e1 : ((a + b : Nat) : Int) = (a : Int) + (b : Int) := by omega
      have e2 : ((max d (c + 1) : Nat) : Int) = (c : Int) + 1 := by omega
      first | rw [e1, e2] | rw [e2]
    · exact (((Below.refl _ _).alloc (Nat.le_refl _) _).alloc (by simp) _).alloc (by simp; omega) _
  · go_enter Try.func84, Try.ntmps84
    go_wp2
    refine bodyPost_ret (v := .agg #[.int .i64 ((a : Int) + (b : Int)), .int .i64 (d : Int)]) (by simp [results, Try.results84, go_sem]) rfl ⟨?_, ?_⟩
    · have e1 : ((a + b : Nat) : Int) = (a : Int) + (b : Int) := by omega
      have e2 : ((max d (c + 1) : Nat) : Int) = (d : Int) := by omega
      first | rw [e1, e2] | rw [e2]
    · exact (((Below.refl _ _).alloc (Nat.le_refl _) _).alloc (by simp) _).alloc (by simp; omega) _

set_option maxHeartbeats 400000 in
theorem fits_any (a d : Nat) (w : World) : Calls Try.prog 85 #[ext (a : Nat) (d : Nat)] w fun e w' => e = .returned (.bool (decide (a ≤ 1000 ∧ d ≤ 12))) ∧ Below w.heap.size w w' := by
  unfold ext
  by_cases h1 : (a : Int) ≤ 1000
  all_goals by_cases h2 : (d : Int) ≤ 12
  all_goals
    go_enter Try.func85, Try.ntmps85
    go_wp2
    go_ret
    exact ⟨ret_bool (by rw [eq_comm]; simp; omega), (Below.refl _ _).alloc (Nat.le_refl _) _⟩

set_option maxHeartbeats 400000 in
theorem newText_any (s : ByteArray) (w : World) : Calls Try.prog 70 #[.string s] w fun e w' => e = .returned (.tuple #[.iface 83 (.string s), .bool (decide ((s.size : Int) ≤ 1000))]) ∧ w' = w := by
  go_enter Try.func70, Try.ntmps70
  go_wp2
  go_ret2
  exact ⟨rfl, rfl⟩

set_option maxHeartbeats 400000 in
theorem size_bool (v : Value) (w : World) : Calls Try.prog 105 #[v] w fun e w' => e = .returned (ext 1 0) ∧ Below w.heap.size w w' := by
  go_enter Try.func105, Try.ntmps105
  go_wp2_with (go_at_call 83; refine (single_any _).mono ?_; rintro e w1 ⟨rfl, hb1⟩; obtain ⟨hc, hf⟩ := bcell hb1; have hz : w.heap.size < w1.heap.size := Nat.lt_of_lt_of_le (by simp) hb1.size)
  refine bodyPost_ret (v := ext 1 0) (by simp [results, Try.results105, go_sem, hc]) rfl ⟨rfl, ?_⟩
  exact ((((Below.refl _ _).alloc (Nat.le_refl _) _).trans (hb1.mono (by simp))).setCell (by simp) _).setCell (by simp) _

set_option maxHeartbeats 400000 in
theorem size_int (v : Value) (w : World) : Calls Try.prog 107 #[v] w fun e w' => e = .returned (ext 1 0) ∧ Below w.heap.size w w' := by
  go_enter Try.func107, Try.ntmps107
  go_wp2_with (go_at_call 83; refine (single_any _).mono ?_; rintro e w1 ⟨rfl, hb1⟩; obtain ⟨hc, hf⟩ := bcell hb1; have hz : w.heap.size < w1.heap.size := Nat.lt_of_lt_of_le (by simp) hb1.size)
  refine bodyPost_ret (v := ext 1 0) (by simp [results, Try.results107, go_sem, hc]) rfl ⟨rfl, ?_⟩
  exact ((((Below.refl _ _).alloc (Nat.le_refl _) _).trans (hb1.mono (by simp))).setCell (by simp) _).setCell (by simp) _

set_option maxHeartbeats 400000 in
theorem size_text (v : Value) (w : World) : Calls Try.prog 109 #[v] w fun e w' => e = .returned (ext 1 0) ∧ Below w.heap.size w w' := by
  go_enter Try.func109, Try.ntmps109
  go_wp2_with (go_at_call 83; refine (single_any _).mono ?_; rintro e w1 ⟨rfl, hb1⟩; obtain ⟨hc, hf⟩ := bcell hb1; have hz : w.heap.size < w1.heap.size := Nat.lt_of_lt_of_le (by simp) hb1.size)
  refine bodyPost_ret (v := ext 1 0) (by simp [results, Try.results109, go_sem, hc]) rfl ⟨rfl, ?_⟩
  exact ((((Below.refl _ _).alloc (Nat.le_refl _) _).trans (hb1.mono (by simp))).setCell (by simp) _).setCell (by simp) _

theorem size_none_placeholder : True := trivial

set_option maxHeartbeats 400000 in
theorem size_ext (a d : Int) (w : World) : Calls Try.prog 110 #[ext a d] w fun e w' => e = .returned (ext a d) ∧ Below w.heap.size w w' := by
  unfold ext
  go_enter Try.func110, Try.ntmps110
  go_wp2
  refine bodyPost_ret (v := .agg #[.int .i64 a, .int .i64 d]) (by simp [results, Try.results110, go_sem]) rfl ⟨rfl, ?_⟩
  exact ((Below.refl _ _).alloc (Nat.le_refl _) _).alloc (by simp) _
end Go.Proofs.Ytfpdoafpimaoaaa.Vl
