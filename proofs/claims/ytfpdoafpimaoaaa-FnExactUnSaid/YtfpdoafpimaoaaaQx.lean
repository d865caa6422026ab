/- Walks: the law's marks in atoms, from any number on. -/
import Derived.Test.YtfpdoafpimaoaaaQw
namespace Go.Proofs.Ytfpdoafpimaoaaa.Vl
open Go.RowKit T.atoms T.ok T.high T.good T.allPlain

/-- The four marks of atom i. -/
def mark4 (k0 i : Nat) : List Value := [.int .i64 ((k0 : Int) + 4 * (i : Int)), .int .i64 ((k0 : Int) + 4 * (i : Int) + 1), .string ⟨(Mk.mt (k0 + 4 * i + 2)).toArray⟩, .int .i64 ((k0 : Int) + 4 * (i : Int) + 1 + 1 + 1)]
def marked4 (k0 n : Nat) : List Value := (List.range n).flatMap (mark4 k0)
theorem marked4_succ (k0 n : Nat) : marked4 k0 (n + 1) = marked4 k0 n ++ mark4 k0 n := by simp [marked4, List.range_succ]
theorem marked4_len (k0 n : Nat) : (marked4 k0 n).length = n * 4 := by
  induction n with
  | zero => rfl
  | succ n ih => rw [marked4_succ, List.length_append, ih]; simp [mark4]; omega
theorem row_belowS {w w1 : World} {base : Nat} {e : TypeId} {size : Nat} {v : Value} {n : Nat} {xs : List Value} (h : w.ownsRow base e size v n xs) (hb : Below w.heap.size w w1) : w1.ownsRow base e size v n xs :=
  h.kept (row := none) ⟨hb.os, hb.tape, hb.output, hb.size, fun k hk _ => hb.block k hk⟩ (by
    cases e : v.ownBlock with
    | none => exact .inl rfl
    | some q => exact .inr (by simp))
theorem get4 (P R : List Value) (k j : Nat) (h : P.length = k) : (P ++ R)[k + j]? = R[j]? := by
  subst h; rw [List.getElem?_append_right (by omega)]; congr 1; omega

set_option maxRecDepth 100000 in
set_option maxHeartbeats 1000000 in
theorem markAtoms_some (k0 n g cap B : Nat) (xs : List Value) (w : World) (h1 : 1 ≤ k0) (hk : k0 ≤ 5000000) (hn : n ≤ 1048576) (hown : w.ownsRow B 55 4 (.slice (some ⟨g, 0, none⟩) n cap) n xs) (hBs : B ≤ w.heap.size) :
    Calls Try.prog 37 #[.slice (some ⟨g, 0, none⟩) n cap, .int .i64 (k0 : Int)] w fun e w' => e = .returned (.int .i64 ((k0 : Int) + 4 * (n : Int))) ∧ w'.ownsRow B 55 4 (.slice (some ⟨g, 0, none⟩) n cap) n (marked4 k0 n) ∧ (∀ b, b < w.heap.size → b ≠ g → w'.heap[b]? = w.heap[b]?) ∧ Below B w w' := by
  have hgB := (hown.lt g rfl).1
  have hxl : xs.length = n * 4 := hown.1
  go_enter Try.func37, Try.ntmps37
  go_wp2
  go_loopw [1, 5] (fun t u wr => ∃ i : Nat, i ≤ n ∧ u = .int .i64 i ∧ t = .int .i64 ((k0 : Int) + 4 * (i : Int)) ∧ wr.ownsRow B 55 4 (.slice (some ⟨g, 0, none⟩) n cap) n (marked4 k0 i ++ xs.drop (i * 4)) ∧ (∀ b, b < w.heap.size → b ≠ g → wr.heap[b]? = w.heap[b]?) ∧ w.heap.size ≤ wr.heap.size ∧ Below B w wr ∧ B ≤ wr.heap.size) (fun _ u _ => n - (intOf u).toNat)
  case atStart => exact ⟨0, Nat.zero_le _, rfl, by simp, by simpa [marked4] using hown, fun _ _ _ => rfl, Nat.le_refl _, Below.refl _ _, hBs⟩
  case round =>
    obtain ⟨i, hi, rfl, rfl, ho, hfr, hws, hB, hsz⟩ := hrel
    by_cases hlt : i < n
    · obtain ⟨a, b, c, d, hd5⟩ := drop4 xs i (by omega)
      have hml := marked4_len k0 i
      rw [hd5] at ho
      have HD := hide hd5
      clear hd5
      have hg1 : g < wr.heap.size := (ho.lt g rfl).2
      have c0 : wr.cell? ⟨g, i * 4, none⟩ = some a := (ho.cellAt _ (by omega)).trans (get4 _ _ _ 0 hml)
      have c1 : wr.cell? ⟨g, i * 4 + 1, none⟩ = some b := (ho.cellAt _ (by omega)).trans (get4 _ _ _ 1 hml)
      have f0 := ho.frozenAt (i * 4)
      have f1 := ho.frozenAt (i * 4 + 1)
      have s0 := (ho.stored (i * 4) (.int .i64 ((k0 : Int) + 4 * (i : Int)))).1
      rw [set4_0 _ _ _ _ _ _ _ _ hml] at s0
      have s1 := (s0.stored (i * 4 + 1) (.int .i64 ((k0 : Int) + 4 * (i : Int) + 1))).1
      rw [set4_1 _ _ _ _ _ _ _ _ hml] at s1
      have hB0 : Below B w ((wr.setCell ⟨g, i * 4, none⟩ (.int .i64 ((k0 : Int) + 4 * (i : Int)))).setCell ⟨g, i * 4 + 1, none⟩ (.int .i64 ((k0 : Int) + 4 * (i : Int) + 1))) := (hB.setCell (p := ⟨g, i * 4, none⟩) hgB _).setCell (p := ⟨g, i * 4 + 1, none⟩) hgB _
      have hfr0 : ∀ q, q ≠ g → ((wr.setCell ⟨g, i * 4, none⟩ (.int .i64 ((k0 : Int) + 4 * (i : Int)))).setCell ⟨g, i * 4 + 1, none⟩ (.int .i64 ((k0 : Int) + 4 * (i : Int) + 1))).heap[q]? = wr.heap[q]? := fun q hq => (Below.heap_setCell _ _ _ _ hq).trans (Below.heap_setCell _ _ _ _ hq)
      have HS2 := hide s1
      have HB0 := hide hB0
      have HF0 := hide hfr0
      have HFR := hide hfr
      clear s0 s1 ho hB0 hfr0 hfr
      go_wp2_with fail
      refine (markText_any (k0 + 4 * i + 2) _ _ (by omega) (by omega) (by omega)).mono ?_
      rintro e w1 ⟨rfl, hb1⟩
      have t2 := row_belowS HS2.out hb1
      have hss : ∀ (p q : Addr) (x y : Value), ((wr.setCell p x).setCell q y).heap.size = wr.heap.size := fun p q x y => by rw [size_set4, size_set4]
      have hb1s := hb1.size
      rw [hss] at hb1s
      have hB1 : Below B w w1 := HB0.out.trans (hb1.mono (by rw [hss]; exact hsz))
      have HF1 : Hid (∀ q, q < wr.heap.size → q ≠ g → w1.heap[q]? = wr.heap[q]?) := hide (fun q hq hqg => (hb1.block q (by rw [hss]; exact hq)).trans (HF0.out q hqg))
      have q2 : w1.cell? ⟨g, i * 4 + 2, none⟩ = some c := (t2.cellAt _ (by omega)).trans (get4 _ _ _ 2 hml)
      have q3 : w1.cell? ⟨g, i * 4 + 3, none⟩ = some d := (t2.cellAt _ (by omega)).trans (get4 _ _ _ 3 hml)
      have z2 := t2.frozenAt (i * 4 + 2)
      have z3 := t2.frozenAt (i * 4 + 3)
      have HT2 := hide t2
      clear t2 c0 c1 f0 f1 hb1 HF0 HB0 HS2 hss
      go_wp2
      go_roundw
      case rel =>
        have u3 := (HT2.out.stored (i * 4 + 2) (.string ⟨(Mk.mt (k0 + 4 * i + 2)).toArray⟩)).1
        rw [set4_2 _ _ _ _ _ _ _ _ hml] at u3
        have u4 := (u3.stored (i * 4 + 3) (.int .i64 ((k0 : Int) + 4 * (i : Int) + 1 + 1 + 1))).1
        rw [set4_3 _ _ _ _ _ _ _ _ hml] at u4
        refine ⟨i + 1, by omega, by go_num, by go_num, ?_, fun q hq hqg => ?_, by simp only [size_set4]; omega, (hB1.setCell (p := ⟨g, i * 4 + 2, none⟩) hgB _).setCell (p := ⟨g, i * 4 + 3, none⟩) hgB _, by simp only [size_set4]; omega⟩
        · rw [marked4_succ, List.append_assoc]
          exact u4
        · exact (((Below.heap_setCell _ _ _ _ hqg).trans (Below.heap_setCell _ _ _ _ hqg)).trans (HF1.out q (by omega) hqg)).trans (HFR.out q hq hqg)
      case measure => simp [intOf]; omega
    · obtain rfl : i = n := by omega
      go_wp2
      go_ret
      rw [List.drop_of_length_le (by omega), List.append_nil] at ho
      exact ⟨rfl, ho, hfr, hB⟩

set_option maxRecDepth 100000 in
set_option maxHeartbeats 400000 in
theorem markValue_any (k0 n g cap B : Nat) (xs : List Value) (w : World) (h1 : 1 ≤ k0) (hk : k0 ≤ 5000000) (hn : n ≤ 1048576) (hown : w.ownsRow B 55 4 (.slice (some ⟨g, 0, none⟩) n cap) n xs) (hBs : B ≤ w.heap.size) :
    Calls Try.prog 18 #[.agg #[.slice (some ⟨g, 0, none⟩) n cap], .int .i64 (k0 : Int)] w fun e w' => e = .returned (.int .i64 ((k0 : Int) + 4 * (n : Int))) ∧ w'.ownsRow B 55 4 (.slice (some ⟨g, 0, none⟩) n cap) n (marked4 k0 n) ∧ (∀ b, b < w.heap.size → b ≠ g → w'.heap[b]? = w.heap[b]?) ∧ Below B w w' := by
  have hq : Below w.heap.size w (w.alloc (.cells #[.slice (some ⟨g, 0, none⟩) n cap] 25)) := (Below.refl _ _).alloc (Nat.le_refl _) _
  have HM := hide (markAtoms_some k0 n g cap B xs _ h1 hk hn (hown.alloc (.cells #[.slice (some ⟨g, 0, none⟩) n cap] 25)) (by rw [World.size_alloc]; omega))
  clear hown
  go_enter Try.func18, Try.ntmps18
  go_wp2_with fail
  refine HM.out.mono ?_
  rintro e w1 ⟨rfl, ho, hfr, hb⟩
  go_wp2
  go_ret
  exact ⟨rfl, ho, fun q hq1 hqg => (hfr q (by rw [World.size_alloc]; omega) hqg).trans (hq.block q hq1), (hq.mono hBs).trans hb⟩

set_option maxHeartbeats 400000 in
theorem markN_none (k0 : Nat) (w : World) : Calls Try.prog 37 #[.slice none 0 0, .int .i64 (k0 : Int)] w fun e w' => e = .returned (.int .i64 (k0 : Int)) ∧ w' = w := by
  go_enter Try.func37, Try.ntmps37
  go_wp2
  go_loopw [1, 5] (fun t u wr => t = .int .i64 (k0 : Int) ∧ u = .int .i64 0 ∧ wr = w) (fun _ _ _ => 0)
  case atStart => exact ⟨rfl, rfl, rfl⟩
  case round =>
    obtain ⟨rfl, rfl, rfl⟩ := hrel
    go_wp2
    go_ret
    exact ⟨rfl, rfl⟩
set_option maxHeartbeats 400000 in
theorem markT_none (k0 : Nat) (w : World) : Calls Try.prog 18 #[.agg #[.slice none 0 0], .int .i64 (k0 : Int)] w fun e w' => e = .returned (.int .i64 (k0 : Int)) ∧ Below w.heap.size w w' := by
  have hq : Below w.heap.size w (w.alloc (.cells #[.slice none 0 0] 25)) := (Below.refl _ _).alloc (Nat.le_refl _) _
  go_enter Try.func18, Try.ntmps18
  go_wp2_with fail
  refine (markN_none k0 _).mono ?_
  rintro e w1 ⟨rfl, rfl⟩
  go_wp2
  go_ret
  exact ⟨rfl, hq⟩
theorem marked4_at (k0 n i j : Nat) (hi : i < n) (hj : j < 4) : (marked4 k0 n)[i * 4 + j]? = (mark4 k0 i)[j]? := by
  induction n with
  | zero => omega
  | succ n ih =>
    rw [marked4_succ]
    by_cases h : i < n
    · rw [List.getElem?_append_left (by rw [marked4_len]; omega)]
      exact ih h
    · obtain rfl : i = n := by omega
      exact get4 _ _ _ j (marked4_len k0 i)

set_option maxHeartbeats 400000 in
theorem heldN_none (k0 : Nat) (w : World) : Calls Try.prog 38 #[.slice none 0 0, .int .i64 (k0 : Int)] w fun e w' => e = .returned (.int .i64 (k0 : Int)) ∧ w' = w := by
  go_enter Try.func38, Try.ntmps38
  go_wp2
  go_loopw [1, 5] (fun t u wr => t = .int .i64 (k0 : Int) ∧ u = .int .i64 0 ∧ wr = w) (fun _ _ _ => 0)
  case atStart => exact ⟨rfl, rfl, rfl⟩
  case round =>
    obtain ⟨rfl, rfl, rfl⟩ := hrel
    go_wp2
    go_ret
    exact ⟨rfl, rfl⟩
set_option maxRecDepth 100000 in
set_option maxHeartbeats 1000000 in
theorem heldN_some (k0 n g cap B : Nat) (w : World) (h1 : 1 ≤ k0) (hk : k0 ≤ 5000000) (hn : n ≤ 1048576) (hown : w.ownsRow B 55 4 (.slice (some ⟨g, 0, none⟩) n cap) n (marked4 k0 n)) :
    Calls Try.prog 38 #[.slice (some ⟨g, 0, none⟩) n cap, .int .i64 (k0 : Int)] w fun e w' => e = .returned (.int .i64 ((k0 : Int) + 4 * (n : Int))) ∧ Below w.heap.size w w' := by
  have HC : Hid (∀ i j, i < n → j < 4 → w.cell? ⟨g, i * 4 + j, none⟩ = (mark4 k0 i)[j]?) := hide (fun i j hi hj => (hown.cellAt _ (by omega)).trans (marked4_at k0 n i j hi hj))
  have hg := (hown.lt g rfl).2
  clear hown
  go_enter Try.func38, Try.ntmps38
  go_wp2
  go_loopw [1, 5] (fun t u wr => ∃ i : Nat, i ≤ n ∧ u = .int .i64 i ∧ t = .int .i64 ((k0 : Int) + 4 * (i : Int)) ∧ Below w.heap.size w wr) (fun _ u _ => n - (intOf u).toNat)
  case atStart => exact ⟨0, Nat.zero_le _, rfl, by simp, Below.refl _ _⟩
  case round =>
    obtain ⟨i, hi, rfl, rfl, hB⟩ := hrel
    by_cases hlt : i < n
    · have c0 : wr.cell? ⟨g, i * 4, none⟩ = some (.int .i64 ((k0 : Int) + 4 * (i : Int))) := (hB.cell (p := ⟨g, i * 4, none⟩) hg).trans (HC.out i 0 hlt (by omega))
      have c1 : wr.cell? ⟨g, i * 4 + 1, none⟩ = some (.int .i64 ((k0 : Int) + 4 * (i : Int) + 1)) := (hB.cell (p := ⟨g, i * 4 + 1, none⟩) hg).trans (HC.out i 1 hlt (by omega))
      have c2 : wr.cell? ⟨g, i * 4 + 2, none⟩ = some (.string ⟨(Mk.mt (k0 + 4 * i + 2)).toArray⟩) := (hB.cell (p := ⟨g, i * 4 + 2, none⟩) hg).trans (HC.out i 2 hlt (by omega))
      have hgr : g < wr.heap.size := Nat.lt_of_lt_of_le hg hB.size
      have c3 : wr.cell? ⟨g, i * 4 + 3, none⟩ = some (.int .i64 ((k0 : Int) + 4 * (i : Int) + 1 + 1 + 1)) := (hB.cell (p := ⟨g, i * 4 + 3, none⟩) hg).trans (HC.out i 3 hlt (by omega))
      have HB := hide hB
      clear hB
      go_wp2
      go_region_with (go_at_call 63; refine (markText_any (k0 + 4 * i + 2) _ _ (by omega) (by omega) (by omega)).mono ?_; rintro e w1 ⟨rfl, hb1⟩; have q3 := (hb1.cell (p := ⟨g, i * 4 + 2, none⟩) hgr).trans c2; have q4 := (hb1.cell (p := ⟨g, i * 4 + 3, none⟩) hgr).trans c3; have q5 : Below w.heap.size w w1 := HB.out.trans (Below.mono (w := wr) ⟨hb1.os, hb1.tape, hb1.output, hb1.size, hb1.block⟩ HB.out.size))
      all_goals
        clear hb1 c0 c1 c2 c3
        go_wp2
        go_roundw
        case rel => exact ⟨i + 1, by omega, by go_num, by go_num, q5⟩
        case measure => simp [intOf]; omega
    · obtain rfl : i = n := by omega
      go_wp2
      go_ret
      exact ⟨rfl, hB⟩

set_option maxHeartbeats 400000 in
theorem heldT_none (k0 : Nat) (w : World) : Calls Try.prog 19 #[.agg #[.slice none 0 0], .int .i64 (k0 : Int)] w fun e w' => e = .returned (.int .i64 (k0 : Int)) ∧ Below w.heap.size w w' := by
  have hq : Below w.heap.size w (w.alloc (.cells #[.slice none 0 0] 25)) := (Below.refl _ _).alloc (Nat.le_refl _) _
  go_enter Try.func19, Try.ntmps19
  go_wp2_with fail
  refine (heldN_none k0 _).mono ?_
  rintro e w1 ⟨rfl, rfl⟩
  go_wp2
  go_ret
  exact ⟨rfl, hq⟩
set_option maxRecDepth 100000 in
set_option maxHeartbeats 400000 in
theorem heldT_some (k0 n g cap B : Nat) (w : World) (h1 : 1 ≤ k0) (hk : k0 ≤ 5000000) (hn : n ≤ 1048576) (hown : w.ownsRow B 55 4 (.slice (some ⟨g, 0, none⟩) n cap) n (marked4 k0 n)) :
    Calls Try.prog 19 #[.agg #[.slice (some ⟨g, 0, none⟩) n cap], .int .i64 (k0 : Int)] w fun e w' => e = .returned (.int .i64 ((k0 : Int) + 4 * (n : Int))) ∧ Below w.heap.size w w' := by
  have hq : Below w.heap.size w (w.alloc (.cells #[.slice (some ⟨g, 0, none⟩) n cap] 25)) := (Below.refl _ _).alloc (Nat.le_refl _) _
  have HM := hide (heldN_some k0 n g cap B _ h1 hk hn (hown.alloc (.cells #[.slice (some ⟨g, 0, none⟩) n cap] 25)))
  clear hown
  have hkp : ¬ ((k0 : Int) + 4 * (n : Int) < 0) := by omega
  go_enter Try.func19, Try.ntmps19
  go_wp2_with fail
  refine HM.out.mono ?_
  rintro e w1 ⟨rfl, hb⟩
  go_wp2
  go_ret
  exact ⟨rfl, hq.trans (hb.mono hq.size)⟩
end Go.Proofs.Ytfpdoafpimaoaaa.Vl
