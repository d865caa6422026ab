/- Joined: Qx, Uh, Wg. -/
import Derived.Test.YtnkfbjcgkdblgaaGreatG49
import Derived.Deep.CutRange
namespace Go.Proofs.YtnkfbjcgkdblgaaGreat.Vl
open Go.RowKit T.atoms T.ok T.high T.good T.allPlain

/-- The four marks of atom i. -/
def mark4 (k0 i : Nat) : List Value := [.int .i64 ((k0 : Int) + 4 * (i : Int)), .int .i64 ((k0 : Int) + 4 * (i : Int) + 1), .string ⟨(Mk.mt (k0 + 4 * i + 2)).toArray⟩, .int .i64 ((k0 : Int) + 4 * (i : Int) + 1 + 1 + 1)]
def marked4 (k0 n : Nat) : List Value := (List.range n).flatMap (mark4 k0)
theorem marked4_succ (k0 n : Nat) : marked4 k0 (n + 1) = marked4 k0 n ++ mark4 k0 n := by simp [marked4, List.range_succ]
theorem marked4_len (k0 n : Nat) : (marked4 k0 n).length = n * 4 := by
  induction n with
  | zero => rfl
  | succ n ih => rw [marked4_succ, List.length_append, ih]; simp [mark4]; omega
theorem row_belowS {w w1 : World} {base : Nat} {e : TypeId} {size : Nat} {v : Value} {n : Nat} {xs : List Value} (h : w.ownsRow base e size v n xs) (hb : Below w.heap.size w w1) : w1.ownsRow base e size v n xs :=
  h.kept (row := none) ⟨hb.os, hb.tape, hb.output, hb.size, fun k hk _ => hb.block k hk⟩ (by
    cases e : v.ownBlock with
    | none => exact .inl rfl
    | some q => exact .inr (by simp))
theorem get4 (P R : List Value) (k j : Nat) (h : P.length = k) : (P ++ R)[k + j]? = R[j]? := by
  subst h; rw [List.getElem?_append_right (by omega)]; congr 1; omega

set_option maxRecDepth 100000 in
set_option maxHeartbeats 1000000 in
theorem markAtoms_some (k0 n g cap B : Nat) (xs : List Value) (w : World) (h1 : 1 ≤ k0) (hk : k0 ≤ 5000000) (hn : n ≤ 1048576) (hown : w.ownsRow B 44 4 (.slice (some ⟨g, 0, none⟩) n cap) n xs) (hBs : B ≤ w.heap.size) :
    Calls Tryz.prog 26 #[.slice (some ⟨g, 0, none⟩) n cap, .int .i64 (k0 : Int)] w fun e w' => e = .returned (.int .i64 ((k0 : Int) + 4 * (n : Int))) ∧ w'.ownsRow B 44 4 (.slice (some ⟨g, 0, none⟩) n cap) n (marked4 k0 n) ∧ (∀ b, b < w.heap.size → b ≠ g → w'.heap[b]? = w.heap[b]?) ∧ Below B w w' := by
  have hgB := (hown.lt g rfl).1
  have hxl : xs.length = n * 4 := hown.1
  go_enter Tryz.func26, Tryz.ntmps26
  go_wp2
  go_loopw [1, 5] (fun t u wr => ∃ i : Nat, i ≤ n ∧ u = .int .i64 i ∧ t = .int .i64 ((k0 : Int) + 4 * (i : Int)) ∧ wr.ownsRow B 44 4 (.slice (some ⟨g, 0, none⟩) n cap) n (marked4 k0 i ++ xs.drop (i * 4)) ∧ (∀ b, b < w.heap.size → b ≠ g → wr.heap[b]? = w.heap[b]?) ∧ w.heap.size ≤ wr.heap.size ∧ Below B w wr ∧ B ≤ wr.heap.size) (fun _ u _ => n - (intOf u).toNat)
  case atStart => exact ⟨0, Nat.zero_le _, rfl, by simp, by simpa [marked4] using hown, fun _ _ _ => rfl, Nat.le_refl _, Below.refl _ _, hBs⟩
  case round =>
    obtain ⟨i, hi, rfl, rfl, ho, hfr, hws, hB, hsz⟩ := hrel
    by_cases hlt : i < n
    · obtain ⟨a, b, c, d, hd5⟩ := drop4 xs i (by omega)
      have hml := marked4_len k0 i
      rw [hd5] at ho
      have HD := hide hd5
      clear hd5
      have hg1 : g < wr.heap.size := (ho.lt g rfl).2
      have c0 : wr.cell? ⟨g, i * 4, none⟩ = some a := (ho.cellAt _ (by omega)).trans (get4 _ _ _ 0 hml)
      have c1 : wr.cell? ⟨g, i * 4 + 1, none⟩ = some b := (ho.cellAt _ (by omega)).trans (get4 _ _ _ 1 hml)
      have f0 := ho.frozenAt (i * 4)
      have f1 := ho.frozenAt (i * 4 + 1)
      have s0 := (ho.stored (i * 4) (.int .i64 ((k0 : Int) + 4 * (i : Int)))).1
      rw [set4_0 _ _ _ _ _ _ _ _ hml] at s0
      have s1 := (s0.stored (i * 4 + 1) (.int .i64 ((k0 : Int) + 4 * (i : Int) + 1))).1
      rw [set4_1 _ _ _ _ _ _ _ _ hml] at s1
      have hB0 : Below B w ((wr.setCell ⟨g, i * 4, none⟩ (.int .i64 ((k0 : Int) + 4 * (i : Int)))).setCell ⟨g, i * 4 + 1, none⟩ (.int .i64 ((k0 : Int) + 4 * (i : Int) + 1))) := (hB.setCell (p := ⟨g, i * 4, none⟩) hgB _).setCell (p := ⟨g, i * 4 + 1, none⟩) hgB _
      have hfr0 : ∀ q, q ≠ g → ((wr.setCell ⟨g, i * 4, none⟩ (.int .i64 ((k0 : Int) + 4 * (i : Int)))).setCell ⟨g, i * 4 + 1, none⟩ (.int .i64 ((k0 : Int) + 4 * (i : Int) + 1))).heap[q]? = wr.heap[q]? := fun q hq => (Below.heap_setCell _ _ _ _ hq).trans (Below.heap_setCell _ _ _ _ hq)
      have HS2 := hide s1
      have HB0 := hide hB0
      have HF0 := hide hfr0
      have HFR := hide hfr
      clear s0 s1 ho hB0 hfr0 hfr
      go_wp2_with fail
      refine (markText_any (k0 + 4 * i + 2) _ _ (by omega) (by omega) (by omega)).mono ?_
      rintro e w1 ⟨rfl, hb1⟩
      have t2 := row_belowS HS2.out hb1
      have hss : ∀ (p q : Addr) (x y : Value), ((wr.setCell p x).setCell q y).heap.size = wr.heap.size := fun p q x y => by rw [size_set4, size_set4]
      have hb1s := hb1.size
      rw [hss] at hb1s
      have hB1 : Below B w w1 := HB0.out.trans (hb1.mono (by rw [hss]; exact hsz))
      have HF1 : Hid (∀ q, q < wr.heap.size → q ≠ g → w1.heap[q]? = wr.heap[q]?) := hide (fun q hq hqg => (hb1.block q (by rw [hss]; exact hq)).trans (HF0.out q hqg))
      have q2 : w1.cell? ⟨g, i * 4 + 2, none⟩ = some c := (t2.cellAt _ (by omega)).trans (get4 _ _ _ 2 hml)
      have q3 : w1.cell? ⟨g, i * 4 + 3, none⟩ = some d := (t2.cellAt _ (by omega)).trans (get4 _ _ _ 3 hml)
      have z2 := t2.frozenAt (i * 4 + 2)
      have z3 := t2.frozenAt (i * 4 + 3)
      have HT2 := hide t2
      clear t2 c0 c1 f0 f1 hb1 HF0 HB0 HS2 hss
      go_wp2
      go_roundw
      case rel =>
        have u3 := (HT2.out.stored (i * 4 + 2) (.string ⟨(Mk.mt (k0 + 4 * i + 2)).toArray⟩)).1
        rw [set4_2 _ _ _ _ _ _ _ _ hml] at u3
        have u4 := (u3.stored (i * 4 + 3) (.int .i64 ((k0 : Int) + 4 * (i : Int) + 1 + 1 + 1))).1
        rw [set4_3 _ _ _ _ _ _ _ _ hml] at u4
        refine ⟨i + 1, by omega, by go_num, by go_num, ?_, fun q hq hqg => ?_, by simp only [size_set4]; omega, (hB1.setCell (p := ⟨g, i * 4 + 2, none⟩) hgB _).setCell (p := ⟨g, i * 4 + 3, none⟩) hgB _, by simp only [size_set4]; omega⟩
        · rw [marked4_succ, List.append_assoc]
          exact u4
        · exact (((Below.heap_setCell _ _ _ _ hqg).trans (Below.heap_setCell _ _ _ _ hqg)).trans (HF1.out q (by omega) hqg)).trans (HFR.out q hq hqg)
      case measure => simp [intOf]; omega
    · obtain rfl : i = n := by omega
      go_wp2
      go_ret
      rw [List.drop_of_length_le (by omega), List.append_nil] at ho
      exact ⟨rfl, ho, hfr, hB⟩

set_option maxRecDepth 100000 in
set_option maxHeartbeats 400000 in
theorem markValue_any (k0 n g cap B : Nat) (xs : List Value) (w : World) (h1 : 1 ≤ k0) (hk : k0 ≤ 5000000) (hn : n ≤ 1048576) (hown : w.ownsRow B 44 4 (.slice (some ⟨g, 0, none⟩) n cap) n xs) (hBs : B ≤ w.heap.size) :
    Calls Tryz.prog 9 #[.agg #[.slice (some ⟨g, 0, none⟩) n cap], .int .i64 (k0 : Int)] w fun e w' => e = .returned (.int .i64 ((k0 : Int) + 4 * (n : Int))) ∧ w'.ownsRow B 44 4 (.slice (some ⟨g, 0, none⟩) n cap) n (marked4 k0 n) ∧ (∀ b, b < w.heap.size → b ≠ g → w'.heap[b]? = w.heap[b]?) ∧ Below B w w' := by
  have hq : Below w.heap.size w (w.alloc (.cells #[.slice (some ⟨g, 0, none⟩) n cap] 28)) := (Below.refl _ _).alloc (Nat.le_refl _) _
  have HM := hide (markAtoms_some k0 n g cap B xs _ h1 hk hn (hown.alloc (.cells #[.slice (some ⟨g, 0, none⟩) n cap] 28)) (by rw [World.size_alloc]; omega))
  clear hown
  go_enter Tryz.func9, Tryz.ntmps9
  go_wp2_with fail
  refine HM.out.mono ?_
  rintro e w1 ⟨rfl, ho, hfr, hb⟩
  go_wp2
  go_ret
  exact ⟨rfl, ho, fun q hq1 hqg => (hfr q (by rw [World.size_alloc]; omega) hqg).trans (hq.block q hq1), (hq.mono hBs).trans hb⟩

set_option maxHeartbeats 400000 in
theorem markN_none (k0 : Nat) (w : World) : Calls Tryz.prog 26 #[.slice none 0 0, .int .i64 (k0 : Int)] w fun e w' => e = .returned (.int .i64 (k0 : Int)) ∧ w' = w := by
  go_enter Tryz.func26, Tryz.ntmps26
  go_wp2
  go_loopw [1, 5] (fun t u wr => t = .int .i64 (k0 : Int) ∧ u = .int .i64 0 ∧ wr = w) (fun _ _ _ => 0)
  case atStart => exact ⟨rfl, rfl, rfl⟩
  case round =>
    obtain ⟨rfl, rfl, rfl⟩ := hrel
    go_wp2
    go_ret
    exact ⟨rfl, rfl⟩
set_option maxHeartbeats 400000 in
theorem markT_none (k0 : Nat) (w : World) : Calls Tryz.prog 9 #[.agg #[.slice none 0 0], .int .i64 (k0 : Int)] w fun e w' => e = .returned (.int .i64 (k0 : Int)) ∧ Below w.heap.size w w' := by
  have hq : Below w.heap.size w (w.alloc (.cells #[.slice none 0 0] 28)) := (Below.refl _ _).alloc (Nat.le_refl _) _
  go_enter Tryz.func9, Tryz.ntmps9
  go_wp2_with fail
  refine (markN_none k0 _).mono ?_
  rintro e w1 ⟨rfl, rfl⟩
  go_wp2
  go_ret
  exact ⟨rfl, hq⟩
theorem marked4_at (k0 n i j : Nat) (hi : i < n) (hj : j < 4) : (marked4 k0 n)[i * 4 + j]? = (mark4 k0 i)[j]? := by
  induction n with
  | zero => omega
  | succ n ih =>
    rw [marked4_succ]
    by_cases h : i < n
    · rw [List.getElem?_append_left (by rw [marked4_len]; omega)]
      exact ih h
    · obtain rfl : i = n := by omega
      exact get4 _ _ _ j (marked4_len k0 i)

set_option maxHeartbeats 400000 in
theorem heldN_none (k0 : Nat) (w : World) : Calls Tryz.prog 27 #[.slice none 0 0, .int .i64 (k0 : Int)] w fun e w' => e = .returned (.int .i64 (k0 : Int)) ∧ w' = w := by
  go_enter Tryz.func27, Tryz.ntmps27
  go_wp2
  go_loopw [1, 5] (fun t u wr => t = .int .i64 (k0 : Int) ∧ u = .int .i64 0 ∧ wr = w) (fun _ _ _ => 0)
  case atStart => exact ⟨rfl, rfl, rfl⟩
  case round =>
    obtain ⟨rfl, rfl, rfl⟩ := hrel
    go_wp2
    go_ret
    exact ⟨rfl, rfl⟩
set_option maxRecDepth 100000 in
set_option maxHeartbeats 1000000 in
theorem heldN_some (k0 n g cap B : Nat) (w : World) (h1 : 1 ≤ k0) (hk : k0 ≤ 5000000) (hn : n ≤ 1048576) (hown : w.ownsRow B 44 4 (.slice (some ⟨g, 0, none⟩) n cap) n (marked4 k0 n)) :
    Calls Tryz.prog 27 #[.slice (some ⟨g, 0, none⟩) n cap, .int .i64 (k0 : Int)] w fun e w' => e = .returned (.int .i64 ((k0 : Int) + 4 * (n : Int))) ∧ Below w.heap.size w w' := by
  have HC : Hid (∀ i j, i < n → j < 4 → w.cell? ⟨g, i * 4 + j, none⟩ = (mark4 k0 i)[j]?) := hide (fun i j hi hj => (hown.cellAt _ (by omega)).trans (marked4_at k0 n i j hi hj))
  have hg := (hown.lt g rfl).2
  clear hown
  go_enter Tryz.func27, Tryz.ntmps27
  go_wp2
  go_loopw [1, 5] (fun t u wr => ∃ i : Nat, i ≤ n ∧ u = .int .i64 i ∧ t = .int .i64 ((k0 : Int) + 4 * (i : Int)) ∧ Below w.heap.size w wr) (fun _ u _ => n - (intOf u).toNat)
  case atStart => exact ⟨0, Nat.zero_le _, rfl, by simp, Below.refl _ _⟩
  case round =>
    obtain ⟨i, hi, rfl, rfl, hB⟩ := hrel
    by_cases hlt : i < n
    · have c0 : wr.cell? ⟨g, i * 4, none⟩ = some (.int .i64 ((k0 : Int) + 4 * (i : Int))) := (hB.cell (p := ⟨g, i * 4, none⟩) hg).trans (HC.out i 0 hlt (by omega))
      have c1 : wr.cell? ⟨g, i * 4 + 1, none⟩ = some (.int .i64 ((k0 : Int) + 4 * (i : Int) + 1)) := (hB.cell (p := ⟨g, i * 4 + 1, none⟩) hg).trans (HC.out i 1 hlt (by omega))
      have c2 : wr.cell? ⟨g, i * 4 + 2, none⟩ = some (.string ⟨(Mk.mt (k0 + 4 * i + 2)).toArray⟩) := (hB.cell (p := ⟨g, i * 4 + 2, none⟩) hg).trans (HC.out i 2 hlt (by omega))
      have hgr : g < wr.heap.size := Nat.lt_of_lt_of_le hg hB.size
      have c3 : wr.cell? ⟨g, i * 4 + 3, none⟩ = some (.int .i64 ((k0 : Int) + 4 * (i : Int) + 1 + 1 + 1)) := (hB.cell (p := ⟨g, i * 4 + 3, none⟩) hg).trans (HC.out i 3 hlt (by omega))
      have HB := hide hB
      clear hB
      go_wp2
      go_region_with (go_at_call 74; refine (markText_any (k0 + 4 * i + 2) _ _ (by omega) (by omega) (by omega)).mono ?_; rintro e w1 ⟨rfl, hb1⟩; have q3 := (hb1.cell (p := ⟨g, i * 4 + 2, none⟩) hgr).trans c2; have q4 := (hb1.cell (p := ⟨g, i * 4 + 3, none⟩) hgr).trans c3; have q5 : Below w.heap.size w w1 := HB.out.trans (Below.mono (w := wr) ⟨hb1.os, hb1.tape, hb1.output, hb1.size, hb1.block⟩ HB.out.size))
      all_goals
        clear hb1 c0 c1 c2 c3
        go_wp2
        go_roundw
        case rel => exact ⟨i + 1, by omega, by go_num, by go_num, q5⟩
        case measure => simp [intOf]; omega
    · obtain rfl : i = n := by omega
      go_wp2
      go_ret
      exact ⟨rfl, hB⟩

set_option maxHeartbeats 400000 in
theorem heldT_none (k0 : Nat) (w : World) : Calls Tryz.prog 10 #[.agg #[.slice none 0 0], .int .i64 (k0 : Int)] w fun e w' => e = .returned (.int .i64 (k0 : Int)) ∧ Below w.heap.size w w' := by
  have hq : Below w.heap.size w (w.alloc (.cells #[.slice none 0 0] 28)) := (Below.refl _ _).alloc (Nat.le_refl _) _
  go_enter Tryz.func10, Tryz.ntmps10
  go_wp2_with fail
  refine (heldN_none k0 _).mono ?_
  rintro e w1 ⟨rfl, rfl⟩
  go_wp2
  go_ret
  exact ⟨rfl, hq⟩
set_option maxRecDepth 100000 in
set_option maxHeartbeats 400000 in
theorem heldT_some (k0 n g cap B : Nat) (w : World) (h1 : 1 ≤ k0) (hk : k0 ≤ 5000000) (hn : n ≤ 1048576) (hown : w.ownsRow B 44 4 (.slice (some ⟨g, 0, none⟩) n cap) n (marked4 k0 n)) :
    Calls Tryz.prog 10 #[.agg #[.slice (some ⟨g, 0, none⟩) n cap], .int .i64 (k0 : Int)] w fun e w' => e = .returned (.int .i64 ((k0 : Int) + 4 * (n : Int))) ∧ Below w.heap.size w w' := by
  have hq : Below w.heap.size w (w.alloc (.cells #[.slice (some ⟨g, 0, none⟩) n cap] 28)) := (Below.refl _ _).alloc (Nat.le_refl _) _
  have HM := hide (heldN_some k0 n g cap B _ h1 hk hn (hown.alloc (.cells #[.slice (some ⟨g, 0, none⟩) n cap] 28)))
  clear hown
  have hkp : ¬ ((k0 : Int) + 4 * (n : Int) < 0) := by omega
  go_enter Tryz.func10, Tryz.ntmps10
  go_wp2_with fail
  refine HM.out.mono ?_
  rintro e w1 ⟨rfl, hb⟩
  go_wp2
  go_ret
  exact ⟨rfl, hq.trans (hb.mono hq.size)⟩
end Go.Proofs.YtnkfbjcgkdblgaaGreat.Vl
namespace Go.Proofs.YtnkfbjcgkdblgaaGreat.Vl
open Go.RowKit T.atoms T.ok T.high T.good T.allPlain

/-- Atoms in a slice, or none. -/
def AtV (w : World) (v : Value) (l : List At) : Prop := (∃ p c, v = .slice p 0 c ∧ l = []) ∨ ∃ g c, v = .slice (some ⟨g, 0, none⟩) l.length c ∧ AtomsAt w g l
/-- A new box. -/
theorem box_in (w : World) (v : Value) : Below w.heap.size w (w.alloc (.cells #[v] 28)) ∧ (w.alloc (.cells #[v] 28)).cell? ⟨w.heap.size, 0, none⟩ = some v ∧ (w.alloc (.cells #[v] 28)).heap.size = w.heap.size + 1 :=
  ⟨(Below.refl _ _).alloc (Nat.le_refl _) _, (cell_new w v 28).1, World.size_alloc _ _⟩
set_option maxRecDepth 100000 in
set_option maxHeartbeats 400000 in
theorem eqS_none (pa pb : Option Addr) (ca cb : Nat) (w : World) : Calls Tryz.prog 25 #[.slice pa 0 ca, .slice pb 0 cb] w fun e w' => e = .returned (.bool true) ∧ Below w.heap.size w w' := by
  go_enter Tryz.func25, Tryz.ntmps25
  go_wp2
  go_loopw [5] (fun u wr => u = .int .i64 0 ∧ wr = w) (fun _ _ => 0)
  case atStart => exact ⟨rfl, rfl⟩
  case round =>
    obtain ⟨rfl, rfl⟩ := hrel
    go_wp2
    go_ret
    exact ⟨rfl, Below.refl _ _⟩
theorem eqS_v (l : List At) (va vb : Value) (w : World) (hl : l.length ≤ 1048576) (ha : AtV w va l) (hb : AtV w vb l) :
    Calls Tryz.prog 25 #[va, vb] w fun e w' => e = .returned (.bool true) ∧ Below w.heap.size w w' := by
  by_cases h0 : l.length = 0
  · have hla : ∃ p c, va = .slice p 0 c := by
      rcases ha with ⟨p, c, h, _⟩ | ⟨g, c, h, _⟩
      · exact ⟨p, c, h⟩
      · exact ⟨_, c, by rw [h, h0]⟩
    have hlb : ∃ p c, vb = .slice p 0 c := by
      rcases hb with ⟨p, c, h, _⟩ | ⟨g, c, h, _⟩
      · exact ⟨p, c, h⟩
      · exact ⟨_, c, by rw [h, h0]⟩
    obtain ⟨pa, ca, rfl⟩ := hla
    obtain ⟨pb, cb, rfl⟩ := hlb
    exact eqS_none pa pb ca cb w
  · rcases ha with ⟨_, _, _, h⟩ | ⟨ga, ca, rfl, ha⟩
    · subst h; simp at h0
    rcases hb with ⟨_, _, _, h⟩ | ⟨gb, cb, rfl, hb⟩
    · subst h; simp at h0
    exact eqS_same l ga gb ca cb w hl ha hb
theorem AtV.below {w w' : World} {v : Value} {l : List At} (h : AtV w v l) (hb : Below w.heap.size w w') : AtV w' v l := by
  rcases h with h | ⟨g, c, h1, h2⟩
  · exact .inl h
  · exact .inr ⟨g, c, h1, h2.below hb⟩

set_option maxRecDepth 100000 in
set_option maxHeartbeats 1000000 in
theorem eqValue_v (l : List At) (va vb : Value) (w : World) (hl : l.length ≤ 1048576) (ha : AtV w va l) (hb : AtV w vb l) :
    Calls Tryz.prog 8 #[.agg #[va], .agg #[vb]] w fun e w' => e = .returned (.bool true) ∧ Below w.heap.size w w' := by
  have HS := hide (fun w' (hq : Below w.heap.size w w') => eqS_v l va vb w' hl (ha.below hq) (hb.below hq))
  have hva : ∃ p n c, va = .slice p n c := by
    rcases ha with ⟨p, c, h, _⟩ | ⟨g, c, h, _⟩ <;> exact ⟨_, _, _, h⟩
  have hvb : ∃ p n c, vb = .slice p n c := by
    rcases hb with ⟨p, c, h, _⟩ | ⟨g, c, h, _⟩ <;> exact ⟨_, _, _, h⟩
  obtain ⟨pa, na, ca, rfl⟩ := hva
  obtain ⟨pb, nb, cb, rfl⟩ := hvb
  clear ha hb
  go_enter Tryz.func8, Tryz.ntmps8
  go_wp2_with fail
  have hq : Below w.heap.size w ((w.alloc (.cells #[.slice pa na ca] 28)).alloc (.cells #[.slice pb nb cb] 28)) := ((Below.refl _ _).alloc (Nat.le_refl _) _).alloc (by simp) _
  refine (HS.out _ hq).mono ?_
  rintro e w1 ⟨rfl, hb1⟩
  go_wp2
  go_ret
  exact ⟨rfl, hq.trans (hb1.mono hq.size)⟩

/-- Atoms in a row of one's own from a block on, or none. -/
def RowN (w : World) (B : Nat) (v : Value) (l : List At) : Prop := (v = .slice none 0 0 ∧ l = []) ∨ ∃ g c, v = .slice (some ⟨g, 0, none⟩) l.length c ∧ B ≤ g ∧ w.ownsRow 0 44 4 v l.length (cellsOf l)
theorem RowN.slice {w : World} {B : Nat} {v : Value} {l : List At} (h : RowN w B v l) : ∃ p n c, v = .slice p n c := by
  rcases h with ⟨h, _⟩ | ⟨g, c, h, _⟩ <;> exact ⟨_, _, _, h⟩
/-- Atoms in a block between two others, or none. -/
def RowS (w : World) (lo hi : Nat) (v : Value) (l : List At) : Prop := (v = .slice none 0 0 ∧ l = []) ∨ ∃ g c, v = .slice (some ⟨g, 0, none⟩) l.length c ∧ lo ≤ g ∧ g < hi ∧ AtomsAt w g l
theorem RowS.slice {w : World} {lo hi : Nat} {v : Value} {l : List At} (h : RowS w lo hi v l) : ∃ p n c, v = .slice p n c := by
  rcases h with ⟨h, _⟩ | ⟨g, c, h, _⟩ <;> exact ⟨_, _, _, h⟩
theorem RowS.ats {w : World} {lo hi : Nat} {v : Value} {l : List At} (h : RowS w lo hi v l) : AtV w v l := by
  rcases h with ⟨h1, h2⟩ | ⟨g, c, h1, _, _, h3⟩
  · exact .inl ⟨none, 0, h1, h2⟩
  · exact .inr ⟨g, c, h1, h3⟩
theorem RowS.below {w w' : World} {lo hi q : Nat} {v : Value} {l : List At} (h : RowS w lo hi v l) (hb : Below q w w') (hq : hi ≤ q) : RowS w' lo hi v l := by
  rcases h with h | ⟨g, c, h1, h2, h3, h4⟩
  · exact .inl h
  · exact .inr ⟨g, c, h1, h2, h3, AtomsO.heap h4 (hb.block g (by omega))⟩
/-- Cells of atoms in a row of one's own between two blocks, or none. -/
def RowT (w : World) (lo hi : Nat) (v : Value) (n : Nat) (xs : List Value) : Prop := (v = .slice none 0 0 ∧ n = 0) ∨ ∃ g c, v = .slice (some ⟨g, 0, none⟩) n c ∧ lo ≤ g ∧ g < hi ∧ w.ownsRow 0 44 4 v n xs
theorem RowN.upto {w : World} {B : Nat} {v : Value} {l : List At} (h : RowN w B v l) : RowT w B w.heap.size v l.length (cellsOf l) := by
  rcases h with ⟨h1, h2⟩ | ⟨g, c, h1, h2, h3⟩
  · exact .inl ⟨h1, by rw [h2]; rfl⟩
  · subst h1
    exact .inr ⟨g, c, rfl, h2, (h3.lt g rfl).2, h3⟩
theorem RowT.ats {w : World} {lo hi : Nat} {v : Value} {l : List At} (h : RowT w lo hi v l.length (cellsOf l)) : AtV w v l := by
  rcases h with ⟨h1, h2⟩ | ⟨g, c, h1, _, _, h3⟩
  · exact .inl ⟨none, 0, h1, List.eq_nil_of_length_eq_zero h2⟩
  · subst h1
    exact .inr ⟨g, c, rfl, atoms_of_row h3⟩
theorem RowT.frame {w w' : World} {lo hi n : Nat} {v : Value} {xs : List Value} (h : RowT w lo hi v n xs) (hb : ∀ b, lo ≤ b → b < hi → b < w.heap.size → w'.heap[b]? = w.heap[b]?) : RowT w' lo hi v n xs := by
  rcases h with h | ⟨g, c, h1, h2, h3, h4⟩
  · exact .inl h
  · subst h1
    exact .inr ⟨g, c, rfl, h2, h3, row_same h4 (hb g h2 h3 (h4.lt g rfl).2)⟩
theorem RowT.below {w w' : World} {lo hi n q : Nat} {v : Value} {xs : List Value} (h : RowT w lo hi v n xs) (hb : Below q w w') (hq : hi ≤ q) : RowT w' lo hi v n xs :=
  h.frame fun b _ h2 _ => hb.block b (by omega)
theorem markT_t (n lo hi : Nat) (v : Value) (xs : List Value) (w : World) (hn : n ≤ 1048576) (hlo : lo ≤ w.heap.size) (h : RowT w lo hi v n xs) :
    Calls Tryz.prog 9 #[.agg #[v], .int .i64 1] w fun e w' => e = .returned (.int .i64 (1 + 4 * (n : Int))) ∧ RowT w' lo hi v n (marked4 1 n) ∧ (∀ b, b < w.heap.size → hi ≤ b → w'.heap[b]? = w.heap[b]?) ∧ Below lo w w' := by
  rcases h with ⟨rfl, rfl⟩ | ⟨g, c, rfl, h2, h2', h3⟩
  · refine (markT_none 1 w).mono ?_
    rintro e w' ⟨rfl, hb⟩
    exact ⟨rfl, .inl ⟨rfl, rfl⟩, fun b hb1 _ => hb.block b hb1, hb.mono hlo⟩
  · refine (markValue_any 1 n g c 0 xs w (by omega) (by omega) hn h3 (Nat.zero_le _)).mono ?_
    have hg := (h3.lt g rfl).2
    rintro e w' ⟨rfl, ho, hfr, hb⟩
    exact ⟨rfl, .inr ⟨g, c, rfl, h2, h2', ho⟩, fun b hb1 hb2 => hfr b hb1 (by omega), ⟨hb.os, hb.tape, hb.output, hb.size, fun b hbb => hfr b (by omega) (by omega)⟩⟩
theorem heldT_t (n lo hi : Nat) (v : Value) (w : World) (hn : n ≤ 1048576) (h : RowT w lo hi v n (marked4 1 n)) :
    Calls Tryz.prog 10 #[.agg #[v], .int .i64 1] w fun e w' => e = .returned (.int .i64 (1 + 4 * (n : Int))) ∧ Below w.heap.size w w' := by
  rcases h with ⟨rfl, rfl⟩ | ⟨g, c, rfl, _, _, h3⟩
  · exact heldT_none 1 w
  · exact heldT_some 1 n g c 0 w (by omega) (by omega) hn h3
/-- The law's own argument, in a later world. -/
structure LB5 (w : World) (v : Value) (W : World) : Prop where
  B : Below w.heap.size w W
  c : W.cell? ⟨w.heap.size, 0, none⟩ = some v
  z : w.heap.size < W.heap.size
theorem LB5.below {w W W' : World} {v : Value} {q : Nat} (h : LB5 w v W) (hb : Below q W W') (hq : w.heap.size < q) : LB5 w v W' :=
  ⟨h.B.trans (hb.mono (by omega)), (hb.cell (p := ⟨w.heap.size, 0, none⟩) hq).trans h.c, Nat.lt_of_lt_of_le h.z hb.size⟩
/-- With what the specification answered. -/
structure LR (w : World) (v vs : Value) (q2 q3 : Nat) (b : List At) (W : World) : Prop where
  L : LB5 w v W
  U : W.cell? ⟨q3, 0, none⟩ = some vs
  S : RowS W q2 q3 vs b
  o : w.heap.size < q3
  z : q3 < W.heap.size
theorem LR.below {w W W' : World} {v vs : Value} {q2 q3 q : Nat} {b : List At} (h : LR w v vs q2 q3 b W) (hb : Below q W W') (hq : q3 < q) : LR w v vs q2 q3 b W' :=
  ⟨h.L.below hb (by have := h.o; omega), (hb.cell (p := ⟨q3, 0, none⟩) hq).trans h.U, h.S.below hb (by omega), h.o, Nat.lt_of_lt_of_le h.z hb.size⟩
/-- What the program answered. -/
structure LG (vg : Value) (q4 q5 n : Nat) (xs : List Value) (W : World) : Prop where
  G : W.cell? ⟨q5, 0, none⟩ = some vg
  R : RowT W q4 q5 vg n xs
  z : q5 < W.heap.size
theorem LG.below {W W' : World} {vg : Value} {q4 q5 n q : Nat} {xs : List Value} (h : LG vg q4 q5 n xs W) (hb : Below q W W') (hq : q5 < q) : LG vg q4 q5 n xs W' :=
  ⟨(hb.cell (p := ⟨q5, 0, none⟩) hq).trans h.G, h.R.below hb (by omega), Nat.lt_of_lt_of_le h.z hb.size⟩
theorem LG.but {W W' : World} {vg : Value} {q4 q5 n q : Nat} {xs : List Value} (h : LG vg q4 q5 n xs W) (hs : W.heap.size ≤ W'.heap.size) (hb : ∀ b, b < W.heap.size → b ≠ q → W'.heap[b]? = W.heap[b]?) (hq : q < q4) (hq5 : q4 ≤ q5) : LG vg q4 q5 n xs W' :=
  ⟨(World.cell?_of_block (a := ⟨q5, 0, none⟩) (hb q5 h.z (by omega))).trans h.G, h.R.frame (fun b h1 _ h3 => hb b h3 (by omega)), Nat.lt_of_lt_of_le h.z hs⟩
/-- The program's argument. -/
structure LX (q3 q4 gb : Nat) (l : List At) (W : World) : Prop where
  X : W.cell? ⟨q4, 0, none⟩ = some (.slice (some ⟨gb, 0, none⟩) l.length l.length)
  N : OwnA W q3 gb l
  o : gb < q4
  z : q4 < W.heap.size
theorem LX.below {W W' : World} {q3 q4 gb q : Nat} {l : List At} (h : LX q3 q4 gb l W) (hb : Below q W W') (hq : q4 < q) : LX q3 q4 gb l W' :=
  ⟨(hb.cell (p := ⟨q4, 0, none⟩) hq).trans h.X, row_same h.N (hb.block gb (by have := h.o; omega)), h.o, Nat.lt_of_lt_of_le h.z hb.size⟩
end Go.Proofs.YtnkfbjcgkdblgaaGreat.Vl
namespace Go.Proofs.YtnkfbjcgkdblgaaGreat.Vl
open Go.RowKit T.atoms T.ok T.high T.good T.allPlain

/-- The law's two arguments, in a later world. -/
structure LB6 (w : World) (v v' : Value) (W : World) : Prop where
  B : Below w.heap.size w W
  c : W.cell? ⟨w.heap.size, 0, none⟩ = some v
  c' : W.cell? ⟨w.heap.size + 1, 0, none⟩ = some v'
  z : w.heap.size + 1 < W.heap.size
theorem LB6.below {w W W' : World} {v v' : Value} {q : Nat} (h : LB6 w v v' W) (hb : Below q W W') (hq : w.heap.size + 1 < q) : LB6 w v v' W' :=
  ⟨h.B.trans (hb.mono (by omega)), (hb.cell (p := ⟨w.heap.size, 0, none⟩) (by show w.heap.size < q; omega)).trans h.c, (hb.cell (p := ⟨w.heap.size + 1, 0, none⟩) hq).trans h.c', Nat.lt_of_lt_of_le h.z hb.size⟩
theorem LB6.drew {w W : World} {v v' : Value} (h : LB6 w v v' W) : LB6 w v v' W.drew := h.below (Below.refl _ _).drew h.z
/-- A box of a value's, made by a region that draws. -/
structure BX (q : Nat) (W : World) : Prop where
  c : W.cell? ⟨q, 0, none⟩ = some (.slice none 0 0)
  f : W.frozen? ⟨q, 0, none⟩ = false
  z : q < W.heap.size
theorem BX.below {q : Nat} {W W' : World} (h : BX q W) (hb : Below W.heap.size W W') : BX q W' := ⟨(hb.cell (p := ⟨q, 0, none⟩) h.z).trans h.c, (hb.frozen (p := ⟨q, 0, none⟩) h.z).trans h.f, Nat.lt_of_lt_of_le h.z hb.size⟩
theorem BX.new (W : World) : BX W.heap.size (W.alloc (.cells #[.slice none 0 0] 28)) := by
  have n := cell_new W (.slice none 0 0) 28
  exact ⟨n.1, n.2, by simp⟩
theorem RowS.put {W : World} {lo hi q : Nat} {v x : Value} {l : List At} (h : RowS W lo hi v l) (hq : q < lo ∨ hi ≤ q) : RowS (W.setCell ⟨q, 0, none⟩ x) lo hi v l := by
  rcases h with h | ⟨g, c, h1, h2, h3, h4⟩
  · exact .inl h
  · exact .inr ⟨g, c, h1, h2, h3, AtomsO.heap h4 (Below.heap_setCell _ _ _ _ (show g ≠ q by omega))⟩
end Go.Proofs.YtnkfbjcgkdblgaaGreat.Vl
