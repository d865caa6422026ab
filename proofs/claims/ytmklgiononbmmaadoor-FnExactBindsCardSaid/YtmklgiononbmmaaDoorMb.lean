/- Walks: the law's marks in nodes and numbers. -/
import Derived.Test.YtmklgiononbmmaaDoorMa
namespace Go.Proofs.YtmklgiononbmmaaDoor
open Go.RowKit

/-- The five marks of node i. -/
def Tr.mark5 (i : Nat) : List Value := [.int .i64 (1 + 5 * (i : Int)), .int .i64 (1 + 5 * (i : Int) + 1), .int .i64 (1 + 5 * (i : Int) + 1 + 1), .string ⟨(Sc.mt (4 + 5 * i)).toArray⟩, .int .i64 (1 + 5 * (i : Int) + 1 + 1 + 1 + 1)]
def Tr.marked5 (n : Nat) : List Value := (List.range n).flatMap Tr.mark5
theorem Tr.marked5_succ (n : Nat) : Tr.marked5 (n + 1) = Tr.marked5 n ++ Tr.mark5 n := by simp [Tr.marked5, List.range_succ]
theorem Tr.marked5_len (n : Nat) : (Tr.marked5 n).length = n * 5 := by
  induction n with
  | zero => rfl
  | succ n ih => rw [Tr.marked5_succ, List.length_append, ih]; simp [Tr.mark5]; omega
theorem row_belowS {w w1 : World} {base : Nat} {e : TypeId} {size : Nat} {v : Value} {n : Nat} {xs : List Value} (h : w.ownsRow base e size v n xs) (hb : Below w.heap.size w w1) : w1.ownsRow base e size v n xs :=
  h.kept (row := none) ⟨hb.os, hb.tape, hb.output, hb.size, fun k hk _ => hb.block k hk⟩ (by
    cases e : v.ownBlock with
    | none => exact .inl rfl
    | some q => exact .inr (by simp))
theorem get5 (P R : List Value) (k j : Nat) (h : P.length = k) : (P ++ R)[k + j]? = R[j]? := by
  subst h; rw [List.getElem?_append_right (by omega)]; congr 1; omega

set_option maxRecDepth 100000 in
set_option maxHeartbeats 1000000 in
theorem markNodes_some (n g cap B : Nat) (xs : List Value) (w : World) (hn : n ≤ 1048576) (hown : w.ownsRow B 61 5 (.slice (some ⟨g, 0, none⟩) n cap) n xs) (hBs : B ≤ w.heap.size) :
    Calls Tryd.prog 33 #[.slice (some ⟨g, 0, none⟩) n cap, .int .i64 1] w fun e w' => e = .returned (.int .i64 (1 + 5 * (n : Int))) ∧ w'.ownsRow B 61 5 (.slice (some ⟨g, 0, none⟩) n cap) n (Tr.marked5 n) ∧ (∀ b, b < w.heap.size → b ≠ g → w'.heap[b]? = w.heap[b]?) ∧ Below B w w' := by
  have hgB := (hown.lt g rfl).1
  have hxl : xs.length = n * 5 := hown.1
  go_enter Tryd.func33, Tryd.ntmps33
  go_wp2
  go_loopw [1, 5] (fun t u wr => ∃ i : Nat, i ≤ n ∧ u = .int .i64 i ∧ t = .int .i64 (1 + 5 * (i : Int)) ∧ wr.ownsRow B 61 5 (.slice (some ⟨g, 0, none⟩) n cap) n (Tr.marked5 i ++ xs.drop (i * 5)) ∧ (∀ b, b < w.heap.size → b ≠ g → wr.heap[b]? = w.heap[b]?) ∧ w.heap.size ≤ wr.heap.size ∧ Below B w wr ∧ B ≤ wr.heap.size) (fun _ u _ => n - (intOf u).toNat)
  case atStart => exact ⟨0, Nat.zero_le _, rfl, rfl, by simpa [Tr.marked5] using hown, fun _ _ _ => rfl, Nat.le_refl _, Below.refl _ _, hBs⟩
  case round =>
    obtain ⟨i, hi, rfl, rfl, ho, hfr, hws, hB, hsz⟩ := hrel
    by_cases hlt : i < n
    · obtain ⟨a, b, c, d, e, hd5⟩ := drop5 xs i (by omega)
      have hml := Tr.marked5_len i
      rw [hd5] at ho
      have HD := hide hd5
      clear hd5
      have hg1 : g < wr.heap.size := (ho.lt g rfl).2
      have k0 : wr.cell? ⟨g, i * 5, none⟩ = some a := (ho.cellAt _ (by omega)).trans (get5 _ _ _ 0 hml)
      have k1 : wr.cell? ⟨g, i * 5 + 1, none⟩ = some b := (ho.cellAt _ (by omega)).trans (get5 _ _ _ 1 hml)
      have k2 : wr.cell? ⟨g, i * 5 + 2, none⟩ = some c := (ho.cellAt _ (by omega)).trans (get5 _ _ _ 2 hml)
      have f0 := ho.frozenAt (i * 5)
      have f1 := ho.frozenAt (i * 5 + 1)
      have f2 := ho.frozenAt (i * 5 + 2)
      have s0 := (ho.stored (i * 5) (.int .i64 (1 + 5 * (i : Int)))).1
      rw [set5_0 _ _ _ _ _ _ _ _ _ hml] at s0
      have s1 := (s0.stored (i * 5 + 1) (.int .i64 (1 + 5 * (i : Int) + 1))).1
      rw [set5_1 _ _ _ _ _ _ _ _ _ hml] at s1
      have s2 := (s1.stored (i * 5 + 2) (.int .i64 (1 + 5 * (i : Int) + 1 + 1))).1
      rw [set5_2 _ _ _ _ _ _ _ _ _ hml] at s2
      have hB0 : Below B w (((wr.setCell ⟨g, i * 5, none⟩ (.int .i64 (1 + 5 * (i : Int)))).setCell ⟨g, i * 5 + 1, none⟩ (.int .i64 (1 + 5 * (i : Int) + 1))).setCell ⟨g, i * 5 + 2, none⟩ (.int .i64 (1 + 5 * (i : Int) + 1 + 1))) := ((hB.setCell (p := ⟨g, i * 5, none⟩) hgB _).setCell (p := ⟨g, i * 5 + 1, none⟩) hgB _).setCell (p := ⟨g, i * 5 + 2, none⟩) hgB _
      have hfr0 : ∀ q, q ≠ g → (((wr.setCell ⟨g, i * 5, none⟩ (.int .i64 (1 + 5 * (i : Int)))).setCell ⟨g, i * 5 + 1, none⟩ (.int .i64 (1 + 5 * (i : Int) + 1))).setCell ⟨g, i * 5 + 2, none⟩ (.int .i64 (1 + 5 * (i : Int) + 1 + 1))).heap[q]? = wr.heap[q]? := fun q hq => ((Below.heap_setCell _ _ _ _ hq).trans (Below.heap_setCell _ _ _ _ hq)).trans (Below.heap_setCell _ _ _ _ hq)
      have HS2 := hide s2
      have HB0 := hide hB0
      have HF0 := hide hfr0
      have HFR := hide hfr
      clear s0 s1 s2 ho hB0 hfr0 hfr
      go_wp2_with fail
      refine (markText_any (4 + 5 * i) _ _ (by omega) (by omega) (by omega)).mono ?_
      rintro e w1 ⟨rfl, hb1⟩
      have t2 := row_belowS HS2.out hb1
      have hss : ∀ (p q r : Addr) (x y z : Value), (((wr.setCell p x).setCell q y).setCell r z).heap.size = wr.heap.size := fun p q r x y z => by rw [size_set5, size_set5, size_set5]
      have hb1s := hb1.size
      rw [hss] at hb1s
      have hB1 : Below B w w1 := HB0.out.trans (hb1.mono (by rw [hss]; exact hsz))
      have HF1 : Hid (∀ q, q < wr.heap.size → q ≠ g → w1.heap[q]? = wr.heap[q]?) := hide (fun q hq hqg => (hb1.block q (by rw [hss]; exact hq)).trans (HF0.out q hqg))
      have q3 : w1.cell? ⟨g, i * 5 + 3, none⟩ = some d := (t2.cellAt _ (by omega)).trans (get5 _ _ _ 3 hml)
      have q4 : w1.cell? ⟨g, i * 5 + 4, none⟩ = some e := (t2.cellAt _ (by omega)).trans (get5 _ _ _ 4 hml)
      have z3 := t2.frozenAt (i * 5 + 3)
      have z4 := t2.frozenAt (i * 5 + 4)
      have HT2 := hide t2
      clear t2 k0 k1 k2 f0 f1 f2 hb1 HF0 HB0 HS2 hss
      go_wp2
      go_roundw
      case rel =>
        have u3 := (HT2.out.stored (i * 5 + 3) (.string ⟨(Sc.mt (4 + 5 * i)).toArray⟩)).1
        rw [set5_3 _ _ _ _ _ _ _ _ _ hml] at u3
        have u4 := (u3.stored (i * 5 + 4) (.int .i64 (1 + 5 * (i : Int) + 1 + 1 + 1 + 1))).1
        rw [set5_4 _ _ _ _ _ _ _ _ _ hml] at u4
        refine ⟨i + 1, by omega, by go_num, by go_num, ?_, fun q hq hqg => ?_, by simp only [size_set5]; omega, (hB1.setCell (p := ⟨g, i * 5 + 3, none⟩) hgB _).setCell (p := ⟨g, i * 5 + 4, none⟩) hgB _, by simp only [size_set5]; omega⟩
        · rw [Tr.marked5_succ, List.append_assoc]
          exact u4
        · exact (((Below.heap_setCell _ _ _ _ hqg).trans (Below.heap_setCell _ _ _ _ hqg)).trans (HF1.out q (by omega) hqg)).trans (HFR.out q hq hqg)
      case measure => simp [intOf]; omega
    · obtain rfl : i = n := by omega
      go_wp2
      go_ret
      rw [List.drop_of_length_le (by omega), List.append_nil] at ho
      exact ⟨rfl, ho, hfr, hB⟩

set_option maxRecDepth 100000 in
set_option maxHeartbeats 400000 in
theorem markTree_any (n g cap B : Nat) (xs : List Value) (w : World) (hn : n ≤ 1048576) (hown : w.ownsRow B 61 5 (.slice (some ⟨g, 0, none⟩) n cap) n xs) (hBs : B ≤ w.heap.size) :
    Calls Tryd.prog 16 #[.agg #[.slice (some ⟨g, 0, none⟩) n cap], .int .i64 1] w fun e w' => e = .returned (.int .i64 (1 + 5 * (n : Int))) ∧ w'.ownsRow B 61 5 (.slice (some ⟨g, 0, none⟩) n cap) n (Tr.marked5 n) ∧ (∀ b, b < w.heap.size → b ≠ g → w'.heap[b]? = w.heap[b]?) ∧ Below B w w' := by
  have hq : Below w.heap.size w (w.alloc (.cells #[.slice (some ⟨g, 0, none⟩) n cap] 31)) := (Below.refl _ _).alloc (Nat.le_refl _) _
  have HM := hide (markNodes_some n g cap B xs _ hn (hown.alloc (.cells #[.slice (some ⟨g, 0, none⟩) n cap] 31)) (by rw [World.size_alloc]; omega))
  clear hown
  go_enter Tryd.func16, Tryd.ntmps16
  go_wp2_with fail
  refine HM.out.mono ?_
  rintro e w1 ⟨rfl, ho, hfr, hb⟩
  go_wp2
  go_ret
  exact ⟨rfl, ho, fun q hq1 hqg => (hfr q (by rw [World.size_alloc]; omega) hqg).trans (hq.block q hq1), (hq.mono hBs).trans hb⟩

def Tr.markI (n : Nat) : List Value := (List.range n).map fun (i : Nat) => Value.int .i64 (1 + (i : Int))
theorem Tr.markI_succ (n : Nat) : Tr.markI (n + 1) = Tr.markI n ++ [.int .i64 (1 + (n : Int))] := by simp [Tr.markI, List.range_succ]
theorem Tr.markI_len (n : Nat) : (Tr.markI n).length = n := by simp [Tr.markI]

set_option maxRecDepth 100000 in
set_option maxHeartbeats 1000000 in
theorem markI_some (n g cap B : Nat) (xs : List Value) (w : World) (hn : n ≤ 1048576) (hown : w.ownsRow B 3 1 (.slice (some ⟨g, 0, none⟩) n cap) n xs) :
    Calls Tryd.prog 17 #[.slice (some ⟨g, 0, none⟩) n cap, .int .i64 1] w fun e w' => e = .returned (.int .i64 (1 + (n : Int))) ∧ w'.ownsRow B 3 1 (.slice (some ⟨g, 0, none⟩) n cap) n (Tr.markI n) ∧ (∀ b, b ≠ g → w'.heap[b]? = w.heap[b]?) ∧ Below B w w' := by
  have hgB := (hown.lt g rfl).1
  have hxl : xs.length = n := by have := hown.1; omega
  go_enter Tryd.func17, Tryd.ntmps17
  go_wp2
  go_loopw [1, 5] (fun t u wr => ∃ i : Nat, i ≤ n ∧ u = .int .i64 i ∧ t = .int .i64 (1 + (i : Int)) ∧ wr.ownsRow B 3 1 (.slice (some ⟨g, 0, none⟩) n cap) n (Tr.markI i ++ xs.drop i) ∧ (∀ b, b ≠ g → wr.heap[b]? = w.heap[b]?) ∧ Below B w wr) (fun _ u _ => n - (intOf u).toNat)
  case atStart => exact ⟨0, Nat.zero_le _, rfl, rfl, by simpa [Tr.markI] using hown, fun _ _ => rfl, Below.refl _ _⟩
  case round =>
    obtain ⟨i, hi, rfl, rfl, ho, hfr, hB⟩ := hrel
    by_cases hlt : i < n
    · have hml := Tr.markI_len i
      rw [List.drop_eq_getElem_cons (show i < xs.length by omega)] at ho
      generalize xs[i] = a at *
      have k0 : wr.cell? ⟨g, i, none⟩ = some a := (ho.cellAt _ (by omega)).trans (get5 _ _ _ 0 hml)
      have f0 := ho.frozenAt i
      have s0 := (ho.stored i (.int .i64 (1 + (i : Int)))).1
      rw [show (Tr.markI i ++ a :: xs.drop (i + 1)).set i (.int .i64 (1 + (i : Int))) = Tr.markI (i + 1) ++ xs.drop (i + 1) from by
        rw [Tr.markI_succ, List.set_append_right (h := by omega), hml, Nat.sub_self]; simp] at s0
      have HS0 := hide s0
      have HFR := hide hfr
      clear s0 ho hfr
      go_wp2
      go_roundw
      case rel => exact ⟨i + 1, by omega, by go_num, by go_num, HS0.out, fun q hq => (Below.heap_setCell _ _ _ _ hq).trans (HFR.out q hq), hB.setCell (p := ⟨g, i, none⟩) hgB _⟩
      case measure => simp [intOf]; omega
    · obtain rfl : i = n := by omega
      go_wp2
      go_ret
      rw [List.drop_of_length_le (by omega), List.append_nil] at ho
      exact ⟨rfl, ho, hfr, hB⟩
set_option maxHeartbeats 400000 in
theorem markI_none (oa : Option Addr) (ca : Nat) (w : World) : Calls Tryd.prog 17 #[.slice oa 0 ca, .int .i64 1] w fun e w' => e = .returned (.int .i64 1) ∧ w' = w := by
  go_enter Tryd.func17, Tryd.ntmps17
  go_wp2
  go_loopw [1, 5] (fun t u wr => t = .int .i64 1 ∧ u = .int .i64 0 ∧ wr = w) (fun _ _ _ => 0)
  case atStart => exact ⟨rfl, rfl, rfl⟩
  case round =>
    obtain ⟨rfl, rfl, rfl⟩ := hrel
    go_wp2
    go_ret
    exact ⟨rfl, rfl⟩
set_option maxHeartbeats 400000 in
theorem heldI_none (oa : Option Addr) (ca : Nat) (w : World) : Calls Tryd.prog 18 #[.slice oa 0 ca, .int .i64 1] w fun e w' => e = .returned (.int .i64 1) ∧ w' = w := by
  go_enter Tryd.func18, Tryd.ntmps18
  go_wp2
  go_loopw [1, 5] (fun t u wr => t = .int .i64 1 ∧ u = .int .i64 0 ∧ wr = w) (fun _ _ _ => 0)
  case atStart => exact ⟨rfl, rfl, rfl⟩
  case round =>
    obtain ⟨rfl, rfl, rfl⟩ := hrel
    go_wp2
    go_ret
    exact ⟨rfl, rfl⟩
set_option maxRecDepth 100000 in
set_option maxHeartbeats 1000000 in
theorem heldI_some (n g cap B : Nat) (w : World) (hn : n ≤ 1048576) (hown : w.ownsRow B 3 1 (.slice (some ⟨g, 0, none⟩) n cap) n (Tr.markI n)) :
    Calls Tryd.prog 18 #[.slice (some ⟨g, 0, none⟩) n cap, .int .i64 1] w fun e w' => e = .returned (.int .i64 (1 + (n : Int))) ∧ w' = w := by
  have HO := hide hown
  clear hown
  go_enter Tryd.func18, Tryd.ntmps18
  go_wp2
  go_loopw [1, 5] (fun t u wr => ∃ i : Nat, i ≤ n ∧ u = .int .i64 i ∧ t = .int .i64 (1 + (i : Int)) ∧ wr = w) (fun _ u _ => n - (intOf u).toNat)
  case atStart => exact ⟨0, Nat.zero_le _, rfl, rfl, rfl⟩
  case round =>
    obtain ⟨i, hi, rfl, rfl, rfl⟩ := hrel
    by_cases hlt : i < n
    · have k0 : wr.cell? ⟨g, i, none⟩ = some (.int .i64 (1 + (i : Int))) := (HO.out.cellAt _ (by omega)).trans (by simp [Tr.markI, hlt])
      go_wp2
      go_roundw
      case rel => exact ⟨i + 1, by omega, by go_num, by go_num, by trivial⟩
      case measure => simp [intOf]; omega
    · obtain rfl : i = n := by omega
      go_wp2
      go_ret
      exact ⟨rfl, rfl⟩
/-- Numbers in a slice, or none. -/
def NumV (w : World) (v : Value) (l : List Int) : Prop := (∃ p c, v = .slice p 0 c ∧ l = []) ∨ ∃ g c, v = .slice (some ⟨g, 0, none⟩) l.length c ∧ g < w.heap.size ∧ ∀ j (h : j < l.length), w.cell? ⟨g, j, none⟩ = some (.int .i64 l[j])

set_option maxRecDepth 100000 in
set_option maxHeartbeats 1000000 in
theorem eqI_same (l : List Int) (va vb : Value) (w : World) (hl : l.length ≤ 1048576) (ha : NumV w va l) (hb : NumV w vb l) :
    Calls Tryd.prog 15 #[va, vb] w fun e w' => e = .returned (.bool true) ∧ Below w.heap.size w w' := by
  by_cases h0 : l.length = 0
  · have hla : ∃ p c, va = .slice p 0 c := by
      rcases ha with ⟨p, c, h, _⟩ | ⟨g, c, h, _⟩
      · exact ⟨p, c, h⟩
      · exact ⟨_, c, by rw [h, h0]⟩
    have hlb : ∃ p c, vb = .slice p 0 c := by
      rcases hb with ⟨p, c, h, _⟩ | ⟨g, c, h, _⟩
      · exact ⟨p, c, h⟩
      · exact ⟨_, c, by rw [h, h0]⟩
    obtain ⟨pa, ca, rfl⟩ := hla
    obtain ⟨pb, cb, rfl⟩ := hlb
    clear ha hb
    go_enter Tryd.func15, Tryd.ntmps15
    go_wp2
    go_loopw [5] (fun u wr => u = .int .i64 0 ∧ wr = w) (fun _ _ => 0)
    case atStart => exact ⟨rfl, rfl⟩
    case round =>
      obtain ⟨rfl, rfl⟩ := hrel
      go_wp2
      go_ret
      exact ⟨rfl, Below.refl _ _⟩
  · rcases ha with ⟨_, _, _, h⟩ | ⟨ga, ca, rfl, hga, ha⟩
    · subst h; simp at h0
    rcases hb with ⟨_, _, _, h⟩ | ⟨gb, cb, rfl, hgb, hb⟩
    · subst h; simp at h0
    have HA := hide ha
    have HB := hide hb
    clear ha hb
    go_enter Tryd.func15, Tryd.ntmps15
    go_wp2
    go_loopw [5] (fun u wr => ∃ i : Nat, i ≤ l.length ∧ u = .int .i64 i ∧ Below w.heap.size w wr) (fun u _ => l.length - (intOf u).toNat)
    case atStart => exact ⟨0, Nat.zero_le _, rfl, Below.refl _ _⟩
    case round =>
      obtain ⟨i, hi, rfl, hBr⟩ := hrel
      by_cases hlt : i < l.length
      · have a0 := (hBr.cell (p := ⟨ga, i, none⟩) hga).trans (HA.out i hlt)
        have b0 := (hBr.cell (p := ⟨gb, i, none⟩) hgb).trans (HB.out i hlt)
        generalize l[i] = x at *
        go_wp2
        go_quiet (fail)
        go_wp2
        go_roundw
        case rel => exact ⟨i + 1, by omega, by go_num, below_drewN hBr _⟩
        case measure => simp [intOf]; omega
      · go_wp2
        go_ret
        exact ⟨rfl, hBr⟩
end Go.Proofs.YtmklgiononbmmaaDoor
