/- Walks: the law's functions on nodes, for values that may be none. -/
import Derived.Test.YthjilpnipidababDoorMb
import Derived.Test.YthjilpnipidababDoorRa
namespace Go.Proofs.YthjilpnipidababDoor
open Go.RowKit

/-- Nodes in a slice, or none. -/
def NodV (w : World) (v : Value) (l : List Tr.Nd) : Prop := (∃ p c, v = .slice p 0 c ∧ l = []) ∨ ∃ g c, v = .slice (some ⟨g, 0, none⟩) l.length c ∧ NodesAt w g l
theorem RowN.nod {w : World} {B : Nat} {v : Value} {l : List Tr.Nd} (h : RowN w B v l) : NodV w v l := by
  rcases h with ⟨h1, h2⟩ | ⟨g, c, h1, _, h3⟩
  · exact .inl ⟨none, 0, h1, h2⟩
  · subst h1
    exact .inr ⟨g, c, rfl, nodes_of_row h3⟩
theorem RowN.slice {w : World} {B : Nat} {v : Value} {l : List Tr.Nd} (h : RowN w B v l) : ∃ p n c, v = .slice p n c := by
  rcases h with ⟨h, _⟩ | ⟨g, c, h, _⟩ <;> exact ⟨_, _, _, h⟩
/-- A new box. -/
theorem box_in (w : World) (v : Value) : Below w.heap.size w (w.alloc (.cells #[v] 38)) ∧ (w.alloc (.cells #[v] 38)).cell? ⟨w.heap.size, 0, none⟩ = some v ∧ (w.alloc (.cells #[v] 38)).heap.size = w.heap.size + 1 :=
  ⟨(Below.refl _ _).alloc (Nat.le_refl _) _, (cell_new w v 38).1, World.size_alloc _ _⟩
/-- Cells of nodes in a row of one's own from a block on, or none. -/
def RowM (w : World) (B : Nat) (v : Value) (n : Nat) (xs : List Value) : Prop := (v = .slice none 0 0 ∧ n = 0) ∨ ∃ g c, v = .slice (some ⟨g, 0, none⟩) n c ∧ B ≤ g ∧ w.ownsRow 0 77 5 v n xs
theorem RowN.cells {w : World} {B : Nat} {v : Value} {l : List Tr.Nd} (h : RowN w B v l) : RowM w B v l.length (Tr.cellsOf l) := by
  rcases h with ⟨h1, h2⟩ | h
  · exact .inl ⟨h1, by rw [h2]; rfl⟩
  · exact .inr h
theorem RowN.below {w w' : World} {B : Nat} {v : Value} {l : List Tr.Nd} (h : RowN w B v l) (hb : Below w.heap.size w w') : RowN w' B v l := by
  rcases h with h | ⟨g, c, h1, h2, h3⟩
  · exact .inl h
  · exact .inr ⟨g, c, h1, h2, row_belowS h3 hb⟩
theorem RowN.but {w w' : World} {B q : Nat} {v : Value} {l : List Tr.Nd} (h : RowN w B v l) (hq : q < B) (hb : ∀ b, b < w.heap.size → b ≠ q → w'.heap[b]? = w.heap[b]?) : RowN w' B v l := by
  rcases h with h | ⟨g, c, h1, h2, h3⟩
  · exact .inl h
  · subst h1
    exact .inr ⟨g, c, rfl, h2, row_same h3 (hb g (h3.lt g rfl).2 (by omega))⟩
theorem RowN.low {w w' : World} {B q : Nat} {v : Value} {l : List Tr.Nd} (h : RowN w B v l) (hq : w.heap.size ≤ q) (hb : Below q w' w' → ∀ b, b < q → w'.heap[b]? = w.heap[b]?) : RowN w' B v l := by
  rcases h with h | ⟨g, c, h1, h2, h3⟩
  · exact .inl h
  · subst h1
    exact .inr ⟨g, c, rfl, h2, row_same h3 (hb (Below.refl _ _) g (by have := (h3.lt g rfl).2; omega))⟩
theorem RowM.below {w w' : World} {B n : Nat} {v : Value} {xs : List Value} (h : RowM w B v n xs) (hb : Below w.heap.size w w') : RowM w' B v n xs := by
  rcases h with h | ⟨g, c, h1, h2, h3⟩
  · exact .inl h
  · exact .inr ⟨g, c, h1, h2, row_belowS h3 hb⟩

set_option maxRecDepth 100000 in
set_option maxHeartbeats 400000 in
theorem eqS_none (pa pb : Option Addr) (ca cb : Nat) (w : World) : Calls Tryd.prog 42 #[.slice pa 0 ca, .slice pb 0 cb] w fun e w' => e = .returned (.bool true) ∧ Below w.heap.size w w' := by
  go_enter Tryd.func42, Tryd.ntmps42
  go_wp2
  go_loopw [5] (fun u wr => u = .int .i64 0 ∧ wr = w) (fun _ _ => 0)
  case atStart => exact ⟨rfl, rfl⟩
  case round =>
    obtain ⟨rfl, rfl⟩ := hrel
    go_wp2
    go_ret
    exact ⟨rfl, Below.refl _ _⟩
theorem eqS_v (l : List Tr.Nd) (va vb : Value) (w : World) (hl : l.length ≤ 1048576) (ha : NodV w va l) (hb : NodV w vb l) :
    Calls Tryd.prog 42 #[va, vb] w fun e w' => e = .returned (.bool true) ∧ Below w.heap.size w w' := by
  by_cases h0 : l.length = 0
  · have hla : ∃ p c, va = .slice p 0 c := by
      rcases ha with ⟨p, c, h, _⟩ | ⟨g, c, h, _⟩
      · exact ⟨p, c, h⟩
      · exact ⟨_, c, by rw [h, h0]⟩
    have hlb : ∃ p c, vb = .slice p 0 c := by
      rcases hb with ⟨p, c, h, _⟩ | ⟨g, c, h, _⟩
      · exact ⟨p, c, h⟩
      · exact ⟨_, c, by rw [h, h0]⟩
    obtain ⟨pa, ca, rfl⟩ := hla
    obtain ⟨pb, cb, rfl⟩ := hlb
    exact eqS_none pa pb ca cb w
  · rcases ha with ⟨_, _, _, h⟩ | ⟨ga, ca, rfl, ha⟩
    · subst h; simp at h0
    rcases hb with ⟨_, _, _, h⟩ | ⟨gb, cb, rfl, hb⟩
    · subst h; simp at h0
    exact eqS_same l ga gb ca cb w hl ha hb
theorem NodV.below {w w' : World} {v : Value} {l : List Tr.Nd} (h : NodV w v l) (hb : Below w.heap.size w w') : NodV w' v l := by
  rcases h with h | ⟨g, c, h1, h2⟩
  · exact .inl h
  · exact .inr ⟨g, c, h1, h2.below hb⟩

set_option maxRecDepth 100000 in
set_option maxHeartbeats 1000000 in
theorem eqTree_v (l : List Tr.Nd) (va vb : Value) (w : World) (hl : l.length ≤ 1048576) (ha : NodV w va l) (hb : NodV w vb l) :
    Calls Tryd.prog 18 #[.agg #[va], .agg #[vb]] w fun e w' => e = .returned (.bool true) ∧ Below w.heap.size w w' := by
  have HS := hide (fun w' (hq : Below w.heap.size w w') => eqS_v l va vb w' hl (ha.below hq) (hb.below hq))
  have hva : ∃ p n c, va = .slice p n c := by
    rcases ha with ⟨p, c, h, _⟩ | ⟨g, c, h, _⟩ <;> exact ⟨_, _, _, h⟩
  have hvb : ∃ p n c, vb = .slice p n c := by
    rcases hb with ⟨p, c, h, _⟩ | ⟨g, c, h, _⟩ <;> exact ⟨_, _, _, h⟩
  obtain ⟨pa, na, ca, rfl⟩ := hva
  obtain ⟨pb, nb, cb, rfl⟩ := hvb
  clear ha hb
  go_enter Tryd.func18, Tryd.ntmps18
  go_wp2_with fail
  have hq : Below w.heap.size w ((w.alloc (.cells #[.slice pa na ca] 38)).alloc (.cells #[.slice pb nb cb] 38)) := ((Below.refl _ _).alloc (Nat.le_refl _) _).alloc (by simp) _
  refine (HS.out _ hq).mono ?_
  rintro e w1 ⟨rfl, hb1⟩
  go_wp2
  go_ret
  exact ⟨rfl, hq.trans (hb1.mono hq.size)⟩

set_option maxHeartbeats 400000 in
theorem markN_none (w : World) : Calls Tryd.prog 44 #[.slice none 0 0, .int .i64 1] w fun e w' => e = .returned (.int .i64 1) ∧ w' = w := by
  go_enter Tryd.func44, Tryd.ntmps44
  go_wp2
  go_loopw [1, 5] (fun t u wr => t = .int .i64 1 ∧ u = .int .i64 0 ∧ wr = w) (fun _ _ _ => 0)
  case atStart => exact ⟨rfl, rfl, rfl⟩
  case round =>
    obtain ⟨rfl, rfl, rfl⟩ := hrel
    go_wp2
    go_ret
    exact ⟨rfl, rfl⟩
set_option maxHeartbeats 400000 in
theorem markT_none (w : World) : Calls Tryd.prog 22 #[.agg #[.slice none 0 0], .int .i64 1] w fun e w' => e = .returned (.int .i64 1) ∧ Below w.heap.size w w' := by
  have hq : Below w.heap.size w (w.alloc (.cells #[.slice none 0 0] 38)) := (Below.refl _ _).alloc (Nat.le_refl _) _
  go_enter Tryd.func22, Tryd.ntmps22
  go_wp2_with fail
  refine (markN_none _).mono ?_
  rintro e w1 ⟨rfl, rfl⟩
  go_wp2
  go_ret
  exact ⟨rfl, hq⟩
theorem markT_v (n B : Nat) (v : Value) (xs : List Value) (w : World) (hn : n ≤ 1048576) (hBs : B ≤ w.heap.size) (h : RowM w B v n xs) :
    Calls Tryd.prog 22 #[.agg #[v], .int .i64 1] w fun e w' => e = .returned (.int .i64 (1 + 5 * (n : Int))) ∧ RowM w' B v n (Tr.marked5 n) ∧ Below B w w' := by
  rcases h with ⟨rfl, rfl⟩ | ⟨g, c, rfl, h2, h3⟩
  · refine (markT_none w).mono ?_
    rintro e w' ⟨rfl, hb⟩
    exact ⟨rfl, .inl ⟨rfl, rfl⟩, hb.mono hBs⟩
  · refine (markTree_any n g c 0 xs w hn h3 (Nat.zero_le _)).mono ?_
    have hg := (h3.lt g rfl).2
    rintro e w' ⟨rfl, ho, hfr, hb⟩
    exact ⟨rfl, .inr ⟨g, c, rfl, h2, ho⟩, ⟨hb.os, hb.tape, hb.output, hb.size, fun b hbb => hfr b (by omega) (by omega)⟩⟩

theorem Tr.marked5_at (n i j : Nat) (hi : i < n) (hj : j < 5) : (Tr.marked5 n)[i * 5 + j]? = (Tr.mark5 i)[j]? := by
  induction n with
  | zero => omega
  | succ n ih =>
    rw [Tr.marked5_succ]
    by_cases h : i < n
    · rw [List.getElem?_append_left (by rw [Tr.marked5_len]; omega)]
      exact ih h
    · obtain rfl : i = n := by omega
      exact get5 _ _ _ j (Tr.marked5_len i)

set_option maxHeartbeats 400000 in
theorem heldN_none (w : World) : Calls Tryd.prog 53 #[.slice none 0 0, .int .i64 1] w fun e w' => e = .returned (.int .i64 1) ∧ w' = w := by
  go_enter Tryd.func53, Tryd.ntmps53
  go_wp2
  go_loopw [1, 5] (fun t u wr => t = .int .i64 1 ∧ u = .int .i64 0 ∧ wr = w) (fun _ _ _ => 0)
  case atStart => exact ⟨rfl, rfl, rfl⟩
  case round =>
    obtain ⟨rfl, rfl, rfl⟩ := hrel
    go_wp2
    go_ret
    exact ⟨rfl, rfl⟩
end Go.Proofs.YthjilpnipidababDoor
