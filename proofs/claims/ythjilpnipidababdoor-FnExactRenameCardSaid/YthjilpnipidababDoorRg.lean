/- Walks: the law's look whether its marks are held, on nodes. -/
import Derived.Test.YthjilpnipidababDoorRf
namespace Go.Proofs.YthjilpnipidababDoor
open Go.RowKit

set_option maxRecDepth 100000 in
set_option maxHeartbeats 1000000 in
theorem heldN_some (n g cap B : Nat) (w : World) (hn : n ≤ 1048576) (hown : w.ownsRow B 77 5 (.slice (some ⟨g, 0, none⟩) n cap) n (Tr.marked5 n)) :
    Calls Tryd.prog 53 #[.slice (some ⟨g, 0, none⟩) n cap, .int .i64 1] w fun e w' => e = .returned (.int .i64 (1 + 5 * (n : Int))) ∧ Below w.heap.size w w' := by
  have HC : Hid (∀ i j, i < n → j < 5 → w.cell? ⟨g, i * 5 + j, none⟩ = (Tr.mark5 i)[j]?) := hide (fun i j hi hj => (hown.cellAt _ (by omega)).trans (Tr.marked5_at n i j hi hj))
  have hg := (hown.lt g rfl).2
  clear hown
  go_enter Tryd.func53, Tryd.ntmps53
  go_wp2
  go_loopw [1, 5] (fun t u wr => ∃ i : Nat, i ≤ n ∧ u = .int .i64 i ∧ t = .int .i64 (1 + 5 * (i : Int)) ∧ Below w.heap.size w wr) (fun _ u _ => n - (intOf u).toNat)
  case atStart => exact ⟨0, Nat.zero_le _, rfl, rfl, Below.refl _ _⟩
  case round =>
    obtain ⟨i, hi, rfl, rfl, hB⟩ := hrel
    by_cases hlt : i < n
    · have k0 : wr.cell? ⟨g, i * 5, none⟩ = some (.int .i64 (1 + 5 * (i : Int))) := (hB.cell (p := ⟨g, i * 5, none⟩) hg).trans (HC.out i 0 hlt (by omega))
      have k1 : wr.cell? ⟨g, i * 5 + 1, none⟩ = some (.int .i64 (1 + 5 * (i : Int) + 1)) := (hB.cell (p := ⟨g, i * 5 + 1, none⟩) hg).trans (HC.out i 1 hlt (by omega))
      have k2 : wr.cell? ⟨g, i * 5 + 2, none⟩ = some (.int .i64 (1 + 5 * (i : Int) + 1 + 1)) := (hB.cell (p := ⟨g, i * 5 + 2, none⟩) hg).trans (HC.out i 2 hlt (by omega))
      have k3 : wr.cell? ⟨g, i * 5 + 3, none⟩ = some (.string ⟨(Sc.mt (4 + 5 * i)).toArray⟩) := (hB.cell (p := ⟨g, i * 5 + 3, none⟩) hg).trans (HC.out i 3 hlt (by omega))
      have hgr : g < wr.heap.size := Nat.lt_of_lt_of_le hg hB.size
      have k4 : wr.cell? ⟨g, i * 5 + 4, none⟩ = some (.int .i64 (1 + 5 * (i : Int) + 1 + 1 + 1 + 1)) := (hB.cell (p := ⟨g, i * 5 + 4, none⟩) hg).trans (HC.out i 4 hlt (by omega))
      have HB := hide hB
      clear hB
      go_wp2
      go_region_with (go_at_call 34; refine (markText_any (4 + 5 * i) _ _ (by omega) (by omega) (by omega)).mono ?_; rintro e w1 ⟨rfl, hb1⟩; have q3 := (hb1.cell (p := ⟨g, i * 5 + 3, none⟩) hgr).trans k3; have q4 := (hb1.cell (p := ⟨g, i * 5 + 4, none⟩) hgr).trans k4; have q5 : Below w.heap.size w w1 := HB.out.trans (Below.mono (w := wr) ⟨hb1.os, hb1.tape, hb1.output, hb1.size, hb1.block⟩ HB.out.size))
      all_goals
        clear hb1 k0 k1 k2 k3 k4
        go_wp2
        go_roundw
        case rel => exact ⟨i + 1, by omega, by go_num, by go_num, q5⟩
        case measure => simp [intOf]; omega
    · obtain rfl : i = n := by omega
      go_wp2
      go_ret
      exact ⟨rfl, hB⟩

set_option maxHeartbeats 400000 in
theorem heldT_none (w : World) : Calls Tryd.prog 27 #[.agg #[.slice none 0 0], .int .i64 1] w fun e w' => e = .returned (.int .i64 1) ∧ Below w.heap.size w w' := by
  have hq : Below w.heap.size w (w.alloc (.cells #[.slice none 0 0] 38)) := (Below.refl _ _).alloc (Nat.le_refl _) _
  go_enter Tryd.func27, Tryd.ntmps27
  go_wp2_with fail
  refine (heldN_none _).mono ?_
  rintro e w1 ⟨rfl, rfl⟩
  go_wp2
  go_ret
  exact ⟨rfl, hq⟩
set_option maxRecDepth 100000 in
set_option maxHeartbeats 400000 in
theorem heldT_some (n g cap B : Nat) (w : World) (hn : n ≤ 1048576) (hown : w.ownsRow B 77 5 (.slice (some ⟨g, 0, none⟩) n cap) n (Tr.marked5 n)) :
    Calls Tryd.prog 27 #[.agg #[.slice (some ⟨g, 0, none⟩) n cap], .int .i64 1] w fun e w' => e = .returned (.int .i64 (1 + 5 * (n : Int))) ∧ Below w.heap.size w w' := by
  have hq : Below w.heap.size w (w.alloc (.cells #[.slice (some ⟨g, 0, none⟩) n cap] 38)) := (Below.refl _ _).alloc (Nat.le_refl _) _
  have HM := hide (heldN_some n g cap B _ hn (hown.alloc (.cells #[.slice (some ⟨g, 0, none⟩) n cap] 38)))
  clear hown
  have hkp : ¬ (1 + 5 * (n : Int) < 0) := by omega
  go_enter Tryd.func27, Tryd.ntmps27
  go_wp2_with fail
  refine HM.out.mono ?_
  rintro e w1 ⟨rfl, hb⟩
  go_wp2
  go_ret
  exact ⟨rfl, hq.trans (hb.mono hq.size)⟩
theorem heldT_v (n B : Nat) (v : Value) (w : World) (hn : n ≤ 1048576) (h : RowM w B v n (Tr.marked5 n)) :
    Calls Tryd.prog 27 #[.agg #[v], .int .i64 1] w fun e w' => e = .returned (.int .i64 (1 + 5 * (n : Int))) ∧ Below w.heap.size w w' := by
  rcases h with ⟨rfl, rfl⟩ | ⟨g, c, rfl, h2, h3⟩
  · exact heldT_none w
  · exact heldT_some n g c 0 w hn h3
/-- Cells of nodes in a row of one's own between two blocks, or none. -/
def RowT (w : World) (lo hi : Nat) (v : Value) (n : Nat) (xs : List Value) : Prop := (v = .slice none 0 0 ∧ n = 0) ∨ ∃ g c, v = .slice (some ⟨g, 0, none⟩) n c ∧ lo ≤ g ∧ g < hi ∧ w.ownsRow 0 77 5 v n xs
theorem RowN.upto {w : World} {B : Nat} {v : Value} {l : List Tr.Nd} (h : RowN w B v l) : RowT w B w.heap.size v l.length (Tr.cellsOf l) := by
  rcases h with ⟨h1, h2⟩ | ⟨g, c, h1, h2, h3⟩
  · exact .inl ⟨h1, by rw [h2]; rfl⟩
  · subst h1
    exact .inr ⟨g, c, rfl, h2, (h3.lt g rfl).2, h3⟩
theorem RowT.nod {w : World} {lo hi : Nat} {v : Value} {l : List Tr.Nd} (h : RowT w lo hi v l.length (Tr.cellsOf l)) : NodV w v l := by
  rcases h with ⟨h1, h2⟩ | ⟨g, c, h1, _, _, h3⟩
  · exact .inl ⟨none, 0, h1, List.eq_nil_of_length_eq_zero h2⟩
  · subst h1
    exact .inr ⟨g, c, rfl, nodes_of_row h3⟩
theorem RowT.frame {w w' : World} {lo hi n : Nat} {v : Value} {xs : List Value} (h : RowT w lo hi v n xs) (hb : ∀ b, lo ≤ b → b < hi → b < w.heap.size → w'.heap[b]? = w.heap[b]?) : RowT w' lo hi v n xs := by
  rcases h with h | ⟨g, c, h1, h2, h3, h4⟩
  · exact .inl h
  · subst h1
    exact .inr ⟨g, c, rfl, h2, h3, row_same h4 (hb g h2 h3 (h4.lt g rfl).2)⟩
theorem RowT.below {w w' : World} {lo hi n q : Nat} {v : Value} {xs : List Value} (h : RowT w lo hi v n xs) (hb : Below q w w') (hq : hi ≤ q) : RowT w' lo hi v n xs :=
  h.frame fun b _ h2 _ => hb.block b (by omega)
theorem markT_t (n lo hi : Nat) (v : Value) (xs : List Value) (w : World) (hn : n ≤ 1048576) (hlo : lo ≤ w.heap.size) (h : RowT w lo hi v n xs) :
    Calls Tryd.prog 22 #[.agg #[v], .int .i64 1] w fun e w' => e = .returned (.int .i64 (1 + 5 * (n : Int))) ∧ RowT w' lo hi v n (Tr.marked5 n) ∧ (∀ b, b < w.heap.size → hi ≤ b → w'.heap[b]? = w.heap[b]?) ∧ Below lo w w' := by
  rcases h with ⟨rfl, rfl⟩ | ⟨g, c, rfl, h2, h2', h3⟩
  · refine (markT_none w).mono ?_
    rintro e w' ⟨rfl, hb⟩
    exact ⟨rfl, .inl ⟨rfl, rfl⟩, fun b hb1 _ => hb.block b hb1, hb.mono hlo⟩
  · refine (markTree_any n g c 0 xs w hn h3 (Nat.zero_le _)).mono ?_
    have hg := (h3.lt g rfl).2
    rintro e w' ⟨rfl, ho, hfr, hb⟩
    exact ⟨rfl, .inr ⟨g, c, rfl, h2, h2', ho⟩, fun b hb1 hb2 => hfr b hb1 (by omega), ⟨hb.os, hb.tape, hb.output, hb.size, fun b hbb => hfr b (by omega) (by omega)⟩⟩
theorem heldT_t (n lo hi : Nat) (v : Value) (w : World) (hn : n ≤ 1048576) (h : RowT w lo hi v n (Tr.marked5 n)) :
    Calls Tryd.prog 27 #[.agg #[v], .int .i64 1] w fun e w' => e = .returned (.int .i64 (1 + 5 * (n : Int))) ∧ Below w.heap.size w w' := by
  rcases h with ⟨rfl, rfl⟩ | ⟨g, c, rfl, _, _, h3⟩
  · exact heldT_none w
  · exact heldT_some n g c 0 w hn h3
/-- The law's own argument, in a later world. -/
structure LB5 (w : World) (v : Value) (W : World) : Prop where
  B : Below w.heap.size w W
  c : W.cell? ⟨w.heap.size, 0, none⟩ = some v
  z : w.heap.size < W.heap.size
theorem LB5.below {w W W' : World} {v : Value} {q : Nat} (h : LB5 w v W) (hb : Below q W W') (hq : w.heap.size < q) : LB5 w v W' :=
  ⟨h.B.trans (hb.mono (by omega)), (hb.cell (p := ⟨w.heap.size, 0, none⟩) hq).trans h.c, Nat.lt_of_lt_of_le h.z hb.size⟩
/-- With what the specification answered. -/
structure LR (w : World) (v vs : Value) (q2 q3 : Nat) (b : List Tr.Nd) (W : World) : Prop where
  L : LB5 w v W
  U : W.cell? ⟨q3, 0, none⟩ = some vs
  S : RowT W q2 q3 vs b.length (Tr.cellsOf b)
  o : w.heap.size < q3
  z : q3 < W.heap.size
theorem LR.below {w W W' : World} {v vs : Value} {q2 q3 q : Nat} {b : List Tr.Nd} (h : LR w v vs q2 q3 b W) (hb : Below q W W') (hq : q3 < q) : LR w v vs q2 q3 b W' :=
  ⟨h.L.below hb (by have := h.o; omega), (hb.cell (p := ⟨q3, 0, none⟩) hq).trans h.U, h.S.below hb (by omega), h.o, Nat.lt_of_lt_of_le h.z hb.size⟩
/-- What the program answered. -/
structure LG (vg : Value) (q4 q5 n : Nat) (xs : List Value) (W : World) : Prop where
  G : W.cell? ⟨q5, 0, none⟩ = some vg
  R : RowT W q4 q5 vg n xs
  z : q5 < W.heap.size
theorem LG.below {W W' : World} {vg : Value} {q4 q5 n q : Nat} {xs : List Value} (h : LG vg q4 q5 n xs W) (hb : Below q W W') (hq : q5 < q) : LG vg q4 q5 n xs W' :=
  ⟨(hb.cell (p := ⟨q5, 0, none⟩) hq).trans h.G, h.R.below hb (by omega), Nat.lt_of_lt_of_le h.z hb.size⟩
theorem LG.but {W W' : World} {vg : Value} {q4 q5 n q : Nat} {xs : List Value} (h : LG vg q4 q5 n xs W) (hs : W.heap.size ≤ W'.heap.size) (hb : ∀ b, b < W.heap.size → b ≠ q → W'.heap[b]? = W.heap[b]?) (hq : q < q4) (hq5 : q4 ≤ q5) : LG vg q4 q5 n xs W' :=
  ⟨(World.cell?_of_block (a := ⟨q5, 0, none⟩) (hb q5 h.z (by omega))).trans h.G, h.R.frame (fun b h1 _ h3 => hb b h3 (by omega)), Nat.lt_of_lt_of_le h.z hs⟩
/-- The program's argument. -/
structure LX (q3 q4 gb : Nat) (l : List Tr.Nd) (W : World) : Prop where
  X : W.cell? ⟨q4, 0, none⟩ = some (.slice (some ⟨gb, 0, none⟩) l.length l.length)
  N : OwnN W q3 gb l
  o : gb < q4
  z : q4 < W.heap.size
theorem LX.below {W W' : World} {q3 q4 gb q : Nat} {l : List Tr.Nd} (h : LX q3 q4 gb l W) (hb : Below q W W') (hq : q4 < q) : LX q3 q4 gb l W' :=
  ⟨(hb.cell (p := ⟨q4, 0, none⟩) hq).trans h.X, row_same h.N (hb.block gb (by have := h.o; omega)), h.o, Nat.lt_of_lt_of_le h.z hb.size⟩
end Go.Proofs.YthjilpnipidababDoor
