/- Walks: the law's functions on values that may be none, and its boxes. -/
import Derived.Test.YtfpdoafpimaoaaaQx
namespace Go.Proofs.Ytfpdoafpimaoaaa.Vl
open Go.RowKit T.atoms T.ok T.high T.good T.allPlain

/-- Atoms in a slice, or none. -/
def AtV (w : World) (v : Value) (l : List At) : Prop := (∃ p c, v = .slice p 0 c ∧ l = []) ∨ ∃ g c, v = .slice (some ⟨g, 0, none⟩) l.length c ∧ AtomsAt w g l
/-- A new box. -/
theorem box_in (w : World) (v : Value) : Below w.heap.size w (w.alloc (.cells #[v] 25)) ∧ (w.alloc (.cells #[v] 25)).cell? ⟨w.heap.size, 0, none⟩ = some v ∧ (w.alloc (.cells #[v] 25)).heap.size = w.heap.size + 1 :=
  ⟨(Below.refl _ _).alloc (Nat.le_refl _) _, (cell_new w v 25).1, World.size_alloc _ _⟩
set_option maxRecDepth 100000 in
set_option maxHeartbeats 400000 in
theorem eqS_none (pa pb : Option Addr) (ca cb : Nat) (w : World) : Calls Try.prog 30 #[.slice pa 0 ca, .slice pb 0 cb] w fun e w' => e = .returned (.bool true) ∧ Below w.heap.size w w' := by
  go_enter Try.func30, Try.ntmps30
  go_wp2
  go_loopw [5] (fun u wr => u = .int .i64 0 ∧ wr = w) (fun _ _ => 0)
  case atStart => exact ⟨rfl, rfl⟩
  case round =>
    obtain ⟨rfl, rfl⟩ := hrel
    go_wp2
    go_ret
    exact ⟨rfl, Below.refl _ _⟩
theorem eqS_v (l : List At) (va vb : Value) (w : World) (hl : l.length ≤ 1048576) (ha : AtV w va l) (hb : AtV w vb l) :
    Calls Try.prog 30 #[va, vb] w fun e w' => e = .returned (.bool true) ∧ Below w.heap.size w w' := by
  by_cases h0 : l.length = 0
  · have hla : ∃ p c, va = .slice p 0 c := by
      rcases ha with ⟨p, c, h, _⟩ | ⟨g, c, h, _⟩
      · exact ⟨p, c, h⟩
      · exact ⟨_, c, by rw [h, h0]⟩
    have hlb : ∃ p c, vb = .slice p 0 c := by
      rcases hb with ⟨p, c, h, _⟩ | ⟨g, c, h, _⟩
      · exact ⟨p, c, h⟩
      · exact ⟨_, c, by rw [h, h0]⟩
    obtain ⟨pa, ca, rfl⟩ := hla
    obtain ⟨pb, cb, rfl⟩ := hlb
    exact eqS_none pa pb ca cb w
  · rcases ha with ⟨_, _, _, h⟩ | ⟨ga, ca, rfl, ha⟩
    · subst h; simp at h0
    rcases hb with ⟨_, _, _, h⟩ | ⟨gb, cb, rfl, hb⟩
    · subst h; simp at h0
    exact eqS_same l ga gb ca cb w hl ha hb
theorem AtV.below {w w' : World} {v : Value} {l : List At} (h : AtV w v l) (hb : Below w.heap.size w w') : AtV w' v l := by
  rcases h with h | ⟨g, c, h1, h2⟩
  · exact .inl h
  · exact .inr ⟨g, c, h1, h2.below hb⟩

set_option maxRecDepth 100000 in
set_option maxHeartbeats 1000000 in
theorem eqValue_v (l : List At) (va vb : Value) (w : World) (hl : l.length ≤ 1048576) (ha : AtV w va l) (hb : AtV w vb l) :
    Calls Try.prog 15 #[.agg #[va], .agg #[vb]] w fun e w' => e = .returned (.bool true) ∧ Below w.heap.size w w' := by
  have HS := hide (fun w' (hq : Below w.heap.size w w') => eqS_v l va vb w' hl (ha.below hq) (hb.below hq))
  have hva : ∃ p n c, va = .slice p n c := by
    rcases ha with ⟨p, c, h, _⟩ | ⟨g, c, h, _⟩ <;> exact ⟨_, _, _, h⟩
  have hvb : ∃ p n c, vb = .slice p n c := by
    rcases hb with ⟨p, c, h, _⟩ | ⟨g, c, h, _⟩ <;> exact ⟨_, _, _, h⟩
  obtain ⟨pa, na, ca, rfl⟩ := hva
  obtain ⟨pb, nb, cb, rfl⟩ := hvb
  clear ha hb
  go_enter Try.func15, Try.ntmps15
  go_wp2_with fail
  have hq : Below w.heap.size w ((w.alloc (.cells #[.slice pa na ca] 25)).alloc (.cells #[.slice pb nb cb] 25)) := ((Below.refl _ _).alloc (Nat.le_refl _) _).alloc (by simp) _
  refine (HS.out _ hq).mono ?_
  rintro e w1 ⟨rfl, hb1⟩
  go_wp2
  go_ret
  exact ⟨rfl, hq.trans (hb1.mono hq.size)⟩

/-- Atoms in a row of one's own from a block on, or none. -/
def RowN (w : World) (B : Nat) (v : Value) (l : List At) : Prop := (v = .slice none 0 0 ∧ l = []) ∨ ∃ g c, v = .slice (some ⟨g, 0, none⟩) l.length c ∧ B ≤ g ∧ w.ownsRow 0 55 4 v l.length (cellsOf l)
theorem RowN.slice {w : World} {B : Nat} {v : Value} {l : List At} (h : RowN w B v l) : ∃ p n c, v = .slice p n c := by
  rcases h with ⟨h, _⟩ | ⟨g, c, h, _⟩ <;> exact ⟨_, _, _, h⟩
/-- Atoms in a block between two others, or none. -/
def RowS (w : World) (lo hi : Nat) (v : Value) (l : List At) : Prop := (v = .slice none 0 0 ∧ l = []) ∨ ∃ g c, v = .slice (some ⟨g, 0, none⟩) l.length c ∧ lo ≤ g ∧ g < hi ∧ AtomsAt w g l
theorem RowS.slice {w : World} {lo hi : Nat} {v : Value} {l : List At} (h : RowS w lo hi v l) : ∃ p n c, v = .slice p n c := by
  rcases h with ⟨h, _⟩ | ⟨g, c, h, _⟩ <;> exact ⟨_, _, _, h⟩
theorem RowS.ats {w : World} {lo hi : Nat} {v : Value} {l : List At} (h : RowS w lo hi v l) : AtV w v l := by
  rcases h with ⟨h1, h2⟩ | ⟨g, c, h1, _, _, h3⟩
  · exact .inl ⟨none, 0, h1, h2⟩
  · exact .inr ⟨g, c, h1, h3⟩
theorem RowS.below {w w' : World} {lo hi q : Nat} {v : Value} {l : List At} (h : RowS w lo hi v l) (hb : Below q w w') (hq : hi ≤ q) : RowS w' lo hi v l := by
  rcases h with h | ⟨g, c, h1, h2, h3, h4⟩
  · exact .inl h
  · exact .inr ⟨g, c, h1, h2, h3, AtomsO.heap h4 (hb.block g (by omega))⟩
/-- Cells of atoms in a row of one's own between two blocks, or none. -/
def RowT (w : World) (lo hi : Nat) (v : Value) (n : Nat) (xs : List Value) : Prop := (v = .slice none 0 0 ∧ n = 0) ∨ ∃ g c, v = .slice (some ⟨g, 0, none⟩) n c ∧ lo ≤ g ∧ g < hi ∧ w.ownsRow 0 55 4 v n xs
theorem RowN.upto {w : World} {B : Nat} {v : Value} {l : List At} (h : RowN w B v l) : RowT w B w.heap.size v l.length (cellsOf l) := by
  rcases h with ⟨h1, h2⟩ | ⟨g, c, h1, h2, h3⟩
  · exact .inl ⟨h1, by rw [h2]; rfl⟩
  · subst h1
    exact .inr ⟨g, c, rfl, h2, (h3.lt g rfl).2, h3⟩
theorem RowT.ats {w : World} {lo hi : Nat} {v : Value} {l : List At} (h : RowT w lo hi v l.length (cellsOf l)) : AtV w v l := by
  rcases h with ⟨h1, h2⟩ | ⟨g, c, h1, _, _, h3⟩
  · exact .inl ⟨none, 0, h1, List.eq_nil_of_length_eq_zero h2⟩
  · subst h1
    exact .inr ⟨g, c, rfl, atoms_of_row h3⟩
theorem RowT.frame {w w' : World} {lo hi n : Nat} {v : Value} {xs : List Value} (h : RowT w lo hi v n xs) (hb : ∀ b, lo ≤ b → b < hi → b < w.heap.size → w'.heap[b]? = w.heap[b]?) : RowT w' lo hi v n xs := by
  rcases h with h | ⟨g, c, h1, h2, h3, h4⟩
  · exact .inl h
  · subst h1
    exact .inr ⟨g, c, rfl, h2, h3, row_same h4 (hb g h2 h3 (h4.lt g rfl).2)⟩
theorem RowT.below {w w' : World} {lo hi n q : Nat} {v : Value} {xs : List Value} (h : RowT w lo hi v n xs) (hb : Below q w w') (hq : hi ≤ q) : RowT w' lo hi v n xs :=
  h.frame fun b _ h2 _ => hb.block b (by omega)
theorem markT_t (n lo hi : Nat) (v : Value) (xs : List Value) (w : World) (hn : n ≤ 1048576) (hlo : lo ≤ w.heap.size) (h : RowT w lo hi v n xs) :
    Calls Try.prog 18 #[.agg #[v], .int .i64 1] w fun e w' => e = .returned (.int .i64 (1 + 4 * (n : Int))) ∧ RowT w' lo hi v n (marked4 1 n) ∧ (∀ b, b < w.heap.size → hi ≤ b → w'.heap[b]? = w.heap[b]?) ∧ Below lo w w' := by
  rcases h with ⟨rfl, rfl⟩ | ⟨g, c, rfl, h2, h2', h3⟩
  · refine (markT_none 1 w).mono ?_
    rintro e w' ⟨rfl, hb⟩
    exact ⟨rfl, .inl ⟨rfl, rfl⟩, fun b hb1 _ => hb.block b hb1, hb.mono hlo⟩
  · refine (markValue_any 1 n g c 0 xs w (by omega) (by omega) hn h3 (Nat.zero_le _)).mono ?_
    have hg := (h3.lt g rfl).2
    rintro e w' ⟨rfl, ho, hfr, hb⟩
    exact ⟨rfl, .inr ⟨g, c, rfl, h2, h2', ho⟩, fun b hb1 hb2 => hfr b hb1 (by omega), ⟨hb.os, hb.tape, hb.output, hb.size, fun b hbb => hfr b (by omega) (by omega)⟩⟩
theorem heldT_t (n lo hi : Nat) (v : Value) (w : World) (hn : n ≤ 1048576) (h : RowT w lo hi v n (marked4 1 n)) :
    Calls Try.prog 19 #[.agg #[v], .int .i64 1] w fun e w' => e = .returned (.int .i64 (1 + 4 * (n : Int))) ∧ Below w.heap.size w w' := by
  rcases h with ⟨rfl, rfl⟩ | ⟨g, c, rfl, _, _, h3⟩
  · exact heldT_none 1 w
  · exact heldT_some 1 n g c 0 w (by omega) (by omega) hn h3
/-- The law's own argument, in a later world. -/
structure LB5 (w : World) (v : Value) (W : World) : Prop where
  B : Below w.heap.size w W
  c : W.cell? ⟨w.heap.size, 0, none⟩ = some v
  z : w.heap.size < W.heap.size
theorem LB5.below {w W W' : World} {v : Value} {q : Nat} (h : LB5 w v W) (hb : Below q W W') (hq : w.heap.size < q) : LB5 w v W' :=
  ⟨h.B.trans (hb.mono (by omega)), (hb.cell (p := ⟨w.heap.size, 0, none⟩) hq).trans h.c, Nat.lt_of_lt_of_le h.z hb.size⟩
/-- With what the specification answered. -/
structure LR (w : World) (v vs : Value) (q2 q3 : Nat) (b : List At) (W : World) : Prop where
  L : LB5 w v W
  U : W.cell? ⟨q3, 0, none⟩ = some vs
  S : RowS W q2 q3 vs b
  o : w.heap.size < q3
  z : q3 < W.heap.size
theorem LR.below {w W W' : World} {v vs : Value} {q2 q3 q : Nat} {b : List At} (h : LR w v vs q2 q3 b W) (hb : Below q W W') (hq : q3 < q) : LR w v vs q2 q3 b W' :=
  ⟨h.L.below hb (by have := h.o; omega), (hb.cell (p := ⟨q3, 0, none⟩) hq).trans h.U, h.S.below hb (by omega), h.o, Nat.lt_of_lt_of_le h.z hb.size⟩
/-- What the program answered. -/
structure LG (vg : Value) (q4 q5 n : Nat) (xs : List Value) (W : World) : Prop where
  G : W.cell? ⟨q5, 0, none⟩ = some vg
  R : RowT W q4 q5 vg n xs
  z : q5 < W.heap.size
theorem LG.below {W W' : World} {vg : Value} {q4 q5 n q : Nat} {xs : List Value} (h : LG vg q4 q5 n xs W) (hb : Below q W W') (hq : q5 < q) : LG vg q4 q5 n xs W' :=
  ⟨(hb.cell (p := ⟨q5, 0, none⟩) hq).trans h.G, h.R.below hb (by omega), Nat.lt_of_lt_of_le h.z hb.size⟩
theorem LG.but {W W' : World} {vg : Value} {q4 q5 n q : Nat} {xs : List Value} (h : LG vg q4 q5 n xs W) (hs : W.heap.size ≤ W'.heap.size) (hb : ∀ b, b < W.heap.size → b ≠ q → W'.heap[b]? = W.heap[b]?) (hq : q < q4) (hq5 : q4 ≤ q5) : LG vg q4 q5 n xs W' :=
  ⟨(World.cell?_of_block (a := ⟨q5, 0, none⟩) (hb q5 h.z (by omega))).trans h.G, h.R.frame (fun b h1 _ h3 => hb b h3 (by omega)), Nat.lt_of_lt_of_le h.z hs⟩
/-- The program's argument. -/
structure LX (q3 q4 gb : Nat) (l : List At) (W : World) : Prop where
  X : W.cell? ⟨q4, 0, none⟩ = some (.slice (some ⟨gb, 0, none⟩) l.length l.length)
  N : OwnA W q3 gb l
  o : gb < q4
  z : q4 < W.heap.size
theorem LX.below {W W' : World} {q3 q4 gb q : Nat} {l : List At} (h : LX q3 q4 gb l W) (hb : Below q W W') (hq : q4 < q) : LX q3 q4 gb l W' :=
  ⟨(hb.cell (p := ⟨q4, 0, none⟩) hq).trans h.X, row_same h.N (hb.block gb (by have := h.o; omega)), h.o, Nat.lt_of_lt_of_le h.z hb.size⟩
end Go.Proofs.Ytfpdoafpimaoaaa.Vl
