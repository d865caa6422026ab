/- The program's values in memory. -/
import Derived.Test.YtfpdoafpimaoaaaQb
namespace Go.Proofs.Ytfpdoafpimaoaaa.Vl
open Go.RowKit T.atoms T.ok T.high T.good T.allPlain

/-- Cells lie in a block from a place on. -/
def CellsAt (w : World) (g o : Nat) (vs : List Value) : Prop := ∀ j u, vs[j]? = some u → w.cell? ⟨g, o + j, none⟩ = some u
/-- A slice's cells, in a block other than x. -/
def RowAt (w : World) (x : Nat) (p : Option Addr) (vs : List Value) : Prop := vs = [] ∨ ∃ g o, p = some ⟨g, o, none⟩ ∧ g ≠ x ∧ g < w.heap.size ∧ CellsAt w g o vs
theorem CellsAt.heap {w w' : World} {g o : Nat} {vs : List Value} (h : CellsAt w g o vs) (hb : w'.heap[g]? = w.heap[g]?) : CellsAt w' g o vs := by
  intro j u hu
  have := h j u hu
  simp only [World.cell?] at this ⊢
  rw [hb]
  exact this
/-- What a change leaves: each block but x, which may become x'. -/
structure Moves (w w' : World) (x x' : Nat) : Prop where
  block : ∀ q, q < w.heap.size → q ≠ x → w'.heap[q]? = w.heap[q]?
  size : w.heap.size ≤ w'.heap.size
  other : ∀ q, q < w.heap.size → q ≠ x → q ≠ x'
theorem Moves.below {w w' : World} {x : Nat} (hb : Below w.heap.size w w') : Moves w w' x x := ⟨fun q h _ => hb.block q h, hb.size, fun _ _ h => h⟩
theorem Moves.fresh {w w' : World} {x x' : Nat} (hb : Below w.heap.size w w') (hx : w.heap.size ≤ x') : Moves w w' x x' := ⟨fun q h _ => hb.block q h, hb.size, fun q h _ => by omega⟩
theorem Moves.trans {w w1 w2 : World} {x x1 x2 : Nat} (a : Moves w w1 x x1) (b : Moves w1 w2 x1 x2) : Moves w w2 x x2 :=
  ⟨fun q h hx => (b.block q (Nat.lt_of_lt_of_le h a.size) (a.other q h hx)).trans (a.block q h hx), Nat.le_trans a.size b.size, fun q h hx => b.other q (Nat.lt_of_lt_of_le h a.size) (a.other q h hx)⟩
theorem RowAt.moves {w w' : World} {x x' : Nat} {p : Option Addr} {vs : List Value} (h : RowAt w x p vs) (hm : Moves w w' x x') : RowAt w' x' p vs := by
  rcases h with h | ⟨g, o, h1, h2, h3, h4⟩
  · exact .inl h
  · exact .inr ⟨g, o, h1, hm.other g h3 h2, Nat.lt_of_lt_of_le h3 hm.size, h4.heap (hm.block g h3 h2)⟩

/-- A datum in memory: the value of the interface type; no block that it reaches is x. -/
def DatAt (w : World) (x : Nat) : T → Value → Prop
  | .mk k n s ks, v =>
    (k = 1 ∧ v = .iface 123 (.agg #[])) ∨ (k = 2 ∧ v = .iface 78 (.bool (n == 1))) ∨ (k = 3 ∧ v = .iface 81 (.int .i64 n)) ∨ (k = 4 ∧ v = .iface 83 (.string s)) ∨
    (k = 5 ∧ ∃ p c vs, v = .iface 88 (.agg #[.slice p ks.length c, .int .i64 (1 + (atomsL ks).length : Nat), .int .i64 (highL ks : Nat)]) ∧ ks.length ≤ c ∧ DatL w x ks vs ∧ RowAt w x p vs) ∨
    (k = 6 ∧ ∃ p c m vs, ks.length = 2 * m ∧ v = .iface 92 (.agg #[.slice p m c, .int .i64 (1 + (atomsL ks).length : Nat), .int .i64 (highL ks : Nat)]) ∧ m ≤ c ∧ FldL w x ks vs ∧ RowAt w x p vs)
  where
  DatL (w : World) (x : Nat) : List T → List Value → Prop
  | [], vs => vs = []
  | t :: r, vs => ∃ v vr, vs = v :: vr ∧ DatAt w x t v ∧ DatL w x r vr
  FldL (w : World) (x : Nat) : List T → List Value → Prop
  | [], vs => vs = []
  | [_], _ => False
  | a :: b :: r, vs => ∃ v vr, vs = .string a.text :: v :: vr ∧ DatAt w x b v ∧ FldL w x r vr
open DatAt

theorem DatAt.moves {w w' : World} {x x' : Nat} (hm : Moves w w' x x') : ∀ (t : T) (v : Value), DatAt w x t v → DatAt w' x' t v
  | .mk k n s ks, v, h => by
    unfold DatAt at h ⊢
    rcases h with h | h | h | h | ⟨h, p, c, vs, h1, hc, h2, h3⟩ | ⟨h, p, c, m, vs, h0, h1, hc, h2, h3⟩
    · exact .inl h
    · exact .inr (.inl h)
    · exact .inr (.inr (.inl h))
    · exact .inr (.inr (.inr (.inl h)))
    · exact .inr (.inr (.inr (.inr (.inl ⟨h, p, c, vs, h1, hc, movesL hm ks vs h2, h3.moves hm⟩))))
    · exact .inr (.inr (.inr (.inr (.inr ⟨h, p, c, m, vs, h0, h1, hc, movesF hm ks vs h2, h3.moves hm⟩))))
  where
  movesL {w w' : World} {x x' : Nat} (hm : Moves w w' x x') : ∀ (l : List T) (vs : List Value), DatL w x l vs → DatL w' x' l vs
    | [], vs, h => by unfold DatL at h ⊢; exact h
    | t :: r, vs, h => by
      unfold DatL at h ⊢
      obtain ⟨v, vr, h1, h2, h3⟩ := h
      exact ⟨v, vr, h1, DatAt.moves hm t v h2, movesL hm r vr h3⟩
  movesF {w w' : World} {x x' : Nat} (hm : Moves w w' x x') : ∀ (l : List T) (vs : List Value), FldL w x l vs → FldL w' x' l vs
    | [], vs, h => by unfold FldL at h ⊢; exact h
    | [_], vs, h => by unfold FldL at h; exact h.elim
    | a :: b :: r, vs, h => by
      unfold FldL at h ⊢
      obtain ⟨v, vr, h1, h2, h3⟩ := h
      exact ⟨v, vr, h1, DatAt.moves hm b v h2, movesF hm r vr h3⟩
theorem DatL.moves {w w' : World} {x x' : Nat} (hm : Moves w w' x x') : ∀ (l : List T) (vs : List Value), DatL w x l vs → DatL w' x' l vs := DatAt.moves.movesL hm
theorem FldL.moves {w w' : World} {x x' : Nat} (hm : Moves w w' x x') : ∀ (l : List T) (vs : List Value), FldL w x l vs → FldL w' x' l vs := DatAt.moves.movesF hm

theorem DatL.len {w : World} {x : Nat} : ∀ {l : List T} {vs : List Value}, DatL w x l vs → vs.length = l.length
  | [], vs, h => by unfold DatL at h; rw [h]; rfl
  | t :: r, vs, h => by
    unfold DatL at h
    obtain ⟨v, vr, rfl, _, h3⟩ := h
    simp [DatL.len h3]
theorem DatL.at {w : World} {x : Nat} : ∀ {l : List T} {vs : List Value}, DatL w x l vs → ∀ j (h : j < l.length), ∃ v, vs[j]? = some v ∧ DatAt w x l[j] v
  | t :: r, vs, h, 0, _ => by
    unfold DatL at h
    obtain ⟨v, vr, rfl, h2, _⟩ := h
    exact ⟨v, rfl, h2⟩
  | t :: r, vs, h, j + 1, hj => by
    unfold DatL at h
    obtain ⟨v, vr, rfl, _, h3⟩ := h
    obtain ⟨u, hu, hd⟩ := DatL.at h3 j (by simpa using hj)
    exact ⟨u, hu, hd⟩
theorem DatL.snoc {w : World} {x : Nat} : ∀ {l : List T} {vs : List Value} {t : T} {v : Value}, DatL w x l vs → DatAt w x t v → DatL w x (l ++ [t]) (vs ++ [v])
  | [], vs, t, v, h, ht => by
    unfold DatL at h
    subst h
    show DatL w x [t] [v]
    unfold DatL
    exact ⟨v, [], rfl, ht, by unfold DatL; rfl⟩
  | a :: r, vs, t, v, h, ht => by
    unfold DatL at h
    obtain ⟨u, vr, rfl, h2, h3⟩ := h
    show DatL w x (a :: (r ++ [t])) (u :: (vr ++ [v]))
    unfold DatL
    exact ⟨u, vr ++ [v], rfl, h2, DatL.snoc h3 ht⟩
theorem DatL.take {w : World} {x : Nat} : ∀ {l : List T} {vs : List Value} (m : Nat), DatL w x l vs → DatL w x (l.take m) (vs.take m)
  | l, vs, 0, h => by rw [List.take_zero, List.take_zero]; unfold DatL; rfl
  | [], vs, m + 1, h => by unfold DatL at h; subst h; simp; unfold DatL; rfl
  | t :: r, vs, m + 1, h => by
    unfold DatL at h
    obtain ⟨v, vr, rfl, h2, h3⟩ := h
    rw [List.take_succ_cons, List.take_succ_cons]
    unfold DatL
    exact ⟨v, _, rfl, h2, DatL.take m h3⟩
theorem DatL.drop {w : World} {x : Nat} : ∀ {l : List T} {vs : List Value} (m : Nat), DatL w x l vs → DatL w x (l.drop m) (vs.drop m)
  | l, vs, 0, h => by rwa [List.drop_zero, List.drop_zero]
  | [], vs, m + 1, h => by unfold DatL at h; subst h; simp; unfold DatL; rfl
  | t :: r, vs, m + 1, h => by
    unfold DatL at h
    obtain ⟨v, vr, rfl, h2, h3⟩ := h
    rw [List.drop_succ_cons, List.drop_succ_cons]
    exact DatL.drop m h3
theorem DatAt.one {w : World} {x : Nat} {t : T} {v : Value} (h : DatAt w x t v) : v.oneCell' = true := by
  cases t
  unfold DatAt at h
  rcases h with ⟨_, rfl⟩ | ⟨_, rfl⟩ | ⟨_, rfl⟩ | ⟨_, rfl⟩ | ⟨_, p, c, vs, rfl, _⟩ | ⟨_, p, c, m, vs, _, rfl, _⟩ <;> rfl
theorem DatL.one {w : World} {x : Nat} : ∀ {l : List T} {vs : List Value}, DatL w x l vs → ∀ u ∈ vs, u.oneCell' = true
  | [], vs, h, u, hu => by unfold DatL at h; subst h; cases hu
  | t :: r, vs, h, u, hu => by
    unfold DatL at h
    obtain ⟨v, vr, rfl, h2, h3⟩ := h
    rcases List.mem_cons.1 hu with rfl | hu
    · exact h2.one
    · exact DatL.one h3 u hu
end Go.Proofs.Ytfpdoafpimaoaaa.Vl
