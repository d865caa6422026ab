/- What the program's own way of telling a valid tree is: lists alone. -/
import Derived.Test.YtmklgiononbmmaaDoorVn
import Derived.Maps.OwnSet
import Derived.Lib.IndexAny
import Derived.Lib.IndexLaws
import Derived.Shelf.Small.Strs
namespace Go.Proofs.YtmklgiononbmmaaDoor
open Go.RowKit

/-- A node that has got its kids, with its height. -/
structure Tr.Gr where
  nd : Tr.Nd
  high : Nat
def Tr.over : List Tr.Gr → Nat → Nat
  | [], h => h
  | x :: r, h => Tr.over r (if h < x.high + 1 then x.high + 1 else h)
def Tr.count (k n : Int) : Bool :=
  if k = 1 ∨ k = 2 ∨ k = 3 ∨ k = 4 ∨ k = 5 then decide (0 ≤ n ∧ n ≤ 0)
  else if k = 6 ∨ k = 11 ∨ k = 17 ∨ k = 18 ∨ k = 21 ∨ k = 22 then decide (1 ≤ n ∧ n ≤ 1)
  else if k = 7 ∨ k = 10 ∨ k = 14 then decide (2 ≤ n ∧ n ≤ 2)
  else if k = 13 then decide (3 ≤ n ∧ n ≤ 3)
  else if k = 16 then decide (2 ≤ n ∧ n ≤ 3)
  else if k = 19 then decide (0 ≤ n ∧ n ≤ 1)
  else if k = 8 ∨ k = 9 ∨ k = 24 then decide (0 ≤ n ∧ n ≤ 200)
  else if k = 23 then decide (1 ≤ n ∧ n ≤ 200)
  else if k = 12 ∨ k = 15 ∨ k = 20 then decide (1 ≤ n ∧ n ≤ 9)
  else decide (0 ≤ n ∧ n ≤ -1)
def Tr.between (a b : Int) (l : List Tr.Gr) : Bool := l.all fun g => decide (a ≤ g.nd.kind) && decide (g.nd.kind ≤ b)
def Tr.differ (l : List Tr.Gr) : Bool := decide ((l.map fun g => g.nd.text).Nodup)
def Tr.plainN (l : List Tr.Gr) : Nat := 1 + ((l.drop 1).takeWhile fun g => g.nd.kind != 18).length
def Tr.fits (k : Int) (l : List Tr.Gr) : Bool :=
  if k = 9 then Tr.between 17 17 l && Tr.differ l
  else if k = 12 then Tr.between 1 16 (l.take (Tr.plainN l)) && Tr.between 18 18 (l.drop (Tr.plainN l)) && Tr.differ (l.drop (Tr.plainN l))
  else if k = 15 ∨ k = 20 then Tr.between 19 19 (l.take (l.length - 1)) && Tr.between 1 16 (l.drop (l.length - 1))
  else if k = 23 then Tr.between 5 5 l
  else if k = 24 then Tr.between 20 23 l
  else Tr.between 1 16 l
def Tr.nodeOk (x : Tr.Nd) (l : List Tr.Gr) : Bool := Tr.plain x && Tr.count x.kind x.kids && Tr.fits x.kind l
def Tr.irun : List Tr.Nd → List Tr.Gr → Option (List Tr.Gr)
  | [], op => some op
  | x :: r, op => if x.kids < 0 ∨ (op.length : Int) < x.kids then none else
      if Tr.nodeOk x (op.drop (op.length - x.kids.toNat)) = true then Tr.irun r (op.take (op.length - x.kids.toNat) ++ [⟨x, Tr.over (op.drop (op.length - x.kids.toNat)) 0⟩]) else none
def Tr.iend : Option (List Tr.Gr) → Bool
  | some [g] => (g.nd.kind == 24) && decide (g.high ≤ 50)
  | _ => false
def Tr.ivalid (ns : List Tr.Nd) : Bool := decide (ns.length ≤ 5000) && Tr.iend (Tr.irun ns [])


/-- Grown nodes lie in a block from a cell on, six cells each. -/
def GrAt (w : World) (g o : Nat) (l : List Tr.Gr) : Prop := g < w.heap.size ∧ ∀ j (h : j < l.length), w.cell? ⟨g, o + j * 6, none⟩ = some (.int .i64 l[j].nd.kind) ∧ w.cell? ⟨g, o + j * 6 + 1, none⟩ = some (.int .i64 l[j].nd.op) ∧ w.cell? ⟨g, o + j * 6 + 2, none⟩ = some (.int .i64 l[j].nd.n) ∧ w.cell? ⟨g, o + j * 6 + 3, none⟩ = some (.string l[j].nd.text) ∧ w.cell? ⟨g, o + j * 6 + 4, none⟩ = some (.int .i64 l[j].nd.kids) ∧ w.cell? ⟨g, o + j * 6 + 5, none⟩ = some (.int .i64 l[j].high)
theorem GrAt.below {w w' : World} {g o : Nat} {l : List Tr.Gr} (h : GrAt w g o l) (hb : Below w.heap.size w w') : GrAt w' g o l := by
  refine ⟨Nat.lt_of_lt_of_le h.1 hb.size, fun i hi => ?_⟩
  obtain ⟨a, b, c, d, e, f⟩ := h.2 i hi
  exact ⟨(hb.cell (p := ⟨g, o + i * 6, none⟩) h.1).trans a, (hb.cell (p := ⟨g, o + i * 6 + 1, none⟩) h.1).trans b, (hb.cell (p := ⟨g, o + i * 6 + 2, none⟩) h.1).trans c, (hb.cell (p := ⟨g, o + i * 6 + 3, none⟩) h.1).trans d, (hb.cell (p := ⟨g, o + i * 6 + 4, none⟩) h.1).trans e, (hb.cell (p := ⟨g, o + i * 6 + 5, none⟩) h.1).trans f⟩
theorem GrAt.drop {w : World} {g o : Nat} {l : List Tr.Gr} (h : GrAt w g o l) (k : Nat) : GrAt w g (o + k * 6) (l.drop k) := by
  refine ⟨h.1, fun j hj => ?_⟩
  have := h.2 (k + j) (by simp at hj; omega)
  rw [List.getElem_drop]
  rw [show o + k * 6 + j * 6 = o + (k + j) * 6 from by omega]
  exact this
theorem GrAt.take {w : World} {g o : Nat} {l : List Tr.Gr} (h : GrAt w g o l) (k : Nat) : GrAt w g o (l.take k) := by
  refine ⟨h.1, fun j hj => ?_⟩
  have := h.2 j (by simp at hj; omega)
  rw [List.getElem_take]
  exact this
/-- A slice value that shows these grown nodes. -/
def GrV (w : World) (v : Value) (l : List Tr.Gr) : Prop := (∃ p c, v = .slice p 0 c ∧ l = []) ∨ ∃ g o c, v = .slice (some ⟨g, o, none⟩) l.length c ∧ l.length ≤ c ∧ GrAt w g o l
theorem GrV.below {w w' : World} {v : Value} {l : List Tr.Gr} (h : GrV w v l) (hb : Below w.heap.size w w') : GrV w' v l := by
  rcases h with h | ⟨g, o, c, h1, h3, h2⟩
  · exact .inl h
  · exact .inr ⟨g, o, c, h1, h3, h2.below hb⟩
theorem GrAt.dropV {w : World} {g o c p n : Nat} {l : List Tr.Gr} (h : GrAt w g o l) (hp : p ≤ l.length) (hc : l.length ≤ c) (hn : n = l.length - p) : GrV w (.slice (if c = p then some ⟨g, o, none⟩ else some ⟨g, o + p * 6, none⟩) n (c - p)) (l.drop p) := by
  subst hn
  by_cases e : c = p
  · rw [if_pos e]
    have : l.length - p = 0 := by omega
    exact .inl ⟨_, _, by rw [this], List.drop_of_length_le (by omega)⟩
  · rw [if_neg e]
    exact .inr ⟨g, _, _, by rw [List.length_drop], by rw [List.length_drop]; omega, h.drop p⟩
theorem GrAt.dropQ {w : World} {g o c p n : Nat} {l : List Tr.Gr} (h : GrAt w g o l) (hp : p ≤ l.length) (hc : l.length ≤ c) (hn : n = l.length - p) : ∀ q, q = some ⟨g, o + p * 6, none⟩ ∨ c = p → GrV w (.slice q n (c - p)) (l.drop p) := by
  intro q hq
  subst hn
  by_cases e : c = p
  · have : l.length - p = 0 := by omega
    exact .inl ⟨_, _, by rw [this], List.drop_of_length_le (by omega)⟩
  · obtain rfl := hq.resolve_right e
    exact .inr ⟨g, _, _, by rw [List.length_drop], by rw [List.length_drop]; omega, h.drop p⟩
theorem GrAt.takeV {w : World} {g o c p : Nat} {l : List Tr.Gr} (h : GrAt w g o l) (hp : p ≤ l.length) (hc : l.length ≤ c) : GrV w (.slice (some ⟨g, o, none⟩) p c) (l.take p) :=
  .inr ⟨g, o, c, by rw [List.length_take, Nat.min_eq_left hp], by rw [List.length_take, Nat.min_eq_left hp]; omega, h.take p⟩
end Go.Proofs.YtmklgiononbmmaaDoor
