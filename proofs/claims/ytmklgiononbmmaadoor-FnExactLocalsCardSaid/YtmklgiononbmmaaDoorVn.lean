/- Nodes and places in memory; what a node may use. -/
import Derived.Test.YtmklgiononbmmaaDoorVa
import Derived.Deep.QuietTactic
import Derived.BigQuiet
import Derived.Deep.RegionWith
namespace Go.Proofs.YtmklgiononbmmaaDoor
open Go.RowKit

/-- A node. -/
structure Tr.Nd where
  kind : Int
  op : Int
  n : Int
  text : ByteArray
  kids : Int
def Tr.Nd.cells (x : Tr.Nd) : List Value := [.int .i64 x.kind, .int .i64 x.op, .int .i64 x.n, .string x.text, .int .i64 x.kids]
def Tr.cellsOf (l : List Tr.Nd) : List Value := l.flatMap Tr.Nd.cells
/-- A tree's nodes lie from the beginning of a block on. -/
def NodesAt (w : World) (g : Nat) (l : List Tr.Nd) : Prop := g < w.heap.size ∧ ∀ i (h : i < l.length), w.cell? ⟨g, i * 5, none⟩ = some (.int .i64 l[i].kind) ∧ w.cell? ⟨g, i * 5 + 1, none⟩ = some (.int .i64 l[i].op) ∧ w.cell? ⟨g, i * 5 + 2, none⟩ = some (.int .i64 l[i].n) ∧ w.cell? ⟨g, i * 5 + 3, none⟩ = some (.string l[i].text) ∧ w.cell? ⟨g, i * 5 + 4, none⟩ = some (.int .i64 l[i].kids)
theorem NodesAt.below {w w' : World} {g : Nat} {l : List Tr.Nd} (h : NodesAt w g l) (hb : Below w.heap.size w w') : NodesAt w' g l := by
  refine ⟨Nat.lt_of_lt_of_le h.1 hb.size, fun i hi => ?_⟩
  obtain ⟨a, b, c, d, e⟩ := h.2 i hi
  exact ⟨(hb.cell (p := ⟨g, i * 5, none⟩) h.1).trans a, (hb.cell (p := ⟨g, i * 5 + 1, none⟩) h.1).trans b, (hb.cell (p := ⟨g, i * 5 + 2, none⟩) h.1).trans c, (hb.cell (p := ⟨g, i * 5 + 3, none⟩) h.1).trans d, (hb.cell (p := ⟨g, i * 5 + 4, none⟩) h.1).trans e⟩
/-- Places lie in a block from a place on. -/
def IntsAt (w : World) (g o : Nat) (l : List Nat) : Prop := g < w.heap.size ∧ ∀ j (h : j < l.length), w.cell? ⟨g, o + j, none⟩ = some (.int .i64 l[j])
theorem IntsAt.below {w w' : World} {g o : Nat} {l : List Nat} (h : IntsAt w g o l) (hb : Below w.heap.size w w') : IntsAt w' g o l :=
  ⟨Nat.lt_of_lt_of_le h.1 hb.size, fun j hj => (hb.cell (p := ⟨g, o + j, none⟩) h.1).trans (h.2 j hj)⟩
theorem IntsAt.drop {w : World} {g o : Nat} {l : List Nat} (h : IntsAt w g o l) (k : Nat) : IntsAt w g (o + k) (l.drop k) :=
  ⟨h.1, fun j hj => by have := h.2 (k + j) (by simp at hj; omega); rw [List.getElem_drop, ← this, Nat.add_assoc]⟩

/-- What a node of a kind may use. -/
def Tr.textK (k : Int) : Bool := k == 4 || k == 5 || k == 11 || k == 14 || Tr.inr k 16 21 || k == 23
def Tr.plain (x : Tr.Nd) : Bool :=
  if (!Tr.textK x.kind && !(x.text.toList == []) || (x.kind != 2 && x.kind != 3 && x.n != 0) || (x.kind != 6 && x.kind != 7 && x.op != 0)) = true then false
  else if x.kind = 2 then x.n == 0 || x.n == 1
  else if x.kind = 3 then decide (0 ≤ x.n)
  else if x.kind = 4 ∨ x.kind = 17 then decide ((x.text.size : Int) ≤ 1000)
  else if x.kind = 6 then Tr.inr x.op 1 2
  else if x.kind = 7 then Tr.inr x.op 1 14
  else if x.kind = 23 then Tr.pkgOk x.text
  else !Tr.textK x.kind || Tr.nameOk x.text
theorem Tr.kinds (k : Int) : k = 2 ∨ k = 3 ∨ k = 4 ∨ k = 5 ∨ k = 11 ∨ k = 14 ∨ k = 6 ∨ k = 7 ∨ k = 17 ∨ k = 23 ∨ (Tr.inr k 16 21 = true ∧ k ≠ 17) ∨ (Tr.textK k = false ∧ Tr.inr k 16 21 = false ∧ k ≠ 2 ∧ k ≠ 3 ∧ k ≠ 4 ∧ k ≠ 5 ∧ k ≠ 11 ∧ k ≠ 14 ∧ k ≠ 6 ∧ k ≠ 7 ∧ k ≠ 17 ∧ k ≠ 23) := by
  by_cases h : Tr.inr k 16 21 = true
  · by_cases h17 : k = 17
    · simp [h17]
    · simp [h, h17]
  · simp [Tr.textK]
    simp at h
    simp [h]
    omega

end Go.Proofs.YtmklgiononbmmaaDoor
