/- Cells of nodes. -/
import Derived.Test.YtmklgiononbmmaaDoorVn
import Derived.OwnWalk
namespace Go.Proofs.YtmklgiononbmmaaDoor
open Go.RowKit

theorem Tr.cellsOf_len (l : List Tr.Nd) : (Tr.cellsOf l).length = l.length * 5 := by
  induction l with
  | nil => rfl
  | cons x r ih => rw [show Tr.cellsOf (x :: r) = x.cells ++ Tr.cellsOf r from rfl, List.length_append, ih, List.length_cons]; simp [Tr.Nd.cells]; omega
theorem Tr.cellsOf_at (l : List Tr.Nd) (i : Nat) (h : i < l.length) : (Tr.cellsOf l)[i * 5]? = some (.int .i64 l[i].kind) ∧ (Tr.cellsOf l)[i * 5 + 1]? = some (.int .i64 l[i].op) ∧ (Tr.cellsOf l)[i * 5 + 2]? = some (.int .i64 l[i].n) ∧ (Tr.cellsOf l)[i * 5 + 3]? = some (.string l[i].text) ∧ (Tr.cellsOf l)[i * 5 + 4]? = some (.int .i64 l[i].kids) := by
  induction l generalizing i with
  | nil => simp at h
  | cons x r ih =>
    rw [show Tr.cellsOf (x :: r) = x.cells ++ Tr.cellsOf r from rfl]
    match i, h with
    | 0, _ => simp [Tr.Nd.cells]
    | i + 1, h =>
      have := ih i (by simpa using h)
      have hl : x.cells.length = 5 := rfl
      refine ⟨?_, ?_, ?_, ?_, ?_⟩
      all_goals rw [List.getElem?_append_right (by omega), hl]
      · rw [show (i + 1) * 5 - 5 = i * 5 from by omega]; exact this.1
      · rw [show (i + 1) * 5 + 1 - 5 = i * 5 + 1 from by omega]; exact this.2.1
      · rw [show (i + 1) * 5 + 2 - 5 = i * 5 + 2 from by omega]; exact this.2.2.1
      · rw [show (i + 1) * 5 + 3 - 5 = i * 5 + 3 from by omega]; exact this.2.2.2.1
      · rw [show (i + 1) * 5 + 4 - 5 = i * 5 + 4 from by omega]; exact this.2.2.2.2
theorem cell_new (X : World) (v : Value) (t : TypeId) : (X.alloc (.cells #[v] t)).cell? ⟨X.heap.size, 0, none⟩ = some v ∧ (X.alloc (.cells #[v] t)).frozen? ⟨X.heap.size, 0, none⟩ = false := by simp
theorem size_set5 (w : World) (a : Addr) (v : Value) : (w.setCell a v).heap.size = w.heap.size := by simp
theorem Tryd.infoNd : (Tryd.prog.info? 61).map (fun i => (i.zero, i.size, i.bytes)) = some (some (.agg #[.int .i64 0, .int .i64 0, .int .i64 0, .string ⟨#[]⟩, .int .i64 0]), 5, 48) := by kernel_rfl

end Go.Proofs.YtmklgiononbmmaaDoor
