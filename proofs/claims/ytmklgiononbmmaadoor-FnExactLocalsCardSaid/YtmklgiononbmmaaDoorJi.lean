/- Walks: ValidTree, on the program's side. -/
import Derived.Test.YtmklgiononbmmaaDoorJe
import Derived.Test.YtmklgiononbmmaaDoorJg
import Derived.Test.YtmklgiononbmmaaDoorJh
import Derived.Test.YtmklgiononbmmaaDoorVk
import Derived.Deep.RegionLaw
namespace Go.Proofs.YtmklgiononbmmaaDoor
open Go.RowKit

def Tr.Gr.cells (x : Tr.Gr) : List Value := [.int .i64 x.nd.kind, .int .i64 x.nd.op, .int .i64 x.nd.n, .string x.nd.text, .int .i64 x.nd.kids, .int .i64 x.high]
def Tr.grCells (l : List Tr.Gr) : List Value := l.flatMap Tr.Gr.cells
theorem Tr.grCells_len (l : List Tr.Gr) : (Tr.grCells l).length = l.length * 6 := by
  induction l with
  | nil => rfl
  | cons x r ih => rw [show Tr.grCells (x :: r) = x.cells ++ Tr.grCells r from rfl, List.length_append, ih, List.length_cons]; simp [Tr.Gr.cells]; omega
theorem Tr.grCells_take (l : List Tr.Gr) (m : Nat) : (Tr.grCells l).take (m * 6) = Tr.grCells (l.take m) := by
  induction l generalizing m with
  | nil => simp [Tr.grCells]
  | cons x r ih =>
    cases m with
    | zero => simp [Tr.grCells]
    | succ m =>
      rw [show Tr.grCells (x :: r) = x.cells ++ Tr.grCells r from rfl, List.take_succ_cons, show Tr.grCells (x :: r.take m) = x.cells ++ Tr.grCells (r.take m) from rfl, ← ih m, List.take_append, show x.cells.length = 6 from rfl, List.take_of_length_le (by rw [show x.cells.length = 6 from rfl]; omega)]
      congr 2; omega
theorem Tr.grCells_at (l : List Tr.Gr) (i : Nat) (h : i < l.length) : (Tr.grCells l)[i * 6]? = some (.int .i64 l[i].nd.kind) ∧ (Tr.grCells l)[i * 6 + 1]? = some (.int .i64 l[i].nd.op) ∧ (Tr.grCells l)[i * 6 + 2]? = some (.int .i64 l[i].nd.n) ∧ (Tr.grCells l)[i * 6 + 3]? = some (.string l[i].nd.text) ∧ (Tr.grCells l)[i * 6 + 4]? = some (.int .i64 l[i].nd.kids) ∧ (Tr.grCells l)[i * 6 + 5]? = some (.int .i64 l[i].high) := by
  induction l generalizing i with
  | nil => simp at h
  | cons x r ih =>
    rw [show Tr.grCells (x :: r) = x.cells ++ Tr.grCells r from rfl]
    match i, h with
    | 0, _ => simp [Tr.Gr.cells]
    | i + 1, h =>
      have := ih i (by simpa using h)
      have hl : x.cells.length = 6 := rfl
      refine ⟨?_, ?_, ?_, ?_, ?_, ?_⟩
      all_goals rw [List.getElem?_append_right (by omega), hl]
      · rw [show (i + 1) * 6 - 6 = i * 6 from by omega]; exact this.1
      · rw [show (i + 1) * 6 + 1 - 6 = i * 6 + 1 from by omega]; exact this.2.1
      · rw [show (i + 1) * 6 + 2 - 6 = i * 6 + 2 from by omega]; exact this.2.2.1
      · rw [show (i + 1) * 6 + 3 - 6 = i * 6 + 3 from by omega]; exact this.2.2.2.1
      · rw [show (i + 1) * 6 + 4 - 6 = i * 6 + 4 from by omega]; exact this.2.2.2.2.1
      · rw [show (i + 1) * 6 + 5 - 6 = i * 6 + 5 from by omega]; exact this.2.2.2.2.2
theorem gr_of_row {w : World} {base : Nat} {e : TypeId} {g cap : Nat} {l : List Tr.Gr} (h : w.ownsRow base e 6 (.slice (some ⟨g, 0, none⟩) l.length cap) l.length (Tr.grCells l)) : GrAt w g 0 l := by
  refine ⟨(row_room h).2.2, fun i hi => ?_⟩
  obtain ⟨p0, p1, p2, p3, p4, p5⟩ := Tr.grCells_at l i hi
  simp only [Nat.zero_add]
  exact ⟨(h.cellAt (i * 6) (by omega)).trans p0, (h.cellAt (i * 6 + 1) (by omega)).trans p1, (h.cellAt (i * 6 + 2) (by omega)).trans p2, (h.cellAt (i * 6 + 3) (by omega)).trans p3, (h.cellAt (i * 6 + 4) (by omega)).trans p4, (h.cellAt (i * 6 + 5) (by omega)).trans p5⟩
theorem row_takeS {w : World} {base size : Nat} {e : TypeId} {g n cap : Nat} {xs : List Value} (h : w.ownsRow base e size (.slice (some ⟨g, 0, none⟩) n cap) n xs) (m : Nat) (hm : m ≤ n) : w.ownsRow base e size (.slice (some ⟨g, 0, none⟩) m cap) m (xs.take (m * size)) := by
  obtain ⟨h1, h2⟩ := h
  have hms : m * size ≤ n * size := Nat.mul_le_mul_right _ hm
  refine ⟨by rw [List.length_take, h1]; omega, .inr ?_⟩
  rcases h2 with ⟨h2, _⟩ | ⟨g', cap', cur, hv, hb, hg, hn, hc, hs, ht⟩
  · cases h2
  · cases hv
    refine ⟨g, cap, cur, rfl, hb, hg, by omega, hc, hs, ?_⟩
    rw [← ht, List.take_take, Nat.min_eq_left hms]
theorem row_belowG {w w1 : World} {base : Nat} {e : TypeId} {size : Nat} {v : Value} {n : Nat} {xs : List Value} (h : w.ownsRow base e size v n xs) (hb : Below w.heap.size w w1) : w1.ownsRow base e size v n xs := by
  have hg : w.grownBy w1 none := ⟨hb.os, hb.tape, hb.output, hb.size, fun k hk _ => hb.block k hk⟩
  refine h.kept hg ?_
  cases hv : v.ownBlock with
  | none => exact .inl rfl
  | some k => exact .inr (by simp)
theorem map_below {w w1 : World} {P : Program} {k b n : Nat} {D : DataW Unit} (h : w.ownsMap P k unitElem b n D) (hb : Below w.heap.size w w1) : w1.ownsMap P k unitElem b n D := by
  obtain ⟨es, clock, h1, h2⟩ := h
  have hlt : b < w.heap.size := (Array.getElem?_eq_some_iff.1 h1).1
  exact ⟨es, clock, (hb.block b hlt).trans h1, h2⟩

/-- A call by its contract, as one step of a region that draws. -/
theorem step_call1 {P : Program} {ops : Array Oper} {o : Oper} {a : Act} {w : World} {K : Act → World → Prop} {Q : Exit → Act → World → Prop} {E : Prop}
    (hg : o.guard = none) (f : FuncId) (x : Operand) (t : TypeId) (hop : o.op = Op.call { callee := Callee.value (Operand.func f), args := #[x], argTypes := #[t] })
    (v r : Value) (hx : a.eval x = v) (fn : Func) (hfn : P.funcs[f]? = some fn) (hne : (fn.name == "runtime.NumGoroutine") = false) (hbd : fn.body.isNone = false) (R : World → Prop) (hC : Calls P f #[v] w fun e w' => e = .returned r ∧ R w') (hK : ∀ w', R w' → K (a.put o.dst r) w') :
    if Region.wanted o (yielded ops a.tmps) = true then Oper.wp P o a w K Q else E := by
  have hw : Region.wanted o (yielded ops a.tmps) = true := by simp [Region.wanted, hg]
  rw [if_pos hw]
  have h1 : (callFunc f #[v]).run P w = .ok (.enter f #[v]) w := by
    simp only [callFunc, Sem.run_bind, run_program, Result.andThen_ok, hfn, hne, hbd]; rfl
  unfold Oper.wp
  simp only [execOp, hop, resolve, invoke, List.map_toArray, List.map_cons, List.map_nil, hx, Deferred.ofValue, Sem.run_bind]
  rw [show a.eval (Operand.func f) = Value.func (Fn.func f) #[] #[] from rfl]
  simp only [Sem.run_pure, Result.andThen_ok]
  simp [h1]
  refine hC.mono fun e w2 h => ?_
  obtain ⟨rfl, h2⟩ := h
  exact hK _ h2
/-- append onto a row of the call's own, as one step of a region that draws. -/
theorem step_append_ownJ {P : Program} {ops : Array Oper} {o : Oper} {a : Act} {w : World} {K : Act → World → Prop} {Q : Exit → Act → World → Prop} {E : Prop}
    (hgd : o.guard = none) (s x : Operand) (t : TypeId) (ho : o.op = .call { callee := .builtin .append, args := #[s, x], argTypes := #[t, t] })
    (base : Nat) (e : TypeId) (i : TypeInfo) (z : Value) (size bytes : Nat) (ht : P.underlying t = some (.slice e)) (hi : P.info? e = some i) (hz : i.zero = some z)
    (hsize : i.size = size) (hby : i.bytes = bytes) (hzs : z.cells.size = size) (hsz : 0 < size)
    (v : Value) (n : Nat) (xs : List Value) (hs : a.eval s = v) (hown : w.ownsRow base e size v n xs)
    (ad : Addr) (m c : Nat) (news : List Value) (hx : a.eval x = .slice (some ad) m c) (hl : news.length = m * size) (hnews : ∀ j u, news[j]? = some u → w.cell? (ad.add j) = some u) (h1 : ∀ u ∈ news, u.oneCell' = true)
    (h63 : n + m ≤ maxLen) (hbytes : (n + m) * bytes ≤ 140737488355328) (hbase : base ≤ w.heap.size)
    (hK : ∀ v' w', w'.ownsRow base e size v' (n + m) (xs ++ news) → w.grownBy w' v.ownBlock → (v' = .slice none 0 0 ↔ v = .slice none 0 0 ∧ m = 0) → (v'.ownBlock = v.ownBlock ∨ v'.ownBlock = some w.heap.size) → K (a.put o.dst v') w') :
    if Region.wanted o (yielded ops a.tmps) = true then Oper.wp P o a w K Q else E := by
  have hw : Region.wanted o (yielded ops a.tmps) = true := by simp [Region.wanted, hgd]
  rw [if_pos hw]
  obtain ⟨v', w', hr, h2, h3, h4, h5⟩ := run_append_own_at (P := P) w base t o.type e i z size bytes ht hi hz hsize hby hzs hsz v n xs hown ad m c news hl hnews h1 h63 hbytes hbase
  unfold Oper.wp execOp
  simp only [ho, resolve, invoke, builtin, Sem.run_bind, Sem.run_pure, Result.andThen_ok, List.map_toArray, List.map_cons, List.map_nil, hs, hx, hr]
  exact hK _ _ h2 h3 h4 h5
end Go.Proofs.YtmklgiononbmmaaDoor
