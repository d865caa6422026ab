/- Walks: the program's lists and records. -/
import Derived.Test.YtfpdoafpimaoaaaQf
namespace Go.Proofs.Ytfpdoafpimaoaaa.Vl
open Go.RowKit T.atoms T.ok T.high T.good T.allPlain DatAt

set_option maxHeartbeats 400000 in
theorem size_none (w : World) : Calls Try.prog 114 #[.agg #[]] w fun e w' => e = .returned (ext 1 0) ∧ Below w.heap.size w w' := by
  go_enter Try.func114, Try.ntmps114
  go_wp2_with (go_at_call 83; refine (single_any _).mono ?_; rintro e w1 ⟨rfl, hb1⟩; obtain ⟨hc, hf⟩ := bcell hb1)
  refine bodyPost_ret (v := ext 1 0) (by simp [results, Try.results114, go_sem, hc]) rfl ⟨rfl, ?_⟩
  exact (((((Below.refl _ _).alloc (Nat.le_refl _) _).alloc (by simp) _).trans (hb1.mono (by simp; omega))).setCell (by simp) _).setCell (by simp) _

/-- How a value of the interface tells its size. -/
def Sizes (v : Value) (a d : Nat) : Prop := ∃ f r, (∀ w, (callMethod v "loop.example/kilnclay/impl.size" #[]).run Try.prog w = .ok (.enter f #[r]) w) ∧ ∀ w, Calls Try.prog f #[r] w fun e w' => e = .returned (ext (a : Nat) (d : Nat)) ∧ Below w.heap.size w w'
theorem m_none (w : World) : (callMethod (.iface 123 (.agg #[])) "loop.example/kilnclay/impl.size" #[]).run Try.prog w = .ok (.enter 114 #[.agg #[]]) w := by kernel_rfl
theorem m_bool (b : Bool) (w : World) : (callMethod (.iface 78 (.bool b)) "loop.example/kilnclay/impl.size" #[]).run Try.prog w = .ok (.enter 105 #[.bool b]) w := by kernel_rfl
theorem m_int (n : Int) (w : World) : (callMethod (.iface 81 (.int .i64 n)) "loop.example/kilnclay/impl.size" #[]).run Try.prog w = .ok (.enter 107 #[.int .i64 n]) w := by kernel_rfl
theorem m_text (x : ByteArray) (w : World) : (callMethod (.iface 83 (.string x)) "loop.example/kilnclay/impl.size" #[]).run Try.prog w = .ok (.enter 109 #[.string x]) w := by kernel_rfl
theorem m_list (p : Option Addr) (n c : Nat) (a d : Int) (w : World) : (callMethod (.iface 88 (.agg #[.slice p n c, .int .i64 a, .int .i64 d])) "loop.example/kilnclay/impl.size" #[]).run Try.prog w = .ok (.enter 110 #[ext a d]) w := by kernel_rfl
theorem m_rec (p : Option Addr) (n c : Nat) (a d : Int) (w : World) : (callMethod (.iface 92 (.agg #[.slice p n c, .int .i64 a, .int .i64 d])) "loop.example/kilnclay/impl.size" #[]).run Try.prog w = .ok (.enter 110 #[ext a d]) w := by kernel_rfl

/-- A leaf has no kids. -/
def T.leafy : T → Prop
  | .mk k _ _ ks => (k = 5 ∨ k = 6 ∨ ks = [])
theorem leafy_of_good {t : T} (h : t.good = true) : t.leafy := by
  cases t with
  | mk k n s ks =>
    rw [T.good] at h
    simp only [Bool.and_eq_true] at h
    have hp := h.1.1
    simp only [plain, Bool.and_eq_true, Bool.or_eq_true, beq_iff_eq] at hp
    show k = 5 ∨ k = 6 ∨ ks = []
    rcases hp.1.2 with (h5 | h6) | h0
    · exact .inl h5
    · exact .inr (.inl h6)
    · exact .inr (.inr (List.length_eq_zero_iff.1 h0))
theorem sizes_of {w : World} {x : Nat} {t : T} {v : Value} (h : DatAt w x t v) (hl : t.leafy) : Sizes v t.count t.high := by
  cases t with
  | mk k n s ks =>
    unfold DatAt at h
    have hc : (T.mk k n s ks).count = 1 + (atomsL ks).length := T.count_eq _
    have hh : (T.mk k n s ks).high = highL ks := T.high_eq _
    rw [hc, hh]
    have leaf : k ≠ 5 → k ≠ 6 → 1 + (atomsL ks).length = 1 ∧ highL ks = 0 := by
      intro h5 h6
      rcases hl with h | h | rfl
      · exact absurd h h5
      · exact absurd h h6
      · exact ⟨rfl, rfl⟩
    rcases h with ⟨rfl, rfl⟩ | ⟨rfl, rfl⟩ | ⟨rfl, rfl⟩ | ⟨rfl, rfl⟩ | ⟨rfl, p, c, vs, rfl, _⟩ | ⟨rfl, p, c, m, vs, _, rfl, _⟩
    · rw [(leaf (by omega) (by omega)).1, (leaf (by omega) (by omega)).2]; exact ⟨_, _, m_none, size_none⟩
    · rw [(leaf (by omega) (by omega)).1, (leaf (by omega) (by omega)).2]; exact ⟨_, _, m_bool _, size_bool _⟩
    · rw [(leaf (by omega) (by omega)).1, (leaf (by omega) (by omega)).2]; exact ⟨_, _, m_int _, size_int _⟩
    · rw [(leaf (by omega) (by omega)).1, (leaf (by omega) (by omega)).2]; exact ⟨_, _, m_text _, size_text _⟩
    · exact ⟨_, _, m_list _ _ _ _ _, size_ext _ _⟩
    · exact ⟨_, _, m_rec _ _ _ _ _, size_ext _ _⟩

/-- A method called through the interface, as one step of a region that draws. -/
theorem step_size {ops : Array Oper} {o : Oper} {a : Act} {w : World} {K : Act → World → Prop} {Q : Exit → Act → World → Prop} {E : Prop}
    (hg : o.guard = none) (x : Operand) (hop : o.op = Op.call { callee := Callee.invoke x "loop.example/kilnclay/impl.size", args := #[], argTypes := #[] })
    (v : Value) (c d : Nat) (hx : a.eval x = v) (hv : Sizes v c d) (hK : ∀ w', Below w.heap.size w w' → K (a.put o.dst (ext (c : Nat) (d : Nat))) w') :
    if Region.wanted o (yielded ops a.tmps) = true then Oper.wp Try.prog o a w K Q else E := by
  have hw : Region.wanted o (yielded ops a.tmps) = true := by simp [Region.wanted, hg]
  rw [if_pos hw]
  obtain ⟨f, r, hm, hC⟩ := hv
  unfold Oper.wp
  simp only [execOp, hop, resolve, invoke, List.map_toArray, List.map_nil, hx, Sem.run_bind, Sem.run_pure, Result.andThen_ok]
  simp [hm]
  refine (hC w).mono fun e w2 h => ?_
  obtain ⟨rfl, h2⟩ := h
  exact hK _ h2
/-- A call without arguments by its contract, as one step of a region that draws. -/
theorem step_call0 {P : Program} {ops : Array Oper} {o : Oper} {a : Act} {w : World} {K : Act → World → Prop} {Q : Exit → Act → World → Prop} {E : Prop}
    (hg : o.guard = none) (f : FuncId) (hop : o.op = Op.call { callee := Callee.value (Operand.func f), args := #[], argTypes := #[] })
    (r : Value) (fn : Func) (hfn : P.funcs[f]? = some fn) (hne : (fn.name == "runtime.NumGoroutine") = false) (hbd : fn.body.isNone = false) (R : World → Prop) (hC : Calls P f #[] w fun e w' => e = .returned r ∧ R w') (hK : ∀ w', R w' → K (a.put o.dst r) w') :
    if Region.wanted o (yielded ops a.tmps) = true then Oper.wp P o a w K Q else E := by
  have hw : Region.wanted o (yielded ops a.tmps) = true := by simp [Region.wanted, hg]
  rw [if_pos hw]
  have h1 : (callFunc f #[]).run P w = .ok (.enter f #[]) w := by
    simp only [callFunc, Sem.run_bind, run_program, Result.andThen_ok, hfn, hne, hbd]; rfl
  unfold Oper.wp
  simp only [execOp, hop, resolve, invoke, List.map_toArray, List.map_nil, Deferred.ofValue, Sem.run_bind]
  rw [show a.eval (Operand.func f) = Value.func (Fn.func f) #[] #[] from rfl]
  simp only [Sem.run_pure, Result.andThen_ok]
  simp [h1]
  refine hC.mono fun e w2 h => ?_
  obtain ⟨rfl, h2⟩ := h
  exact hK _ h2
/-- A call of two arguments by its contract, as one step of a region that draws. -/
theorem step_call2 {P : Program} {ops : Array Oper} {o : Oper} {a : Act} {w : World} {K : Act → World → Prop} {Q : Exit → Act → World → Prop} {E : Prop}
    (hg : o.guard = none) (f : FuncId) (x y : Operand) (t u : TypeId) (hop : o.op = Op.call { callee := Callee.value (Operand.func f), args := #[x, y], argTypes := #[t, u] })
    (v v2 r : Value) (hx : a.eval x = v) (hy : a.eval y = v2) (fn : Func) (hfn : P.funcs[f]? = some fn) (hne : (fn.name == "runtime.NumGoroutine") = false) (hbd : fn.body.isNone = false) (R : World → Prop) (hC : Calls P f #[v, v2] w fun e w' => e = .returned r ∧ R w') (hK : ∀ w', R w' → K (a.put o.dst r) w') :
    if Region.wanted o (yielded ops a.tmps) = true then Oper.wp P o a w K Q else E := by
  have hw : Region.wanted o (yielded ops a.tmps) = true := by simp [Region.wanted, hg]
  rw [if_pos hw]
  have h1 : (callFunc f #[v, v2]).run P w = .ok (.enter f #[v, v2]) w := by
    simp only [callFunc, Sem.run_bind, run_program, Result.andThen_ok, hfn, hne, hbd]; rfl
  unfold Oper.wp
  simp only [execOp, hop, resolve, invoke, List.map_toArray, List.map_cons, List.map_nil, hx, hy, Deferred.ofValue, Sem.run_bind]
  rw [show a.eval (Operand.func f) = Value.func (Fn.func f) #[] #[] from rfl]
  simp only [Sem.run_pure, Result.andThen_ok]
  simp [h1]
  refine hC.mono fun e w2 h => ?_
  obtain ⟨rfl, h2⟩ := h
  exact hK _ h2
end Go.Proofs.Ytfpdoafpimaoaaa.Vl
