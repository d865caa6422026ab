/- Walks: a name set in a record's kids, on the specification's side. -/
import Derived.Test.YtfpdoafpimaoaaaDd
import Derived.Test.YtfpdoafpimaoaaaQe
namespace Go.Proofs.Ytfpdoafpimaoaaa.Vl
open Go.RowKit T.atoms T.ok T.high T.good T.allPlain

/-- A call of one argument by a contract on what it returns, as one step of a region that draws. -/
theorem step_call1x {P : Program} {ops : Array Oper} {o : Oper} {a : Act} {w : World} {K : Act → World → Prop} {Q : Exit → Act → World → Prop} {E : Prop}
    (hg : o.guard = none) (f : FuncId) (x : Operand) (t : TypeId) (hop : o.op = Op.call { callee := Callee.value (Operand.func f), args := #[x], argTypes := #[t] })
    (v : Value) (hx : a.eval x = v) (fn : Func) (hfn : P.funcs[f]? = some fn) (hne : (fn.name == "runtime.NumGoroutine") = false) (hbd : fn.body.isNone = false) (R : Value → World → Prop) (hC : Calls P f #[v] w fun e w' => ∃ r, e = .returned r ∧ R r w') (hK : ∀ r w', R r w' → K (a.put o.dst r) w') :
    if Region.wanted o (yielded ops a.tmps) = true then Oper.wp P o a w K Q else E := by
  have hw : Region.wanted o (yielded ops a.tmps) = true := by simp [Region.wanted, hg]
  rw [if_pos hw]
  have h1 : (callFunc f #[v]).run P w = .ok (.enter f #[v]) w := by
    simp only [callFunc, Sem.run_bind, run_program, Result.andThen_ok, hfn, hne, hbd]; rfl
  unfold Oper.wp
  simp only [execOp, hop, resolve, invoke, List.map_toArray, List.map_cons, List.map_nil, hx, Deferred.ofValue, Sem.run_bind]
  rw [show a.eval (Operand.func f) = Value.func (Fn.func f) #[] #[] from rfl]
  simp only [Sem.run_pure, Result.andThen_ok]
  simp [h1]
  refine hC.mono fun e w2 h => ?_
  obtain ⟨r, rfl, h2⟩ := h
  exact hK _ _ h2
theorem two_new (w : World) (a b : Value) (t : TypeId) : ∀ j u, [a, b][j]? = some u → (w.alloc (.cells #[a, b] t)).cell? ((⟨w.heap.size, 0, none⟩ : Addr).add j) = some u := by
  intro j u h
  rw [add_plain, Nat.zero_add, World.cell?, heap_alloc_new]
  simpa using h
/-- A value in a block other than one. -/
def El (w : World) (q : Option Nat) (a : Value) (x : List At) : Prop := ∃ g c, a = .slice (some ⟨g, 0, none⟩) x.length c ∧ x.length ≤ c ∧ some g ≠ q ∧ AtomsO w g 0 x
theorem El.heap {w w' : World} {q row : Option Nat} {a : Value} {x : List At} (h : El w q a x) (hr : El w row a x) (hb : ∀ b, b < w.heap.size → some b ≠ row → w'.heap[b]? = w.heap[b]?) : El w' q a x := by
  obtain ⟨g, c, rfl, h2, h3, h4⟩ := h
  obtain ⟨g', c', e, _, r3, _⟩ := hr
  cases e
  exact ⟨g, c, rfl, h2, h3, AtomsO.heap h4 (hb g h4.1 r3)⟩
theorem El.below {w w' : World} {q : Option Nat} {a : Value} {x : List At} (h : El w q a x) (hb : Below w.heap.size w w') : El w' q a x := by
  obtain ⟨g, c, rfl, h2, h3, h4⟩ := h
  exact ⟨g, c, rfl, h2, h3, h4.below hb⟩
theorem El.fresh {w : World} {q : Option Nat} {a : Value} {x : List At} (h : El w q a x) {k : Nat} (hk : w.heap.size ≤ k) : El w (some k) a x := by
  obtain ⟨g, c, rfl, h2, h3, h4⟩ := h
  exact ⟨g, c, rfl, h2, fun e => by cases e; have := h4.1; omega, h4⟩
theorem Kds.el {w : World} {rb : Nat} {vs : List Value} {ls : List (List At)} (h : Kds w rb vs ls) (j : Nat) (hj : j < ls.length) : ∃ a, vs[j]? = some a ∧ El w (some rb) a ls[j] := by
  obtain ⟨g, c, h1, h2, h3, h4⟩ := h.2 j hj
  exact ⟨_, h1, g, c, rfl, h2, fun e => by cases e; exact h3 rfl, h4⟩
/-- Values in a row, all of them in other blocks than one. -/
def Ks (w : World) (q : Option Nat) (vs : List Value) (ls : List (List At)) : Prop := vs.length = ls.length ∧ ∀ j (h : j < ls.length), ∃ a, vs[j]? = some a ∧ El w q a ls[j]
theorem Ks.kds {w : World} {rb : Nat} {vs : List Value} {ls : List (List At)} (h : Ks w (some rb) vs ls) : Kds w rb vs ls := by
  refine ⟨h.1, fun j hj => ?_⟩
  obtain ⟨a, h1, g, c, rfl, h2, h3, h4⟩ := h.2 j hj
  exact ⟨g, c, h1, h2, fun e => h3 (by rw [e]), h4⟩
theorem Ks.snoc {w : World} {q : Option Nat} {vs : List Value} {ls : List (List At)} {a : Value} {x : List At} (h : Ks w q vs ls) (hx : El w q a x) : Ks w q (vs ++ [a]) (ls ++ [x]) := by
  refine ⟨by simp [h.1], fun j hj => ?_⟩
  by_cases hlt : j < ls.length
  · obtain ⟨b, h1, h2⟩ := h.2 j hlt
    refine ⟨b, ?_, ?_⟩
    · rw [List.getElem?_append_left (by rw [h.1]; exact hlt)]; exact h1
    · rw [List.getElem_append_left hlt]; exact h2
  · have hj2 : j = ls.length := by simp at hj; omega
    subst hj2
    refine ⟨a, ?_, ?_⟩
    · rw [List.getElem?_append_right (by rw [h.1]; exact Nat.le_refl _), h.1, Nat.sub_self]; rfl
    · simpa using hx
theorem Ks.heap {w w' : World} {q row : Option Nat} {vs : List Value} {ls : List (List At)} (h : Ks w q vs ls) (hr : Ks w row vs ls) (hb : ∀ b, b < w.heap.size → some b ≠ row → w'.heap[b]? = w.heap[b]?) : Ks w' q vs ls := by
  refine ⟨h.1, fun j hj => ?_⟩
  obtain ⟨a, h1, h2⟩ := h.2 j hj
  obtain ⟨b, h3, h4⟩ := hr.2 j hj
  obtain rfl : b = a := Option.some.inj (h3.symm.trans h1)
  exact ⟨_, h1, h2.heap h4 hb⟩
theorem Ks.below {w w' : World} {q : Option Nat} {vs : List Value} {ls : List (List At)} (h : Ks w q vs ls) (hb : Below w.heap.size w w') : Ks w' q vs ls :=
  ⟨h.1, fun j hj => by obtain ⟨a, h1, h2⟩ := h.2 j hj; exact ⟨a, h1, h2.below hb⟩⟩
theorem Ks.fresh {w : World} {q : Option Nat} {vs : List Value} {ls : List (List At)} (h : Ks w q vs ls) {k : Nat} (hk : w.heap.size ≤ k) : Ks w (some k) vs ls :=
  ⟨h.1, fun j hj => by obtain ⟨a, h1, h2⟩ := h.2 j hj; exact ⟨a, h1, h2.fresh hk⟩⟩

/-- A row of values of one's own. -/
structure KRow (w : World) (B rb : Nat) (v : Value) (ls : List (List At)) (vs : List Value) : Prop where
  row : w.ownsRow B 25 1 v ls.length vs
  kds : Ks w (some rb) vs ls
  dis : Ks w v.ownBlock vs ls
theorem KRow.below {w w' : World} {B rb : Nat} {v : Value} {ls : List (List At)} {vs : List Value} (h : KRow w B rb v ls vs) (hb : Below w.heap.size w w') : KRow w' B rb v ls vs := ⟨row_belowZ h.row hb, h.kds.below hb, h.dis.below hb⟩
theorem KRow.grow {w w' : World} {B rb n : Nat} {v v' : Value} {ls' : List (List At)} {vs' : List Value} (hn : n = ls'.length) (hg : w.grownBy w' v.ownBlock) (ho : w'.ownsRow B 25 1 v' n vs') (h4 : v'.ownBlock = v.ownBlock ∨ v'.ownBlock = some w.heap.size) (k1 : Ks w (some rb) vs' ls') (k2 : Ks w v.ownBlock vs' ls') : KRow w' B rb v' ls' vs' := by
  subst hn
  refine ⟨ho, k1.heap k2 (fun b hb hr => hg.block b hb hr), ?_⟩
  rcases h4 with e | e
  · rw [e]; exact k2.heap k2 (fun b hb hr => hg.block b hb hr)
  · rw [e]; exact (k1.fresh (Nat.le_refl _)).heap k2 (fun b hb hr => hg.block b hb hr)
theorem total_app (a b : List (List At)) : total (a ++ b) = total a + total b := by unfold total; rw [List.map_append, List.sum_append]

def SetPost (w : World) (rb n m : Nat) (e : Ending) (w' : World) : Prop := ∃ v ls vs, e = .returned v ∧ KRow w' w.heap.size rb v ls vs ∧ ls.length ≤ n ∧ ls.length % 2 = 0 ∧ total ls ≤ m ∧ (∀ x ∈ ls, 0 < x.length) ∧ Below w.heap.size w w'
/-- l5Set's state, in a later world. -/
structure SI (w : World) (rb : Nat) (va : Value) (lt i : Nat) (ti : Nat) (done : Bool) (v : Value) (lo : List (List At)) (vo : List Value) (W : World) : Prop where
  B : Below w.heap.size w W
  c : W.cell? ⟨w.heap.size, 0, none⟩ = some va
  z : w.heap.size + 1 < W.heap.size
  k : KRow W (w.heap.size + 1) rb v lo vo
  n0 : done = false → lo.length ≤ i ∧ total lo ≤ ti
  n1 : lo.length ≤ i + 2 ∧ total lo ≤ ti + 1 + lt
  ev : lo.length % 2 = 0
  ps : ∀ x ∈ lo, 0 < x.length
theorem SI.below {w W W' : World} {rb lt i ti : Nat} {va v : Value} {done : Bool} {lo : List (List At)} {vo : List Value} (h : SI w rb va lt i ti done v lo vo W) (hb : Below W.heap.size W W') : SI w rb va lt i ti done v lo vo W' := by
  have hz := h.z
  exact ⟨h.B.trans (hb.mono h.B.size), (hb.cell (p := ⟨w.heap.size, 0, none⟩) (by show w.heap.size < _; omega)).trans h.c, Nat.lt_of_lt_of_le hz hb.size, h.k.below hb, h.n0, h.n1, h.ev, h.ps⟩
/-- Two values more. -/
theorem SI.add {w W W' : World} {rb lt i ti i' ti' n : Nat} {va v v' : Value} {done done' : Bool} {lo : List (List At)} {vo : List Value} {a b : Value} {x y : List At} (h : SI w rb va lt i ti done v lo vo W) (hg : W.grownBy W' v.ownBlock) (hn : n = lo.length + 2) (ho : W'.ownsRow (w.heap.size + 1) 25 1 v' n (vo ++ [a, b])) (h4 : v'.ownBlock = v.ownBlock ∨ v'.ownBlock = some W.heap.size)
    (a1 : El W (some rb) a x) (a2 : El W v.ownBlock a x) (b1 : El W (some rb) b y) (b2 : El W v.ownBlock b y) (px : 0 < x.length) (py : 0 < y.length) (m0 : done' = false → lo.length + 2 ≤ i' ∧ total lo + (x.length + y.length) ≤ ti') (m1 : lo.length + 2 ≤ i' + 2 ∧ total lo + (x.length + y.length) ≤ ti' + 1 + lt) : SI w rb va lt i' ti' done' v' (lo ++ [x, y]) (vo ++ [a, b]) W' := by
  have hz := h.z
  have own : ∀ q, v.ownBlock = some q → w.heap.size + 1 ≤ q := fun q hq => (h.k.row.lt q hq).1
  have hb : Below (w.heap.size + 1) W W' := (Below.refl _ _).grown hg (by omega) (fun q hq => own q hq)
  have e1 : vo ++ [a, b] = vo ++ [a] ++ [b] := by simp
  have e2 : lo ++ [x, y] = lo ++ [x] ++ [y] := by simp
  have ht : total (lo ++ [x, y]) = total lo + (x.length + y.length) := by rw [total_app]; simp [total]
  refine ⟨h.B.trans (hb.mono (by omega)), (hb.cell (p := ⟨w.heap.size, 0, none⟩) (Nat.lt_succ_self _)).trans h.c, Nat.lt_of_lt_of_le hz hb.size, KRow.grow (v := v) (by rw [hn]; simp) hg ho h4 (by rw [e1, e2]; exact (h.k.kds.snoc a1).snoc b1) (by rw [e1, e2]; exact (h.k.dis.snoc a2).snoc b2), ?_, ?_, ?_, ?_⟩
  · intro hd; rw [ht]; simpa using m0 hd
  · rw [ht]; simpa using m1
  · have := h.ev; simp; omega
  · intro q hq
    rcases List.mem_append.1 hq with hq | hq
    · exact h.ps q hq
    · simp at hq; rcases hq with rfl | rfl
      · exact px
      · exact py
theorem SI.next {w W : World} {rb lt i ti i' ti' : Nat} {va v : Value} {done : Bool} {lo : List (List At)} {vo : List Value} (h : SI w rb va lt i ti done v lo vo W) (hi : i ≤ i') (ht : ti ≤ ti') : SI w rb va lt i' ti' done v lo vo W :=
  ⟨h.B, h.c, h.z, h.k, fun hd => by have := h.n0 hd; omega, by have := h.n1; omega, h.ev, h.ps⟩
theorem SI.own {w W : World} {rb lt i ti : Nat} {va v : Value} {done : Bool} {lo : List (List At)} {vo : List Value} (h : SI w rb va lt i ti done v lo vo W) {a : Value} {x : List At} {q : Option Nat} (ha : El w q a x) : El W v.ownBlock a x := by
  obtain ⟨g, c, rfl, h2, _, h4⟩ := ha
  exact ⟨g, c, rfl, h2, fun e => by have := (h.k.row.lt g e.symm).1; have := h4.1; omega, h4.below h.B⟩
set_option maxRecDepth 100000 in
theorem SI.start (w : World) (rb lt : Nat) (va : Value) : SI w rb va lt 0 0 false (.slice (some ⟨w.heap.size + 1, 0, none⟩) 0 0) [] [] ((w.alloc (.cells #[va] 25)).alloc (.cells #[] 25)) := by
  have n1 := cell_new w va 25
  have b2 : Below (w.heap.size + 1) (w.alloc (.cells #[va] 25)) ((w.alloc (.cells #[va] 25)).alloc (.cells #[] 25)) := (Below.refl _ _).alloc (by simp) _
  have hr := World.ownsRow_lit (base := w.heap.size + 1) (e := 25) (size := 1) (w.alloc (.cells #[va] 25)) #[] 0 (by simp) (Nat.zero_le _) rfl
  rw [World.size_alloc] at hr
  exact ⟨((Below.refl _ _).alloc (Nat.le_refl _) _).alloc (by simp) _, (b2.cell (p := ⟨w.heap.size, 0, none⟩) (Nat.lt_succ_self _)).trans n1.1, by simp, ⟨hr, ⟨rfl, fun j hj => absurd hj (Nat.not_lt_zero _)⟩, ⟨rfl, fun j hj => absurd hj (Nat.not_lt_zero _)⟩⟩, fun _ => ⟨Nat.le_refl _, Nat.le_refl _⟩, by simp [total], rfl, fun x hx => by cases hx⟩
end Go.Proofs.Ytfpdoafpimaoaaa.Vl
