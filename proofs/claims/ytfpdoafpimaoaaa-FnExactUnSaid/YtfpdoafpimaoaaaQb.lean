/- Values in memory: atoms in a row, places in a row; small laws on rows. -/
import Derived.Test.YtfpdoafpimaoaaaProg
import Derived.Test.YtfpdoafpimaoaaaQa
import Derived.WalkKit
import Derived.WalkSpells
import Derived.WalkLawsBesides
import Derived.Deep.DeepFit
import Derived.Deep.DeepMust
import Derived.Deep.QuietTactic
import Derived.BigQuiet
import Derived.Deep.RegionWith
import Derived.Deep.RegionLaw
import Derived.Maps.AppendAt
import Derived.Deep.RegionHeld3
import Derived.Lib.Strings
import Derived.WalkSmall
namespace Go.Proofs.Ytfpdoafpimaoaaa.Vl
open Go.RowKit T.atoms T.ok T.high T.good T.allPlain

theorem hide {p : Prop} (h : p) : Hid p := h
theorem ret_bool {a b : Bool} (h : a = b) : Ending.returned (.bool a) = .returned (.bool b) := by rw [h]
theorem ret_int {k : IntKind} {a b : Int} (h : a = b) : Ending.returned (.int k a) = .returned (.int k b) := by rw [h]

/-- Atoms lie in a block from a cell on. -/
def AtomsO (w : World) (g o : Nat) (l : List At) : Prop := g < w.heap.size ∧ ∀ i (h : i < l.length), w.cell? ⟨g, o + i * 4, none⟩ = some (.int .i64 l[i].kind) ∧ w.cell? ⟨g, o + i * 4 + 1, none⟩ = some (.int .i64 l[i].n) ∧ w.cell? ⟨g, o + i * 4 + 2, none⟩ = some (.string l[i].text) ∧ w.cell? ⟨g, o + i * 4 + 3, none⟩ = some (.int .i64 l[i].kids)
theorem AtomsO.below {w w' : World} {g o : Nat} {l : List At} (h : AtomsO w g o l) (hb : Below w.heap.size w w') : AtomsO w' g o l := by
  refine ⟨Nat.lt_of_lt_of_le h.1 hb.size, fun i hi => ?_⟩
  obtain ⟨a, b, c, d⟩ := h.2 i hi
  exact ⟨(hb.cell (p := ⟨g, o + i * 4, none⟩) h.1).trans a, (hb.cell (p := ⟨g, o + i * 4 + 1, none⟩) h.1).trans b, (hb.cell (p := ⟨g, o + i * 4 + 2, none⟩) h.1).trans c, (hb.cell (p := ⟨g, o + i * 4 + 3, none⟩) h.1).trans d⟩
theorem AtomsO.part {w : World} {g o : Nat} {l a b c : List At} (h : AtomsO w g o l) (e : l = a ++ b ++ c) : AtomsO w g (o + a.length * 4) b := by
  refine ⟨h.1, fun i hi => ?_⟩
  have q := h.2 (a.length + i) (by rw [e]; simp; omega)
  have e2 : l[a.length + i]'(by rw [e]; simp; omega) = b[i] := by
    subst e
    rw [List.getElem_append_left (by simp; omega), List.getElem_append_right (by omega)]
    simp
  rw [e2, show o + (a.length + i) * 4 = o + a.length * 4 + i * 4 from by omega] at q
  exact q
/-- A slice value that shows these atoms. -/
def AtomsV (w : World) (v : Value) (l : List At) : Prop := (∃ p c, v = .slice p 0 c ∧ l = []) ∨ ∃ g o c, v = .slice (some ⟨g, o, none⟩) l.length c ∧ AtomsO w g o l ∧ l.length ≤ c
theorem AtomsV.below {w w' : World} {v : Value} {l : List At} (h : AtomsV w v l) (hb : Below w.heap.size w w') : AtomsV w' v l := by
  rcases h with h | ⟨g, o, c, h1, h2, h3⟩
  · exact .inl h
  · exact .inr ⟨g, o, c, h1, h2.below hb, h3⟩

def vint (x : Nat) : Value := .int .i64 x
theorem vint_one (l : List Nat) : ∀ u ∈ l.map vint, u.oneCell' = true := by
  intro u hu
  obtain ⟨x, _, rfl⟩ := List.mem_map.1 hu
  rfl
theorem heap_alloc_new (w : World) (o : Obj) : (w.alloc o).heap[w.heap.size]? = some o := (Go.MapKept.heap_alloc w o).1
theorem add_plain (g o j : Nat) : ((⟨g, o, none⟩ : Addr).add j) = ⟨g, o + j, none⟩ := by unfold Addr.add; split <;> simp_all
theorem cell_one (w : World) (u : Value) (t : TypeId) : ∀ (j : Nat) (x : Value), ([u] : List Value)[j]? = some x → (w.alloc (.cells #[u] t)).cell? ((⟨w.heap.size, 0, none⟩ : Addr).add j) = some x := by
  intro j x h
  rw [add_plain, Nat.zero_add, World.cell?, heap_alloc_new]
  simpa using h
theorem row_mono {w : World} {base base' : Nat} {e : TypeId} {size : Nat} {v : Value} {n : Nat} {xs : List Value} (h : w.ownsRow base e size v n xs) (hb : base' ≤ base) : w.ownsRow base' e size v n xs := by
  refine ⟨h.1, ?_⟩
  rcases h.2 with h | ⟨g, cap, cur, h1, h2, h3⟩
  · exact .inl h
  · exact .inr ⟨g, cap, cur, h1, Nat.le_trans hb h2, h3⟩
theorem row_take {w : World} {base size : Nat} {e : TypeId} {g n cap : Nat} {xs : List Value} (h : w.ownsRow base e size (.slice (some ⟨g, 0, none⟩) n cap) n xs) (m : Nat) (hm : m ≤ n) : w.ownsRow base e size (.slice (some ⟨g, 0, none⟩) m cap) m (xs.take (m * size)) := by
  obtain ⟨h1, h2⟩ := h
  have hms : m * size ≤ n * size := Nat.mul_le_mul_right _ hm
  refine ⟨by rw [List.length_take, h1]; omega, .inr ?_⟩
  rcases h2 with ⟨h2, _⟩ | ⟨g', cap', cur, hv, hb, hg, hn, hc, hs, ht⟩
  · cases h2
  · cases hv
    refine ⟨g, cap, cur, rfl, hb, hg, by omega, hc, hs, ?_⟩
    rw [← ht, List.take_take, Nat.min_eq_left hms]
theorem row_room {w : World} {base : Nat} {e : TypeId} {size g n cap : Nat} {xs : List Value} (h : w.ownsRow base e size (.slice (some ⟨g, 0, none⟩) n cap) n xs) : n ≤ cap ∧ base ≤ g ∧ g < w.heap.size := by
  have hl := h.lt g rfl
  rcases h.2 with ⟨h2, _⟩ | ⟨g', cap', cur, hv, hb, hg, hn, hc, hs, ht⟩
  · cases h2
  · cases hv; exact ⟨hn, hl.1, hl.2⟩
theorem row_below {w w1 : World} {base : Nat} {e : TypeId} {size : Nat} {v : Value} {n : Nat} {xs : List Value} (h : w.ownsRow base e size v n xs) (hb : Below w.heap.size w w1) : w1.ownsRow base e size v n xs := by
  have hg : w.grownBy w1 none := ⟨hb.os, hb.tape, hb.output, hb.size, fun k hk _ => hb.block k hk⟩
  refine h.kept hg ?_
  cases hv : v.ownBlock with
  | none => exact .inl rfl
  | some k => exact .inr (by simp)
/-- What an append onto a row leaves: where the new row lies. -/
theorem lies_form {w2 : World} {b size : Nat} {e : TypeId} {v2 : Value} {n g H : Nat} {xs : List Value} (hown : w2.ownsRow b e size v2 n xs) (hnil : ¬ v2 = .slice none 0 0)
    (hat : v2.ownBlock = some g ∨ v2.ownBlock = some H) : ∃ g2 c2, v2 = .slice (some ⟨g2, 0, none⟩) n c2 ∧ (g2 = g ∨ g2 = H) := by
  rcases hown.2 with ⟨h, _⟩ | ⟨g2, c2, _, h, _⟩
  · exact absurd h hnil
  · subst h
    refine ⟨g2, c2, rfl, ?_⟩
    simpa [Value.ownBlock] using hat
theorem grown_block {w w2 : World} {o : Obj} {row : Option Nat} (h : (w.alloc o).grownBy w2 row) (g : Nat) (hg : g < w.heap.size) (hne : some g ≠ row) : w2.heap[g]? = w.heap[g]? := by
  have := (Below.refl w.heap.size w).alloc (Nat.le_refl _) o
  exact (h.block g (by simp; omega) hne).trans (this.block g hg)
theorem AtomsO.heap {w w' : World} {g o : Nat} {l : List At} (h : AtomsO w g o l) (hb : w'.heap[g]? = w.heap[g]?) : AtomsO w' g o l := by
  have h1 := h.1
  refine ⟨?_, fun j hj => ?_⟩
  · rcases Nat.lt_or_ge g w'.heap.size with q | q
    · exact q
    · rw [Array.getElem?_eq_none q, Array.getElem?_eq_getElem h1] at hb; cases hb
  · have := h.2 j hj
    simp only [World.cell?] at this ⊢
    rw [hb]
    exact this
/-- The values of a list, each a part of a row of atoms. -/
def KidsAt (w : World) (vs : List Value) (ks : List T) : Prop := vs.length = ks.length ∧ ∀ j (h : j < ks.length), ∃ g o c, vs[j]? = some (.slice (some ⟨g, o, none⟩) (ks[j]).count c) ∧ AtomsO w g o (ks[j]).atoms ∧ (ks[j]).count ≤ c
theorem KidsAt.below {w w' : World} {vs : List Value} {ks : List T} (h : KidsAt w vs ks) (hb : Below w.heap.size w w') : KidsAt w' vs ks := by
  refine ⟨h.1, fun j hj => ?_⟩
  obtain ⟨g, o, c, a, b, d⟩ := h.2 j hj
  exact ⟨g, o, c, a, b.below hb, d⟩

/-- A call by its contract, as one step of a region that draws. -/
theorem step_call1 {P : Program} {ops : Array Oper} {o : Oper} {a : Act} {w : World} {K : Act → World → Prop} {Q : Exit → Act → World → Prop} {E : Prop}
    (hg : o.guard = none) (f : FuncId) (x : Operand) (t : TypeId) (hop : o.op = Op.call { callee := Callee.value (Operand.func f), args := #[x], argTypes := #[t] })
    (v r : Value) (hx : a.eval x = v) (fn : Func) (hfn : P.funcs[f]? = some fn) (hne : (fn.name == "runtime.NumGoroutine") = false) (hbd : fn.body.isNone = false) (R : World → Prop) (hC : Calls P f #[v] w fun e w' => e = .returned r ∧ R w') (hK : ∀ w', R w' → K (a.put o.dst r) w') :
    if Region.wanted o (yielded ops a.tmps) = true then Oper.wp P o a w K Q else E := by
  have hw : Region.wanted o (yielded ops a.tmps) = true := by simp [Region.wanted, hg]
  rw [if_pos hw]
  have h1 : (callFunc f #[v]).run P w = .ok (.enter f #[v]) w := by
    simp only [callFunc, Sem.run_bind, run_program, Result.andThen_ok, hfn, hne, hbd]; rfl
  unfold Oper.wp
  simp only [execOp, hop, resolve, invoke, List.map_toArray, List.map_cons, List.map_nil, hx, Deferred.ofValue, Sem.run_bind]
  rw [show a.eval (Operand.func f) = Value.func (Fn.func f) #[] #[] from rfl]
  simp only [Sem.run_pure, Result.andThen_ok]
  simp [h1]
  refine hC.mono fun e w2 h => ?_
  obtain ⟨rfl, h2⟩ := h
  exact hK _ h2
/-- append onto a row of the call's own, as one step of a region that draws. -/
theorem step_append_own {P : Program} {ops : Array Oper} {o : Oper} {a : Act} {w : World} {K : Act → World → Prop} {Q : Exit → Act → World → Prop} {E : Prop}
    (hgd : o.guard = none) (s x : Operand) (t : TypeId) (ho : o.op = .call { callee := .builtin .append, args := #[s, x], argTypes := #[t, t] })
    (base : Nat) (e : TypeId) (i : TypeInfo) (z : Value) (size bytes : Nat) (ht : P.underlying t = some (.slice e)) (hi : P.info? e = some i) (hz : i.zero = some z)
    (hsize : i.size = size) (hby : i.bytes = bytes) (hzs : z.cells.size = size) (hsz : 0 < size)
    (v : Value) (n : Nat) (xs : List Value) (hs : a.eval s = v) (hown : w.ownsRow base e size v n xs)
    (ad : Addr) (m c : Nat) (news : List Value) (hx : a.eval x = .slice (some ad) m c) (hl : news.length = m * size) (hnews : ∀ j u, news[j]? = some u → w.cell? (ad.add j) = some u) (h1 : ∀ u ∈ news, u.oneCell' = true)
    (h63 : n + m ≤ maxLen) (hbytes : (n + m) * bytes ≤ 140737488355328) (hbase : base ≤ w.heap.size)
    (hK : ∀ v' w', w'.ownsRow base e size v' (n + m) (xs ++ news) → w.grownBy w' v.ownBlock → (v' = .slice none 0 0 ↔ v = .slice none 0 0 ∧ m = 0) → (v'.ownBlock = v.ownBlock ∨ v'.ownBlock = some w.heap.size) → K (a.put o.dst v') w') :
    if Region.wanted o (yielded ops a.tmps) = true then Oper.wp P o a w K Q else E := by
  have hw : Region.wanted o (yielded ops a.tmps) = true := by simp [Region.wanted, hgd]
  rw [if_pos hw]
  obtain ⟨v', w', hr, h2, h3, h4, h5⟩ := run_append_own_at (P := P) w base t o.type e i z size bytes ht hi hz hsize hby hzs hsz v n xs hown ad m c news hl hnews h1 h63 hbytes hbase
  unfold Oper.wp execOp
  simp only [ho, resolve, invoke, builtin, Sem.run_bind, Sem.run_pure, Result.andThen_ok, List.map_toArray, List.map_cons, List.map_nil, hs, hx, hr]
  exact hK _ _ h2 h3 h4 h5

/-- The worlds behind w. -/
def KB (w : World) : Type := { x : World // Below w.heap.size w x }
def KB.w {w : World} (q : KB w) : World := q.1
theorem KB.below {w : World} (q : KB w) : Below w.heap.size w q.w := q.2
theorem kb_call {P : Program} {f : FuncId} {args : Array Value} {r : Value} {w : World} (h : ∀ w1, Below w.heap.size w w1 → Calls P f args w1 fun e w' => e = .returned r ∧ Below w1.heap.size w1 w') (q : KB w) :
    Calls P f args q.w fun e w'' => e = .returned r ∧ ∃ q' : KB w, w'' = q'.w :=
  (h q.w q.2).mono fun _ w2 hw => ⟨hw.1, ⟨⟨w2, q.2.trans (hw.2.mono q.2.size)⟩, rfl⟩⟩
theorem region_class {P : Program} {α : Type} (c : α → World) {id : Nat} {Q : Exit → Act → World → Prop} {a : Act} {w : World} {l : List Oper} (hm : P.follows .mixedOrders = true) (hB : Region.lexB .any l.toArray = true) (h0 : ∃ q, w.drewN 1 = c q)
    (h : wpQuiet P l.toArray (fun w' => ∃ q, w' = c q) (fun a' => ∀ w', (∃ q, w' = c q) → Q .normal a' w') l a) : (Code.region id l.toArray true).wp P Q a w :=
  wp_region_quiet (C := fun w' => ∃ q, w' = c q) hm hB h0 (by simpa using h)

theorem Try.infoInt : (Try.prog.info? 3).map (fun i => (i.zero, i.size, i.bytes)) = some (some (.int .i64 0), 1, 8) := by kernel_rfl
theorem Try.infoVal : (Try.prog.info? 25).map (fun i => (i.zero, i.size, i.bytes)) = some (some (.agg #[.slice none 0 0]), 1, 24) := by kernel_rfl
end Go.Proofs.Ytfpdoafpimaoaaa.Vl
