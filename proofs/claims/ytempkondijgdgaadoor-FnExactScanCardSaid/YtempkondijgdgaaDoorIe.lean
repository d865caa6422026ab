/- Walks: the program's Scan. -/
import Derived.Test.YtempkondijgdgaaDoorId
import Derived.RangeFuncBox
namespace Go.Proofs.YtempkondijgdgaaDoor
open Go.RowKit Go.Shelf

attribute [local go_sem] Oper.semAt_some

/-- A block of cells lies as it lay. -/
theorem cells_own {β : Type} (b : Nat) (cs : Array Value) (t : TypeId) : Own (fun (_ : β) W => W.heap[b]? = some (.cells cs t (0, 0))) := by
  intro s W W' row hs hg hr
  refine (hg.block b (Array.getElem?_eq_some_iff.1 hs).1 (fun e => ?_)).trans hs
  obtain ⟨o, ho, hc⟩ := hr b e.symm
  rw [hs] at ho; cases ho; cases hc
theorem pure_own {β : Type} (p : β → Prop) : Own (fun (s : β) (_ : World) => p s) := fun _ _ _ _ hs _ _ => hs

theorem Kp_t {n₀ Bn : Nat} {A B C : World} (h : Kp n₀ Bn A B) (k : Kp n₀ Bn B C) : Kp n₀ Bn A C := ⟨h.1.trans k.1, h.2.1.trans k.2.1, k.2.2.trans h.2.2⟩
theorem Kp_b {n₀ Bn : Nat} {w : World} (hn : n₀ ≤ w.heap.size) (hB : Bn < w.heap.size) (W : World) (l : Nat) (o o' : Obj) (hl : w.heap.size ≤ l) (h : W.heap[l]? = some o) (hc : o.isCells = false) (hw : o.isWalk = false) : Kp n₀ Bn W (W.putObj l o') :=
  ⟨belowK_b hn W l o o' hl h hc hw, walksK_b (w := w) W l o o' hl h hc hw, World.putObj_heap_other (by omega)⟩

abbrev Oa : Obj := .cells #[.slice none 0 0] 22
abbrev Ob : Obj := .cells #[.int .i64 0, .int .i64 0] 24

/-- Between two rounds. -/
def Inv (w : World) (s : ByteArray) (pre : List Sc.Y) (W : World) : Prop :=
  (∃ v, Boxed W (w.heap.size + 1 + 1) 22 v ∧ W.ownsRow w.heap.size 33 4 v pre.length (Sc.cellsOf (pre.map (·.1))) ∧ True) ∧
  W.heap[w.heap.size]? = some (.cells #[.slice none 0 0] 22 (0, 0)) ∧ W.heap[w.heap.size + 1]? = some (.cells #[.int .i64 0, .int .i64 0] 24 (0, 0)) ∧ W.heap[w.heap.size + 1 + 1 + 1]? = some (.cells #[.string s] 9 (0, 0)) ∧
  (∀ x ∈ pre, x.2 = 0) ∧ Below w.heap.size w W
/-- A round has left by a return. -/
def Inx (w : World) (c : Code) (pre : List Sc.Y) (W : World) : Prop :=
  ∃ q x, c = .ret ∧ pre = q ++ [x] ∧ x.2 ≠ 0 ∧ W.heap[w.heap.size]? = some (.cells #[.slice none 0 0] 22 (0, 0)) ∧ W.heap[w.heap.size + 1]? = some (.cells #[.int .i64 x.2, .int .i64 x.1.place] 24 (0, 0)) ∧ Below w.heap.size w W

theorem Inv_own (w : World) (s : ByteArray) (B : Nat) (hB : w.heap.size ≤ B) : OwnFrom B (Inv w s) :=
  OwnFrom.and (Own.from (holdsRow_own w.heap.size (w.heap.size + 1 + 1) 22 33 4 (fun pre : List Sc.Y => pre.length) (fun pre => Sc.cellsOf (pre.map (·.1))) (fun _ _ => True)) _)
    (OwnFrom.and (Own.from (cells_own _ _ _) _) (OwnFrom.and (Own.from (cells_own _ _ _) _) (OwnFrom.and (Own.from (cells_own _ _ _) _) (OwnFrom.and (Own.from (pure_own _) _) (ownFrom_below (Nat.le_refl _) hB)))))
theorem Inx_own (w : World) (B : Nat) (hB : w.heap.size ≤ B) (c : Code) : OwnFrom B (Inx w c) := by
  intro s W W' row ⟨q, x, hc, hp, hx, h1, h2, h3⟩ hg hr
  refine ⟨q, x, hc, hp, hx, ?_, ?_, ?_⟩
  · exact cells_own (β := Unit) _ _ _ () W W' row h1 hg (fun r e => (hr r e).2)
  · exact cells_own (β := Unit) _ _ _ () W W' row h2 hg (fun r e => (hr r e).2)
  · exact ownFrom_below (β := Unit) (Nat.le_refl _) hB () W W' row h3 hg hr
/-- A block of cells of another type is not the row's. -/
theorem other_row {W w1 : World} {base b : Nat} {t : TypeId} {o : Obj} {v : Value} {k : Nat} {xs : List Value} {cs : Array Value} (hrow : W.ownsRow base 33 4 v k xs) (hb : W.heap[b]? = some (.cells cs t (0, 0))) (ht : t ≠ 33) (hg : (W.alloc o).grownBy w1 v.ownBlock) : w1.heap[b]? = some (.cells cs t (0, 0)) := by
  have hlt := (Array.getElem?_eq_some_iff.1 hb).1
  refine (hg.block b (by simp; omega) (fun e => ?_)).trans ((Below.heap_alloc W o b hlt).trans hb)
  rcases hrow.2 with ⟨rfl, _⟩ | ⟨g, cap, cur, rfl, _, hgb, _⟩
  · simp [Value.ownBlock] at e
  · obtain rfl : b = g := by simpa [Value.ownBlock] using e
    rw [hgb] at hb
    simp at hb
    exact ht hb.2.symm

theorem ret_post {w W : World} {B : Nat} {pre : List Sc.Y} {x : Sc.Y} (h0 : W.heap[w.heap.size]? = some (.cells #[.slice none 0 0] 22 (0, 0))) (h1 : W.heap[w.heap.size + 1]? = some (.cells #[.int .i64 0, .int .i64 0] 24 (0, 0))) (hB : Below w.heap.size w W) (hx : x.2 ≠ 0) :
    KeepsFrom B W (((W.setCell ⟨w.heap.size, 0, none⟩ (.slice none 0 0)).setCell ⟨w.heap.size + 1, 0, none⟩ (.int .i64 x.2)).setCell ⟨w.heap.size + 1, 1, none⟩ (.int .i64 x.1.place)) ∧
    Inx w .ret (pre ++ [x]) (((W.setCell ⟨w.heap.size, 0, none⟩ (.slice none 0 0)).setCell ⟨w.heap.size + 1, 0, none⟩ (.int .i64 x.2)).setCell ⟨w.heap.size + 1, 1, none⟩ (.int .i64 x.1.place)) := by
  refine ⟨(((KeepsOthers.setCell _ _ _).trans (KeepsOthers.setCell _ _ _)).trans (KeepsOthers.setCell _ _ _)).from _, pre, x, rfl, rfl, hx, ?_, ?_, ?_⟩
  · refine (Below.heap_setCell _ _ _ _ (by show w.heap.size ≠ w.heap.size + 1; omega)).trans ((Below.heap_setCell _ _ _ _ (by show w.heap.size ≠ w.heap.size + 1; omega)).trans ?_)
    exact heap_setCell_same W w.heap.size 0 _ 22 _ h0
  · have a0 := (Below.heap_setCell W ⟨w.heap.size, 0, none⟩ (.slice none 0 0) (w.heap.size + 1) (by show w.heap.size + 1 ≠ w.heap.size; omega)).trans h1
    have a1 := heap_setCell_same _ (w.heap.size + 1) 0 _ 24 (.int .i64 x.2) a0
    exact heap_setCell_same _ (w.heap.size + 1) 1 _ 24 (.int .i64 x.1.place) a1
  · exact ((hB.setCell (p := ⟨w.heap.size, 0, none⟩) (Nat.le_refl _) _).setCell (p := ⟨w.heap.size + 1, 0, none⟩) (Nat.le_succ _) _).setCell (p := ⟨w.heap.size + 1, 1, none⟩) (Nat.le_succ _) _
theorem drew_post {w W X : World} {B : Nat} {p : List Sc.Y} {c : Code} (h : KeepsFrom B W X ∧ Inx w c p X) : KeepsFrom B W X.drew ∧ Inx w c p X.drew := by
  obtain ⟨hk, q, x, hc, hp, hx, h1, h2, h3⟩ := h
  exact ⟨⟨hk.size, hk.same⟩, q, x, hc, hp, hx, h1, h2, h3.drew⟩

namespace Sc
theorem scan_at : ∀ (f k : Nat) (l : List UInt8), (scan f k l).2.1 = 0 → (scan f k l).2.2 = 0
  | 0, _, _, _ => rfl
  | f + 1, k, l, h => by
    unfold scan at h ⊢
    by_cases h0 : l.drop (gapLen false l) = []
    · rw [if_pos h0]
    · rw [if_neg h0] at h ⊢
      by_cases hc : (one (l.drop (gapLen false l))).code ≠ 0
      · rw [if_pos hc] at h; exact absurd h hc
      · rw [if_neg hc] at h ⊢
        exact scan_at f _ _ h
theorem seq_done (l : List UInt8) (h : ∀ x ∈ seq l 0, x.2 = 0) : (from_ l 0).2.1 = 0 ∧ (from_ l 0).2.2 = 0 ∧ (seq l 0).map (·.1) = (from_ l 0).1 := by
  have hc : (from_ l 0).2.1 = 0 := by
    by_cases hz : (from_ l 0).2.1 = 0
    · exact hz
    · have := h (⟨0, [], 0, (from_ l 0).2.2⟩, (from_ l 0).2.1) (by unfold seq seqOf; rw [if_neg hz]; simp)
      exact this
  refine ⟨hc, scan_at _ _ _ hc, ?_⟩
  unfold seq seqOf; rw [if_pos hc]; simp [Function.comp_def]
theorem seq_stop (l : List UInt8) (q : List Y) (x : Y) (h : q ++ [x] <+: seq l 0) (hx : x.2 ≠ 0) : (from_ l 0).2.1 = x.2 ∧ (from_ l 0).2.2 = x.1.place := by
  have hm : x ∈ seq l 0 := h.subset (by simp)
  unfold seq seqOf at hm
  rw [List.mem_append] at hm
  rcases hm with hm | hm
  · rw [List.mem_map] at hm
    obtain ⟨t, _, rfl⟩ := hm
    exact absurd rfl hx
  · by_cases hz : (from_ l 0).2.1 = 0
    · rw [if_pos hz] at hm; cases hm
    · rw [if_neg hz, List.mem_singleton] at hm
      rw [hm]; exact ⟨rfl, rfl⟩
end Sc

theorem cell_1 {X : World} {b : Nat} {u : Value} {t : TypeId} (h : X.heap[b]? = some (.cells #[u] t (0, 0))) : X.cell? ⟨b, 0, none⟩ = some u := by simp [World.cell?, h]
theorem cell_2a {X : World} {b : Nat} {u v : Value} {t : TypeId} (h : X.heap[b]? = some (.cells #[u, v] t (0, 0))) : X.cell? ⟨b, 0, none⟩ = some u := by simp [World.cell?, h]
theorem cell_2b {X : World} {b : Nat} {u v : Value} {t : TypeId} (h : X.heap[b]? = some (.cells #[u, v] t (0, 0))) : X.cell? ⟨b, 1, none⟩ = some v := by simp [World.cell?, h]
theorem row_keep {W W' : World} {base : Nat} {v : Value} {n : Nat} {xs : List Value} (hrow : W.ownsRow base 33 4 v n xs) (h : ∀ (b : Nat) (cs : Array Value), W.heap[b]? = some (.cells cs 33 (0, 0)) → W'.heap[b]? = some (.cells cs 33 (0, 0))) : W'.ownsRow base 33 4 v n xs := by
  refine ⟨hrow.1, ?_⟩
  rcases hrow.2 with hv | ⟨g, cap, cur, h1, h2, h3, h4⟩
  · exact .inl hv
  · exact .inr ⟨g, cap, cur, h1, h2, h _ _ h3, h4⟩
/-- The end of Scan: results stored, the loop's block for deferred calls taken. -/
theorem end_world {w W : World} {D : Nat} {u c p a0 b0 c0 : Value} (h0 : W.heap[w.heap.size]? = some (.cells #[a0] 22 (0, 0))) (h1 : W.heap[w.heap.size + 1]? = some (.cells #[b0, c0] 24 (0, 0))) (hK : W.heap[D]? = some (.deferred (some []))) (hB : Below w.heap.size w W) (hD : w.heap.size ≤ D) :
    (((W.setCell ⟨w.heap.size, 0, none⟩ u).setCell ⟨w.heap.size + 1, 0, none⟩ c).setCell ⟨w.heap.size + 1, 1, none⟩ p).heap[D]? = some (.deferred (some [])) ∧
    ((((W.setCell ⟨w.heap.size, 0, none⟩ u).setCell ⟨w.heap.size + 1, 0, none⟩ c).setCell ⟨w.heap.size + 1, 1, none⟩ p).putObj D (.deferred none)).heap[w.heap.size]? = some (.cells #[u] 22 (0, 0)) ∧
    ((((W.setCell ⟨w.heap.size, 0, none⟩ u).setCell ⟨w.heap.size + 1, 0, none⟩ c).setCell ⟨w.heap.size + 1, 1, none⟩ p).putObj D (.deferred none)).heap[w.heap.size + 1]? = some (.cells #[c, p] 24 (0, 0)) ∧
    Below w.heap.size w ((((W.setCell ⟨w.heap.size, 0, none⟩ u).setCell ⟨w.heap.size + 1, 0, none⟩ c).setCell ⟨w.heap.size + 1, 1, none⟩ p).putObj D (.deferred none)) ∧
    (∀ (b : Nat) (cs : Array Value), W.heap[b]? = some (.cells cs 33 (0, 0)) → ((((W.setCell ⟨w.heap.size, 0, none⟩ u).setCell ⟨w.heap.size + 1, 0, none⟩ c).setCell ⟨w.heap.size + 1, 1, none⟩ p).putObj D (.deferred none)).heap[b]? = some (.cells cs 33 (0, 0))) := by
  have hD0 : w.heap.size ≠ D := fun e => by rw [e] at h0; rw [hK] at h0; cases h0
  have hD1 : w.heap.size + 1 ≠ D := fun e => by rw [e] at h1; rw [hK] at h1; cases h1
  have k1 : (((W.setCell ⟨w.heap.size, 0, none⟩ u).setCell ⟨w.heap.size + 1, 0, none⟩ c).setCell ⟨w.heap.size + 1, 1, none⟩ p).heap[D]? = some (.deferred (some [])) :=
    (((KeepsOthers.setCell W ⟨w.heap.size, 0, none⟩ u).trans (KeepsOthers.setCell _ ⟨w.heap.size + 1, 0, none⟩ c)).trans (KeepsOthers.setCell _ ⟨w.heap.size + 1, 1, none⟩ p)).same D _ hK rfl
  refine ⟨k1, ?_, ?_, ?_, ?_⟩
  · refine (World.putObj_heap_other hD0).trans ((Below.heap_setCell _ _ _ _ (by show w.heap.size ≠ w.heap.size + 1; omega)).trans ((Below.heap_setCell _ _ _ _ (by show w.heap.size ≠ w.heap.size + 1; omega)).trans ?_))
    exact heap_setCell_same W w.heap.size 0 _ 22 _ h0
  · refine (World.putObj_heap_other hD1).trans ?_
    have a0 := (Below.heap_setCell W ⟨w.heap.size, 0, none⟩ u (w.heap.size + 1) (by show w.heap.size + 1 ≠ w.heap.size; omega)).trans h1
    have a1 := heap_setCell_same _ (w.heap.size + 1) 0 _ 24 c a0
    exact heap_setCell_same _ (w.heap.size + 1) 1 _ 24 p a1
  · exact (((hB.setCell (p := ⟨w.heap.size, 0, none⟩) (Nat.le_refl _) _).setCell (p := ⟨w.heap.size + 1, 0, none⟩) (Nat.le_succ _) _).setCell (p := ⟨w.heap.size + 1, 1, none⟩) (Nat.le_succ _) _).trans (belowK_b (w := w) (Nat.le_refl _) _ D _ _ hD k1 rfl rfl)
  · intro b cs hb
    have b0 : b ≠ w.heap.size := fun e => by rw [e, h0] at hb; simp at hb
    have b1 : b ≠ w.heap.size + 1 := fun e => by rw [e, h1] at hb; simp at hb
    have bD : b ≠ D := fun e => by rw [e, hK] at hb; cases hb
    exact (World.putObj_heap_other bD).trans ((Below.heap_setCell _ _ _ _ b1).trans ((Below.heap_setCell _ _ _ _ b1).trans ((Below.heap_setCell _ _ _ _ b0).trans hb)))
theorem end_world0 {w W : World} {D : Nat} {u c p : Value} (h0 : W.heap[w.heap.size]? = some (.cells #[u] 22 (0, 0))) (h1 : W.heap[w.heap.size + 1]? = some (.cells #[c, p] 24 (0, 0))) (hK : W.heap[D]? = some (.deferred (some []))) (hB : Below w.heap.size w W) (hD : w.heap.size ≤ D) :
    (W.putObj D (.deferred none)).heap[w.heap.size]? = some (.cells #[u] 22 (0, 0)) ∧ (W.putObj D (.deferred none)).heap[w.heap.size + 1]? = some (.cells #[c, p] 24 (0, 0)) ∧ Below w.heap.size w (W.putObj D (.deferred none)) := by
  have hD0 : w.heap.size ≠ D := fun e => by rw [e] at h0; rw [hK] at h0; cases h0
  have hD1 : w.heap.size + 1 ≠ D := fun e => by rw [e] at h1; rw [hK] at h1; cases h1
  exact ⟨(World.putObj_heap_other hD0).trans h0, (World.putObj_heap_other hD1).trans h1, hB.trans (belowK_b (w := w) (Nat.le_refl _) _ D _ _ hD hK rfl rfl)⟩

/-- The loop's variable lies in a box of the round's. -/
def tok4 (x : Sc.Y) : Array Value := #[.int .i64 x.1.kind, .string ⟨x.1.text.toArray⟩, .int .i64 x.1.n, .int .i64 x.1.place]
def tmpsAt (w : World) (s : ByteArray) (x : Sc.Y) (Bx : Nat) : Array Value :=
  #[.string s, undef, .pointer (some ⟨w.heap.size, 0, none⟩), .pointer (some ⟨w.heap.size + 1, 0, none⟩), .pointer (some ⟨w.heap.size + 1 + 1, 0, none⟩), .pointer (some ⟨Bx, 0, none⟩), .int .i64 x.2, .string s, .int .i64 s.size, .bool (decide (8000 < (s.size : Int))), undef, .string s,
    .func (.func 23) #[] #[.pointer (some ⟨w.heap.size + 1 + 1 + 1, 0, none⟩)], .agg #[.int .i64 x.1.kind, .string ⟨x.1.text.toArray⟩, .int .i64 x.1.n, .int .i64 x.1.place], .int .i64 x.2, undef, undef, undef, undef, undef, undef, undef, undef, undef, undef, undef, undef]
def Axx (w : World) (s : ByteArray) (x : Sc.Y) (a' : Act) (W : World) : Prop :=
  ∃ Bx, w.heap.size + 1 + 1 + 1 < Bx ∧ W.heap[Bx]? = some (.cells #[.int .i64 x.1.kind, .string ⟨x.1.text.toArray⟩, .int .i64 x.1.n, .int .i64 x.1.place] 33 (0, 0)) ∧ a' = { tmps := tmpsAt w s x Bx, defers := [] }
theorem Axx_own (w : World) (s : ByteArray) (B : Nat) (x : Sc.Y) (a' : Act) : OwnFrom B (fun (_ : Unit) W => Axx w s x a' W) := by
  intro _ W W' row ⟨Bx, h1, h2, h3⟩ hg hr
  exact ⟨Bx, h1, cells_own (β := Unit) _ _ _ () W W' row h2 hg (fun r e => (hr r e).2), h3⟩

set_option maxRecDepth 100000 in
set_option maxHeartbeats 2000000 in
theorem iscan_any (s : ByteArray) (w : World) (hs : s.size ≤ 1048576) (hG : Glob w) :
    Calls Tryd.prog 5 #[.string s] w fun e w' => ∃ v, e = .returned (.tuple #[v, .agg #[.int .i64 (Sc.code s), .int .i64 (Sc.at_ s)]]) ∧ w'.ownsRow w.heap.size 33 4 v (Sc.toks s).length (Sc.cellsOf (Sc.toks s)) ∧ Below w.heap.size w w' := by
  obtain ⟨i0, hi, hz0, hz1, hz2⟩ := info_parts Tryd.info33
  by_cases hbig : 8000 < s.size
  · have HC := hide (code_big hbig)
    go_enter Tryd.func5, Tryd.ntmps5
    go_wp2
    refine bodyPost_ret (v := .tuple #[.slice none 0 0, .agg #[.int .i64 1, .int .i64 0]]) (by simp [results, Tryd.results5, go_sem]) rfl ⟨.slice none 0 0, ?_, ?_, ?_⟩
    · rw [HC.out.1, HC.out.2.1]; rfl
    · rw [HC.out.2.2]; exact World.ownsRow_nil _ _ _ _
    · exact ((Below.refl _ _).alloc (Nat.le_refl _) _).alloc (by simp) _
  · have HC := hide (code_small hbig)
    refine (callsIn_wide (n := 6)).1 ?_
    have hfw : ∀ f, Fence.wide.fn f := fun _ => trivial
    have hn1 : 1 ≤ 6 := by omega
    refine callsIn_of_wp_marks Tryd.func5 rfl trivial ?_ rfl
    simp only [Tryd.ntmps5, List.size_toArray, List.length_cons, List.length_nil, Nat.reduceAdd, Nat.reduceSub, Array.replicate_succ, Array.replicate_zero, List.push_toArray, List.append_toArray, List.nil_append, List.cons_append]
    gi_wp2_with (gi_at_call 12; refine (callsIn_wide.2 (each_any s _)).mono ?_; rintro e w1 ⟨rfl, rfl⟩)
    have hB0 : Below w.heap.size w ((((w.alloc Oa).alloc Ob).alloc Oa).alloc (.cells #[.string s] 9)) := ((((Below.refl _ _).alloc (Nat.le_refl _) _).alloc (by simp) _).alloc (by simp; omega) _).alloc (by simp; omega) _
    have hI0 : Inv w s [] ((((w.alloc Oa).alloc Ob).alloc Oa).alloc (.cells #[.string s] 9)) := by
      refine ⟨⟨.slice none 0 0, ?_, World.ownsRow_nil _ _ _ _, trivial⟩, ?_, ?_, ?_, by simp, hB0⟩
      · have := (Boxed.new ((w.alloc Oa).alloc Ob) 22 (.slice none 0 0)).alloc (.cells #[.string s] 9)
        simpa using this
      · exact (Below.heap_alloc _ _ _ (by simp; omega)).trans ((Below.heap_alloc _ _ _ (by simp; omega)).trans ((Below.heap_alloc _ _ _ (by simp)).trans (heap_alloc_new' w _)))
      · have := heap_alloc_new' (w.alloc Oa) Ob
        rw [World.size_alloc] at this
        exact (Below.heap_alloc _ _ _ (by simp)).trans ((Below.heap_alloc _ _ _ (by simp)).trans this)
      · have := heap_alloc_new' (((w.alloc Oa).alloc Ob).alloc Oa) (.cells #[.string s] 9)
        simp only [World.size_alloc] at this
        exact this
    have hsrc : ((((w.alloc Oa).alloc Ob).alloc Oa).alloc (.cells #[.string s] 9)).cell? ⟨w.heap.size + 1 + 1 + 1, 0, none⟩ = some (.string s) := by
      have := (Boxed.new (((w.alloc Oa).alloc Ob).alloc Oa) 9 (.string s)).cell
      simpa using this
    have hsz0 : ((((w.alloc Oa).alloc Ob).alloc Oa).alloc (.cells #[.string s] 9)).heap.size = w.heap.size + 1 + 1 + 1 + 1 := by simp
    have hG0 := hG.below hB0 hG.2.2
    have h2 := hG.2.2
    generalize (((w.alloc Oa).alloc Ob).alloc Oa).alloc (.cells #[.string s] 9) = W0 at *
    refine wpIn_rangeFunc_ownH rfl hn1 (gf := 23) (lb := #[.pointer (some ⟨w.heap.size + 1 + 1 + 1, 0, none⟩)]) rfl trivial (enters_of Tryd.func23 (by kernel_rfl) rfl)
      (each_stops 5 (by omega) (w.heap.size + 1 + 1 + 1) w.heap.size s (by omega) W0 (by omega) h2 (by omega) hsrc hG0) Kp_t (Kp_b (by omega) (by omega)) (Below.refl _ _) (fun _ => rfl)
      (Inv w s) (Inx w) (Inv_own w s _ (by omega)) (Inx_own w _ (by omega)) hI0 (Axx w s) (Axx_own w s _) ?assign ?body ?done ?stop
    case assign =>
      rintro l pre x W K hinv hK
      have hr3 := hinv.2.2.2.1
      have hlt3 : w.heap.size + 1 + 1 + 1 < W.heap.size := (Array.getElem?_eq_some_iff.1 hr3).1
      have HV := hide hinv
      clear hinv hr3
      unfold Sc.encs
      gi_wp2
      refine hK _ _ ((KeepsOthers.alloc _ _).from _) ⟨(Below.refl _ _).alloc (by omega) _, KeepsWalks.alloc _ _, Below.heap_alloc W _ _ hlt3⟩ ((Inv_own w s W0.heap.size (by omega)).alloc _ HV.out) ⟨W.heap.size, hlt3, heap_alloc_new' W _, rfl⟩
    case body =>
      rintro l pre x a' W hl ⟨rl, hrl⟩ ⟨⟨v, hv, hrow, _⟩, hr0, hr1, hr3, hzz, hB⟩ ⟨Bx, hBx, hbx, rfl⟩ hlt
      unfold tmpsAt
      have hc := hv.cell
      have hfz := hv.frozen
      have hsW := hB.size
      by_cases hx : x.2 = 0
      · have hxb : ((x.2 : Int) != 0) = false := by simp [hx]
        have HX := hide hx
        clear hx
        have c0 : W.cell? ⟨Bx, 0, none⟩ = some (.int .i64 x.1.kind) := by simp [World.cell?, hbx]
        have c1 : W.cell? ⟨Bx, 1, none⟩ = some (.string ⟨x.1.text.toArray⟩) := by simp [World.cell?, hbx]
        have c2 : W.cell? ⟨Bx, 2, none⟩ = some (.int .i64 x.1.n) := by simp [World.cell?, hbx]
        have c3 : W.cell? ⟨Bx, 3, none⟩ = some (.int .i64 x.1.place) := by simp [World.cell?, hbx]
        gi_wp2_with (gi_at_builtin; refine wpListIn_append_own _ rfl _ _ 22 rfl w.heap.size 33 i0 (.agg #[.int .i64 0, .string ⟨#[]⟩, .int .i64 0, .int .i64 0]) 4 40 Tryd.underlying22 hi hz0 hz1 hz2 rfl (by decide) _ _ _ rfl (hrow.alloc _) ⟨W.heap.size, 0, none⟩ 1 1 [.int .i64 x.1.kind, .string ⟨x.1.text.toArray⟩, .int .i64 x.1.n, .int .i64 x.1.place] rfl rfl ?_ ?_ ?_ ?_ ?_ ?_)
        · exact cells_new W _ 33
        · simp [Value.oneCell']
        · unfold maxLen; omega
        · omega
        · simp; omega
        · intro v' w1 hown' hgrow _
          obtain ⟨g', cap', rfl⟩ := row_succ hown'
          obtain ⟨hv1, hv2, hr2, hk2, hb2⟩ := hv.appended (by decide) hrow hsW (by omega) hown' hgrow
          have q0 := other_row hrow hr0 (by decide) hgrow
          have q1 := other_row hrow hr1 (by decide) hgrow
          have q3 := other_row hrow hr3 (by decide) hgrow
          have hc1 := hv1.cell
          have hf1 := hv1.frozen
          have HQ := hide (And.intro hv2 (And.intro hr2 (And.intro hk2 (And.intro hb2 (And.intro q0 (And.intro q1 q3))))))
          clear hv2 hr2 hk2 hb2 q0 q1 q3 hgrow hown' hrow c0 c1 c2 c3
          gi_wp2
          obtain ⟨hv2, hr2, hk2, hb2, q0, q1, q3⟩ := HQ.out
          have o0 := (Below.heap_setCell w1 ⟨w.heap.size + 1 + 1, 0, none⟩ (.slice (some ⟨g', 0, none⟩) (pre.length + 1) cap') w.heap.size (by show w.heap.size ≠ w.heap.size + 1 + 1; omega)).trans q0
          have o1 := (Below.heap_setCell w1 ⟨w.heap.size + 1 + 1, 0, none⟩ (.slice (some ⟨g', 0, none⟩) (pre.length + 1) cap') (w.heap.size + 1) (by show w.heap.size + 1 ≠ w.heap.size + 1 + 1; omega)).trans q1
          have o3 := (Below.heap_setCell w1 ⟨w.heap.size + 1 + 1, 0, none⟩ (.slice (some ⟨g', 0, none⟩) (pre.length + 1) cap') (w.heap.size + 1 + 1 + 1) (by show w.heap.size + 1 + 1 + 1 ≠ w.heap.size + 1 + 1; omega)).trans q3
          refine ⟨hk2.from _, ⟨hb2, hk2.walks, o3.trans hr3.symm⟩, ⟨_, hv2, ?_, trivial⟩, o0, o1, o3, ?_, hB.trans hb2⟩
          · rw [List.map_append, List.map_cons, List.map_nil, Sc.cellsOf_snoc, List.length_append]; exact hr2
          · intro y hy
            rw [List.mem_append, List.mem_singleton] at hy
            rcases hy with hy | hy
            · exact hzz y hy
            · rw [hy]; exact HX.out
      · have hxb : ((x.2 : Int) != 0) = true := by simp [hx]
        have c3 : W.cell? ⟨Bx, 3, none⟩ = some (.int .i64 x.1.place) := by simp [World.cell?, hbx]
        have d0 : W.cell? ⟨w.heap.size, 0, none⟩ = some (.slice none 0 0) := by simp [World.cell?, hr0]
        have d1 : W.cell? ⟨w.heap.size + 1, 0, none⟩ = some (.int .i64 0) := by simp [World.cell?, hr1]
        have d2 : W.cell? ⟨w.heap.size + 1, 1, none⟩ = some (.int .i64 0) := by simp [World.cell?, hr1]
        have e0 : W.frozen? ⟨w.heap.size, 0, none⟩ = false := by simp [World.frozen?, hr0]
        have e1 : W.frozen? ⟨w.heap.size + 1, 0, none⟩ = false := by simp [World.frozen?, hr1]
        have e2 : W.frozen? ⟨w.heap.size + 1, 1, none⟩ = false := by simp [World.frozen?, hr1]
        have HX := hide hx
        clear hx
        have hmix : Tryd.prog.follows Departure.mixedOrders = true := by kernel_rfl
        gi_wp2
        gi_region_o
        all_goals gi_wp2
        all_goals show KeepsFrom _ _ _ ∧ Inx _ _ _ _
        all_goals first | exact drew_post (ret_post hr0 hr1 hB HX.out) | exact drew_post (drew_post (ret_post hr0 hr1 hB HX.out))
    case done =>
      rintro D ys W hD rfl ⟨⟨v, hv, hrow, _⟩, hr0, hr1, hr3, hzz, hB⟩ hK
      have hc := hv.cell
      have d0 : W.cell? ⟨w.heap.size, 0, none⟩ = some (.slice none 0 0) := by simp [World.cell?, hr0]
      have d1 : W.cell? ⟨w.heap.size + 1, 0, none⟩ = some (.int .i64 0) := by simp [World.cell?, hr1]
      have d2 : W.cell? ⟨w.heap.size + 1, 1, none⟩ = some (.int .i64 0) := by simp [World.cell?, hr1]
      have e0 : W.frozen? ⟨w.heap.size, 0, none⟩ = false := by simp [World.frozen?, hr0]
      have e1 : W.frozen? ⟨w.heap.size + 1, 0, none⟩ = false := by simp [World.frozen?, hr1]
      have e2 : W.frozen? ⟨w.heap.size + 1, 1, none⟩ = false := by simp [World.frozen?, hr1]
      have HS := hide (Sc.seq_done _ hzz)
      have hcase : (∃ a n c, v = .slice a n c) := by
        rcases hrow.2 with ⟨rfl, _⟩ | ⟨g, cap, _, rfl, _⟩
        · exact ⟨_, _, _, rfl⟩
        · exact ⟨_, _, _, rfl⟩
      obtain ⟨va, vn, vc, rfl⟩ := hcase
      have HEW := hide (end_world (u := .slice va vn vc) (c := .int .i64 0) (p := .int .i64 0) hr0 hr1 hK hB (by omega))
      gi_wp2
      obtain ⟨k1, x0, x1, x2, x3⟩ := HEW.out
      have y0 := cell_1 x0
      have y1 := cell_2a x1
      have y2 := cell_2b x1
      refine ⟨by simp, .inl ⟨_, _, rfl, run_takeDeferred k1, ?_⟩⟩
      refine ⟨.tuple #[.slice va vn vc, .agg #[.int .i64 0, .int .i64 0]], by simp [results, Tryd.results5, go_sem, y0, y1, y2], .slice va vn vc, ?_, ?_, x2⟩
      · have h := HC.out; have g := HS.out; rw [h.1, h.2.1, g.1, g.2.1]; rfl
      · have h := HC.out; have g := HS.out
        rw [h.2.2, if_pos g.1, ← g.2.2]
        have := row_keep hrow x3
        simpa using this
    case stop =>
      rintro D c pre W hD hpre ⟨q, x, rfl, hp, hx, h1, h3, hB⟩ hK
      have HS := hide (Sc.seq_stop s.data.toList q x (by rw [← hp]; exact hpre) hx)
      have d0 : W.cell? ⟨w.heap.size, 0, none⟩ = some (.slice none 0 0) := by simp [World.cell?, h1]
      have d1 : W.cell? ⟨w.heap.size + 1, 0, none⟩ = some (.int .i64 x.2) := by simp [World.cell?, h3]
      have d2 : W.cell? ⟨w.heap.size + 1, 1, none⟩ = some (.int .i64 x.1.place) := by simp [World.cell?, h3]
      have HEW := hide (end_world0 h1 h3 hK hB (by omega))
      gi_wp2
      obtain ⟨x0, x1, x2⟩ := HEW.out
      have y0 := cell_1 x0
      have y1 := cell_2a x1
      have y2 := cell_2b x1
      refine ⟨by simp, .inl ⟨_, _, rfl, run_takeDeferred hK, ?_⟩⟩
      refine ⟨.tuple #[.slice none 0 0, .agg #[.int .i64 x.2, .int .i64 x.1.place]], by simp [results, Tryd.results5, go_sem, y0, y1, y2], .slice none 0 0, ?_, ?_, x2⟩
      · have h := HC.out; have g := HS.out; rw [h.1, h.2.1, g.1, g.2]
      · have h := HC.out; have g := HS.out
        rw [h.2.2, if_neg (by rw [g.1]; exact hx)]
        exact World.ownsRow_nil _ _ _ _
end Go.Proofs.YtempkondijgdgaaDoor
