/- Targets, the specification's side: the loop. -/
import Derived.Test.YtmpjdooepdicoaaGreatDoorYh
namespace Go.Proofs.YtmpjdooepdicoaaGreatDoor.Vl
open Go.RowKit T.atoms T.ok T.high T.good T.allPlain

structure Lc where
  t : Tg
  vi : Value
  vo : Value
def Lc.cells (p : Lc) : List Value := [.string p.t.name, .string p.t.tool, .string p.t.arg, p.vi, p.vo]
def cellsG (l : List Lc) : List Value := l.flatMap Lc.cells
def rowsG (l : List Lc) : List (Value × List ByteArray) := l.flatMap fun p => [(p.vi, p.t.ins), (p.vo, p.t.outs)]
/-- Targets that are read. -/
def TgsO (w : World) (g : Nat) (l : List Tg) : Prop := g < w.heap.size ∧ ∀ i (h : i < l.length), ∃ vi vo, w.cell? ⟨g, i * 5, none⟩ = some (.string l[i].name) ∧ w.cell? ⟨g, i * 5 + 1, none⟩ = some (.string l[i].tool) ∧ w.cell? ⟨g, i * 5 + 2, none⟩ = some (.string l[i].arg) ∧ w.cell? ⟨g, i * 5 + 3, none⟩ = some vi ∧ w.cell? ⟨g, i * 5 + 4, none⟩ = some vo ∧ StrsV w vi l[i].ins ∧ StrsV w vo l[i].outs
def TgsV (w : World) (v : Value) (l : List Tg) : Prop := (v = .slice none 0 0 ∧ l = []) ∨ ∃ g c, v = .slice (some ⟨g, 0, none⟩) l.length c ∧ TgsO w g l
/-- What Targets hands back. -/
def PlPost (w : World) (r : Int × Int × List Tg) (e : Ending) (w' : World) : Prop := Below w.heap.size w w' ∧ ∃ v, e = .returned (.agg #[.int .i64 r.1, .int .i64 r.2.1, v]) ∧ TgsV w' v r.2.2
theorem PlPost.no {w w' : World} {k i : Int} (hb : Below w.heap.size w w') : PlPost w (k, i, []) (.returned (.agg #[.int .i64 k, .int .i64 i, .slice none 0 0])) w' := ⟨hb, _, rfl, .inl ⟨rfl, rfl⟩⟩
/-- What the loop keeps. -/
structure PI (w : World) (ns os : List ByteArray) (v3 v4 v5 : Value) (lc : List Lc) (W : World) : Prop where
  B : Below (w.heap.size + 1) (w.alloc (.cells #[.int .i64 0, .int .i64 0, .slice none 0 0] 26)) W
  S : SR (w.heap.size + 1) ((v3, ns) :: (v4, os) :: rowsG lc) W
  L : W.ownsRow (w.heap.size + 1) 49 5 v5 lc.length (cellsG lc)
  z : w.heap.size + 1 ≤ W.heap.size
theorem PI.below {w W W' : World} {ns os : List ByteArray} {v3 v4 v5 : Value} {lc : List Lc} (h : PI w ns os v3 v4 v5 lc W) (hb : Below W.heap.size W W') : PI w ns os v3 v4 v5 lc W' :=
  ⟨h.B.trans (hb.mono h.z), h.S.below hb, row_belowY h.L hb, Nat.le_trans h.z hb.size⟩
theorem PI.out {w W : World} {ns os : List ByteArray} {v3 v4 v5 : Value} {lc : List Lc} (h : PI w ns os v3 v4 v5 lc W) : Below w.heap.size w W :=
  ((Below.refl _ _).alloc (Nat.le_refl _) _).trans (h.B.mono (by omega))
/-- The answer's box. -/
theorem PI.box {w W : World} {ns os : List ByteArray} {v3 v4 v5 : Value} {lc : List Lc} (h : PI w ns os v3 v4 v5 lc W) :
    (W.cell? ⟨w.heap.size, 0, none⟩ = some (.int .i64 0) ∧ W.cell? ⟨w.heap.size, 1, none⟩ = some (.int .i64 0) ∧ W.cell? ⟨w.heap.size, 2, none⟩ = some (.slice none 0 0)) ∧ (W.frozen? ⟨w.heap.size, 0, none⟩ = false ∧ W.frozen? ⟨w.heap.size, 1, none⟩ = false ∧ W.frozen? ⟨w.heap.size, 2, none⟩ = false) := by
  have k : ∀ j, W.cell? ⟨w.heap.size, j, none⟩ = (w.alloc (.cells #[.int .i64 0, .int .i64 0, .slice none 0 0] 26)).cell? ⟨w.heap.size, j, none⟩ := fun j => h.B.cell (p := ⟨w.heap.size, j, none⟩) (Nat.lt_succ_self _)
  have f : ∀ j, W.frozen? ⟨w.heap.size, j, none⟩ = (w.alloc (.cells #[.int .i64 0, .int .i64 0, .slice none 0 0] 26)).frozen? ⟨w.heap.size, j, none⟩ := fun j => h.B.frozen (p := ⟨w.heap.size, j, none⟩) (Nat.lt_succ_self _)
  refine ⟨⟨?_, ?_, ?_⟩, ?_, ?_, ?_⟩
  · rw [k]; simp
  · rw [k]; simp
  · rw [k]; simp
  · rw [f]; simp
  · rw [f]; simp
  · rw [f]; simp
theorem PI.start (w : World) : PI w [] [] (.slice (some ⟨w.heap.size + 1, 0, none⟩) 0 0) (.slice (some ⟨w.heap.size + 1 + 1, 0, none⟩) 0 0) (.slice (some ⟨w.heap.size + 1 + 1 + 1, 0, none⟩) 0 0) [] ((((w.alloc (.cells #[.int .i64 0, .int .i64 0, .slice none 0 0] 26)).alloc (.cells #[] 9)).alloc (.cells #[] 9)).alloc (.cells #[] 49)) := by
  generalize hA : w.alloc (.cells #[.int .i64 0, .int .i64 0, .slice none 0 0] 26) = A
  have sA : A.heap.size = w.heap.size + 1 := by rw [← hA, World.size_alloc]
  have s1 := World.size_alloc A (.cells #[] 9)
  have r1 := World.ownsRow_lit (base := w.heap.size + 1) (e := 9) (size := 1) A #[] 0 (by omega) (Nat.zero_le _) rfl
  have b1 : Below A.heap.size A (A.alloc (.cells #[] 9)) := (Below.refl _ _).alloc (Nat.le_refl _) _
  have S1 : SR (w.heap.size + 1) [(.slice (some ⟨w.heap.size + 1, 0, none⟩) 0 0, [])] (A.alloc (.cells #[] 9)) := by
    rw [sA] at r1
    exact ⟨fun r hr => by rw [List.mem_singleton] at hr; subst hr; exact r1, List.pairwise_singleton _ _⟩
  generalize hC : A.alloc (.cells #[] 9) = C at *
  have r2 := World.ownsRow_lit (base := C.heap.size) (e := 9) (size := 1) C #[] 0 (Nat.le_refl _) (Nat.zero_le _) rfl
  have b2 : Below C.heap.size C (C.alloc (.cells #[] 9)) := (Below.refl _ _).alloc (Nat.le_refl _) _
  have S2 := S1.new (l := []) b2 r2 (by omega)
  have s2 := World.size_alloc C (.cells #[] 9)
  generalize hD : C.alloc (.cells #[] 9) = D at *
  have r3 := World.ownsRow_lit (base := w.heap.size + 1) (e := 49) (size := 5) D #[] 0 (by omega) (Nat.zero_le _) rfl
  have b3 : Below D.heap.size D (D.alloc (.cells #[] 49)) := (Below.refl _ _).alloc (Nat.le_refl _) _
  have s3 := World.size_alloc D (.cells #[] 49)
  refine ⟨?_, ?_, ?_, by rw [s3]; omega⟩
  · have e1 : Below (w.heap.size + 1) A C := b1.mono (by omega)
    have e2 : Below (w.heap.size + 1) C D := b2.mono (by omega)
    have e3 : Below (w.heap.size + 1) D _ := b3.mono (by omega)
    rw [hA]
    exact e1.trans (e2.trans e3)
  · have h := (S2.below b3).perm (List.Perm.swap _ _ _)
    rw [show C.heap.size = w.heap.size + 1 + 1 from by omega] at h
    exact h
  · rw [show D.heap.size = w.heap.size + 1 + 1 + 1 from by omega] at r3
    exact r3
theorem go9_at (l : List Td) (i : Nat) (h : i < l.length) (ns os : List ByteArray) (ts : List Tg) : go9 (l.drop i) i ns os ts = match step9 ns os l[i].at_ with
    | (_, some x) => go9 (l.drop (i + 1)) ((i + 1 : Nat) : Int) (ns ++ [x.name]) (os ++ x.outs) (ts ++ [x.srt])
    | (k, none) => (k, (i : Int), [], []) := by
  rw [List.drop_eq_getElem_cons h, go9]
  rfl
theorem valid_tree {a : List At} (h : valid a = true) : ∃ t, treeOf a = some t ∧ a = t.atoms ∧ a.length ≤ 1000 ∧ ∃ m, a.length = m + 1 := by
  unfold valid at h
  simp only [Bool.and_eq_true, decide_eq_true_eq] at h
  cases ht : treeOf a with
  | none => rw [ht] at h; cases h.2
  | some t =>
    have e := treeOf_some ht
    refine ⟨t, rfl, e, h.1, a.length - 1, ?_⟩
    have := atoms_pos t
    rw [e]
    omega
theorem list9_long {ks : List T} {s : ByteArray} {l : List ByteArray} (h : list9 ks s true = some l) : l ≠ [] := by
  unfold list9 at h
  cases hg : getAt ks s with
  | none => rw [hg] at h; simp at h
  | some i =>
    rw [hg] at h
    simp only at h
    cases hx : ks[i + 1]? with
    | none => rw [hx] at h; cases h
    | some x =>
      rw [hx] at h
      simp only at h
      split at h
      · rename_i hc
        cases h
        intro e
        exact hc.2.1 ⟨by simp, by simpa using congrArg List.length e⟩
      · cases h
theorem list9_len {ks : List T} {s : ByteArray} {need : Bool} {l : List ByteArray} (h : list9 ks s need = some l) : l.length ≤ (atomsL ks).length := by
  unfold list9 at h
  cases hg : getAt ks s with
  | none =>
    rw [hg] at h
    cases need
    · simp at h; subst h; simp
    · simp at h
  | some i =>
    rw [hg] at h
    simp only at h
    cases hx : ks[i + 1]? with
    | none => rw [hx] at h; cases h
    | some x =>
      rw [hx] at h
      simp only at h
      split at h
      · cases h
        have hi := (List.getElem?_eq_some_iff.1 hx).1
        have he := (List.getElem?_eq_some_iff.1 hx).2
        have h1 := count_mem ks (i + 1) hi
        rw [he] at h1
        have h2 := T.count_eq x
        have h3 := len_le_atomsL x.ks
        rw [List.length_map]
        omega
      · cases h
theorem target9_len {t : T} {x : Tg} (h : target9 t = some x) : x.ins.length ≤ t.count ∧ x.outs.length ≤ t.count := by
  have hc := T.count_eq t
  unfold target9 at h
  split at h
  · split at h
    · rename_i hd he
      cases h
      have h1 := list9_len hd
      have h2 := list9_len he
      exact ⟨Nat.le_trans h1 (by omega), Nat.le_trans h2 (by omega)⟩
    · cases h
  · cases h
theorem target9_outs {t : T} {x : Tg} (h : target9 t = some x) : x.outs ≠ [] := by
  unfold target9 at h
  split at h
  · split at h
    · rename_i he
      cases h
      exact list9_long he
    · cases h
  · cases h
/-- The box of a target that was read. -/
structure XT (W0 : World) (b : Nat) (v0 v1 v2 v3 v4 : Value) (W : World) : Prop where
  c0 : W.cell? ⟨b, 0, none⟩ = some v0
  c1 : W.cell? ⟨b, 1, none⟩ = some v1
  c2 : W.cell? ⟨b, 2, none⟩ = some v2
  c3 : W.cell? ⟨b, 3, none⟩ = some v3
  c4 : W.cell? ⟨b, 4, none⟩ = some v4
  f3 : W.frozen? ⟨b, 3, none⟩ = false
  f4 : W.frozen? ⟨b, 4, none⟩ = false
  k : ∃ cs fr, W.heap[b]? = some (.cells cs 49 fr)
  z : b < W.heap.size
theorem XT.new (W : World) (v0 v1 v2 v3 v4 : Value) : XT W W.heap.size v0 v1 v2 v3 v4 (W.alloc (.cells #[v0, v1, v2, v3, v4] 49)) :=
  ⟨by simp, by simp, by simp, by simp, by simp, by simp, by simp, ⟨_, _, heap_alloc_new W _⟩, by simp⟩
theorem XT.below {W0 W W' : World} {b : Nat} {v0 v1 v2 v3 v4 : Value} (h : XT W0 b v0 v1 v2 v3 v4 W) (hb : Below W.heap.size W W') : XT W0 b v0 v1 v2 v3 v4 W' :=
  ⟨(hb.cell (p := ⟨b, 0, none⟩) h.z).trans h.c0, (hb.cell (p := ⟨b, 1, none⟩) h.z).trans h.c1, (hb.cell (p := ⟨b, 2, none⟩) h.z).trans h.c2, (hb.cell (p := ⟨b, 3, none⟩) h.z).trans h.c3, (hb.cell (p := ⟨b, 4, none⟩) h.z).trans h.c4, (hb.frozen (p := ⟨b, 3, none⟩) h.z).trans h.f3, (hb.frozen (p := ⟨b, 4, none⟩) h.z).trans h.f4, by rw [hb.block b h.z]; exact h.k, Nat.lt_of_lt_of_le h.z hb.size⟩
theorem XT.grown {W0 W W' : World} {b : Nat} {v0 v1 v2 v3 v4 : Value} {row : Option Nat} (h : XT W0 b v0 v1 v2 v3 v4 W) (hg : W.grownBy W' row) (hr : ∀ q, row = some q → ∃ cs fr, W.heap[q]? = some (.cells cs 9 fr)) : XT W0 b v0 v1 v2 v3 v4 W' := by
  have hb : W'.heap[b]? = W.heap[b]? := hg.block b h.z (fun e => by
    obtain ⟨cs, fr, h1⟩ := hr b e.symm
    obtain ⟨cs', fr', h2⟩ := h.k
    rw [h1] at h2
    injection h2 with h2
    injection h2 with _ h3 _
    exact absurd h3 (by decide))
  have c : ∀ j, W'.cell? ⟨b, j, none⟩ = W.cell? ⟨b, j, none⟩ := fun j => World.cell?_of_block (a := ⟨b, j, none⟩) hb
  have f : ∀ j, W'.frozen? ⟨b, j, none⟩ = W.frozen? ⟨b, j, none⟩ := fun j => World.frozen?_of_block (a := ⟨b, j, none⟩) hb
  exact ⟨(c 0).trans h.c0, (c 1).trans h.c1, (c 2).trans h.c2, (c 3).trans h.c3, (c 4).trans h.c4, (f 3).trans h.f3, (f 4).trans h.f4, by rw [hb]; exact h.k, Nat.lt_of_lt_of_le h.z hg.size⟩
theorem has1_B (l : List ByteArray) (s : ByteArray) (v : Value) (w : World) (hl : l.length ≤ 1099511627776) (hv : StrsV w v l) :
    Calls Tryz.prog 16 #[v, .string s] w fun e w' => e = .returned (.bool (memS s l)) ∧ Below w.heap.size w w' := (has1_any l s v w hl hv).mono fun _ _ h => ⟨h.1, by rw [h.2]; exact Below.refl _ _⟩
theorem PI.kept5 {w W W' : World} {ns os : List ByteArray} {v3 v4 v5 : Value} {lc : List Lc} {row : Option Nat} (h : PI w ns os v3 v4 v5 lc W) (hg : W.grownBy W' row) (hr : ∀ q, row = some q → ∃ cs fr, W.heap[q]? = some (.cells cs 9 fr)) : W'.ownsRow (w.heap.size + 1) 49 5 v5 lc.length (cellsG lc) :=
  row_keptY h.L hg (fun b hb hb2 => by
    obtain ⟨cs, fr, h1⟩ := own_cells h.L hb
    obtain ⟨cs', fr', h2⟩ := hr b hb2
    rw [h1] at h2
    injection h2 with h2
    injection h2 with _ h3 _
    exact absurd h3 (by decide))
theorem PI.grow3 {w W W' : World} {ns ns' os : List ByteArray} {v3 v3' v4 v5 : Value} {lc : List Lc} (h : PI w ns os v3 v4 v5 lc W) (hg : W.grownBy W' v3.ownBlock) (ho : W'.ownsRow (w.heap.size + 1) 9 1 v3' ns'.length (cellsT ns')) (hb : v3'.ownBlock = v3.ownBlock ∨ v3'.ownBlock = some W.heap.size) : PI w ns' os v3' v4 v5 lc W' := by
  have h3 := h.S.own _ (List.mem_cons_self ..)
  exact ⟨h.B.grown hg h.z (fun k hk => (own_lt h3 hk).1), h.S.grow hg ho hb, h.kept5 hg (fun q hq => own_cells h3 hq), Nat.le_trans h.z hg.size⟩
theorem PI.grow4 {w W W' : World} {ns os os' : List ByteArray} {v3 v4 v4' v5 : Value} {lc : List Lc} (h : PI w ns os v3 v4 v5 lc W) (hg : W.grownBy W' v4.ownBlock) (ho : W'.ownsRow (w.heap.size + 1) 9 1 v4' os'.length (cellsT os')) (hb : v4'.ownBlock = v4.ownBlock ∨ v4'.ownBlock = some W.heap.size) : PI w ns os' v3 v4' v5 lc W' := by
  have h4 := h.S.own _ (List.mem_cons_of_mem _ (List.mem_cons_self ..))
  exact ⟨h.B.grown hg h.z (fun k hk => (own_lt h4 hk).1), ((h.S.perm (List.Perm.swap _ _ _)).grow hg ho hb).perm (List.Perm.swap _ _ _), h.kept5 hg (fun q hq => own_cells h4 hq), Nat.le_trans h.z hg.size⟩
theorem StrsH.grown {B : Nat} {w w' : World} {v : Value} {l : List ByteArray} {row : Option Nat} (h : StrsH B w v l) (hg : w.grownBy w' row) (hr : ∀ b, row = some b → b < B) : StrsH B w' v l := by
  rcases h with h | ⟨g, c, h1, h2, h3⟩
  · exact .inl h
  · exact .inr ⟨g, c, h1, h2, h3.heap (hg.block g h3.1 (fun e => by have := hr g e.symm; omega))⟩
theorem one_strs (l : List ByteArray) : ∀ u ∈ cellsT l, u.oneCell' = true := by
  intro u hu
  obtain ⟨x, _, rfl⟩ := List.mem_map.1 hu
  rfl
theorem cells_strs {w : World} {g : Nat} {l : List ByteArray} (h : StrsO w g 0 l) : ∀ j u, (cellsT l)[j]? = some u → w.cell? ((⟨g, 0, none⟩ : Addr).add j) = some u := by
  intro j u hu
  rw [add_plain, Nat.zero_add]
  have hj : j < l.length := by have := (List.getElem?_eq_some_iff.1 hu).1; simpa [cellsT] using this
  have h1 := h.2 j hj
  rw [Nat.zero_add] at h1
  rw [h1]
  rw [← hu]
  simp [cellsT, hj]
theorem grown_set (W : World) (b j : Nat) (v : Value) : W.grownBy (W.setCell ⟨b, j, none⟩ v) (some b) :=
  have h : Below b W (W.setCell ⟨b, j, none⟩ v) := (Below.refl _ _).setCell (p := ⟨b, j, none⟩) (Nat.le_refl _) v
  ⟨h.os, h.tape, h.output, h.size, fun k _ hne => Below.heap_setCell _ _ _ _ (fun e => hne (by rw [e]))⟩
theorem XT.put3 {W0 W : World} {b : Nat} {v0 v1 v2 v3 v4 : Value} (h : XT W0 b v0 v1 v2 v3 v4 W) (v : Value) : XT W0 b v0 v1 v2 v v4 (W.setCell ⟨b, 3, none⟩ v) := by
  have e : ∀ a : Addr, (⟨b, 3, none⟩ : Addr) ≠ a → (W.setCell ⟨b, 3, none⟩ v).cell? a = W.cell? a := fun a ha => World.cell?_setCell_other _ _ _ _ ha
  refine ⟨(e _ (by simp)).trans h.c0, (e _ (by simp)).trans h.c1, (e _ (by simp)).trans h.c2, World.cell?_setCell_same _ _ _ h.c3, (e _ (by simp)).trans h.c4, by simpa using h.f3, by simpa using h.f4, ?_, by simpa using h.z⟩
  obtain ⟨cs, fr, hk⟩ := h.k
  refine ⟨cs.setIfInBounds 3 v, fr, ?_⟩
  show (W.heap.modify b _)[b]? = _
  rw [Array.getElem?_modify, if_pos rfl, hk]
  rfl
theorem XT.put4 {W0 W : World} {b : Nat} {v0 v1 v2 v3 v4 : Value} (h : XT W0 b v0 v1 v2 v3 v4 W) (v : Value) : XT W0 b v0 v1 v2 v3 v (W.setCell ⟨b, 4, none⟩ v) := by
  have e : ∀ a : Addr, (⟨b, 4, none⟩ : Addr) ≠ a → (W.setCell ⟨b, 4, none⟩ v).cell? a = W.cell? a := fun a ha => World.cell?_setCell_other _ _ _ _ ha
  refine ⟨(e _ (by simp)).trans h.c0, (e _ (by simp)).trans h.c1, (e _ (by simp)).trans h.c2, (e _ (by simp)).trans h.c3, World.cell?_setCell_same _ _ _ h.c4, by simpa using h.f3, by simpa using h.f4, ?_, by simpa using h.z⟩
  obtain ⟨cs, fr, hk⟩ := h.k
  refine ⟨cs.setIfInBounds 4 v, fr, ?_⟩
  show (W.heap.modify b _)[b]? = _
  rw [Array.getElem?_modify, if_pos rfl, hk]
  rfl
theorem Tryz.infoTg : (Tryz.prog.info? 49).map (fun i => (i.zero, i.size, i.bytes)) = some (some (.agg #[.string ⟨#[]⟩, .string ⟨#[]⟩, .string ⟨#[]⟩, .slice none 0 0, .slice none 0 0]), 5, 96) := by kernel_rfl
theorem cells_five (X : World) (n : Nat) (hn : X.heap.size = n) (v0 v1 v2 v3 v4 : Value) (t : TypeId) : ∀ (j : Nat) (u : Value), [v0, v1, v2, v3, v4][j]? = some u → (X.alloc (.cells #[v0, v1, v2, v3, v4] t)).cell? ((⟨n, 0, none⟩ : Addr).add j) = some u := by
  subst hn
  intro j u hu
  rw [add_plain, Nat.zero_add]
  have hj : j < 5 := (List.getElem?_eq_some_iff.1 hu).1
  match j, hj with
  | 0, _ => simpa using hu
  | 1, _ => simpa using hu
  | 2, _ => simpa using hu
  | 3, _ => simpa using hu
  | 4, _ => simpa using hu
  | j + 5, h => omega
theorem cellsG_at (l : List Lc) (i : Nat) (h : i < l.length) : (cellsG l)[i * 5]? = some (.string (l[i]).t.name) ∧ (cellsG l)[i * 5 + 1]? = some (.string (l[i]).t.tool) ∧ (cellsG l)[i * 5 + 2]? = some (.string (l[i]).t.arg) ∧ (cellsG l)[i * 5 + 3]? = some (l[i]).vi ∧ (cellsG l)[i * 5 + 4]? = some (l[i]).vo := by
  induction l generalizing i with
  | nil => cases h
  | cons p r ih =>
    cases i with
    | zero => simp [cellsG, Lc.cells]
    | succ i =>
      have hi : i < r.length := by simpa using h
      have h5 : cellsG (p :: r) = p.cells ++ cellsG r := by simp [cellsG]
      have hl : p.cells.length = 5 := rfl
      have e : ∀ k, (cellsG (p :: r))[(i + 1) * 5 + k]? = (cellsG r)[i * 5 + k]? := fun k => by
        rw [h5, List.getElem?_append_right (by omega), hl]
        congr 1
        omega
      have q := ih i hi
      simp only [List.getElem_cons_succ]
      exact ⟨(e 0).trans q.1, (e 1).trans q.2.1, (e 2).trans q.2.2.1, (e 3).trans q.2.2.2.1, (e 4).trans q.2.2.2.2⟩
theorem tgs_of {W : World} {B : Nat} {v : Value} {acc : List Lc} (h : W.ownsRow B 49 5 v acc.length (cellsG acc)) (hs : ∀ p ∈ acc, StrsV W p.vi p.t.ins ∧ StrsV W p.vo p.t.outs) : TgsV W v (acc.map Lc.t) := by
  rcases h.2 with ⟨h1, h2⟩ | ⟨g, c, cur, h1, _⟩
  · refine .inl ⟨h1, ?_⟩
    have : acc.length = 0 := by first | exact h2 | exact h2.1 | simp_all
    rw [List.eq_nil_of_length_eq_zero this]; rfl
  · subst h1
    refine .inr ⟨g, c, by rw [List.length_map], (h.lt g rfl).2, fun i hi => ?_⟩
    have hi2 : i < acc.length := by simpa using hi
    have q := cellsG_at acc i hi2
    have e : (acc.map Lc.t)[i] = (acc[i]).t := by simp
    rw [e]
    have hm := hs acc[i] (List.getElem_mem _)
    refine ⟨(acc[i]).vi, (acc[i]).vo, ?_, ?_, ?_, ?_, ?_, hm.1, hm.2⟩
    · rw [h.cellAt _ (by omega)]; exact q.1
    · rw [h.cellAt _ (by omega)]; exact q.2.1
    · rw [h.cellAt _ (by omega)]; exact q.2.2.1
    · rw [h.cellAt _ (by omega)]; exact q.2.2.2.1
    · rw [h.cellAt _ (by omega)]; exact q.2.2.2.2
theorem row_set {W : World} {B b j : Nat} {e : TypeId} {size n : Nat} {v u : Value} {xs : List Value} (h : W.ownsRow B e size v n xs) (hb : b < B) : (W.setCell ⟨b, j, none⟩ u).ownsRow B e size v n xs :=
  row_keptY h (grown_set W b j u) (fun q hq e => by cases e; have := (own_lt h hq).1; omega)
/-- Texts that lie behind a place, or none. -/
theorem strsV_set {W : World} {B b j : Nat} {v u : Value} {l : List ByteArray} (h : StrsH B W v l) (hb : b < B) : StrsH B (W.setCell ⟨b, j, none⟩ u) v l := h.set ⟨b, j, none⟩ hb u
theorem rows_mem {B : Nat} {W : World} {a b : Value × List ByteArray} {lc : List Lc} (h : SR B (a :: b :: rowsG lc) W) {p : Lc} (hp : p ∈ lc) : StrsH B W p.vi p.t.ins ∧ StrsH B W p.vo p.t.outs := by
  have h1 : (p.vi, p.t.ins) ∈ rowsG lc := List.mem_flatMap.2 ⟨p, hp, by simp⟩
  have h2 : (p.vo, p.t.outs) ∈ rowsG lc := List.mem_flatMap.2 ⟨p, hp, by simp⟩
  have r1 := h.own _ (List.mem_cons_of_mem _ (List.mem_cons_of_mem _ h1))
  have r2 := h.own _ (List.mem_cons_of_mem _ (List.mem_cons_of_mem _ h2))
  obtain ⟨p1, c1, e1⟩ : ∃ q c, p.vi = .slice q p.t.ins.length c := row_form r1
  obtain ⟨p2, c2, e2⟩ : ∃ q c, p.vo = .slice q p.t.outs.length c := row_form r2
  refine ⟨?_, ?_⟩
  · have r := r1
    rw [show (p.vi, p.t.ins).1 = Value.slice p1 p.t.ins.length c1 from e1] at r
    rw [e1]
    exact strsH_of_row rfl (Nat.le_refl _) r
  · have r := r2
    rw [show (p.vo, p.t.outs).1 = Value.slice p2 p.t.outs.length c2 from e2] at r
    rw [e2]
    exact strsH_of_row rfl (Nat.le_refl _) r
theorem rows_form {B : Nat} {W : World} {a b : Value × List ByteArray} {lc : List Lc} (h : SR B (a :: b :: rowsG lc) W) {p : Lc} (hp : p ∈ lc) : (∃ q n c, p.vi = .slice q n c) ∧ ∃ q n c, p.vo = .slice q n c := by
  have h1 : (p.vi, p.t.ins) ∈ rowsG lc := List.mem_flatMap.2 ⟨p, hp, by simp⟩
  have h2 : (p.vo, p.t.outs) ∈ rowsG lc := List.mem_flatMap.2 ⟨p, hp, by simp⟩
  have r1 := h.own _ (List.mem_cons_of_mem _ (List.mem_cons_of_mem _ h1))
  have r2 := h.own _ (List.mem_cons_of_mem _ (List.mem_cons_of_mem _ h2))
  obtain ⟨p1, c1, e1⟩ : ∃ q c, p.vi = .slice q p.t.ins.length c := row_form r1
  obtain ⟨p2, c2, e2⟩ : ∃ q c, p.vo = .slice q p.t.outs.length c := row_form r2
  exact ⟨⟨_, _, _, e1⟩, _, _, _, e2⟩
/-- The plan that is made, behind the loop. -/
structure QI (w1 : World) (vo : Value) (acc : List Lc) (W : World) : Prop where
  B : Below w1.heap.size w1 W
  c0 : W.cell? ⟨w1.heap.size, 0, none⟩ = some (.int .i64 0)
  c1 : W.cell? ⟨w1.heap.size, 1, none⟩ = some (.int .i64 0)
  c2 : W.cell? ⟨w1.heap.size, 2, none⟩ = some vo
  f2 : W.frozen? ⟨w1.heap.size, 2, none⟩ = false
  R : W.ownsRow (w1.heap.size + 1) 49 5 vo acc.length (cellsG acc)
  z : w1.heap.size + 1 ≤ W.heap.size
theorem QI.below {w1 W W' : World} {vo : Value} {acc : List Lc} (h : QI w1 vo acc W) (hb : Below W.heap.size W W') : QI w1 vo acc W' := by
  have hz := h.z
  have e : ∀ j, W'.cell? ⟨w1.heap.size, j, none⟩ = W.cell? ⟨w1.heap.size, j, none⟩ := fun j => hb.cell (p := ⟨w1.heap.size, j, none⟩) (by show w1.heap.size < _; omega)
  exact ⟨h.B.trans (hb.mono (by omega)), (e 0).trans h.c0, (e 1).trans h.c1, (e 2).trans h.c2, (hb.frozen (p := ⟨w1.heap.size, 2, none⟩) (by show w1.heap.size < _; omega)).trans h.f2, row_belowY h.R hb, Nat.le_trans h.z hb.size⟩
theorem QI.app {w1 W W' : World} {vo : Value} {acc : List Lc} (h : QI w1 vo acc W) (hg : W.grownBy W' vo.ownBlock) : Below w1.heap.size w1 W' ∧ W'.cell? ⟨w1.heap.size, 0, none⟩ = some (.int .i64 0) ∧ W'.cell? ⟨w1.heap.size, 1, none⟩ = some (.int .i64 0) ∧ W'.cell? ⟨w1.heap.size, 2, none⟩ = some vo ∧ W'.frozen? ⟨w1.heap.size, 2, none⟩ = false ∧ w1.heap.size + 1 ≤ W'.heap.size := by
  have hz := h.z
  have hb : W'.heap[w1.heap.size]? = W.heap[w1.heap.size]? := hg.block _ (by omega) (fun e => by have := (own_lt h.R e.symm).1; omega)
  have c : ∀ j, W'.cell? ⟨w1.heap.size, j, none⟩ = W.cell? ⟨w1.heap.size, j, none⟩ := fun j => World.cell?_of_block (a := ⟨w1.heap.size, j, none⟩) hb
  refine ⟨h.B.grown hg (by omega) (fun k hk => by have := (own_lt h.R hk).1; omega), (c 0).trans h.c0, (c 1).trans h.c1, (c 2).trans h.c2, (World.frozen?_of_block (a := ⟨w1.heap.size, 2, none⟩) hb).trans h.f2, Nat.le_trans hz hg.size⟩
theorem QI.put {w1 W : World} {vo v' : Value} {acc' : List Lc} (h : Below w1.heap.size w1 W ∧ W.cell? ⟨w1.heap.size, 0, none⟩ = some (.int .i64 0) ∧ W.cell? ⟨w1.heap.size, 1, none⟩ = some (.int .i64 0) ∧ W.cell? ⟨w1.heap.size, 2, none⟩ = some vo ∧ W.frozen? ⟨w1.heap.size, 2, none⟩ = false ∧ w1.heap.size + 1 ≤ W.heap.size) (hr : W.ownsRow (w1.heap.size + 1) 49 5 v' acc'.length (cellsG acc')) : QI w1 v' acc' (W.setCell ⟨w1.heap.size, 2, none⟩ v') := by
  obtain ⟨hB, h0, h1, h2, hf, hz⟩ := h
  have e : ∀ a : Addr, (⟨w1.heap.size, 2, none⟩ : Addr) ≠ a → (W.setCell ⟨w1.heap.size, 2, none⟩ v').cell? a = W.cell? a := fun a ha => World.cell?_setCell_other _ _ _ _ ha
  exact ⟨hB.setCell (p := ⟨w1.heap.size, 2, none⟩) (Nat.le_refl _) _, (e _ (by simp)).trans h0, (e _ (by simp)).trans h1, World.cell?_setCell_same _ _ _ h2, by simpa using hf, row_set hr (Nat.lt_succ_self _), by simpa using hz⟩
theorem QI.start (w1 : World) : QI w1 (.slice none 0 0) [] (w1.alloc (.cells #[.int .i64 0, .int .i64 0, .slice none 0 0] 26)) :=
  ⟨(Below.refl _ _).alloc (Nat.le_refl _) _, by simp, by simp, by simp, by simp, World.ownsRow_nil _ _ _ _, by simp⟩
theorem rows_perm (a b c d : Value × List ByteArray) (L : List (Value × List ByteArray)) : (a :: b :: c :: d :: L).Perm (c :: d :: (L ++ [b, a])) := by
  have h1 : ([a, b] ++ (c :: d :: L)).Perm ((c :: d :: L) ++ [a, b]) := List.perm_append_comm
  have h2 : ((c :: d :: L) ++ [a, b]).Perm ((c :: d :: L) ++ [b, a]) := List.Perm.append_left _ (List.Perm.swap _ _ _)
  exact h1.trans h2
theorem PI.names {w W : World} {ns os : List ByteArray} {p : Option Addr} {c : Nat} {v4 v5 : Value} {lc : List Lc} (h : PI w ns os (.slice p ns.length c) v4 v5 lc W) : StrsV W (.slice p ns.length c) ns := strsV_of_row (h.S.own (.slice p ns.length c, ns) (List.mem_cons_self ..))
theorem PI.outs {w W : World} {ns os : List ByteArray} {p : Option Addr} {c : Nat} {v3 v5 : Value} {lc : List Lc} (h : PI w ns os v3 (.slice p os.length c) v5 lc W) : StrsV W (.slice p os.length c) os := strsV_of_row (h.S.own (.slice p os.length c, os) (List.mem_cons_of_mem _ (List.mem_cons_self ..)))
theorem strs_take {w : World} {g o c k : Nat} {l : List ByteArray} (h : StrsO w g o l) (hk : k < l.length) : StrsV w (.slice (some ⟨g, o, none⟩) k c) (l.take k) := by
  have hl : (l.take k).length = k := by rw [List.length_take]; omega
  have h2 : StrsV w (.slice (some ⟨g, o, none⟩) (l.take k).length c) (l.take k) := .inr ⟨g, o, c, rfl, h.take⟩
  rwa [hl] at h2
theorem picked_nil : picked [] [] = [] := rfl
set_option maxRecDepth 100000 in
set_option maxHeartbeats 800000 in
theorem targets9_some (l : List Td) (g c : Nat) (w : World) (hl : l.length ≤ 1048576) (hla : ∀ d ∈ l, d.at_.length ≤ 1048576) (ht : TdsO w g l) (r : Int × Int × List Tg) (hr : r = plan9 l) :
    Calls Tryz.prog 5 #[.slice (some ⟨g, 0, none⟩) l.length c] w (PlPost w r) := by
  have P0 := hide (PI.start w)
  have HT := hide ht
  have HRR : Hid (∀ k at_ ns ts, go9 l 0 [] [] [] = (k, at_, ns, ts) → r = (k, at_, picked ns ts)) := hide (fun k at_ ns ts h => by rw [hr]; unfold plan9; rw [h])
  have HG0 : Hid (∃ G, go9 l 0 [] [] [] = G) := hide ⟨_, rfl⟩
  clear ht hr
  obtain ⟨iS, hS, hSz, hSs, hSb⟩ := info_parts Tryz.infoStr
  obtain ⟨iT, hT, hTz, hTs, hTb⟩ := info_parts Tryz.infoTg
  go_enter Tryz.func5, Tryz.ntmps5
  go_wp2
  go_loopw [3, 4, 5, 6] (fun u3 u4 u5 q wr => ∃ (i : Nat) (ns os : List ByteArray) (lc : List Lc), i ≤ l.length ∧ lc.length ≤ i ∧ ns.length ≤ i ∧ os.length ≤ 1000 * i ∧ q = .int .i64 i ∧ PI w ns os u3 u4 u5 lc wr ∧ go9 (l.drop i) i ns os (lc.map Lc.t) = go9 l 0 [] [] []) (fun _ _ _ q _ => l.length - (intOf q).toNat)
  case atStart => exact ⟨0, [], [], [], Nat.zero_le _, Nat.le_refl _, Nat.le_refl _, Nat.le_refl _, rfl, P0.out, rfl⟩
  case round =>
    obtain ⟨i, ns, os, lc, hi, hlcl, hns, hos, rfl, hP, hgo⟩ := hrel
    obtain ⟨wo, hwo⟩ : ∃ x, x = wr := ⟨wr, rfl⟩
    subst hwo
    have P := hide hP
    have HGO := hide hgo
    obtain ⟨p3, c3, e3⟩ : ∃ p c, u3 = .slice p ns.length c := row_form (hP.S.own _ (List.mem_cons_self ..))
    obtain ⟨p4, c4, e4⟩ : ∃ p c, u4 = .slice p os.length c := row_form (hP.S.own _ (List.mem_cons_of_mem _ (List.mem_cons_self ..)))
    obtain ⟨p5, c5, e5⟩ : ∃ p c, u5 = .slice p lc.length c := row_form hP.L
    subst e3 e4 e5
    clear hP hgo
    by_cases hlt : i < l.length
    · obtain ⟨hfr, gi, hvi, hai⟩ := (HT.out.below P.out.out).2 i hlt
      have HAI := hide hai
      have HAT := hide (go9_at l i hlt ns os (lc.map Lc.t))
      have hal := hla l[i] (List.getElem_mem _)
      generalize l[i].at_ = a at *
      generalize l[i].fr = fr at *
      have HV := hide (fun w1 (hb : Below wo.heap.size wo w1) => specValid_any a gi 0 a.length w1 (fun _ => rfl) (HAI.out.below hb) (Nat.le_refl _) hal)
      have HVX := hide (fun w1 (hb : Below wo.heap.size wo w1) => (hb.cell (p := ⟨g, i * 2 + 1, none⟩) (Nat.lt_of_lt_of_le HT.out.1 P.out.out.size)).trans hvi)
      go_wp2_with fail
      refine (HV.out _ (Below.refl _ _)).mono ?_
      rintro e w1 ⟨rfl, hb1⟩
      have P1 := hide (P.out.below hb1)
      have v1 := HVX.out _ hb1
      cases hv : valid a
      · have HGF : Hid (go9 l 0 [] [] [] = (1, (i : Int), [], [])) := hide (by rw [← HGO.out, HAT.out]; simp [step9, readA, hv])
        clear hv
        obtain ⟨⟨y0, y1, y2⟩, g0, g1, g2⟩ := P1.out.box
        go_wp2
        refine bodyPost_ret (v := .agg #[.int .i64 1, .int .i64 i, .slice none 0 0]) (by simp [results, Tryz.results5, go_sem, y0, y1, y2]) rfl ?_
        rw [HRR.out _ _ _ _ (HGF.out)]
        refine PlPost.no ?_
        iterate 3 (refine Below.setCell ?_ (by show w.heap.size ≤ w.heap.size; exact Nat.le_refl _) _)
        exact P1.out.out
      · obtain ⟨t, htr, hat, ha1, m, hm⟩ := valid_tree hv
        have HAR : Hid (readA a = some (target9 t)) := hide (by unfold readA; rw [if_pos hv, htr])
        have HTG := hide (fun w2 (hb : Below wo.heap.size wo w2) => target9_any t gi 0 (m + 1) m w2 (by rw [← hm, hat]; rfl) (by omega) (Nat.le_refl _) (by have h := HAI.out.below hb; rw [hat] at h; exact h))
        have HTO := hide (fun x (h : target9 t = some x) => And.intro (target9_outs h) (target9_len h))
        rw [hm] at v1
        have hcnt : t.count = a.length := by rw [hat]; rfl
        clear hv htr hat HV
        go_wp2_with fail
        refine (HTG.out _ hb1).mono ?_
        rintro e w2 ⟨hb2, xa, xb, xc, pi, ni, qi, po, no, qo, rfl, hx⟩
        have hb2' := hb1.trans (hb2.mono hb1.size)
        have r2 : Below w2.heap.size w2 (w2.alloc (.cells #[.string xa, .string xb, .string xc, .slice pi ni qi, .slice po no qo] 49)) := (Below.refl _ _).alloc (Nat.le_refl _) _
        have P2 := hide ((P1.out.below hb2).below r2)
        generalize htg : target9 t = tg at *
        cases tg with
        | none =>
          have HGF : Hid (go9 l 0 [] [] [] = (2, (i : Int), [], [])) := hide (by rw [← HGO.out, HAT.out]; simp [step9, HAR.out])
          obtain ⟨⟨y0, y1, y2⟩, g0, g1, g2⟩ := P2.out.box
          go_wp2
          refine bodyPost_ret (v := .agg #[.int .i64 2, .int .i64 i, .slice none 0 0]) (by simp [results, Tryz.results5, go_sem, y0, y1, y2]) rfl ?_
          rw [HRR.out _ _ _ _ (HGF.out)]
          refine PlPost.no ?_
          iterate 3 (refine Below.setCell ?_ (by show w.heap.size ≤ w.heap.size; exact Nat.le_refl _) _)
          exact P2.out.out
        | some x =>
          obtain ⟨rfl, rfl, rfl, hci, hco⟩ := hx x rfl
          obtain ⟨hne, hin, hou⟩ := HTO.out x rfl
          have hcn : t.count ≤ 1000 := by omega
          have X2 := hide (XT.new w2 (.string x.name) (.string x.tool) (.string x.arg) (.slice pi ni qi) (.slice po no qo))
          have HCI := hide (hci.below r2)
          have HCO := hide (hco.below r2)
          have hb3 := hb2'.trans (r2.mono hb2'.size)
          generalize hW : w2.alloc (.cells #[.string x.name, .string x.tool, .string x.arg, .slice pi ni qi, .slice po no qo] 49) = w3 at *
          have HN := hide (has1_any ns x.name (.slice p3 ns.length c3) w3 (by omega) (strsV_of_row (P2.out.S.own _ (List.mem_cons_self ..))))
          have d0 := X2.out.c0
          have d4 := X2.out.c4
          cases hm3 : memS x.name ns
          · rw [hm3] at HN
            obtain ⟨go, co, hvo, ⟨hgo, hoc⟩, hso⟩ : ∃ go co, Value.slice po no qo = .slice (some ⟨go, 0, none⟩) x.outs.length co ∧ (w1.heap.size ≤ go ∧ x.outs.length ≤ co) ∧ StrsO w2 go 0 x.outs := by
              rcases hco with ⟨_, _, _, e⟩ | h
              · exact absurd e hne
              · exact h
            simp only [Value.slice.injEq] at hvo
            obtain ⟨rfl, rfl, rfl⟩ := hvo
            have HSO := hide (hso.below r2)
            have hgo2 := hso.1
            clear hso
            go_wp2_with fail
            refine HN.out.mono ?_
            rintro e w4 ⟨rfl, rfl⟩
            go_wp2
            go_loopw [9] (fun q wk => ∃ k : Nat, k ≤ x.outs.length ∧ q = .int .i64 k ∧ Below w4.heap.size w4 wk ∧ ∀ j (h : j < x.outs.length), j < k → memS x.outs[j] os = false ∧ memS x.outs[j] (x.outs.take j) = false) (fun q _ => x.outs.length - (intOf q).toNat)
            case atStart => exact ⟨0, Nat.zero_le _, rfl, Below.refl _ _, fun j _ h => absurd h (Nat.not_lt_zero _)⟩
            case round =>
              obtain ⟨k, hk, rfl, hbk, hallk⟩ := hrel
              obtain ⟨wk, hwk⟩ : ∃ x, x = wr := ⟨wr, rfl⟩
              subst hwk
              have HAK := hide hallk
              have HBK := hide hbk
              have P3 := hide (P2.out.below hbk)
              have X3 := hide (X2.out.below hbk)
              have HSK := hide (HSO.out.below hbk)
              clear hallk
              have e4 := X3.out.c4
              by_cases hkl : k < x.outs.length
              · have hob1 : os.length ≤ 1099511627776 := by omega
                have hob2 : (x.outs.take k).length ≤ 1099511627776 := by rw [List.length_take]; omega
                have HH1 := hide (fun w1 (hb : Below wk.heap.size wk w1) => has1_B os (x.outs[k]'hkl) (.slice p4 os.length c4) w1 hob1 (P3.out.below hb).outs)
                have HH2 := hide (fun w1 (hb : Below wk.heap.size wk w1) => has1_B (x.outs.take k) (x.outs[k]'hkl) (.slice (some ⟨go, 0, none⟩) k qo) w1 hob2 (strs_take (HSK.out.below hb) hkl))
                have H1 := hide (fun q : KB wk => kb_call HH1.out q)
                have H2 := hide (fun q : KB wk => kb_call HH2.out q)
                clear HH1 HH2
                clear hob1 hob2
                haveI hne2 : Nonempty (KB wk) := ⟨⟨_, Below.refl _ _⟩⟩
                have fa : ∀ q : KB wk, q.w.cell? ⟨w2.heap.size, 4, none⟩ = some (.slice (some ⟨go, 0, none⟩) x.outs.length qo) := fun q => (q.below.cell (p := ⟨w2.heap.size, 4, none⟩) X3.out.z).trans X3.out.c4
                have fb : ∀ q : KB wk, q.w.cell? ⟨go, k, none⟩ = some (.string (x.outs[k]'hkl)) := fun q => (q.below.cell (p := ⟨go, k, none⟩) HSK.out.1).trans (by have h := HSK.out.2 k hkl; rw [Nat.zero_add] at h; exact h)
                have HY : Hid ((memS (x.outs[k]'hkl) os || memS (x.outs[k]'hkl) (x.outs.take k)) = true → outsBad os x.outs = true) := hide (outsBad_yes hkl)
                have HK1 : Hid (memS (x.outs[k]'hkl) os = false → memS (x.outs[k]'hkl) (x.outs.take k) = false → ∀ j (h : j < x.outs.length), j < k + 1 → memS x.outs[j] os = false ∧ memS x.outs[j] (x.outs.take j) = false) := hide (fun h1 h2 j h hj => by
                  by_cases e : j = k
                  · subst e; exact ⟨h1, h2⟩
                  · exact HAK.out j h (by omega))
                have HF4 : Hid (outsBad os x.outs = true → go9 l 0 [] [] [] = (4, (i : Int), [], [])) := hide (fun h => by rw [← HGO.out, HAT.out]; simp [step9, HAR.out, hm3, h])
                generalize x.outs[k]'hkl = ok at *
                cases m1 : memS ok os
                · cases m2 : memS ok (x.outs.take k)
                  · rw [m1] at H1
                    rw [m2] at H2
                    go_wp2_with fail
                    refine region_class (KB.w (w := wk)) (by kernel_rfl) (by kernel_rfl) ⟨⟨_, (Below.refl _ _).drew⟩, rfl⟩ ?_
                    repeat (go_big_quiet_step (first
                      | (go_at_call 16; with_reducible exact H1.out _)
                      | (go_at_call 16; with_reducible exact H2.out _)))
                    refine wpQuiet_nil ?_
                    rintro _ ⟨q, rfl⟩
                    have hq1 := hide (HBK.out.trans (q.below.mono HBK.out.size))
                    go_wp2
                    go_roundw
                    case rel => exact ⟨k + 1, by omega, by go_num, hq1.out, HK1.out m1 m2⟩
                    case measure => simp [intOf]; omega
                  · rw [m1] at H1
                    rw [m2] at H2
                    have HGF := hide (HF4.out (HY.out (by rw [m2]; simp)))
                    go_wp2_with fail
                    refine region_class (KB.w (w := wk)) (by kernel_rfl) (by kernel_rfl) ⟨⟨_, (Below.refl _ _).drew⟩, rfl⟩ ?_
                    repeat (go_big_quiet_step (first
                      | (go_at_call 16; with_reducible exact H1.out _)
                      | (go_at_call 16; with_reducible exact H2.out _)))
                    refine wpQuiet_nil ?_
                    rintro _ ⟨q, rfl⟩
                    have P4 := hide (P3.out.below q.below)
                    obtain ⟨⟨y0, y1, y2⟩, g0, g1, g2⟩ := P4.out.box
                    go_wp2
                    refine bodyPost_ret (v := .agg #[.int .i64 4, .int .i64 i, .slice none 0 0]) (by simp [results, Tryz.results5, go_sem, y0, y1, y2]) rfl ?_
                    rw [HRR.out _ _ _ _ (HGF.out)]
                    refine PlPost.no ?_
                    iterate 3 (refine Below.setCell ?_ (by show w.heap.size ≤ w.heap.size; exact Nat.le_refl _) _)
                    exact P4.out.out
                · rw [m1] at H1
                  have HGF := hide (HF4.out (HY.out (by rw [m1]; simp)))
                  go_wp2_with fail
                  refine region_class (KB.w (w := wk)) (by kernel_rfl) (by kernel_rfl) ⟨⟨_, (Below.refl _ _).drew⟩, rfl⟩ ?_
                  repeat (go_big_quiet_step (first
                    | (go_at_call 16; with_reducible exact H1.out _)
                    | (go_at_call 16; with_reducible exact H2.out _)))
                  refine wpQuiet_nil ?_
                  rintro _ ⟨q, rfl⟩
                  have P4 := hide (P3.out.below q.below)
                  obtain ⟨⟨y0, y1, y2⟩, g0, g1, g2⟩ := P4.out.box
                  go_wp2
                  refine bodyPost_ret (v := .agg #[.int .i64 4, .int .i64 i, .slice none 0 0]) (by simp [results, Tryz.results5, go_sem, y0, y1, y2]) rfl ?_
                  rw [HRR.out _ _ _ _ (HGF.out)]
                  refine PlPost.no ?_
                  iterate 3 (refine Below.setCell ?_ (by show w.heap.size ≤ w.heap.size; exact Nat.le_refl _) _)
                  exact P4.out.out
              · have hob := outsBad_no (fun j h => HAK.out j h (by omega))
                have HTW := hide (twice9_any x.ins (.slice pi ni qi) wk (by omega) (HCI.out.below hbk).cap)
                have e3 := X3.out.c3
                cases ht5 : twice x.ins
                · rw [ht5] at HTW
                  have HGF : Hid (go9 (l.drop (i + 1)) ((i + 1 : Nat) : Int) (ns ++ [x.name]) (os ++ x.outs) (lc.map Lc.t ++ [x.srt]) = go9 l 0 [] [] []) := hide (by rw [← HGO.out, HAT.out]; simp [step9, HAR.out, hm3, hob, ht5])
                  go_wp2_with fail
                  refine HTW.out.mono ?_
                  rintro e w5 ⟨rfl, hb5⟩
                  have hz15 : w1.heap.size ≤ w5.heap.size := Nat.le_trans hb2.size (Nat.le_trans r2.size (Nat.le_trans hbk.size hb5.size))
                  have hzo1 := hb1.size
                  have HNB : Hid (∀ b, (Value.slice p3 ns.length c3).ownBlock = some b → b < w1.heap.size) := hide (fun b hb => Nat.lt_of_lt_of_le (own_lt (P.out.S.own (.slice p3 ns.length c3, ns) (List.mem_cons_self ..)) hb).2 hzo1)
                  have HOB : Hid (∀ b, (Value.slice p4 os.length c4).ownBlock = some b → b < w1.heap.size) := hide (fun b hb => Nat.lt_of_lt_of_le (own_lt (P.out.S.own (.slice p4 os.length c4, os) (List.mem_cons_of_mem _ (List.mem_cons_self ..))) hb).2 hzo1)
                  have r5 : Below w5.heap.size w5 (w5.alloc (.cells #[.string x.name] 9)) := (Below.refl _ _).alloc (Nat.le_refl _) _
                  have X5 := hide (X3.out.below hb5)
                  have P5 := hide ((P3.out.below hb5).below r5)
                  have HO5 := hide ((HSK.out.below hb5).below r5)
                  have HI5 := hide (((HCI.out.below hbk).below hb5).below r5)
                  have X5a := hide (X5.out.below r5)
                  have n0 := X5.out.c0
                  have hzw := P3.out.z
                  have hzk := hb5.size
                  clear X3 HTW e3 e4 d0 d4
                  go_wp2_with (at_builtin; refine wpList_append_own_at _ rfl _ _ 41 rfl (w.heap.size + 1) 9 iS _ 1 16 Tryz.underlying41 hS hSz hSs hSb rfl (by decide) (.slice p3 ns.length c3) ns.length (cellsT ns) rfl (P5.out.S.own (.slice p3 ns.length c3, ns) (List.mem_cons_self ..)) ⟨w5.heap.size, 0, none⟩ 1 1 [.string x.name] rfl rfl (cell_one _ _ _) (by simp [Value.oneCell']) (by unfold maxLen; omega) (by omega) (by simp; omega) ?_)
                  intro v6 w6 ho6 hg6 _ hw6
                  rw [show cellsT ns ++ [Value.string x.name] = cellsT (ns ++ [x.name]) from by simp [cellsT], show ns.length + 1 = (ns ++ [x.name]).length from by simp] at ho6
                  have P6 := hide (P5.out.grow3 hg6 ho6 (by rw [World.size_alloc]; exact hw6))
                  have X6 := hide (X5a.out.grown hg6 (fun q hq => own_cells (P5.out.S.own (.slice p3 ns.length c3, ns) (List.mem_cons_self ..)) hq))
                  have HO6 := hide (HO5.out.heap (hg6.block go HO5.out.1 (fun e => by have := HNB.out go e.symm; omega)))
                  have HI6 := hide (HI5.out.grown hg6 (fun b hb => HNB.out b hb))
                  obtain ⟨p6, c6, e6⟩ : ∃ p c, v6 = .slice p (ns ++ [x.name]).length c := row_form ho6
                  subst e6
                  have hz6 := hg6.size
                  have hz6' : w5.heap.size < w6.heap.size := Nat.lt_of_lt_of_le (by simp) hg6.size
                  have n4 := X6.out.c4
                  clear ho6 hg6 hw6 P5 X5a HO5 HI5 n0 X5
                  go_wp2_with (at_builtin; refine wpList_append_own_at _ rfl _ _ 41 rfl (w.heap.size + 1) 9 iS _ 1 16 Tryz.underlying41 hS hSz hSs hSb rfl (by decide) (.slice p4 os.length c4) os.length (cellsT os) rfl (P6.out.S.own (.slice p4 os.length c4, os) (List.mem_cons_of_mem _ (List.mem_cons_self ..))) ⟨go, 0, none⟩ x.outs.length qo (cellsT x.outs) rfl (by simp [cellsT]) (cells_strs HO6.out) (one_strs _) (by unfold maxLen; omega) (by omega) (by omega) ?_)
                  intro v7 w7 ho7 hg7 _ hw7
                  rw [show cellsT os ++ cellsT x.outs = cellsT (os ++ x.outs) from by simp [cellsT], show os.length + x.outs.length = (os ++ x.outs).length from by simp] at ho7
                  have P7 := hide (P6.out.grow4 hg7 ho7 hw7)
                  have X7 := hide (X6.out.grown hg7 (fun q hq => own_cells (P6.out.S.own (.slice p4 os.length c4, os) (List.mem_cons_of_mem _ (List.mem_cons_self ..))) hq))
                  have HO7 := hide (HO6.out.heap (hg7.block go HO6.out.1 (fun e => by have := HOB.out go e.symm; omega)))
                  have HI7 := hide (HI6.out.grown hg7 (fun b hb => HOB.out b hb))
                  obtain ⟨p7, c7, e7⟩ : ∃ p c, v7 = .slice p (os ++ x.outs).length c := row_form ho7
                  subst e7
                  have hz7 := hg7.size
                  have n3 := X7.out.c3
                  clear ho7 hg7 hw7 P6 X6 HO6 HI6 n4
                  have HSI := hide (sort9_any x.ins (.slice pi ni qi) w7 (by omega) HI7.out.any)
                  go_wp2_with fail
                  refine HSI.out.mono ?_
                  rintro e w8 ⟨hb8, p8, c8, rfl, ho8⟩
                  have hzo := P.out.z
                  have hbx : w1.heap.size ≤ w2.heap.size := hb2.size
                  have X8 := hide (X7.out.below hb8)
                  have g8 := grown_set w8 w2.heap.size 3 (.slice p8 (sortS x.ins).length c8)
                  have k8 := X8.out.k
                  have HL5 : Hid (∀ b, (Value.slice p5 lc.length c5).ownBlock = some b → b ≠ w2.heap.size) := hide (fun b hb => by have := (own_lt P.out.L hb).2; omega)
                  have S8 := hide ((P7.out.S.new hb8 ho8 (by have := P7.out.z; omega)).other g8 (fun b hb => by cases hb; exact k8) (by decide))
                  have L8 := hide (row_keptY (row_belowY P7.out.L hb8) g8 (fun b hb e => by cases e; exact HL5.out _ hb rfl))
                  have B8 := hide ((P7.out.B.trans (hb8.mono P7.out.z)).setCell (p := ⟨w2.heap.size, 3, none⟩) (show w.heap.size + 1 ≤ w2.heap.size by omega) (.slice p8 (sortS x.ins).length c8))
                  have HO8 := hide ((HO7.out.below hb8).set ⟨w2.heap.size, 3, none⟩ (by show go ≠ w2.heap.size; omega) (.slice p8 (sortS x.ins).length c8))
                  have X8s := hide (X8.out.put3 (.slice p8 (sortS x.ins).length c8))
                  have m3 := X8.out.c3
                  have m3f := X8.out.f3
                  have m4 := X8s.out.c4
                  have hz8 := hb8.size
                  clear hb8 ho8 X7 X8 g8 k8 n3 P7 HO7 HI7 HSI
                  have HSJ := hide (sort9_any x.outs (.slice (some ⟨go, 0, none⟩) x.outs.length qo) _ (by omega) (.inr ⟨go, 0, qo, rfl, HO8.out⟩))
                  go_wp2_with fail
                  refine HSJ.out.mono ?_
                  rintro e w9 ⟨hb9, p9, c9, rfl, ho9⟩
                  have X9 := hide (X8s.out.below hb9)
                  have g9 := grown_set w9 w2.heap.size 4 (.slice p9 (sortS x.outs).length c9)
                  have k9 := X9.out.k
                  have hs8 : (w8.setCell ⟨w2.heap.size, 3, none⟩ (.slice p8 (sortS x.ins).length c8)).heap.size = w8.heap.size := by simp
                  have hz9 := hb9.size
                  rw [hs8] at hz9
                  have S9 := hide ((S8.out.new hb9 ho9 (by omega)).other g9 (fun b hb => by cases hb; exact k9) (by decide))
                  have L9 := hide (row_keptY (row_belowY L8.out hb9) g9 (fun b hb e => by cases e; exact HL5.out _ hb rfl))
                  have B9 := hide ((B8.out.trans (hb9.mono (by omega))).setCell (p := ⟨w2.heap.size, 4, none⟩) (show w.heap.size + 1 ≤ w2.heap.size by omega) (.slice p9 (sortS x.outs).length c9))
                  have X9s := hide (X9.out.put4 (.slice p9 (sortS x.outs).length c9))
                  have q4 := X9.out.c4
                  have q4f := X9.out.f4
                  have a0 := X9s.out.c0
                  have a1 := X9s.out.c1
                  have a2 := X9s.out.c2
                  have a3 := X9s.out.c3
                  have a4 := X9s.out.c4
                  have hs9 : (w9.setCell ⟨w2.heap.size, 4, none⟩ (.slice p9 (sortS x.outs).length c9)).heap.size = w9.heap.size := by simp
                  clear hb9 ho9 g9 k9 X8s S8 L8 B8 HO8 HSJ m3 m3f m4
                  go_wp2_with (at_builtin; refine wpList_append_own_at _ rfl _ _ 24 rfl (w.heap.size + 1) 49 iT _ 5 96 Tryz.underlying24 hT hTz hTs hTb rfl (by decide) (.slice p5 lc.length c5) lc.length (cellsG lc) rfl (L9.out.alloc _) ⟨w9.heap.size, 0, none⟩ 1 1 [.string x.name, .string x.tool, .string x.arg, .slice p8 (sortS x.ins).length c8, .slice p9 (sortS x.outs).length c9] rfl rfl (cells_five _ _ hs9 _ _ _ _ _ _) (by simp [Value.oneCell']) (by unfold maxLen; omega) (by omega) (by simp; omega) ?_)
                  intro v10 w10 ho10 hg10 _ hw10
                  have r9 : Below (w9.setCell ⟨w2.heap.size, 4, none⟩ (.slice p9 (sortS x.outs).length c9)).heap.size (w9.setCell ⟨w2.heap.size, 4, none⟩ (.slice p9 (sortS x.outs).length c9)) ((w9.setCell ⟨w2.heap.size, 4, none⟩ (.slice p9 (sortS x.outs).length c9)).alloc (.cells #[.string x.name, .string x.tool, .string x.arg, .slice p8 (sortS x.ins).length c8, .slice p9 (sortS x.outs).length c9] 49)) := (Below.refl _ _).alloc (Nat.le_refl _) _
                  have L9a := row_belowY L9.out r9
                  have P10 : Hid (PI w (ns ++ [x.name]) (os ++ x.outs) (.slice p6 (ns ++ [x.name]).length c6) (.slice p7 (os ++ x.outs).length c7) v10 (lc ++ [⟨x.srt, .slice p8 (sortS x.ins).length c8, .slice p9 (sortS x.outs).length c9⟩]) w10) := hide (by
                    refine ⟨?_, ?_, ?_, ?_⟩
                    · exact (B9.out.trans (r9.mono (by omega))).grown hg10 (by rw [World.size_alloc]; omega) (fun k hk => (own_lt L9a hk).1)
                    · have h := ((S9.out.below r9).other hg10 (fun b hb => own_cells L9a hb) (by decide)).perm (rows_perm _ _ _ _ _)
                      rw [show rowsG (lc ++ [⟨x.srt, .slice p8 (sortS x.ins).length c8, .slice p9 (sortS x.outs).length c9⟩]) = rowsG lc ++ [(.slice p8 (sortS x.ins).length c8, sortS x.ins), (.slice p9 (sortS x.outs).length c9, sortS x.outs)] from by simp [rowsG, Tg.srt]]
                      exact h
                    · rw [show cellsG (lc ++ [⟨x.srt, .slice p8 (sortS x.ins).length c8, .slice p9 (sortS x.outs).length c9⟩]) = cellsG lc ++ [.string x.name, .string x.tool, .string x.arg, .slice p8 (sortS x.ins).length c8, .slice p9 (sortS x.outs).length c9] from by simp [cellsG, Lc.cells, Tg.srt], List.length_append]
                      exact ho10
                    · have := hg10.size; rw [World.size_alloc] at this; omega)
                  have HG10 : Hid (go9 (l.drop (i + 1)) ((i + 1 : Nat) : Int) (ns ++ [x.name]) (os ++ x.outs) ((lc ++ ([⟨x.srt, .slice p8 (sortS x.ins).length c8, .slice p9 (sortS x.outs).length c9⟩] : List Lc)).map Lc.t) = go9 l 0 [] [] []) := hide (by rw [List.map_append]; exact HGF.out)
                  have hn10 : (ns ++ [x.name]).length ≤ i + 1 := by rw [List.length_append]; simp; omega
                  have ho11 : (os ++ x.outs).length ≤ 1000 * (i + 1) := by rw [List.length_append]; omega
                  have hl10 : (lc ++ [(⟨x.srt, .slice p8 (sortS x.ins).length c8, .slice p9 (sortS x.outs).length c9⟩ : Lc)]).length ≤ i + 1 := by rw [List.length_append]; simp; omega
                  clear ho10 hg10 hw10 S9 L9 B9 X9 X9s q4 q4f a0 a1 a2 a3 a4 r9 L9a
                  go_wp2
                  go_roundw
                  case rel => exact ⟨i + 1, _, _, _, by omega, hl10, hn10, ho11, by go_num, (by have h := P10.out; simp only [List.length_append, List.length_cons, List.length_nil, Nat.zero_add] at h; exact h), HG10.out⟩
                  case measure => simp [intOf]; omega
                · rw [ht5] at HTW
                  have HGF : Hid (go9 l 0 [] [] [] = (5, (i : Int), [], [])) := hide (by rw [← HGO.out, HAT.out]; simp [step9, HAR.out, hm3, hob, ht5])
                  go_wp2_with fail
                  refine HTW.out.mono ?_
                  rintro e w5 ⟨rfl, hb5⟩
                  have P4 := hide (P3.out.below hb5)
                  obtain ⟨⟨y0, y1, y2⟩, g0, g1, g2⟩ := P4.out.box
                  go_wp2
                  refine bodyPost_ret (v := .agg #[.int .i64 5, .int .i64 i, .slice none 0 0]) (by simp [results, Tryz.results5, go_sem, y0, y1, y2]) rfl ?_
                  rw [HRR.out _ _ _ _ (HGF.out)]
                  refine PlPost.no ?_
                  iterate 3 (refine Below.setCell ?_ (by show w.heap.size ≤ w.heap.size; exact Nat.le_refl _) _)
                  exact P4.out.out
          · rw [hm3] at HN
            have HGF : Hid (go9 l 0 [] [] [] = (3, (i : Int), [], [])) := hide (by rw [← HGO.out, HAT.out]; simp [step9, HAR.out, hm3])
            go_wp2_with fail
            refine HN.out.mono ?_
            rintro e w4 ⟨rfl, rfl⟩
            obtain ⟨⟨y0, y1, y2⟩, g0, g1, g2⟩ := P2.out.box
            go_wp2
            refine bodyPost_ret (v := .agg #[.int .i64 3, .int .i64 i, .slice none 0 0]) (by simp [results, Tryz.results5, go_sem, y0, y1, y2]) rfl ?_
            rw [HRR.out _ _ _ _ (HGF.out)]
            refine PlPost.no ?_
            iterate 3 (refine Below.setCell ?_ (by show w.heap.size ≤ w.heap.size; exact Nat.le_refl _) _)
            exact P2.out.out
    · have HGE : Hid (go9 l 0 [] [] [] = (0, 0, ns, lc.map Lc.t)) := hide (by rw [← HGO.out, show i = l.length from by omega, List.drop_length]; rfl)
      have HRE : Hid (r = (0, 0, (sortS ns).flatMap fun s => (lc.map Lc.t).filter fun x => decide (x.name = s))) := hide (HRR.out _ _ _ _ HGE.out)
      have HSN := hide (sort9_any ns (.slice p3 ns.length c3) wo (by omega) P.out.names)
      go_wp2_with fail
      refine HSN.out.mono ?_
      rintro e w1 ⟨hb1, ps, cs, rfl, hsr⟩
      have P1 := hide (P.out.below hb1)
      have HSV := hide (strsV_of_row hsr)
      have Q0 := hide (QI.start w1)
      have hsl := sortS_len ns
      clear hb1 hsr HSN HGE P HGO
      generalize sortS ns = sn at *
      go_wp2
      go_loopw [12] (fun q wx => ∃ (j : Nat) (vo : Value) (acc : List Lc), j ≤ sn.length ∧ q = .int .i64 j ∧ QI w1 vo acc wx ∧ (∀ p ∈ acc, p ∈ lc) ∧ acc.length ≤ j * 1048576 ∧ acc.map Lc.t = (sn.take j).flatMap (fun s => (lc.map Lc.t).filter fun x => decide (x.name = s))) (fun q _ => sn.length - (intOf q).toNat)
      case atStart => exact ⟨0, _, [], Nat.zero_le _, rfl, Q0.out, fun _ h => absurd h List.not_mem_nil, Nat.zero_le _, rfl⟩
      case round =>
        obtain ⟨j, vo, acc, hj, rfl, hQ, hsub, hacl, hacc⟩ := hrel
        have Q := hide hQ
        have HSB := hide hsub
        clear hsub
        have HAC := hide hacc
        obtain ⟨wj, hwj⟩ : ∃ x, x = wr := ⟨wr, rfl⟩
        subst hwj
        clear hQ hacc
        by_cases hjl : j < sn.length
        · obtain ⟨gs, os1, cs1, hvs, hss⟩ : ∃ gs os1 cs1, Value.slice ps sn.length cs = .slice (some ⟨gs, os1, none⟩) sn.length cs1 ∧ StrsO w1 gs os1 sn := by
            rcases HSV.out with ⟨_, _, _, e⟩ | h
            · rw [e] at hjl; exact absurd hjl (Nat.not_lt_zero _)
            · exact h
          simp only [Value.slice.injEq] at hvs
          obtain ⟨rfl, -, rfl⟩ := hvs
          have HSS := hide hss
          have HTJ : Hid ((sn.take (j + 1)).flatMap (fun s => (lc.map Lc.t).filter fun x => decide (x.name = s)) = (sn.take j).flatMap (fun s => (lc.map Lc.t).filter fun x => decide (x.name = s)) ++ (lc.map Lc.t).filter fun x => decide (x.name = sn[j]'hjl)) := hide (by rw [List.take_succ_eq_append_getElem hjl, List.flatMap_append]; simp)
          have HSJ := hide (hss.2 j hjl)
          clear hss
          generalize sn[j]'hjl = sj at *
          go_wp2
          go_loopw [13] (fun q wy => ∃ (k : Nat) (vk : Value) (ak : List Lc), k ≤ lc.length ∧ q = .int .i64 k ∧ QI w1 vk ak wy ∧ (∀ p ∈ ak, p ∈ lc) ∧ ak.length ≤ acc.length + k ∧ ak.map Lc.t = acc.map Lc.t ++ ((lc.take k).map Lc.t).filter (fun x => decide (x.name = sj))) (fun q _ => lc.length - (intOf q).toNat)
          case atStart => exact ⟨0, vo, acc, Nat.zero_le _, rfl, Q.out, HSB.out, Nat.le_refl _, by simp⟩
          case round =>
            obtain ⟨k, vk, ak, hk, rfl, hQk, hsk, hlk, hak⟩ := hrel
            have QK := hide hQk
            have HSK := hide hsk
            have HAK := hide hak
            obtain ⟨wk, hwk⟩ : ∃ x, x = wr := ⟨wr, rfl⟩
            subst hwk
            clear hQk hsk hak
            by_cases hkl : k < lc.length
            · obtain ⟨g5, e5⟩ : ∃ g5, p5 = some ⟨g5, 0, none⟩ := by
                rcases P1.out.L.2 with ⟨h1, _⟩ | ⟨g5, _, _, h1, _⟩
                · simp only [Value.slice.injEq] at h1; omega
                · simp only [Value.slice.injEq] at h1; exact ⟨g5, h1.1⟩
              subst e5
              have hg5 := (P1.out.L.lt g5 rfl).2
              have hQB := QK.out.B
              have HCL := hide (fun W (hb : Below w1.heap.size w1 W) (o : Nat) => hb.cell (p := ⟨g5, o, none⟩) hg5)
              have hat := cellsG_at lc k hkl
              have l0 : wk.cell? ⟨g5, k * 5, none⟩ = some (.string (lc[k]'hkl).t.name) := (HCL.out _ hQB _).trans ((P1.out.L.cellAt _ (by omega)).trans hat.1)
              have hsj0 : wk.cell? ⟨gs, os1 + j, none⟩ = some (.string sj) := (hQB.cell (p := ⟨gs, os1 + j, none⟩) HSS.out.1).trans HSJ.out
              haveI hne3 : Nonempty (KB wk) := ⟨⟨_, Below.refl _ _⟩⟩
              have fl : ∀ q : KB wk, q.w.cell? ⟨g5, k * 5, none⟩ = some (.string (lc[k]'hkl).t.name) := fun q => (q.below.cell (p := ⟨g5, k * 5, none⟩) (Nat.lt_of_lt_of_le hg5 hQB.size)).trans l0
              have fs : ∀ q : KB wk, q.w.cell? ⟨gs, os1 + j, none⟩ = some (.string sj) := fun q => (q.below.cell (p := ⟨gs, os1 + j, none⟩) (Nat.lt_of_lt_of_le HSS.out.1 hQB.size)).trans hsj0
              have HTK : Hid (((lc.take (k + 1)).map Lc.t).filter (fun x => decide (x.name = sj)) = ((lc.take k).map Lc.t).filter (fun x => decide (x.name = sj)) ++ [(lc[k]'hkl).t].filter (fun x => decide (x.name = sj))) := hide (by rw [List.take_succ_eq_append_getElem hkl, List.map_append, List.filter_append]; rfl)
              have hmem : lc[k]'hkl ∈ lc := List.getElem_mem _
              generalize lc[k]'hkl = pk at *
              have hbe := ba_eq pk.t.name sj
              clear l0 hsj0
              by_cases hnm : pk.t.name = sj
              · rw [decide_eq_true hnm] at hbe
                have HF : Hid ((ak ++ [pk]).map Lc.t = acc.map Lc.t ++ ((lc.take (k + 1)).map Lc.t).filter (fun x => decide (x.name = sj))) := hide (by rw [HTK.out, List.map_append, HAK.out]; simp [hnm])
                obtain ⟨⟨pi, ni, qi, ei⟩, po', no', qo', eo'⟩ := rows_form P1.out.S hmem
                have HM1 := hide (fun W (hb : Below w1.heap.size w1 W) => And.intro ((HCL.out W hb (k * 5 + 1)).trans ((P1.out.L.cellAt _ (by omega)).trans hat.2.1)) (And.intro ((HCL.out W hb (k * 5 + 2)).trans ((P1.out.L.cellAt _ (by omega)).trans hat.2.2.1)) (And.intro ((HCL.out W hb (k * 5 + 3)).trans ((P1.out.L.cellAt _ (by omega)).trans hat.2.2.2.1)) ((HCL.out W hb (k * 5 + 4)).trans ((P1.out.L.cellAt _ (by omega)).trans hat.2.2.2.2)))))
                have HPK : Hid (pk.cells = [.string pk.t.name, .string pk.t.tool, .string pk.t.arg, .slice pi ni qi, .slice po' no' qo']) := hide (by unfold Lc.cells; rw [ei, eo'])
                rw [ei, eo'] at HM1
                have HMK : Hid (∀ p ∈ ak ++ [pk], p ∈ lc) := hide (fun p hp => by rcases List.mem_append.1 hp with h | h; exact HSK.out p h; rw [List.mem_singleton] at h; rw [h]; exact hmem)
                obtain ⟨pv, cv, ev⟩ : ∃ p c, vk = .slice p ak.length c := row_form QK.out.R
                subst ev
                go_wp2_with fail
                refine region_class (KB.w (w := wk)) (by kernel_rfl) (by kernel_rfl) ⟨⟨_, (Below.refl _ _).drew⟩, rfl⟩ ?_
                repeat (go_big_quiet_step (fail))
                refine wpQuiet_nil ?_
                rintro _ ⟨q, rfl⟩
                obtain ⟨wq, hwq⟩ : ∃ x, x = q.w := ⟨_, rfl⟩
                have hq2 : Below wk.heap.size wk wq := hwq ▸ q.below
                rw [← hwq]
                have QQ := hide (QK.out.below hq2)
                have hqb := QQ.out.B
                have b0 : wq.cell? ⟨g5, k * 5, none⟩ = some (.string pk.t.name) := by rw [hwq]; exact fl q
                obtain ⟨b1, b2, b3, b4⟩ := HM1.out wq hqb
                have z2 := QQ.out.c2
                clear fl fs hne3 hwq hnm hbe
                have A5 : Below wq.heap.size wq (wq.alloc (.cells #[.string pk.t.name, .string pk.t.tool, .string pk.t.arg, .slice pi ni qi, .slice po' no' qo'] 49)) := (Below.refl _ _).alloc (Nat.le_refl _) _
                have Q5 := hide ((QQ.out.below A5).below (Below.refl _ _).drew)
                have hzq := QQ.out.z
                have z5 := Q5.out.c2
                have f5 := Q5.out.f2
                go_wp2_with fail
                go_region_law ((refine step_append_own rfl (.tmp 131) (.tmp 136) 24 rfl (w1.heap.size + 1) 49 iT _ 5 96 Tryz.underlying24 hT hTz hTs hTb rfl (by decide) (.slice pv ak.length cv) ak.length (cellsG ak) (by simp [Act.eval]) Q5.out.R ⟨wq.heap.size, 0, none⟩ 1 1 [.string pk.t.name, .string pk.t.tool, .string pk.t.arg, .slice pi ni qi, .slice po' no' qo'] (by simp [Act.eval]) rfl (fun j u hu => cells_five wq _ rfl _ _ _ _ _ _ j u hu) (by simp [Value.oneCell']) (by unfold maxLen; omega) (by omega) (by have := Q5.out.z; omega) ?_; intro v6 w6 h1 h2 h3 h4; obtain ⟨p6, c6, rfl⟩ := row_form h1; have q6 := Q5.out.app h2; have z6 := q6.2.2.2.1; have f6 := q6.2.2.2.2.1))
                all_goals
                  have e7 : cellsG ak ++ [.string pk.t.name, .string pk.t.tool, .string pk.t.arg, .slice pi ni qi, .slice po' no' qo'] = cellsG (ak ++ [pk]) := by rw [← HPK.out]; simp [cellsG]
                  rw [e7] at h1
                  have h1' : w6.ownsRow (w1.heap.size + 1) 49 5 (.slice p6 (ak.length + 1) c6) (ak ++ [pk]).length (cellsG (ak ++ [pk])) := by rw [List.length_append]; exact h1
                  have Q7 := hide (QI.put q6 h1')
                  clear h1 h1' h2 h3 h4 q6 z6 f6 e7
                  go_wp2
                  go_roundw
                  case rel => exact ⟨k + 1, _, ak ++ [pk], by omega, by go_num, Q7.out, HMK.out, by rw [List.length_append]; simp; omega, HF.out⟩
                  case measure => simp [intOf]; omega
              · rw [decide_eq_false hnm] at hbe
                have HF : Hid (ak.map Lc.t = acc.map Lc.t ++ ((lc.take (k + 1)).map Lc.t).filter (fun x => decide (x.name = sj))) := hide (by rw [HTK.out, HAK.out]; simp [hnm])
                go_wp2_with fail
                refine region_class (KB.w (w := wk)) (by kernel_rfl) (by kernel_rfl) ⟨⟨_, (Below.refl _ _).drew⟩, rfl⟩ ?_
                repeat (go_big_quiet_step (fail))
                refine wpQuiet_nil ?_
                rintro _ ⟨q, rfl⟩
                have QQ := hide (QK.out.below q.below)
                go_wp2
                go_roundw
                case rel => exact ⟨k + 1, vk, ak, by omega, by go_num, QQ.out, HSK.out, by omega, HF.out⟩
                case measure => simp [intOf]; omega
            · have HF : Hid (ak.map Lc.t = (sn.take (j + 1)).flatMap (fun s => (lc.map Lc.t).filter fun x => decide (x.name = s))) := hide (by rw [HTJ.out, HAK.out, HAC.out, List.take_of_length_le (show lc.length ≤ k by omega)])
              go_wp2
              go_roundw
              case rel => exact ⟨j + 1, vk, ak, by omega, by go_num, QK.out, HSK.out, by omega, HF.out⟩
              case measure => simp [intOf]; omega
        · obtain ⟨po, co, eo⟩ : ∃ p c, vo = .slice p acc.length c := row_form Q.out.R
          subst eo
          have P2 := hide (P1.out.below Q.out.B)
          obtain ⟨⟨y0, y1, y2⟩, g0, g1, g2⟩ := P2.out.box
          have z0 := Q.out.c0
          have z1 := Q.out.c1
          have z2 := Q.out.c2
          have hzw := P1.out.z
          have HFN : Hid (acc.map Lc.t = sn.flatMap (fun s => (lc.map Lc.t).filter fun x => decide (x.name = s))) := hide (by rw [HAC.out, List.take_of_length_le (by omega)])
          go_wp2
          refine bodyPost_ret (v := .agg #[.int .i64 0, .int .i64 0, .slice po acc.length co]) (by simp [results, Tryz.results5, go_sem, y0, y1, y2]) rfl ?_
          rw [HRE.out, ← HFN.out]
          refine ⟨?_, _, rfl, ?_⟩
          · iterate 3 (refine Below.setCell ?_ (by show w.heap.size ≤ w.heap.size; exact Nat.le_refl _) _)
            exact P2.out.out
          · refine tgs_of (B := w1.heap.size + 1) ?_ (fun p hp => ?_)
            · iterate 3 (refine row_set ?_ (by omega))
              exact Q.out.R
            · have h := rows_mem P2.out.S (HSB.out p hp)
              constructor
              · refine StrsH.any (B := w.heap.size + 1) ?_
                iterate 3 (refine strsV_set ?_ (Nat.lt_succ_self _))
                exact h.1
              · refine StrsH.any (B := w.heap.size + 1) ?_
                iterate 3 (refine strsV_set ?_ (Nat.lt_succ_self _))
                exact h.2
end Go.Proofs.YtmpjdooepdicoaaGreatDoor.Vl
