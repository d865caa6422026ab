/- Walks: a value spoilt: l5Spoil. -/
import Derived.Test.YtfpdoafpimaoaaaDj
namespace Go.Proofs.Ytfpdoafpimaoaaa.Vl
open Go.RowKit T.atoms T.ok T.high T.good T.allPlain

/-- What a spoiled draw does. -/
def SpoilPost (rb : Nat) (vb : Value) (n p k m : Nat) (w : World) (e : Ending) (w' : World) : Prop := ∃ g c l q, e = .returned (.agg #[.slice (some ⟨g, 0, none⟩) l.length c]) ∧ l.length ≤ c ∧ l.length ≤ m ∧ w.heap.size ≤ g ∧ AtomsO w' g 0 l ∧ q ≤ p + k ∧ Rd w' rb vb n q ∧ Dr rb w w'
/-- l5Spoil's boxes and its row, in a later world. -/
structure SB (rb : Nat) (vb : Value) (n : Nat) (w : World) (q ox ga m ca : Nat) (xs : List Value) (W : World) : Prop where
  R : Rd W rb vb n q
  D : Dr rb w W
  rc : W.cell? ⟨w.heap.size + 1, 0, none⟩ = some (.slice none 0 0)
  rf : W.frozen? ⟨w.heap.size + 1, 0, none⟩ = false
  oc : W.cell? ⟨ox, 0, none⟩ = some (.slice (some ⟨ga, 0, none⟩) m ca)
  of : W.frozen? ⟨ox, 0, none⟩ = false
  row : W.ownsRow (w.heap.size + 1 + 1) 55 4 (.slice (some ⟨ga, 0, none⟩) m ca) m xs
  l : rb < w.heap.size
  o1 : w.heap.size + 1 < ox
  o2 : ox < W.heap.size
  ne : ga ≠ ox
theorem SB.lt {rb n q ox ga m ca : Nat} {vb : Value} {w W : World} {xs : List Value} (h : SB rb vb n w q ox ga m ca xs W) : w.heap.size + 1 + 1 ≤ ga ∧ ga < W.heap.size := h.row.lt ga rfl
theorem SB.frame {rb n q q' ox ga m ca : Nat} {vb : Value} {w W W' : World} {xs : List Value} (h : SB rb vb n w q ox ga m ca xs W) (hr : Rd W' rb vb n q') (hd : Dr rb w W') (hs : W.heap.size ≤ W'.heap.size) (h1 : W'.heap[w.heap.size + 1]? = W.heap[w.heap.size + 1]?) (h2 : W'.heap[ox]? = W.heap[ox]?) (h3 : W'.heap[ga]? = W.heap[ga]?) : SB rb vb n w q' ox ga m ca xs W' :=
  ⟨hr, hd, (World.cell?_of_block (a := ⟨w.heap.size + 1, 0, none⟩) h1).trans h.rc, (World.frozen?_of_block (a := ⟨w.heap.size + 1, 0, none⟩) h1).trans h.rf, (World.cell?_of_block (a := ⟨ox, 0, none⟩) h2).trans h.oc, (World.frozen?_of_block (a := ⟨ox, 0, none⟩) h2).trans h.of, row_sameZ h.row h3, h.l, h.o1, Nat.lt_of_lt_of_le h.o2 hs, h.ne⟩
theorem SB.dr {rb n q q' ox ga m ca : Nat} {vb : Value} {w W W' : World} {xs : List Value} (h : SB rb vb n w q ox ga m ca xs W) (hd : Dr rb W W') (hr : Rd W' rb vb n q') : SB rb vb n w q' ox ga m ca xs W' := by
  have := h.lt
  have := h.l
  have := h.o1
  have := h.o2
  exact h.frame hr (h.D.trans hd) hd.size (hd.block _ (by omega) (by omega)) (hd.block _ (by omega) (by omega)) (hd.block _ (by omega) (by omega))
theorem SB.below {rb n q ox ga m ca : Nat} {vb : Value} {w W W' : World} {xs : List Value} (h : SB rb vb n w q ox ga m ca xs W) (hb : Below W.heap.size W W') : SB rb vb n w q ox ga m ca xs W' := h.dr (Dr.of hb) (h.R.keep hb)
/-- A cell of another box set. -/
theorem SB.set {rb n q ox ga m ca xb o : Nat} {vb v : Value} {w W : World} {xs : List Value} (h : SB rb vb n w q ox ga m ca xs W) (h1 : w.heap.size + 1 < xb) (h2 : xb ≠ ox) (h3 : xb ≠ ga) : SB rb vb n w q ox ga m ca xs (W.setCell ⟨xb, o, none⟩ v) := by
  have hl := h.l
  have e : ∀ b, b ≠ xb → (W.setCell ⟨xb, o, none⟩ v).heap[b]? = W.heap[b]? := fun b hb => Below.heap_setCell _ _ _ _ hb
  have hs : (W.setCell ⟨xb, o, none⟩ v).heap.size = W.heap.size := by simp
  have hb := (h.D)
  refine h.frame (h.R.far (fun b hb => e b (by omega))) ⟨hb.os, hb.tape, hb.output, by rw [hs]; exact hb.size, fun b h4 h5 => (e b (by omega)).trans (hb.block b h4 h5)⟩ (by rw [hs]; exact Nat.le_refl _) (e _ (by omega)) (e _ (by omega)) (e _ (by omega))
/-- An atom in a box. -/
structure XB (xb : Nat) (x : At) (W : World) : Prop where
  c0 : W.cell? ⟨xb, 0, none⟩ = some (.int .i64 x.kind)
  c1 : W.cell? ⟨xb, 1, none⟩ = some (.int .i64 x.n)
  c2 : W.cell? ⟨xb, 2, none⟩ = some (.string x.text)
  c3 : W.cell? ⟨xb, 3, none⟩ = some (.int .i64 x.kids)
  f : ∀ o, W.frozen? ⟨xb, o, none⟩ = false
theorem XB.same {xb : Nat} {x : At} {W W' : World} (h : XB xb x W) (hb : W'.heap[xb]? = W.heap[xb]?) : XB xb x W' :=
  ⟨(World.cell?_of_block (a := ⟨xb, 0, none⟩) hb).trans h.c0, (World.cell?_of_block (a := ⟨xb, 1, none⟩) hb).trans h.c1, (World.cell?_of_block (a := ⟨xb, 2, none⟩) hb).trans h.c2, (World.cell?_of_block (a := ⟨xb, 3, none⟩) hb).trans h.c3, fun o => (World.frozen?_of_block (a := ⟨xb, o, none⟩) hb).trans (h.f o)⟩
theorem XB.lt {xb : Nat} {x : At} {W : World} (h : XB xb x W) : xb < W.heap.size := World.block_lt_of_cell? W ⟨xb, 0, none⟩ h.c0
theorem XB.new (X : World) (a b d : Int) (c : ByteArray) (t : TypeId) : XB X.heap.size ⟨a, b, c, d⟩ (X.alloc (.cells #[.int .i64 a, .int .i64 b, .string c, .int .i64 d] t)) :=
  ⟨by simp, by simp, by simp, by simp, fun o => by simp⟩
theorem XB.set0 {xb : Nat} {x : At} {W : World} (h : XB xb x W) (z : Int) : XB xb ⟨z, x.n, x.text, x.kids⟩ (W.setCell ⟨xb, 0, none⟩ (.int .i64 z)) :=
  ⟨World.cell?_setCell_same _ _ _ h.c0, (World.cell?_setCell_other _ _ _ _ (by simp)).trans h.c1, (World.cell?_setCell_other _ _ _ _ (by simp)).trans h.c2, (World.cell?_setCell_other _ _ _ _ (by simp)).trans h.c3, fun o => by simpa using h.f o⟩
theorem XB.set1 {xb : Nat} {x : At} {W : World} (h : XB xb x W) (z : Int) : XB xb ⟨x.kind, z, x.text, x.kids⟩ (W.setCell ⟨xb, 1, none⟩ (.int .i64 z)) :=
  ⟨(World.cell?_setCell_other _ _ _ _ (by simp)).trans h.c0, World.cell?_setCell_same _ _ _ h.c1, (World.cell?_setCell_other _ _ _ _ (by simp)).trans h.c2, (World.cell?_setCell_other _ _ _ _ (by simp)).trans h.c3, fun o => by simpa using h.f o⟩
theorem XB.set2 {xb : Nat} {x : At} {W : World} (h : XB xb x W) (z : ByteArray) : XB xb ⟨x.kind, x.n, z, x.kids⟩ (W.setCell ⟨xb, 2, none⟩ (.string z)) :=
  ⟨(World.cell?_setCell_other _ _ _ _ (by simp)).trans h.c0, (World.cell?_setCell_other _ _ _ _ (by simp)).trans h.c1, World.cell?_setCell_same _ _ _ h.c2, (World.cell?_setCell_other _ _ _ _ (by simp)).trans h.c3, fun o => by simpa using h.f o⟩
theorem XB.set3 {xb : Nat} {x : At} {W : World} (h : XB xb x W) (z : Int) : XB xb ⟨x.kind, x.n, x.text, z⟩ (W.setCell ⟨xb, 3, none⟩ (.int .i64 z)) :=
  ⟨(World.cell?_setCell_other _ _ _ _ (by simp)).trans h.c0, (World.cell?_setCell_other _ _ _ _ (by simp)).trans h.c1, (World.cell?_setCell_other _ _ _ _ (by simp)).trans h.c2, World.cell?_setCell_same _ _ _ h.c3, fun o => by simpa using h.f o⟩
theorem cells_split (l : List At) (k : Nat) (hk : k < l.length) : cellsOf l = cellsOf (l.take k) ++ .int .i64 l[k].kind :: .int .i64 l[k].n :: .string l[k].text :: .int .i64 l[k].kids :: cellsOf (l.drop (k + 1)) := by
  conv => lhs; rw [← List.take_append_drop k l, List.drop_eq_getElem_cons hk]
  rw [← cells_app]
  rfl
/-- The row with one atom set anew. -/
theorem row_set4 {W : World} {B g c k : Nat} {l : List At} (x : At) (hk : k < l.length) (hr : W.ownsRow B 55 4 (.slice (some ⟨g, 0, none⟩) l.length c) l.length (cellsOf l)) :
    ((((W.setCell ⟨g, k * 4, none⟩ (.int .i64 x.kind)).setCell ⟨g, k * 4 + 1, none⟩ (.int .i64 x.n)).setCell ⟨g, k * 4 + 2, none⟩ (.string x.text)).setCell ⟨g, k * 4 + 3, none⟩ (.int .i64 x.kids)).ownsRow B 55 4 (.slice (some ⟨g, 0, none⟩) l.length c) l.length (cellsOf (l.set k x)) := by
  have hml : (cellsOf (l.take k)).length = k * 4 := by rw [cellsOf_len, List.length_take]; congr 1; omega
  have e2 : cellsOf (l.set k x) = cellsOf (l.take k) ++ .int .i64 x.kind :: .int .i64 x.n :: .string x.text :: .int .i64 x.kids :: cellsOf (l.drop (k + 1)) := by
    rw [List.set_eq_take_append_cons_drop, if_pos hk, ← cells_app]
    rfl
  rw [cells_split l k hk] at hr
  have t0 := (hr.stored (k * 4) (.int .i64 x.kind)).1
  rw [set4_0 _ _ _ _ _ _ _ _ hml] at t0
  have t1 := (t0.stored (k * 4 + 1) (.int .i64 x.n)).1
  rw [set4_1 _ _ _ _ _ _ _ _ hml] at t1
  have t2 := (t1.stored (k * 4 + 2) (.string x.text)).1
  rw [set4_2 _ _ _ _ _ _ _ _ hml] at t2
  have t3 := (t2.stored (k * 4 + 3) (.int .i64 x.kids)).1
  rw [set4_3 _ _ _ _ _ _ _ _ hml] at t3
  rw [e2]
  exact t3
theorem SB.put4 {rb n q ox ga ca k : Nat} {vb : Value} {w W : World} {l : List At} (x : At) (h : SB rb vb n w q ox ga l.length ca (cellsOf l) W) (hk : k < l.length) : SB rb vb n w q ox ga l.length ca (cellsOf (l.set k x)) ((((W.setCell ⟨ga, k * 4, none⟩ (.int .i64 x.kind)).setCell ⟨ga, k * 4 + 1, none⟩ (.int .i64 x.n)).setCell ⟨ga, k * 4 + 2, none⟩ (.string x.text)).setCell ⟨ga, k * 4 + 3, none⟩ (.int .i64 x.kids)) := by
  have hl := h.l
  have hlt := h.lt
  have hne := h.ne
  have e : ∀ b, b ≠ ga → ((((W.setCell ⟨ga, k * 4, none⟩ (.int .i64 x.kind)).setCell ⟨ga, k * 4 + 1, none⟩ (.int .i64 x.n)).setCell ⟨ga, k * 4 + 2, none⟩ (.string x.text)).setCell ⟨ga, k * 4 + 3, none⟩ (.int .i64 x.kids)).heap[b]? = W.heap[b]? := fun b hb => (((Below.heap_setCell _ _ _ _ hb).trans (Below.heap_setCell _ _ _ _ hb)).trans (Below.heap_setCell _ _ _ _ hb)).trans (Below.heap_setCell _ _ _ _ hb)
  have hs : ((((W.setCell ⟨ga, k * 4, none⟩ (.int .i64 x.kind)).setCell ⟨ga, k * 4 + 1, none⟩ (.int .i64 x.n)).setCell ⟨ga, k * 4 + 2, none⟩ (.string x.text)).setCell ⟨ga, k * 4 + 3, none⟩ (.int .i64 x.kids)).heap.size = W.heap.size := by simp
  have hr := row_set4 x hk h.row
  have hb := h.D
  exact ⟨h.R.far (fun b hb => e b (by omega)), ⟨hb.os, hb.tape, hb.output, by rw [hs]; exact hb.size, fun b h4 h5 => (e b (by omega)).trans (hb.block b h4 h5)⟩, (World.cell?_of_block (a := ⟨w.heap.size + 1, 0, none⟩) (e (w.heap.size + 1) (by omega))).trans h.rc, (World.frozen?_of_block (a := ⟨w.heap.size + 1, 0, none⟩) (e (w.heap.size + 1) (by omega))).trans h.rf, (World.cell?_of_block (a := ⟨ox, 0, none⟩) (e _ (fun q => hne q.symm))).trans h.oc, (World.frozen?_of_block (a := ⟨ox, 0, none⟩) (e _ (fun q => hne q.symm))).trans h.of, hr, hl, h.o1, by rw [hs]; exact h.o2, hne⟩
theorem SB.grow {rb n q ox ga m ca g' m' c' : Nat} {vb : Value} {w W W' : World} {xs xs' : List Value} (h : SB rb vb n w q ox ga m ca xs W) (hg : W.grownBy W' (some ga)) (ho : W'.ownsRow (w.heap.size + 1 + 1) 55 4 (.slice (some ⟨g', 0, none⟩) m' c') m' xs') (h4 : some g' = some ga ∨ some g' = some W.heap.size) : W'.cell? ⟨ox, 0, none⟩ = some (.slice (some ⟨ga, 0, none⟩) m ca) ∧ W'.frozen? ⟨ox, 0, none⟩ = false ∧ SB rb vb n w q ox g' m' c' xs' (W'.setCell ⟨ox, 0, none⟩ (.slice (some ⟨g', 0, none⟩) m' c')) := by
  have hl := h.l
  have hlt := h.lt
  have hne := h.ne
  have ho1 := h.o1
  have ho2 := h.o2
  have hb : Below (w.heap.size + 1 + 1) W W' := (Below.refl _ _).grown hg (by omega) (fun q hq => by cases hq; omega)
  have hx := hg.block ox ho2 (fun e => by cases e; exact hne rfl)
  have k1 := (World.cell?_of_block (a := ⟨ox, 0, none⟩) hx).trans h.oc
  have k2 := (World.frozen?_of_block (a := ⟨ox, 0, none⟩) hx).trans h.of
  have hgx : g' ≠ ox := by
    rcases h4 with e | e
    · cases e; exact hne
    · cases e; omega
  have e : ∀ b, b ≠ ox → (W'.setCell ⟨ox, 0, none⟩ (.slice (some ⟨g', 0, none⟩) m' c')).heap[b]? = W'.heap[b]? := fun b hb => Below.heap_setCell _ _ _ _ hb
  have hs : (W'.setCell ⟨ox, 0, none⟩ (.slice (some ⟨g', 0, none⟩) m' c')).heap.size = W'.heap.size := by simp
  have hD := h.D
  have hr1 := (e (w.heap.size + 1) (by omega)).trans (hb.block (w.heap.size + 1) (by omega))
  refine ⟨k1, k2, (h.R.far (fun b hb' => (e b (by omega)).trans (hb.block b (by omega)))), ⟨hb.os.trans hD.os, hb.tape.trans hD.tape, hb.output.trans hD.output, by rw [hs]; exact Nat.le_trans hD.size hb.size, fun b h5 h6 => ((e b (by omega)).trans (hb.block b (by omega))).trans (hD.block b h5 h6)⟩, (World.cell?_of_block (a := ⟨w.heap.size + 1, 0, none⟩) hr1).trans h.rc, (World.frozen?_of_block (a := ⟨w.heap.size + 1, 0, none⟩) hr1).trans h.rf, World.cell?_setCell_same _ _ _ k1, by simpa using k2, row_sameZ ho (e g' hgx), hl, ho1, by rw [hs]; have := hb.size; omega, hgx⟩
theorem row_some {w : World} {base : Nat} {e : TypeId} {size n : Nat} {v : Value} {xs : List Value} (h : w.ownsRow base e size v n xs) (hn : ¬ v = .slice none 0 0) : ∃ g c, v = .slice (some ⟨g, 0, none⟩) n c := by
  rcases h.2 with ⟨h1, _⟩ | ⟨g, c, _, h1, _⟩
  · exact absurd h1 hn
  · exact ⟨_, _, h1⟩
theorem SB.take {rb n q ox ga m ca k : Nat} {vb : Value} {w W : World} {xs : List Value} (h : SB rb vb n w q ox ga m ca xs W) (hk : k ≤ m) : W.ownsRow (w.heap.size + 1 + 1) 55 4 (.slice (some ⟨ga, 0, none⟩) k ca) k (xs.take (k * 4)) := row_take h.row k hk

theorem SB.fin {rb n p q k m ox ga mm ca : Nat} {vb : Value} {w W : World} {l : List At} (h : SB rb vb n w q ox ga mm ca (cellsOf l) W) (hm : mm = l.length) (hq : q ≤ p + k) (hl : l.length ≤ m) (v : Value) : SpoilPost rb vb n p k m w (.returned (.agg #[.slice (some ⟨ga, 0, none⟩) mm ca])) (W.setCell ⟨w.heap.size + 1, 0, none⟩ v) := by
  subst hm
  have hl2 := h.l
  have hlt := h.lt
  have e : ∀ b, b ≠ w.heap.size + 1 → (W.setCell ⟨w.heap.size + 1, 0, none⟩ v).heap[b]? = W.heap[b]? := fun b hb => Below.heap_setCell _ _ _ _ hb
  have hs : (W.setCell ⟨w.heap.size + 1, 0, none⟩ v).heap.size = W.heap.size := by simp
  have hb := h.D
  have hc : l.length ≤ ca := by
    rcases h.row.2 with ⟨h, _⟩ | ⟨_, _, _, h, _, _, hle, _⟩
    · cases h
    · simp only [Value.slice.injEq] at h; rw [h.2.2]; exact hle
  exact ⟨ga, ca, l, q, rfl, hc, hl, by omega, AtomsO.heap (atoms_of_row h.row) (e ga (by omega)), hq, h.R.far (fun b hb => e b (by omega)), ⟨hb.os, hb.tape, hb.output, by rw [hs]; exact hb.size, fun b h4 h5 => (e b (by omega)).trans (hb.block b h4 h5)⟩⟩

set_option maxRecDepth 100000 in
set_option maxHeartbeats 4000000 in
theorem spoil_any (rb n p g cg : Nat) (vb : Value) (l : List At) (w : World) (h : Rd w rb vb n p) (hp : p ≤ 900000000) (ha : AtomsO w g 0 l) (hl : 0 < l.length) (hl2 : l.length ≤ 5000) :
    Calls Try.prog 40 #[.pointer (some ⟨rb, 0, none⟩), .agg #[.slice (some ⟨g, 0, none⟩) l.length cg]] w fun e w' => SpoilPost rb vb n p 10 (l.length + 1) w e w' := by
  have HP := hide (fun p w (h : Rd w rb vb n p) (hp : p ≤ 1000000000) m (h1 : 1 ≤ m) (h2 : m ≤ 1000000) => pick_any rb n p vb m w h hp h1 h2)
  obtain ⟨iN, hN, hNz, hNs, hNb⟩ := info_parts Try.infoAt
  have b3 : Below w.heap.size w (((w.alloc (.cells #[.slice (some ⟨g, 0, none⟩) l.length cg] 25)).alloc (.cells #[.slice none 0 0] 25)).alloc (.cells #[] 55)) := (((Below.refl _ _).alloc (Nat.le_refl _) _).alloc (by simp) _).alloc (by simp; omega) _
  have HA := hide (ha.below b3)
  have r0 : (((w.alloc (.cells #[.slice (some ⟨g, 0, none⟩) l.length cg] 25)).alloc (.cells #[.slice none 0 0] 25)).alloc (.cells #[] 55)).ownsRow (w.heap.size + 1 + 1) 55 4 (.slice (some ⟨w.heap.size + 1 + 1, 0, none⟩) 0 0) 0 [] := by
    have hr := World.ownsRow_lit (base := w.heap.size + 1 + 1) (e := 55) (size := 4) ((w.alloc (.cells #[.slice (some ⟨g, 0, none⟩) l.length cg] 25)).alloc (.cells #[.slice none 0 0] 25)) #[] 0 (by simp) (Nat.zero_le _) rfl
    simpa using hr
  have HR0 := hide r0
  clear r0
  go_enter Try.func40, Try.ntmps40
  go_wp2_with (at_builtin; refine wpList_append_own_at _ rfl _ _ 23 rfl (w.heap.size + 1 + 1) 55 iN _ 4 40 Try.underlying23 hN hNz hNs hNb rfl (by decide) (.slice (some ⟨w.heap.size + 1 + 1, 0, none⟩) 0 0) 0 [] rfl HR0.out ⟨g, 0, none⟩ l.length cg (cellsOf l) rfl (cellsOf_len _) (cells_news HA.out) (cells_one _) (by unfold maxLen; omega) (by omega) (by simp) ?_)
  intro v5 w5 h1 h2 h3 h4
  obtain ⟨ga, ca, rfl⟩ := row_posD h1 (by omega)
  have hga := (h1.lt ga rfl).1
  have hga2 := (h1.lt ga rfl).2
  have hrb := h.lt
  have HB5 : Hid (Below (w.heap.size + 1 + 1) (((w.alloc (.cells #[.slice (some ⟨g, 0, none⟩) l.length cg] 25)).alloc (.cells #[.slice none 0 0] 25)).alloc (.cells #[] 55)) w5) := hide ((Below.refl _ _).grown h2 (by simp) (fun q hq => by simp [Value.ownBlock] at hq; omega))
  have A5 : Below w5.heap.size w5 (w5.alloc (.cells #[.slice (some ⟨ga, 0, none⟩) l.length ca] 25)) := (Below.refl _ _).alloc (Nat.le_refl _) _
  have n5 := cell_new w5 (.slice (some ⟨ga, 0, none⟩) l.length ca) 25
  have HS5 : Hid (SB rb vb n w p w5.heap.size ga l.length ca (cellsOf l) (w5.alloc (.cells #[.slice (some ⟨ga, 0, none⟩) l.length ca] 25))) := hide (by
    have k2 := cell_new (w.alloc (.cells #[.slice (some ⟨g, 0, none⟩) l.length cg] 25)) (.slice none 0 0) 25
    have k3 : Below (w.heap.size + 1 + 1) ((w.alloc (.cells #[.slice (some ⟨g, 0, none⟩) l.length cg] 25)).alloc (.cells #[.slice none 0 0] 25)) (((w.alloc (.cells #[.slice (some ⟨g, 0, none⟩) l.length cg] 25)).alloc (.cells #[.slice none 0 0] 25)).alloc (.cells #[] 55)) := (Below.refl _ _).alloc (by simp) _
    simp only [World.size_alloc] at k2
    have bw : Below w.heap.size w w5 := b3.trans (HB5.out.mono (by omega))
    have k5 := (k3.trans HB5.out)
    have hz5 := HB5.out.size
    simp only [World.size_alloc] at hz5
    have rr : w5.ownsRow (w.heap.size + 1 + 1) 55 4 (.slice (some ⟨ga, 0, none⟩) l.length ca) l.length (cellsOf l) := by simpa using h1
    exact ⟨(h.keep bw).keep A5, (Dr.of bw).trans (Dr.of A5), (A5.cell (p := ⟨w.heap.size + 1, 0, none⟩) (by show w.heap.size + 1 < _; omega)).trans ((k5.cell (p := ⟨w.heap.size + 1, 0, none⟩) (Nat.lt_succ_self _)).trans k2.1), (A5.frozen (p := ⟨w.heap.size + 1, 0, none⟩) (by show w.heap.size + 1 < _; omega)).trans ((k5.frozen (p := ⟨w.heap.size + 1, 0, none⟩) (Nat.lt_succ_self _)).trans k2.2), n5.1, n5.2, row_belowZ rr A5, hrb, by omega, by simp, by omega⟩)
  clear h1 h2 h3 h4 HR0 HA HB5 n5 A5 b3
  go_wp2_with fail
  refine (HP.out p _ HS5.out.R (by omega) (l.length : Int) (by omega) (by omega)).mono ?_
  rintro e w6 ⟨k, hk0, rfl, R6, D6⟩
  have hk : k < l.length := by omega
  have HS6 := hide (HS5.out.dr D6 R6)
  clear R6 D6 HS5 hk0
  generalize w5.heap.size = ox at *
  have o6 := HS6.out.oc
  have q0 := HS6.out.row.cellAt (k * 4) (by omega)
  have q1 := HS6.out.row.cellAt (k * 4 + 1) (by omega)
  have q2 := HS6.out.row.cellAt (k * 4 + 2) (by omega)
  have q3 := HS6.out.row.cellAt (k * 4 + 3) (by omega)
  obtain ⟨p0, p1, p2, p3⟩ := cellsOf_at l k hk
  rw [p0] at q0
  rw [p1] at q1
  rw [p2] at q2
  rw [p3] at q3
  clear p0 p1 p2 p3
  have A6 : Below w6.heap.size w6 (w6.alloc (.cells #[.int .i64 l[k].kind, .int .i64 l[k].n, .string l[k].text, .int .i64 l[k].kids] 55)) := (Below.refl _ _).alloc (Nat.le_refl _) _
  have HX6 := hide (XB.new w6 l[k].kind l[k].n l[k].kids l[k].text 55)
  have HS6a := hide (HS6.out.below A6)
  have hw6 := HS6.out.o2
  have hlt6 := HS6.out.lt
  have ho16 := HS6.out.o1
  have hne6 := HS6.out.ne
  go_wp2_with fail
  refine (HP.out (p + 1) _ HS6a.out.R (by omega) 6 (by omega) (by omega)).mono ?_
  rintro e w7 ⟨zz, hzz, rfl, R7, D7⟩
  have HS7 := hide (HS6a.out.dr D7 R7)
  have HX7 := hide (HX6.out.same (D7.block w6.heap.size (by rw [World.size_alloc]; exact Nat.lt_succ_self _) (by omega)))
  clear R7 D7 A6 HX6 HS6a HS6 q0 q1 q2 q3 o6
  generalize w6.heap.size = xb at *
  have hx7 := HX7.out.lt
  have o7 := HS7.out.oc
  have of7 := HS7.out.of
  have yk := HX7.out.f
  have yk0 := yk 0
  have yk1 := yk 1
  have yk2 := yk 2
  have yk3 := yk 3
  have z0 := HX7.out.c0
  have z1 := HX7.out.c1
  have z2 := HX7.out.c2
  have z3 := HX7.out.c3
  have hzc : zz = 0 ∨ zz = 1 ∨ zz = 2 ∨ zz = 3 ∨ zz = 4 ∨ zz = 5 := by omega
  clear yk hzz
  rcases hzc with rfl | rfl | rfl | rfl | rfl | rfl
  · go_wp2_with fail
    refine (HP.out (p + 1 + 1) _ HS7.out.R (by omega) 9 (by omega) (by omega)).mono ?_
    rintro e w8 ⟨zq, hzq, rfl, R8, D8⟩
    have HS9 := hide (((HS7.out.dr D8 R8).set (xb := xb) (o := 0) (v := .int .i64 ((zq : Int) - 1)) (by omega) (by omega) (by omega)))
    have HX8 := hide (HX7.out.same (D8.block xb hx7 (by omega)))
    have HX9 := hide (HX8.out.set0 ((zq : Int) - 1))
    have w0 := HX8.out.c0
    have wf0 := HX8.out.f 0
    clear R8 D8 z0 z1 z2 z3 yk0 yk1 yk2 yk3 o7 of7
    have q0 := HS9.out.row.cellAt (k * 4) (by omega)
    have q1 := HS9.out.row.cellAt (k * 4 + 1) (by omega)
    have q2 := HS9.out.row.cellAt (k * 4 + 2) (by omega)
    have q3 := HS9.out.row.cellAt (k * 4 + 3) (by omega)
    obtain ⟨p0, p1, p2, p3⟩ := cellsOf_at l k hk
    rw [p0] at q0
    rw [p1] at q1
    rw [p2] at q2
    rw [p3] at q3
    have u0 := HS9.out.row.frozenAt (k * 4)
    have u1 := HS9.out.row.frozenAt (k * 4 + 1)
    have u2 := HS9.out.row.frozenAt (k * 4 + 2)
    have u3 := HS9.out.row.frozenAt (k * 4 + 3)
    have y0 := HX9.out.c0
    have y1 := HX9.out.c1
    have y2 := HX9.out.c2
    have y3 := HX9.out.c3
    have o9 := HS9.out.oc
    have HS10 := hide (SB.put4 ⟨(zq : Int) - 1, l[k].n, l[k].text, l[k].kids⟩ HS9.out hk)
    have o10 := HS10.out.oc
    have r10 := HS10.out.rc
    have rf10 := HS10.out.rf
    clear p0 p1 p2 p3
    go_wp2
    refine bodyPost_ret (v := .agg #[.slice (some ⟨ga, 0, none⟩) l.length ca]) (by simp [results, Try.results40, go_sem, r10]) rfl (HS10.out.fin (by simp) (by omega) (by simp) _)
  · have hL : Below w7.heap.size w7 (w7.alloc (.cells ((List.map (Value.int .i64) [2, -1, 1]).toArray) 2)) := (Below.refl _ _).alloc (Nat.le_refl _) _
    have HSL := hide (HS7.out.below hL)
    have HXL := hide (HX7.out.same (hL.block xb hx7))
    go_wp2_with fail
    refine (HP.out (p + 1 + 1) _ HSL.out.R (by omega) 3 (by omega) (by omega)).mono ?_
    rintro e w8 ⟨zq, hzq, rfl, R8, D8⟩
    obtain ⟨vz, hvz⟩ := ints_at w7 [2, -1, 1] 2 zq (by simp; omega)
    have hr7 := HS7.out.R.lt
    have cz : w8.cell? ⟨w7.heap.size, zq, none⟩ = some (.int .i64 vz) := (D8.cell (by rw [World.size_alloc]; exact Nat.lt_succ_self _) (by omega)).trans hvz
    have HS9 := hide (((HSL.out.dr D8 R8).set (xb := xb) (o := 1) (v := .int .i64 vz) (by omega) (by omega) (by omega)))
    have HX8 := hide (HXL.out.same (D8.block xb (by rw [World.size_alloc]; omega) (by omega)))
    have HX9 := hide (HX8.out.set1 vz)
    have w1 := HX8.out.c1
    have wf1 := HX8.out.f 1
    clear R8 D8 z0 z1 z2 z3 yk0 yk1 yk2 yk3 o7 of7 hvz hL
    have q0 := HS9.out.row.cellAt (k * 4) (by omega)
    have q1 := HS9.out.row.cellAt (k * 4 + 1) (by omega)
    have q2 := HS9.out.row.cellAt (k * 4 + 2) (by omega)
    have q3 := HS9.out.row.cellAt (k * 4 + 3) (by omega)
    obtain ⟨p0, p1, p2, p3⟩ := cellsOf_at l k hk
    rw [p0] at q0
    rw [p1] at q1
    rw [p2] at q2
    rw [p3] at q3
    have u0 := HS9.out.row.frozenAt (k * 4)
    have u1 := HS9.out.row.frozenAt (k * 4 + 1)
    have u2 := HS9.out.row.frozenAt (k * 4 + 2)
    have u3 := HS9.out.row.frozenAt (k * 4 + 3)
    have y0 := HX9.out.c0
    have y1 := HX9.out.c1
    have y2 := HX9.out.c2
    have y3 := HX9.out.c3
    have o9 := HS9.out.oc
    have HS10 := hide (SB.put4 ⟨l[k].kind, vz, l[k].text, l[k].kids⟩ HS9.out hk)
    have o10 := HS10.out.oc
    have r10 := HS10.out.rc
    have rf10 := HS10.out.rf
    clear p0 p1 p2 p3
    go_wp2
    refine bodyPost_ret (v := .agg #[.slice (some ⟨ga, 0, none⟩) l.length ca]) (by simp [results, Try.results40, go_sem, r10]) rfl (HS10.out.fin (by simp) (by omega) (by simp) _)
  · go_wp2_with fail
    refine (HP.out (p + 1 + 1) _ HS7.out.R (by omega) 2 (by omega) (by omega)).mono ?_
    rintro e w8 ⟨zq, hzq, rfl, R8, D8⟩
    have HS8 := hide (HS7.out.dr D8 R8)
    have HX8 := hide (HX7.out.same (D8.block xb hx7 (by omega)))
    have hm := many_any ⟨#[116]⟩ (1000 + zq) w8 (by omega) (by show 1 * (1000 + zq) ≤ 100000000; omega)
    rw [show ((1000 + zq : Nat) : Int) = 1000 + (zq : Int) from by omega] at hm
    have HM := hide hm
    have hx8 := HX8.out.lt
    have hr8 := HS8.out.R.lt
    clear R8 D8 hm
    go_wp2_with fail
    refine HM.out.mono ?_
    rintro e w8b ⟨tx, rfl, rfl⟩
    have hL : Below w8b.heap.size w8b (w8b.alloc (.cells ((List.map Value.string [⟨#[]⟩, ⟨#[116]⟩, tx]).toArray) 9)) := (Below.refl _ _).alloc (Nat.le_refl _) _
    have HSL := hide (HS8.out.below hL)
    have HXL := hide (HX8.out.same (hL.block xb hx8))
    go_wp2_with fail
    refine (HP.out (p + 1 + 1 + 1) _ HSL.out.R (by omega) 3 (by omega) (by omega)).mono ?_
    rintro e w9 ⟨zr, hzr, rfl, R9, D9⟩
    obtain ⟨vz, hvz⟩ := strs_at w8b [⟨#[]⟩, ⟨#[116]⟩, tx] 9 zr (by simp; omega)
    have cz : w9.cell? ⟨w8b.heap.size, zr, none⟩ = some (.string vz) := (D9.cell (by rw [World.size_alloc]; exact Nat.lt_succ_self _) (by omega)).trans hvz
    have HS9 := hide (((HSL.out.dr D9 R9).set (xb := xb) (o := 2) (v := .string vz) (by omega) (by omega) (by omega)))
    have HX9a := hide (HXL.out.same (D9.block xb (by rw [World.size_alloc]; omega) (by omega)))
    have HX9 := hide (HX9a.out.set2 vz)
    have w2 := HX9a.out.c2
    have wf2 := HX9a.out.f 2
    clear R9 D9 z0 z1 z2 z3 yk0 yk1 yk2 yk3 o7 of7 hvz hL
    have q0 := HS9.out.row.cellAt (k * 4) (by omega)
    have q1 := HS9.out.row.cellAt (k * 4 + 1) (by omega)
    have q2 := HS9.out.row.cellAt (k * 4 + 2) (by omega)
    have q3 := HS9.out.row.cellAt (k * 4 + 3) (by omega)
    obtain ⟨p0, p1, p2, p3⟩ := cellsOf_at l k hk
    rw [p0] at q0
    rw [p1] at q1
    rw [p2] at q2
    rw [p3] at q3
    have u0 := HS9.out.row.frozenAt (k * 4)
    have u1 := HS9.out.row.frozenAt (k * 4 + 1)
    have u2 := HS9.out.row.frozenAt (k * 4 + 2)
    have u3 := HS9.out.row.frozenAt (k * 4 + 3)
    have y0 := HX9.out.c0
    have y1 := HX9.out.c1
    have y2 := HX9.out.c2
    have y3 := HX9.out.c3
    have o9 := HS9.out.oc
    have HS10 := hide (SB.put4 ⟨l[k].kind, l[k].n, vz, l[k].kids⟩ HS9.out hk)
    have o10 := HS10.out.oc
    have r10 := HS10.out.rc
    have rf10 := HS10.out.rf
    clear p0 p1 p2 p3
    go_wp2
    refine bodyPost_ret (v := .agg #[.slice (some ⟨ga, 0, none⟩) l.length ca]) (by simp [results, Try.results40, go_sem, r10]) rfl (HS10.out.fin (by simp) (by omega) (by simp) _)
  · go_wp2_with fail
    go_region_with (go_at_call 23; refine (HP.out (p + 1 + 1) w7.drew (HS7.out.below (Below.refl _ _).drew).R (by omega) 3 (by omega) (by omega)).mono ?_; rintro e w8 ⟨zq, hzq, rfl, R8, D8⟩; have HS8 := (HS7.out.below (Below.refl _ _).drew).dr D8 R8; have HX8 := HX7.out.same (D8.block xb hx7 (by omega)); have v3 := HX8.c3; have vf3 := HX8.f 3)
    all_goals
      generalize IntKind.i64.wrap (IntKind.i64.wrap (l[k].kids + (zq : Int)) - 1) = E3 at *
      have HS9 := hide (HS8.set (xb := xb) (o := 3) (v := .int .i64 E3) (by omega) (by omega) (by omega))
      have HX9 := hide (HX8.set3 E3)
      clear HS8 HX8 R8 D8 z0 z1 z2 z3 yk0 yk1 yk2 yk3 o7 of7 v3 vf3
      have q0 := HS9.out.row.cellAt (k * 4) (by omega)
      have q1 := HS9.out.row.cellAt (k * 4 + 1) (by omega)
      have q2 := HS9.out.row.cellAt (k * 4 + 2) (by omega)
      have q3 := HS9.out.row.cellAt (k * 4 + 3) (by omega)
      obtain ⟨p0, p1, p2, p3⟩ := cellsOf_at l k hk
      rw [p0] at q0
      rw [p1] at q1
      rw [p2] at q2
      rw [p3] at q3
      have u0 := HS9.out.row.frozenAt (k * 4)
      have u1 := HS9.out.row.frozenAt (k * 4 + 1)
      have u2 := HS9.out.row.frozenAt (k * 4 + 2)
      have u3 := HS9.out.row.frozenAt (k * 4 + 3)
      have y0 := HX9.out.c0
      have y1 := HX9.out.c1
      have y2 := HX9.out.c2
      have y3 := HX9.out.c3
      have o9 := HS9.out.oc
      have HS10 := hide (SB.put4 ⟨l[k].kind, l[k].n, l[k].text, E3⟩ HS9.out hk)
      have o10 := HS10.out.oc
      have r10 := HS10.out.rc
      have rf10 := HS10.out.rf
      clear p0 p1 p2 p3
      go_wp2
      refine bodyPost_ret (v := .agg #[.slice (some ⟨ga, 0, none⟩) l.length ca]) (by simp [results, Try.results40, go_sem, r10]) rfl (HS10.out.fin (by simp) (by omega) (by simp) _)
  · have hcap : l.length ≤ ca := by
      rcases HS7.out.row.2 with ⟨h, _⟩ | ⟨_, _, _, h, _, _, hle, _⟩
      · cases h
      · simp only [Value.slice.injEq] at h; rw [h.2.2]; exact hle
    have hw1 : IntKind.i64.wrap ((k : Int) + 1) = ((k + 1 : Nat) : Int) := by rw [IntKind.wrap_i64]; omega
    have HTK := hide (HS7.out.take (k := k) (by omega))
    have hs1 : (0 : Int) ≤ (k : Int) := by omega
    have hs2 : (k : Int) ≤ (ca : Int) := by omega
    have hs3 : (0 : Int) ≤ (k : Int) + 1 := by omega
    have hs4 : (k : Int) + 1 ≤ (l.length : Int) := by omega
    have hs5 : (k : Int) + 1 ≤ (ca : Int) := by omega
    have HE8 : Hid ((cellsOf l).take (k * 4) ++ cellsOf (l.drop (k + 1)) = cellsOf (l.take k ++ l.drop (k + 1))) := hide (by
      rw [← cells_app, cells_split l k hk, List.take_append_of_le_length (by rw [cellsOf_len, List.length_take]; omega), List.take_of_length_le (by rw [cellsOf_len, List.length_take]; omega)])
    by_cases hce : ca = k + 1
    · subst hce
      have hs6 : (k : Int) ≤ ((k + 1 : Nat) : Int) := by omega
      have hs7 : (k : Int) ≤ (k : Int) + 1 := by omega
      go_wp2_with fail
      go_region_law ((refine step_append_own rfl (.tmp 72) (.tmp 77) 23 rfl (w.heap.size + 1 + 1) 55 iN _ 4 40 Try.underlying23 hN hNz hNs hNb rfl (by decide) (.slice (some ⟨ga, 0, none⟩) k (k + 1)) k ((cellsOf l).take (k * 4)) (by first | (simp [Act.eval]; done) | simp [Act.eval, Act.put]) HTK.out.drew ⟨ga, 0, none⟩ 0 0 (cellsOf (l.drop (k + 1))) (by first | (simp [Act.eval]; done) | simp [Act.eval, Act.put]) (by rw [cellsOf_len, List.length_drop]; omega) (by rw [List.drop_of_length_le (by omega)]; intro j u hu; simp [cellsOf] at hu) (cells_one _) (by unfold maxLen; omega) (by omega) (by have := HS7.out.lt; show w.heap.size + 1 + 1 ≤ w7.heap.size; omega) ?_; intro v8 w8 h1 h2 h3 h4; rw [HE8.out] at h1; obtain ⟨g8, c8, rfl⟩ := row_some h1 (fun e => by have := h3.1 e; simp at this); obtain ⟨o8, of8, S8⟩ := (HS7.out.below (Below.refl _ _).drew).grow h2 h1 (by simpa [Value.ownBlock] using h4)))
      all_goals
        simp only [Nat.add_zero] at S8
        have r8 := S8.rc
        have rf8 := S8.rf
        have oc8 := S8.oc
        have HS8 := hide S8
        clear h1 h2 h3 h4 S8 z0 z1 z2 z3 yk0 yk1 yk2 yk3 o7 of7
        go_wp2
        refine bodyPost_ret (v := .agg #[.slice (some ⟨g8, 0, none⟩) k c8]) (by simp [results, Try.results40, go_sem, r8]) rfl (HS8.out.fin (by simp; omega) (by omega) (by simp; omega) _)
    · have HNW : Hid (∀ j u, (cellsOf (l.drop (k + 1)))[j]? = some u → w7.cell? ((⟨ga, (k + 1) * 4, none⟩ : Addr).add j) = some u) := hide (by
        intro j u hu
        have hj : j < (cellsOf (l.drop (k + 1))).length := (List.getElem?_eq_some_iff.1 hu).1
        rw [cellsOf_len, List.length_drop] at hj
        rw [add_plain, HS7.out.row.cellAt ((k + 1) * 4 + j) (by omega), cells_split l k hk, List.getElem?_append_right (by rw [cellsOf_len, List.length_take]; omega), cellsOf_len, List.length_take]
        rw [show (k + 1) * 4 + j - min k l.length * 4 = j + 4 from by omega]
        exact hu)
      go_wp2_with fail
      go_region_law ((refine step_append_own rfl (.tmp 72) (.tmp 77) 23 rfl (w.heap.size + 1 + 1) 55 iN _ 4 40 Try.underlying23 hN hNz hNs hNb rfl (by decide) (.slice (some ⟨ga, 0, none⟩) k ca) k ((cellsOf l).take (k * 4)) (by first | (simp [Act.eval]; done) | simp [Act.eval, Act.put]) HTK.out.drew ⟨ga, (k + 1) * 4, none⟩ (l.length - (k + 1)) (ca - (k + 1)) (cellsOf (l.drop (k + 1))) (by first | (simp [Act.eval]; done) | simp [Act.eval, Act.put]) (by rw [cellsOf_len, List.length_drop]) HNW.out (cells_one _) (by unfold maxLen; omega) (by omega) (by have := HS7.out.lt; show w.heap.size + 1 + 1 ≤ w7.heap.size; omega) ?_; intro v8 w8 h1 h2 h3 h4; rw [HE8.out] at h1; obtain ⟨g8, c8, rfl⟩ := row_some h1 (fun e => by have := h3.1 e; simp at this); obtain ⟨o8, of8, S8⟩ := (HS7.out.below (Below.refl _ _).drew).grow h2 h1 (by simpa [Value.ownBlock] using h4)))
      all_goals
        have r8 := S8.rc
        have rf8 := S8.rf
        have oc8 := S8.oc
        have HS8 := hide S8
        clear h1 h2 h3 h4 S8 z0 z1 z2 z3 yk0 yk1 yk2 yk3 o7 of7
        go_wp2
        refine bodyPost_ret (v := .agg #[.slice (some ⟨g8, 0, none⟩) _ c8]) (by simp [results, Try.results40, go_sem, r8]) rfl (HS8.out.fin (by simp; omega) (by omega) (by simp; omega) _)
  · go_wp2_with (at_builtin; refine wpList_append_own_at _ rfl _ _ 23 rfl (w.heap.size + 1 + 1) 55 iN _ 4 40 Try.underlying23 hN hNz hNs hNb rfl (by decide) (.slice (some ⟨ga, 0, none⟩) l.length ca) l.length (cellsOf l) rfl (HS7.out.row.alloc _) ⟨w7.heap.size, 0, none⟩ 1 1 (cellsOf [l[k]]) rfl rfl (four_new _ _ _ _ _ _) (cells_one _) (by unfold maxLen; omega) (by omega) (by have := HS7.out.lt; simp; omega) ?_)
    intro v8 w8 h1 h2 h3 h4
    rw [cells_app] at h1
    obtain ⟨g8, c8, rfl⟩ := row_posD h1 (by omega)
    have A7 : Below w7.heap.size w7 (w7.alloc (.cells #[.int .i64 l[k].kind, .int .i64 l[k].n, .string l[k].text, .int .i64 l[k].kids] 55)) := (Below.refl _ _).alloc (Nat.le_refl _) _
    obtain ⟨o8, of8, S8⟩ := (HS7.out.below A7).grow h2 h1 (by rw [World.size_alloc]; simpa [Value.ownBlock] using h4)
    have r8 := S8.rc
    have rf8 := S8.rf
    have oc8 := S8.oc
    have HS8 := hide S8
    clear h1 h2 h3 h4 S8 z0 z1 z2 z3 yk0 yk1 yk2 yk3 o7 of7
    go_wp2
    refine bodyPost_ret (v := .agg #[.slice (some ⟨g8, 0, none⟩) (l.length + 1) c8]) (by simp [results, Try.results40, go_sem, r8]) rfl (HS8.out.fin (by simp) (by omega) (by simp) _)
end Go.Proofs.Ytfpdoafpimaoaaa.Vl
