/- Joined: Ee, Ef. -/
import Derived.Test.YtnkfbjcgkdblgaaGreatG16
import Derived.Test.YtnkfbjcgkdblgaaGreatG17
namespace Go.Proofs.YtnkfbjcgkdblgaaGreat.Vl
open Go.RowKit T.atoms T.ok T.high T.good T.allPlain DatAt T.ord

/-- Cells that hold something. -/
theorem CellsAt.set {w : World} {g o : Nat} {vs : List Value} (h : CellsAt w g o vs) (hn : ∀ u ∈ vs, u ≠ .nilIface) (p : Addr) (hp : w.cell? p = some .nilIface) (z : Value) : CellsAt (w.setCell p z) g o vs := by
  intro j u hu
  have h1 := h j u hu
  rw [World.cell?_setCell_other _ _ _ _ (fun e => hn u (List.mem_of_getElem? hu) (by rw [← e, hp] at h1; exact (Option.some.inj h1).symm))]
  exact h1
theorem RowAt.set {w : World} {x : Nat} {q : Option Addr} {vs : List Value} (h : RowAt w x q vs) (hn : ∀ u ∈ vs, u ≠ .nilIface) (p : Addr) (hp : w.cell? p = some .nilIface) (z : Value) : RowAt (w.setCell p z) x q vs := by
  rcases h with h | ⟨g, o, h1, h2, h3, h4⟩
  · exact .inl h
  · exact .inr ⟨g, o, h1, h2, by simpa using h3, h4.set hn p hp z⟩
theorem DatAt.ne {w : World} {x : Nat} {t : T} {v : Value} (h : DatAt w x t v) : v ≠ .nilIface := by
  obtain ⟨y, u, rfl⟩ := h.isIface
  intro e; cases e
theorem DatL.ne {w : World} {x : Nat} : ∀ {l : List T} {vs : List Value}, DatL w x l vs → ∀ u ∈ vs, u ≠ .nilIface
  | [], vs, h, u, hu => by unfold DatL at h; subst h; cases hu
  | t :: r, vs, h, u, hu => by
    unfold DatL at h
    obtain ⟨v, vr, rfl, h2, h3⟩ := h
    rcases List.mem_cons.1 hu with rfl | hu
    · exact h2.ne
    · exact DatL.ne h3 u hu
theorem FldL.ne {w : World} {x : Nat} : ∀ {l : List T} {vs : List Value}, FldL w x l vs → ∀ u ∈ vs, u ≠ .nilIface
  | [], vs, h, u, hu => by unfold FldL at h; subst h; cases hu
  | [_], vs, h, u, hu => by unfold FldL at h; exact h.elim
  | a :: b :: r, vs, h, u, hu => by
    unfold FldL at h
    obtain ⟨v, vr, rfl, h2, h3⟩ := h
    rcases List.mem_cons.1 hu with rfl | hu
    · intro e; cases e
    rcases List.mem_cons.1 hu with rfl | hu
    · exact h2.ne
    · exact FldL.ne h3 u hu
/-- A cell that holds nothing is no part of a datum. -/
theorem DatAt.set {w : World} {x : Nat} (p : Addr) (hp : w.cell? p = some .nilIface) (z : Value) : ∀ (t : T) (v : Value), DatAt w x t v → DatAt (w.setCell p z) x t v
  | .mk k n s ks, v, h => by
    unfold DatAt at h ⊢
    rcases h with h | h | h | h | ⟨h, q, c, vs, h1, hc, h2, h3⟩ | ⟨h, q, c, m, vs, h0, h1, hc, h2, h3⟩
    · exact .inl h
    · exact .inr (.inl h)
    · exact .inr (.inr (.inl h))
    · exact .inr (.inr (.inr (.inl h)))
    · exact .inr (.inr (.inr (.inr (.inl ⟨h, q, c, vs, h1, hc, setL p hp z ks vs h2, h3.set (DatL.ne h2) p hp z⟩))))
    · exact .inr (.inr (.inr (.inr (.inr ⟨h, q, c, m, vs, h0, h1, hc, setF p hp z ks vs h2, h3.set (FldL.ne h2) p hp z⟩))))
  where
  setL {w : World} {x : Nat} (p : Addr) (hp : w.cell? p = some .nilIface) (z : Value) : ∀ (l : List T) (vs : List Value), DatL w x l vs → DatL (w.setCell p z) x l vs
    | [], vs, h => by unfold DatL at h ⊢; exact h
    | t :: r, vs, h => by
      unfold DatL at h ⊢
      obtain ⟨v, vr, h1, h2, h3⟩ := h
      exact ⟨v, vr, h1, DatAt.set p hp z t v h2, setL p hp z r vr h3⟩
  setF {w : World} {x : Nat} (p : Addr) (hp : w.cell? p = some .nilIface) (z : Value) : ∀ (l : List T) (vs : List Value), FldL w x l vs → FldL (w.setCell p z) x l vs
    | [], vs, h => by unfold FldL at h ⊢; exact h
    | [_], vs, h => by unfold FldL at h; exact h.elim
    | a :: b :: r, vs, h => by
      unfold FldL at h ⊢
      obtain ⟨v, vr, h1, h2, h3⟩ := h
      exact ⟨v, vr, h1, DatAt.set p hp z b v h2, setF p hp z r vr h3⟩

/-- What a deed comes to. -/
abbrev Out := Sum (List UInt8) T
def Out.res : Out → List At × List UInt8
  | .inl l => ([], l)
  | .inr t => (t.atoms, [])
def Out.fine : Out → Prop
  | .inl l => l ≠ []
  | .inr _ => True
def DoK (W : World) : Out → Value → ByteArray → World → Prop
  | .inl l, dv, s, w' => Below W.heap.size W w' ∧ dv = .nilIface ∧ s = ⟨l.toArray⟩
  | .inr t, dv, s, w' => Below W.heap.size W w' ∧ s = ⟨#[]⟩ ∧ t.good = true ∧ t.count ≤ 1000 ∧ ∃ x, DatAt w' x t dv
theorem DoK.from {W W1 w' : World} {out : Out} {dv : Value} {s : ByteArray} (hb : Below W.heap.size W W1) (h : DoK W1 out dv s w') : DoK W out dv s w' := by
  cases out with
  | inl l => exact ⟨hb.trans (h.1.mono hb.size), h.2⟩
  | inr t => exact ⟨hb.trans (h.1.mono hb.size), h.2⟩
/-- A deed of two args, from a world on. -/
def Does (W : World) (f b : Nat) (t u : T) (out : Out) : Prop := ∀ W', Below W.heap.size W W' → ∀ (gg x y : Nat) (xa xb : Value), gg < W'.heap.size → W'.cell? ⟨gg, 0, none⟩ = some xa → W'.cell? ⟨gg, 1, none⟩ = some xb → DatAt W' x t xa → DatAt W' y u xb →
    Calls Tryz.prog f #[.slice (some ⟨gg, 0, none⟩) 2 2, .pointer (some ⟨b, 0, none⟩)] W' (TupPost (DoK W' out))
theorem Does.below {W W1 : World} {f b : Nat} {t u : T} {out : Out} (h : Does W f b t u out) (hb : Below W.heap.size W W1) : Does W1 f b t u out := fun W' hb' => h W' (hb.trans (hb'.mono hb.size))

/-- What perform keeps in boxes, in a later world. -/
structure P2 (w : World) (fv x0 x1 : Value) (W : World) : Prop where
  B : Below w.heap.size w W
  d : W.cell? ⟨w.heap.size, 1, none⟩ = some fv
  r : W.cell? ⟨w.heap.size + 1, 0, none⟩ = some (.slice none 0 0)
  f : W.frozen? ⟨w.heap.size + 1, 0, none⟩ = false
  v0 : W.cell? ⟨w.heap.size + 1 + 1, 0, none⟩ = some x0
  v1 : W.cell? ⟨w.heap.size + 1 + 1, 1, none⟩ = some x1
  vf0 : W.frozen? ⟨w.heap.size + 1 + 1, 0, none⟩ = false
  vf1 : W.frozen? ⟨w.heap.size + 1 + 1, 1, none⟩ = false
  z : w.heap.size + 1 + 1 < W.heap.size
theorem P2.below {w W W' : World} {fv x0 x1 : Value} (h : P2 w fv x0 x1 W) (hb : Below W.heap.size W W') : P2 w fv x0 x1 W' := by
  have hz := h.z
  exact ⟨h.B.trans (hb.mono h.B.size), (hb.cell (p := ⟨w.heap.size, 1, none⟩) (by show w.heap.size < _; omega)).trans h.d, (hb.cell (p := ⟨w.heap.size + 1, 0, none⟩) (by show w.heap.size + 1 < _; omega)).trans h.r, (hb.frozen (p := ⟨w.heap.size + 1, 0, none⟩) (by show w.heap.size + 1 < _; omega)).trans h.f, (hb.cell (p := ⟨w.heap.size + 1 + 1, 0, none⟩) hz).trans h.v0, (hb.cell (p := ⟨w.heap.size + 1 + 1, 1, none⟩) hz).trans h.v1, (hb.frozen (p := ⟨w.heap.size + 1 + 1, 0, none⟩) hz).trans h.vf0, (hb.frozen (p := ⟨w.heap.size + 1 + 1, 1, none⟩) hz).trans h.vf1, Nat.lt_of_lt_of_le hz hb.size⟩
theorem P2.set {w W : World} {fv x0 x1 : Value} (h : P2 w fv x0 x1 W) (v : Value) : Below w.heap.size w (W.setCell ⟨w.heap.size + 1, 0, none⟩ v) := h.B.setCell (p := ⟨w.heap.size + 1, 0, none⟩) (by simp) _
theorem P2.put0 {w W : World} {fv x0 x1 : Value} (h : P2 w fv x0 x1 W) (v : Value) : P2 w fv v x1 (W.setCell ⟨w.heap.size + 1 + 1, 0, none⟩ v) := by
  have e : ∀ q, q ≠ w.heap.size + 1 + 1 → (W.setCell ⟨w.heap.size + 1 + 1, 0, none⟩ v).heap[q]? = W.heap[q]? := fun q hq => Below.heap_setCell _ _ _ _ hq
  refine ⟨h.B.setCell (p := ⟨w.heap.size + 1 + 1, 0, none⟩) (by simp; omega) _, (World.cell?_of_block (a := ⟨w.heap.size, 1, none⟩) (e w.heap.size (by omega))).trans h.d, (World.cell?_of_block (a := ⟨w.heap.size + 1, 0, none⟩) (e (w.heap.size + 1) (by omega))).trans h.r, by simpa using h.f, World.cell?_setCell_same _ _ _ h.v0, (World.cell?_setCell_other _ _ _ _ (by simp)).trans h.v1, by simpa using h.vf0, by simpa using h.vf1, by simpa using h.z⟩
theorem P2.put1 {w W : World} {fv x0 x1 : Value} (h : P2 w fv x0 x1 W) (v : Value) : P2 w fv x0 v (W.setCell ⟨w.heap.size + 1 + 1, 1, none⟩ v) := by
  have e : ∀ q, q ≠ w.heap.size + 1 + 1 → (W.setCell ⟨w.heap.size + 1 + 1, 1, none⟩ v).heap[q]? = W.heap[q]? := fun q hq => Below.heap_setCell _ _ _ _ hq
  refine ⟨h.B.setCell (p := ⟨w.heap.size + 1 + 1, 1, none⟩) (by simp; omega) _, (World.cell?_of_block (a := ⟨w.heap.size, 1, none⟩) (e w.heap.size (by omega))).trans h.d, (World.cell?_of_block (a := ⟨w.heap.size + 1, 0, none⟩) (e (w.heap.size + 1) (by omega))).trans h.r, by simpa using h.f, (World.cell?_setCell_other _ _ _ _ (by simp)).trans h.v0, World.cell?_setCell_same _ _ _ h.v1, by simpa using h.vf0, by simpa using h.vf1, by simpa using h.z⟩
theorem P2.start {w w1 : World} {fv : Value} (hown : w1.ownsRow w.heap.size 77 1 (.slice (some ⟨w.heap.size + 1 + 1, 0, none⟩) 2 2) 2 (madeCells #[.nilIface] 2).toList) (hgrow : ((w.alloc (.cells #[.int .i64 2, fv] 51)).alloc (.cells #[.slice none 0 0] 28)).grownBy w1 none) : P2 w fv .nilIface .nilIface w1 := by
  have b0 : Below ((w.alloc (.cells #[.int .i64 2, fv] 51)).alloc (.cells #[.slice none 0 0] 28)).heap.size ((w.alloc (.cells #[.int .i64 2, fv] 51)).alloc (.cells #[.slice none 0 0] 28)) w1 := (Below.refl _ _).grown hgrow (Nat.le_refl _) (fun q e => by cases e)
  have r1 : Below w.heap.size w ((w.alloc (.cells #[.int .i64 2, fv] 51)).alloc (.cells #[.slice none 0 0] 28)) := ((Below.refl _ _).alloc (Nat.le_refl _) _).alloc (by simp) _
  have n2 := cell_new (w.alloc (.cells #[.int .i64 2, fv] 51)) (.slice none 0 0) 28
  have b2 : Below (w.alloc (.cells #[.int .i64 2, fv] 51)).heap.size (w.alloc (.cells #[.int .i64 2, fv] 51)) ((w.alloc (.cells #[.int .i64 2, fv] 51)).alloc (.cells #[.slice none 0 0] 28)) := (Below.refl _ _).alloc (Nat.le_refl _) _
  have n1 : (w.alloc (.cells #[.int .i64 2, fv] 51)).cell? ⟨w.heap.size, 1, none⟩ = some fv := by simp
  simp only [World.size_alloc] at n2
  have hv0 := hown.cellAt 0 (by omega)
  have hv1 := hown.cellAt 1 (by omega)
  have hf0 := hown.frozenAt 0
  have hf1 := hown.frozenAt 1
  have hz := (hown.lt _ rfl).2
  refine ⟨r1.trans (b0.mono r1.size), (b0.cell (p := ⟨w.heap.size, 1, none⟩) (by simp; omega)).trans ((b2.cell (p := ⟨w.heap.size, 1, none⟩) (by simp)).trans n1), (b0.cell (p := ⟨w.heap.size + 1, 0, none⟩) (by simp)).trans n2.1, (b0.frozen (p := ⟨w.heap.size + 1, 0, none⟩) (by simp)).trans n2.2, hv0.trans (by simp [madeCells]), hv1.trans (by simp [madeCells]), hf0, hf1, hz⟩
end Go.Proofs.YtnkfbjcgkdblgaaGreat.Vl
namespace Go.Proofs.YtnkfbjcgkdblgaaGreat.Vl
open Go.RowKit T.atoms T.ok T.high T.good T.allPlain DatAt T.ord

def PPost2 (w : World) (r : List At × List UInt8) (e : Ending) (w' : World) : Prop := ∃ v, e = .returned (.tuple #[.agg #[v], .string ⟨r.2.toArray⟩]) ∧ ((v = .slice none 0 0 ∧ r.1 = []) ∨ OwnV w' w.heap.size v r.1) ∧ Below w.heap.size w w'
theorem ppost2_no {w w' : World} {s : List UInt8} (hb : Below w.heap.size w w') : PPost2 w ([], s) (.returned (.tuple #[.agg #[.slice none 0 0], .string ⟨s.toArray⟩])) w' := ⟨_, rfl, .inl ⟨rfl, rfl⟩, hb⟩
theorem fn_nil (f b : Nat) (w : World) : (Go.binOp BinOp.eql 49 (.func (.func f) #[] #[.pointer (some ⟨b, 0, none⟩)]) .nilFunc).run Tryz.prog w = .ok (.bool false) w := by kernel_rfl
theorem fn_none (w : World) : (Go.binOp BinOp.eql 49 .nilFunc .nilFunc).run Tryz.prog w = .ok (.bool true) w := by kernel_rfl

set_option maxRecDepth 100000 in
set_option maxHeartbeats 1000000 in
theorem perform_none (gv : Nat) (w : World) :
    Calls Tryz.prog 23 #[.agg #[.int .i64 0, .nilFunc], .slice (some ⟨gv, 0, none⟩) 2 2] w (PPost2 w ([], [116, 121, 112, 101])) := by
  have hf := fn_none
  have n1 := cell_new (w.alloc (.cells #[.int .i64 0, .nilFunc] 51)) (.slice none 0 0) 28
  have hq : Below w.heap.size w ((w.alloc (.cells #[.int .i64 0, .nilFunc] 51)).alloc (.cells #[.slice none 0 0] 28)) := ((Below.refl _ _).alloc (Nat.le_refl _) _).alloc (by simp) _
  go_enter Tryz.func23, Tryz.ntmps23
  go_wp2
  refine bodyPost_ret (v := .tuple #[.agg #[.slice none 0 0], .string ⟨#[116, 121, 112, 101]⟩]) (by simp [results, Tryz.results23, go_sem]) rfl (ppost2_no ?_)
  first | exact hq | exact hq.setCell (p := ⟨w.heap.size + 1, 0, none⟩) (by simp) _

set_option maxRecDepth 100000 in
set_option maxHeartbeats 1000000 in
theorem perform_bad1 (f b g c n gv : Nat) (la : List At) (w : World) (hv : valid la = false) (hn : la.length = n) (hl : la.length ≤ 1048576) (ht : AtomsO w g 0 la) (hgv : gv < w.heap.size) (hc : w.cell? ⟨gv, 0, none⟩ = some (.slice (some ⟨g, 0, none⟩) n c)) :
    Calls Tryz.prog 23 #[deedV 2 f b, .slice (some ⟨gv, 0, none⟩) 2 2] w (PPost2 w ([], [116, 121, 112, 101])) := by
  have HD := hide (fun w' (hb : Below w.heap.size w w') => datumOf_any la g c w' hl (ht.below hb))
  rw [hn] at HD
  unfold DPost at HD
  rw [hv] at HD
  clear ht hv hl hn
  unfold deedV
  have hf := fn_nil f b
  obtain ⟨iD, hDi, hDz, hDs, hDb⟩ := info_parts Tryz.infoDat
  go_enter Tryz.func23, Tryz.ntmps23
  go_wp2_with (at_make; refine wpList_make_full _ rfl _ _ 75 rfl w.heap.size 77 iD _ 1 Tryz.underlying75 hDi hDz hDs _ _ _ _ 2 rfl rfl rfl rfl (by rw [hDb]; omega) (by unfold maxLen; omega) (by simp; omega) ?_)
  intro w1 hown hgrow
  have HP := hide (P2.start hown hgrow)
  clear hown hgrow hf
  go_wp2_with fail
  go_loopw [29] (fun t wr => t = .int .i64 0 ∧ P2 w (.func (.func f) #[] #[.pointer (some ⟨b, 0, none⟩)]) .nilIface .nilIface wr) (fun _ _ => 0)
  case atStart => exact ⟨rfl, HP.out⟩
  case round =>
    obtain ⟨rfl, p⟩ := hrel
    have cc := (p.B.cell (p := ⟨gv, 0, none⟩) hgv).trans hc
    go_wp2_with fail
    have p2 := p.below (W' := wr.alloc (.cells #[.slice (some ⟨g, 0, none⟩) n c] 28)) ((Below.refl _ _).alloc (Nat.le_refl _) _)
    refine (HD.out _ p2.B).mono ?_
    rintro e w2 ⟨hb2, v, rfl, hd⟩
    have p3 := p2.below hb2
    have cr := p3.r
    have fr := p3.f
    clear hb2 hd cc p p2
    go_wp2
    refine bodyPost_ret (v := .tuple #[.agg #[.slice none 0 0], .string ⟨#[116, 121, 112, 101]⟩]) (by simp [results, Tryz.results23, go_sem, cr]) rfl (ppost2_no (p3.set _))

set_option maxRecDepth 100000 in
set_option maxHeartbeats 1000000 in
theorem perform_bad2 (f b g c n g' c' n' gv : Nat) (la lb : List At) (w : World) (hv : valid la = true) (hv' : valid lb = false) (hn : la.length = n) (hl : la.length ≤ 1048576) (ht : AtomsO w g 0 la) (hn' : lb.length = n') (hl' : lb.length ≤ 1048576) (ht' : AtomsO w g' 0 lb) (hgv : gv < w.heap.size) (hc : w.cell? ⟨gv, 0, none⟩ = some (.slice (some ⟨g, 0, none⟩) n c)) (hc' : w.cell? ⟨gv, 1, none⟩ = some (.slice (some ⟨g', 0, none⟩) n' c')) :
    Calls Tryz.prog 23 #[deedV 2 f b, .slice (some ⟨gv, 0, none⟩) 2 2] w (PPost2 w ([], [116, 121, 112, 101])) := by
  have HD := hide (fun w' (hb : Below w.heap.size w w') => datumOf_any la g c w' hl (ht.below hb))
  rw [hn] at HD
  unfold DPost at HD
  rw [hv] at HD
  have HE := hide (fun w' (hb : Below w.heap.size w w') => datumOf_any lb g' c' w' hl' (ht'.below hb))
  rw [hn'] at HE
  unfold DPost at HE
  rw [hv'] at HE
  clear ht hv hl hn ht' hv' hl' hn'
  unfold deedV
  have hf := fn_nil f b
  obtain ⟨iD, hDi, hDz, hDs, hDb⟩ := info_parts Tryz.infoDat
  go_enter Tryz.func23, Tryz.ntmps23
  go_wp2_with (at_make; refine wpList_make_full _ rfl _ _ 75 rfl w.heap.size 77 iD _ 1 Tryz.underlying75 hDi hDz hDs _ _ _ _ 2 rfl rfl rfl rfl (by rw [hDb]; omega) (by unfold maxLen; omega) (by simp; omega) ?_)
  intro w1 hown hgrow
  have HP := hide (P2.start hown hgrow)
  clear hown hgrow hf
  go_wp2_with fail
  go_loopw [29] (fun t wr => (t = .int .i64 0 ∧ P2 w (.func (.func f) #[] #[.pointer (some ⟨b, 0, none⟩)]) .nilIface .nilIface wr) ∨ (t = .int .i64 1 ∧ ∃ xa, P2 w (.func (.func f) #[] #[.pointer (some ⟨b, 0, none⟩)]) xa .nilIface wr)) (fun t _ => 1 - (intOf t).toNat)
  case atStart => exact .inl ⟨rfl, HP.out⟩
  case round =>
    rcases hrel with ⟨rfl, p⟩ | ⟨rfl, xa, p⟩
    · have cc := (p.B.cell (p := ⟨gv, 0, none⟩) hgv).trans hc
      go_wp2_with fail
      have p2 := p.below (W' := wr.alloc (.cells #[.slice (some ⟨g, 0, none⟩) n c] 28)) ((Below.refl _ _).alloc (Nat.le_refl _) _)
      refine (HD.out _ p2.B).mono ?_
      rintro e w2 ⟨hb2, v, rfl, hd⟩
      obtain ⟨t', x, ht', _, _, hD⟩ := hd trivial
      have p3 := p2.below hb2
      have hvs := p3.v0
      have hvf := p3.vf0
      obtain ⟨y, u, rfl⟩ := hD.isIface
      clear hb2 hD cc p p2 ht' hd
      go_wp2
      go_roundw
      case rel => exact .inr ⟨rfl, _, p3.put0 _⟩
      case measure => simp [intOf]
    · have cc := (p.B.cell (p := ⟨gv, 1, none⟩) hgv).trans hc'
      go_wp2_with fail
      have p2 := p.below (W' := wr.alloc (.cells #[.slice (some ⟨g', 0, none⟩) n' c'] 28)) ((Below.refl _ _).alloc (Nat.le_refl _) _)
      refine (HE.out _ p2.B).mono ?_
      rintro e w2 ⟨hb2, v, rfl, hd⟩
      have p3 := p2.below hb2
      have cr := p3.r
      have fr := p3.f
      clear hb2 hd cc p p2
      go_wp2
      refine bodyPost_ret (v := .tuple #[.agg #[.slice none 0 0], .string ⟨#[116, 121, 112, 101]⟩]) (by simp [results, Tryz.results23, go_sem, cr]) rfl (ppost2_no (p3.set _))

set_option maxRecDepth 100000 in
set_option maxHeartbeats 1000000 in
theorem perform_good (f b g c n g' c' n' gv : Nat) (la lb : List At) (t u : T) (out : Out) (w : World) (hen : ∀ args w, (callFunc f args).run Tryz.prog w = .ok (.enter f args) w) (hdo : Does w f b t u out) (hfi : out.fine) (htr : treeOf la = some t) (htr' : treeOf lb = some u) (hv : valid la = true) (hv' : valid lb = true) (hn : la.length = n) (hl : la.length ≤ 1048576) (ht : AtomsO w g 0 la) (hn' : lb.length = n') (hl' : lb.length ≤ 1048576) (ht' : AtomsO w g' 0 lb) (hgv : gv < w.heap.size) (hc : w.cell? ⟨gv, 0, none⟩ = some (.slice (some ⟨g, 0, none⟩) n c)) (hc' : w.cell? ⟨gv, 1, none⟩ = some (.slice (some ⟨g', 0, none⟩) n' c')) :
    Calls Tryz.prog 23 #[deedV 2 f b, .slice (some ⟨gv, 0, none⟩) 2 2] w (PPost2 w out.res) := by
  have HD := hide (fun w' (hb : Below w.heap.size w w') => datumOf_any la g c w' hl (ht.below hb))
  rw [hn] at HD
  unfold DPost at HD
  rw [hv] at HD
  have HE := hide (fun w' (hb : Below w.heap.size w w') => datumOf_any lb g' c' w' hl' (ht'.below hb))
  rw [hn'] at HE
  unfold DPost at HE
  rw [hv'] at HE
  have HT := hide htr
  have HU := hide htr'
  have HDO := hide hdo
  clear ht hv hl hn ht' hv' hl' hn' htr htr' hdo
  unfold deedV
  have hf := fn_nil f b
  obtain ⟨iD, hDi, hDz, hDs, hDb⟩ := info_parts Tryz.infoDat
  go_enter Tryz.func23, Tryz.ntmps23
  go_wp2_with (at_make; refine wpList_make_full _ rfl _ _ 75 rfl w.heap.size 77 iD _ 1 Tryz.underlying75 hDi hDz hDs _ _ _ _ 2 rfl rfl rfl rfl (by rw [hDb]; omega) (by unfold maxLen; omega) (by simp; omega) ?_)
  intro w1 hown hgrow
  have HP := hide (P2.start hown hgrow)
  clear hown hgrow hf
  go_wp2_with fail
  go_loopw [29] (fun q wr => (q = .int .i64 0 ∧ P2 w (.func (.func f) #[] #[.pointer (some ⟨b, 0, none⟩)]) .nilIface .nilIface wr) ∨ (q = .int .i64 1 ∧ ∃ xa x, DatAt wr x t xa ∧ P2 w (.func (.func f) #[] #[.pointer (some ⟨b, 0, none⟩)]) xa .nilIface wr) ∨ (q = .int .i64 2 ∧ ∃ xa xb x y, DatAt wr x t xa ∧ DatAt wr y u xb ∧ P2 w (.func (.func f) #[] #[.pointer (some ⟨b, 0, none⟩)]) xa xb wr)) (fun q _ => 2 - (intOf q).toNat)
  case atStart => exact .inl ⟨rfl, HP.out⟩
  case round =>
    rcases hrel with ⟨rfl, p⟩ | ⟨rfl, xa, x, hda, p⟩ | ⟨rfl, xa, xb, x, y, hda, hdb, p⟩
    · have cc := (p.B.cell (p := ⟨gv, 0, none⟩) hgv).trans hc
      go_wp2_with fail
      have p2 := p.below (W' := wr.alloc (.cells #[.slice (some ⟨g, 0, none⟩) n c] 28)) ((Below.refl _ _).alloc (Nat.le_refl _) _)
      refine (HD.out _ p2.B).mono ?_
      rintro e w2 ⟨hb2, v, rfl, hd⟩
      obtain ⟨t', x, ht', _, _, hD⟩ := hd trivial
      obtain rfl : t' = t := Option.some.inj (ht'.symm.trans HT.out)
      have p3 := p2.below hb2
      have hvs := p3.v0
      have hvf := p3.vf0
      obtain ⟨y, z, rfl⟩ := hD.isIface
      have HDT := hide (hD.set ⟨w.heap.size + 1 + 1, 0, none⟩ hvs (.iface y z))
      clear hb2 hD cc p p2 ht' hd
      go_wp2
      go_roundw
      case rel => exact .inr (.inl ⟨rfl, _, x, HDT.out, p3.put0 _⟩)
      case measure => simp [intOf]
    · have cc := (p.B.cell (p := ⟨gv, 1, none⟩) hgv).trans hc'
      have HDA := hide hda
      clear hda
      go_wp2_with fail
      have p2 := p.below (W' := wr.alloc (.cells #[.slice (some ⟨g', 0, none⟩) n' c'] 28)) ((Below.refl _ _).alloc (Nat.le_refl _) _)
      refine (HE.out _ p2.B).mono ?_
      rintro e w2 ⟨hb2, v, rfl, hd⟩
      obtain ⟨u', x2, hu', _, _, hD⟩ := hd trivial
      obtain rfl : u' = u := Option.some.inj (hu'.symm.trans HU.out)
      have p3 := p2.below hb2
      have hvs := p3.v1
      have hvf := p3.vf1
      obtain ⟨y, z, rfl⟩ := hD.isIface
      have HDT := hide (hD.set ⟨w.heap.size + 1 + 1, 1, none⟩ hvs (.iface y z))
      have HDB := hide (((HDA.out.moves (Moves.below ((Below.refl wr.heap.size wr).alloc (Nat.le_refl _) (.cells #[.slice (some ⟨g', 0, none⟩) n' c'] 28)))).moves (Moves.below hb2)).set ⟨w.heap.size + 1 + 1, 1, none⟩ hvs (.iface y z))
      clear hb2 hD cc p p2 hu' hd HDA
      go_wp2
      go_roundw
      case rel => exact .inr (.inr ⟨rfl, xa, _, x, x2, HDB.out, HDT.out, p3.put1 _⟩)
      case measure => simp [intOf]
    · have cd := p.d
      have cr := p.r
      have fr := p.f
      have hz := p.z
      have HC := hide (HDO.out wr p.B (w.heap.size + 1 + 1) x y xa xb p.z p.v0 p.v1 hda hdb)
      have HPP := hide p
      clear hda hdb HD HE HDO p
      cases out with
      | inl l =>
        have hne : ¬ l = [] := hfi
        have hl0 : (⟨l.toArray⟩ : ByteArray).toList.isEmpty = false := by
          rw [ByteArray.toList_eq]
          cases l with
          | nil => exact absurd rfl hne
          | cons a r => rfl
        go_wp2_with fail
        refine HC.out.mono ?_
        rintro e w2 ⟨dv, s, rfl, hb2, rfl, rfl⟩
        have p2 := HPP.out.below hb2
        have cr2 := p2.r
        have fr2 := p2.f
        clear cr fr cd
        have HS := hide (show Out.res (.inl l) = ([], l) from rfl)
        generalize hsl : (⟨l.toArray⟩ : ByteArray) = sl at *
        have HSL := hide hsl
        clear hsl
        go_wp2
        refine bodyPost_ret (v := .tuple #[.agg #[.slice none 0 0], .string sl]) (by simp [results, Tryz.results23, go_sem, cr2]) rfl ?_
        rw [HS.out, ← HSL.out]
        exact ppost2_no (p2.set _)
      | inr tt =>
        go_wp2_with fail
        refine HC.out.mono ?_
        rintro e w2 ⟨dv, s, rfl, hb2, rfl, hg, hcnt, z, hdat⟩
        have p2 := HPP.out.below hb2
        have cr2 := p2.r
        have fr2 := p2.f
        have HV := hide (valueOf_any tt dv z w2 hg hcnt hdat)
        clear cr fr cd
        go_wp2_with fail
        refine HV.out.mono ?_
        rintro e w3 ⟨v, rfl, hov, hb3⟩
        have p3 := p2.below hb3
        have cr3 := p3.r
        have fr3 := p3.f
        obtain ⟨g9, c9, rfl, hown⟩ := hov
        have HOW := hide hown
        have hg9 := (hown.lt g9 rfl).1
        have hzz := p2.z
        have hsz := p2.B.size
        clear hown cr2 fr2
        go_wp2
        refine bodyPost_ret (v := .tuple #[.agg #[.slice (some ⟨g9, 0, none⟩) tt.atoms.length c9], .string ⟨#[]⟩]) (by simp [results, Tryz.results23, go_sem, cr3]) rfl ?_
        exact ⟨_, rfl, .inr ⟨g9, c9, rfl, row_mono (row_sameE HOW.out (Below.heap_setCell _ _ _ _ (show g9 ≠ w.heap.size + 1 by omega))) (by omega)⟩, p3.set _⟩
end Go.Proofs.YtnkfbjcgkdblgaaGreat.Vl
