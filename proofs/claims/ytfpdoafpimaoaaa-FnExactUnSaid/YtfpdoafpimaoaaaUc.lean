/- Walks: Un, on the program's side. -/
import Derived.Test.YtfpdoafpimaoaaaSb
import Derived.Test.YtfpdoafpimaoaaaQx
namespace Go.Proofs.Ytfpdoafpimaoaaa.Vl
open Go.RowKit T.atoms T.ok T.high T.good T.allPlain

/-- A value with one atom of one's own. -/
def OneV (w : World) (B : Nat) (v : Value) (a : At) : Prop := ∃ g c, v = .slice (some ⟨g, 0, none⟩) 1 c ∧ w.ownsRow B 55 4 (.slice (some ⟨g, 0, none⟩) 1 c) 1 [.int .i64 a.kind, .int .i64 a.n, .string a.text, .int .i64 a.kids]

set_option maxHeartbeats 400000 in
theorem valueOf_one (dv : Value) (a : At) (w : World) (HA : Hid (∀ w, Calls Try.prog 80 #[dv, .slice none 0 0] w fun e w' => ∃ g c, e = .returned (.slice (some ⟨g, 0, none⟩) 1 c) ∧ w'.ownsRow w.heap.size 55 4 (.slice (some ⟨g, 0, none⟩) 1 c) 1 [.int .i64 a.kind, .int .i64 a.n, .string a.text, .int .i64 a.kids] ∧ Below w.heap.size w w')) :
    Calls Try.prog 57 #[dv] w fun e w' => ∃ v, e = .returned (.agg #[v]) ∧ OneV w' w.heap.size v a ∧ Below w.heap.size w w' := by
  go_enter Try.func57, Try.ntmps57
  go_wp2_with fail
  have hq : Below w.heap.size w (w.alloc (.cells #[.slice none 0 0] 25)) := (Below.refl _ _).alloc (Nat.le_refl _) _
  refine (HA.out _).mono ?_
  rintro e w1 ⟨g, c, rfl, ho, hb1⟩
  have hg := (ho.lt g rfl).1
  simp only [World.size_alloc] at hg ho
  have hn := cell_new w (.slice none 0 0) 25
  have hx : w1.cell? ⟨w.heap.size, 0, none⟩ = some (.slice none 0 0) := (hb1.cell (p := ⟨w.heap.size, 0, none⟩) (by simp)).trans hn.1
  have fx : w1.frozen? ⟨w.heap.size, 0, none⟩ = false := (hb1.frozen (p := ⟨w.heap.size, 0, none⟩) (by simp)).trans hn.2
  have hB := hq.trans (hb1.mono hq.size)
  have HO := hide ho
  clear hb1 hq hn ho
  go_wp2
  refine bodyPost_ret (v := .agg #[.slice (some ⟨g, 0, none⟩) 1 c]) (by simp [results, Try.results57, go_sem, hx]) rfl ⟨_, rfl, ⟨g, c, rfl, ?_⟩, hB.setCell (p := ⟨w.heap.size, 0, none⟩) (Nat.le_refl _) _⟩
  exact row_mono (row_same HO.out (Below.heap_setCell _ _ _ _ (show g ≠ w.heap.size by omega))) (by omega)

theorem fn_nil (f b : Nat) (w : World) : (Go.binOp BinOp.eql 64 (.func (.func f) #[] #[.pointer (some ⟨b, 0, none⟩)]) .nilFunc).run Try.prog w = .ok (.bool false) w := by kernel_rfl
theorem fn_none (w : World) : (Go.binOp BinOp.eql 64 .nilFunc .nilFunc).run Try.prog w = .ok (.bool true) w := by kernel_rfl
/-- A datum's kind, as far as a deed of one arg asks. -/
def Leaf (k n : Int) (v : Value) : Prop := ∃ y u, v = .iface y u ∧ (k = 2 → v = .iface 78 (.bool (n == 1))) ∧ (k = 3 → v = .iface 81 (.int .i64 n)) ∧ (¬ k = 2 → ¬ y = 78) ∧ (¬ k = 3 → ¬ y = 81)
theorem leaf_of {w : World} {x : Nat} {t : T} {v : Value} (h : DatAt w x t v) : Leaf t.kind t.num v := by
  cases t with
  | mk k n s ks =>
    rw [DatAt] at h
    show Leaf k n v
    rcases h with ⟨rfl, rfl⟩ | ⟨rfl, rfl⟩ | ⟨rfl, rfl⟩ | ⟨rfl, rfl⟩ | ⟨rfl, p, c, vs, rfl, _⟩ | ⟨rfl, p, c, m, vs, _, rfl, _⟩ <;> exact ⟨_, _, rfl, by simp, by simp, by simp, by simp⟩
/-- What perform keeps in boxes, in a later world. -/
structure PB (w : World) (fv xv : Value) (W : World) : Prop where
  B : Below w.heap.size w W
  d : W.cell? ⟨w.heap.size, 1, none⟩ = some fv
  r : W.cell? ⟨w.heap.size + 1, 0, none⟩ = some (.slice none 0 0)
  f : W.frozen? ⟨w.heap.size + 1, 0, none⟩ = false
  v : W.cell? ⟨w.heap.size + 1 + 1, 0, none⟩ = some xv
  vf : W.frozen? ⟨w.heap.size + 1 + 1, 0, none⟩ = false
  z : w.heap.size + 1 + 1 < W.heap.size
theorem PB.below {w W W' : World} {fv xv : Value} (h : PB w fv xv W) (hb : Below W.heap.size W W') : PB w fv xv W' :=
  ⟨h.B.trans (hb.mono h.B.size), (hb.cell (p := ⟨w.heap.size, 1, none⟩) (by have := h.z; show w.heap.size < _; omega)).trans h.d, (hb.cell (p := ⟨w.heap.size + 1, 0, none⟩) (by have := h.z; show w.heap.size + 1 < _; omega)).trans h.r, (hb.frozen (p := ⟨w.heap.size + 1, 0, none⟩) (by have := h.z; show w.heap.size + 1 < _; omega)).trans h.f, (hb.cell (p := ⟨w.heap.size + 1 + 1, 0, none⟩) h.z).trans h.v, (hb.frozen (p := ⟨w.heap.size + 1 + 1, 0, none⟩) h.z).trans h.vf, Nat.lt_of_lt_of_le h.z hb.size⟩
theorem PB.set {w W : World} {fv xv : Value} (h : PB w fv xv W) (v : Value) : Below w.heap.size w (W.setCell ⟨w.heap.size + 1, 0, none⟩ v) := h.B.setCell (p := ⟨w.heap.size + 1, 0, none⟩) (by simp) _
end Go.Proofs.Ytfpdoafpimaoaaa.Vl
