/- Walks: Order on the program's side; the law on Order. -/
import Derived.Test.YtfpdoafpimaoaaaOf
import Derived.Deep.CutRange
namespace Go.Proofs.Ytfpdoafpimaoaaa.Vl
open Go.RowKit T.atoms T.ok T.high T.good T.allPlain DatAt T.ord

theorem szGo_le (l : List At) : ∀ left : Int, left ≤ 1048576 → szGo l left ≤ 1048576 := by
  induction l with
  | nil => intro left h; exact h
  | cons y r ih =>
    intro left h
    rw [szGo]
    split
    · omega
    · exact ih _ (by omega)
theorem szS_le (l : List At) (L : Int) (h : L ≤ 1048576) : szS l L ≤ 1048576 := by
  unfold szS
  split
  · omega
  · exact szGo_le l _ (by omega)
/-- Two boxes, one behind the other. -/
theorem two_boxes (w : World) (u v : Value) (t t' : TypeId) : Below w.heap.size w ((w.alloc (.cells #[u] t)).alloc (.cells #[v] t')) ∧ ((w.alloc (.cells #[u] t)).alloc (.cells #[v] t')).cell? ⟨w.heap.size, 0, none⟩ = some u ∧ ((w.alloc (.cells #[u] t)).alloc (.cells #[v] t')).cell? ⟨w.heap.size + 1, 0, none⟩ = some v := by
  refine ⟨((Below.refl _ _).alloc (Nat.le_refl _) _).alloc (by simp) _, ?_, ?_⟩
  · have r2 : Below (w.heap.size + 1) (w.alloc (.cells #[u] t)) ((w.alloc (.cells #[u] t)).alloc (.cells #[v] t')) := (Below.refl _ _).alloc (by simp) _
    exact (r2.cell (p := ⟨w.heap.size, 0, none⟩) (Nat.lt_succ_self _)).trans (by simp)
  · have := (cell_new (w.alloc (.cells #[u] t)) v t').1
    rwa [World.size_alloc] at this

set_option maxRecDepth 100000 in
set_option maxHeartbeats 1000000 in
theorem implOrder_any (l l' : List At) (g g' c c' : Nat) (w : World) (ht : AtomsO w g 0 l) (ht' : AtomsO w g' 0 l') (hl : l.length ≤ 1048576) (hl' : l'.length ≤ 1048576) :
    Calls Try.prog 8 #[.agg #[.slice (some ⟨g, 0, none⟩) l.length c], .agg #[.slice (some ⟨g', 0, none⟩) l'.length c']] w fun e w' => e = .returned (.int .i64 (ordOf l l')) ∧ Below w.heap.size w w' := by
  obtain ⟨r1, b0, b1⟩ := two_boxes w (.slice (some ⟨g, 0, none⟩) l.length c) (.slice (some ⟨g', 0, none⟩) l'.length c') 25 25
  have HV1 := hide (fun w1 (hb : Below w.heap.size w w1) => datumOf_any l g c w1 hl (ht.below hb))
  have HV2 := hide (fun w1 (hb : Below w.heap.size w w1) => datumOf_any l' g' c' w1 hl' (ht'.below hb))
  clear ht ht'
  go_enter Try.func8, Try.ntmps8
  go_wp2_with fail
  refine (HV1.out _ r1).mono ?_
  rintro e w1 ⟨hb1, v, rfl, hyes⟩
  have B1 := r1.trans (hb1.mono r1.size)
  have y1 := (hb1.cell (p := ⟨w.heap.size + 1, 0, none⟩) (by show w.heap.size + 1 < _; simp)).trans b1
  clear hb1 b0 b1
  cases hv : valid l
  · have HZ : Hid (ordOf l l' = 0) := hide (ordOf_no (by rw [hv]; rfl))
    clear hyes
    go_wp2
    go_ret
    exact ⟨ret_int HZ.out.symm, B1⟩
  · obtain ⟨t, x, htr, hgd, hct, hdt⟩ := hyes hv
    have HDT := hide hdt
    clear hyes hdt
    go_wp2_with fail
    refine (HV2.out _ B1).mono ?_
    rintro e w2 ⟨hb2, v', rfl, hyes⟩
    have B2 := B1.trans (hb2.mono B1.size)
    cases hv' : valid l'
    · have HZ : Hid (ordOf l l' = 0) := hide (ordOf_no (by rw [hv']; simp))
      clear hyes
      go_wp2
      go_ret
      exact ⟨ret_int HZ.out.symm, B2⟩
    · obtain ⟨t', x', htr', hgd', hct', hdt'⟩ := hyes hv'
      have HZ : Hid (ordOf l l' = t.ord t') := hide (ordOf_yes hv hv' htr htr')
      have HC := hide (compare_any (t.count + 1) t t' v v' x x' w2 (Nat.lt_succ_self _) hct hct' hgd hgd' (DatAt.moves (Moves.below (x := x) hb2) _ _ HDT.out) hdt')
      clear hyes hdt' hb2
      go_wp2_with fail
      refine HC.out.mono ?_
      rintro e w3 ⟨rfl, hb3⟩
      go_wp2
      go_ret
      exact ⟨ret_int HZ.out.symm, B2.trans (hb3.mono B2.size)⟩

end Go.Proofs.Ytfpdoafpimaoaaa.Vl
