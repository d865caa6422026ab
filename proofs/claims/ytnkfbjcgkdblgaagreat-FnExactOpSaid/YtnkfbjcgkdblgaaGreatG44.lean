/- Joined: Lx. -/
import Derived.Test.YtnkfbjcgkdblgaaGreatG43
import Derived.Laws.OwnMore
namespace Go.Proofs.YtnkfbjcgkdblgaaGreat.Vl
open Go.RowKit T.atoms T.ok T.high T.good T.allPlain T.ord
theorem KidsAt.append {w : World} {va vb : List Value} {a b : List T} (h : KidsAt w va a) (h' : KidsAt w vb b) : KidsAt w (va ++ vb) (a ++ b) := by
  refine ⟨by simp [h.1, h'.1], fun j hj => ?_⟩
  by_cases hl : j < a.length
  · obtain ⟨g, o, c, h1, h2, h3⟩ := h.2 j hl
    rw [List.getElem_append_left hl]
    exact ⟨g, o, c, by rw [List.getElem?_append_left (by rw [h.1]; exact hl)]; exact h1, h2, h3⟩
  · obtain ⟨g, o, c, h1, h2, h3⟩ := h'.2 (j - a.length) (by simp at hj; omega)
    rw [List.getElem_append_right (by omega)]
    exact ⟨g, o, c, by rw [List.getElem?_append_right (by rw [h.1]; omega), h.1]; exact h1, h2, h3⟩
theorem kids_one {w : World} {va : List Value} {a : List T} (h : KidsAt w va a) : ∀ u ∈ va, u.oneCell' = true := by
  intro u hu
  obtain ⟨j, hj⟩ := List.mem_iff_getElem?.1 hu
  have hl : j < a.length := by rw [← h.1]; exact (List.getElem?_eq_some_iff.1 hj).1
  obtain ⟨g, o, c, h1, _⟩ := h.2 j hl
  rw [h1] at hj
  cases hj
  rfl
theorem rowV_cells {w : World} {base g n c : Nat} {vs : List Value} (h : w.ownsRow base 28 1 (.slice (some ⟨g, 0, none⟩) n c) n vs) : ∀ j u, vs[j]? = some u → w.cell? ((⟨g, 0, none⟩ : Addr).add j) = some u := by
  intro j u hu
  have hj : j < vs.length := (List.getElem?_eq_some_iff.1 hu).1
  have := h.cellAt j (by have := h.1; omega)
  rw [add_plain, Nat.zero_add, this]
  exact hu
theorem row_room2 {w : World} {base : Nat} {v : Value} {n : Nat} {vs : List Value} (h : w.ownsRow base 28 1 v n vs) (hn : n = vs.length) : ∃ p c, v = .slice p n c ∧ CellsV w p vs := by
  rcases h.2 with ⟨h1, h2⟩ | ⟨g, c, cur, h1, hge, hg, _⟩
  · exact ⟨none, 0, by rw [h1, h2], .inl (List.eq_nil_of_length_eq_zero (by omega))⟩
  · subst h1
    refine ⟨_, c, rfl, .inr ⟨g, rfl, (h.lt g rfl).2, fun j u hu => ?_⟩⟩
    have := rowV_cells h j u hu
    rwa [add_plain, Nat.zero_add] at this
set_option maxRecDepth 100000 in
set_option maxHeartbeats 1000000 in
theorem add6_listYes (t u : T) (g g' c c' m m' : Nat) (w : World) (hm : t.count = m + 1) (hm' : u.count = m' + 1) (h1 : m < 1000) (h2 : m' < 1000) (hc : m + 1 ≤ c) (hc' : m' + 1 ≤ c') (ht : AtomsO w g 0 t.atoms) (ht' : AtomsO w g' 0 u.atoms) (hk : t.kind = 5) (hk' : u.kind = 5) (hv : valid (T.mk 5 0 ⟨#[]⟩ (t.ks ++ u.ks)).atoms = true) :
    Calls Tryz.prog 19 #[.agg #[.slice (some ⟨g, 0, none⟩) (m + 1) c], .agg #[.slice (some ⟨g', 0, none⟩) (m' + 1) c']] w (OPost w ((T.mk 5 0 ⟨#[]⟩ (t.ks ++ u.ks)).atoms, [])) := by
  obtain ⟨iV, hV, hVz, hVs, hVb⟩ := info_parts Tryz.infoVal
  have HKD := hide (fun w1 (hb : Below w.heap.size w w1) => kids5_any t.atoms g 0 c m w1 hm (by omega) (ht.below hb) hc)
  have HK1 := hide (fun w1 (hb : Below w.heap.size w w1) => kind6_any ⟨t.kind, t.num, t.text, t.ks.length⟩ t.atoms g 0 c m w1 hm (by omega) (atoms_last t m hm) (ht.below hb))
  have HK2 := hide (fun w1 (hb : Below w.heap.size w w1) => kind6_any ⟨u.kind, u.num, u.text, u.ks.length⟩ u.atoms g' 0 c' m' w1 hm' (by omega) (atoms_last u m' hm') (ht'.below hb))
  have HKE := hide (fun w1 (hb : Below w.heap.size w w1) => kids5_any u.atoms g' 0 c' m' w1 hm' (by omega) (ht'.below hb) hc')
  have _HLA := hide (fun w1 (hb : Below w.heap.size w w1) => last_any ⟨t.kind, t.num, t.text, t.ks.length⟩ t.atoms g 0 c m w1 hm (by omega) (atoms_last t m hm) (ht.below hb))
  have _HLB := hide (fun w1 (hb : Below w.heap.size w w1) => last_any ⟨u.kind, u.num, u.text, u.ks.length⟩ u.atoms g' 0 c' m' w1 hm' (by omega) (atoms_last u m' hm') (ht'.below hb))
  rw [hk] at HK1
  rw [hk'] at HK2
  have hla := len_le_atomsL t.ks
  have hlb := len_le_atomsL u.ks
  have hct := T.count_eq t
  have hcu := T.count_eq u
  clear ht ht'
  have o0 := OB.start w (.slice (some ⟨g, 0, none⟩) (m + 1) c) (.slice (some ⟨g', 0, none⟩) (m' + 1) c')
  go_enter Tryz.func19, Tryz.ntmps19
  have O0 := hide o0
  have a0 := o0.a
  have b0 := o0.b
  clear o0
  go_wp2_with fail
  go_region_held3 (fun w' => w'.cell? ⟨w.heap.size, 0, none⟩ = some (.slice (some ⟨g, 0, none⟩) (m + 1) c) ∧ w'.cell? ⟨w.heap.size + 1, 0, none⟩ = some (.slice (some ⟨g', 0, none⟩) (m' + 1) c')) (go_keep) (first
    | (refine step_call1 rfl 16 (.tmp 13) 28 rfl (.agg #[.slice (some ⟨g, 0, none⟩) (m + 1) c]) (.int .i64 5) (by simp [Act.eval]) Tryz.f16 Tryz.func16 (by kernel_rfl) (by kernel_rfl) _ (HK1.out _ O0.out.drew.B) ?_; intro w1 hb1; have o1 := O0.out.drew.below hb1; have a1 := o1.a; have b1 := o1.b)
    | (refine step_call1 rfl 16 (.tmp 15) 28 rfl (.agg #[.slice (some ⟨g', 0, none⟩) (m' + 1) c']) (.int .i64 5) (by simp [Act.eval]) Tryz.f16 Tryz.func16 (by kernel_rfl) (by kernel_rfl) _ (HK2.out _ o1.B) ?_; intro w2 hb2; have o2 := o1.below hb2; have a2 := o2.a; have b2 := o2.b))
  have O2 := hide o2
  have a2' := o2.a
  have b2' := o2.b
  clear hb1 hb2 o1 o2 a1 b1 a2 b2 a0 b0
  go_wp2_with fail
  refine (HKD.out _ O2.out.B).mono ?_
  rintro e w3 ⟨g7, c7, nk, vs, ok, rfl, ⟨hy7, -⟩, hb3⟩
  obtain ⟨rfl, rfl, hown7, hk7⟩ := hy7 t (treeOf_atoms t)
  clear hy7
  have O3 := hide (O2.out.below hb3)
  have b3 := O3.out.b
  clear hb3 a2' b2'
  go_wp2_with fail
  refine (HKE.out _ O3.out.B).mono ?_
  rintro e w4 ⟨g8, c8, nk8, vs8, ok8, rfl, ⟨hy8, -⟩, hb4⟩
  obtain ⟨rfl, rfl, hown8, hk8⟩ := hy8 u (treeOf_atoms u)
  clear hy8
  have HO7 := hide (row_below hown7 hb4)
  have HK7 := hide (hk7.below hb4)
  clear hown7 hk7
  have O4 := hide (O3.out.below hb4)
  have a4 := O4.out.a
  clear hb4 b3
  go_wp2_with fail
  refine (HK1.out _ O4.out.B).mono ?_
  rintro e w5 ⟨rfl, hb5⟩
  have O5 := hide (O4.out.below hb5)
  have HO7' := hide (row_below HO7.out hb5)
  have HK7' := hide (HK7.out.below hb5)
  have HO8' := hide (row_below hown8 hb5)
  have HK8' := hide (hk8.below hb5)
  clear hown8 hk8
  clear hb5 a4
  have a5 := O5.out.a
  have b5 := O5.out.b
  have hal : (atomsL (t.ks ++ u.ks)).length ≤ 100000 := by rw [atomsL_append, List.length_append]; omega
  have hll : (t.ks ++ u.ks).length ≤ 10000 := by rw [List.length_append]; omega
  have hvl : vs.length = t.ks.length := HK7'.out.1
  have hvl8 : vs8.length = u.ks.length := HK8'.out.1
  have HMK := hide (fun p9 c9 w9 (hk9 : KidsAt w9 (vs ++ vs8) (t.ks ++ u.ks)) (hc9 : CellsV w9 p9 (vs ++ vs8)) => make5_tree 5 c9 p9 (vs ++ vs8) (t.ks ++ u.ks) w9 hll hal hk9 hc9)
  have HRG := hide (fun gz cz w' (h : AtomsO w' gz 0 (T.mk 5 0 ⟨#[]⟩ (t.ks ++ u.ks)).atoms) (hcz : (T.mk 5 0 ⟨#[]⟩ (t.ks ++ u.ks)).atoms.length ≤ cz) => right6_yes _ gz cz w' h hcz (by rw [show (T.mk 5 0 ⟨#[]⟩ (t.ks ++ u.ks)).atoms.length = (T.mk 5 0 ⟨#[]⟩ (t.ks ++ u.ks)).count from rfl, T.count_eq]; show 1 + (atomsL (t.ks ++ u.ks)).length ≤ _; omega) hv)
  have hll2 : (t.ks ++ u.ks).length = t.ks.length + u.ks.length := List.length_append
  have HLL := hide hll2
  have hk1 : t.ks.length ≤ 1000 := by omega
  have hk2 : u.ks.length ≤ 1000 := by omega
  clear hal hll hct hcu hla hlb hv hll2
  have hown0 := World.ownsRow_lit (base := w5.heap.size) (e := 28) (size := 1) w5 #[] 0 (Nat.le_refl _) (Nat.zero_le _) rfl
  have hz5 := O5.out.B.size
  go_wp2_with (at_builtin; refine wpList_append_own_at _ rfl _ _ 60 rfl w5.heap.size 28 iV _ 1 24 Tryz.underlying60 hV hVz hVs hVb rfl (by decide) (.slice (some ⟨w5.heap.size, 0, none⟩) 0 0) 0 [] rfl hown0 ⟨g7, 0, none⟩ t.ks.length c7 vs rfl (by omega) (rowV_cells (HO7'.out.alloc _)) (kids_one HK7'.out) (by unfold maxLen; omega) (by omega) (by simp) ?_)
  intro v6 w6 q1 q2 q3 q4
  obtain ⟨p6, c6, rfl⟩ := row_form q1
  have b6 : Below w5.heap.size w5 w6 := ((Below.refl _ _).alloc (Nat.le_refl _) _).grown q2 (by simp) (fun k e => by simp [Value.ownBlock] at e; omega)
  have HQ1 := hide q1
  have HO8b := hide (row_below HO8'.out b6)
  have hz6 := b6.size
  clear q1 q2 q3 q4 hown0
  go_wp2_with (at_builtin; refine wpList_append_own_at _ rfl _ _ 60 rfl w5.heap.size 28 iV _ 1 24 Tryz.underlying60 hV hVz hVs hVb rfl (by decide) (.slice p6 t.ks.length c6) t.ks.length vs rfl HQ1.out ⟨g8, 0, none⟩ u.ks.length c8 vs8 rfl (by omega) (rowV_cells HO8b.out) (kids_one HK8'.out) (by unfold maxLen; omega) (by omega) hz6 ?_)
  intro v7 w7 q1 q2 q3 q4
  have b7 : Below w5.heap.size w5 w7 := b6.grown q2 hz6 (fun k e => (HQ1.out.lt k e).1)
  obtain ⟨p7, c7', rfl, hcv⟩ := row_room2 q1 (by rw [List.length_append]; omega)
  have HX := hide (HMK.out p7 c7' w7 (KidsAt.append (HK7'.out.below b7) (HK8'.out.below b7)) hcv)
  rw [HLL.out] at HX
  have O7 := hide (O5.out.below b7)
  clear q1 q2 q3 q4 hcv b6 b7
  go_wp2_with fail
  refine HX.out.mono ?_
  rintro e w8 ⟨gz, cz, rfl, hcz, hgz, haz, hb8⟩
  have O8 := hide (O7.out.below hb8)
  have HY := hide (HRG.out gz cz w8 haz hcz)
  clear haz hb8 HX
  generalize (T.mk 5 0 ⟨#[]⟩ (t.ks ++ u.ks)).atoms = la at *
  go_wp2_with fail
  refine HY.out.mono ?_
  rintro e w9 ⟨hb9, ⟨hr, rfl⟩ | ⟨ga, ca, hga, rfl, ha⟩⟩
  all_goals
    have o9 := O8.out.below hb9
    have hz8 := O8.out.z
    have hs8 := O8.out.B.size
    have r9 := o9.r
    have f9 := o9.f
    have B9 := o9.B
    clear hb9 o9
    go_wp2
  · refine bodyPost_ret (v := .tuple #[.agg #[.slice none 0 0], .string ⟨#[]⟩]) (by simp [results, Tryz.results19, go_sem, r9]) rfl ?_
    exact ⟨B9.setCell (p := ⟨w.heap.size + 1 + 1, 0, none⟩) (by show w.heap.size ≤ w.heap.size + 1 + 1; omega) _, .inl ⟨hr, rfl⟩⟩
  · refine bodyPost_ret (v := .tuple #[.agg #[.slice (some ⟨ga, 0, none⟩) la.length ca], .string ⟨#[]⟩]) (by simp [results, Tryz.results19, go_sem, r9]) rfl ?_
    exact ⟨B9.setCell (p := ⟨w.heap.size + 1 + 1, 0, none⟩) (by show w.heap.size ≤ w.heap.size + 1 + 1; omega) _, .inr ⟨ga, ca, by omega, rfl, atomsO_set ha _ (by show w.heap.size + 1 + 1 ≠ ga; omega) _⟩⟩
set_option maxRecDepth 100000 in
set_option maxHeartbeats 1000000 in
theorem add6_listNo (t u : T) (g g' c c' m m' : Nat) (w : World) (hm : t.count = m + 1) (hm' : u.count = m' + 1) (h1 : m < 1000) (h2 : m' < 1000) (hc : m + 1 ≤ c) (hc' : m' + 1 ≤ c') (ht : AtomsO w g 0 t.atoms) (ht' : AtomsO w g' 0 u.atoms) (hk : t.kind = 5) (hk' : u.kind = 5) (hv : valid (T.mk 5 0 ⟨#[]⟩ (t.ks ++ u.ks)).atoms = false) :
    Calls Tryz.prog 19 #[.agg #[.slice (some ⟨g, 0, none⟩) (m + 1) c], .agg #[.slice (some ⟨g', 0, none⟩) (m' + 1) c']] w (OPost w ([], [108, 97, 114, 103, 101])) := by
  obtain ⟨iV, hV, hVz, hVs, hVb⟩ := info_parts Tryz.infoVal
  have HKD := hide (fun w1 (hb : Below w.heap.size w w1) => kids5_any t.atoms g 0 c m w1 hm (by omega) (ht.below hb) hc)
  have HK1 := hide (fun w1 (hb : Below w.heap.size w w1) => kind6_any ⟨t.kind, t.num, t.text, t.ks.length⟩ t.atoms g 0 c m w1 hm (by omega) (atoms_last t m hm) (ht.below hb))
  have HK2 := hide (fun w1 (hb : Below w.heap.size w w1) => kind6_any ⟨u.kind, u.num, u.text, u.ks.length⟩ u.atoms g' 0 c' m' w1 hm' (by omega) (atoms_last u m' hm') (ht'.below hb))
  have HKE := hide (fun w1 (hb : Below w.heap.size w w1) => kids5_any u.atoms g' 0 c' m' w1 hm' (by omega) (ht'.below hb) hc')
  have _HLA := hide (fun w1 (hb : Below w.heap.size w w1) => last_any ⟨t.kind, t.num, t.text, t.ks.length⟩ t.atoms g 0 c m w1 hm (by omega) (atoms_last t m hm) (ht.below hb))
  have _HLB := hide (fun w1 (hb : Below w.heap.size w w1) => last_any ⟨u.kind, u.num, u.text, u.ks.length⟩ u.atoms g' 0 c' m' w1 hm' (by omega) (atoms_last u m' hm') (ht'.below hb))
  rw [hk] at HK1
  rw [hk'] at HK2
  have hla := len_le_atomsL t.ks
  have hlb := len_le_atomsL u.ks
  have hct := T.count_eq t
  have hcu := T.count_eq u
  clear ht ht'
  have o0 := OB.start w (.slice (some ⟨g, 0, none⟩) (m + 1) c) (.slice (some ⟨g', 0, none⟩) (m' + 1) c')
  go_enter Tryz.func19, Tryz.ntmps19
  have O0 := hide o0
  have a0 := o0.a
  have b0 := o0.b
  clear o0
  go_wp2_with fail
  go_region_held3 (fun w' => w'.cell? ⟨w.heap.size, 0, none⟩ = some (.slice (some ⟨g, 0, none⟩) (m + 1) c) ∧ w'.cell? ⟨w.heap.size + 1, 0, none⟩ = some (.slice (some ⟨g', 0, none⟩) (m' + 1) c')) (go_keep) (first
    | (refine step_call1 rfl 16 (.tmp 13) 28 rfl (.agg #[.slice (some ⟨g, 0, none⟩) (m + 1) c]) (.int .i64 5) (by simp [Act.eval]) Tryz.f16 Tryz.func16 (by kernel_rfl) (by kernel_rfl) _ (HK1.out _ O0.out.drew.B) ?_; intro w1 hb1; have o1 := O0.out.drew.below hb1; have a1 := o1.a; have b1 := o1.b)
    | (refine step_call1 rfl 16 (.tmp 15) 28 rfl (.agg #[.slice (some ⟨g', 0, none⟩) (m' + 1) c']) (.int .i64 5) (by simp [Act.eval]) Tryz.f16 Tryz.func16 (by kernel_rfl) (by kernel_rfl) _ (HK2.out _ o1.B) ?_; intro w2 hb2; have o2 := o1.below hb2; have a2 := o2.a; have b2 := o2.b))
  have O2 := hide o2
  have a2' := o2.a
  have b2' := o2.b
  clear hb1 hb2 o1 o2 a1 b1 a2 b2 a0 b0
  go_wp2_with fail
  refine (HKD.out _ O2.out.B).mono ?_
  rintro e w3 ⟨g7, c7, nk, vs, ok, rfl, ⟨hy7, -⟩, hb3⟩
  obtain ⟨rfl, rfl, hown7, hk7⟩ := hy7 t (treeOf_atoms t)
  clear hy7
  have O3 := hide (O2.out.below hb3)
  have b3 := O3.out.b
  clear hb3 a2' b2'
  go_wp2_with fail
  refine (HKE.out _ O3.out.B).mono ?_
  rintro e w4 ⟨g8, c8, nk8, vs8, ok8, rfl, ⟨hy8, -⟩, hb4⟩
  obtain ⟨rfl, rfl, hown8, hk8⟩ := hy8 u (treeOf_atoms u)
  clear hy8
  have HO7 := hide (row_below hown7 hb4)
  have HK7 := hide (hk7.below hb4)
  clear hown7 hk7
  have O4 := hide (O3.out.below hb4)
  have a4 := O4.out.a
  clear hb4 b3
  go_wp2_with fail
  refine (HK1.out _ O4.out.B).mono ?_
  rintro e w5 ⟨rfl, hb5⟩
  have O5 := hide (O4.out.below hb5)
  have HO7' := hide (row_below HO7.out hb5)
  have HK7' := hide (HK7.out.below hb5)
  have HO8' := hide (row_below hown8 hb5)
  have HK8' := hide (hk8.below hb5)
  clear hown8 hk8
  clear hb5 a4
  have a5 := O5.out.a
  have b5 := O5.out.b
  have hal : (atomsL (t.ks ++ u.ks)).length ≤ 100000 := by rw [atomsL_append, List.length_append]; omega
  have hll : (t.ks ++ u.ks).length ≤ 10000 := by rw [List.length_append]; omega
  have hvl : vs.length = t.ks.length := HK7'.out.1
  have hvl8 : vs8.length = u.ks.length := HK8'.out.1
  have HMK := hide (fun p9 c9 w9 (hk9 : KidsAt w9 (vs ++ vs8) (t.ks ++ u.ks)) (hc9 : CellsV w9 p9 (vs ++ vs8)) => make5_tree 5 c9 p9 (vs ++ vs8) (t.ks ++ u.ks) w9 hll hal hk9 hc9)
  have HRG := hide (fun gz cz w' (h : AtomsO w' gz 0 (T.mk 5 0 ⟨#[]⟩ (t.ks ++ u.ks)).atoms) (hcz : (T.mk 5 0 ⟨#[]⟩ (t.ks ++ u.ks)).atoms.length ≤ cz) => right6_no _ gz cz w' h hcz (by rw [show (T.mk 5 0 ⟨#[]⟩ (t.ks ++ u.ks)).atoms.length = (T.mk 5 0 ⟨#[]⟩ (t.ks ++ u.ks)).count from rfl, T.count_eq]; show 1 + (atomsL (t.ks ++ u.ks)).length ≤ _; omega) hv)
  have hll2 : (t.ks ++ u.ks).length = t.ks.length + u.ks.length := List.length_append
  have HLL := hide hll2
  have hk1 : t.ks.length ≤ 1000 := by omega
  have hk2 : u.ks.length ≤ 1000 := by omega
  clear hal hll hct hcu hla hlb hv hll2
  have hown0 := World.ownsRow_lit (base := w5.heap.size) (e := 28) (size := 1) w5 #[] 0 (Nat.le_refl _) (Nat.zero_le _) rfl
  have hz5 := O5.out.B.size
  go_wp2_with (at_builtin; refine wpList_append_own_at _ rfl _ _ 60 rfl w5.heap.size 28 iV _ 1 24 Tryz.underlying60 hV hVz hVs hVb rfl (by decide) (.slice (some ⟨w5.heap.size, 0, none⟩) 0 0) 0 [] rfl hown0 ⟨g7, 0, none⟩ t.ks.length c7 vs rfl (by omega) (rowV_cells (HO7'.out.alloc _)) (kids_one HK7'.out) (by unfold maxLen; omega) (by omega) (by simp) ?_)
  intro v6 w6 q1 q2 q3 q4
  obtain ⟨p6, c6, rfl⟩ := row_form q1
  have b6 : Below w5.heap.size w5 w6 := ((Below.refl _ _).alloc (Nat.le_refl _) _).grown q2 (by simp) (fun k e => by simp [Value.ownBlock] at e; omega)
  have HQ1 := hide q1
  have HO8b := hide (row_below HO8'.out b6)
  have hz6 := b6.size
  clear q1 q2 q3 q4 hown0
  go_wp2_with (at_builtin; refine wpList_append_own_at _ rfl _ _ 60 rfl w5.heap.size 28 iV _ 1 24 Tryz.underlying60 hV hVz hVs hVb rfl (by decide) (.slice p6 t.ks.length c6) t.ks.length vs rfl HQ1.out ⟨g8, 0, none⟩ u.ks.length c8 vs8 rfl (by omega) (rowV_cells HO8b.out) (kids_one HK8'.out) (by unfold maxLen; omega) (by omega) hz6 ?_)
  intro v7 w7 q1 q2 q3 q4
  have b7 : Below w5.heap.size w5 w7 := b6.grown q2 hz6 (fun k e => (HQ1.out.lt k e).1)
  obtain ⟨p7, c7', rfl, hcv⟩ := row_room2 q1 (by rw [List.length_append]; omega)
  have HX := hide (HMK.out p7 c7' w7 (KidsAt.append (HK7'.out.below b7) (HK8'.out.below b7)) hcv)
  rw [HLL.out] at HX
  have O7 := hide (O5.out.below b7)
  clear q1 q2 q3 q4 hcv b6 b7
  go_wp2_with fail
  refine HX.out.mono ?_
  rintro e w8 ⟨gz, cz, rfl, hcz, hgz, haz, hb8⟩
  have O8 := hide (O7.out.below hb8)
  have HY := hide (HRG.out gz cz w8 haz hcz)
  clear haz hb8 HX
  generalize (T.mk 5 0 ⟨#[]⟩ (t.ks ++ u.ks)).atoms = la at *
  go_wp2_with fail
  refine HY.out.mono ?_
  rintro e w9 ⟨hb9, ⟨-, rfl⟩ | ⟨ga, ca, hga, rfl, ha⟩⟩
  all_goals
    have o9 := O8.out.below hb9
    have r9 := o9.r
    have f9 := o9.f
    have B9 := o9.B
    clear hb9 o9
    go_wp2
  · refine bodyPost_ret (v := .tuple #[.agg #[.slice none 0 0], .string ⟨#[108, 97, 114, 103, 101]⟩]) (by simp [results, Tryz.results19, go_sem, r9]) rfl ?_
    exact ⟨B9.setCell (p := ⟨w.heap.size + 1 + 1, 0, none⟩) (by show w.heap.size ≤ w.heap.size + 1 + 1; omega) _, .inl ⟨rfl, rfl⟩⟩
  · refine bodyPost_ret (v := .tuple #[.agg #[.slice (some ⟨ga, 0, none⟩) 0 ca], .string ⟨#[108, 97, 114, 103, 101]⟩]) (by simp [results, Tryz.results19, go_sem, r9]) rfl ?_
    exact ⟨B9.setCell (p := ⟨w.heap.size + 1 + 1, 0, none⟩) (by show w.heap.size ≤ w.heap.size + 1 + 1; omega) _, .inr ⟨ga, ca, by have := O8.out.B.size; omega, rfl, atomsO_set ha _ (by have := O8.out.z; show w.heap.size + 1 + 1 ≠ ga; omega) _⟩⟩
end Go.Proofs.YtnkfbjcgkdblgaaGreat.Vl
