/- Joined: Wb. -/
import Derived.Test.YtnkfbjcgkdblgaaGreatG47
namespace Go.Proofs.YtnkfbjcgkdblgaaGreat.Vl
open Go.RowKit T.atoms T.ok T.high T.good T.allPlain DatAt T.ord

theorem contains_in (s x : ByteArray) : Lib.contains s.data.toList x.data.toList = inText s x := by
  have hs : s.data.toList.length = s.size := rfl
  have hxs : x.data.toList.length = x.size := rfl
  rcases Lib.index_spec s.data.toList x.data.toList with ⟨h, hn⟩ | ⟨i, h, hi, ho, _⟩
  · have e : Lib.contains s.data.toList x.data.toList = false := by unfold Lib.contains; rw [h]; rfl
    rw [e]
    refine (Eq.symm ?_)
    unfold inText
    rw [List.any_eq_false]
    intro i hi
    rw [List.mem_range] at hi
    unfold stands
    by_cases hr : i + x.size ≤ s.size
    · have := hn i (by omega)
      rw [Lib.occ_of_piece s x i hr] at this
      rw [this]
      simp
    · simp [hr]
  · have e : Lib.contains s.data.toList x.data.toList = true := by unfold Lib.contains; rw [h]; simp
    have hr := Lib.index_room s.data.toList x.data.toList (by rw [h]; omega)
    rw [h, hs, hxs] at hr
    rw [e]
    refine (inText_yes (i := i) ?_).symm
    unfold stands
    rw [Lib.occ_of_piece s x i (by omega)] at ho
    rw [ho, decide_eq_true (by omega)]
    rfl
theorem bool_res (b : Bool) : (Out.res (Sum.inr (boolT b))) = boolA b := by simp [boolT, Out.res, boolA, T.atoms, atomsL]
theorem word_res : (Out.res (Sum.inl tyW)) = ([], wTy) := rfl
theorem num_res (r : Option Int) (l : List UInt8) : (numOut r l).res = numR (r, l) := by
  cases r with
  | none => rfl
  | some z => simp [numOut, Out.res, numR, intT, T.atoms, atomsL]
theorem int_res (z : Int) (l : List UInt8) : (Out.res (Sum.inr (intT z))) = numR (some z, l) := by simp [Out.res, numR, intT, T.atoms, atomsL]
theorem numR_some (r : Option Int) (l : List UInt8) : numR (r, if r.isSome then [] else l) = numR (r, l) := by cases r <;> rfl
theorem good_kind {t : T} (hg : t.good = true) : t.kind = 1 ∨ t.kind = 2 ∨ t.kind = 3 ∨ t.kind = 4 ∨ t.kind = 5 ∨ t.kind = 6 := by
  rw [T.good_eq] at hg
  simp only [Bool.and_eq_true] at hg
  have hp := hg.1.1
  unfold plain at hp
  simp only [Bool.and_eq_true, Bool.or_eq_true, beq_iff_eq] at hp
  have h := hp.2
  omega
theorem good_bool {t : T} (hg : t.good = true) (hk : t.kind = 2) : t.num = 0 ∨ t.num = 1 := by
  rw [T.good_eq] at hg
  simp only [Bool.and_eq_true] at hg
  have hp := hg.1.1
  unfold plain at hp
  simp [hk] at hp
  omega
theorem good_text {t : T} (hg : t.good = true) (hk : t.kind = 4) : t.text.size ≤ 1000 := by
  rw [T.good_eq] at hg
  simp only [Bool.and_eq_true] at hg
  have hp := hg.1.1
  unfold plain at hp
  simp [hk] at hp
  exact hp.2
theorem good_rec {t : T} (hg : t.good = true) (hk : t.kind = 6) : t.ks.length % 2 = 0 := by
  rw [T.good_eq] at hg
  simp only [Bool.and_eq_true] at hg
  have hp := hg.1.1
  unfold plain at hp
  simp [hk] at hp
  omega
theorem good_ks {t : T} (hg : t.good = true) : goodL t.ks = true := by
  rw [T.good_eq] at hg
  simp only [Bool.and_eq_true] at hg
  exact hg.2
theorem valid_iff (t : T) : valid t.atoms = true ↔ t.good = true ∧ t.count ≤ 1000 := by
  constructor
  · intro h
    obtain ⟨t', h1, h2, h3⟩ := valid_tree h
    rw [treeOf_atoms] at h1
    cases h1
    exact ⟨h2, h3⟩
  · rintro ⟨h1, h2⟩
    exact valid_of t h1 h2
theorem valid_list (ks : List T) (hg : goodL ks = true) : valid (T.mk 5 0 ⟨#[]⟩ ks).atoms = listOk ks := by
  rw [Bool.eq_iff_iff, valid_iff]
  constructor
  · rintro ⟨h1, h2⟩
    rw [T.count_eq] at h2
    rw [T.good_eq] at h1
    simp only [T.kind, T.num, T.text, T.ks, Bool.and_eq_true] at h1
    have h3 := of_decide_eq_true h1.1.2
    have h4 := h1.1.1
    unfold plain at h4
    simp at h4
    unfold listOk
    exact decide_eq_true ⟨by omega, h2, h3⟩
  · intro h
    refine ⟨listT_good hg h, ?_⟩
    unfold listOk at h
    rw [T.count_eq]
    exact (of_decide_eq_true h).2.1
theorem valid_rec (ks : List T) (hg : goodL ks = true) (hn : names ks = true) (he : ks.length % 2 = 0) : valid (T.mk 6 0 ⟨#[]⟩ ks).atoms = recOk ks := by
  rw [Bool.eq_iff_iff, valid_iff]
  constructor
  · rintro ⟨h1, h2⟩
    rw [T.count_eq] at h2
    rw [T.good_eq] at h1
    simp only [T.kind, T.num, T.text, T.ks, Bool.and_eq_true] at h1
    have h3 := of_decide_eq_true h1.1.2
    have h4 := h1.1.1
    unfold plain at h4
    simp at h4
    unfold recOk
    exact decide_eq_true ⟨by omega, h2, h3⟩
  · intro h
    refine ⟨recT_good hg hn he h, ?_⟩
    unfold recOk at h
    rw [T.count_eq]
    exact (of_decide_eq_true h).2.1
theorem valid_text (s : ByteArray) : valid [⟨4, 0, s, 0⟩] = decide (s.size ≤ 1000) := by
  rw [← atoms_leafT, Bool.eq_iff_iff, valid_iff, decide_eq_true_iff]
  constructor
  · intro h
    exact good_text h.1 rfl
  · intro h
    exact ⟨textT_good h, by simp [T.count, T.atoms, atomsL]⟩
theorem numOp13 (x y : Int) : numOp 13 x y = if y = 0 then (none, wDiv) else if x = -9223372036854775808 ∧ y = -1 then (none, wRng) else (some (quoV x y), []) := by unfold numOp; simp
theorem numOp14 (x y : Int) : numOp 14 x y = if y = 0 then (none, wDiv) else (some (remV x y), []) := by unfold numOp; simp
/-- The table's own functions. -/
def Rs0 : List (T → T → Out) := opRs containsR amongR hasNameR catLR (catRR mergeR)
theorem hard0 : Hard containsR amongR hasNameR catLR (catRR mergeR) := ⟨leaf_contains, leaf_among, leaf_hasName, leaf_catL, leaf_records⟩
theorem isTy_word : (Out.isTy (Sum.inl tyW)) = true := rfl
theorem no_bb {R : T → T → Out} {t u : T} (h : ¬ (t.kind = 2 ∧ u.kind = 2)) : twoBB R t u = .inl tyW := if_neg h
theorem no_ii {R : T → T → Out} {t u : T} (h : ¬ (t.kind = 3 ∧ u.kind = 3)) : twoII R t u = .inl tyW := if_neg h
theorem spec1 (t u : T) (g g' c c' m m' : Nat) (w : World) (hm : t.count = m + 1) (hm' : u.count = m' + 1) (h1 : m < 1000) (h2 : m' < 1000) (hc : m + 1 ≤ c) (hc' : m' + 1 ≤ c') (hg : t.good = true) (hg' : u.good = true) (ht : AtomsO w g 0 t.atoms) (ht' : AtomsO w g' 0 u.atoms) : Calls Tryz.prog 5 #[.int .i64 1, .agg #[.slice (some ⟨g, 0, none⟩) (m + 1) c], .agg #[.slice (some ⟨g', 0, none⟩) (m' + 1) c']] w (OPost w (opOut Rs0 1 t u).res) := by
  show Calls _ _ _ _ (OPost w (twoBB orR t u).res)
  by_cases hk : t.kind = u.kind
  · by_cases k2 : t.kind = 2
    · have k2' : u.kind = 2 := hk ▸ k2
      rw [show twoBB orR t u = orR t u from if_pos ⟨k2, k2'⟩]
      unfold orR
      rcases good_bool hg k2 with ha | ha <;> rcases good_bool hg' k2' with hb | hb
      · rw [bool_res, ha, hb]; exact specOp_bool1_00 t u g g' c c' m m' w hm hm' h1 h2 hc hc' hg hg' ht ht' k2 k2' ha hb
      · rw [bool_res, ha, hb]; exact specOp_bool1_01 t u g g' c c' m m' w hm hm' h1 h2 hc hc' hg hg' ht ht' k2 k2' ha hb
      · rw [bool_res, ha, hb]; exact specOp_bool1_10 t u g g' c c' m m' w hm hm' h1 h2 hc hc' hg hg' ht ht' k2 k2' ha hb
      · rw [bool_res, ha, hb]; exact specOp_bool1_11 t u g g' c c' m m' w hm hm' h1 h2 hc hc' hg hg' ht ht' k2 k2' ha hb
    · rw [no_bb (fun h => k2 h.1), word_res]
      exact specOp_bool1no t u g g' c c' m m' w hm hm' h1 h2 hc hc' hg hg' ht ht' t.kind rfl hk.symm (by simpa using k2)
  · rw [no_bb (fun h => hk (h.1.trans h.2.symm)), word_res]
    exact specOp_kinds1 t u g g' c c' m m' w hm hm' h1 h2 hc hc' hg hg' ht ht' hk
theorem spec2 (t u : T) (g g' c c' m m' : Nat) (w : World) (hm : t.count = m + 1) (hm' : u.count = m' + 1) (h1 : m < 1000) (h2 : m' < 1000) (hc : m + 1 ≤ c) (hc' : m' + 1 ≤ c') (hg : t.good = true) (hg' : u.good = true) (ht : AtomsO w g 0 t.atoms) (ht' : AtomsO w g' 0 u.atoms) : Calls Tryz.prog 5 #[.int .i64 2, .agg #[.slice (some ⟨g, 0, none⟩) (m + 1) c], .agg #[.slice (some ⟨g', 0, none⟩) (m' + 1) c']] w (OPost w (opOut Rs0 2 t u).res) := by
  show Calls _ _ _ _ (OPost w (twoBB andR t u).res)
  by_cases hk : t.kind = u.kind
  · by_cases k2 : t.kind = 2
    · have k2' : u.kind = 2 := hk ▸ k2
      rw [show twoBB andR t u = andR t u from if_pos ⟨k2, k2'⟩]
      unfold andR
      rcases good_bool hg k2 with ha | ha <;> rcases good_bool hg' k2' with hb | hb
      · rw [bool_res, ha, hb]; exact specOp_bool2_00 t u g g' c c' m m' w hm hm' h1 h2 hc hc' hg hg' ht ht' k2 k2' ha hb
      · rw [bool_res, ha, hb]; exact specOp_bool2_01 t u g g' c c' m m' w hm hm' h1 h2 hc hc' hg hg' ht ht' k2 k2' ha hb
      · rw [bool_res, ha, hb]; exact specOp_bool2_10 t u g g' c c' m m' w hm hm' h1 h2 hc hc' hg hg' ht ht' k2 k2' ha hb
      · rw [bool_res, ha, hb]; exact specOp_bool2_11 t u g g' c c' m m' w hm hm' h1 h2 hc hc' hg hg' ht ht' k2 k2' ha hb
    · rw [no_bb (fun h => k2 h.1), word_res]
      exact specOp_bool2no t u g g' c c' m m' w hm hm' h1 h2 hc hc' hg hg' ht ht' t.kind rfl hk.symm (by simpa using k2)
  · rw [no_bb (fun h => hk (h.1.trans h.2.symm)), word_res]
    exact specOp_kinds2 t u g g' c c' m m' w hm hm' h1 h2 hc hc' hg hg' ht ht' hk
theorem spec3 (t u : T) (g g' c c' m m' : Nat) (w : World) (hm : t.count = m + 1) (hm' : u.count = m' + 1) (h1 : m < 1000) (h2 : m' < 1000) (hc : m + 1 ≤ c) (hc' : m' + 1 ≤ c') (hg : t.good = true) (hg' : u.good = true) (ht : AtomsO w g 0 t.atoms) (ht' : AtomsO w g' 0 u.atoms) : Calls Tryz.prog 5 #[.int .i64 3, .agg #[.slice (some ⟨g, 0, none⟩) (m + 1) c], .agg #[.slice (some ⟨g', 0, none⟩) (m' + 1) c']] w (OPost w (opOut Rs0 3 t u).res) := by
  show Calls _ _ _ _ (OPost w (cmpsD (fun n => decide (n = 0)) t u).res)
  unfold cmpsD
  rw [bool_res]
  exact specOp_same t u g g' c c' m m' w hm hm' h1 h2 hc hc' hg hg' ht ht'
theorem spec4 (t u : T) (g g' c c' m m' : Nat) (w : World) (hm : t.count = m + 1) (hm' : u.count = m' + 1) (h1 : m < 1000) (h2 : m' < 1000) (hc : m + 1 ≤ c) (hc' : m' + 1 ≤ c') (hg : t.good = true) (hg' : u.good = true) (ht : AtomsO w g 0 t.atoms) (ht' : AtomsO w g' 0 u.atoms) : Calls Tryz.prog 5 #[.int .i64 4, .agg #[.slice (some ⟨g, 0, none⟩) (m + 1) c], .agg #[.slice (some ⟨g', 0, none⟩) (m' + 1) c']] w (OPost w (opOut Rs0 4 t u).res) := by
  show Calls _ _ _ _ (OPost w (cmpsD (fun n => decide (n ≠ 0)) t u).res)
  unfold cmpsD
  rw [bool_res]
  exact specOp_other t u g g' c c' m m' w hm hm' h1 h2 hc hc' hg hg' ht ht'
theorem spec5 (t u : T) (g g' c c' m m' : Nat) (w : World) (hm : t.count = m + 1) (hm' : u.count = m' + 1) (h1 : m < 1000) (h2 : m' < 1000) (hc : m + 1 ≤ c) (hc' : m' + 1 ≤ c') (hg : t.good = true) (hg' : u.good = true) (ht : AtomsO w g 0 t.atoms) (ht' : AtomsO w g' 0 u.atoms) : Calls Tryz.prog 5 #[.int .i64 5, .agg #[.slice (some ⟨g, 0, none⟩) (m + 1) c], .agg #[.slice (some ⟨g', 0, none⟩) (m' + 1) c']] w (OPost w (opOut Rs0 5 t u).res) := by
  show Calls _ _ _ _ (OPost w (alike (fun n => decide (n < 0)) t u).res)
  by_cases hk : t.kind = u.kind
  · have k1 := good_kind hg
    by_cases hb : t.kind = 1 ∨ t.kind = 6
    · have e : alike (fun n => decide (n < 0)) t u = .inl tyW := by
        rcases hb with h | h <;> simp [alike, eitherOut, cmpsB, cmpsI, cmpsT, cmpsL, h, Out.isTy]
      rw [e, word_res]
      rcases hb with h | h
      · exact specOp_cmp5no1 t u g g' c c' m m' w hm hm' h1 h2 hc hc' hg hg' ht ht' h (hk ▸ h)
      · exact specOp_cmp5no6 t u g g' c c' m m' w hm hm' h1 h2 hc hc' hg hg' ht ht' h (hk ▸ h)
    · have e : alike (fun n => decide (n < 0)) t u = .inr (boolT (decide (t.ord u < 0))) := by
        have h2 : t.kind = 2 ∨ t.kind = 3 ∨ t.kind = 4 ∨ t.kind = 5 := by omega
        rcases h2 with h | h | h | h <;> simp [alike, eitherOut, cmpsB, cmpsI, cmpsT, cmpsL, h, ← hk, Out.isTy, tyW]
      rw [e, bool_res]
      exact specOp_cmp5 t u g g' c c' m m' w hm hm' h1 h2 hc hc' hg hg' ht ht' t.kind rfl hk.symm (by simp; omega) (by simp; omega)
  · have e : alike (fun n => decide (n < 0)) t u = .inl tyW := by
      have h1 : ∀ k : Int, ¬ (t.kind = k ∧ u.kind = k) := fun k h => hk (h.1.trans h.2.symm)
      simp [alike, eitherOut, cmpsB, cmpsI, cmpsT, cmpsL, h1, Out.isTy]
    rw [e, word_res]
    exact specOp_kinds5 t u g g' c c' m m' w hm hm' h1 h2 hc hc' hg hg' ht ht' hk
theorem spec6 (t u : T) (g g' c c' m m' : Nat) (w : World) (hm : t.count = m + 1) (hm' : u.count = m' + 1) (h1 : m < 1000) (h2 : m' < 1000) (hc : m + 1 ≤ c) (hc' : m' + 1 ≤ c') (hg : t.good = true) (hg' : u.good = true) (ht : AtomsO w g 0 t.atoms) (ht' : AtomsO w g' 0 u.atoms) : Calls Tryz.prog 5 #[.int .i64 6, .agg #[.slice (some ⟨g, 0, none⟩) (m + 1) c], .agg #[.slice (some ⟨g', 0, none⟩) (m' + 1) c']] w (OPost w (opOut Rs0 6 t u).res) := by
  show Calls _ _ _ _ (OPost w (alike (fun n => decide (n ≤ 0)) t u).res)
  by_cases hk : t.kind = u.kind
  · have k1 := good_kind hg
    by_cases hb : t.kind = 1 ∨ t.kind = 6
    · have e : alike (fun n => decide (n ≤ 0)) t u = .inl tyW := by
        rcases hb with h | h <;> simp [alike, eitherOut, cmpsB, cmpsI, cmpsT, cmpsL, h, Out.isTy]
      rw [e, word_res]
      rcases hb with h | h
      · exact specOp_cmp6no1 t u g g' c c' m m' w hm hm' h1 h2 hc hc' hg hg' ht ht' h (hk ▸ h)
      · exact specOp_cmp6no6 t u g g' c c' m m' w hm hm' h1 h2 hc hc' hg hg' ht ht' h (hk ▸ h)
    · have e : alike (fun n => decide (n ≤ 0)) t u = .inr (boolT (decide (t.ord u ≤ 0))) := by
        have h2 : t.kind = 2 ∨ t.kind = 3 ∨ t.kind = 4 ∨ t.kind = 5 := by omega
        rcases h2 with h | h | h | h <;> simp [alike, eitherOut, cmpsB, cmpsI, cmpsT, cmpsL, h, ← hk, Out.isTy, tyW]
      rw [e, bool_res]
      exact specOp_cmp6 t u g g' c c' m m' w hm hm' h1 h2 hc hc' hg hg' ht ht' t.kind rfl hk.symm (by simp; omega) (by simp; omega)
  · have e : alike (fun n => decide (n ≤ 0)) t u = .inl tyW := by
      have h1 : ∀ k : Int, ¬ (t.kind = k ∧ u.kind = k) := fun k h => hk (h.1.trans h.2.symm)
      simp [alike, eitherOut, cmpsB, cmpsI, cmpsT, cmpsL, h1, Out.isTy]
    rw [e, word_res]
    exact specOp_kinds6 t u g g' c c' m m' w hm hm' h1 h2 hc hc' hg hg' ht ht' hk
theorem spec7 (t u : T) (g g' c c' m m' : Nat) (w : World) (hm : t.count = m + 1) (hm' : u.count = m' + 1) (h1 : m < 1000) (h2 : m' < 1000) (hc : m + 1 ≤ c) (hc' : m' + 1 ≤ c') (hg : t.good = true) (hg' : u.good = true) (ht : AtomsO w g 0 t.atoms) (ht' : AtomsO w g' 0 u.atoms) : Calls Tryz.prog 5 #[.int .i64 7, .agg #[.slice (some ⟨g, 0, none⟩) (m + 1) c], .agg #[.slice (some ⟨g', 0, none⟩) (m' + 1) c']] w (OPost w (opOut Rs0 7 t u).res) := by
  show Calls _ _ _ _ (OPost w (alike (fun n => decide (0 < n)) t u).res)
  by_cases hk : t.kind = u.kind
  · have k1 := good_kind hg
    by_cases hb : t.kind = 1 ∨ t.kind = 6
    · have e : alike (fun n => decide (0 < n)) t u = .inl tyW := by
        rcases hb with h | h <;> simp [alike, eitherOut, cmpsB, cmpsI, cmpsT, cmpsL, h, Out.isTy]
      rw [e, word_res]
      rcases hb with h | h
      · exact specOp_cmp7no1 t u g g' c c' m m' w hm hm' h1 h2 hc hc' hg hg' ht ht' h (hk ▸ h)
      · exact specOp_cmp7no6 t u g g' c c' m m' w hm hm' h1 h2 hc hc' hg hg' ht ht' h (hk ▸ h)
    · have e : alike (fun n => decide (0 < n)) t u = .inr (boolT (decide (0 < t.ord u))) := by
        have h2 : t.kind = 2 ∨ t.kind = 3 ∨ t.kind = 4 ∨ t.kind = 5 := by omega
        rcases h2 with h | h | h | h <;> simp [alike, eitherOut, cmpsB, cmpsI, cmpsT, cmpsL, h, ← hk, Out.isTy, tyW]
      rw [e, bool_res]
      exact specOp_cmp7 t u g g' c c' m m' w hm hm' h1 h2 hc hc' hg hg' ht ht' t.kind rfl hk.symm (by simp; omega) (by simp; omega)
  · have e : alike (fun n => decide (0 < n)) t u = .inl tyW := by
      have h1 : ∀ k : Int, ¬ (t.kind = k ∧ u.kind = k) := fun k h => hk (h.1.trans h.2.symm)
      simp [alike, eitherOut, cmpsB, cmpsI, cmpsT, cmpsL, h1, Out.isTy]
    rw [e, word_res]
    exact specOp_kinds7 t u g g' c c' m m' w hm hm' h1 h2 hc hc' hg hg' ht ht' hk
theorem spec8 (t u : T) (g g' c c' m m' : Nat) (w : World) (hm : t.count = m + 1) (hm' : u.count = m' + 1) (h1 : m < 1000) (h2 : m' < 1000) (hc : m + 1 ≤ c) (hc' : m' + 1 ≤ c') (hg : t.good = true) (hg' : u.good = true) (ht : AtomsO w g 0 t.atoms) (ht' : AtomsO w g' 0 u.atoms) : Calls Tryz.prog 5 #[.int .i64 8, .agg #[.slice (some ⟨g, 0, none⟩) (m + 1) c], .agg #[.slice (some ⟨g', 0, none⟩) (m' + 1) c']] w (OPost w (opOut Rs0 8 t u).res) := by
  show Calls _ _ _ _ (OPost w (alike (fun n => decide (0 ≤ n)) t u).res)
  by_cases hk : t.kind = u.kind
  · have k1 := good_kind hg
    by_cases hb : t.kind = 1 ∨ t.kind = 6
    · have e : alike (fun n => decide (0 ≤ n)) t u = .inl tyW := by
        rcases hb with h | h <;> simp [alike, eitherOut, cmpsB, cmpsI, cmpsT, cmpsL, h, Out.isTy]
      rw [e, word_res]
      rcases hb with h | h
      · exact specOp_cmp8no1 t u g g' c c' m m' w hm hm' h1 h2 hc hc' hg hg' ht ht' h (hk ▸ h)
      · exact specOp_cmp8no6 t u g g' c c' m m' w hm hm' h1 h2 hc hc' hg hg' ht ht' h (hk ▸ h)
    · have e : alike (fun n => decide (0 ≤ n)) t u = .inr (boolT (decide (0 ≤ t.ord u))) := by
        have h2 : t.kind = 2 ∨ t.kind = 3 ∨ t.kind = 4 ∨ t.kind = 5 := by omega
        rcases h2 with h | h | h | h <;> simp [alike, eitherOut, cmpsB, cmpsI, cmpsT, cmpsL, h, ← hk, Out.isTy, tyW]
      rw [e, bool_res]
      exact specOp_cmp8 t u g g' c c' m m' w hm hm' h1 h2 hc hc' hg hg' ht ht' t.kind rfl hk.symm (by simp; omega) (by simp; omega)
  · have e : alike (fun n => decide (0 ≤ n)) t u = .inl tyW := by
      have h1 : ∀ k : Int, ¬ (t.kind = k ∧ u.kind = k) := fun k h => hk (h.1.trans h.2.symm)
      simp [alike, eitherOut, cmpsB, cmpsI, cmpsT, cmpsL, h1, Out.isTy]
    rw [e, word_res]
    exact specOp_kinds8 t u g g' c c' m m' w hm hm' h1 h2 hc hc' hg hg' ht ht' hk
theorem spec11 (t u : T) (g g' c c' m m' : Nat) (w : World) (hm : t.count = m + 1) (hm' : u.count = m' + 1) (h1 : m < 1000) (h2 : m' < 1000) (hc : m + 1 ≤ c) (hc' : m' + 1 ≤ c') (hg : t.good = true) (hg' : u.good = true) (ht : AtomsO w g 0 t.atoms) (ht' : AtomsO w g' 0 u.atoms) (hx : in64 t.num) (hy : in64 u.num) : Calls Tryz.prog 5 #[.int .i64 11, .agg #[.slice (some ⟨g, 0, none⟩) (m + 1) c], .agg #[.slice (some ⟨g', 0, none⟩) (m' + 1) c']] w (OPost w (opOut Rs0 11 t u).res) := by
  show Calls _ _ _ _ (OPost w (twoII subR t u).res)
  by_cases hk : t.kind = u.kind
  · by_cases k3 : t.kind = 3
    · have k3' : u.kind = 3 := hk ▸ k3
      rw [show twoII subR t u = subR t u from if_pos ⟨k3, k3'⟩]
      have e : (subR t u).res = numR (numOp 11 t.num u.num) := by
        unfold subR numOp; rw [num_res, if_pos rfl, numR_some]; rfl
      rw [e]
      exact specOp_num11 t u g g' c c' m m' w hm hm' h1 h2 hc hc' hg hg' ht ht' k3 k3' hx hy
    · rw [no_ii (fun h => k3 h.1), word_res]
      exact specOp_num11no t u g g' c c' m m' w hm hm' h1 h2 hc hc' hg hg' ht ht' t.kind rfl hk.symm (by simpa using k3)
  · rw [no_ii (fun h => hk (h.1.trans h.2.symm)), word_res]
    exact specOp_kinds11 t u g g' c c' m m' w hm hm' h1 h2 hc hc' hg hg' ht ht' hk
theorem spec12 (t u : T) (g g' c c' m m' : Nat) (w : World) (hm : t.count = m + 1) (hm' : u.count = m' + 1) (h1 : m < 1000) (h2 : m' < 1000) (hc : m + 1 ≤ c) (hc' : m' + 1 ≤ c') (hg : t.good = true) (hg' : u.good = true) (ht : AtomsO w g 0 t.atoms) (ht' : AtomsO w g' 0 u.atoms) (hx : in64 t.num) (hy : in64 u.num) : Calls Tryz.prog 5 #[.int .i64 12, .agg #[.slice (some ⟨g, 0, none⟩) (m + 1) c], .agg #[.slice (some ⟨g', 0, none⟩) (m' + 1) c']] w (OPost w (opOut Rs0 12 t u).res) := by
  show Calls _ _ _ _ (OPost w (twoII mulR t u).res)
  by_cases hk : t.kind = u.kind
  · by_cases k3 : t.kind = 3
    · have k3' : u.kind = 3 := hk ▸ k3
      rw [show twoII mulR t u = mulR t u from if_pos ⟨k3, k3'⟩]
      have e : (mulR t u).res = numR (numOp 12 t.num u.num) := by
        unfold mulR numOp; rw [num_res, if_neg (by decide), if_pos rfl, numR_some]; rfl
      rw [e]
      exact specOp_num12 t u g g' c c' m m' w hm hm' h1 h2 hc hc' hg hg' ht ht' k3 k3' hx hy
    · rw [no_ii (fun h => k3 h.1), word_res]
      exact specOp_num12no t u g g' c c' m m' w hm hm' h1 h2 hc hc' hg hg' ht ht' t.kind rfl hk.symm (by simpa using k3)
  · rw [no_ii (fun h => hk (h.1.trans h.2.symm)), word_res]
    exact specOp_kinds12 t u g g' c c' m m' w hm hm' h1 h2 hc hc' hg hg' ht ht' hk
theorem spec13 (t u : T) (g g' c c' m m' : Nat) (w : World) (hm : t.count = m + 1) (hm' : u.count = m' + 1) (h1 : m < 1000) (h2 : m' < 1000) (hc : m + 1 ≤ c) (hc' : m' + 1 ≤ c') (hg : t.good = true) (hg' : u.good = true) (ht : AtomsO w g 0 t.atoms) (ht' : AtomsO w g' 0 u.atoms) (hx : in64 t.num) (hy : in64 u.num) : Calls Tryz.prog 5 #[.int .i64 13, .agg #[.slice (some ⟨g, 0, none⟩) (m + 1) c], .agg #[.slice (some ⟨g', 0, none⟩) (m' + 1) c']] w (OPost w (opOut Rs0 13 t u).res) := by
  show Calls _ _ _ _ (OPost w (twoII quoR t u).res)
  by_cases hk : t.kind = u.kind
  · by_cases k3 : t.kind = 3
    · have k3' : u.kind = 3 := hk ▸ k3
      rw [show twoII quoR t u = quoR t u from if_pos ⟨k3, k3'⟩]
      have e : (quoR t u).res = numR (numOp 13 t.num u.num) := by
        unfold quoR; rw [numOp13]; split
        · rfl
        · split
          · rfl
          · rw [int_res _ []]
      rw [e]
      exact specOp_num13 t u g g' c c' m m' w hm hm' h1 h2 hc hc' hg hg' ht ht' k3 k3' hx hy
    · rw [no_ii (fun h => k3 h.1), word_res]
      exact specOp_num13no t u g g' c c' m m' w hm hm' h1 h2 hc hc' hg hg' ht ht' t.kind rfl hk.symm (by simpa using k3)
  · rw [no_ii (fun h => hk (h.1.trans h.2.symm)), word_res]
    exact specOp_kinds13 t u g g' c c' m m' w hm hm' h1 h2 hc hc' hg hg' ht ht' hk
theorem spec14 (t u : T) (g g' c c' m m' : Nat) (w : World) (hm : t.count = m + 1) (hm' : u.count = m' + 1) (h1 : m < 1000) (h2 : m' < 1000) (hc : m + 1 ≤ c) (hc' : m' + 1 ≤ c') (hg : t.good = true) (hg' : u.good = true) (ht : AtomsO w g 0 t.atoms) (ht' : AtomsO w g' 0 u.atoms) (hx : in64 t.num) (hy : in64 u.num) : Calls Tryz.prog 5 #[.int .i64 14, .agg #[.slice (some ⟨g, 0, none⟩) (m + 1) c], .agg #[.slice (some ⟨g', 0, none⟩) (m' + 1) c']] w (OPost w (opOut Rs0 14 t u).res) := by
  show Calls _ _ _ _ (OPost w (twoII remR t u).res)
  by_cases hk : t.kind = u.kind
  · by_cases k3 : t.kind = 3
    · have k3' : u.kind = 3 := hk ▸ k3
      rw [show twoII remR t u = remR t u from if_pos ⟨k3, k3'⟩]
      have e : (remR t u).res = numR (numOp 14 t.num u.num) := by
        unfold remR; rw [numOp14]; split
        · rfl
        · rw [int_res _ []]
      rw [e]
      exact specOp_num14 t u g g' c c' m m' w hm hm' h1 h2 hc hc' hg hg' ht ht' k3 k3' hx hy
    · rw [no_ii (fun h => k3 h.1), word_res]
      exact specOp_num14no t u g g' c c' m m' w hm hm' h1 h2 hc hc' hg hg' ht ht' t.kind rfl hk.symm (by simpa using k3)
  · rw [no_ii (fun h => hk (h.1.trans h.2.symm)), word_res]
    exact specOp_kinds14 t u g g' c c' m m' w hm hm' h1 h2 hc hc' hg hg' ht ht' hk
theorem spec9 (t u : T) (g g' c c' m m' : Nat) (w : World) (hm : t.count = m + 1) (hm' : u.count = m' + 1) (h1 : m < 1000) (h2 : m' < 1000) (hc : m + 1 ≤ c) (hc' : m' + 1 ≤ c') (hg : t.good = true) (hg' : u.good = true) (ht : AtomsO w g 0 t.atoms) (ht' : AtomsO w g' 0 u.atoms) : Calls Tryz.prog 5 #[.int .i64 9, .agg #[.slice (some ⟨g, 0, none⟩) (m + 1) c], .agg #[.slice (some ⟨g', 0, none⟩) (m' + 1) c']] w (OPost w (opOut Rs0 9 t u).res) := by
  show Calls _ _ _ _ (OPost w (hasAll containsR amongR hasNameR t u).res)
  refine specOp_has t u g g' c c' m m' w hm hm' h1 h2 hc hc' hg hg' ht ht' _ (fun w1 ht1 ht2 => ?_)
  rcases good_kind hg with k | k | k | k | k | k
  · rw [show hasAll containsR amongR hasNameR t u = .inl tyW by simp [hasAll, eitherOut, twoTT, twoLD, twoRT, k, Out.isTy], word_res]
    exact has6_no1 t u g g' c c' m m' w1 hm hm' h1 h2 hc hc' ht1 ht2 k
  · rw [show hasAll containsR amongR hasNameR t u = .inl tyW by simp [hasAll, eitherOut, twoTT, twoLD, twoRT, k, Out.isTy], word_res]
    exact has6_no2 t u g g' c c' m m' w1 hm hm' h1 h2 hc hc' ht1 ht2 k
  · rw [show hasAll containsR amongR hasNameR t u = .inl tyW by simp [hasAll, eitherOut, twoTT, twoLD, twoRT, k, Out.isTy], word_res]
    exact has6_no3 t u g g' c c' m m' w1 hm hm' h1 h2 hc hc' ht1 ht2 k
  · by_cases k' : u.kind = 4
    · rw [show hasAll containsR amongR hasNameR t u = .inr (boolT (inText t.text u.text)) by simp [hasAll, eitherOut, twoTT, containsR, contains_in, k, k', Out.isTy], bool_res]
      exact has6_texts t u g g' c c' m m' w1 hm hm' h1 h2 hc hc' ht1 ht2 k k' (good_text hg k) (good_text hg' k')
    · rw [show hasAll containsR amongR hasNameR t u = .inl tyW by simp [hasAll, eitherOut, twoTT, twoLD, twoRT, k, k', Out.isTy], word_res]
      exact has6_textNo t u g g' c c' m m' w1 hm hm' h1 h2 hc hc' ht1 ht2 k k'
  · rw [show hasAll containsR amongR hasNameR t u = .inr (boolT (amongT t.ks u)) by simp [hasAll, eitherOut, twoTT, twoLD, amongR, k, Out.isTy, tyW], bool_res]
    exact has6_list t u g g' c c' m m' w1 hm hm' h1 h2 hc hc' ht1 ht2 k
  · by_cases k' : u.kind = 4
    · rw [show hasAll containsR amongR hasNameR t u = .inr (boolT (getAt t.ks u.text).isSome) by simp [hasAll, eitherOut, twoTT, twoLD, twoRT, hasNameR, k, k', Out.isTy, tyW], bool_res]
      exact has6_record t u g g' c c' m m' w1 hm hm' h1 h2 hc hc' ht1 ht2 k k'
    · rw [show hasAll containsR amongR hasNameR t u = .inl tyW by simp [hasAll, eitherOut, twoTT, twoLD, twoRT, k, k', Out.isTy], word_res]
      exact has6_recordNo t u g g' c c' m m' w1 hm hm' h1 h2 hc hc' ht1 ht2 k k'
theorem pairs_of : ∀ (l : List T), l.length % 2 = 0 → ∃ d : List Fe, l = d.flatMap kidsF
  | [], _ => ⟨[], rfl⟩
  | [_], h => by simp at h
  | a :: b :: r, h => by
    obtain ⟨d, rfl⟩ := pairs_of r (by simp at h; omega)
    exact ⟨(a, b, 0, .nilIface) :: d, rfl⟩
theorem merge_valid (t u : T) (hg : t.good = true) (hg' : u.good = true) (k : t.kind = 6) (k' : u.kind = 6) : valid (T.mk 6 0 ⟨#[]⟩ (mergeGo t.ks u.ks)).atoms = recOk (mergeGo t.ks u.ks) := by
  obtain ⟨fa, ea⟩ := pairs_of t.ks (good_rec hg k)
  obtain ⟨fb, eb⟩ := pairs_of u.ks (good_rec hg' k')
  have hn : names t.ks = true := by
    have he : t = .mk t.kind t.num t.text t.ks := T.eta t
    rw [he, k] at hg
    exact good_names hg
  have hn' : names u.ks = true := by
    have he : u = .mk u.kind u.num u.text u.ks := T.eta u
    rw [he, k'] at hg'
    exact good_names hg'
  have hgt := good_ks hg
  have hgu := good_ks hg'
  rw [ea] at hn hgt ⊢
  rw [eb] at hn' hgu ⊢
  obtain ⟨sa, ka⟩ := SL_of_names fa hn
  obtain ⟨sb, kb⟩ := SL_of_names fb hn'
  have hbare : ∀ e ∈ fb, e.1 = T.mk 4 0 e.1.text [] := fun e he => bare_of (goodL_mem _ hgu e.1 (List.mem_flatMap.2 ⟨e, he, by simp [kidsF]⟩)) (kb e he)
  rw [mergeP_go fb fa hbare]
  have h2 := mergeP_perm fb fa sb
  have h3 := mergeP_sorted fb fa sa
  have hmem : ∀ e ∈ mergeP fa fb, e ∈ fb ∨ e ∈ fa := by
    intro e he
    rcases List.mem_append.1 (h2.mem_iff.1 he) with h | h
    · exact .inl h
    · exact .inr (List.mem_filter.1 h).1
  refine valid_rec _ (goodL_all _ (fun s hs => ?_)) (names_of_SL _ h3 (fun e he => ?_)) (by rw [kidsF_len]; omega)
  · obtain ⟨e, he, hs⟩ := List.mem_flatMap.1 hs
    rcases hmem e he with h | h
    · exact goodL_mem _ hgu s (List.mem_flatMap.2 ⟨e, h, hs⟩)
    · exact goodL_mem _ hgt s (List.mem_flatMap.2 ⟨e, h, hs⟩)
  · rcases hmem e he with h | h
    · exact kb e h
    · exact ka e h
theorem spec10 (t u : T) (g g' c c' m m' : Nat) (w : World) (hm : t.count = m + 1) (hm' : u.count = m' + 1) (h1 : m < 1000) (h2 : m' < 1000) (hc : m + 1 ≤ c) (hc' : m' + 1 ≤ c') (hg : t.good = true) (hg' : u.good = true) (ht : AtomsO w g 0 t.atoms) (ht' : AtomsO w g' 0 u.atoms) (hx : in64 t.num) (hy : in64 u.num) : Calls Tryz.prog 5 #[.int .i64 10, .agg #[.slice (some ⟨g, 0, none⟩) (m + 1) c], .agg #[.slice (some ⟨g', 0, none⟩) (m' + 1) c']] w (OPost w (opOut Rs0 10 t u).res) := by
  show Calls _ _ _ _ (OPost w (addAll catLR (catRR mergeR) t u).res)
  refine specOp_add t u g g' c c' m m' w hm hm' h1 h2 hc hc' hg hg' ht ht' _ (fun w1 ht1 ht2 => ?_)
  by_cases hk : t.kind = u.kind
  · rcases good_kind hg with k | k | k | k | k | k
    all_goals have k' := hk ▸ k
    · rw [show addAll catLR (catRR mergeR) t u = .inl tyW by simp [addAll, eitherOut, twoII, twoTT, twoLL, twoRR, k, k', Out.isTy, tyW], word_res]
      exact add6_no1 t u g g' c c' m m' w1 hm hm' h1 h2 hc hc' ht1 ht2 k k'
    · rw [show addAll catLR (catRR mergeR) t u = .inl tyW by simp [addAll, eitherOut, twoII, twoTT, twoLL, twoRR, k, k', Out.isTy, tyW], word_res]
      exact add6_no2 t u g g' c c' m m' w1 hm hm' h1 h2 hc hc' ht1 ht2 k k'
    · have e : addAll catLR (catRR mergeR) t u = addR t u := by
        have hn : (addR t u).isTy = false := by unfold addR numOut; cases fit64 (t.num + u.num) <;> rfl
        simp [addAll, eitherOut, twoII, k, k', hn]
      rw [e, show (addR t u).res = numR (fit64 (t.num + u.num), wRng) from num_res _ _]
      exact add6_int t u g g' c c' m m' w1 hm hm' h1 h2 hc hc' ht1 ht2 k k' hx hy
    · have e : addAll catLR (catRR mergeR) t u = catR t u := by
        have hn : (catR t u).isTy = false := by unfold catR; split <;> rfl
        simp [addAll, eitherOut, twoII, twoTT, k, k', hn, isTy_word]
      rw [e]
      unfold catR
      have hv := valid_text (t.text ++ u.text)
      by_cases hs : (t.text ++ u.text).size ≤ 1000
      · rw [if_pos hs, show (Out.res (Sum.inr (catT t u))) = ([⟨4, 0, t.text ++ u.text, 0⟩], []) by show ((T.mk 4 0 (t.text ++ u.text) []).atoms, ([] : List UInt8)) = _; rw [atoms_leafT]]
        exact add6_textYes t u g g' c c' m m' w1 hm hm' h1 h2 hc hc' ht1 ht2 k k' (by rw [hv]; exact decide_eq_true hs) (good_text hg k) (good_text hg' k')
      · rw [if_neg hs]
        exact add6_textNo t u g g' c c' m m' w1 hm hm' h1 h2 hc hc' ht1 ht2 k k' (by rw [hv]; exact decide_eq_false hs) (good_text hg k) (good_text hg' k')
    · have e : addAll catLR (catRR mergeR) t u = catLR t u := by
        have hn : (catLR t u).isTy = false := by unfold catLR; split <;> rfl
        simp [addAll, eitherOut, twoII, twoTT, twoLL, k, k', hn, isTy_word]
      rw [e]
      unfold catLR
      have hv := valid_list (t.ks ++ u.ks) (by rw [goodL_append, good_ks hg, good_ks hg']; rfl)
      cases hs : listOk (t.ks ++ u.ks)
      · rw [if_neg (by decide)]
        exact add6_listNo t u g g' c c' m m' w1 hm hm' h1 h2 hc hc' ht1 ht2 k k' (by rw [hv, hs])
      · rw [if_pos rfl]
        exact add6_listYes t u g g' c c' m m' w1 hm hm' h1 h2 hc hc' ht1 ht2 k k' (by rw [hv, hs])
    · have e : addAll catLR (catRR mergeR) t u = catRR mergeR t u := by
        have hn : (catRR mergeR t u).isTy = false := by unfold catRR; split <;> rfl
        simp [addAll, eitherOut, twoII, twoTT, twoLL, twoRR, k, k', hn, isTy_word]
      rw [e]
      unfold catRR mergeR
      have hv := merge_valid t u hg hg' k k'
      cases hs : recOk (mergeGo t.ks u.ks)
      · rw [if_neg (by decide)]
        exact add6_recNo t u g g' c c' m m' w1 hm hm' h1 h2 hc hc' ht1 ht2 k k' (good_rec hg k) (good_rec hg' k') (by rw [hv, hs])
      · rw [if_pos rfl]
        exact add6_recYes t u g g' c c' m m' w1 hm hm' h1 h2 hc hc' ht1 ht2 k k' (good_rec hg k) (good_rec hg' k') (by rw [hv, hs])
  · have e : addAll catLR (catRR mergeR) t u = .inl tyW := by
      have h1 : ∀ k : Int, ¬ (t.kind = k ∧ u.kind = k) := fun k h => hk (h.1.trans h.2.symm)
      simp [addAll, eitherOut, twoII, twoTT, twoLL, twoRR, h1, Out.isTy]
    rw [e, word_res]
    exact add6_kinds t u g g' c c' m m' w1 hm hm' h1 h2 hc hc' ht1 ht2 hk
theorem out_none (op : Int) (ho : ¬ (1 ≤ op ∧ op ≤ 14)) (t u : T) : opOut Rs0 op t u = .inl tyW := by
  unfold opOut
  by_cases h1 : 1 ≤ op
  · rw [if_pos h1, List.getElem?_eq_none (by show 14 ≤ (op - 1).toNat; omega)]
  · rw [if_neg h1]
/-- Op, on the specification's side. -/
theorem specOp_any (op : Int) (la lb : List At) (g c g' c' : Nat) (w : World) (hl : la.length ≤ 1048576) (hl' : lb.length ≤ 1048576) (hx : ∀ x ∈ la, in64 x.n) (hx' : ∀ x ∈ lb, in64 x.n) (hc : la.length ≤ c) (hc' : lb.length ≤ c') (ht : AtomsO w g 0 la) (ht' : AtomsO w g' 0 lb) :
    Calls Tryz.prog 5 #[.int .i64 op, .agg #[.slice (some ⟨g, 0, none⟩) la.length c], .agg #[.slice (some ⟨g', 0, none⟩) lb.length c']] w (OPost w (opRes Rs0 op la lb)) := by
  unfold opRes
  by_cases hv : valid la = true
  · by_cases hv' : valid lb = true
    · rw [if_pos ⟨hv, hv'⟩]
      by_cases ho : 1 ≤ op ∧ op ≤ 14
      · obtain ⟨t, htr, hg, hn⟩ := valid_tree hv
        obtain ⟨u, htr', hg', hn'⟩ := valid_tree hv'
        have n1 := num_of htr hx
        have n2 := num_of htr' hx'
        rw [htr, htr']
        have ea := treeOf_some htr
        have eb := treeOf_some htr'
        subst ea eb
        obtain ⟨m, hm⟩ : ∃ m, t.count = m + 1 := ⟨t.count - 1, by have := atoms_pos t; unfold T.count; omega⟩
        obtain ⟨m', hm'⟩ : ∃ m, u.count = m + 1 := ⟨u.count - 1, by have := atoms_pos u; unfold T.count; omega⟩
        have l1 : t.atoms.length = m + 1 := hm
        have l2 : u.atoms.length = m' + 1 := hm'
        rw [l1] at hc hn ⊢
        rw [l2] at hc' hn' ⊢
        have h1 : m < 1000 := by omega
        have h2 : m' < 1000 := by omega
        show Calls _ _ _ _ (OPost w (opOut Rs0 op t u).res)
        have hop : op = 1 ∨ op = 2 ∨ op = 3 ∨ op = 4 ∨ op = 5 ∨ op = 6 ∨ op = 7 ∨ op = 8 ∨ op = 9 ∨ op = 10 ∨ op = 11 ∨ op = 12 ∨ op = 13 ∨ op = 14 := by omega
        rcases hop with rfl | rfl | rfl | rfl | rfl | rfl | rfl | rfl | rfl | rfl | rfl | rfl | rfl | rfl
        · exact spec1 t u g g' c c' m m' w hm hm' h1 h2 hc hc' hg hg' ht ht'
        · exact spec2 t u g g' c c' m m' w hm hm' h1 h2 hc hc' hg hg' ht ht'
        · exact spec3 t u g g' c c' m m' w hm hm' h1 h2 hc hc' hg hg' ht ht'
        · exact spec4 t u g g' c c' m m' w hm hm' h1 h2 hc hc' hg hg' ht ht'
        · exact spec5 t u g g' c c' m m' w hm hm' h1 h2 hc hc' hg hg' ht ht'
        · exact spec6 t u g g' c c' m m' w hm hm' h1 h2 hc hc' hg hg' ht ht'
        · exact spec7 t u g g' c c' m m' w hm hm' h1 h2 hc hc' hg hg' ht ht'
        · exact spec8 t u g g' c c' m m' w hm hm' h1 h2 hc hc' hg hg' ht ht'
        · exact spec9 t u g g' c c' m m' w hm hm' h1 h2 hc hc' hg hg' ht ht'
        · exact spec10 t u g g' c c' m m' w hm hm' h1 h2 hc hc' hg hg' ht ht' n1 n2
        · exact spec11 t u g g' c c' m m' w hm hm' h1 h2 hc hc' hg hg' ht ht' n1 n2
        · exact spec12 t u g g' c c' m m' w hm hm' h1 h2 hc hc' hg hg' ht ht' n1 n2
        · exact spec13 t u g g' c c' m m' w hm hm' h1 h2 hc hc' hg hg' ht ht' n1 n2
        · exact spec14 t u g g' c c' m m' w hm hm' h1 h2 hc hc' hg hg' ht ht' n1 n2
      · obtain ⟨t, htr, _, _⟩ := valid_tree hv
        obtain ⟨u, htr', _, _⟩ := valid_tree hv'
        rw [htr, htr']
        show Calls _ _ _ _ (OPost w (opOut Rs0 op t u).res)
        rw [out_none op ho]
        exact specOp_none op la lb g g' c c' w ht ht' hc hc' hl hl' hv hv' ho
    · rw [if_neg (fun h => hv' h.2)]
      exact specOp_bad2 op la lb g g' c c' w ht ht' hc hc' hl hl' hv (by simpa using hv')
  · rw [if_neg (fun h => hv h.1)]
    exact specOp_bad1 op la lb g g' c c' w ht ht' hc hc' hl hl' (by simpa using hv)
def Fine (R : T → T → Out) : Prop := ∀ t u, (R t u).fine
theorem fine_ty : (Out.fine (Sum.inl tyW)) := by show tyW ≠ []; decide
theorem fine_lg : (Out.fine (Sum.inl lgW)) := by show lgW ≠ []; decide
theorem fine_rg : (Out.fine (Sum.inl [114, 97, 110, 103, 101])) := by show ([114, 97, 110, 103, 101] : List UInt8) ≠ []; decide
theorem fine_dv : (Out.fine (Sum.inl [100, 105, 118, 105, 100, 101])) := by show ([100, 105, 118, 105, 100, 101] : List UInt8) ≠ []; decide
theorem fine_if {p : Prop} [Decidable p] {a b : Out} (ha : a.fine) (hb : b.fine) : (if p then a else b).fine := by split <;> assumption
theorem fine_num (r : Option Int) : (numOut r [114, 97, 110, 103, 101]).fine := by
  cases r with
  | none => exact fine_rg
  | some z => trivial
theorem fine_either : ∀ l : List Out, (∀ o ∈ l, o.fine) → (eitherOut l).fine
  | [], _ => fine_ty
  | o :: r, h => by
    unfold eitherOut
    exact fine_if (fine_either r (fun q hq => h q (List.mem_cons_of_mem _ hq))) (h o (List.mem_cons_self ..))
theorem fine_alike (hb : Int → Bool) : Fine (alike hb) := by
  intro t u
  refine fine_either _ (fun o ho => ?_)
  simp only [List.map_cons, List.map_nil, List.mem_cons, List.not_mem_nil, or_false] at ho
  rcases ho with rfl | rfl | rfl | rfl <;> exact fine_if trivial fine_ty
theorem fine_hasAll : Fine (hasAll containsR amongR hasNameR) := by
  intro t u
  refine fine_either _ (fun o ho => ?_)
  simp only [List.map_cons, List.map_nil, List.mem_cons, List.not_mem_nil, or_false] at ho
  rcases ho with rfl | rfl | rfl <;> exact fine_if trivial fine_ty
theorem fine_addAll : Fine (addAll catLR (catRR mergeR)) := by
  intro t u
  refine fine_either _ (fun o ho => ?_)
  simp only [List.map_cons, List.map_nil, List.mem_cons, List.not_mem_nil, or_false] at ho
  rcases ho with rfl | rfl | rfl | rfl
  · exact fine_if (fine_num _) fine_ty
  · exact fine_if (fine_if trivial fine_lg) fine_ty
  · exact fine_if (fine_if trivial fine_lg) fine_ty
  · exact fine_if (fine_if trivial fine_lg) fine_ty
theorem fine0 : ∀ R ∈ Rs0, ∀ t u, (R t u).fine := by
  intro R hR
  show Fine R
  unfold Rs0 opRs at hR
  simp only [List.mem_cons, List.not_mem_nil, or_false] at hR
  rcases hR with rfl | rfl | rfl | rfl | rfl | rfl | rfl | rfl | rfl | rfl | rfl | rfl | rfl | rfl
  · exact fun t u => fine_if trivial fine_ty
  · exact fun t u => fine_if trivial fine_ty
  · exact fun t u => trivial
  · exact fun t u => trivial
  · exact fine_alike _
  · exact fine_alike _
  · exact fine_alike _
  · exact fine_alike _
  · exact fine_hasAll
  · exact fine_addAll
  · exact fun t u => fine_if (fine_num _) fine_ty
  · exact fun t u => fine_if (fine_num _) fine_ty
  · exact fun t u => fine_if (fine_if fine_dv (fine_if fine_rg trivial)) fine_ty
  · exact fun t u => fine_if (fine_if fine_dv trivial) fine_ty
end Go.Proofs.YtnkfbjcgkdblgaaGreat.Vl
