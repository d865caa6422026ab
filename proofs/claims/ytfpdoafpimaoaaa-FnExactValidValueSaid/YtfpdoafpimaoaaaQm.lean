/- Walks: l5Ok and ValidValue, on the specification's side. -/
import Derived.Test.YtfpdoafpimaoaaaQe
namespace Go.Proofs.Ytfpdoafpimaoaaa.Vl
open Go.RowKit T.atoms T.ok T.high T.good T.allPlain

theorem atoms_last (t : T) (m : Nat) (h : t.atoms.length = m + 1) : t.atoms[m]? = some ⟨t.kind, t.num, t.text, t.ks.length⟩ := by
  have hm2 := T.count_eq t
  unfold T.count at hm2
  rw [T.atoms_eq, List.getElem?_append_right (by omega), show m - (atomsL t.ks).length = 0 from by omega]
  rfl
set_option maxRecDepth 100000 in
set_option maxHeartbeats 1000000 in
theorem ok5_any : ∀ (N : Nat) (l : List At) (g o c a m : Nat) (w : World), l.length < N → l.length = m + 1 → m < 1000 → m + 1 ≤ c → a ≤ 13 → AtomsO w g o l →
    Calls Try.prog 27 #[.agg #[.slice (some ⟨g, o, none⟩) (m + 1) c], .int .i64 (a : Int)] w fun e w' => e = .returned (.bool (okOf l a)) ∧ Below w.heap.size w w' := by
  intro N
  induction N with
  | zero => intro l g o c a m w h; omega
  | succ N ih =>
  intro l g o c a m w hN hl hm hc ha ht
  have IH := hide ih
  have HT := hide ht
  have r1 : Below w.heap.size w (w.alloc (.cells #[.slice (some ⟨g, o, none⟩) (m + 1) c] 25)) := (Below.refl _ _).alloc (Nat.le_refl _) _
  have ht1 := ht.below r1
  have HT1 := hide ht1
  clear ih ht ht1
  by_cases hhi : 12 < a
  · have HD := hide (okOf_high l a hhi)
    have hhi' : (12 : Int) < (a : Int) := by omega
    go_enter Try.func27, Try.ntmps27
    go_wp2
    go_ret
    exact ⟨ret_bool HD.out.symm, r1⟩
  · have hhi' : ¬ ((12 : Int) < (a : Int)) := by omega
    have HL := hide hl
    have HLN := hide hN
    clear hl hN
    cases htr : treeOf l with
    | none =>
      have HD := hide (okOf_none htr a)
      have HTR := hide htr
      clear htr
      go_enter Try.func27, Try.ntmps27
      go_wp2_with fail
      refine (kids5_any l g o c m _ HL.out (by omega) HT1.out hc).mono ?_
      rintro e w1 ⟨g7, c7, nk, vs, ok, rfl, ⟨-, hno⟩, hb1⟩
      obtain rfl := hno HTR.out
      rw [World.size_alloc] at hb1
      have c1 : w1.cell? ⟨w.heap.size, 0, none⟩ = some (.slice (some ⟨g, o, none⟩) (m + 1) c) := (hb1.cell (p := ⟨w.heap.size, 0, none⟩) (Nat.lt_succ_self _)).trans (by simp)
      have HT2 := hide ((HT1.out).below (by rw [World.size_alloc]; exact hb1))
      have hml : m < l.length := by have := HL.out; omega
      go_wp2_with fail
      refine (last_any l[m] l g o c m _ HL.out (by omega) (List.getElem?_eq_getElem hml) HT2.out).mono ?_
      rintro e w2 ⟨rfl, hb2⟩
      have HB : Hid (Below w.heap.size w w2) := hide ((r1.trans (hb1.mono (Nat.le_succ _))).trans (hb2.mono (by have := hb1.size; rw [World.size_alloc] at this; omega)))
      clear hb1 hb2 c1
      go_wp2
      go_ret
      exact ⟨ret_bool HD.out.symm, HB.out.alloc HB.out.size _⟩
    | some t =>
      obtain rfl := treeOf_some htr
      have HD := hide (okOf_T t a)
      rw [T.ok_eq] at HD
      have HC := hide (T.count_eq t)
      have HTR := hide htr
      clear htr
      go_enter Try.func27, Try.ntmps27
      go_wp2_with fail
      refine (kids5_any t.atoms g o c m _ HL.out (by omega) HT1.out hc).mono ?_
      rintro e w1 ⟨g7, c7, nk, vs, ok, rfl, ⟨hyes, -⟩, hb1⟩
      obtain ⟨rfl, rfl, hown, hkids⟩ := hyes t HTR.out
      rw [World.size_alloc] at hb1 hown
      have c1 : w1.cell? ⟨w.heap.size, 0, none⟩ = some (.slice (some ⟨g, o, none⟩) (m + 1) c) := (hb1.cell (p := ⟨w.heap.size, 0, none⟩) (Nat.lt_succ_self _)).trans (by simp)
      have HT2 := hide ((HT1.out).below (by rw [World.size_alloc]; exact hb1))
      have HOW := hide hown
      have HKD := hide hkids
      clear hyes hown hkids
      go_wp2_with fail
      refine (last_any ⟨t.kind, t.num, t.text, t.ks.length⟩ t.atoms g o c m _ HL.out (by omega) (atoms_last t m HL.out) HT2.out).mono ?_
      rintro e w2 ⟨rfl, hb2⟩
      have HB : Hid (Below w.heap.size w w2) := hide ((r1.trans (hb1.mono (Nat.le_succ _))).trans (hb2.mono (by have := hb1.size; rw [World.size_alloc] at this; omega)))
      have HO2 := hide (row_below HOW.out hb2)
      have HK2 := hide (HKD.out.below hb2)
      clear hb1 hb2 c1 HOW HKD HT1 HT2 HTR HT
      have hkl : t.ks.length ≤ m := by have := len_le_atomsL t.ks; have := HC.out; have := HL.out; unfold T.count at *; omega
      generalize t.kind = k at *
      generalize t.num = n at *
      generalize t.text = s at *
      generalize t.ks = ks at *
      have hk7 : k = 1 ∨ k = 2 ∨ k = 3 ∨ k = 4 ∨ k = 5 ∨ k = 6 ∨ (k ≠ 1 ∧ k ≠ 2 ∧ k ≠ 3 ∧ k ≠ 4 ∧ k ≠ 5 ∧ k ≠ 6) := by omega
      rcases hk7 with rfl | rfl | rfl | rfl | rfl | rfl | ⟨q1, q2, q3, q4, q5, q6⟩
      · cases hn0 : (n != 0)
        · cases hs0 : (s.toList == [])
          · have HZ : Hid (okOf t.atoms a = false) := hide (by rw [HD.out, show plain 1 n s ks = false from by rw [str_empty] at hs0; simp at hs0; simp [plain, hs0]]; simp)
            go_wp2
            go_ret
            exact ⟨ret_bool HZ.out.symm, HB.out.alloc HB.out.size _⟩
          · cases hk0 : ((ks.length : Int) != 0)
            · have HP : Hid (plain 1 n s ks = true) := hide (by simp at hn0 hk0; rw [str_empty] at hs0; simp at hs0; simp [plain, hn0, hs0, hk0])
              go_wp2

              go_loopw [9] (fun t9 wr => ∃ i : Nat, i ≤ ks.length ∧ t9 = .int .i64 i ∧ Below w2.heap.size w2 wr ∧ okL ks (a + 1) = okL (ks.drop i) (a + 1)) (fun t9 _ => ks.length - (intOf t9).toNat)
              case atStart => exact ⟨0, Nat.zero_le _, rfl, (Below.refl _ _).alloc (Nat.le_refl _) _, by rw [List.drop_zero]⟩
              case round =>
                obtain ⟨i, hi, rfl, hB, he⟩ := hrel
                have HE := hide he
                clear he
                by_cases hlt : i < ks.length
                · obtain ⟨gk, ok, ck, hv, hat, hck⟩ := HK2.out.2 i hlt
                  have d1 := (hB.cell (p := ⟨g7, i, none⟩) (row_room HO2.out).2.2).trans ((HO2.out.cellAt i (by omega)).trans hv)
                  have HAT := hide (hat.below hB)
                  have HS := hide (okL_at ks i (a + 1) hlt)
                  obtain ⟨mk, hmk⟩ : ∃ mk, (ks[i]).count = mk + 1 := ⟨(ks[i]).count - 1, by have := atoms_pos ks[i]; unfold T.count; omega⟩
                  have hsz : (ks[i]).count ≤ (atomsL ks).length := by
                    have e : ks = ks.take i ++ [ks[i]] ++ ks.drop (i + 1) := by rw [← List.take_succ_eq_append_getElem hlt, List.take_append_drop]
                    have h := congrArg (fun x => (atomsL x).length) e
                    simp only [atomsL_append, List.length_append, atomsL, List.append_nil] at h
                    unfold T.count; omega
                  rw [hmk] at d1 hck
                  have hmt : mk + 1 < m + 1 := by have := HC.out; have := HL.out; unfold T.count at *; omega
                  have HMK := hide hmk
                  have HI := hide (IH.out (ks[i]).atoms gk ok ck (a + 1) mk wr (by have := HMK.out; have := HLN.out; have := HL.out; unfold T.count at *; omega) HMK.out (by omega) hck (by omega) HAT.out)
                  rw [okOf_T] at HI
                  generalize ks[i] = kid at *
                  clear hv hat hmk hsz HAT HMK
                  have HI2 : Hid (Calls Try.prog 27 #[.agg #[.slice (some ⟨gk, ok, none⟩) (mk + 1) ck], .int .i64 ((a : Int) + 1)] wr fun e w' => e = .returned (.bool (kid.ok (a + 1))) ∧ Below wr.heap.size wr w') := HI
                  cases hko : kid.ok (a + 1)
                  · rw [hko] at HI2
                    have HZ : Hid (okOf t.atoms a = false) := hide (by rw [HD.out, HE.out, HS.out, hko]; simp)
                    go_wp2_with fail
                    refine HI2.out.mono ?_
                    rintro e w3 ⟨rfl, hb3⟩
                    go_wp2
                    go_ret
                    exact ⟨ret_bool HZ.out.symm, HB.out.trans ((hB.trans (hb3.mono hB.size)).mono HB.out.size)⟩
                  · rw [hko] at HI2
                    go_wp2_with fail
                    refine HI2.out.mono ?_
                    rintro e w3 ⟨rfl, hb3⟩
                    go_wp2
                    go_roundw
                    case rel => exact ⟨i + 1, by omega, by go_num, hB.trans (hb3.mono hB.size), by rw [HE.out, HS.out, hko]; rfl⟩
                    case measure => simp [intOf]; omega
                · have HZ : Hid (okOf t.atoms a = true) := hide (by rw [HD.out, HP.out, HE.out, List.drop_of_length_le (by omega), okL]; simp; omega)
                  go_wp2
                  go_ret
                  exact ⟨ret_bool HZ.out.symm, HB.out.trans (hB.mono HB.out.size)⟩
            · have HZ : Hid (okOf t.atoms a = false) := hide (by rw [HD.out, show plain 1 n s ks = false from by simp at hk0; simp [plain, hk0]]; simp)
              go_wp2
              go_ret
              exact ⟨ret_bool HZ.out.symm, HB.out.alloc HB.out.size _⟩
        · have HZ : Hid (okOf t.atoms a = false) := hide (by rw [HD.out, show plain 1 n s ks = false from by simp at hn0; simp [plain, hn0]]; simp)
          go_wp2
          go_ret
          exact ⟨ret_bool HZ.out.symm, HB.out.alloc HB.out.size _⟩
      · cases hs0 : (s.toList == [])
        · have HZ : Hid (okOf t.atoms a = false) := hide (by rw [HD.out, show plain 2 n s ks = false from by rw [str_empty] at hs0; simp at hs0; simp [plain, hs0]]; simp)
          go_wp2
          go_ret
          exact ⟨ret_bool HZ.out.symm, HB.out.alloc HB.out.size _⟩
        · cases hk0 : ((ks.length : Int) != 0)
          · have HP : Hid (okOf t.atoms a = (n == 0 || n == 1)) := hide (by simp at hk0; rw [HD.out, hk0]; rw [str_empty] at hs0; simp at hs0; simp [plain, hs0, okL]; omega)
            cases h0 : (n == 0)
            · rw [h0] at HP
              go_wp2
              go_ret
              exact ⟨ret_bool HP.out.symm, HB.out.alloc HB.out.size _⟩
            · rw [h0] at HP
              go_wp2
              go_ret
              exact ⟨ret_bool HP.out.symm, HB.out.alloc HB.out.size _⟩
          · have HZ : Hid (okOf t.atoms a = false) := hide (by rw [HD.out, show plain 2 n s ks = false from by simp at hk0; simp [plain, hk0]]; simp)
            go_wp2
            go_ret
            exact ⟨ret_bool HZ.out.symm, HB.out.alloc HB.out.size _⟩
      · cases hs0 : (s.toList == [])
        · have HZ : Hid (okOf t.atoms a = false) := hide (by rw [HD.out, show plain 3 n s ks = false from by rw [str_empty] at hs0; simp at hs0; simp [plain, hs0]]; simp)
          go_wp2
          go_ret
          exact ⟨ret_bool HZ.out.symm, HB.out.alloc HB.out.size _⟩
        · cases hk0 : ((ks.length : Int) != 0)
          · have HP : Hid (plain 3 n s ks = true) := hide (by simp at hk0; rw [str_empty] at hs0; simp at hs0; simp [plain, hs0, hk0])
            go_wp2

            go_loopw [9] (fun t9 wr => ∃ i : Nat, i ≤ ks.length ∧ t9 = .int .i64 i ∧ Below w2.heap.size w2 wr ∧ okL ks (a + 1) = okL (ks.drop i) (a + 1)) (fun t9 _ => ks.length - (intOf t9).toNat)
            case atStart => exact ⟨0, Nat.zero_le _, rfl, (Below.refl _ _).alloc (Nat.le_refl _) _, by rw [List.drop_zero]⟩
            case round =>
              obtain ⟨i, hi, rfl, hB, he⟩ := hrel
              have HE := hide he
              clear he
              by_cases hlt : i < ks.length
              · obtain ⟨gk, ok, ck, hv, hat, hck⟩ := HK2.out.2 i hlt
                have d1 := (hB.cell (p := ⟨g7, i, none⟩) (row_room HO2.out).2.2).trans ((HO2.out.cellAt i (by omega)).trans hv)
                have HAT := hide (hat.below hB)
                have HS := hide (okL_at ks i (a + 1) hlt)
                obtain ⟨mk, hmk⟩ : ∃ mk, (ks[i]).count = mk + 1 := ⟨(ks[i]).count - 1, by have := atoms_pos ks[i]; unfold T.count; omega⟩
                have hsz : (ks[i]).count ≤ (atomsL ks).length := by
                  have e : ks = ks.take i ++ [ks[i]] ++ ks.drop (i + 1) := by rw [← List.take_succ_eq_append_getElem hlt, List.take_append_drop]
                  have h := congrArg (fun x => (atomsL x).length) e
                  simp only [atomsL_append, List.length_append, atomsL, List.append_nil] at h
                  unfold T.count; omega
                rw [hmk] at d1 hck
                have hmt : mk + 1 < m + 1 := by have := HC.out; have := HL.out; unfold T.count at *; omega
                have HMK := hide hmk
                have HI := hide (IH.out (ks[i]).atoms gk ok ck (a + 1) mk wr (by have := HMK.out; have := HLN.out; have := HL.out; unfold T.count at *; omega) HMK.out (by omega) hck (by omega) HAT.out)
                rw [okOf_T] at HI
                generalize ks[i] = kid at *
                clear hv hat hmk hsz HAT HMK
                have HI2 : Hid (Calls Try.prog 27 #[.agg #[.slice (some ⟨gk, ok, none⟩) (mk + 1) ck], .int .i64 ((a : Int) + 1)] wr fun e w' => e = .returned (.bool (kid.ok (a + 1))) ∧ Below wr.heap.size wr w') := HI
                cases hko : kid.ok (a + 1)
                · rw [hko] at HI2
                  have HZ : Hid (okOf t.atoms a = false) := hide (by rw [HD.out, HE.out, HS.out, hko]; simp)
                  go_wp2_with fail
                  refine HI2.out.mono ?_
                  rintro e w3 ⟨rfl, hb3⟩
                  go_wp2
                  go_ret
                  exact ⟨ret_bool HZ.out.symm, HB.out.trans ((hB.trans (hb3.mono hB.size)).mono HB.out.size)⟩
                · rw [hko] at HI2
                  go_wp2_with fail
                  refine HI2.out.mono ?_
                  rintro e w3 ⟨rfl, hb3⟩
                  go_wp2
                  go_roundw
                  case rel => exact ⟨i + 1, by omega, by go_num, hB.trans (hb3.mono hB.size), by rw [HE.out, HS.out, hko]; rfl⟩
                  case measure => simp [intOf]; omega
              · have HZ : Hid (okOf t.atoms a = true) := hide (by rw [HD.out, HP.out, HE.out, List.drop_of_length_le (by omega), okL]; simp; omega)
                go_wp2
                go_ret
                exact ⟨ret_bool HZ.out.symm, HB.out.trans (hB.mono HB.out.size)⟩
          · have HZ : Hid (okOf t.atoms a = false) := hide (by rw [HD.out, show plain 3 n s ks = false from by simp at hk0; simp [plain, hk0]]; simp)
            go_wp2
            go_ret
            exact ⟨ret_bool HZ.out.symm, HB.out.alloc HB.out.size _⟩
      · cases hn0 : (n != 0)
        · cases hk0 : ((ks.length : Int) != 0)
          · have HP : Hid (okOf t.atoms a = decide ((s.size : Int) ≤ 1000)) := hide (by simp at hk0 hn0; rw [HD.out, hk0, Bool.eq_iff_iff]; simp [plain, hn0, okL]; omega)
            go_wp2
            go_ret
            exact ⟨ret_bool HP.out.symm, HB.out.alloc HB.out.size _⟩
          · have HZ : Hid (okOf t.atoms a = false) := hide (by rw [HD.out, show plain 4 n s ks = false from by simp at hk0; simp [plain, hk0]]; simp)
            go_wp2
            go_ret
            exact ⟨ret_bool HZ.out.symm, HB.out.alloc HB.out.size _⟩
        · have HZ : Hid (okOf t.atoms a = false) := hide (by rw [HD.out, show plain 4 n s ks = false from by simp at hn0; simp [plain, hn0]]; simp)
          go_wp2
          go_ret
          exact ⟨ret_bool HZ.out.symm, HB.out.alloc HB.out.size _⟩
      · cases hn0 : (n != 0)
        · cases hs0 : (s.toList == [])
          · have HZ : Hid (okOf t.atoms a = false) := hide (by rw [HD.out, show plain 5 n s ks = false from by rw [str_empty] at hs0; simp at hs0; simp [plain, hs0]]; simp)
            go_wp2
            go_ret
            exact ⟨ret_bool HZ.out.symm, HB.out.alloc HB.out.size _⟩
          · by_cases h200 : (200 : Int) < (ks.length : Int)
            · have HZ : Hid (okOf t.atoms a = false) := hide (by rw [HD.out, show plain 5 n s ks = false from by simp [plain]; omega]; simp)
              go_wp2
              go_ret
              exact ⟨ret_bool HZ.out.symm, HB.out.alloc HB.out.size _⟩
            · have HP : Hid (plain 5 n s ks = true) := hide (by simp at hn0; rw [str_empty] at hs0; simp at hs0; simp [plain, hn0, hs0]; omega)
              go_wp2

              go_loopw [9] (fun t9 wr => ∃ i : Nat, i ≤ ks.length ∧ t9 = .int .i64 i ∧ Below w2.heap.size w2 wr ∧ okL ks (a + 1) = okL (ks.drop i) (a + 1)) (fun t9 _ => ks.length - (intOf t9).toNat)
              case atStart => exact ⟨0, Nat.zero_le _, rfl, (Below.refl _ _).alloc (Nat.le_refl _) _, by rw [List.drop_zero]⟩
              case round =>
                obtain ⟨i, hi, rfl, hB, he⟩ := hrel
                have HE := hide he
                clear he
                by_cases hlt : i < ks.length
                · obtain ⟨gk, ok, ck, hv, hat, hck⟩ := HK2.out.2 i hlt
                  have d1 := (hB.cell (p := ⟨g7, i, none⟩) (row_room HO2.out).2.2).trans ((HO2.out.cellAt i (by omega)).trans hv)
                  have HAT := hide (hat.below hB)
                  have HS := hide (okL_at ks i (a + 1) hlt)
                  obtain ⟨mk, hmk⟩ : ∃ mk, (ks[i]).count = mk + 1 := ⟨(ks[i]).count - 1, by have := atoms_pos ks[i]; unfold T.count; omega⟩
                  have hsz : (ks[i]).count ≤ (atomsL ks).length := by
                    have e : ks = ks.take i ++ [ks[i]] ++ ks.drop (i + 1) := by rw [← List.take_succ_eq_append_getElem hlt, List.take_append_drop]
                    have h := congrArg (fun x => (atomsL x).length) e
                    simp only [atomsL_append, List.length_append, atomsL, List.append_nil] at h
                    unfold T.count; omega
                  rw [hmk] at d1 hck
                  have hmt : mk + 1 < m + 1 := by have := HC.out; have := HL.out; unfold T.count at *; omega
                  have HMK := hide hmk
                  have HI := hide (IH.out (ks[i]).atoms gk ok ck (a + 1) mk wr (by have := HMK.out; have := HLN.out; have := HL.out; unfold T.count at *; omega) HMK.out (by omega) hck (by omega) HAT.out)
                  rw [okOf_T] at HI
                  generalize ks[i] = kid at *
                  clear hv hat hmk hsz HAT HMK
                  have HI2 : Hid (Calls Try.prog 27 #[.agg #[.slice (some ⟨gk, ok, none⟩) (mk + 1) ck], .int .i64 ((a : Int) + 1)] wr fun e w' => e = .returned (.bool (kid.ok (a + 1))) ∧ Below wr.heap.size wr w') := HI
                  cases hko : kid.ok (a + 1)
                  · rw [hko] at HI2
                    have HZ : Hid (okOf t.atoms a = false) := hide (by rw [HD.out, HE.out, HS.out, hko]; simp)
                    go_wp2_with fail
                    refine HI2.out.mono ?_
                    rintro e w3 ⟨rfl, hb3⟩
                    go_wp2
                    go_ret
                    exact ⟨ret_bool HZ.out.symm, HB.out.trans ((hB.trans (hb3.mono hB.size)).mono HB.out.size)⟩
                  · rw [hko] at HI2
                    go_wp2_with fail
                    refine HI2.out.mono ?_
                    rintro e w3 ⟨rfl, hb3⟩
                    go_wp2
                    go_roundw
                    case rel => exact ⟨i + 1, by omega, by go_num, hB.trans (hb3.mono hB.size), by rw [HE.out, HS.out, hko]; rfl⟩
                    case measure => simp [intOf]; omega
                · have HZ : Hid (okOf t.atoms a = true) := hide (by rw [HD.out, HP.out, HE.out, List.drop_of_length_le (by omega), okL]; simp; omega)
                  go_wp2
                  go_ret
                  exact ⟨ret_bool HZ.out.symm, HB.out.trans (hB.mono HB.out.size)⟩
        · have HZ : Hid (okOf t.atoms a = false) := hide (by rw [HD.out, show plain 5 n s ks = false from by simp at hn0; simp [plain, hn0]]; simp)
          go_wp2
          go_ret
          exact ⟨ret_bool HZ.out.symm, HB.out.alloc HB.out.size _⟩
      · cases hn0 : (n != 0)
        · cases hs0 : (s.toList == [])
          · have HZ : Hid (okOf t.atoms a = false) := hide (by rw [HD.out, show plain 6 n s ks = false from by rw [str_empty] at hs0; simp at hs0; simp [plain, hs0]]; simp)
            go_wp2
            go_ret
            exact ⟨ret_bool HZ.out.symm, HB.out.alloc HB.out.size _⟩
          · by_cases hodd : ks.length % 2 = 0
            · by_cases h400 : (400 : Int) < (ks.length : Int)
              · have hev : (ks.length : Int) % 2 = 0 := by omega
                have HZ : Hid (okOf t.atoms a = false) := hide (by rw [HD.out, show plain 6 n s ks = false from by simp [plain]; omega]; simp)
                go_wp2
                go_ret
                exact ⟨ret_bool HZ.out.symm, HB.out.alloc HB.out.size _⟩
              · have hev : (ks.length : Int) % 2 = 0 := by omega
                have HPL : Hid (plain 6 n s ks = names ks) := hide (by simp at hn0; rw [str_empty] at hs0; simp at hs0; simp [plain, hn0, hs0]; omega)
                go_wp2
                go_loopw [8] (fun t8 wr => ∃ i j : Nat, i = 2 * j ∧ i ≤ ks.length ∧ t8 = .int .i64 i ∧ Below w2.heap.size w2 wr ∧ names ks = namesFrom ks (ks.length + 1 - j) i) (fun t8 _ => ks.length - (intOf t8).toNat)
                case atStart => exact ⟨0, 0, rfl, by omega, rfl, (Below.refl _ _).alloc (Nat.le_refl _) _, (names_from ks hodd).symm⟩
                case round =>
                  clear hev
                  obtain ⟨i, j, hij, hi, rfl, hBo, hnm⟩ := hrel
                  have HN := hide hnm
                  have HIJ := hide hij
                  clear hnm hij
                  have hev2 : i % 2 = 0 := by have := HIJ.out; omega
                  by_cases hlt : i < ks.length
                  · have hlt2 : i + 2 ≤ ks.length := by omega
                    have HNX : Hid (names ks = (namesAt ks i && namesFrom ks (ks.length + 1 - (j + 1)) (i + 2))) := hide (by
                      have := HIJ.out
                      rw [HN.out, show ks.length + 1 - j = (ks.length + 1 - (j + 1)) + 1 from by omega, namesFrom, if_pos hlt])
                    obtain ⟨gk, ok, ck, hv, hat, hck⟩ := HK2.out.2 i hlt
                    have x1 := fun q : KB wr => ((hBo.trans (q.below.mono hBo.size)).cell (p := ⟨g7, i, none⟩) (row_room HO2.out).2.2).trans ((HO2.out.cellAt i (by omega)).trans hv)
                    have hsz : (ks[i]).count ≤ 1000 := by
                      have e : ks = ks.take i ++ [ks[i]] ++ ks.drop (i + 1) := by rw [← List.take_succ_eq_append_getElem hlt, List.take_append_drop]
                      have h := congrArg (fun x => (atomsL x).length) e
                      simp only [atomsL_append, List.length_append, atomsL, List.append_nil] at h
                      have := HC.out; have := HL.out; unfold T.count at *; omega
                    have HLA := hide (fun w' (hb : Below wr.heap.size wr w') => last_T ks[i] gk ok ck w' (by omega) ((hat.below hBo).below hb))
                    have HNA : Hid (namesAt ks i = ((ks[i]).kind == 4 && (i == 0 || slt ((ks[i - 2]?.map T.text).getD ⟨#[]⟩) (ks[i]).text))) := hide (by unfold namesAt; rw [List.getElem?_eq_getElem hlt]; rfl)
                    generalize (ks[i]).kind = kk at *
                    generalize (ks[i]).num = kn at *
                    generalize (ks[i]).text = kt at *
                    generalize (ks[i]).ks.length = kl at *
                    generalize (ks[i]).count = kc at *
                    haveI hne : Nonempty (KB wr) := ⟨⟨_, Below.refl _ _⟩⟩
                    have HBW := hide (HB.out.trans (hBo.mono HB.out.size))
                    clear hv hat hck hsz
                    cases hkk : (kk != 4)
                    · have hk4 : kk = 4 := by simpa using hkk
                      subst hk4
                      clear hkk
                      by_cases hi0 : i = 0
                      · have HGO : Hid (names ks = namesFrom ks (ks.length + 1 - (j + 1)) (i + 2)) := hide (by rw [HNX.out, HNA.out, hi0]; simp)
                        subst hi0
                        go_wp2
                        have hfl0 := fld0
                        have hfl2 := fld2
                        refine region_class (KB.w (w := wr)) (by kernel_rfl) (by kernel_rfl) ⟨⟨_, below_drewN (Below.refl _ _) _⟩, rfl⟩ ?_
                        repeat (go_big_quiet_step ((go_at_call 32; exact kb_call HLA.out _)))
                        refine wpQuiet_nil ?_
                        rintro _ ⟨q, rfl⟩
                        have hBq := q.below
                        go_wp2
                        go_roundw
                        case rel => exact ⟨0 + 2, j + 1, by have := HIJ.out; omega, hlt2, by go_num, hBo.trans (hBq.mono hBo.size), HGO.out⟩
                        case measure => simp [intOf]; omega
                      · obtain ⟨i2, rfl⟩ : ∃ i2, i = i2 + 2 := ⟨i - 2, by omega⟩
                        have hlt3 : i2 < ks.length := by omega
                        obtain ⟨gp, op, cp, hvp, hatp, hckp⟩ := HK2.out.2 i2 hlt3
                        have x2 := fun q : KB wr => ((hBo.trans (q.below.mono hBo.size)).cell (p := ⟨g7, i2, none⟩) (row_room HO2.out).2.2).trans ((HO2.out.cellAt i2 (by omega)).trans hvp)
                        have hszp : (ks[i2]).count ≤ 1000 := by
                          have e : ks = ks.take i2 ++ [ks[i2]] ++ ks.drop (i2 + 1) := by rw [← List.take_succ_eq_append_getElem hlt3, List.take_append_drop]
                          have h := congrArg (fun x => (atomsL x).length) e
                          simp only [atomsL_append, List.length_append, atomsL, List.append_nil] at h
                          have := HC.out; have := HL.out; unfold T.count at *; omega
                        have HLP := hide (fun w' (hb : Below wr.heap.size wr w') => last_T ks[i2] gp op cp w' (by omega) ((hatp.below hBo).below hb))
                        have HNB : Hid (namesAt ks (i2 + 2) = slt (ks[i2]).text kt) := hide (by
                          rw [HNA.out, show i2 + 2 - 2 = i2 from by omega, List.getElem?_eq_getElem hlt3]; simp)
                        generalize (ks[i2]).kind = pk at *
                        generalize (ks[i2]).num = pn at *
                        generalize (ks[i2]).text = pt at *
                        generalize (ks[i2]).ks.length = pl at *
                        generalize (ks[i2]).count = pc at *
                        clear hvp hatp hckp hszp HNA
                        have hg0 : (0 : Int) < (i2 : Int) + 2 := by omega
                        cases hsl : slt pt kt
                        · have hsl' : Go.Op.bytesLess pt.toList kt.toList = false := hsl
                          have HZ : Hid (okOf t.atoms a = false) := hide (by rw [HD.out, HPL.out, HNX.out, HNB.out, hsl]; simp)
                          go_wp2
                          have hg1 : (0 : Int) < (i2 : Int) + 2 := by omega
                          have hfl0 := fld0
                          have hfl2 := fld2
                          refine region_class (KB.w (w := wr)) (by kernel_rfl) (by kernel_rfl) ⟨⟨_, below_drewN (Below.refl _ _) _⟩, rfl⟩ ?_
                          iterate 16 (go_big_quiet_step ((go_at_call 32; exact kb_call HLA.out _)))
                          iterate 1 (go_big_quiet_step ((go_at_call 32; exact kb_call HLP.out _)))
                          iterate 10 (go_big_quiet_step ((go_at_call 32; exact kb_call HLA.out _)))
                          refine wpQuiet_nil ?_
                          rintro _ ⟨q, rfl⟩
                          have hBq := q.below
                          go_wp2
                          go_ret
                          exact ⟨ret_bool HZ.out.symm, HBW.out.trans (hBq.mono HBW.out.size)⟩
                        · have hsl' : Go.Op.bytesLess pt.toList kt.toList = true := hsl
                          have HGO : Hid (names ks = namesFrom ks (ks.length + 1 - (j + 1)) (i2 + 2 + 2)) := hide (by rw [HNX.out, HNB.out, hsl]; simp)
                          go_wp2
                          have hg1 : (0 : Int) < (i2 : Int) + 2 := by omega
                          have hfl0 := fld0
                          have hfl2 := fld2
                          refine region_class (KB.w (w := wr)) (by kernel_rfl) (by kernel_rfl) ⟨⟨_, below_drewN (Below.refl _ _) _⟩, rfl⟩ ?_
                          iterate 16 (go_big_quiet_step ((go_at_call 32; exact kb_call HLA.out _)))
                          iterate 1 (go_big_quiet_step ((go_at_call 32; exact kb_call HLP.out _)))
                          iterate 10 (go_big_quiet_step ((go_at_call 32; exact kb_call HLA.out _)))
                          refine wpQuiet_nil ?_
                          rintro _ ⟨q, rfl⟩
                          have hBq := q.below
                          go_wp2
                          go_roundw
                          case rel => exact ⟨i2 + 2 + 2, j + 1, by have := HIJ.out; omega, hlt2, by go_num, hBo.trans (hBq.mono hBo.size), HGO.out⟩
                          case measure => simp [intOf]; omega
                    · have HZ : Hid (okOf t.atoms a = false) := hide (by
                        have hk4 : (kk == 4) = false := by simpa using hkk
                        rw [HD.out, HPL.out, HNX.out, HNA.out, hk4]; simp)
                      have HKK := hide hkk
                      go_wp2
                      have hkk2 : (kk != 4) = true := HKK.out
                      have hkk3 : ¬ (kk = 4) := by simpa using HKK.out
                      have hfl0 := fld0
                      have hfl2 := fld2
                      refine region_class (KB.w (w := wr)) (by kernel_rfl) (by kernel_rfl) ⟨⟨_, below_drewN (Below.refl _ _) _⟩, rfl⟩ ?_
                      repeat (go_big_quiet_step ((go_at_call 32; exact kb_call HLA.out _)))
                      refine wpQuiet_nil ?_
                      rintro _ ⟨q, rfl⟩
                      have hBq := q.below
                      go_wp2
                      go_ret
                      exact ⟨ret_bool HZ.out.symm, HBW.out.trans (hBq.mono HBW.out.size)⟩
                  · have HP : Hid (plain 6 n s ks = true) := hide (by
                      rw [HPL.out, HN.out]
                      cases hf : ks.length + 1 - j with
                      | zero => rfl
                      | succ f => rw [namesFrom, if_neg hlt])
                    go_wp2
                    go_loopw [9] (fun t9 wr => ∃ i : Nat, i ≤ ks.length ∧ t9 = .int .i64 i ∧ Below w2.heap.size w2 wr ∧ okL ks (a + 1) = okL (ks.drop i) (a + 1)) (fun t9 _ => ks.length - (intOf t9).toNat)
                    case atStart => exact ⟨0, Nat.zero_le _, rfl, hBo, by rw [List.drop_zero]⟩
                    case round =>
                      obtain ⟨i, hi, rfl, hB, he⟩ := hrel
                      have HE := hide he
                      clear he
                      by_cases hlt : i < ks.length
                      · obtain ⟨gk, ok, ck, hv, hat, hck⟩ := HK2.out.2 i hlt
                        have d1 := (hB.cell (p := ⟨g7, i, none⟩) (row_room HO2.out).2.2).trans ((HO2.out.cellAt i (by omega)).trans hv)
                        have HAT := hide (hat.below hB)
                        have HS := hide (okL_at ks i (a + 1) hlt)
                        obtain ⟨mk, hmk⟩ : ∃ mk, (ks[i]).count = mk + 1 := ⟨(ks[i]).count - 1, by have := atoms_pos ks[i]; unfold T.count; omega⟩
                        have hsz : (ks[i]).count ≤ (atomsL ks).length := by
                          have e : ks = ks.take i ++ [ks[i]] ++ ks.drop (i + 1) := by rw [← List.take_succ_eq_append_getElem hlt, List.take_append_drop]
                          have h := congrArg (fun x => (atomsL x).length) e
                          simp only [atomsL_append, List.length_append, atomsL, List.append_nil] at h
                          unfold T.count; omega
                        rw [hmk] at d1 hck
                        have hmt : mk + 1 < m + 1 := by have := HC.out; have := HL.out; unfold T.count at *; omega
                        have HMK := hide hmk
                        have HI := hide (IH.out (ks[i]).atoms gk ok ck (a + 1) mk wr (by have := HMK.out; have := HLN.out; have := HL.out; unfold T.count at *; omega) HMK.out (by omega) hck (by omega) HAT.out)
                        rw [okOf_T] at HI
                        generalize ks[i] = kid at *
                        clear hv hat hmk hsz HAT HMK
                        have HI2 : Hid (Calls Try.prog 27 #[.agg #[.slice (some ⟨gk, ok, none⟩) (mk + 1) ck], .int .i64 ((a : Int) + 1)] wr fun e w' => e = .returned (.bool (kid.ok (a + 1))) ∧ Below wr.heap.size wr w') := HI
                        cases hko : kid.ok (a + 1)
                        · rw [hko] at HI2
                          have HZ : Hid (okOf t.atoms a = false) := hide (by rw [HD.out, HE.out, HS.out, hko]; simp)
                          go_wp2_with fail
                          refine HI2.out.mono ?_
                          rintro e w3 ⟨rfl, hb3⟩
                          go_wp2
                          go_ret
                          exact ⟨ret_bool HZ.out.symm, HB.out.trans ((hB.trans (hb3.mono hB.size)).mono HB.out.size)⟩
                        · rw [hko] at HI2
                          go_wp2_with fail
                          refine HI2.out.mono ?_
                          rintro e w3 ⟨rfl, hb3⟩
                          go_wp2
                          go_roundw
                          case rel => exact ⟨i + 1, by omega, by go_num, hB.trans (hb3.mono hB.size), by rw [HE.out, HS.out, hko]; rfl⟩
                          case measure => simp [intOf]; omega
                      · have HZ : Hid (okOf t.atoms a = true) := hide (by rw [HD.out, HP.out, HE.out, List.drop_of_length_le (by omega), okL]; simp; omega)
                        go_wp2
                        go_ret
                        exact ⟨ret_bool HZ.out.symm, HB.out.trans (hB.mono HB.out.size)⟩
            · have hev : ¬ ((ks.length : Int) % 2 = 0) := by omega
              have HZ : Hid (okOf t.atoms a = false) := hide (by rw [HD.out, show plain 6 n s ks = false from by simp [plain]; omega]; simp)
              go_wp2
              go_ret
              exact ⟨ret_bool HZ.out.symm, HB.out.alloc HB.out.size _⟩
        · have HZ : Hid (okOf t.atoms a = false) := hide (by rw [HD.out, show plain 6 n s ks = false from by simp at hn0; simp [plain, hn0]]; simp)
          go_wp2
          go_ret
          exact ⟨ret_bool HZ.out.symm, HB.out.alloc HB.out.size _⟩
      · have p1 : ¬ k = 1 := q1
        have p2 : ¬ k = 2 := q2
        have p3 : ¬ k = 3 := q3
        have p4 : ¬ k = 4 := q4
        have p5 : ¬ k = 5 := q5
        have p6 : ¬ k = 6 := q6
        clear q1 q2 q3 q4 q5 q6
        have HZ : Hid (okOf t.atoms a = false) := hide (by rw [HD.out, show plain k n s ks = false from by simp [plain, p1, p2, p3, p4, p5, p6]]; simp)
        go_wp2
        all_goals
          go_ret
          exact ⟨ret_bool HZ.out.symm, HB.out.alloc HB.out.size _⟩
end Go.Proofs.Ytfpdoafpimaoaaa.Vl
