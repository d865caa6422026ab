/- Walks: the program's names and packages' names; how many kids. -/
import Derived.Test.YtmklgiononbmmaaDoorJq
import Derived.Test.YtmklgiononbmmaaDoorJb
namespace Go.Proofs.YtmklgiononbmmaaDoor
open Go.RowKit
set_option maxRecDepth 100000 in
set_option maxHeartbeats 1000000 in
theorem isName_any (s : ByteArray) (b : Nat) (w : World) (hs : s.size ≤ 1048576) (hm : w.ownsMap (H := Unit) Tryd.prog 9 unitElem b 17 Sc.wordMap) :
    Calls Tryd.prog 67 #[.string s, .map (some b)] w fun e w' => e = .returned (.bool (Tr.nameOk s)) ∧ Below w.heap.size w w' := by
  have hb0 := ba_empty s
  have HM := hide hm
  clear hm
  by_cases h0 : s.size = 0
  · have h1 : (s.toList == []) = true := by rw [hb0]; simpa using h0
    have HN := hide (Tr.nameOk_empty s h0)
    clear hb0
    go_enter Tryd.func67, Tryd.ntmps67
    go_wp2
    go_ret
    exact ⟨ret_bool HN.out.symm, Below.refl _ _⟩
  · have h1 : (s.toList == []) = false := by rw [hb0]; simpa using h0
    have hpos : 0 < s.size := by omega
    have HN := hide (Tr.nameOk_form s hpos)
    clear hb0
    by_cases h30 : 30 < (s.size : Int)
    · go_enter Tryd.func67, Tryd.ntmps67
      go_wp2
      go_ret
      exact ⟨ret_bool (by rw [HN.out]; simp [h30]), Below.refl _ _⟩
    · cases hdg : Sc.dig s[0]
      · have HK : Hid (keyOf Tryd.prog 9 (.string s) = some (.string s.data.toList)) := hide (WideMaps.keyOf_string_mk Tryd.underlying9 (by unfold maxLen; omega))
        have hhas := Sc.has_word (H := Unit) s.data.toList
        cases hw : decide (s.data.toList ∈ Sc.words)
        all_goals
          rw [hw] at hhas
          go_enter Tryd.func67, Tryd.ntmps67
          go_wp2_with (first | (go_at_call 88; refine (idigit_any _ _).mono ?_; rintro e w' ⟨rfl, rfl⟩) | (at_lookup; refine wpList_lookup_own_unit _ rfl _ _ 90 rfl 9 66 lawS Tryd.underlying90 (zeroU _) b 17 Sc.wordMap rfl HM.out _ _ rfl HK.out ?_) | (go_at_call 89; refine (nameSize_any _ _ hs).mono ?_; rintro e w' ⟨rfl, rfl⟩))
          go_ret
          refine ⟨ret_bool ?_, (Below.refl _ _).alloc (Nat.le_refl _) _⟩
          rw [HN.out, hdg, hw]
          first
          | (simp; done)
          | (rw [Bool.eq_iff_iff]; simp; omega)
      · go_enter Tryd.func67, Tryd.ntmps67
        go_wp2_with (go_at_call 88; refine (idigit_any _ _).mono ?_; rintro e w' ⟨rfl, rfl⟩)
        go_ret
        exact ⟨ret_bool (by rw [HN.out, hdg]; simp), Below.refl _ _⟩

theorem Tr.pkg_index (b : UInt8) : Tr.pkgB b = (Sc.nm b || !decide (Lib.indexByte [45, 46, 47] b < 0)) := by
  have h : ∀ n, n < 256 → Tr.pkgB (UInt8.ofNat n) = (Sc.nm (UInt8.ofNat n) || !decide (Lib.indexByte [45, 46, 47] (UInt8.ofNat n) < 0)) := by decide +kernel
  have := h b.toNat b.toNat_lt
  simpa using this
theorem pkgI_any (b : UInt8) (w : World) : Calls Tryd.prog 95 #[.string ⟨#[45, 46, 47]⟩, .int .u8 b.toNat] w fun e w' => e = .returned (.int .i64 (Lib.indexByte [45, 46, 47] b)) ∧ w' = w := by
  have h := Tryd.strings_IndexByte ⟨#[45, 46, 47]⟩ b.toNat w
  rw [show ((b.toNat : Int)).toNat.toUInt8 = b from by simp] at h
  exact h

set_option maxRecDepth 100000 in
set_option maxHeartbeats 1000000 in
theorem isPkg_any (s : ByteArray) (w : World) (hs : s.size ≤ 1048576) :
    Calls Tryd.prog 78 #[.string s] w fun e w' => e = .returned (.bool (Tr.pkgOk s)) ∧ w' = w := by
  have HP := hide (show Tr.pkgOk s = (Tr.inr s.size 1 30 && Tr.allOf Tr.pkgB s.data.toList) from rfl)
  go_enter Tryd.func78, Tryd.ntmps78
  go_wp2
  go_loop [6] (fun t => ∃ j : Nat, j ≤ s.size ∧ t = .int .i64 j ∧ Tr.allOf Tr.pkgB s.data.toList = Tr.allOf Tr.pkgB (s.data.toList.drop j)) (fun t => s.size - (intOf t).toNat)
  case atStart => exact ⟨0, Nat.zero_le _, rfl, by simp⟩
  case round =>
    obtain ⟨j, hj, rfl, he⟩ := hrel
    have HE := hide he
    clear he
    by_cases hlt : j < s.size
    · have hd := hide (Sc.drop_cons s j hlt)
      have HS := hide (show Tr.allOf Tr.pkgB s.data.toList = (Tr.pkgB s[j] && Tr.allOf Tr.pkgB (s.data.toList.drop (j + 1))) by rw [HE.out, hd.out, Tr.allOf_cons])
      have HB := hide (Tr.pkg_index s[j])
      have HI := hide (pkgI_any s[j])
      cases hn : Sc.nm s[j]
      · generalize Lib.indexByte [45, 46, 47] s[j] = ix at *
        by_cases hx : ix < 0
        · go_wp2_with (first | (go_at_call 94; refine (iname_any _ _).mono ?_; rintro e w' ⟨rfl, rfl⟩) | (go_at_call 95; refine (HI.out _).mono ?_; rintro e w' ⟨rfl, rfl⟩))
          go_ret
          exact ⟨ret_bool (by rw [HP.out, HS.out, HB.out, hn]; simp [hx]), rfl⟩
        · go_wp2_with (first | (go_at_call 94; refine (iname_any _ _).mono ?_; rintro e w' ⟨rfl, rfl⟩) | (go_at_call 95; refine (HI.out _).mono ?_; rintro e w' ⟨rfl, rfl⟩))
          go_round
          case rel => exact ⟨j + 1, by omega, by go_num, by rw [HS.out, HB.out, hn, decide_eq_false (by omega : ¬ ix < 0)]; rfl⟩
          case measure => simp [intOf]; omega
      · go_wp2_with (first | (go_at_call 94; refine (iname_any _ _).mono ?_; rintro e w' ⟨rfl, rfl⟩))
        go_round
        case rel => exact ⟨j + 1, by omega, by go_num, by rw [HS.out, HB.out, hn]; rfl⟩
        case measure => simp [intOf]; omega
    · have HF := hide (show Tr.pkgOk s = Tr.inr s.size 1 30 by
        rw [HP.out, HE.out, List.drop_of_length_le (i := j) (by simp; omega)]; simp [Tr.allOf])
      by_cases a1 : 1 ≤ (s.size : Int)
      all_goals by_cases a2 : (s.size : Int) ≤ 30
      all_goals
        go_wp2
        go_ret
        exact ⟨ret_bool (by rw [HF.out]; simp [Tr.inr]; try omega), rfl⟩
end Go.Proofs.YtmklgiononbmmaaDoor
