/- Walks: the tests on bytes, and the gap, on the specification's side. -/
import Derived.Test.YtempkondijgdgaaDoorProg
import Derived.Test.YtempkondijgdgaaDoorPure
import Derived.WalkKit
import Derived.WalkSpells
import Derived.WalkLawsBesides
import Derived.Deep.DeepFit
import Derived.Deep.DeepMust
namespace Go.Proofs.YtempkondijgdgaaDoor
open Go.RowKit

theorem hide {p : Prop} (h : p) : Hid p := h
theorem ret_bool {a b : Bool} (h : a = b) : Ending.returned (.bool a) = .returned (.bool b) := by rw [h]
theorem ret_int {k : IntKind} {a b : Int} (h : a = b) : Ending.returned (.int k a) = .returned (.int k b) := by rw [h]

set_option maxHeartbeats 400000 in
theorem digit_any (b : UInt8) (w : World) : Calls Tryd.prog 15 #[.int .u8 b.toNat] w fun e w' => e = .returned (.bool (Sc.dig b)) ∧ w' = w := by
  by_cases h1 : 48 ≤ (b.toNat : Int)
  all_goals by_cases h2 : (b.toNat : Int) ≤ 57
  all_goals
    go_enter Tryd.func15, Tryd.ntmps15
    go_wp2
    go_ret
    exact ⟨ret_bool (by simp [Sc.dig]; omega), rfl⟩

set_option maxHeartbeats 400000 in
theorem begins_any (b : UInt8) (w : World) : Calls Tryd.prog 17 #[.int .u8 b.toNat] w fun e w' => e = .returned (.bool (Sc.beg b)) ∧ w' = w := by
  by_cases h1 : 97 ≤ (b.toNat : Int)
  all_goals by_cases h2 : (b.toNat : Int) ≤ 122
  all_goals
    go_enter Tryd.func17, Tryd.ntmps17
    go_wp2
    go_ret
    exact ⟨ret_bool (Bool.eq_iff_iff.2 (by simp [Sc.beg]; omega)), rfl⟩

set_option maxHeartbeats 400000 in
theorem idigit_any (b : UInt8) (w : World) : Calls Tryd.prog 29 #[.int .u8 b.toNat] w fun e w' => e = .returned (.bool (Sc.dig b)) ∧ w' = w := by
  by_cases h1 : 48 ≤ (b.toNat : Int)
  all_goals by_cases h2 : (b.toNat : Int) ≤ 57
  all_goals
    go_enter Tryd.func29, Tryd.ntmps29
    go_wp2
    go_ret
    exact ⟨ret_bool (by simp [Sc.dig]; omega), rfl⟩

set_option maxHeartbeats 400000 in
theorem hex_any (b : UInt8) (w : World) : Calls Tryd.prog 27 #[.int .u8 b.toNat] w fun e w' => e = .returned (.int .i64 (Sc.hexv b)) ∧ w' = w := by
  by_cases h1 : 48 ≤ (b.toNat : Int)
  all_goals by_cases h2 : (b.toNat : Int) ≤ 57
  all_goals by_cases h3 : 97 ≤ (b.toNat : Int)
  all_goals by_cases h4 : (b.toNat : Int) ≤ 102
  all_goals first | (exfalso; omega) | skip
  all_goals
    go_enter Tryd.func27, Tryd.ntmps27
    go_wp2
    go_ret
    exact ⟨ret_int (by unfold Sc.hexv; first | rw [if_pos (by omega)] | rw [if_neg (by omega), if_pos (by omega)] | rw [if_neg (by omega), if_neg (by omega)]), rfl⟩

set_option maxHeartbeats 400000 in
theorem letter_any (b : UInt8) (w : World) : Calls Tryd.prog 18 #[.int .u8 b.toNat] w fun e w' => e = .returned (.bool (Sc.nm b)) ∧ w' = w := by
  have hn : Sc.nm b = (Sc.beg b || Sc.dig b) := rfl
  rw [hn]; clear hn
  cases hb : Sc.beg b
  all_goals
    go_enter Tryd.func18, Tryd.ntmps18
    go_wp2_with (first | (go_at_call 17; refine (begins_any _ _).mono ?_; rintro e w' ⟨rfl, rfl⟩) | (go_at_call 15; refine (digit_any _ _).mono ?_; rintro e w' ⟨rfl, rfl⟩))
    go_ret
    exact ⟨ret_bool (by simp), rfl⟩

set_option maxHeartbeats 400000 in
theorem iname_any (b : UInt8) (w : World) : Calls Tryd.prog 31 #[.int .u8 b.toNat] w fun e w' => e = .returned (.bool (Sc.nm b)) ∧ w' = w := by
  have hn : Sc.nm b = (Sc.beg b || Sc.dig b) := rfl
  rw [hn]; clear hn
  have hb : Sc.beg b = (decide (97 ≤ (b.toNat : Int)) && decide ((b.toNat : Int) ≤ 122) || ((b.toNat : Int) == 95)) := by rw [Bool.eq_iff_iff]; simp [Sc.beg]; omega
  have HB := hide hb
  clear hb
  by_cases h1 : 97 ≤ (b.toNat : Int)
  all_goals by_cases h2 : (b.toNat : Int) ≤ 122
  all_goals cases h3 : ((b.toNat : Int) == 95)
  all_goals
    go_enter Tryd.func31, Tryd.ntmps31
    go_wp2_with (go_at_call 29; refine (idigit_any _ _).mono ?_; rintro e w' ⟨rfl, rfl⟩)
    go_ret
    exact ⟨ret_bool (by rw [HB.out]; simp [h1, h2, h3]; try omega), rfl⟩

set_option maxHeartbeats 1000000 in
theorem gap_any (s : ByteArray) (k : Nat) (a : Int) (w : World) (hs : s.size ≤ 1048576) (hk : k ≤ s.size) (ha : a = (k : Int)) :
    Calls Tryd.prog 10 #[.string s, .int .i64 a] w fun e w' => e = .returned (.int .i64 ((k + Sc.gapLen false (s.data.toList.drop k) : Nat) : Int)) ∧ w' = w := by
  subst ha
  go_enter Tryd.func10, Tryd.ntmps10
  go_wp2
  go_loop [1] (fun t => ∃ j : Nat, j ≤ s.size ∧ t = .int .i64 j ∧ j + Sc.gapLen false (s.data.toList.drop j) = k + Sc.gapLen false (s.data.toList.drop k)) (fun t => s.size - (intOf t).toNat)
  case atStart => exact ⟨k, hk, rfl, rfl⟩
  case round =>
    obtain ⟨j, hj, rfl, he⟩ := hrel
    have HE := hide he
    clear he
    by_cases hlt : j < s.size
    · have hd := hide (Sc.drop_cons s j hlt)
      cases h35 : ((s[j].toNat : Int) == 35)
      · cases h32 : ((s[j].toNat : Int) == 32)
        · cases h10 : ((s[j].toNat : Int) == 10)
          · go_wp2
            go_ret
            refine ⟨ret_int ?_, rfl⟩
            have e := HE.out
            rw [hd.out] at e
            simp at h35 h32 h10
            simp only [Sc.gapLen] at e
            rw [if_neg (by omega), if_neg (by omega)] at e
            omega
          · go_wp2
            go_round
            case rel =>
              refine ⟨j + 1, by omega, by go_num, ?_⟩
              have e := HE.out
              rw [hd.out] at e
              simp at h35 h32 h10
              simp only [Sc.gapLen] at e
              rw [if_neg (by omega), if_pos (by omega)] at e
              omega
            case measure => simp [intOf]; omega
        · go_wp2
          go_round
          case rel =>
            refine ⟨j + 1, by omega, by go_num, ?_⟩
            have e := HE.out
            rw [hd.out] at e
            simp at h35 h32
            simp only [Sc.gapLen] at e
            rw [if_neg (by omega), if_pos (by omega)] at e
            omega
          case measure => simp [intOf]; omega
      · go_wp2
        go_loop [1] (fun t => ∃ i : Nat, j ≤ i ∧ i ≤ s.size ∧ t = .int .i64 i ∧ i + Sc.gapLen true (s.data.toList.drop i) = k + Sc.gapLen false (s.data.toList.drop k)) (fun t => s.size - (intOf t).toNat)
        case atStart =>
          refine ⟨j, Nat.le_refl _, hj, rfl, ?_⟩
          have e := HE.out
          rw [hd.out] at e ⊢
          simp at h35
          simp only [Sc.gapLen] at e ⊢
          rw [if_pos (by omega)] at e
          rw [if_neg (by omega)]
          omega
        case round =>
          obtain ⟨i, hji, hi, rfl, hei⟩ := hrel
          have HI := hide hei
          clear hei
          by_cases hil : i < s.size
          · have hdi := hide (Sc.drop_cons s i hil)
            cases h10 : ((s[i].toNat : Int) == 10)
            · go_wp2
              go_round
              case rel =>
                refine ⟨i + 1, by omega, by omega, by go_num, ?_⟩
                have e := HI.out
                rw [hdi.out] at e
                simp at h10
                simp only [Sc.gapLen] at e
                rw [if_neg (by omega)] at e
                omega
              case measure => simp [intOf]; omega
            · have hne : i ≠ j := by rintro rfl; simp at h35 h10; omega
              go_wp2
              go_round
              case rel =>
                refine ⟨i, by omega, rfl, ?_⟩
                have e := HI.out
                rw [hdi.out] at e ⊢
                simp at h10
                simp only [Sc.gapLen] at e ⊢
                rw [if_pos (by omega)] at e
                rw [if_neg (by omega), if_pos (by omega)]
                omega
              case measure => simp [intOf]; omega
          · go_wp2
            go_round
            case rel =>
              refine ⟨i, by omega, rfl, ?_⟩
              have e := HI.out
              rw [List.drop_of_length_le (i := i) (by simp; omega)] at e ⊢
              simp only [Sc.gapLen] at e ⊢
              omega
            case measure => simp [intOf]; omega
    · go_wp2
      go_ret
      refine ⟨ret_int ?_, rfl⟩
      have e := HE.out
      rw [List.drop_of_length_le (i := j) (by simp; omega)] at e
      simp only [Sc.gapLen] at e
      omega
end Go.Proofs.YtempkondijgdgaaDoor
