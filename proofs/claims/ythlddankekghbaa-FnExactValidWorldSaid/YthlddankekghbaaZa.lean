/- Walks: packages' names, on both sides. -/
import Derived.Test.YthlddankekghbaaProg
import Derived.WalkKit
import Derived.WalkSpells
import Derived.WalkLawsBesides
import Derived.Deep.DeepFit
import Derived.Deep.DeepMust
import Derived.Lib.Strings
import Derived.Maps.AppendAt
import Derived.Lib.IndexAny
import Derived.Lib.IndexLaws
import Derived.Shelf.Small.Strs
namespace Go.Proofs
def Try.lays137_ren : Go.Shelf.Ren := ⟨fun | 137 => 22 | 217 => 25 | 266 => 26 | n => n, fun | 9 => 9 | 5 => 5 | 3 => 3 | n => n, fun | n => n⟩
theorem Try.lays137 : Go.Proofs.Lays.n137 Try.prog Try.lays137_ren := {
  mixed := by kernel_rfl
  f137 := Try.func22.trans (congrArg some (by kernel_rfl))
  f217 := Try.func25.trans (congrArg some (by kernel_rfl))
  f266 := Try.func26.trans (congrArg some (by kernel_rfl))
  t3 := Try.underlying3
  a3 := Try.isAgg3
  z3 := Try.sizeOf3
  v3 := Try.zeroValue3
  t5 := Try.underlying5
  a5 := Try.isAgg5
  z5 := Try.sizeOf5
  v5 := Try.zeroValue5
  t9 := Try.underlying9
  a9 := Try.isAgg9
  z9 := Try.sizeOf9
  v9 := Try.zeroValue9 }
open Go.RowKit in
theorem Try.strings_IndexByte (s : ByteArray) (c : Int) (w : World) :
    Calls Try.prog 22 #[.string s, .int .u8 c] w fun e w' => e = .returned (.int .i64 (Lib.indexByte s.data.toList c.toNat.toUInt8)) ∧ w' = w := Any.strings_IndexByte Try.lays137 s c w
end Go.Proofs
namespace Go.Proofs.Ythlddankekghbaa.Wd
open Go.RowKit

def dig (b : UInt8) : Bool := decide (48 ≤ b.toNat ∧ b.toNat ≤ 57)
def beg (b : UInt8) : Bool := decide ((97 ≤ b.toNat ∧ b.toNat ≤ 122) ∨ b.toNat = 95)
def nm (b : UInt8) : Bool := beg b || dig b
theorem drop_cons (s : ByteArray) (k : Nat) (h : k < s.size) : s.data.toList.drop k = s[k] :: s.data.toList.drop (k + 1) := by
  rw [List.drop_eq_getElem_cons (by simpa using h)]; rfl
theorem hide {p : Prop} (h : p) : Hid p := h
theorem ret_bool {a b : Bool} (h : a = b) : Ending.returned (.bool a) = .returned (.bool b) := by rw [h]
theorem ret_int {k : IntKind} {a b : Int} (h : a = b) : Ending.returned (.int k a) = .returned (.int k b) := by rw [h]

/-- A number that lies between two. -/
def inr (a lo hi : Int) : Bool := decide (lo ≤ a ∧ a ≤ hi)
theorem inr_true {a lo hi : Int} (h : inr a lo hi = true) : lo ≤ a ∧ a ≤ hi := by simpa [inr] using h

set_option maxHeartbeats 400000 in
theorem digit_any (b : UInt8) (w : World) : Calls Try.prog 19 #[.int .u8 b.toNat] w fun e w' => e = .returned (.bool (dig b)) ∧ w' = w := by
  by_cases h1 : 48 ≤ (b.toNat : Int)
  all_goals by_cases h2 : (b.toNat : Int) ≤ 57
  all_goals
    go_enter Try.func19, Try.ntmps19
    go_wp2
    go_ret
    exact ⟨ret_bool (by simp [dig]; omega), rfl⟩

set_option maxHeartbeats 400000 in
theorem in_any (a lo hi : Int) (w : World) : Calls Try.prog 12 #[.int .i64 a, .int .i64 lo, .int .i64 hi] w fun e w' => e = .returned (.bool (inr a lo hi)) ∧ w' = w := by
  by_cases h1 : lo ≤ a
  all_goals by_cases h2 : a ≤ hi
  all_goals
    go_enter Try.func12, Try.ntmps12
    go_wp2
    go_ret
    exact ⟨ret_bool (by simp [inr, h1, h2]), rfl⟩

/-- A byte of a package's name; a package's name; a name. -/
def pkgB (b : UInt8) : Bool := decide (97 ≤ (b.toNat : Int)) && decide ((b.toNat : Int) ≤ 122) || dig b || !((b.toNat : Int) != 95) || !((b.toNat : Int) != 45) || !((b.toNat : Int) != 46) || !((b.toNat : Int) != 47)
def allOf (p : UInt8 → Bool) : List UInt8 → Bool
  | [] => true
  | b :: r => p b && allOf p r
theorem allOf_cons (p : UInt8 → Bool) (b : UInt8) (r : List UInt8) : allOf p (b :: r) = (p b && allOf p r) := rfl
def pkgOk (s : ByteArray) : Bool := inr s.size 1 30 && allOf pkgB s.data.toList
set_option maxHeartbeats 1000000 in
theorem pkg_any (s : ByteArray) (w : World) : Calls Try.prog 11 #[.string s] w fun e w' => e = .returned (.bool (pkgOk s)) ∧ w' = w := by
  cases hi : inr s.size 1 30
  · go_enter Try.func11, Try.ntmps11
    go_wp2_with (go_at_call 12; refine (in_any _ _ _ _).mono ?_; rintro e w' ⟨rfl, rfl⟩)
    go_ret
    exact ⟨ret_bool (by simp [pkgOk, hi]), rfl⟩
  · obtain ⟨hs1, hs2⟩ := inr_true hi
    have hpk : pkgOk s = allOf pkgB s.data.toList := by simp [pkgOk, hi]
    rw [hpk]
    clear hpk
    go_enter Try.func11, Try.ntmps11
    go_wp2_with (go_at_call 12; refine (in_any _ _ _ _).mono ?_; rintro e w' ⟨rfl, rfl⟩)
    go_loop [3] (fun t => ∃ j : Nat, j ≤ s.size ∧ t = .int .i64 j ∧ allOf pkgB s.data.toList = allOf pkgB (s.data.toList.drop j)) (fun t => s.size - (intOf t).toNat)
    case atStart => exact ⟨0, Nat.zero_le _, rfl, by simp⟩
    case round =>
      obtain ⟨j, hj, rfl, he⟩ := hrel
      have HE := hide he
      clear he
      by_cases hlt : j < s.size
      · have hd := hide (drop_cons s j hlt)
        have hb : pkgB s[j] = (decide (97 ≤ (s[j].toNat : Int)) && decide ((s[j].toNat : Int) ≤ 122) || dig s[j] || !((s[j].toNat : Int) != 95) || !((s[j].toNat : Int) != 45) || !((s[j].toNat : Int) != 46) || !((s[j].toNat : Int) != 47)) := rfl
        have HB := hide hb
        clear hb
        have fin : ∀ b, pkgB s[j] = b → allOf pkgB s.data.toList = (b && allOf pkgB (s.data.toList.drop (j + 1))) := by
          intro b e; rw [HE.out, hd.out, allOf_cons, e]
        have HF := hide fin
        clear fin
        by_cases h1 : 97 ≤ (s[j].toNat : Int)
        all_goals by_cases h2 : (s[j].toNat : Int) ≤ 122
        all_goals cases h3 : dig s[j]
        all_goals cases h4 : ((s[j].toNat : Int) != 95)
        all_goals cases h5 : ((s[j].toNat : Int) != 45)
        all_goals cases h6 : ((s[j].toNat : Int) != 46)
        all_goals cases h7 : ((s[j].toNat : Int) != 47)
        all_goals first | (exfalso; have := HB.out; simp [dig] at h3 h4 h5 h6 h7; omega) | skip
        all_goals
          have hq := HB.out
          rw [h3, h4, h5, h6, h7] at hq
          simp [h1, h2] at hq
          have HQ := hide (HF.out _ hq)
          clear hq
          go_wp2_with (go_at_call 19; refine (digit_any _ _).mono ?_; rintro e w' ⟨rfl, rfl⟩)
          first
          | (go_ret; exact ⟨ret_bool (by rw [HQ.out]; rfl), rfl⟩)
          | (go_round
             case rel => exact ⟨j + 1, by omega, by go_num, by rw [HQ.out]; rfl⟩
             case measure => simp [intOf]; omega)
      · go_wp2
        go_ret
        refine ⟨ret_bool ?_, rfl⟩
        have e := HE.out
        rw [List.drop_of_length_le (i := j) (by simp; omega)] at e
        rw [e]; rfl

set_option maxHeartbeats 400000 in
theorem idigit_any (b : UInt8) (w : World) : Calls Try.prog 24 #[.int .u8 b.toNat] w fun e w' => e = .returned (.bool (dig b)) ∧ w' = w := by
  by_cases h1 : 48 ≤ (b.toNat : Int)
  all_goals by_cases h2 : (b.toNat : Int) ≤ 57
  all_goals
    go_enter Try.func24, Try.ntmps24
    go_wp2
    go_ret
    exact ⟨ret_bool (by simp [dig]; omega), rfl⟩

set_option maxHeartbeats 400000 in
theorem iname_any (b : UInt8) (w : World) : Calls Try.prog 21 #[.int .u8 b.toNat] w fun e w' => e = .returned (.bool (nm b)) ∧ w' = w := by
  have hn : nm b = (beg b || dig b) := rfl
  rw [hn]; clear hn
  have hb : beg b = (decide (97 ≤ (b.toNat : Int)) && decide ((b.toNat : Int) ≤ 122) || ((b.toNat : Int) == 95)) := by rw [Bool.eq_iff_iff]; simp [beg]; omega
  have HB := hide hb
  clear hb
  by_cases h1 : 97 ≤ (b.toNat : Int)
  all_goals by_cases h2 : (b.toNat : Int) ≤ 122
  all_goals cases h3 : ((b.toNat : Int) == 95)
  all_goals
    go_enter Try.func21, Try.ntmps21
    go_wp2_with (go_at_call 24; refine (idigit_any _ _).mono ?_; rintro e w' ⟨rfl, rfl⟩)
    go_ret
    exact ⟨ret_bool (by rw [HB.out]; simp [h1, h2, h3]; try omega), rfl⟩

theorem pkg_index (b : UInt8) : pkgB b = (nm b || !decide (Lib.indexByte [45, 46, 47] b < 0)) := by
  have h : ∀ n, n < 256 → pkgB (UInt8.ofNat n) = (nm (UInt8.ofNat n) || !decide (Lib.indexByte [45, 46, 47] (UInt8.ofNat n) < 0)) := by decide +kernel
  have := h b.toNat b.toNat_lt
  simpa using this
theorem pkgI_any (b : UInt8) (w : World) : Calls Try.prog 22 #[.string ⟨#[45, 46, 47]⟩, .int .u8 b.toNat] w fun e w' => e = .returned (.int .i64 (Lib.indexByte [45, 46, 47] b)) ∧ w' = w := by
  have h := Try.strings_IndexByte ⟨#[45, 46, 47]⟩ b.toNat w
  rw [show ((b.toNat : Int)).toNat.toUInt8 = b from by simp] at h
  exact h

set_option maxRecDepth 100000 in
set_option maxHeartbeats 1000000 in
theorem isPkg_any (s : ByteArray) (w : World) (hs : s.size ≤ 1048576) :
    Calls Try.prog 15 #[.string s] w fun e w' => e = .returned (.bool (pkgOk s)) ∧ w' = w := by
  have HP := hide (show pkgOk s = (inr s.size 1 30 && allOf pkgB s.data.toList) from rfl)
  go_enter Try.func15, Try.ntmps15
  go_wp2
  go_loop [6] (fun t => ∃ j : Nat, j ≤ s.size ∧ t = .int .i64 j ∧ allOf pkgB s.data.toList = allOf pkgB (s.data.toList.drop j)) (fun t => s.size - (intOf t).toNat)
  case atStart => exact ⟨0, Nat.zero_le _, rfl, by simp⟩
  case round =>
    obtain ⟨j, hj, rfl, he⟩ := hrel
    have HE := hide he
    clear he
    by_cases hlt : j < s.size
    · have hd := hide (drop_cons s j hlt)
      have HS := hide (show allOf pkgB s.data.toList = (pkgB s[j] && allOf pkgB (s.data.toList.drop (j + 1))) by rw [HE.out, hd.out, allOf_cons])
      have HB := hide (pkg_index s[j])
      have HI := hide (pkgI_any s[j])
      cases hn : nm s[j]
      · generalize Lib.indexByte [45, 46, 47] s[j] = ix at *
        by_cases hx : ix < 0
        · go_wp2_with (first | (go_at_call 21; refine (iname_any _ _).mono ?_; rintro e w' ⟨rfl, rfl⟩) | (go_at_call 22; refine (HI.out _).mono ?_; rintro e w' ⟨rfl, rfl⟩))
          go_ret
          exact ⟨ret_bool (by rw [HP.out, HS.out, HB.out, hn]; simp [hx]), rfl⟩
        · go_wp2_with (first | (go_at_call 21; refine (iname_any _ _).mono ?_; rintro e w' ⟨rfl, rfl⟩) | (go_at_call 22; refine (HI.out _).mono ?_; rintro e w' ⟨rfl, rfl⟩))
          go_round
          case rel => exact ⟨j + 1, by omega, by go_num, by rw [HS.out, HB.out, hn, decide_eq_false (by omega : ¬ ix < 0)]; rfl⟩
          case measure => simp [intOf]; omega
      · go_wp2_with (first | (go_at_call 21; refine (iname_any _ _).mono ?_; rintro e w' ⟨rfl, rfl⟩))
        go_round
        case rel => exact ⟨j + 1, by omega, by go_num, by rw [HS.out, HB.out, hn]; rfl⟩
        case measure => simp [intOf]; omega
    · have HF := hide (show pkgOk s = inr s.size 1 30 by
        rw [HP.out, HE.out, List.drop_of_length_le (i := j) (by simp; omega)]; simp [allOf])
      by_cases a1 : 1 ≤ (s.size : Int)
      all_goals by_cases a2 : (s.size : Int) ≤ 30
      all_goals
        go_wp2
        go_ret
        exact ⟨ret_bool (by rw [HF.out]; simp [inr]; try omega), rfl⟩
end Go.Proofs.Ythlddankekghbaa.Wd
