/- Walks: the tests on numbers, bytes and names, on the specification's side. -/
import Derived.Test.YtmklgiononbmmaaDoorProg
import Derived.Test.YtmklgiononbmmaaDoorPure
import Derived.WalkKit
import Derived.WalkSpells
import Derived.WalkLawsBesides
import Derived.Deep.DeepFit
import Derived.Deep.DeepMust
import Derived.Lib.Strings
import Derived.Maps.AppendAt
namespace Go.Proofs.YtmklgiononbmmaaDoor
open Go.RowKit

theorem hide {p : Prop} (h : p) : Hid p := h
theorem ret_bool {a b : Bool} (h : a = b) : Ending.returned (.bool a) = .returned (.bool b) := by rw [h]
theorem ret_int {k : IntKind} {a b : Int} (h : a = b) : Ending.returned (.int k a) = .returned (.int k b) := by rw [h]

/-- A number that lies between two. -/
def Tr.inr (a lo hi : Int) : Bool := decide (lo ≤ a ∧ a ≤ hi)
theorem Tr.inr_true {a lo hi : Int} (h : Tr.inr a lo hi = true) : lo ≤ a ∧ a ≤ hi := by simpa [Tr.inr] using h

set_option maxHeartbeats 400000 in
theorem digit_any (b : UInt8) (w : World) : Calls Tryd.prog 87 #[.int .u8 b.toNat] w fun e w' => e = .returned (.bool (Sc.dig b)) ∧ w' = w := by
  by_cases h1 : 48 ≤ (b.toNat : Int)
  all_goals by_cases h2 : (b.toNat : Int) ≤ 57
  all_goals
    go_enter Tryd.func87, Tryd.ntmps87
    go_wp2
    go_ret
    exact ⟨ret_bool (by simp [Sc.dig]; omega), rfl⟩

set_option maxHeartbeats 400000 in
theorem begins_any (b : UInt8) (w : World) : Calls Tryd.prog 63 #[.int .u8 b.toNat] w fun e w' => e = .returned (.bool (Sc.beg b)) ∧ w' = w := by
  by_cases h1 : 97 ≤ (b.toNat : Int)
  all_goals by_cases h2 : (b.toNat : Int) ≤ 122
  all_goals
    go_enter Tryd.func63, Tryd.ntmps63
    go_wp2
    go_ret
    exact ⟨ret_bool (Bool.eq_iff_iff.2 (by simp [Sc.beg]; omega)), rfl⟩

set_option maxHeartbeats 400000 in
theorem letter_any (b : UInt8) (w : World) : Calls Tryd.prog 65 #[.int .u8 b.toNat] w fun e w' => e = .returned (.bool (Sc.nm b)) ∧ w' = w := by
  have hn : Sc.nm b = (Sc.beg b || Sc.dig b) := rfl
  rw [hn]; clear hn
  cases hb : Sc.beg b
  all_goals
    go_enter Tryd.func65, Tryd.ntmps65
    go_wp2_with (first | (go_at_call 63; refine (begins_any _ _).mono ?_; rintro e w' ⟨rfl, rfl⟩) | (go_at_call 87; refine (digit_any _ _).mono ?_; rintro e w' ⟨rfl, rfl⟩))
    go_ret
    exact ⟨ret_bool (by simp), rfl⟩

/-- A list of texts lies from an address on. -/
def Lies (w : World) (b : Nat) (l : List (List UInt8)) : Prop := ∀ i (h : i < l.length), w.cell? ⟨b, i, none⟩ = some (.string ⟨(l[i]).toArray⟩)

theorem has_any (l : List (List UInt8)) (b : Nat) (s : ByteArray) (w : World) (hl : l.length ≤ 1000) (hc : Lies w b l) :
    Calls Tryd.prog 36 #[.slice (some ⟨b, 0, none⟩) l.length l.length, .string s] w fun e w' => e = .returned (.bool (decide (s.data.toList ∈ l))) ∧ w' = w := by
  go_enter Tryd.func36, Tryd.ntmps36
  go_wp2
  go_loop [5] (fun t => ∃ j : Nat, j ≤ l.length ∧ t = .int .i64 j ∧ ∀ i (h : i < l.length), i < j → l[i] ≠ s.data.toList) (fun t => l.length - (intOf t).toNat)
  case atStart => exact ⟨0, Nat.zero_le _, rfl, fun i _ h => by omega⟩
  case round =>
    obtain ⟨j, hj, rfl, he⟩ := hrel
    have HE := hide he
    clear he
    by_cases hlt : j < l.length
    · have hcj := hc j hlt
      cases hq : (l[j] == s.toList)
      · go_wp2
        go_round
        case rel =>
          refine ⟨j + 1, by omega, by go_num, ?_⟩
          intro i hi hij
          by_cases e : i = j
          · subst e; rw [Lib.toList_data] at hq; simpa using hq
          · exact HE.out i hi (by omega)
        case measure => simp [intOf]; omega
      · go_wp2
        go_ret
        refine ⟨ret_bool ?_, rfl⟩
        rw [Lib.toList_data] at hq
        have e : l[j] = s.data.toList := by simpa using hq
        rw [eq_comm, decide_eq_true_iff, ← e]
        exact List.getElem_mem _
    · go_wp2
      go_ret
      refine ⟨ret_bool ?_, rfl⟩
      rw [eq_comm, decide_eq_false_iff_not]
      intro hm
      obtain ⟨i, hi, e⟩ := List.getElem_of_mem hm
      exact HE.out i hi (by omega) e

theorem heap_alloc_new' (w : World) (o : Obj) : (w.alloc o).heap[w.heap.size]? = some o := (Go.MapKept.heap_alloc w o).1
theorem lies_lit (w : World) (t : TypeId) (l : List (List UInt8)) : Lies (w.alloc (.cells (l.map fun x => Value.string ⟨x.toArray⟩).toArray t)) w.heap.size l := by
  intro i h
  rw [World.cell?, heap_alloc_new']
  simp [h]

set_option maxHeartbeats 400000 in
theorem words_any (w : World) : Calls Tryd.prog 64 #[] w fun e w' => e = .returned (.slice (some ⟨w.heap.size, 0, none⟩) 17 17) ∧ Below w.heap.size w w' ∧ w.heap.size < w'.heap.size ∧ Lies w' w.heap.size Sc.words := by
  go_enter Tryd.func64, Tryd.ntmps64
  go_wp2
  go_ret
  refine ⟨rfl, (Below.refl _ _).alloc (Nat.le_refl _) _, by simp, ?_⟩
  exact lies_lit w 9 Sc.words


set_option maxHeartbeats 400000 in
theorem in_any (a lo hi : Int) (w : World) : Calls Tryd.prog 34 #[.int .i64 a, .int .i64 lo, .int .i64 hi] w fun e w' => e = .returned (.bool (Tr.inr a lo hi)) ∧ w' = w := by
  by_cases h1 : lo ≤ a
  all_goals by_cases h2 : a ≤ hi
  all_goals
    go_enter Tryd.func34, Tryd.ntmps34
    go_wp2
    go_ret
    exact ⟨ret_bool (by simp [Tr.inr, h1, h2]), rfl⟩

set_option maxHeartbeats 400000 in
theorem e_any (a : Int) (w : World) : Calls Tryd.prog 74 #[.int .i64 a] w fun e w' => e = .returned (.bool (Tr.inr a 1 16)) ∧ w' = w := by
  go_enter Tryd.func74, Tryd.ntmps74
  go_wp2_with (go_at_call 34; refine (in_any _ _ _ _).mono ?_; rintro e w' ⟨rfl, rfl⟩)
  go_ret
  exact ⟨rfl, rfl⟩

/-- A byte of a package's name; a package's name; a name. -/
def Tr.pkgB (b : UInt8) : Bool := decide (97 ≤ (b.toNat : Int)) && decide ((b.toNat : Int) ≤ 122) || Sc.dig b || !((b.toNat : Int) != 95) || !((b.toNat : Int) != 45) || !((b.toNat : Int) != 46) || !((b.toNat : Int) != 47)
def Tr.allOf (p : UInt8 → Bool) : List UInt8 → Bool
  | [] => true
  | b :: r => p b && Tr.allOf p r
theorem Tr.allOf_cons (p : UInt8 → Bool) (b : UInt8) (r : List UInt8) : Tr.allOf p (b :: r) = (p b && Tr.allOf p r) := rfl
def Tr.pkgOk (s : ByteArray) : Bool := Tr.inr s.size 1 30 && Tr.allOf Tr.pkgB s.data.toList
def Tr.nameOk (s : ByteArray) : Bool := Tr.inr s.size 1 30 && (s.data.toList.head?.map Sc.beg == some true) && !decide (s.data.toList ∈ Sc.words) && Tr.allOf Sc.nm s.data.toList

set_option maxHeartbeats 1000000 in
theorem pkg_any (s : ByteArray) (w : World) : Calls Tryd.prog 73 #[.string s] w fun e w' => e = .returned (.bool (Tr.pkgOk s)) ∧ w' = w := by
  cases hi : Tr.inr s.size 1 30
  · go_enter Tryd.func73, Tryd.ntmps73
    go_wp2_with (go_at_call 34; refine (in_any _ _ _ _).mono ?_; rintro e w' ⟨rfl, rfl⟩)
    go_ret
    exact ⟨ret_bool (by simp [Tr.pkgOk, hi]), rfl⟩
  · obtain ⟨hs1, hs2⟩ := Tr.inr_true hi
    have hpk : Tr.pkgOk s = Tr.allOf Tr.pkgB s.data.toList := by simp [Tr.pkgOk, hi]
    rw [hpk]
    clear hpk
    go_enter Tryd.func73, Tryd.ntmps73
    go_wp2_with (go_at_call 34; refine (in_any _ _ _ _).mono ?_; rintro e w' ⟨rfl, rfl⟩)
    go_loop [3] (fun t => ∃ j : Nat, j ≤ s.size ∧ t = .int .i64 j ∧ Tr.allOf Tr.pkgB s.data.toList = Tr.allOf Tr.pkgB (s.data.toList.drop j)) (fun t => s.size - (intOf t).toNat)
    case atStart => exact ⟨0, Nat.zero_le _, rfl, by simp⟩
    case round =>
      obtain ⟨j, hj, rfl, he⟩ := hrel
      have HE := hide he
      clear he
      by_cases hlt : j < s.size
      · have hd := hide (Sc.drop_cons s j hlt)
        have hb : Tr.pkgB s[j] = (decide (97 ≤ (s[j].toNat : Int)) && decide ((s[j].toNat : Int) ≤ 122) || Sc.dig s[j] || !((s[j].toNat : Int) != 95) || !((s[j].toNat : Int) != 45) || !((s[j].toNat : Int) != 46) || !((s[j].toNat : Int) != 47)) := rfl
        have HB := hide hb
        clear hb
        have fin : ∀ b, Tr.pkgB s[j] = b → Tr.allOf Tr.pkgB s.data.toList = (b && Tr.allOf Tr.pkgB (s.data.toList.drop (j + 1))) := by
          intro b e; rw [HE.out, hd.out, Tr.allOf_cons, e]
        have HF := hide fin
        clear fin
        by_cases h1 : 97 ≤ (s[j].toNat : Int)
        all_goals by_cases h2 : (s[j].toNat : Int) ≤ 122
        all_goals cases h3 : Sc.dig s[j]
        all_goals cases h4 : ((s[j].toNat : Int) != 95)
        all_goals cases h5 : ((s[j].toNat : Int) != 45)
        all_goals cases h6 : ((s[j].toNat : Int) != 46)
        all_goals cases h7 : ((s[j].toNat : Int) != 47)
        all_goals first | (exfalso; have := HB.out; simp [Sc.dig] at h3 h4 h5 h6 h7; omega) | skip
        all_goals
          have hq := HB.out
          rw [h3, h4, h5, h6, h7] at hq
          simp [h1, h2] at hq
          have HQ := hide (HF.out _ hq)
          clear hq
          go_wp2_with (go_at_call 87; refine (digit_any _ _).mono ?_; rintro e w' ⟨rfl, rfl⟩)
          first
          | (go_ret; exact ⟨ret_bool (by rw [HQ.out]; rfl), rfl⟩)
          | (go_round
             case rel => exact ⟨j + 1, by omega, by go_num, by rw [HQ.out]; rfl⟩
             case measure => simp [intOf]; omega)
      · go_wp2
        go_ret
        refine ⟨ret_bool ?_, rfl⟩
        have e := HE.out
        rw [List.drop_of_length_le (i := j) (by simp; omega)] at e
        rw [e]; rfl

theorem has_words (s : ByteArray) (w : World) (b : Nat) (hc : Lies w b Sc.words) :
    Calls Tryd.prog 36 #[.slice (some ⟨b, 0, none⟩) 17 17, .string s] w fun e w' => e = .returned (.bool (decide (s.data.toList ∈ Sc.words))) ∧ w' = w := has_any Sc.words b s w (by decide) hc

set_option maxHeartbeats 1000000 in
theorem nameOk_any (s : ByteArray) (w : World) : Calls Tryd.prog 35 #[.string s] w fun e w' => e = .returned (.bool (Tr.nameOk s)) ∧ Below w.heap.size w w' := by
  cases hi : Tr.inr s.size 1 30
  · go_enter Tryd.func35, Tryd.ntmps35
    go_wp2_with (go_at_call 34; refine (in_any _ _ _ _).mono ?_; rintro e w' ⟨rfl, rfl⟩)
    go_ret
    exact ⟨ret_bool (by simp [Tr.nameOk, hi]), Below.refl _ _⟩
  · obtain ⟨hs1, hs2⟩ := Tr.inr_true hi
    have hs0 : 0 < s.size := by omega
    have hh : s.data.toList.head? = some s[0] := by have := Sc.drop_cons s 0 hs0; rw [List.drop_zero] at this; rw [this]; rfl
    have hn : Tr.nameOk s = (Sc.beg s[0] && !decide (s.data.toList ∈ Sc.words) && Tr.allOf Sc.nm s.data.toList) := by simp [Tr.nameOk, hi, hh]
    rw [hn]
    clear hn hh
    cases hb : Sc.beg s[0]
    · go_enter Tryd.func35, Tryd.ntmps35
      go_wp2_with (first | (go_at_call 34; refine (in_any _ _ _ _).mono ?_; rintro e w' ⟨rfl, rfl⟩) | (go_at_call 63; refine (begins_any _ _).mono ?_; rintro e w' ⟨rfl, rfl⟩))
      go_ret
      exact ⟨rfl, Below.refl _ _⟩
    · cases hw : decide (s.data.toList ∈ Sc.words)
      · go_enter Tryd.func35, Tryd.ntmps35
        go_wp2_with (first | (go_at_call 34; refine (in_any _ _ _ _).mono ?_; rintro e w' ⟨rfl, rfl⟩) | (go_at_call 63; refine (begins_any _ _).mono ?_; rintro e w' ⟨rfl, rfl⟩) | (go_at_call 64; refine (words_any _).mono ?_; rintro e w1 ⟨rfl, hbel, hz, hli⟩) | (go_at_call 36; refine (has_words s _ _ hli).mono ?_; rintro e w' ⟨rfl, rfl⟩))
        go_loop [3] (fun t => ∃ j : Nat, j ≤ s.size ∧ t = .int .i64 j ∧ Tr.allOf Sc.nm s.data.toList = Tr.allOf Sc.nm (s.data.toList.drop j)) (fun t => s.size - (intOf t).toNat)
        case atStart => exact ⟨0, Nat.zero_le _, rfl, by simp⟩
        case round =>
          obtain ⟨j, hj, rfl, he⟩ := hrel
          have HE := hide he
          clear he
          by_cases hlt : j < s.size
          · have hd := hide (Sc.drop_cons s j hlt)
            cases hq : Sc.nm s[j]
            · go_wp2_with (go_at_call 65; refine (letter_any _ _).mono ?_; rintro e w' ⟨rfl, rfl⟩)
              go_ret
              refine ⟨ret_bool ?_, hbel⟩
              rw [HE.out, hd.out, Tr.allOf_cons, hq]; rfl
            · go_wp2_with (go_at_call 65; refine (letter_any _ _).mono ?_; rintro e w' ⟨rfl, rfl⟩)
              go_round
              case rel => exact ⟨j + 1, by omega, by go_num, by rw [HE.out, hd.out, Tr.allOf_cons, hq]; rfl⟩
              case measure => simp [intOf]; omega
          · go_wp2
            go_ret
            refine ⟨ret_bool ?_, hbel⟩
            have e := HE.out
            rw [List.drop_of_length_le (i := j) (by simp; omega)] at e
            rw [e]; rfl
      · go_enter Tryd.func35, Tryd.ntmps35
        go_wp2_with (first | (go_at_call 34; refine (in_any _ _ _ _).mono ?_; rintro e w' ⟨rfl, rfl⟩) | (go_at_call 63; refine (begins_any _ _).mono ?_; rintro e w' ⟨rfl, rfl⟩) | (go_at_call 64; refine (words_any _).mono ?_; rintro e w1 ⟨rfl, hbel, hz, hli⟩) | (go_at_call 36; refine (has_words s _ _ hli).mono ?_; rintro e w' ⟨rfl, rfl⟩))
        go_ret
        exact ⟨rfl, hbel⟩
end Go.Proofs.YtmklgiononbmmaaDoor
