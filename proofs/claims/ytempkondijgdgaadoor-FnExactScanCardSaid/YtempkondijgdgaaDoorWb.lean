/- Walks: numbers, lists of texts, sizes of names. -/
import Derived.Test.YtempkondijgdgaaDoorWa
import Derived.Lib.Strings
namespace Go.Proofs.YtempkondijgdgaaDoor
open Go.RowKit

namespace Sc
theorem takeWhile_cons_pos {p : UInt8 → Bool} {b : UInt8} {r : List UInt8} (h : p b = true) : ((b :: r).takeWhile p).length = (r.takeWhile p).length + 1 := by simp [h]
theorem takeWhile_cons_neg {p : UInt8 → Bool} {b : UInt8} {r : List UInt8} (h : p b = false) : ((b :: r).takeWhile p).length = 0 := by simp [h]
theorem numVal_snoc (l : List UInt8) (b : UInt8) : numVal (l ++ [b]) = numVal l * 10 + (b.toNat - 48) := by simp [numVal]
theorem take_snoc (s : ByteArray) (k j : Nat) (hkj : k ≤ j) (h : j < s.size) : (s.data.toList.drop k).take (j + 1 - k) = (s.data.toList.drop k).take (j - k) ++ [s[j]] := by
  rw [show j + 1 - k = (j - k) + 1 from by omega, List.take_succ_eq_append_getElem (by simp; omega)]
  congr 2
  simp [show k + (j - k) = j from by omega]
  rfl
end Sc

set_option maxHeartbeats 400000 in
theorem nameSize_any (s : ByteArray) (w : World) (hs : s.size ≤ 1048576) :
    Calls Tryd.prog 36 #[.string s] w fun e w' => e = .returned (.int .i64 ((s.data.toList.takeWhile Sc.nm).length : Nat)) ∧ w' = w := by
  go_enter Tryd.func36, Tryd.ntmps36
  go_wp2
  go_loop [3] (fun t => ∃ j : Nat, j ≤ s.size ∧ t = .int .i64 j ∧ j + ((s.data.toList.drop j).takeWhile Sc.nm).length = (s.data.toList.takeWhile Sc.nm).length) (fun t => s.size - (intOf t).toNat)
  case atStart => exact ⟨0, Nat.zero_le _, rfl, by simp⟩
  case round =>
    obtain ⟨j, hj, rfl, he⟩ := hrel
    have HE := hide he
    clear he
    by_cases hlt : j < s.size
    · have hd := hide (Sc.drop_cons s j hlt)
      cases hn : Sc.nm s[j]
      · go_wp2_with (go_at_call 31; refine (iname_any _ _).mono ?_; rintro e w' ⟨rfl, rfl⟩)
        go_ret
        refine ⟨ret_int ?_, rfl⟩
        have e := HE.out
        rw [hd.out, Sc.takeWhile_cons_neg hn] at e
        omega
      · go_wp2_with (go_at_call 31; refine (iname_any _ _).mono ?_; rintro e w' ⟨rfl, rfl⟩)
        go_round
        case rel =>
          refine ⟨j + 1, by omega, by go_num, ?_⟩
          have e := HE.out
          rw [hd.out, Sc.takeWhile_cons_pos hn] at e
          omega
        case measure => simp [intOf]; omega
    · go_wp2
      go_ret
      refine ⟨ret_int ?_, rfl⟩
      have e := HE.out
      rw [List.drop_of_length_le (i := j) (by simp; omega)] at e
      simp at e
      omega

/-- A list of texts lies from an address on. -/
def Lies (w : World) (b : Nat) (l : List (List UInt8)) : Prop := ∀ i (h : i < l.length), w.cell? ⟨b, i, none⟩ = some (.string ⟨(l[i]).toArray⟩)

theorem has_any (l : List (List UInt8)) (b : Nat) (s : ByteArray) (w : World) (hl : l.length ≤ 1000) (hc : Lies w b l) :
    Calls Tryd.prog 19 #[.slice (some ⟨b, 0, none⟩) l.length l.length, .string s] w fun e w' => e = .returned (.bool (decide (s.data.toList ∈ l))) ∧ w' = w := by
  go_enter Tryd.func19, Tryd.ntmps19
  go_wp2
  go_loop [5] (fun t => ∃ j : Nat, j ≤ l.length ∧ t = .int .i64 j ∧ ∀ i (h : i < l.length), i < j → l[i] ≠ s.data.toList) (fun t => l.length - (intOf t).toNat)
  case atStart => exact ⟨0, Nat.zero_le _, rfl, fun i _ h => by omega⟩
  case round =>
    obtain ⟨j, hj, rfl, he⟩ := hrel
    have HE := hide he
    clear he
    by_cases hlt : j < l.length
    · have hcj := hc j hlt
      cases hq : (l[j] == s.toList)
      · go_wp2
        go_round
        case rel =>
          refine ⟨j + 1, by omega, by go_num, ?_⟩
          intro i hi hij
          by_cases e : i = j
          · subst e; rw [Lib.toList_data] at hq; simpa using hq
          · exact HE.out i hi (by omega)
        case measure => simp [intOf]; omega
      · go_wp2
        go_ret
        refine ⟨ret_bool ?_, rfl⟩
        rw [Lib.toList_data] at hq
        have e : l[j] = s.data.toList := by simpa using hq
        rw [eq_comm, decide_eq_true_iff, ← e]
        exact List.getElem_mem _
    · go_wp2
      go_ret
      refine ⟨ret_bool ?_, rfl⟩
      rw [eq_comm, decide_eq_false_iff_not]
      intro hm
      obtain ⟨i, hi, e⟩ := List.getElem_of_mem hm
      exact HE.out i hi (by omega) e

theorem heap_alloc_new' (w : World) (o : Obj) : (w.alloc o).heap[w.heap.size]? = some o := (Go.MapKept.heap_alloc w o).1
theorem lies_lit (w : World) (t : TypeId) (l : List (List UInt8)) : Lies (w.alloc (.cells (l.map fun x => Value.string ⟨x.toArray⟩).toArray t)) w.heap.size l := by
  intro i h
  rw [World.cell?, heap_alloc_new']
  simp [h]

set_option maxHeartbeats 400000 in
theorem words_any (w : World) : Calls Tryd.prog 20 #[] w fun e w' => e = .returned (.slice (some ⟨w.heap.size, 0, none⟩) 17 17) ∧ Below w.heap.size w w' ∧ w.heap.size < w'.heap.size ∧ Lies w' w.heap.size Sc.words := by
  go_enter Tryd.func20, Tryd.ntmps20
  go_wp2
  go_ret
  refine ⟨rfl, (Below.refl _ _).alloc (Nat.le_refl _) _, by simp, ?_⟩
  exact lies_lit w 9 Sc.words

set_option maxHeartbeats 400000 in
theorem marks_any (w : World) : Calls Tryd.prog 22 #[] w fun e w' => e = .returned (.slice (some ⟨w.heap.size, 0, none⟩) 23 23) ∧ Below w.heap.size w w' ∧ w.heap.size < w'.heap.size ∧ Lies w' w.heap.size Sc.marks := by
  go_enter Tryd.func22, Tryd.ntmps22
  go_wp2
  go_ret
  refine ⟨rfl, (Below.refl _ _).alloc (Nat.le_refl _) _, by simp, ?_⟩
  exact lies_lit w 9 Sc.marks

end Go.Proofs.YtempkondijgdgaaDoor
