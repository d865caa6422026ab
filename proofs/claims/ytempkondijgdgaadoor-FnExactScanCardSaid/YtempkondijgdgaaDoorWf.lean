/- Walks: marks, one token whole, and the scan, on the specification's side. -/
import Derived.Test.YtempkondijgdgaaDoorWe
namespace Go.Proofs.YtempkondijgdgaaDoor
open Go.RowKit

theorem Sc.pre_eq (s : ByteArray) (k : Nat) (m : List UInt8) : m.isPrefixOf (s.data.toList.drop k) = ((s.extract k (k + m.length)).toList == m) := by
  rw [Lib.extract_toList, show k + m.length - k = m.length from by omega, Bool.eq_iff_iff, List.isPrefixOf_iff_prefix, List.prefix_iff_eq_take, beq_iff_eq]
  exact ⟨fun h => h.symm, fun h => h.symm⟩
theorem Sc.pre_long (s : ByteArray) (k : Nat) (m : List UInt8) (h1 : 1 ≤ m.length) (h : ¬ k + m.length ≤ s.size) : m.isPrefixOf (s.data.toList.drop k) = false := by
  rw [Bool.eq_false_iff]
  intro hp
  have := (List.isPrefixOf_iff_prefix.1 hp).length_le
  simp at this
  omega
theorem Sc.mark_hit (l : List UInt8) (i : Nat) (hi : i < Sc.marks.length) (h1 : ∀ (j : Nat) (h : j < Sc.marks.length), j < i → (Sc.marks[j]).isPrefixOf l = false) (h2 : (Sc.marks[i]).isPrefixOf l = true) :
    Sc.oneMark l = ⟨0, 5, Sc.marks[i], 0, (Sc.marks[i]).length⟩ := by
  have : Sc.marks.find? (fun m => m.isPrefixOf l) = some Sc.marks[i] := by
    rw [List.find?_eq_some_iff_getElem]
    exact ⟨h2, i, hi, rfl, fun j hj => by simp [h1 j (by omega) hj]⟩
  unfold Sc.oneMark; rw [this]
theorem Sc.mark_none (l : List UInt8) (h1 : ∀ (j : Nat) (h : j < Sc.marks.length), j < 23 → (Sc.marks[j]).isPrefixOf l = false) : Sc.oneMark l = Sc.bad 2 := by
  have : Sc.marks.find? (fun m => m.isPrefixOf l) = none := by
    rw [List.find?_eq_none]
    intro x hx
    obtain ⟨j, hj, rfl⟩ := List.getElem_of_mem hx
    simp [h1 j hj hj]
  unfold Sc.oneMark; rw [this]

set_option maxRecDepth 100000 in
set_option maxHeartbeats 1000000 in
theorem one_mark (s : ByteArray) (k : Nat) (w : World) (hs : s.size ≤ 1048576) (hk : k < s.size) (hd : Sc.dig s[k] = false) (hbg : Sc.beg s[k] = false) (hq : ((s[k].toNat : Int) == 34) = false) :
    Calls Tryd.prog 11 #[.string s, .int .i64 k] w fun e w' => e = .returned (oneOut k (Sc.one (s.data.toList.drop k))) ∧ Below w.heap.size w w' := by
  rw [Sc.one_mark s k hk hd hbg (by simp at hq; omega)]
  go_enter Tryd.func11, Tryd.ntmps11
  go_wp2_with (first | (go_at_call 15; refine (digit_any _ _).mono ?_; rintro e w' ⟨rfl, rfl⟩) | (go_at_call 17; refine (begins_any _ _).mono ?_; rintro e w' ⟨rfl, rfl⟩) | (go_at_call 22; refine (marks_any _).mono ?_; rintro e w1 ⟨rfl, hb, hz, hli⟩; obtain ⟨hc, hf⟩ := bcell hb; rw [World.size_alloc] at hli hz))
  have HLI := hide hli
  clear hli
  go_loop [13] (fun t => ∃ i : Nat, i ≤ 23 ∧ t = .int .i64 i ∧ ∀ (j : Nat) (h : j < Sc.marks.length), j < i → (Sc.marks[j]).isPrefixOf (s.data.toList.drop k) = false) (fun t => 23 - (intOf t).toNat)
  case atStart => exact ⟨0, by omega, rfl, fun j _ h => by omega⟩
  case round =>
    obtain ⟨i, hi, rfl, he⟩ := hrel
    have HE := hide he
    clear he
    by_cases hlt : i < 23
    · have hci := HLI.out i hlt
      have hmp := Sc.marks_pos Sc.marks[i] (List.getElem_mem _)
      obtain ⟨m, hm⟩ : ∃ m, m = Sc.marks[i] := ⟨_, rfl⟩
      rw [← hm] at hci hmp
      have HM := hide hm
      clear hm
      obtain ⟨hm1, hm2⟩ := hmp
      by_cases hsz : k + m.length ≤ s.size
      · cases hp : ((s.extract k (k + m.length)).toList == m)
        · have HP : Hid (m.isPrefixOf (s.data.toList.drop k) = false) := hide ((Sc.pre_eq s k m).trans hp)
          go_wp2
          go_round
          case rel =>
            refine ⟨i + 1, by omega, by go_num, ?_⟩
            intro j hj hji
            by_cases e : j = i
            · subst e; have h := HP.out; rw [HM.out] at h; exact h
            · exact HE.out j hj (by omega)
          case measure => simp [intOf]; omega
        · have HO : Hid (Sc.oneMark (s.data.toList.drop k) = ⟨0, 5, m, 0, m.length⟩) := hide (by have h := HM.out; rw [h]; exact Sc.mark_hit _ i hlt HE.out (by rw [← h]; exact (Sc.pre_eq s k m).trans hp))
          go_wp2
          have hb0 : Below w.heap.size w w1 := ((Below.refl _ _).alloc (Nat.le_refl _) _).trans (hb.mono (by simp))
          refine bodyPost_ret (v := .tuple #[.agg #[.int .i64 5, .string ⟨m.toArray⟩, .int .i64 0, .int .i64 k], .int .i64 ((k : Int) + m.length), .int .i64 0]) (by simp [results, Tryd.results11, go_sem, hc]) rfl ⟨by rw [oneOut_good HO.out]; rfl, ?_⟩
          exact below4 hb0 (Nat.le_refl _)
      · have HP : Hid (m.isPrefixOf (s.data.toList.drop k) = false) := hide (Sc.pre_long s k m hm1 hsz)
        go_wp2
        go_round
        case rel =>
          refine ⟨i + 1, by omega, by go_num, ?_⟩
          intro j hj hji
          by_cases e : j = i
          · subst e; have h := HP.out; rw [HM.out] at h; exact h
          · exact HE.out j hj (by omega)
        case measure => simp [intOf]; omega
    · have HO : Hid (Sc.oneMark (s.data.toList.drop k) = Sc.bad 2) := hide (Sc.mark_none _ (fun j h hj => HE.out j h (by omega)))
      go_wp2
      have hb0 : Below w.heap.size w w1 := ((Below.refl _ _).alloc (Nat.le_refl _) _).trans (hb.mono (by simp))
      refine bodyPost_ret (v := .tuple #[.agg #[.int .i64 0, .string ⟨#[]⟩, .int .i64 0, .int .i64 0], .int .i64 0, .int .i64 2]) (by simp [results, Tryd.results11, go_sem, hc]) rfl ⟨by rw [oneOut_bad HO.out (by decide)]; rfl, ?_⟩
      exact below4 hb0 (Nat.le_refl _)

theorem one_any (s : ByteArray) (k : Nat) (a : Int) (w : World) (hs : s.size ≤ 1048576) (hk : k < s.size) (ha : a = (k : Int)) :
    Calls Tryd.prog 11 #[.string s, .int .i64 a] w fun e w' => e = .returned (oneOut k (Sc.one (s.data.toList.drop k))) ∧ Below w.heap.size w w' := by
  subst ha
  cases hd : Sc.dig s[k]
  · cases hb : Sc.beg s[k]
    · cases hq : ((s[k].toNat : Int) == 34)
      · exact one_mark s k w hs hk hd hb hq
      · exact one_text s k w hs hk hd hb hq
    · exact one_name s k w hs hk hd hb
  · exact one_num s k w hs hk hd

/-- A token's four cells. -/
def Sc.T.cells (x : Sc.T) : List Value := [.int .i64 x.kind, .string ⟨x.text.toArray⟩, .int .i64 x.n, .int .i64 x.place]
def Sc.cellsOf (l : List Sc.T) : List Value := l.flatMap Sc.T.cells
theorem Sc.cellsOf_snoc (l : List Sc.T) (x : Sc.T) : Sc.cellsOf (l ++ [x]) = Sc.cellsOf l ++ x.cells := by simp [Sc.cellsOf]
theorem Sc.cellsOf_len (l : List Sc.T) : (Sc.cellsOf l).length = l.length * 4 := by
  induction l with
  | nil => rfl
  | cons x r ih => simp only [Sc.cellsOf, List.flatMap_cons, List.length_append, List.length_cons] at ih ⊢; rw [ih]; simp [Sc.T.cells]; omega

theorem Tryd.info33 : (Tryd.prog.info? 33).map (fun i => (i.zero, i.size, i.bytes)) = some (some (.agg #[.int .i64 0, .string ⟨#[]⟩, .int .i64 0, .int .i64 0]), 4, 40) := by kernel_rfl

/-- What Scan answers. -/
def Sc.toks (s : ByteArray) : List Sc.T := if 8000 < s.size then [] else if (Sc.from_ s.data.toList 0).2.1 = 0 then (Sc.from_ s.data.toList 0).1 else []
def Sc.code (s : ByteArray) : Nat := if 8000 < s.size then 1 else (Sc.from_ s.data.toList 0).2.1
def Sc.at_ (s : ByteArray) : Nat := if 8000 < s.size then 0 else (Sc.from_ s.data.toList 0).2.2

end Go.Proofs.YtempkondijgdgaaDoor
