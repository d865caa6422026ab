/- Id, Ie. -/
import Derived.Test.YtfjoecbkagedbaaGreatDoorY33
namespace Go.Proofs.YtfjoecbkagedbaaGreatDoor
open Go.RowKit

theorem oneOut_shape (k : Nat) (r : Sc.R) : ∃ (kd : Int) (tx : ByteArray) (n a en cd : Int), oneOut k r = .tuple #[.agg #[.int .i64 kd, .string tx, .int .i64 n, .int .i64 a], .int .i64 en, .int .i64 cd] := by
  unfold oneOut; split <;> exact ⟨_, _, _, _, _, _, rfl⟩

theorem below4 {B b : Nat} {w w1 : World} {v0 v1 v2 v3 : Value} (h : Below B w w1) (hb : B ≤ b) : Below B w ((((w1.setCell ⟨b, 0, none⟩ v0).setCell ⟨b, 1, none⟩ v1).setCell ⟨b, 2, none⟩ v2).setCell ⟨b, 3, none⟩ v3) :=
  (((h.setCell (p := ⟨b, 0, none⟩) hb _).setCell (p := ⟨b, 1, none⟩) hb _).setCell (p := ⟨b, 2, none⟩) hb _).setCell (p := ⟨b, 3, none⟩) hb _

def Sc.isWord (l : List UInt8) : Bool := decide (l ∈ Sc.words)
theorem has_wordsS (b : Nat) (s : ByteArray) (w : World) (t : List UInt8) (ht : s.data.toList = t) (hc : Lies w b Sc.words) :
    Calls Tryz.prog 49 #[.slice (some ⟨b, 0, none⟩) 17 17, .string s] w fun e w' => e = .returned (.bool (Sc.isWord t)) ∧ w' = w := by
  subst ht; exact has_any Sc.words b s w (by decide) hc
theorem ext_mk {x : ByteArray} {t : List UInt8} (h : x.data.toList = t) : x = ⟨t.toArray⟩ := by subst h; exact (Lib.mk_data x).symm

theorem bcell {W w1 : World} (hb : Below W.heap.size W w1) : (∀ b o, b < W.heap.size → w1.cell? ⟨b, o, none⟩ = W.cell? ⟨b, o, none⟩) ∧ (∀ b o, b < W.heap.size → w1.frozen? ⟨b, o, none⟩ = W.frozen? ⟨b, o, none⟩) :=
  ⟨fun b o h => hb.cell (p := ⟨b, o, none⟩) h, fun b o h => hb.frozen (p := ⟨b, o, none⟩) h⟩

theorem Sc.one_num (s : ByteArray) (k : Nat) (hk : k < s.size) (hd : Sc.dig s[k] = true) : Sc.one (s.data.toList.drop k) = Sc.oneNum (s.data.toList.drop k) := by
  rw [Sc.drop_cons s k hk]; simp only [Sc.one]; rw [if_pos hd]
theorem Sc.one_name (s : ByteArray) (k : Nat) (hk : k < s.size) (hd : Sc.dig s[k] = false) (hb : Sc.beg s[k] = true) : Sc.one (s.data.toList.drop k) = Sc.oneName (s.data.toList.drop k) := by
  rw [Sc.drop_cons s k hk]; simp only [Sc.one]; rw [if_neg (by simp [hd]), if_pos hb]
theorem Sc.one_text (s : ByteArray) (k : Nat) (hk : k < s.size) (hd : Sc.dig s[k] = false) (hb : Sc.beg s[k] = false) (hq : s[k].toNat = 34) : Sc.one (s.data.toList.drop k) = Sc.oneText (s.data.toList.drop k) := by
  rw [Sc.drop_cons s k hk]; simp only [Sc.one]; rw [if_neg (by simp [hd]), if_neg (by simp [hb]), if_pos hq]
theorem Sc.one_mark (s : ByteArray) (k : Nat) (hk : k < s.size) (hd : Sc.dig s[k] = false) (hb : Sc.beg s[k] = false) (hq : s[k].toNat ≠ 34) : Sc.one (s.data.toList.drop k) = Sc.oneMark (s.data.toList.drop k) := by
  rw [Sc.drop_cons s k hk]; simp only [Sc.one]; rw [if_neg (by simp [hd]), if_neg (by simp [hb]), if_neg hq]

set_option maxHeartbeats 1000000 in
theorem one_num (s : ByteArray) (k : Nat) (w : World) (hs : s.size ≤ 1048576) (hk : k < s.size) (hd : Sc.dig s[k] = true) :
    Calls Tryz.prog 22 #[.string s, .int .i64 k] w fun e w' => e = .returned (oneOut k (Sc.one (s.data.toList.drop k))) ∧ Below w.heap.size w w' := by
  rw [Sc.one_num s k hk hd]
  obtain ⟨kd, tx, n, a, en, cd, heq⟩ := oneOut_shape k (Sc.oneNum (s.data.toList.drop k))
  have hN := fun w => number_any s k k w hs hk rfl
  rw [heq] at hN ⊢
  clear heq
  have HN := hide hN
  clear hN
  go_enter Tryz.func22, Tryz.ntmps22
  go_wp2_with (first | (go_at_call 45; refine (digit_any _ _).mono ?_; rintro e w' ⟨rfl, rfl⟩) | (go_at_call 46; refine (HN.out _).mono ?_; rintro e w1 ⟨rfl, hb⟩; obtain ⟨hc, hf⟩ := bcell hb))
  have hb0 : Below w.heap.size w w1 := ((Below.refl _ _).alloc (Nat.le_refl _) _).trans (hb.mono (by simp))
  refine bodyPost_ret (v := .tuple #[.agg #[.int .i64 kd, .string tx, .int .i64 n, .int .i64 a], .int .i64 en, .int .i64 cd]) (by simp [results, Tryz.results22, go_sem, hc]) rfl ⟨rfl, ?_⟩
  exact below4 hb0 (Nat.le_refl _)

set_option maxHeartbeats 1000000 in
theorem one_text (s : ByteArray) (k : Nat) (w : World) (hs : s.size ≤ 1048576) (hk : k < s.size) (hd : Sc.dig s[k] = false) (hbg : Sc.beg s[k] = false) (hq : ((s[k].toNat : Int) == 34) = true) :
    Calls Tryz.prog 22 #[.string s, .int .i64 k] w fun e w' => e = .returned (oneOut k (Sc.one (s.data.toList.drop k))) ∧ Below w.heap.size w w' := by
  rw [Sc.one_text s k hk hd hbg (by simp at hq; omega)]
  have htl : (s.data.toList.drop k).tail = s.data.toList.drop (k + 1) := by simp
  have ho : Sc.oneText (s.data.toList.drop k) = match Sc.unq (s.data.toList.drop (k + 1)) with
    | none => Sc.bad 4
    | some p => if 1000 < p.1.length then Sc.bad 5 else ⟨0, 4, p.1, 0, p.2 + 1⟩ := by unfold Sc.oneText; rw [htl]; rfl
  have hU := fun w => unquote_any s k k w hs hk rfl
  cases hu : Sc.unq (s.data.toList.drop (k + 1)) with
  | none =>
    rw [hu] at ho hU
    rw [ho]
    simp only [unqOut] at hU
    have HU := hide hU
    clear hU ho htl hu
    go_enter Tryz.func22, Tryz.ntmps22
    go_wp2_with (first | (go_at_call 45; refine (digit_any _ _).mono ?_; rintro e w' ⟨rfl, rfl⟩) | (go_at_call 47; refine (begins_any _ _).mono ?_; rintro e w' ⟨rfl, rfl⟩) | (go_at_call 51; refine (HU.out _).mono ?_; rintro e w1 ⟨rfl, hb⟩; obtain ⟨hc, hf⟩ := bcell hb))
    have hb0 : Below w.heap.size w w1 := ((Below.refl _ _).alloc (Nat.le_refl _) _).trans (hb.mono (by simp))
    refine bodyPost_ret (v := .tuple #[.agg #[.int .i64 0, .string ⟨#[]⟩, .int .i64 0, .int .i64 0], .int .i64 0, .int .i64 4]) (by simp [results, Tryz.results22, go_sem, hc]) rfl ⟨by rw [oneOut_bad rfl (by decide)]; rfl, ?_⟩
    exact below4 hb0 (Nat.le_refl _)
  | some p =>
    rw [hu] at ho hU
    simp only at ho
    simp only [unqOut] at hU
    have HU := hide hU
    have hus := hide (Sc.unq_size _ p.1 p.2 hu)
    clear hU htl hu
    by_cases hlong : 1000 < p.1.length
    · rw [if_pos hlong] at ho
      rw [ho]
      clear ho
      go_enter Tryz.func22, Tryz.ntmps22
      go_wp2_with (first | (go_at_call 45; refine (digit_any _ _).mono ?_; rintro e w' ⟨rfl, rfl⟩) | (go_at_call 47; refine (begins_any _ _).mono ?_; rintro e w' ⟨rfl, rfl⟩) | (go_at_call 51; refine (HU.out _).mono ?_; rintro e w1 ⟨rfl, hb⟩; obtain ⟨hc, hf⟩ := bcell hb))
      have hb0 : Below w.heap.size w w1 := ((Below.refl _ _).alloc (Nat.le_refl _) _).trans (hb.mono (by simp))
      refine bodyPost_ret (v := .tuple #[.agg #[.int .i64 0, .string ⟨#[]⟩, .int .i64 0, .int .i64 0], .int .i64 0, .int .i64 5]) (by simp [results, Tryz.results22, go_sem, hc]) rfl ⟨by rw [oneOut_bad rfl (by decide)]; rfl, ?_⟩
      exact below4 hb0 (Nat.le_refl _)
    · rw [if_neg hlong] at ho
      rw [ho]
      clear ho
      go_enter Tryz.func22, Tryz.ntmps22
      go_wp2_with (first | (go_at_call 45; refine (digit_any _ _).mono ?_; rintro e w' ⟨rfl, rfl⟩) | (go_at_call 47; refine (begins_any _ _).mono ?_; rintro e w' ⟨rfl, rfl⟩) | (go_at_call 51; refine (HU.out _).mono ?_; rintro e w1 ⟨rfl, hb⟩; obtain ⟨hc, hf⟩ := bcell hb))
      have hb0 : Below w.heap.size w w1 := ((Below.refl _ _).alloc (Nat.le_refl _) _).trans (hb.mono (by simp))
      refine bodyPost_ret (v := .tuple #[.agg #[.int .i64 4, .string ⟨p.1.toArray⟩, .int .i64 0, .int .i64 k], .int .i64 ((k : Int) + 1 + p.2), .int .i64 0]) (by simp [results, Tryz.results22, go_sem, hc]) rfl ⟨by rw [oneOut_good rfl]; simp; omega, ?_⟩
      exact below4 hb0 (Nat.le_refl _)

theorem Sc.takeWhile_take (p : UInt8 → Bool) (l : List UInt8) : l.take (l.takeWhile p).length = l.takeWhile p := by
  induction l with
  | nil => rfl
  | cons x r ih => simp only [List.takeWhile_cons]; split <;> simp [ih]

set_option maxRecDepth 100000 in
set_option maxHeartbeats 1000000 in
theorem one_name (s : ByteArray) (k : Nat) (w : World) (hs : s.size ≤ 1048576) (hk : k < s.size) (hd : Sc.dig s[k] = false) (hbg : Sc.beg s[k] = true) :
    Calls Tryz.prog 22 #[.string s, .int .i64 k] w fun e w' => e = .returned (oneOut k (Sc.one (s.data.toList.drop k))) ∧ Below w.heap.size w w' := by
  rw [Sc.one_name s k hk hd hbg]
  go_enter Tryz.func22, Tryz.ntmps22
  go_wp2_with (first | (go_at_call 45; refine (digit_any _ _).mono ?_; rintro e w' ⟨rfl, rfl⟩) | (go_at_call 47; refine (begins_any _ _).mono ?_; rintro e w' ⟨rfl, rfl⟩))
  go_loop [7] (fun t => ∃ j : Nat, k ≤ j ∧ j ≤ s.size ∧ t = .int .i64 j ∧ j + ((s.data.toList.drop j).takeWhile Sc.nm).length = k + ((s.data.toList.drop k).takeWhile Sc.nm).length) (fun t => s.size - (intOf t).toNat)
  case atStart => exact ⟨k, Nat.le_refl _, by omega, rfl, rfl⟩
  case round =>
    obtain ⟨j, hkj, hj, rfl, he⟩ := hrel
    have HE := hide he
    clear he
    by_cases hgo : ∃ h : j < s.size, Sc.nm s[j] = true
    · obtain ⟨hlt, hn⟩ := hgo
      have hdj := hide (Sc.drop_cons s j hlt)
      go_wp2_with (go_at_call 48; refine (letter_any _ _).mono ?_; rintro e w' ⟨rfl, rfl⟩)
      go_round
      case rel =>
        refine ⟨j + 1, by omega, by omega, by go_num, ?_⟩
        have e := HE.out
        rw [hdj.out, Sc.takeWhile_cons_pos hn] at e
        omega
      case measure => simp [intOf]; omega
    · have he : ((s.data.toList.drop j).takeWhile Sc.nm).length = 0 := by
        by_cases hlt : j < s.size
        · have hn : Sc.nm s[j] = false := by cases h : Sc.nm s[j] <;> simp_all
          rw [Sc.drop_cons s j hlt, Sc.takeWhile_cons_neg hn]
        · rw [List.drop_of_length_le (i := j) (by simp; omega)]; rfl
      have hx : (s.extract k j).data.toList = (s.data.toList.drop k).takeWhile Sc.nm := by
        have e := HE.out
        rw [Lib.extract_data, show j - k = ((s.data.toList.drop k).takeWhile Sc.nm).length from by omega, Sc.takeWhile_take]
      have hjk : j = k + ((s.data.toList.drop k).takeWhile Sc.nm).length := by have e := HE.out; omega
      have HX := hide hx
      have HJ := hide hjk
      clear he hx hjk
      have hend : (∃ h : j < s.size, Sc.nm s[j] = false) ∨ ¬ j < s.size := by
        by_cases hlt : j < s.size
        · left; refine ⟨hlt, ?_⟩; cases h : Sc.nm s[j] <;> simp_all
        · exact .inr hlt
      clear hgo
      have hlen : (s.extract k j).size = j - k := by simp; omega
      have HL := hide hlen
      clear hlen
      cases hw : Sc.isWord ((s.data.toList.drop k).takeWhile Sc.nm)
      · have hnw : ¬ (s.data.toList.drop k).takeWhile Sc.nm ∈ Sc.words := by simpa [Sc.isWord] using hw
        by_cases hl : 30 < j - k
        · have HO : Hid (Sc.oneName (s.data.toList.drop k) = Sc.bad 5) := hide (by have e := HJ.out; unfold Sc.oneName; rw [if_neg hnw, if_pos (by omega)])
          clear hnw
          rcases hend with ⟨hlt, hn⟩ | hlt
          all_goals
            go_wp2_with (first | (go_at_call 48; refine (letter_any _ _).mono ?_; rintro e w' ⟨rfl, rfl⟩) | (go_at_call 50; refine (words_any _).mono ?_; rintro e w1 ⟨rfl, hb, hz, hli⟩; obtain ⟨hc, hf⟩ := bcell hb; rw [World.size_alloc] at hli) | (go_at_call 49; refine (has_wordsS (w.heap.size + 1) _ _ _ HX.out hli).mono ?_; rintro e w1 ⟨rfl, rfl⟩))
            have hb0 : Below w.heap.size w w1 := ((Below.refl _ _).alloc (Nat.le_refl _) _).trans (hb.mono (by simp))
            refine bodyPost_ret (v := .tuple #[.agg #[.int .i64 0, .string ⟨#[]⟩, .int .i64 0, .int .i64 0], .int .i64 0, .int .i64 5]) (by simp [results, Tryz.results22, go_sem, hc]) rfl ⟨by rw [oneOut_bad HO.out (by decide)]; rfl, ?_⟩
            exact below4 hb0 (Nat.le_refl _)
        · have HO : Hid (Sc.oneName (s.data.toList.drop k) = ⟨0, 1, (s.data.toList.drop k).takeWhile Sc.nm, 0, j - k⟩) := hide (by have e := HJ.out; unfold Sc.oneName; rw [if_neg hnw, if_neg (by omega), show ((s.data.toList.drop k).takeWhile Sc.nm).length = j - k from by omega])
          clear hnw
          rcases hend with ⟨hlt, hn⟩ | hlt
          all_goals
            go_wp2_with (first | (go_at_call 48; refine (letter_any _ _).mono ?_; rintro e w' ⟨rfl, rfl⟩) | (go_at_call 50; refine (words_any _).mono ?_; rintro e w1 ⟨rfl, hb, hz, hli⟩; obtain ⟨hc, hf⟩ := bcell hb; rw [World.size_alloc] at hli) | (go_at_call 49; refine (has_wordsS (w.heap.size + 1) _ _ _ HX.out hli).mono ?_; rintro e w1 ⟨rfl, rfl⟩))
            have hb0 : Below w.heap.size w w1 := ((Below.refl _ _).alloc (Nat.le_refl _) _).trans (hb.mono (by simp))
            refine bodyPost_ret (v := .tuple #[.agg #[.int .i64 1, .string (s.extract k j), .int .i64 0, .int .i64 k], .int .i64 j, .int .i64 0]) (by simp [results, Tryz.results22, go_sem, hc]) rfl ⟨by rw [oneOut_good HO.out, ext_mk HX.out, show (k : Int) + (j - k : Nat) = j from by omega]; rfl, ?_⟩
            exact below4 hb0 (Nat.le_refl _)
      · have hnw : (s.data.toList.drop k).takeWhile Sc.nm ∈ Sc.words := by simpa [Sc.isWord] using hw
        have HO : Hid (Sc.oneName (s.data.toList.drop k) = ⟨0, 2, (s.data.toList.drop k).takeWhile Sc.nm, 0, j - k⟩) := hide (by have e := HJ.out; unfold Sc.oneName; rw [if_pos hnw, show ((s.data.toList.drop k).takeWhile Sc.nm).length = j - k from by omega])
        clear hnw
        rcases hend with ⟨hlt, hn⟩ | hlt
        all_goals
            go_wp2_with (first | (go_at_call 48; refine (letter_any _ _).mono ?_; rintro e w' ⟨rfl, rfl⟩) | (go_at_call 50; refine (words_any _).mono ?_; rintro e w1 ⟨rfl, hb, hz, hli⟩; obtain ⟨hc, hf⟩ := bcell hb; rw [World.size_alloc] at hli) | (go_at_call 49; refine (has_wordsS (w.heap.size + 1) _ _ _ HX.out hli).mono ?_; rintro e w1 ⟨rfl, rfl⟩))
            have hb0 : Below w.heap.size w w1 := ((Below.refl _ _).alloc (Nat.le_refl _) _).trans (hb.mono (by simp))
            refine bodyPost_ret (v := .tuple #[.agg #[.int .i64 2, .string (s.extract k j), .int .i64 0, .int .i64 k], .int .i64 j, .int .i64 0]) (by simp [results, Tryz.results22, go_sem, hc]) rfl ⟨by rw [oneOut_good HO.out, ext_mk HX.out, show (k : Int) + (j - k : Nat) = j from by omega]; rfl, ?_⟩
            exact below4 hb0 (Nat.le_refl _)
end Go.Proofs.YtfjoecbkagedbaaGreatDoor
namespace Go.Proofs.YtfjoecbkagedbaaGreatDoor
open Go.RowKit

theorem Sc.pre_eq (s : ByteArray) (k : Nat) (m : List UInt8) : m.isPrefixOf (s.data.toList.drop k) = ((s.extract k (k + m.length)).toList == m) := by
  rw [Lib.extract_toList, show k + m.length - k = m.length from by omega, Bool.eq_iff_iff, List.isPrefixOf_iff_prefix, List.prefix_iff_eq_take, beq_iff_eq]
  exact ⟨fun h => h.symm, fun h => h.symm⟩
theorem Sc.pre_long (s : ByteArray) (k : Nat) (m : List UInt8) (h1 : 1 ≤ m.length) (h : ¬ k + m.length ≤ s.size) : m.isPrefixOf (s.data.toList.drop k) = false := by
  rw [Bool.eq_false_iff]
  intro hp
  have := (List.isPrefixOf_iff_prefix.1 hp).length_le
  simp at this
  omega
theorem Sc.mark_hit (l : List UInt8) (i : Nat) (hi : i < Sc.marks.length) (h1 : ∀ (j : Nat) (h : j < Sc.marks.length), j < i → (Sc.marks[j]).isPrefixOf l = false) (h2 : (Sc.marks[i]).isPrefixOf l = true) :
    Sc.oneMark l = ⟨0, 5, Sc.marks[i], 0, (Sc.marks[i]).length⟩ := by
  have : Sc.marks.find? (fun m => m.isPrefixOf l) = some Sc.marks[i] := by
    rw [List.find?_eq_some_iff_getElem]
    exact ⟨h2, i, hi, rfl, fun j hj => by simp [h1 j (by omega) hj]⟩
  unfold Sc.oneMark; rw [this]
theorem Sc.mark_none (l : List UInt8) (h1 : ∀ (j : Nat) (h : j < Sc.marks.length), j < 23 → (Sc.marks[j]).isPrefixOf l = false) : Sc.oneMark l = Sc.bad 2 := by
  have : Sc.marks.find? (fun m => m.isPrefixOf l) = none := by
    rw [List.find?_eq_none]
    intro x hx
    obtain ⟨j, hj, rfl⟩ := List.getElem_of_mem hx
    simp [h1 j hj hj]
  unfold Sc.oneMark; rw [this]

set_option maxRecDepth 100000 in
set_option maxHeartbeats 1000000 in
theorem one_mark (s : ByteArray) (k : Nat) (w : World) (hs : s.size ≤ 1048576) (hk : k < s.size) (hd : Sc.dig s[k] = false) (hbg : Sc.beg s[k] = false) (hq : ((s[k].toNat : Int) == 34) = false) :
    Calls Tryz.prog 22 #[.string s, .int .i64 k] w fun e w' => e = .returned (oneOut k (Sc.one (s.data.toList.drop k))) ∧ Below w.heap.size w w' := by
  rw [Sc.one_mark s k hk hd hbg (by simp at hq; omega)]
  go_enter Tryz.func22, Tryz.ntmps22
  go_wp2_with (first | (go_at_call 45; refine (digit_any _ _).mono ?_; rintro e w' ⟨rfl, rfl⟩) | (go_at_call 47; refine (begins_any _ _).mono ?_; rintro e w' ⟨rfl, rfl⟩) | (go_at_call 52; refine (marks_any _).mono ?_; rintro e w1 ⟨rfl, hb, hz, hli⟩; obtain ⟨hc, hf⟩ := bcell hb; rw [World.size_alloc] at hli hz))
  have HLI := hide hli
  clear hli
  go_loop [13] (fun t => ∃ i : Nat, i ≤ 23 ∧ t = .int .i64 i ∧ ∀ (j : Nat) (h : j < Sc.marks.length), j < i → (Sc.marks[j]).isPrefixOf (s.data.toList.drop k) = false) (fun t => 23 - (intOf t).toNat)
  case atStart => exact ⟨0, by omega, rfl, fun j _ h => by omega⟩
  case round =>
    obtain ⟨i, hi, rfl, he⟩ := hrel
    have HE := hide he
    clear he
    by_cases hlt : i < 23
    · have hci := HLI.out i hlt
      have hmp := Sc.marks_pos Sc.marks[i] (List.getElem_mem _)
      obtain ⟨m, hm⟩ : ∃ m, m = Sc.marks[i] := ⟨_, rfl⟩
      rw [← hm] at hci hmp
      have HM := hide hm
      clear hm
      obtain ⟨hm1, hm2⟩ := hmp
      by_cases hsz : k + m.length ≤ s.size
      · cases hp : ((s.extract k (k + m.length)).toList == m)
        · have HP : Hid (m.isPrefixOf (s.data.toList.drop k) = false) := hide ((Sc.pre_eq s k m).trans hp)
          go_wp2
          go_round
          case rel =>
            refine ⟨i + 1, by omega, by go_num, ?_⟩
            intro j hj hji
            by_cases e : j = i
            · subst e; have h := HP.out; rw [HM.out] at h; exact h
            · exact HE.out j hj (by omega)
          case measure => simp [intOf]; omega
        · have HO : Hid (Sc.oneMark (s.data.toList.drop k) = ⟨0, 5, m, 0, m.length⟩) := hide (by have h := HM.out; rw [h]; exact Sc.mark_hit _ i hlt HE.out (by rw [← h]; exact (Sc.pre_eq s k m).trans hp))
          go_wp2
          have hb0 : Below w.heap.size w w1 := ((Below.refl _ _).alloc (Nat.le_refl _) _).trans (hb.mono (by simp))
          refine bodyPost_ret (v := .tuple #[.agg #[.int .i64 5, .string ⟨m.toArray⟩, .int .i64 0, .int .i64 k], .int .i64 ((k : Int) + m.length), .int .i64 0]) (by simp [results, Tryz.results22, go_sem, hc]) rfl ⟨by rw [oneOut_good HO.out]; rfl, ?_⟩
          exact below4 hb0 (Nat.le_refl _)
      · have HP : Hid (m.isPrefixOf (s.data.toList.drop k) = false) := hide (Sc.pre_long s k m hm1 hsz)
        go_wp2
        go_round
        case rel =>
          refine ⟨i + 1, by omega, by go_num, ?_⟩
          intro j hj hji
          by_cases e : j = i
          · subst e; have h := HP.out; rw [HM.out] at h; exact h
          · exact HE.out j hj (by omega)
        case measure => simp [intOf]; omega
    · have HO : Hid (Sc.oneMark (s.data.toList.drop k) = Sc.bad 2) := hide (Sc.mark_none _ (fun j h hj => HE.out j h (by omega)))
      go_wp2
      have hb0 : Below w.heap.size w w1 := ((Below.refl _ _).alloc (Nat.le_refl _) _).trans (hb.mono (by simp))
      refine bodyPost_ret (v := .tuple #[.agg #[.int .i64 0, .string ⟨#[]⟩, .int .i64 0, .int .i64 0], .int .i64 0, .int .i64 2]) (by simp [results, Tryz.results22, go_sem, hc]) rfl ⟨by rw [oneOut_bad HO.out (by decide)]; rfl, ?_⟩
      exact below4 hb0 (Nat.le_refl _)

theorem one_any (s : ByteArray) (k : Nat) (a : Int) (w : World) (hs : s.size ≤ 1048576) (hk : k < s.size) (ha : a = (k : Int)) :
    Calls Tryz.prog 22 #[.string s, .int .i64 a] w fun e w' => e = .returned (oneOut k (Sc.one (s.data.toList.drop k))) ∧ Below w.heap.size w w' := by
  subst ha
  cases hd : Sc.dig s[k]
  · cases hb : Sc.beg s[k]
    · cases hq : ((s[k].toNat : Int) == 34)
      · exact one_mark s k w hs hk hd hb hq
      · exact one_text s k w hs hk hd hb hq
    · exact one_name s k w hs hk hd hb
  · exact one_num s k w hs hk hd

/-- A token's four cells. -/
def Sc.T.cells (x : Sc.T) : List Value := [.int .i64 x.kind, .string ⟨x.text.toArray⟩, .int .i64 x.n, .int .i64 x.place]
def Sc.cellsOf (l : List Sc.T) : List Value := l.flatMap Sc.T.cells
theorem Sc.cellsOf_snoc (l : List Sc.T) (x : Sc.T) : Sc.cellsOf (l ++ [x]) = Sc.cellsOf l ++ x.cells := by simp [Sc.cellsOf]
theorem Sc.cellsOf_len (l : List Sc.T) : (Sc.cellsOf l).length = l.length * 4 := by
  induction l with
  | nil => rfl
  | cons x r ih => simp only [Sc.cellsOf, List.flatMap_cons, List.length_append, List.length_cons] at ih ⊢; rw [ih]; simp [Sc.T.cells]; omega

theorem Tryz.infoS33 : (Tryz.prog.info? 54).map (fun i => (i.zero, i.size, i.bytes)) = some (some (.agg #[.int .i64 0, .string ⟨#[]⟩, .int .i64 0, .int .i64 0]), 4, 40) := by kernel_rfl

/-- What Scan answers. -/
def Sc.toks (s : ByteArray) : List Sc.T := if 8000 < s.size then [] else if (Sc.from_ s.data.toList 0).2.1 = 0 then (Sc.from_ s.data.toList 0).1 else []
def Sc.code (s : ByteArray) : Nat := if 8000 < s.size then 1 else (Sc.from_ s.data.toList 0).2.1
def Sc.at_ (s : ByteArray) : Nat := if 8000 < s.size then 0 else (Sc.from_ s.data.toList 0).2.2

end Go.Proofs.YtfjoecbkagedbaaGreatDoor
