/- Walks: one token, on the specification's side. -/
import Derived.Test.YtempkondijgdgaaDoorWd
namespace Go.Proofs.YtempkondijgdgaaDoor
open Go.RowKit

theorem oneOut_shape (k : Nat) (r : Sc.R) : ∃ (kd : Int) (tx : ByteArray) (n a en cd : Int), oneOut k r = .tuple #[.agg #[.int .i64 kd, .string tx, .int .i64 n, .int .i64 a], .int .i64 en, .int .i64 cd] := by
  unfold oneOut; split <;> exact ⟨_, _, _, _, _, _, rfl⟩

theorem below4 {B b : Nat} {w w1 : World} {v0 v1 v2 v3 : Value} (h : Below B w w1) (hb : B ≤ b) : Below B w ((((w1.setCell ⟨b, 0, none⟩ v0).setCell ⟨b, 1, none⟩ v1).setCell ⟨b, 2, none⟩ v2).setCell ⟨b, 3, none⟩ v3) :=
  (((h.setCell (p := ⟨b, 0, none⟩) hb _).setCell (p := ⟨b, 1, none⟩) hb _).setCell (p := ⟨b, 2, none⟩) hb _).setCell (p := ⟨b, 3, none⟩) hb _

def Sc.isWord (l : List UInt8) : Bool := decide (l ∈ Sc.words)
theorem has_words (b : Nat) (s : ByteArray) (w : World) (t : List UInt8) (ht : s.data.toList = t) (hc : Lies w b Sc.words) :
    Calls Tryd.prog 19 #[.slice (some ⟨b, 0, none⟩) 17 17, .string s] w fun e w' => e = .returned (.bool (Sc.isWord t)) ∧ w' = w := by
  subst ht; exact has_any Sc.words b s w (by decide) hc
theorem ext_mk {x : ByteArray} {t : List UInt8} (h : x.data.toList = t) : x = ⟨t.toArray⟩ := by subst h; exact (Lib.mk_data x).symm

theorem bcell {W w1 : World} (hb : Below W.heap.size W w1) : (∀ b o, b < W.heap.size → w1.cell? ⟨b, o, none⟩ = W.cell? ⟨b, o, none⟩) ∧ (∀ b o, b < W.heap.size → w1.frozen? ⟨b, o, none⟩ = W.frozen? ⟨b, o, none⟩) :=
  ⟨fun b o h => hb.cell (p := ⟨b, o, none⟩) h, fun b o h => hb.frozen (p := ⟨b, o, none⟩) h⟩

theorem Sc.one_num (s : ByteArray) (k : Nat) (hk : k < s.size) (hd : Sc.dig s[k] = true) : Sc.one (s.data.toList.drop k) = Sc.oneNum (s.data.toList.drop k) := by
  rw [Sc.drop_cons s k hk]; simp only [Sc.one]; rw [if_pos hd]
theorem Sc.one_name (s : ByteArray) (k : Nat) (hk : k < s.size) (hd : Sc.dig s[k] = false) (hb : Sc.beg s[k] = true) : Sc.one (s.data.toList.drop k) = Sc.oneName (s.data.toList.drop k) := by
  rw [Sc.drop_cons s k hk]; simp only [Sc.one]; rw [if_neg (by simp [hd]), if_pos hb]
theorem Sc.one_text (s : ByteArray) (k : Nat) (hk : k < s.size) (hd : Sc.dig s[k] = false) (hb : Sc.beg s[k] = false) (hq : s[k].toNat = 34) : Sc.one (s.data.toList.drop k) = Sc.oneText (s.data.toList.drop k) := by
  rw [Sc.drop_cons s k hk]; simp only [Sc.one]; rw [if_neg (by simp [hd]), if_neg (by simp [hb]), if_pos hq]
theorem Sc.one_mark (s : ByteArray) (k : Nat) (hk : k < s.size) (hd : Sc.dig s[k] = false) (hb : Sc.beg s[k] = false) (hq : s[k].toNat ≠ 34) : Sc.one (s.data.toList.drop k) = Sc.oneMark (s.data.toList.drop k) := by
  rw [Sc.drop_cons s k hk]; simp only [Sc.one]; rw [if_neg (by simp [hd]), if_neg (by simp [hb]), if_neg hq]

set_option maxHeartbeats 1000000 in
theorem one_num (s : ByteArray) (k : Nat) (w : World) (hs : s.size ≤ 1048576) (hk : k < s.size) (hd : Sc.dig s[k] = true) :
    Calls Tryd.prog 11 #[.string s, .int .i64 k] w fun e w' => e = .returned (oneOut k (Sc.one (s.data.toList.drop k))) ∧ Below w.heap.size w w' := by
  rw [Sc.one_num s k hk hd]
  obtain ⟨kd, tx, n, a, en, cd, heq⟩ := oneOut_shape k (Sc.oneNum (s.data.toList.drop k))
  have hN := fun w => number_any s k k w hs hk rfl
  rw [heq] at hN ⊢
  clear heq
  have HN := hide hN
  clear hN
  go_enter Tryd.func11, Tryd.ntmps11
  go_wp2_with (first | (go_at_call 15; refine (digit_any _ _).mono ?_; rintro e w' ⟨rfl, rfl⟩) | (go_at_call 16; refine (HN.out _).mono ?_; rintro e w1 ⟨rfl, hb⟩; obtain ⟨hc, hf⟩ := bcell hb))
  have hb0 : Below w.heap.size w w1 := ((Below.refl _ _).alloc (Nat.le_refl _) _).trans (hb.mono (by simp))
  refine bodyPost_ret (v := .tuple #[.agg #[.int .i64 kd, .string tx, .int .i64 n, .int .i64 a], .int .i64 en, .int .i64 cd]) (by simp [results, Tryd.results11, go_sem, hc]) rfl ⟨rfl, ?_⟩
  exact below4 hb0 (Nat.le_refl _)

set_option maxHeartbeats 1000000 in
theorem one_text (s : ByteArray) (k : Nat) (w : World) (hs : s.size ≤ 1048576) (hk : k < s.size) (hd : Sc.dig s[k] = false) (hbg : Sc.beg s[k] = false) (hq : ((s[k].toNat : Int) == 34) = true) :
    Calls Tryd.prog 11 #[.string s, .int .i64 k] w fun e w' => e = .returned (oneOut k (Sc.one (s.data.toList.drop k))) ∧ Below w.heap.size w w' := by
  rw [Sc.one_text s k hk hd hbg (by simp at hq; omega)]
  have htl : (s.data.toList.drop k).tail = s.data.toList.drop (k + 1) := by simp
  have ho : Sc.oneText (s.data.toList.drop k) = match Sc.unq (s.data.toList.drop (k + 1)) with
    | none => Sc.bad 4
    | some p => if 1000 < p.1.length then Sc.bad 5 else ⟨0, 4, p.1, 0, p.2 + 1⟩ := by unfold Sc.oneText; rw [htl]; rfl
  have hU := fun w => unquote_any s k k w hs hk rfl
  cases hu : Sc.unq (s.data.toList.drop (k + 1)) with
  | none =>
    rw [hu] at ho hU
    rw [ho]
    simp only [unqOut] at hU
    have HU := hide hU
    clear hU ho htl hu
    go_enter Tryd.func11, Tryd.ntmps11
    go_wp2_with (first | (go_at_call 15; refine (digit_any _ _).mono ?_; rintro e w' ⟨rfl, rfl⟩) | (go_at_call 17; refine (begins_any _ _).mono ?_; rintro e w' ⟨rfl, rfl⟩) | (go_at_call 21; refine (HU.out _).mono ?_; rintro e w1 ⟨rfl, hb⟩; obtain ⟨hc, hf⟩ := bcell hb))
    have hb0 : Below w.heap.size w w1 := ((Below.refl _ _).alloc (Nat.le_refl _) _).trans (hb.mono (by simp))
    refine bodyPost_ret (v := .tuple #[.agg #[.int .i64 0, .string ⟨#[]⟩, .int .i64 0, .int .i64 0], .int .i64 0, .int .i64 4]) (by simp [results, Tryd.results11, go_sem, hc]) rfl ⟨by rw [oneOut_bad rfl (by decide)]; rfl, ?_⟩
    exact below4 hb0 (Nat.le_refl _)
  | some p =>
    rw [hu] at ho hU
    simp only at ho
    simp only [unqOut] at hU
    have HU := hide hU
    have hus := hide (Sc.unq_size _ p.1 p.2 hu)
    clear hU htl hu
    by_cases hlong : 1000 < p.1.length
    · rw [if_pos hlong] at ho
      rw [ho]
      clear ho
      go_enter Tryd.func11, Tryd.ntmps11
      go_wp2_with (first | (go_at_call 15; refine (digit_any _ _).mono ?_; rintro e w' ⟨rfl, rfl⟩) | (go_at_call 17; refine (begins_any _ _).mono ?_; rintro e w' ⟨rfl, rfl⟩) | (go_at_call 21; refine (HU.out _).mono ?_; rintro e w1 ⟨rfl, hb⟩; obtain ⟨hc, hf⟩ := bcell hb))
      have hb0 : Below w.heap.size w w1 := ((Below.refl _ _).alloc (Nat.le_refl _) _).trans (hb.mono (by simp))
      refine bodyPost_ret (v := .tuple #[.agg #[.int .i64 0, .string ⟨#[]⟩, .int .i64 0, .int .i64 0], .int .i64 0, .int .i64 5]) (by simp [results, Tryd.results11, go_sem, hc]) rfl ⟨by rw [oneOut_bad rfl (by decide)]; rfl, ?_⟩
      exact below4 hb0 (Nat.le_refl _)
    · rw [if_neg hlong] at ho
      rw [ho]
      clear ho
      go_enter Tryd.func11, Tryd.ntmps11
      go_wp2_with (first | (go_at_call 15; refine (digit_any _ _).mono ?_; rintro e w' ⟨rfl, rfl⟩) | (go_at_call 17; refine (begins_any _ _).mono ?_; rintro e w' ⟨rfl, rfl⟩) | (go_at_call 21; refine (HU.out _).mono ?_; rintro e w1 ⟨rfl, hb⟩; obtain ⟨hc, hf⟩ := bcell hb))
      have hb0 : Below w.heap.size w w1 := ((Below.refl _ _).alloc (Nat.le_refl _) _).trans (hb.mono (by simp))
      refine bodyPost_ret (v := .tuple #[.agg #[.int .i64 4, .string ⟨p.1.toArray⟩, .int .i64 0, .int .i64 k], .int .i64 ((k : Int) + 1 + p.2), .int .i64 0]) (by simp [results, Tryd.results11, go_sem, hc]) rfl ⟨by rw [oneOut_good rfl]; simp; omega, ?_⟩
      exact below4 hb0 (Nat.le_refl _)

theorem Sc.takeWhile_take (p : UInt8 → Bool) (l : List UInt8) : l.take (l.takeWhile p).length = l.takeWhile p := by
  induction l with
  | nil => rfl
  | cons x r ih => simp only [List.takeWhile_cons]; split <;> simp [ih]

set_option maxRecDepth 100000 in
set_option maxHeartbeats 1000000 in
theorem one_name (s : ByteArray) (k : Nat) (w : World) (hs : s.size ≤ 1048576) (hk : k < s.size) (hd : Sc.dig s[k] = false) (hbg : Sc.beg s[k] = true) :
    Calls Tryd.prog 11 #[.string s, .int .i64 k] w fun e w' => e = .returned (oneOut k (Sc.one (s.data.toList.drop k))) ∧ Below w.heap.size w w' := by
  rw [Sc.one_name s k hk hd hbg]
  go_enter Tryd.func11, Tryd.ntmps11
  go_wp2_with (first | (go_at_call 15; refine (digit_any _ _).mono ?_; rintro e w' ⟨rfl, rfl⟩) | (go_at_call 17; refine (begins_any _ _).mono ?_; rintro e w' ⟨rfl, rfl⟩))
  go_loop [7] (fun t => ∃ j : Nat, k ≤ j ∧ j ≤ s.size ∧ t = .int .i64 j ∧ j + ((s.data.toList.drop j).takeWhile Sc.nm).length = k + ((s.data.toList.drop k).takeWhile Sc.nm).length) (fun t => s.size - (intOf t).toNat)
  case atStart => exact ⟨k, Nat.le_refl _, by omega, rfl, rfl⟩
  case round =>
    obtain ⟨j, hkj, hj, rfl, he⟩ := hrel
    have HE := hide he
    clear he
    by_cases hgo : ∃ h : j < s.size, Sc.nm s[j] = true
    · obtain ⟨hlt, hn⟩ := hgo
      have hdj := hide (Sc.drop_cons s j hlt)
      go_wp2_with (go_at_call 18; refine (letter_any _ _).mono ?_; rintro e w' ⟨rfl, rfl⟩)
      go_round
      case rel =>
        refine ⟨j + 1, by omega, by omega, by go_num, ?_⟩
        have e := HE.out
        rw [hdj.out, Sc.takeWhile_cons_pos hn] at e
        omega
      case measure => simp [intOf]; omega
    · have he : ((s.data.toList.drop j).takeWhile Sc.nm).length = 0 := by
        by_cases hlt : j < s.size
        · have hn : Sc.nm s[j] = false := by cases h : Sc.nm s[j] <;> simp_all
          rw [Sc.drop_cons s j hlt, Sc.takeWhile_cons_neg hn]
        · rw [List.drop_of_length_le (i := j) (by simp; omega)]; rfl
      have hx : (s.extract k j).data.toList = (s.data.toList.drop k).takeWhile Sc.nm := by
        have e := HE.out
        rw [Lib.extract_data, show j - k = ((s.data.toList.drop k).takeWhile Sc.nm).length from by omega, Sc.takeWhile_take]
      have hjk : j = k + ((s.data.toList.drop k).takeWhile Sc.nm).length := by have e := HE.out; omega
      have HX := hide hx
      have HJ := hide hjk
      clear he hx hjk
      have hend : (∃ h : j < s.size, Sc.nm s[j] = false) ∨ ¬ j < s.size := by
        by_cases hlt : j < s.size
        · left; refine ⟨hlt, ?_⟩; cases h : Sc.nm s[j] <;> simp_all
        · exact .inr hlt
      clear hgo
      have hlen : (s.extract k j).size = j - k := by simp; omega
      have HL := hide hlen
      clear hlen
      cases hw : Sc.isWord ((s.data.toList.drop k).takeWhile Sc.nm)
      · have hnw : ¬ (s.data.toList.drop k).takeWhile Sc.nm ∈ Sc.words := by simpa [Sc.isWord] using hw
        by_cases hl : 30 < j - k
        · have HO : Hid (Sc.oneName (s.data.toList.drop k) = Sc.bad 5) := hide (by have e := HJ.out; unfold Sc.oneName; rw [if_neg hnw, if_pos (by omega)])
          clear hnw
          rcases hend with ⟨hlt, hn⟩ | hlt
          all_goals
            go_wp2_with (first | (go_at_call 18; refine (letter_any _ _).mono ?_; rintro e w' ⟨rfl, rfl⟩) | (go_at_call 20; refine (words_any _).mono ?_; rintro e w1 ⟨rfl, hb, hz, hli⟩; obtain ⟨hc, hf⟩ := bcell hb; rw [World.size_alloc] at hli) | (go_at_call 19; refine (has_words (w.heap.size + 1) _ _ _ HX.out hli).mono ?_; rintro e w1 ⟨rfl, rfl⟩))
            have hb0 : Below w.heap.size w w1 := ((Below.refl _ _).alloc (Nat.le_refl _) _).trans (hb.mono (by simp))
            refine bodyPost_ret (v := .tuple #[.agg #[.int .i64 0, .string ⟨#[]⟩, .int .i64 0, .int .i64 0], .int .i64 0, .int .i64 5]) (by simp [results, Tryd.results11, go_sem, hc]) rfl ⟨by rw [oneOut_bad HO.out (by decide)]; rfl, ?_⟩
            exact below4 hb0 (Nat.le_refl _)
        · have HO : Hid (Sc.oneName (s.data.toList.drop k) = ⟨0, 1, (s.data.toList.drop k).takeWhile Sc.nm, 0, j - k⟩) := hide (by have e := HJ.out; unfold Sc.oneName; rw [if_neg hnw, if_neg (by omega), show ((s.data.toList.drop k).takeWhile Sc.nm).length = j - k from by omega])
          clear hnw
          rcases hend with ⟨hlt, hn⟩ | hlt
          all_goals
            go_wp2_with (first | (go_at_call 18; refine (letter_any _ _).mono ?_; rintro e w' ⟨rfl, rfl⟩) | (go_at_call 20; refine (words_any _).mono ?_; rintro e w1 ⟨rfl, hb, hz, hli⟩; obtain ⟨hc, hf⟩ := bcell hb; rw [World.size_alloc] at hli) | (go_at_call 19; refine (has_words (w.heap.size + 1) _ _ _ HX.out hli).mono ?_; rintro e w1 ⟨rfl, rfl⟩))
            have hb0 : Below w.heap.size w w1 := ((Below.refl _ _).alloc (Nat.le_refl _) _).trans (hb.mono (by simp))
            refine bodyPost_ret (v := .tuple #[.agg #[.int .i64 1, .string (s.extract k j), .int .i64 0, .int .i64 k], .int .i64 j, .int .i64 0]) (by simp [results, Tryd.results11, go_sem, hc]) rfl ⟨by rw [oneOut_good HO.out, ext_mk HX.out, show (k : Int) + (j - k : Nat) = j from by omega]; rfl, ?_⟩
            exact below4 hb0 (Nat.le_refl _)
      · have hnw : (s.data.toList.drop k).takeWhile Sc.nm ∈ Sc.words := by simpa [Sc.isWord] using hw
        have HO : Hid (Sc.oneName (s.data.toList.drop k) = ⟨0, 2, (s.data.toList.drop k).takeWhile Sc.nm, 0, j - k⟩) := hide (by have e := HJ.out; unfold Sc.oneName; rw [if_pos hnw, show ((s.data.toList.drop k).takeWhile Sc.nm).length = j - k from by omega])
        clear hnw
        rcases hend with ⟨hlt, hn⟩ | hlt
        all_goals
            go_wp2_with (first | (go_at_call 18; refine (letter_any _ _).mono ?_; rintro e w' ⟨rfl, rfl⟩) | (go_at_call 20; refine (words_any _).mono ?_; rintro e w1 ⟨rfl, hb, hz, hli⟩; obtain ⟨hc, hf⟩ := bcell hb; rw [World.size_alloc] at hli) | (go_at_call 19; refine (has_words (w.heap.size + 1) _ _ _ HX.out hli).mono ?_; rintro e w1 ⟨rfl, rfl⟩))
            have hb0 : Below w.heap.size w w1 := ((Below.refl _ _).alloc (Nat.le_refl _) _).trans (hb.mono (by simp))
            refine bodyPost_ret (v := .tuple #[.agg #[.int .i64 2, .string (s.extract k j), .int .i64 0, .int .i64 k], .int .i64 j, .int .i64 0]) (by simp [results, Tryd.results11, go_sem, hc]) rfl ⟨by rw [oneOut_good HO.out, ext_mk HX.out, show (k : Int) + (j - k : Nat) = j from by omega]; rfl, ?_⟩
            exact below4 hb0 (Nat.le_refl _)
end Go.Proofs.YtempkondijgdgaaDoor
