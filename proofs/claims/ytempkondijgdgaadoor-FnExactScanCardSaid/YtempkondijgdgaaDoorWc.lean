/- Walks: numbers, on the specification's side. -/
import Derived.Test.YtempkondijgdgaaDoorWb
namespace Go.Proofs.YtempkondijgdgaaDoor
open Go.RowKit

namespace Sc
theorem dig_nm {b : UInt8} (h : dig b = true) : nm b = true := by simp [nm, h]
theorem takeWhile_dig (d r : List UInt8) (hd : d.all dig = true) : (d ++ r).takeWhile nm = d ++ r.takeWhile nm := by
  induction d with
  | nil => rfl
  | cons x d ih =>
    simp only [List.all_cons, Bool.and_eq_true] at hd
    simp [dig_nm hd.1, ih hd.2]
theorem oneNum_good (d r : List UInt8) (hd : d.all dig = true) (hr : r.takeWhile nm = []) (hv : numVal d ≤ 9223372036854775807) (hz : ¬ ((d ++ r).head? = some 48 ∧ 1 < d.length)) :
    oneNum (d ++ r) = ⟨0, 3, [], numVal d, d.length⟩ := by
  unfold oneNum
  rw [takeWhile_dig d r hd, hr, List.append_nil, if_pos ⟨hd, hv, hz⟩]
theorem oneNum_long (d r : List UInt8) (hd : d.all dig = true) (hr : ∃ b r', r = b :: r' ∧ nm b = true ∧ dig b = false) : oneNum (d ++ r) = bad 3 := by
  obtain ⟨b, r', rfl, hb, hc⟩ := hr
  unfold oneNum
  rw [takeWhile_dig d _ hd, if_neg]
  simp [hb, hc]
theorem oneNum_bad (d r : List UInt8) (hd : d.all dig = true) (hr : r.takeWhile nm = []) (h : 9223372036854775807 < numVal d ∨ ((d ++ r).head? = some 48 ∧ 1 < d.length)) : oneNum (d ++ r) = bad 3 := by
  unfold oneNum
  rw [takeWhile_dig d r hd, hr, List.append_nil, if_neg]
  rintro ⟨_, h1, h2⟩
  rcases h with h | h
  · omega
  · exact h2 h
theorem split_at (s : ByteArray) (k j : Nat) (hkj : k ≤ j) : s.data.toList.drop k = (s.data.toList.drop k).take (j - k) ++ s.data.toList.drop j := by
  conv => lhs; rw [← List.take_append_drop (j - k) (s.data.toList.drop k)]
  rw [List.drop_drop, show k + (j - k) = j from by omega]
theorem take_len (s : ByteArray) (k j : Nat) (hkj : k ≤ j) (hj : j ≤ s.size) : ((s.data.toList.drop k).take (j - k)).length = j - k := by
  simp; omega
theorem head_at (s : ByteArray) (k : Nat) (hk : k < s.size) : (s.data.toList.drop k).head? = some s[k] := by rw [drop_cons s k hk]; rfl
/-- What comes out of a number that ends at j. -/
theorem num_end (s : ByteArray) (k j : Nat) (hk : k < s.size) (hkj : k ≤ j) (hj : j ≤ s.size) (ha : ((s.data.toList.drop k).take (j - k)).all dig = true)
    (he : ∀ h : j < s.size, dig s[j] = false) :
    ((9223372036854775807 < numVal ((s.data.toList.drop k).take (j - k)) ∨ (s[k].toNat = 48 ∧ k + 1 < j) ∨ (∃ h : j < s.size, nm s[j] = true)) → oneNum (s.data.toList.drop k) = bad 3) ∧
    ((numVal ((s.data.toList.drop k).take (j - k)) ≤ 9223372036854775807 ∧ ¬ (s[k].toNat = 48 ∧ k + 1 < j) ∧ (∀ h : j < s.size, nm s[j] = false)) → oneNum (s.data.toList.drop k) = ⟨0, 3, [], numVal ((s.data.toList.drop k).take (j - k)), j - k⟩) := by
  have hh := head_at s k hk
  have hl := take_len s k j hkj hj
  have h48 : (s.data.toList.drop k).head? = some 48 ↔ s[k].toNat = 48 := by
    rw [hh, Option.some.injEq, ← UInt8.toNat_inj]; rfl
  have hsp := split_at s k j hkj
  generalize hd : (s.data.toList.drop k).take (j - k) = d at *
  rw [hsp] at h48 ⊢
  by_cases hlt : j < s.size
  · have hdj := drop_cons s j hlt
    cases hn : nm s[j]
    · have hr : (s.data.toList.drop j).takeWhile nm = [] := by rw [hdj]; simp [hn]
      refine ⟨fun h => oneNum_bad d _ ha hr ?_, fun h => ?_⟩
      · rcases h with h | h | ⟨_, h⟩
        · exact .inl h
        · exact .inr ⟨h48.2 h.1, by omega⟩
        · rw [hn] at h; cases h
      · rw [oneNum_good d _ ha hr h.1 (fun q => h.2.1 ⟨h48.1 q.1, by omega⟩), hl]
    · refine ⟨fun _ => oneNum_long d _ ha ⟨_, _, hdj, hn, he hlt⟩, fun h => ?_⟩
      have := h.2.2 hlt; rw [hn] at this; cases this
  · have hr : (s.data.toList.drop j).takeWhile nm = [] := by rw [List.drop_of_length_le (by simp; omega)]; rfl
    refine ⟨fun h => oneNum_bad d _ ha hr ?_, fun h => ?_⟩
    · rcases h with h | h | ⟨h, _⟩
      · exact .inl h
      · exact .inr ⟨h48.2 h.1, by omega⟩
      · exact absurd h hlt
    · rw [oneNum_good d _ ha hr h.1 (fun q => h.2.1 ⟨h48.1 q.1, by omega⟩), hl]
theorem num_le (l : List UInt8) (c : UInt8) (h : 9223372036854775807 < numVal l) : 9223372036854775807 < numVal (l ++ [c]) := by rw [numVal_snoc]; omega
theorem dig_bounds {b : UInt8} (h : dig b = true) : 48 ≤ b.toNat ∧ b.toNat ≤ 57 := by simpa [dig] using h
end Sc

/-- What l1Number and l1One hand back: the token, the place behind it, the code. -/
def oneOut (k : Nat) (r : Sc.R) : Value :=
  if r.code = 0 then .tuple #[.agg #[.int .i64 r.kind, .string ⟨r.text.toArray⟩, .int .i64 r.n, .int .i64 k], .int .i64 ((k : Int) + r.size), .int .i64 0]
  else .tuple #[.agg #[.int .i64 0, .string ⟨#[]⟩, .int .i64 0, .int .i64 0], .int .i64 0, .int .i64 r.code]
theorem oneOut_bad {k : Nat} {r : Sc.R} {c : Nat} (h : r = Sc.bad c) (hc : c ≠ 0) : oneOut k r = .tuple #[.agg #[.int .i64 0, .string ⟨#[]⟩, .int .i64 0, .int .i64 0], .int .i64 0, .int .i64 c] := by
  subst h; unfold oneOut Sc.bad; rw [if_neg hc]
theorem oneOut_good {k : Nat} {r : Sc.R} {kind n size : Nat} {text : List UInt8} (h : r = ⟨0, kind, text, n, size⟩) : oneOut k r = .tuple #[.agg #[.int .i64 kind, .string ⟨text.toArray⟩, .int .i64 n, .int .i64 k], .int .i64 ((k : Int) + size), .int .i64 0] := by
  subst h; unfold oneOut; rw [if_pos rfl]

theorem good_eq {k j n : Nat} {x : Int} (hkj : k ≤ j) (hx : x = n) :
    Ending.returned (.tuple #[.agg #[.int .i64 3, .string ⟨#[]⟩, .int .i64 x, .int .i64 k], .int .i64 j, .int .i64 0]) = .returned (.tuple #[.agg #[.int .i64 (3 : Nat), .string ⟨([] : List UInt8).toArray⟩, .int .i64 n, .int .i64 k], .int .i64 ((k : Int) + (j - k : Nat)), .int .i64 0]) := by
  rw [hx, show (k : Int) + (j - k : Nat) = j from by omega]; rfl
theorem num_wrap {x : Int} {n : Nat} {c : UInt8} (hx : x = n) (h : x ≤ 922337203685477580) (hc : 48 ≤ c.toNat ∧ c.toNat ≤ 57) :
    IntKind.u64.wrap (IntKind.u64.wrap (x * 10) + ((c.toNat : Int) - 48) % 256) = x * 10 + (c.toNat - 48) := by
  rw [IntKind.wrap_u64, IntKind.wrap_u64]; omega

set_option maxHeartbeats 1000000 in
theorem number_any (s : ByteArray) (k : Nat) (a : Int) (w : World) (hs : s.size ≤ 1048576) (hk : k < s.size) (ha : a = (k : Int)) :
    Calls Tryd.prog 16 #[.string s, .int .i64 a] w fun e w' => e = .returned (oneOut k (Sc.oneNum (s.data.toList.drop k))) ∧ Below w.heap.size w w' := by
  subst ha
  go_enter Tryd.func16, Tryd.ntmps16
  go_wp2
  go_loop [7, 8, 9] (fun en nv bg => ∃ (j : Nat) (x : Int) (b : Bool), k ≤ j ∧ j ≤ s.size ∧ en = .int .i64 j ∧ nv = .int .u64 x ∧ bg = .bool b ∧
      (((s.data.toList.drop k).take (j - k)).all Sc.dig = true) ∧ (b = false → x = Sc.numVal ((s.data.toList.drop k).take (j - k)) ∧ x ≤ 9223372036854775807) ∧ (b = true → 9223372036854775807 < Sc.numVal ((s.data.toList.drop k).take (j - k))))
    (fun en _ _ => s.size - (intOf en).toNat)
  case atStart => exact ⟨k, 0, false, Nat.le_refl _, by omega, rfl, rfl, rfl, by simp, by simp [Sc.numVal], by simp⟩
  case round =>
    obtain ⟨j, x, b, hkj, hj, rfl, rfl, rfl, hall, hf, ht⟩ := hrel
    have HA := hide hall
    have HF := hide hf
    have HT := hide ht
    clear hall hf ht
    by_cases hlt : j < s.size
    · have hts := hide (Sc.take_snoc s k j hkj hlt)
      cases hn : Sc.dig s[j]
      · have HN := hide (Sc.num_end s k j hk hkj hj HA.out (fun _ => hn))
        cases b
        · have HX := hide (HF.out rfl)
          clear HF HT
          have hx0 : 0 ≤ x := by have := HX.out.1; omega
          have hx1 : x ≤ 9223372036854775807 := HX.out.2
          cases h48 : ((s[k].toNat : Int) == 48)
          · cases hm : Sc.nm s[j]
            · have HG := hide (HN.out.2 ⟨by have := HX.out.1; omega, fun q => by simp at h48; omega, fun _ => hm⟩)
              go_wp2_with (first | (go_at_call 15; refine (digit_any _ _).mono ?_; rintro e w' ⟨rfl, rfl⟩) | (go_at_call 18; refine (letter_any _ _).mono ?_; rintro e w' ⟨rfl, rfl⟩))
              exact bodyPost_ret (v := .tuple #[.agg #[.int .i64 3, .string ⟨#[]⟩, .int .i64 x, .int .i64 k], .int .i64 j, .int .i64 0]) (by simp [results, Tryd.results16, go_sem]) rfl ⟨by rw [oneOut_good HG.out]; exact good_eq hkj HX.out.1, (Below.refl _ _).alloc (Nat.le_refl _) _⟩
            · have HB := hide (HN.out.1 (.inr (.inr ⟨hlt, hm⟩)))
              go_wp2_with (first | (go_at_call 15; refine (digit_any _ _).mono ?_; rintro e w' ⟨rfl, rfl⟩) | (go_at_call 18; refine (letter_any _ _).mono ?_; rintro e w' ⟨rfl, rfl⟩))
              exact bodyPost_ret (v := .tuple #[.agg #[.int .i64 0, .string ⟨#[]⟩, .int .i64 0, .int .i64 0], .int .i64 0, .int .i64 3]) (by simp [results, Tryd.results16, go_sem]) rfl ⟨by rw [oneOut_bad HB.out (by decide)]; rfl, (Below.refl _ _).alloc (Nat.le_refl _) _⟩
          · by_cases hz : k + 1 < j
            · have HB := hide (HN.out.1 (.inr (.inl ⟨by simp at h48; omega, hz⟩)))
              go_wp2_with (first | (go_at_call 15; refine (digit_any _ _).mono ?_; rintro e w' ⟨rfl, rfl⟩) | (go_at_call 18; refine (letter_any _ _).mono ?_; rintro e w' ⟨rfl, rfl⟩))
              exact bodyPost_ret (v := .tuple #[.agg #[.int .i64 0, .string ⟨#[]⟩, .int .i64 0, .int .i64 0], .int .i64 0, .int .i64 3]) (by simp [results, Tryd.results16, go_sem]) rfl ⟨by rw [oneOut_bad HB.out (by decide)]; rfl, (Below.refl _ _).alloc (Nat.le_refl _) _⟩
            · cases hm : Sc.nm s[j]
              · have HG := hide (HN.out.2 ⟨by have := HX.out.1; omega, fun q => hz q.2, fun _ => hm⟩)
                go_wp2_with (first | (go_at_call 15; refine (digit_any _ _).mono ?_; rintro e w' ⟨rfl, rfl⟩) | (go_at_call 18; refine (letter_any _ _).mono ?_; rintro e w' ⟨rfl, rfl⟩))
                exact bodyPost_ret (v := .tuple #[.agg #[.int .i64 3, .string ⟨#[]⟩, .int .i64 x, .int .i64 k], .int .i64 j, .int .i64 0]) (by simp [results, Tryd.results16, go_sem]) rfl ⟨by rw [oneOut_good HG.out]; exact good_eq hkj HX.out.1, (Below.refl _ _).alloc (Nat.le_refl _) _⟩
              · have HB := hide (HN.out.1 (.inr (.inr ⟨hlt, hm⟩)))
                go_wp2_with (first | (go_at_call 15; refine (digit_any _ _).mono ?_; rintro e w' ⟨rfl, rfl⟩) | (go_at_call 18; refine (letter_any _ _).mono ?_; rintro e w' ⟨rfl, rfl⟩))
                exact bodyPost_ret (v := .tuple #[.agg #[.int .i64 0, .string ⟨#[]⟩, .int .i64 0, .int .i64 0], .int .i64 0, .int .i64 3]) (by simp [results, Tryd.results16, go_sem]) rfl ⟨by rw [oneOut_bad HB.out (by decide)]; rfl, (Below.refl _ _).alloc (Nat.le_refl _) _⟩
        · have HTT := hide (HT.out rfl)
          clear HF HT
          have HB := hide (HN.out.1 (.inl HTT.out))
          go_wp2_with (first | (go_at_call 15; refine (digit_any _ _).mono ?_; rintro e w' ⟨rfl, rfl⟩) | (go_at_call 18; refine (letter_any _ _).mono ?_; rintro e w' ⟨rfl, rfl⟩))
          exact bodyPost_ret (v := .tuple #[.agg #[.int .i64 0, .string ⟨#[]⟩, .int .i64 0, .int .i64 0], .int .i64 0, .int .i64 3]) (by simp [results, Tryd.results16, go_sem]) rfl ⟨by rw [oneOut_bad HB.out (by decide)]; rfl, (Below.refl _ _).alloc (Nat.le_refl _) _⟩
      · have HD := hide (Sc.dig_bounds hn)
        cases b
        · have HX := hide (HF.out rfl)
          clear HF HT
          by_cases hx : x ≤ 922337203685477580
          · go_wp2_with (go_at_call 15; refine (digit_any _ _).mono ?_; rintro e w' ⟨rfl, rfl⟩)
            · go_round
              case rel =>
                have hw := num_wrap HX.out.1 hx HD.out
                refine ⟨j + 1, _, _, by omega, by omega, by go_num, rfl, rfl, ?_, ?_, ?_⟩
                · rw [hts.out]; simp [HA.out, hn]
                · intro h; cases h
                · intro _; rw [hts.out, Sc.numVal_snoc]; have := HX.out.1; have := HD.out; omega
              case measure => simp [intOf]; omega
            · go_round
              case rel =>
                have hw := num_wrap HX.out.1 hx HD.out
                refine ⟨j + 1, _, _, by omega, by omega, by go_num, rfl, rfl, ?_, ?_, ?_⟩
                · rw [hts.out]; simp [HA.out, hn]
                · intro _; rw [hts.out, Sc.numVal_snoc]; have := HX.out.1; have := HD.out; omega
                · intro h; cases h
              case measure => simp [intOf]; omega
          · go_wp2_with (go_at_call 15; refine (digit_any _ _).mono ?_; rintro e w' ⟨rfl, rfl⟩)
            all_goals
              go_round
              case rel =>
                refine ⟨j + 1, _, _, by omega, by omega, by go_num, rfl, rfl, ?_, ?_, ?_⟩
                · rw [hts.out]; simp [HA.out, hn]
                · intro h; cases h
                · intro _; rw [hts.out, Sc.numVal_snoc]; have := HX.out.1; omega
              case measure => simp [intOf]; omega
        · have HTT := hide (HT.out rfl)
          clear HF HT
          go_wp2_with (go_at_call 15; refine (digit_any _ _).mono ?_; rintro e w' ⟨rfl, rfl⟩)
          all_goals
            go_round
            case rel =>
              refine ⟨j + 1, _, _, by omega, by omega, by go_num, rfl, rfl, ?_, ?_, ?_⟩
              · rw [hts.out]; simp [HA.out, hn]
              · intro h; cases h
              · intro _; rw [hts.out]; exact Sc.num_le _ _ HTT.out
            case measure => simp [intOf]; omega
    · have HN := hide (Sc.num_end s k j hk hkj hj HA.out (fun h => absurd h hlt))
      cases b
      · have HX := hide (HF.out rfl)
        clear HF HT
        have hx0 : 0 ≤ x := by have := HX.out.1; omega
        have hx1 : x ≤ 9223372036854775807 := HX.out.2
        cases h48 : ((s[k].toNat : Int) == 48)
        · have HG := hide (HN.out.2 ⟨by have := HX.out.1; omega, fun q => by simp at h48; omega, fun h => absurd h hlt⟩)
          go_wp2_with (first | (go_at_call 15; refine (digit_any _ _).mono ?_; rintro e w' ⟨rfl, rfl⟩) | (go_at_call 18; refine (letter_any _ _).mono ?_; rintro e w' ⟨rfl, rfl⟩))
          exact bodyPost_ret (v := .tuple #[.agg #[.int .i64 3, .string ⟨#[]⟩, .int .i64 x, .int .i64 k], .int .i64 j, .int .i64 0]) (by simp [results, Tryd.results16, go_sem]) rfl ⟨by rw [oneOut_good HG.out]; exact good_eq hkj HX.out.1, (Below.refl _ _).alloc (Nat.le_refl _) _⟩
        · by_cases hz : k + 1 < j
          · have HB := hide (HN.out.1 (.inr (.inl ⟨by simp at h48; omega, hz⟩)))
            go_wp2_with (first | (go_at_call 15; refine (digit_any _ _).mono ?_; rintro e w' ⟨rfl, rfl⟩) | (go_at_call 18; refine (letter_any _ _).mono ?_; rintro e w' ⟨rfl, rfl⟩))
            exact bodyPost_ret (v := .tuple #[.agg #[.int .i64 0, .string ⟨#[]⟩, .int .i64 0, .int .i64 0], .int .i64 0, .int .i64 3]) (by simp [results, Tryd.results16, go_sem]) rfl ⟨by rw [oneOut_bad HB.out (by decide)]; rfl, (Below.refl _ _).alloc (Nat.le_refl _) _⟩
          · have HG := hide (HN.out.2 ⟨by have := HX.out.1; omega, fun q => hz q.2, fun h => absurd h hlt⟩)
            go_wp2_with (first | (go_at_call 15; refine (digit_any _ _).mono ?_; rintro e w' ⟨rfl, rfl⟩) | (go_at_call 18; refine (letter_any _ _).mono ?_; rintro e w' ⟨rfl, rfl⟩))
            exact bodyPost_ret (v := .tuple #[.agg #[.int .i64 3, .string ⟨#[]⟩, .int .i64 x, .int .i64 k], .int .i64 j, .int .i64 0]) (by simp [results, Tryd.results16, go_sem]) rfl ⟨by rw [oneOut_good HG.out]; exact good_eq hkj HX.out.1, (Below.refl _ _).alloc (Nat.le_refl _) _⟩
      · have HTT := hide (HT.out rfl)
        clear HF HT
        have HB := hide (HN.out.1 (.inl HTT.out))
        go_wp2_with (first | (go_at_call 15; refine (digit_any _ _).mono ?_; rintro e w' ⟨rfl, rfl⟩) | (go_at_call 18; refine (letter_any _ _).mono ?_; rintro e w' ⟨rfl, rfl⟩))
        exact bodyPost_ret (v := .tuple #[.agg #[.int .i64 0, .string ⟨#[]⟩, .int .i64 0, .int .i64 0], .int .i64 0, .int .i64 3]) (by simp [results, Tryd.results16, go_sem]) rfl ⟨by rw [oneOut_bad HB.out (by decide)]; rfl, (Below.refl _ _).alloc (Nat.le_refl _) _⟩
end Go.Proofs.YtempkondijgdgaaDoor
