/- The order of values is total: the plain mathematics. -/
import Derived.Test.YtfpdoafpimaoaaaOb
namespace Go.Proofs.Ytfpdoafpimaoaaa.Vl
open Go.RowKit T.atoms T.ok T.high T.good T.allPlain DatAt T.ord

theorem less_tot : ∀ a b : List UInt8, (Go.Op.bytesLess a b || (a == b)) = !Go.Op.bytesLess b a
  | [], [] => rfl
  | [], _ :: _ => rfl
  | _ :: _, [] => rfl
  | x :: a, y :: b => by
    have ih := less_tot a b
    simp only [Go.Op.bytesLess, List.cons_beq_cons]
    have h3 : x < y ∨ x = y ∨ y < x := by
      rcases Nat.lt_trichotomy x.toNat y.toNat with h | h | h
      · exact .inl (UInt8.lt_iff_toNat_lt.2 h)
      · exact .inr (.inl (UInt8.toNat_inj.1 h))
      · exact .inr (.inr (UInt8.lt_iff_toNat_lt.2 h))
    rcases h3 with h | h | h
    · have h1 : ¬ y < x := UInt8.lt_asymm h
      have h2 : ¬ y = x := fun e => by subst e; exact UInt8.lt_irrefl _ h
      simp [h, h1, h2]
    · subst h
      have h1 : ¬ x < x := UInt8.lt_irrefl _
      simpa [h1] using ih
    · have h1 : ¬ x < y := UInt8.lt_asymm h
      have h2 : ¬ x = y := fun e => by subst e; exact UInt8.lt_irrefl _ h
      simp [h, h1, h2]
theorem less_self : ∀ a : List UInt8, Go.Op.bytesLess a a = false
  | [] => rfl
  | x :: a => by
    have ih := less_self a
    simp [Go.Op.bytesLess, UInt8.lt_irrefl, ih]
theorem less_trans : ∀ a b c : List UInt8, Go.Op.bytesLess a b = true → Go.Op.bytesLess b c = true → Go.Op.bytesLess a c = true
  | [], [], _, h, _ => by simp [Go.Op.bytesLess] at h
  | [], _ :: _, [], _, h => by simp [Go.Op.bytesLess] at h
  | [], _ :: _, _ :: _, _, _ => by simp [Go.Op.bytesLess]
  | _ :: _, [], _, h, _ => by simp [Go.Op.bytesLess] at h
  | _ :: _, _ :: _, [], _, h => by simp [Go.Op.bytesLess] at h
  | x :: a, y :: b, z :: c, h1, h2 => by
    have ih := less_trans a b c
    simp only [Go.Op.bytesLess, Bool.or_eq_true, Bool.and_eq_true, decide_eq_true_eq, beq_iff_eq] at h1 h2 ⊢
    have lt : ∀ p q : UInt8, p < q ↔ p.toNat < q.toNat := fun p q => UInt8.lt_iff_toNat_lt
    have eq : ∀ p q : UInt8, p = q ↔ p.toNat = q.toNat := fun p q => UInt8.toNat_inj.symm
    simp only [lt, eq] at h1 h2 ⊢
    rcases h1 with h1 | ⟨h1, h1'⟩
    · rcases h2 with h2 | ⟨h2, _⟩ <;> exact .inl (by omega)
    · rcases h2 with h2 | ⟨h2, h2'⟩
      · exact .inl (by omega)
      · exact .inr ⟨by omega, ih h1' h2'⟩

theorem cmpI_anti (a b : Int) : cmpI b a = -cmpI a b := by
  unfold cmpI cmpB
  by_cases h : a = b
  · subst h; simp
  · have h2 : ¬ b = a := fun e => h e.symm
    by_cases h3 : a < b
    · have h4 : ¬ b < a := by omega
      simp [h, h2, h3, h4]
    · have h4 : b < a := by omega
      simp [h, h2, h3, h4]
theorem cmpK_anti (a b : Int) (h : a ≠ b) : cmpB (decide (b < a)) false = -cmpB (decide (a < b)) false := by
  unfold cmpB
  by_cases h3 : a < b
  · have h4 : ¬ b < a := by omega
    simp [h3, h4]
  · have h4 : b < a := by omega
    simp [h3, h4]
theorem cmpS_anti (a b : ByteArray) : cmpS b a = -cmpS a b := by
  unfold cmpS cmpB slt
  have t1 := less_tot a.toList b.toList
  have t2 := less_tot b.toList a.toList
  by_cases h : a.toList = b.toList
  · rw [h]; simp
  · have h1 : (a.toList == b.toList) = false := by simpa using h
    have h2 : (b.toList == a.toList) = false := by simpa using fun e => h e.symm
    rw [h1, Bool.or_false] at t1
    rw [h1, h2, t1]
    cases Go.Op.bytesLess b.toList a.toList <;> simp
theorem cmpI_zero {a b : Int} (h : cmpI a b = 0) : a = b := by
  unfold cmpI cmpB at h
  by_cases e : a = b
  · exact e
  · exfalso
    have h1 : (a == b) = false := by simpa using e
    rw [h1] at h
    by_cases h3 : a < b <;> simp [h3] at h
theorem cmpS_zero {a b : ByteArray} (h : cmpS a b = 0) : a = b := by
  unfold cmpS cmpB at h
  by_cases e : a.toList = b.toList
  · rw [Lib.toList_data, Lib.toList_data] at e
    obtain ⟨⟨x⟩⟩ := a
    obtain ⟨⟨y⟩⟩ := b
    simp at e
    rw [e]
  · exfalso
    have h1 : (a.toList == b.toList) = false := by simpa using e
    rw [h1] at h
    cases h3 : slt a b <;> simp [h3] at h
theorem cmpI_less {a b : Int} : cmpI a b = -1 ↔ a < b := by
  unfold cmpI cmpB
  by_cases e : a = b
  · subst e; simp
  · have h1 : (a == b) = false := by simpa using e
    rw [h1]
    by_cases h3 : a < b <;> simp [h3]
theorem cmpS_less {a b : ByteArray} : cmpS a b = -1 ↔ Go.Op.bytesLess a.toList b.toList = true := by
  unfold cmpS cmpB slt
  by_cases e : a.toList = b.toList
  · rw [e, less_self]; simp
  · have h1 : (a.toList == b.toList) = false := by simpa using e
    rw [h1]
    cases Go.Op.bytesLess a.toList b.toList <;> simp
theorem cmpK_less {a b : Int} : cmpB (decide (a < b)) false = -1 ↔ a < b := by
  unfold cmpB
  by_cases h3 : a < b <;> simp [h3]

theorem ord_anti (a b : T) : b.ord a = -a.ord b := by
  cases a with
  | mk k n s ks =>
    cases b with
    | mk k' n' s' ks' =>
      rw [T.ord, T.ord]
      by_cases hk : k = k'
      · subst hk
        have hkk : ¬ (k ≠ k) := fun h => h rfl
        rw [if_neg hkk, if_neg hkk]
        by_cases h2 : k = 2 ∨ k = 3
        · rw [if_pos h2, if_pos h2]; exact cmpI_anti _ _
        · rw [if_neg h2, if_neg h2]
          by_cases h4 : k = 4
          · rw [if_pos h4, if_pos h4]; exact cmpS_anti _ _
          · rw [if_neg h4, if_neg h4]; exact antiL ks ks'
      · rw [if_pos hk, if_pos (fun e => hk e.symm)]
        exact cmpK_anti _ _ hk
  where
  antiL (p q : List T) : ordL q p = -ordL p q := by
    match p, q with
    | [], [] => simp [ordL, cmpB]
    | [], _ :: _ => simp [ordL, cmpB]
    | _ :: _, [] => simp [ordL, cmpB]
    | a :: r, b :: r' =>
      rw [ordL, ordL, ord_anti a b]
      by_cases h : a.ord b = 0
      · rw [h]; simpa using antiL r r'
      · rw [if_pos h, if_pos (by omega)]

theorem plain_parts {k n : Int} {s : ByteArray} {ks : List T} (h : plain k n s ks = true) : (¬ (k = 2 ∨ k = 3) → n = 0) ∧ (¬ k = 4 → s = ⟨#[]⟩) ∧ (¬ (k = 5 ∨ k = 6) → ks = []) := by
  unfold plain at h
  simp only [Bool.and_eq_true, Bool.or_eq_true, beq_iff_eq] at h
  obtain ⟨⟨⟨h1, h2⟩, h3⟩, _⟩ := h
  refine ⟨fun q => ?_, fun q => ?_, fun q => ?_⟩
  · rcases h1 with (h1 | h1) | h1
    · exact absurd (.inl h1) q
    · exact absurd (.inr h1) q
    · exact h1
  · rcases h2 with h2 | h2
    · exact absurd h2 q
    · obtain ⟨⟨l⟩⟩ := s
      cases l with
      | nil => rfl
      | cons a r => exact absurd h2 (by show ¬ (a :: r).length = 0; simp)
  · rcases h3 with (h3 | h3) | h3
    · exact absurd (.inl h3) q
    · exact absurd (.inr h3) q
    · exact List.eq_nil_of_length_eq_zero h3

theorem ord_zero (a b : T) (ga : a.good = true) (gb : b.good = true) (h : a.ord b = 0) : a = b := by
  cases a with
  | mk k n s ks =>
    cases b with
    | mk k' n' s' ks' =>
      rw [T.good_eq] at ga gb
      simp only [T.kind, T.num, T.text, T.ks, Bool.and_eq_true] at ga gb
      obtain ⟨p1, p2, p3⟩ := plain_parts ga.1.1
      obtain ⟨q1, q2, q3⟩ := plain_parts gb.1.1
      rw [T.ord] at h
      by_cases hk : k = k'
      · subst hk
        rw [if_neg (by simp)] at h
        by_cases h2 : k = 2 ∨ k = 3
        · rw [if_pos h2] at h
          rw [cmpI_zero h, p2 (by omega), q2 (by omega), p3 (by omega), q3 (by omega)]
        · rw [if_neg h2] at h
          by_cases h4 : k = 4
          · rw [if_pos h4] at h
            rw [cmpS_zero h, p1 h2, q1 h2, p3 (by omega), q3 (by omega)]
          · rw [if_neg h4] at h
            rw [p1 h2, q1 h2, p2 h4, q2 h4, zeroL ks ks' ga.2 gb.2 h]
      · rw [if_pos hk] at h
        exfalso
        unfold cmpB at h
        by_cases h3 : k < k' <;> simp [h3] at h
  where
  zeroL (p q : List T) (gp : goodL p = true) (gq : goodL q = true) (h : ordL p q = 0) : p = q := by
    match p, q with
    | [], [] => rfl
    | [], _ :: _ => simp [ordL, cmpB] at h
    | _ :: _, [] => simp [ordL] at h
    | a :: r, b :: r' =>
      simp only [goodL, Bool.and_eq_true] at gp gq
      rw [ordL] at h
      by_cases h0 : a.ord b = 0
      · rw [if_neg (by simpa using h0)] at h
        rw [ord_zero a b gp.1 gq.1 h0, zeroL r r' gp.2 gq.2 h]
      · rw [if_pos h0] at h; exact absurd h h0

theorem ord_trans (a b c : T) (ga : a.good = true) (gb : b.good = true) (gc : c.good = true) (h1 : a.ord b = -1) (h2 : b.ord c = -1) : a.ord c = -1 := by
  cases a with
  | mk k n s ks =>
    cases b with
    | mk k' n' s' ks' =>
      cases c with
      | mk k2 n2 s2 ks2 =>
        rw [T.good_eq] at ga gb gc
        simp only [T.kind, T.num, T.text, T.ks, Bool.and_eq_true] at ga gb gc
        rw [T.ord] at h1 h2 ⊢
        by_cases hk : k = k'
        · subst hk
          rw [if_neg (by simp)] at h1
          by_cases hk2 : k = k2
          · subst hk2
            rw [if_neg (by simp)] at h2 ⊢
            by_cases h23 : k = 2 ∨ k = 3
            · rw [if_pos h23] at h1 h2 ⊢
              rw [cmpI_less] at h1 h2 ⊢; omega
            · rw [if_neg h23] at h1 h2 ⊢
              by_cases h4 : k = 4
              · rw [if_pos h4] at h1 h2 ⊢
                rw [cmpS_less] at h1 h2 ⊢; exact less_trans _ _ _ h1 h2
              · rw [if_neg h4] at h1 h2 ⊢
                exact transL ks ks' ks2 ga.2 gb.2 gc.2 h1 h2
          · rw [if_pos hk2] at h2 ⊢
            exact h2
        · rw [if_pos hk] at h1
          rw [cmpK_less] at h1
          by_cases hk2 : k' = k2
          · subst hk2
            rw [if_pos hk, cmpK_less]; exact h1
          · rw [if_pos hk2, cmpK_less] at h2
            rw [if_pos (by omega), cmpK_less]; omega
  where
  transL (p q r : List T) (gp : goodL p = true) (gq : goodL q = true) (gr : goodL r = true) (h1 : ordL p q = -1) (h2 : ordL q r = -1) : ordL p r = -1 := by
    match p, q, r with
    | [], [], _ => simp [ordL, cmpB] at h1
    | [], _ :: _, [] => simp [ordL] at h2
    | [], _ :: _, _ :: _ => simp [ordL, cmpB]
    | _ :: _, [], _ => simp [ordL] at h1
    | _ :: _, _ :: _, [] => simp [ordL] at h2
    | a :: x, b :: y, c :: z =>
      simp only [goodL, Bool.and_eq_true] at gp gq gr
      rw [ordL] at h1 h2 ⊢
      by_cases e1 : a.ord b = 0
      · rw [if_neg (by simpa using e1)] at h1
        obtain rfl := ord_zero a b gp.1 gq.1 e1
        by_cases e2 : a.ord c = 0
        · rw [if_neg (by simpa using e2)] at h2 ⊢
          exact transL x y z gp.2 gq.2 gr.2 h1 h2
        · rw [if_pos e2] at h2 ⊢; exact h2
      · rw [if_pos e1] at h1
        by_cases e2 : b.ord c = 0
        · obtain rfl := ord_zero b c gq.1 gr.1 e2
          rw [if_pos e1]; exact h1
        · rw [if_pos e2] at h2
          have := ord_trans a b c gp.1 gq.1 gr.1 h1 h2
          rw [this]; simp

theorem ordOf_anti (l l' : List At) : ordOf l' l = -ordOf l l' := by
  by_cases h1 : valid l = true
  · by_cases h2 : valid l' = true
    · obtain ⟨t, ht, _, _⟩ := valid_tree h1
      obtain ⟨t', ht', _, _⟩ := valid_tree h2
      rw [ordOf_yes h1 h2 ht ht', ordOf_yes h2 h1 ht' ht]; exact ord_anti _ _
    · rw [ordOf_no (by simp at h2; simp [h2]), ordOf_no (by simp at h2; simp [h2])]; rfl
  · rw [ordOf_no (by simp at h1; simp [h1]), ordOf_no (by simp at h1; simp [h1])]; rfl
theorem ordOf_zero {l l' : List At} (h1 : valid l = true) (h2 : valid l' = true) : ordOf l l' = 0 ↔ l = l' := by
  obtain ⟨t, ht, g, _⟩ := valid_tree h1
  obtain ⟨t', ht', g', _⟩ := valid_tree h2
  rw [ordOf_yes h1 h2 ht ht']
  constructor
  · intro h
    rw [treeOf_some ht, treeOf_some ht', ord_zero t t' g g' h]
  · intro h
    subst h
    rw [ht] at ht'
    cases ht'
    have := ord_anti t t
    omega
theorem ordOf_range (l l' : List At) : ordOf l l' = -1 ∨ ordOf l l' = 0 ∨ ordOf l l' = 1 := by
  by_cases h1 : valid l = true
  · by_cases h2 : valid l' = true
    · obtain ⟨t, ht, _, _⟩ := valid_tree h1
      obtain ⟨t', ht', _, _⟩ := valid_tree h2
      rw [ordOf_yes h1 h2 ht ht']; exact ord_range _ _
    · rw [ordOf_no (by simp at h2; simp [h2])]; simp
  · rw [ordOf_no (by simp at h1; simp [h1])]; simp
theorem ordOf_less {a b c : List At} (h1 : valid a = true) (h2 : valid b = true) (h3 : valid c = true) (x : ordOf a b = -1) (y : ordOf b c = -1) : ordOf a c = -1 := by
  obtain ⟨t, ht, g, _⟩ := valid_tree h1
  obtain ⟨t', ht', g', _⟩ := valid_tree h2
  obtain ⟨u, hu, gu, _⟩ := valid_tree h3
  rw [ordOf_yes h1 h2 ht ht'] at x
  rw [ordOf_yes h2 h3 ht' hu] at y
  rw [ordOf_yes h1 h3 ht hu]
  exact ord_trans t t' u g g' gu x y
theorem ordOf_most {a b c : List At} (h1 : valid a = true) (h2 : valid b = true) (h3 : valid c = true) (x : ordOf a b ≤ 0) (y : ordOf b c ≤ 0) : ordOf a c ≤ 0 := by
  by_cases e1 : ordOf a b = 0
  · obtain rfl := (ordOf_zero h1 h2).1 e1; exact y
  · by_cases e2 : ordOf b c = 0
    · obtain rfl := (ordOf_zero h2 h3).1 e2; exact x
    · have r1 := ordOf_range a b
      have r2 := ordOf_range b c
      have := ordOf_less h1 h2 h3 (by omega) (by omega)
      omega
theorem ordOf_least {a b c : List At} (h1 : valid a = true) (h2 : valid b = true) (h3 : valid c = true) (x : 0 ≤ ordOf a b) (y : 0 ≤ ordOf b c) : 0 ≤ ordOf a c := by
  have e1 := ordOf_anti a b
  have e2 := ordOf_anti b c
  have e3 := ordOf_anti a c
  have := ordOf_most h3 h2 h1 (by omega) (by omega)
  omega
end Go.Proofs.Ytfpdoafpimaoaaa.Vl
