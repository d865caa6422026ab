/- What a valid tree's kids are; the program's codes and binds are the specification's. -/
import Derived.Test.YtmklgiononbmmaaDoorNa
namespace Go.Proofs.YtmklgiononbmmaaDoor
open Go.RowKit

theorem Tr.esOf_all (ns : List Tr.Nd) (ls : List Nat) (h : Tr.esOf ns ls = ls.length) : ∀ x ∈ ls, Tr.isE ns x = true := by
  induction ls with
  | nil => intro x hx; cases hx
  | cons y r ih =>
    have hle := Tr.esOf_le ns r
    rw [Tr.esOf, List.length_cons] at h
    cases hy : Tr.isE ns y
    · rw [hy] at h; simp at h; omega
    · rw [hy] at h
      simp only [if_true] at h
      intro x hx
      rcases List.mem_cons.1 hx with rfl | hx
      · exact hy
      · exact ih (by omega) x hx
theorem Tr.allK_mem (ns : List Tr.Nd) (p : Int → Bool) (ls : List Nat) (h : Tr.allK ns p ls = true) : ∀ x ∈ ls, p (Tr.kindOf ns x) = true := by
  induction ls with
  | nil => intro x hx; cases hx
  | cons y r ih =>
    rw [Tr.allK, Bool.and_eq_true] at h
    intro x hx
    rcases List.mem_cons.1 hx with rfl | hx
    · exact h.1
    · exact ih h.2 x hx
theorem Tr.firsts_mem (ns : List Tr.Nd) (ls : List Nat) : ∀ x ∈ ls, Tr.isE ns x = true ∨ x ∈ ls.drop (Tr.firsts ns ls) := by
  induction ls with
  | nil => intro x hx; cases hx
  | cons y r ih =>
    intro x hx
    cases hy : Tr.isE ns y
    · have e : Tr.firsts ns (y :: r) = 0 := by rw [Tr.firsts, hy]; rfl
      rw [e]
      exact .inr hx
    · have e : Tr.firsts ns (y :: r) = Tr.firsts ns r + 1 := by rw [Tr.firsts, hy, if_pos rfl, Nat.add_comm]
      rw [e, List.drop_succ_cons]
      rcases List.mem_cons.1 hx with rfl | hx
      · exact .inl hy
      · exact ih x hx
theorem Tr.isE_kind {ns : List Tr.Nd} {x : Nat} (h : Tr.isE ns x = true) : 1 ≤ Tr.kindOf ns x ∧ Tr.kindOf ns x ≤ 16 := by
  simpa [Tr.isE, Tr.inr] using h
theorem Tr.kidsOk_kinds {ns : List Tr.Nd} {k : Int} {ls : List Nat} (h : Tr.kidsOk ns k ls = true) (h23 : k ≠ 23) (h24 : k ≠ 24) : ∀ x ∈ ls, 1 ≤ Tr.kindOf ns x ∧ Tr.kindOf ns x ≤ 19 := by
  have hall : (Tr.esOf ns ls : Int) = ls.length → ∀ x ∈ ls, 1 ≤ Tr.kindOf ns x ∧ Tr.kindOf ns x ≤ 19 := fun e x hx => by
    have := Tr.isE_kind (Tr.esOf_all ns ls (by omega) x hx); omega
  have hin : ∀ n : Int, (ls.length : Int) = n ∧ (Tr.esOf ns ls : Int) = n → ∀ x ∈ ls, 1 ≤ Tr.kindOf ns x ∧ Tr.kindOf ns x ≤ 19 := fun n e => hall (by omega)
  unfold Tr.kidsOk at h
  by_cases c0 : k = 1 ∨ k = 2 ∨ k = 3 ∨ k = 4 ∨ k = 5
  · rw [if_pos c0] at h
    intro x hx
    have h0 : (ls.length : Int) = 0 := by simpa using h
    have : ls = [] := List.eq_nil_of_length_eq_zero (by omega)
    rw [this] at hx; cases hx
  rw [if_neg c0] at h
  by_cases c1 : k = 6 ∨ k = 11 ∨ k = 17 ∨ k = 18 ∨ k = 21 ∨ k = 22
  · rw [if_pos c1] at h
    exact hin 1 (by simpa using h)
  rw [if_neg c1] at h
  by_cases c2 : k = 7 ∨ k = 10 ∨ k = 14
  · rw [if_pos c2] at h
    exact hin 2 (by simpa using h)
  rw [if_neg c2] at h
  by_cases c3 : k = 13
  · rw [if_pos c3] at h
    exact hin 3 (by simpa using h)
  rw [if_neg c3] at h
  by_cases c4 : k = 16
  · rw [if_pos c4] at h
    rw [decide_eq_true_iff] at h; exact hall h.2
  rw [if_neg c4] at h
  by_cases c5 : k = 19
  · rw [if_pos c5] at h
    rw [decide_eq_true_iff] at h; exact hall h.2
  rw [if_neg c5] at h
  by_cases c6 : k = 8
  · rw [if_pos c6] at h
    rw [decide_eq_true_iff] at h; exact hall h.1
  rw [if_neg c6] at h
  by_cases c7 : k = 9
  · rw [if_pos c7] at h
    simp only [Bool.and_eq_true] at h
    intro x hx
    have := Tr.allK_mem ns _ ls h.1.1 x hx
    rw [beq_iff_eq] at this
    omega
  rw [if_neg c7] at h
  by_cases c8 : k = 12
  · rw [if_pos c8] at h
    simp only [Bool.and_eq_true] at h
    intro x hx
    rcases Tr.firsts_mem ns ls x hx with he | he
    · have := Tr.isE_kind he; omega
    · have := Tr.allK_mem ns _ _ h.1.1.1 x he
      rw [beq_iff_eq] at this
      omega
  rw [if_neg c8] at h
  by_cases c9 : k = 15 ∨ k = 20
  · rw [if_pos c9] at h
    simp only [Bool.and_eq_true] at h
    intro x hx
    have hne : ls ≠ [] := by intro e; rw [e] at hx; cases hx
    rw [← List.dropLast_concat_getLast hne] at hx
    rcases List.mem_append.1 hx with hx | hx
    · have := Tr.allK_mem ns _ _ h.1.1 x hx
      rw [beq_iff_eq] at this
      omega
    · have hl := h.1.2
      rw [List.getLast?_eq_some_getLast hne, Option.map_some] at hl
      have hxe : x = ls.getLast hne := by simpa using hx
      rw [← hxe] at hl
      have := Tr.isE_kind (ns := ns) (x := x) (by simpa using hl)
      omega
  rw [if_neg c9] at h
  rw [if_neg h23, if_neg h24] at h
  cases h
theorem Tr.valid_kids {ns : List Tr.Nd} (h : Tr.valid ns = true) : Tr.Kids ns (Tr.kids ns) ∧ Tr.kindOf ns (ns.length - 1) = 24 ∧ (∀ x ∈ Tr.kidsOf (Tr.kids ns) (ns.length - 1), Tr.kindOf ns x ≠ 24) ∧ ∀ k, ∀ x ∈ Tr.kidsOf (Tr.kids ns) k, x < ns.length := by
  obtain ⟨hn1, hn5, hgood, _⟩ := Tr.valid_facts h
  unfold Tr.valid at h
  simp only [Bool.and_eq_true] at h
  obtain ⟨⟨⟨_, hlk⟩, h3⟩, h4⟩ := h
  have hkl := Tr.kids_len h3
  have hok := Tr.vgo_kids ns ns (Tr.kids ns) [] h4
  have hlt := Tr.kids_lt ns
  have hmem : ∀ k, ∀ x ∈ Tr.kidsOf (Tr.kids ns) k, ∃ hk : k < (Tr.kids ns).length, x ∈ (Tr.kids ns)[k] := by
    intro k x hx
    unfold Tr.kidsOf at hx
    by_cases hk : k < (Tr.kids ns).length
    · rw [List.getElem?_eq_getElem hk] at hx; exact ⟨hk, hx⟩
    · rw [List.getElem?_eq_none (by omega)] at hx; cases hx
  have hkx : ∀ k, ∀ x ∈ Tr.kidsOf (Tr.kids ns) k, x < k ∧ k < ns.length := by
    intro k x hx
    obtain ⟨hk, hm⟩ := hmem k x hx
    exact ⟨hlt k hk x hm, by omega⟩
  have hkO : ∀ k (hk : k < ns.length), Tr.kidsOk ns (Tr.kindOf ns k) (Tr.kidsOf (Tr.kids ns) k) = true := by
    intro k hk
    have := hok k hk (by omega)
    rw [Tr.kindOf_at hk, show Tr.kidsOf (Tr.kids ns) k = (Tr.kids ns)[k]'(by omega) from by simp [Tr.kidsOf, show k < (Tr.kids ns).length by omega]]
    exact this
  have hlast : Tr.kindOf ns (ns.length - 1) = 24 := by
    have hl := hlk
    unfold Tr.lastKind at hl
    rw [List.getLast?_eq_getElem?, List.getElem?_eq_getElem (by omega)] at hl
    rw [Tr.kindOf_at (by omega)]
    simpa using hl
  refine ⟨⟨fun k x hx => (hkx k x hx).1, fun k hk x hx => ?_, fun k hk => ?_, fun k hk => ?_⟩, hlast, fun x hx => ?_, fun k x hx => by have := hkx k x hx; omega⟩
  · have := Tr.kidsOk_kinds (hkO k hk.lt) hk.a hk.b x hx
    have h2 := hkx k x hx
    exact ⟨by omega, by omega, by omega⟩
  · by_cases hk2 : k < ns.length
    · have := hkO k hk2
      rw [hk] at this
      simp [Tr.kidsOk] at this
      omega
    · rw [show Tr.kidsOf (Tr.kids ns) k = [] from by unfold Tr.kidsOf; rw [List.getElem?_eq_none (by omega)]; rfl]; simp
  · by_cases hk2 : k < ns.length
    · have := hkO k hk2
      intro x hx
      have h5 : Tr.allK ns (fun x => x == 19) (Tr.kidsOf (Tr.kids ns) k).dropLast = true := by
        rcases hk with e | e <;> (rw [e] at this; simp [Tr.kidsOk] at this; exact this.1.1)
      simpa using Tr.allK_mem ns _ _ h5 x hx
    · rw [show Tr.kidsOf (Tr.kids ns) k = [] from by unfold Tr.kidsOf; rw [List.getElem?_eq_none (by omega)]; rfl]; simp
  · have := hkO (ns.length - 1) (by omega)
    rw [hlast] at this
    simp [Tr.kidsOk] at this
    have h5 := Tr.allK_mem ns _ _ this.1 x hx
    simp [Tr.inr] at h5
    omega
theorem Tr.ilook_eq {ns : List Tr.Nd} (h : Tr.valid ns = true) : Tr.firstC (Tr.ilook ns (Tr.kids ns)).codes 0 = Tr.checkOf ns ∧ (Tr.fitsOf ns = true → (Tr.ilook ns (Tr.kids ns)).binds = Tr.bindsOf ns) := by
  obtain ⟨hK, hlast, hfile, hks⟩ := Tr.valid_kids h
  obtain ⟨hn1, _⟩ := Tr.valid_facts h
  have hR := Tr.ilook_lookS hK hn1 hlast hfile hks
  have hc : Tr.checkOf ns = Tr.firstC (Tr.lookS ns (Tr.kids ns)).codes 0 := by unfold Tr.checkOf; rw [h]; rfl
  refine ⟨by rw [hR.codes, hc], fun hf => ?_⟩
  unfold Tr.bindsOf
  rw [if_pos hf]
  refine hR.binds ?_
  have h0 : (Tr.firstC (Tr.ilook ns (Tr.kids ns)).codes 0).1 = 0 := by
    rw [hR.codes, ← hc]
    simpa [Tr.fitsOf] using hf
  exact (Tr.firstC_clean _ _).1 h0
theorem Tr.fits_codes {ns : List Tr.Nd} : Tr.fitsOf ns = true ↔ Tr.checkOf ns = (0, 0) := by
  constructor
  · intro h
    have h1 : (Tr.checkOf ns).1 = 0 := by simpa [Tr.fitsOf] using h
    have hz : ∀ (l : List Int) (i : Nat), (Tr.firstC l i).1 = 0 → Tr.firstC l i = (0, 0) := by
      intro l
      induction l with
      | nil => intro i _; rfl
      | cons c r ih =>
        intro i hc
        rw [Tr.firstC] at hc ⊢
        by_cases e : c = 0
        · rw [if_pos e] at hc ⊢; exact ih _ hc
        · rw [if_neg e] at hc; exact absurd hc e
    unfold Tr.checkOf at h1 ⊢
    split
    · rename_i hv; rw [if_pos hv] at h1; exact hz _ _ h1
    · rename_i hv; rw [if_neg hv] at h1; cases h1
  · intro h; simp [Tr.fitsOf, h]
end Go.Proofs.YtmklgiononbmmaaDoor
