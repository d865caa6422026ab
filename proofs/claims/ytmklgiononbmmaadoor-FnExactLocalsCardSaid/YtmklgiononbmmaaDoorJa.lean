/- The program's way of telling a valid tree, beside the specification's: no walk, lists alone. -/
import Derived.Test.YtmklgiononbmmaaDoorVi
import Derived.Test.YtmklgiononbmmaaDoorJd
namespace Go.Proofs.YtmklgiononbmmaaDoor
open Go.RowKit

/-- The place's node, with its height. -/
def Tr.G (ns : List Tr.Nd) (hs : List Nat) (x : Nat) : Tr.Gr := ⟨ns[x]?.getD ⟨0, 0, 0, ⟨#[]⟩, 0⟩, hs[x]?.getD 0⟩
theorem Tr.G_kind (ns : List Tr.Nd) (hs : List Nat) (x : Nat) : (Tr.G ns hs x).nd.kind = Tr.kindOf ns x := by
  unfold Tr.G Tr.kindOf
  cases h : ns[x]? <;> simp
theorem Tr.over_G (ns : List Tr.Nd) (hs : List Nat) (ls : List Nat) (h : Nat) : Tr.over (ls.map (Tr.G ns hs)) h = Tr.hmax hs ls h := by
  induction ls generalizing h with
  | nil => rfl
  | cons x r ih => simp only [List.map_cons, Tr.over, Tr.hmax]; rw [ih]; rfl
theorem Tr.between_G (ns : List Tr.Nd) (hs : List Nat) (a b : Int) (ls : List Nat) (p : Int → Bool) (hp : ∀ k, p k = (decide (a ≤ k) && decide (k ≤ b))) : Tr.between a b (ls.map (Tr.G ns hs)) = Tr.allK ns p ls := by
  induction ls with
  | nil => rfl
  | cons x r ih =>
    simp only [Tr.between, List.map_cons, List.all_cons, Tr.allK] at ih ⊢
    rw [ih, Tr.G_kind, hp]
theorem Tr.allK_E (ns : List Tr.Nd) (ls : List Nat) : Tr.allK ns (fun k => Tr.inr k 1 16) ls = decide (Tr.esOf ns ls = ls.length) := by
  induction ls with
  | nil => rfl
  | cons x r ih =>
    have h1 := Tr.esOf_le ns r
    rw [Bool.eq_iff_iff, decide_eq_true_iff]
    have e1 : Tr.allK ns (fun k => Tr.inr k 1 16) (x :: r) = (Tr.isE ns x && Tr.allK ns (fun k => Tr.inr k 1 16) r) := rfl
    have e2 : Tr.esOf ns (x :: r) = (if Tr.isE ns x = true then 1 else 0) + Tr.esOf ns r := rfl
    rw [e1, e2, ih, List.length_cons, Bool.and_eq_true, decide_eq_true_iff]
    by_cases h : Tr.isE ns x = true
    · rw [if_pos h]; simp only [h, true_and]; omega
    · rw [if_neg h]; simp only [h, Bool.false_eq_true, false_and, false_iff]; omega
theorem Tr.inr_dec (k a b : Int) : Tr.inr k a b = (decide (a ≤ k) && decide (k ≤ b)) := by unfold Tr.inr; rw [Bool.eq_iff_iff]; simp
theorem Tr.between_E (ns : List Tr.Nd) (hs : List Nat) (ls : List Nat) : Tr.between 1 16 (ls.map (Tr.G ns hs)) = decide (Tr.esOf ns ls = ls.length) := by
  rw [Tr.between_G ns hs 1 16 ls (fun k => Tr.inr k 1 16) (fun k => Tr.inr_dec k 1 16), Tr.allK_E]
theorem Tr.between_1 (ns : List Tr.Nd) (hs : List Nat) (a : Int) (ls : List Nat) : Tr.between a a (ls.map (Tr.G ns hs)) = Tr.allK ns (fun k => k == a) ls :=
  Tr.between_G ns hs a a ls _ fun k => by rw [Bool.eq_iff_iff]; simp; omega
theorem Tr.differ_G (ns : List Tr.Nd) (hs : List Nat) (ls : List Nat) (hin : ∀ x ∈ ls, x < ns.length) : Tr.differ (ls.map (Tr.G ns hs)) = Tr.apart ns ls := by
  unfold Tr.differ Tr.apart
  rw [Bool.eq_iff_iff, decide_eq_true_iff, decide_eq_true_iff, List.map_map, List.nodup_iff_pairwise_ne, List.pairwise_map, List.pairwise_iff_getElem]
  have hg : ∀ i (h : i < ls.length), ns[ls[i]]?.map (·.text) = some (Tr.G ns hs ls[i]).nd.text := by
    intro i h
    have := hin _ (List.getElem_mem h)
    simp [Tr.G, this]
  constructor
  · intro h i hi k hk e
    rw [hg i hi, hg k (by omega)] at e
    exact h k i (by omega) hi hk (Option.some.inj e)
  · intro h i j hi hj hij e
    refine h j hj i hij ?_
    rw [hg j hj, hg i hi]
    exact congrArg some e
theorem Tr.allK_append (ns : List Tr.Nd) (p : Int → Bool) (a b : List Nat) : Tr.allK ns p (a ++ b) = (Tr.allK ns p a && Tr.allK ns p b) := by
  induction a with
  | nil => simp [Tr.allK]
  | cons x r ih => simp [Tr.allK, ih, Bool.and_assoc]
theorem Tr.firsts_le (ns : List Tr.Nd) (ls : List Nat) : Tr.firsts ns ls ≤ ls.length := by
  induction ls with
  | nil => exact Nat.le_refl _
  | cons x r ih => simp only [Tr.firsts, List.length_cons]; split <;> omega
theorem Tr.firsts_take (ns : List Tr.Nd) (ls : List Nat) : Tr.allK ns (fun k => Tr.inr k 1 16) (ls.take (Tr.firsts ns ls)) = true := by
  induction ls with
  | nil => rfl
  | cons x r ih =>
    simp only [Tr.firsts]
    by_cases h : Tr.isE ns x = true
    · rw [if_pos h, Nat.add_comm, List.take_succ_cons, Tr.allK, ih]
      have h2 : Tr.inr (Tr.kindOf ns x) 1 16 = true := h
      rw [h2]; rfl
    · rw [if_neg h]; rfl
/-- Where es stand in front and then named ones, both ways of counting meet. -/
theorem Tr.firsts_eq (ns : List Tr.Nd) (ls : List Nat) (p : Nat) (hp : p ≤ ls.length) (h1 : Tr.allK ns (fun k => Tr.inr k 1 16) (ls.take p) = true) (h2 : Tr.allK ns (fun k => k == 18) (ls.drop p) = true) : Tr.firsts ns ls = p := by
  induction ls generalizing p with
  | nil => simp at hp; subst hp; rfl
  | cons x r ih =>
    match p, hp with
    | 0, _ =>
      simp only [List.drop_zero, Tr.allK, Bool.and_eq_true, beq_iff_eq] at h2
      have : Tr.isE ns x = false := by unfold Tr.isE; rw [h2.1]; rfl
      simp [Tr.firsts, this]
    | p + 1, hp =>
      simp only [List.take_succ_cons, Tr.allK, Bool.and_eq_true] at h1
      have h3 : Tr.isE ns x = true := h1.1
      have := ih p (by simpa using hp) h1.2 (by simpa using h2)
      simp [Tr.firsts, h3, this]; omega
theorem Tr.tw_named (ns : List Tr.Nd) (hs : List Nat) (ls : List Nat) : ((ls.map (Tr.G ns hs)).takeWhile fun g => g.nd.kind != 18).length = (ls.takeWhile fun x => Tr.kindOf ns x != 18).length := by
  induction ls with
  | nil => rfl
  | cons x r ih =>
    simp only [List.map_cons, List.takeWhile_cons, Tr.G_kind]
    cases (Tr.kindOf ns x != 18)
    · rfl
    · simp [ih]
theorem Tr.tw_eq (ns : List Tr.Nd) (ls : List Nat) (p : Nat) (hp : p ≤ ls.length) (h1 : Tr.allK ns (fun k => Tr.inr k 1 16) (ls.take p) = true) (h2 : Tr.allK ns (fun k => k == 18) (ls.drop p) = true) : (ls.takeWhile fun x => Tr.kindOf ns x != 18).length = p := by
  induction ls generalizing p with
  | nil => simp at hp; subst hp; rfl
  | cons x r ih =>
    match p, hp with
    | 0, _ =>
      simp only [List.drop_zero, Tr.allK, Bool.and_eq_true, beq_iff_eq] at h2
      simp [h2.1]
    | p + 1, hp =>
      simp only [List.take_succ_cons, Tr.allK, Bool.and_eq_true] at h1
      have := ih p (by simpa using hp) h1.2 (by simpa using h2)
      have h3 : (Tr.kindOf ns x != 18) = true := by
        have := Tr.inr_true h1.1
        rw [bne_iff_ne]; omega
      simp [h3, this]
theorem Tr.call_ok (ns : List Tr.Nd) (hs : List Nat) (ls : List Nat) (hin : ∀ x ∈ ls, x < ns.length) (h1 : 1 ≤ ls.length) :
    (Tr.between 1 16 ((ls.map (Tr.G ns hs)).take (Tr.plainN (ls.map (Tr.G ns hs)))) && Tr.between 18 18 ((ls.map (Tr.G ns hs)).drop (Tr.plainN (ls.map (Tr.G ns hs)))) && Tr.differ ((ls.map (Tr.G ns hs)).drop (Tr.plainN (ls.map (Tr.G ns hs))))) =
    (Tr.allK ns (fun x => x == 18) (ls.drop (Tr.firsts ns ls)) && decide (1 ≤ (Tr.firsts ns ls : Int)) && Tr.apart ns (ls.drop (Tr.firsts ns ls))) := by
  obtain ⟨x, r, rfl⟩ : ∃ x r, ls = x :: r := by
    cases ls with
    | nil => simp at h1
    | cons x r => exact ⟨x, r, rfl⟩
  have hP : Tr.plainN ((x :: r).map (Tr.G ns hs)) = 1 + (r.takeWhile fun x => Tr.kindOf ns x != 18).length := by
    unfold Tr.plainN
    rw [List.map_cons, List.drop_one, List.tail_cons, Tr.tw_named]
  rw [hP, ← List.map_take, ← List.map_drop]
  generalize hq : (r.takeWhile fun x => Tr.kindOf ns x != 18).length = q
  have hqr : q ≤ r.length := by rw [← hq]; exact (List.takeWhile_sublist _).length_le
  rw [Tr.between_G ns hs 1 16 _ (fun k => Tr.inr k 1 16) (fun k => Tr.inr_dec k 1 16), Tr.between_1, Tr.differ_G ns hs _ (fun y hy => hin y (List.mem_of_mem_drop hy))]
  rw [Bool.eq_iff_iff]
  simp only [Bool.and_eq_true, decide_eq_true_iff]
  constructor
  · rintro ⟨⟨a, b⟩, c⟩
    have e := Tr.firsts_eq ns (x :: r) (1 + q) (by simp; omega) a b
    rw [e]
    exact ⟨⟨b, by omega⟩, c⟩
  · rintro ⟨⟨a, b⟩, c⟩
    have hf := Tr.firsts_le ns (x :: r)
    have ht := Tr.firsts_take ns (x :: r)
    have e : 1 + q = Tr.firsts ns (x :: r) := by
      obtain ⟨f, hf1⟩ : ∃ f, Tr.firsts ns (x :: r) = f + 1 := ⟨Tr.firsts ns (x :: r) - 1, by omega⟩
      rw [hf1] at ht a hf
      simp only [List.take_succ_cons, Tr.allK, Bool.and_eq_true] at ht
      have := Tr.tw_eq ns r f (by simpa using hf) ht.2 (by simpa using a)
      omega
    rw [e]
    exact ⟨⟨ht, a⟩, c⟩
theorem Tr.last_ok (ns : List Tr.Nd) (hs : List Nat) (ls : List Nat) (h1 : 1 ≤ ls.length) :
    (Tr.between 19 19 ((ls.map (Tr.G ns hs)).take (ls.length - 1)) && Tr.between 1 16 ((ls.map (Tr.G ns hs)).drop (ls.length - 1))) =
    (Tr.allK ns (fun x => x == 19) ls.dropLast && (ls.getLast?.map (Tr.isE ns) == some true)) := by
  have hne : ls ≠ [] := by intro e; simp [e] at h1
  have e1 : ls.take (ls.length - 1) = ls.dropLast := (List.dropLast_eq_take).symm
  have e2 : ls.drop (ls.length - 1) = [ls.getLast hne] := by
    rw [List.drop_eq_getElem_cons (by omega), List.drop_of_length_le (by omega), List.getLast_eq_getElem]
  rw [← List.map_take, ← List.map_drop, e1, e2, Tr.between_1, Tr.between_G ns hs 1 16 _ (fun k => Tr.inr k 1 16) (fun k => Tr.inr_dec k 1 16), List.getLast?_eq_some_getLast hne]
  congr 1
  simp only [Tr.allK, Bool.and_true, Option.map_some]
  unfold Tr.isE
  cases Tr.inr (Tr.kindOf ns (ls.getLast hne)) 1 16 <;> rfl
set_option maxHeartbeats 1000000 in
theorem Tr.ok_eq (ns : List Tr.Nd) (hs : List Nat) (k : Int) (ls : List Nat) (hin : ∀ x ∈ ls, x < ns.length) : (Tr.count k ls.length && Tr.fits k (ls.map (Tr.G ns hs))) = Tr.kidsOk ns k ls := by
  have he := Tr.esOf_le ns ls
  by_cases h9 : k = 9
  · subst h9
    have c : Tr.count 9 ls.length = decide (0 ≤ (ls.length : Int) ∧ (ls.length : Int) ≤ 200) := rfl
    have f : Tr.fits 9 (ls.map (Tr.G ns hs)) = (Tr.between 17 17 (ls.map (Tr.G ns hs)) && Tr.differ (ls.map (Tr.G ns hs))) := rfl
    have g : Tr.kidsOk ns 9 ls = (Tr.allK ns (fun x => x == 17) ls && decide ((ls.length : Int) ≤ 200) && Tr.apart ns ls) := rfl
    rw [c, f, g, Tr.between_1, Tr.differ_G ns hs ls hin]
    rw [Bool.eq_iff_iff]; simp; grind
  by_cases h12 : k = 12
  · subst h12
    have c : Tr.count 12 ls.length = decide (1 ≤ (ls.length : Int) ∧ (ls.length : Int) ≤ 9) := rfl
    have g : Tr.kidsOk ns 12 ls = (Tr.allK ns (fun x => x == 18) (ls.drop (Tr.firsts ns ls)) && decide (1 ≤ (Tr.firsts ns ls : Int)) && decide ((ls.length : Int) - 1 ≤ 8) && Tr.apart ns (ls.drop (Tr.firsts ns ls))) := rfl
    have hf := Tr.firsts_le ns ls
    by_cases h1 : 1 ≤ ls.length
    · have q := Tr.call_ok ns hs ls hin h1
      have f : Tr.fits 12 (ls.map (Tr.G ns hs)) = (Tr.between 1 16 ((ls.map (Tr.G ns hs)).take (Tr.plainN (ls.map (Tr.G ns hs)))) && Tr.between 18 18 ((ls.map (Tr.G ns hs)).drop (Tr.plainN (ls.map (Tr.G ns hs)))) && Tr.differ ((ls.map (Tr.G ns hs)).drop (Tr.plainN (ls.map (Tr.G ns hs))))) := rfl
      rw [c, f, g, q]
      have e1 : decide (1 ≤ (ls.length : Int) ∧ (ls.length : Int) ≤ 9) = decide ((ls.length : Int) - 1 ≤ 8) := by rw [Bool.eq_iff_iff]; simp; omega
      rw [e1]
      cases decide ((ls.length : Int) - 1 ≤ 8) <;> simp
    · have e1 : decide (1 ≤ (ls.length : Int) ∧ (ls.length : Int) ≤ 9) = false := by simp; omega
      have e2 : decide (1 ≤ (Tr.firsts ns ls : Int)) = false := by simp; omega
      rw [c, g, e1, e2]; simp
  by_cases h15 : k = 15 ∨ k = 20
  · have c : Tr.count k ls.length = decide (1 ≤ (ls.length : Int) ∧ (ls.length : Int) ≤ 9) := by rcases h15 with rfl | rfl <;> rfl
    have g : Tr.kidsOk ns k ls = (Tr.allK ns (fun x => x == 19) ls.dropLast && (ls.getLast?.map (Tr.isE ns) == some true) && decide ((ls.length : Int) - 1 ≤ 8)) := by rcases h15 with rfl | rfl <;> rfl
    have f : Tr.fits k (ls.map (Tr.G ns hs)) = (Tr.between 19 19 ((ls.map (Tr.G ns hs)).take ((ls.map (Tr.G ns hs)).length - 1)) && Tr.between 1 16 ((ls.map (Tr.G ns hs)).drop ((ls.map (Tr.G ns hs)).length - 1))) := by rcases h15 with rfl | rfl <;> rfl
    rw [List.length_map] at f
    by_cases h1 : 1 ≤ ls.length
    · rw [c, f, g, Tr.last_ok ns hs ls h1]
      have e1 : decide (1 ≤ (ls.length : Int) ∧ (ls.length : Int) ≤ 9) = decide ((ls.length : Int) - 1 ≤ 8) := by rw [Bool.eq_iff_iff]; simp; omega
      rw [e1]
      cases decide ((ls.length : Int) - 1 ≤ 8) <;> simp
    · have e1 : decide (1 ≤ (ls.length : Int) ∧ (ls.length : Int) ≤ 9) = false := by simp; omega
      have e0 : ls = [] := List.eq_nil_of_length_eq_zero (by omega)
      rw [c, g, e1, e0]; simp
  by_cases h23 : k = 23
  · subst h23
    have c : Tr.count 23 ls.length = decide (1 ≤ (ls.length : Int) ∧ (ls.length : Int) ≤ 200) := rfl
    have f : Tr.fits 23 (ls.map (Tr.G ns hs)) = Tr.between 5 5 (ls.map (Tr.G ns hs)) := rfl
    have g : Tr.kidsOk ns 23 ls = (Tr.allK ns (fun x => x == 5) ls && Tr.inr ls.length 1 200) := rfl
    rw [c, f, g, Tr.between_1, Tr.inr_dec, Bool.decide_and, Bool.and_comm]
  by_cases h24 : k = 24
  · subst h24
    have c : Tr.count 24 ls.length = decide (0 ≤ (ls.length : Int) ∧ (ls.length : Int) ≤ 200) := rfl
    have f : Tr.fits 24 (ls.map (Tr.G ns hs)) = Tr.between 20 23 (ls.map (Tr.G ns hs)) := rfl
    have g : Tr.kidsOk ns 24 ls = (Tr.allK ns (fun x => Tr.inr x 20 23) ls && decide ((ls.length : Int) ≤ 200)) := rfl
    rw [c, f, g, Tr.between_G ns hs 20 23 _ (fun k => Tr.inr k 20 23) (fun k => Tr.inr_dec k 20 23)]
    rw [Bool.eq_iff_iff]; simp; grind
  have f : Tr.fits k (ls.map (Tr.G ns hs)) = decide (Tr.esOf ns ls = ls.length) := by
    unfold Tr.fits
    rw [if_neg h9, if_neg h12, if_neg h15, if_neg h23, if_neg h24, Tr.between_E]
  rw [f]
  unfold Tr.count Tr.kidsOk
  simp only [h9, h12, h23, h24, if_false, false_or, or_false]
  have h15' := not_or.1 h15
  simp only [h15'.1, h15'.2, if_false, or_self]
  by_cases a1 : k = 1 ∨ k = 2 ∨ k = 3 ∨ k = 4 ∨ k = 5
  · simp only [a1, if_true]; rw [Bool.eq_iff_iff]; simp only [Bool.and_eq_true, decide_eq_true_iff]; omega
  simp only [a1, if_false]
  by_cases a2 : k = 6 ∨ k = 11 ∨ k = 17 ∨ k = 18 ∨ k = 21 ∨ k = 22
  · simp only [a2, if_true]; rw [Bool.eq_iff_iff]; simp only [Bool.and_eq_true, decide_eq_true_iff]; omega
  simp only [a2, if_false]
  by_cases a3 : k = 7 ∨ k = 10 ∨ k = 14
  · simp only [a3, if_true]; rw [Bool.eq_iff_iff]; simp only [Bool.and_eq_true, decide_eq_true_iff]; omega
  simp only [a3, if_false]
  by_cases a4 : k = 13
  · simp only [a4, if_true]; rw [Bool.eq_iff_iff]; simp only [Bool.and_eq_true, decide_eq_true_iff]; omega
  simp only [a4, if_false]
  by_cases a5 : k = 16
  · simp only [a5, if_true]; rw [Bool.eq_iff_iff]; simp only [Bool.and_eq_true, decide_eq_true_iff]; omega
  simp only [a5, if_false]
  by_cases a6 : k = 19
  · simp only [a6, if_true]; rw [Bool.eq_iff_iff]; simp only [Bool.and_eq_true, decide_eq_true_iff]; omega
  simp only [a6, if_false]
  by_cases a7 : k = 8
  · simp only [a7, if_true]; rw [Bool.eq_iff_iff]; simp only [Bool.and_eq_true, decide_eq_true_iff]; omega
  simp only [a7, if_false]
  rw [Bool.eq_iff_iff]; simp only [Bool.and_eq_true, decide_eq_true_iff, Bool.false_eq_true, iff_false]; omega
end Go.Proofs.YtmklgiononbmmaaDoor
