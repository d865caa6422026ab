/- Ja, Jf. -/
import Derived.Test.YtfjoecbkagedbaaGreatDoorY15
import Derived.Test.YtfjoecbkagedbaaGreatDoorY37
namespace Go.Proofs.YtfjoecbkagedbaaGreatDoor
open Go.RowKit

/-- The place's node, with its height. -/
def Tr.G (ns : List Tr.Nd) (hs : List Nat) (x : Nat) : Tr.Gr := ⟨ns[x]?.getD ⟨0, 0, 0, ⟨#[]⟩, 0⟩, hs[x]?.getD 0⟩
theorem Tr.G_kind (ns : List Tr.Nd) (hs : List Nat) (x : Nat) : (Tr.G ns hs x).nd.kind = Tr.kindOf ns x := by
  unfold Tr.G Tr.kindOf
  cases h : ns[x]? <;> simp
theorem Tr.over_G (ns : List Tr.Nd) (hs : List Nat) (ls : List Nat) (h : Nat) : Tr.over (ls.map (Tr.G ns hs)) h = Tr.hmax hs ls h := by
  induction ls generalizing h with
  | nil => rfl
  | cons x r ih => simp only [List.map_cons, Tr.over, Tr.hmax]; rw [ih]; rfl
theorem Tr.between_G (ns : List Tr.Nd) (hs : List Nat) (a b : Int) (ls : List Nat) (p : Int → Bool) (hp : ∀ k, p k = (decide (a ≤ k) && decide (k ≤ b))) : Tr.between a b (ls.map (Tr.G ns hs)) = Tr.allK ns p ls := by
  induction ls with
  | nil => rfl
  | cons x r ih =>
    simp only [Tr.between, List.map_cons, List.all_cons, Tr.allK] at ih ⊢
    rw [ih, Tr.G_kind, hp]
theorem Tr.allK_E (ns : List Tr.Nd) (ls : List Nat) : Tr.allK ns (fun k => Tr.inr k 1 16) ls = decide (Tr.esOf ns ls = ls.length) := by
  induction ls with
  | nil => rfl
  | cons x r ih =>
    have h1 := Tr.esOf_le ns r
    rw [Bool.eq_iff_iff, decide_eq_true_iff]
    have e1 : Tr.allK ns (fun k => Tr.inr k 1 16) (x :: r) = (Tr.isE ns x && Tr.allK ns (fun k => Tr.inr k 1 16) r) := rfl
    have e2 : Tr.esOf ns (x :: r) = (if Tr.isE ns x = true then 1 else 0) + Tr.esOf ns r := rfl
    rw [e1, e2, ih, List.length_cons, Bool.and_eq_true, decide_eq_true_iff]
    by_cases h : Tr.isE ns x = true
    · rw [if_pos h]; simp only [h, true_and]; omega
    · rw [if_neg h]; simp only [h, Bool.false_eq_true, false_and, false_iff]; omega
theorem Tr.inr_dec (k a b : Int) : Tr.inr k a b = (decide (a ≤ k) && decide (k ≤ b)) := by unfold Tr.inr; rw [Bool.eq_iff_iff]; simp
theorem Tr.between_E (ns : List Tr.Nd) (hs : List Nat) (ls : List Nat) : Tr.between 1 16 (ls.map (Tr.G ns hs)) = decide (Tr.esOf ns ls = ls.length) := by
  rw [Tr.between_G ns hs 1 16 ls (fun k => Tr.inr k 1 16) (fun k => Tr.inr_dec k 1 16), Tr.allK_E]
theorem Tr.between_1 (ns : List Tr.Nd) (hs : List Nat) (a : Int) (ls : List Nat) : Tr.between a a (ls.map (Tr.G ns hs)) = Tr.allK ns (fun k => k == a) ls :=
  Tr.between_G ns hs a a ls _ fun k => by rw [Bool.eq_iff_iff]; simp; omega
theorem Tr.differ_G (ns : List Tr.Nd) (hs : List Nat) (ls : List Nat) (hin : ∀ x ∈ ls, x < ns.length) : Tr.differ (ls.map (Tr.G ns hs)) = Tr.apart ns ls := by
  unfold Tr.differ Tr.apart
  rw [Bool.eq_iff_iff, decide_eq_true_iff, decide_eq_true_iff, List.map_map, List.nodup_iff_pairwise_ne, List.pairwise_map, List.pairwise_iff_getElem]
  have hg : ∀ i (h : i < ls.length), ns[ls[i]]?.map (·.text) = some (Tr.G ns hs ls[i]).nd.text := by
    intro i h
    have := hin _ (List.getElem_mem h)
    simp [Tr.G, this]
  constructor
  · intro h i hi k hk e
    rw [hg i hi, hg k (by omega)] at e
    exact h k i (by omega) hi hk (Option.some.inj e)
  · intro h i j hi hj hij e
    refine h j hj i hij ?_
    rw [hg j hj, hg i hi]
    exact congrArg some e
theorem Tr.allK_append (ns : List Tr.Nd) (p : Int → Bool) (a b : List Nat) : Tr.allK ns p (a ++ b) = (Tr.allK ns p a && Tr.allK ns p b) := by
  induction a with
  | nil => simp [Tr.allK]
  | cons x r ih => simp [Tr.allK, ih, Bool.and_assoc]
theorem Tr.firsts_le (ns : List Tr.Nd) (ls : List Nat) : Tr.firsts ns ls ≤ ls.length := by
  induction ls with
  | nil => exact Nat.le_refl _
  | cons x r ih => simp only [Tr.firsts, List.length_cons]; split <;> omega
theorem Tr.firsts_take (ns : List Tr.Nd) (ls : List Nat) : Tr.allK ns (fun k => Tr.inr k 1 16) (ls.take (Tr.firsts ns ls)) = true := by
  induction ls with
  | nil => rfl
  | cons x r ih =>
    simp only [Tr.firsts]
    by_cases h : Tr.isE ns x = true
    · rw [if_pos h, Nat.add_comm, List.take_succ_cons, Tr.allK, ih]
      have h2 : Tr.inr (Tr.kindOf ns x) 1 16 = true := h
      rw [h2]; rfl
    · rw [if_neg h]; rfl
/-- Where es stand in front and then named ones, both ways of counting meet. -/
theorem Tr.firsts_eq (ns : List Tr.Nd) (ls : List Nat) (p : Nat) (hp : p ≤ ls.length) (h1 : Tr.allK ns (fun k => Tr.inr k 1 16) (ls.take p) = true) (h2 : Tr.allK ns (fun k => k == 18) (ls.drop p) = true) : Tr.firsts ns ls = p := by
  induction ls generalizing p with
  | nil => simp at hp; subst hp; rfl
  | cons x r ih =>
    match p, hp with
    | 0, _ =>
      simp only [List.drop_zero, Tr.allK, Bool.and_eq_true, beq_iff_eq] at h2
      have : Tr.isE ns x = false := by unfold Tr.isE; rw [h2.1]; rfl
      simp [Tr.firsts, this]
    | p + 1, hp =>
      simp only [List.take_succ_cons, Tr.allK, Bool.and_eq_true] at h1
      have h3 : Tr.isE ns x = true := h1.1
      have := ih p (by simpa using hp) h1.2 (by simpa using h2)
      simp [Tr.firsts, h3, this]; omega
theorem Tr.tw_named (ns : List Tr.Nd) (hs : List Nat) (ls : List Nat) : ((ls.map (Tr.G ns hs)).takeWhile fun g => g.nd.kind != 18).length = (ls.takeWhile fun x => Tr.kindOf ns x != 18).length := by
  induction ls with
  | nil => rfl
  | cons x r ih =>
    simp only [List.map_cons, List.takeWhile_cons, Tr.G_kind]
    cases (Tr.kindOf ns x != 18)
    · rfl
    · simp [ih]
theorem Tr.tw_eq (ns : List Tr.Nd) (ls : List Nat) (p : Nat) (hp : p ≤ ls.length) (h1 : Tr.allK ns (fun k => Tr.inr k 1 16) (ls.take p) = true) (h2 : Tr.allK ns (fun k => k == 18) (ls.drop p) = true) : (ls.takeWhile fun x => Tr.kindOf ns x != 18).length = p := by
  induction ls generalizing p with
  | nil => simp at hp; subst hp; rfl
  | cons x r ih =>
    match p, hp with
    | 0, _ =>
      simp only [List.drop_zero, Tr.allK, Bool.and_eq_true, beq_iff_eq] at h2
      simp [h2.1]
    | p + 1, hp =>
      simp only [List.take_succ_cons, Tr.allK, Bool.and_eq_true] at h1
      have := ih p (by simpa using hp) h1.2 (by simpa using h2)
      have h3 : (Tr.kindOf ns x != 18) = true := by
        have := Tr.inr_true h1.1
        rw [bne_iff_ne]; omega
      simp [h3, this]
theorem Tr.call_ok (ns : List Tr.Nd) (hs : List Nat) (ls : List Nat) (hin : ∀ x ∈ ls, x < ns.length) (h1 : 1 ≤ ls.length) :
    (Tr.between 1 16 ((ls.map (Tr.G ns hs)).take (Tr.plainN (ls.map (Tr.G ns hs)))) && Tr.between 18 18 ((ls.map (Tr.G ns hs)).drop (Tr.plainN (ls.map (Tr.G ns hs)))) && Tr.differ ((ls.map (Tr.G ns hs)).drop (Tr.plainN (ls.map (Tr.G ns hs))))) =
    (Tr.allK ns (fun x => x == 18) (ls.drop (Tr.firsts ns ls)) && decide (1 ≤ (Tr.firsts ns ls : Int)) && Tr.apart ns (ls.drop (Tr.firsts ns ls))) := by
  obtain ⟨x, r, rfl⟩ : ∃ x r, ls = x :: r := by
    cases ls with
    | nil => simp at h1
    | cons x r => exact ⟨x, r, rfl⟩
  have hP : Tr.plainN ((x :: r).map (Tr.G ns hs)) = 1 + (r.takeWhile fun x => Tr.kindOf ns x != 18).length := by
    unfold Tr.plainN
    rw [List.map_cons, List.drop_one, List.tail_cons, Tr.tw_named]
  rw [hP, ← List.map_take, ← List.map_drop]
  generalize hq : (r.takeWhile fun x => Tr.kindOf ns x != 18).length = q
  have hqr : q ≤ r.length := by rw [← hq]; exact (List.takeWhile_sublist _).length_le
  rw [Tr.between_G ns hs 1 16 _ (fun k => Tr.inr k 1 16) (fun k => Tr.inr_dec k 1 16), Tr.between_1, Tr.differ_G ns hs _ (fun y hy => hin y (List.mem_of_mem_drop hy))]
  rw [Bool.eq_iff_iff]
  simp only [Bool.and_eq_true, decide_eq_true_iff]
  constructor
  · rintro ⟨⟨a, b⟩, c⟩
    have e := Tr.firsts_eq ns (x :: r) (1 + q) (by simp; omega) a b
    rw [e]
    exact ⟨⟨b, by omega⟩, c⟩
  · rintro ⟨⟨a, b⟩, c⟩
    have hf := Tr.firsts_le ns (x :: r)
    have ht := Tr.firsts_take ns (x :: r)
    have e : 1 + q = Tr.firsts ns (x :: r) := by
      obtain ⟨f, hf1⟩ : ∃ f, Tr.firsts ns (x :: r) = f + 1 := ⟨Tr.firsts ns (x :: r) - 1, by omega⟩
      rw [hf1] at ht a hf
      simp only [List.take_succ_cons, Tr.allK, Bool.and_eq_true] at ht
      have := Tr.tw_eq ns r f (by simpa using hf) ht.2 (by simpa using a)
      omega
    rw [e]
    exact ⟨⟨ht, a⟩, c⟩
theorem Tr.last_ok (ns : List Tr.Nd) (hs : List Nat) (ls : List Nat) (h1 : 1 ≤ ls.length) :
    (Tr.between 19 19 ((ls.map (Tr.G ns hs)).take (ls.length - 1)) && Tr.between 1 16 ((ls.map (Tr.G ns hs)).drop (ls.length - 1))) =
    (Tr.allK ns (fun x => x == 19) ls.dropLast && (ls.getLast?.map (Tr.isE ns) == some true)) := by
  have hne : ls ≠ [] := by intro e; simp [e] at h1
  have e1 : ls.take (ls.length - 1) = ls.dropLast := (List.dropLast_eq_take).symm
  have e2 : ls.drop (ls.length - 1) = [ls.getLast hne] := by
    rw [List.drop_eq_getElem_cons (by omega), List.drop_of_length_le (by omega), List.getLast_eq_getElem]
  rw [← List.map_take, ← List.map_drop, e1, e2, Tr.between_1, Tr.between_G ns hs 1 16 _ (fun k => Tr.inr k 1 16) (fun k => Tr.inr_dec k 1 16), List.getLast?_eq_some_getLast hne]
  congr 1
  simp only [Tr.allK, Bool.and_true, Option.map_some]
  unfold Tr.isE
  cases Tr.inr (Tr.kindOf ns (ls.getLast hne)) 1 16 <;> rfl
set_option maxHeartbeats 1000000 in
theorem Tr.ok_eq (ns : List Tr.Nd) (hs : List Nat) (k : Int) (ls : List Nat) (hin : ∀ x ∈ ls, x < ns.length) : (Tr.count k ls.length && Tr.fits k (ls.map (Tr.G ns hs))) = Tr.kidsOk ns k ls := by
  have he := Tr.esOf_le ns ls
  by_cases h9 : k = 9
  · subst h9
    have c : Tr.count 9 ls.length = decide (0 ≤ (ls.length : Int) ∧ (ls.length : Int) ≤ 200) := rfl
    have f : Tr.fits 9 (ls.map (Tr.G ns hs)) = (Tr.between 17 17 (ls.map (Tr.G ns hs)) && Tr.differ (ls.map (Tr.G ns hs))) := rfl
    have g : Tr.kidsOk ns 9 ls = (Tr.allK ns (fun x => x == 17) ls && decide ((ls.length : Int) ≤ 200) && Tr.apart ns ls) := rfl
    rw [c, f, g, Tr.between_1, Tr.differ_G ns hs ls hin]
    rw [Bool.eq_iff_iff]; simp; grind
  by_cases h12 : k = 12
  · subst h12
    have c : Tr.count 12 ls.length = decide (1 ≤ (ls.length : Int) ∧ (ls.length : Int) ≤ 9) := rfl
    have g : Tr.kidsOk ns 12 ls = (Tr.allK ns (fun x => x == 18) (ls.drop (Tr.firsts ns ls)) && decide (1 ≤ (Tr.firsts ns ls : Int)) && decide ((ls.length : Int) - 1 ≤ 8) && Tr.apart ns (ls.drop (Tr.firsts ns ls))) := rfl
    have hf := Tr.firsts_le ns ls
    by_cases h1 : 1 ≤ ls.length
    · have q := Tr.call_ok ns hs ls hin h1
      have f : Tr.fits 12 (ls.map (Tr.G ns hs)) = (Tr.between 1 16 ((ls.map (Tr.G ns hs)).take (Tr.plainN (ls.map (Tr.G ns hs)))) && Tr.between 18 18 ((ls.map (Tr.G ns hs)).drop (Tr.plainN (ls.map (Tr.G ns hs)))) && Tr.differ ((ls.map (Tr.G ns hs)).drop (Tr.plainN (ls.map (Tr.G ns hs))))) := rfl
      rw [c, f, g, q]
      have e1 : decide (1 ≤ (ls.length : Int) ∧ (ls.length : Int) ≤ 9) = decide ((ls.length : Int) - 1 ≤ 8) := by rw [Bool.eq_iff_iff]; simp; omega
      rw [e1]
      cases decide ((ls.length : Int) - 1 ≤ 8) <;> simp
    · have e1 : decide (1 ≤ (ls.length : Int) ∧ (ls.length : Int) ≤ 9) = false := by simp; omega
      have e2 : decide (1 ≤ (Tr.firsts ns ls : Int)) = false := by simp; omega
      rw [c, g, e1, e2]; simp
  by_cases h15 : k = 15 ∨ k = 20
  · have c : Tr.count k ls.length = decide (1 ≤ (ls.length : Int) ∧ (ls.length : Int) ≤ 9) := by rcases h15 with rfl | rfl <;> rfl
    have g : Tr.kidsOk ns k ls = (Tr.allK ns (fun x => x == 19) ls.dropLast && (ls.getLast?.map (Tr.isE ns) == some true) && decide ((ls.length : Int) - 1 ≤ 8)) := by rcases h15 with rfl | rfl <;> rfl
    have f : Tr.fits k (ls.map (Tr.G ns hs)) = (Tr.between 19 19 ((ls.map (Tr.G ns hs)).take ((ls.map (Tr.G ns hs)).length - 1)) && Tr.between 1 16 ((ls.map (Tr.G ns hs)).drop ((ls.map (Tr.G ns hs)).length - 1))) := by rcases h15 with rfl | rfl <;> rfl
    rw [List.length_map] at f
    by_cases h1 : 1 ≤ ls.length
    · rw [c, f, g, Tr.last_ok ns hs ls h1]
      have e1 : decide (1 ≤ (ls.length : Int) ∧ (ls.length : Int) ≤ 9) = decide ((ls.length : Int) - 1 ≤ 8) := by rw [Bool.eq_iff_iff]; simp; omega
      rw [e1]
      cases decide ((ls.length : Int) - 1 ≤ 8) <;> simp
    · have e1 : decide (1 ≤ (ls.length : Int) ∧ (ls.length : Int) ≤ 9) = false := by simp; omega
      have e0 : ls = [] := List.eq_nil_of_length_eq_zero (by omega)
      rw [c, g, e1, e0]; simp
  by_cases h23 : k = 23
  · subst h23
    have c : Tr.count 23 ls.length = decide (1 ≤ (ls.length : Int) ∧ (ls.length : Int) ≤ 200) := rfl
    have f : Tr.fits 23 (ls.map (Tr.G ns hs)) = Tr.between 5 5 (ls.map (Tr.G ns hs)) := rfl
    have g : Tr.kidsOk ns 23 ls = (Tr.allK ns (fun x => x == 5) ls && Tr.inr ls.length 1 200) := rfl
    rw [c, f, g, Tr.between_1, Tr.inr_dec, Bool.decide_and, Bool.and_comm]
  by_cases h24 : k = 24
  · subst h24
    have c : Tr.count 24 ls.length = decide (0 ≤ (ls.length : Int) ∧ (ls.length : Int) ≤ 200) := rfl
    have f : Tr.fits 24 (ls.map (Tr.G ns hs)) = Tr.between 20 23 (ls.map (Tr.G ns hs)) := rfl
    have g : Tr.kidsOk ns 24 ls = (Tr.allK ns (fun x => Tr.inr x 20 23) ls && decide ((ls.length : Int) ≤ 200)) := rfl
    rw [c, f, g, Tr.between_G ns hs 20 23 _ (fun k => Tr.inr k 20 23) (fun k => Tr.inr_dec k 20 23)]
    rw [Bool.eq_iff_iff]; simp; grind
  have f : Tr.fits k (ls.map (Tr.G ns hs)) = decide (Tr.esOf ns ls = ls.length) := by
    unfold Tr.fits
    rw [if_neg h9, if_neg h12, if_neg h15, if_neg h23, if_neg h24, Tr.between_E]
  rw [f]
  unfold Tr.count Tr.kidsOk
  simp only [h9, h12, h23, h24, if_false, false_or, or_false]
  have h15' := not_or.1 h15
  simp only [h15'.1, h15'.2, if_false, or_self]
  by_cases a1 : k = 1 ∨ k = 2 ∨ k = 3 ∨ k = 4 ∨ k = 5
  · simp only [a1, if_true]; rw [Bool.eq_iff_iff]; simp only [Bool.and_eq_true, decide_eq_true_iff]; omega
  simp only [a1, if_false]
  by_cases a2 : k = 6 ∨ k = 11 ∨ k = 17 ∨ k = 18 ∨ k = 21 ∨ k = 22
  · simp only [a2, if_true]; rw [Bool.eq_iff_iff]; simp only [Bool.and_eq_true, decide_eq_true_iff]; omega
  simp only [a2, if_false]
  by_cases a3 : k = 7 ∨ k = 10 ∨ k = 14
  · simp only [a3, if_true]; rw [Bool.eq_iff_iff]; simp only [Bool.and_eq_true, decide_eq_true_iff]; omega
  simp only [a3, if_false]
  by_cases a4 : k = 13
  · simp only [a4, if_true]; rw [Bool.eq_iff_iff]; simp only [Bool.and_eq_true, decide_eq_true_iff]; omega
  simp only [a4, if_false]
  by_cases a5 : k = 16
  · simp only [a5, if_true]; rw [Bool.eq_iff_iff]; simp only [Bool.and_eq_true, decide_eq_true_iff]; omega
  simp only [a5, if_false]
  by_cases a6 : k = 19
  · simp only [a6, if_true]; rw [Bool.eq_iff_iff]; simp only [Bool.and_eq_true, decide_eq_true_iff]; omega
  simp only [a6, if_false]
  by_cases a7 : k = 8
  · simp only [a7, if_true]; rw [Bool.eq_iff_iff]; simp only [Bool.and_eq_true, decide_eq_true_iff]; omega
  simp only [a7, if_false]
  rw [Bool.eq_iff_iff]; simp only [Bool.and_eq_true, decide_eq_true_iff, Bool.false_eq_true, iff_false]; omega
end Go.Proofs.YtfjoecbkagedbaaGreatDoor
namespace Go.Proofs.YtfjoecbkagedbaaGreatDoor
open Go.RowKit

/-- All checks but that on the heights; the heights that come. -/
def Tr.vgoN (ns : List Tr.Nd) : List (Tr.Nd × List Nat) → Bool
  | [] => true
  | (d, k) :: r => Tr.plain d && Tr.kidsOk ns d.kind k && Tr.vgoN ns r
def Tr.hrun : List (List Nat) → List Nat → List Nat
  | [], hs => hs
  | k :: r, hs => Tr.hrun r (hs ++ [Tr.hmax hs k 0])
theorem Tr.hrun_pre (ks : List (List Nat)) (hs : List Nat) : ∃ t, Tr.hrun ks hs = hs ++ t ∧ t.length = ks.length := by
  induction ks generalizing hs with
  | nil => exact ⟨[], by simp [Tr.hrun]⟩
  | cons k r ih =>
    obtain ⟨t, h1, h2⟩ := ih (hs ++ [Tr.hmax hs k 0])
    exact ⟨Tr.hmax hs k 0 :: t, by rw [Tr.hrun, h1]; simp, by simp [h2]⟩
theorem Tr.vgo_eq (ns : List Tr.Nd) (ds : List Tr.Nd) (ks : List (List Nat)) (hs : List Nat) (h : ds.length = ks.length) (h50 : ∀ x ∈ hs, x ≤ 50) :
    (Tr.vgo ns (ds.zip ks) hs = true) ↔ (Tr.vgoN ns (ds.zip ks) = true ∧ ∀ x ∈ Tr.hrun ks hs, x ≤ 50) := by
  induction ds generalizing ks hs with
  | nil =>
    cases ks with
    | nil => simp [Tr.vgo, Tr.vgoN, Tr.hrun]; exact h50
    | cons k r => simp at h
  | cons d r ih =>
    cases ks with
    | nil => simp at h
    | cons k t =>
      simp only [List.zip_cons_cons, Tr.vgo, Tr.vgoN, Tr.hrun, Bool.and_eq_true]
      by_cases hc : 50 < Tr.hmax hs k 0
      · have e : (!decide (50 < Tr.hmax hs k 0)) = false := by simp [hc]
        rw [e]
        simp only [Bool.false_eq_true, false_and, false_iff]
        rintro ⟨_, q⟩
        obtain ⟨u, h1, _⟩ := Tr.hrun_pre t (hs ++ [Tr.hmax hs k 0])
        have := q (Tr.hmax hs k 0) (by rw [h1]; simp)
        omega
      · have e : (!decide (50 < Tr.hmax hs k 0)) = true := by simp; omega
        rw [e, ih t (hs ++ [Tr.hmax hs k 0]) (by simpa using h) (fun x hx => by
          rcases List.mem_append.1 hx with hx | hx
          · exact h50 x hx
          · have : x = Tr.hmax hs k 0 := by simpa using hx
            omega)]
        simp only [true_and, and_assoc]
theorem Tr.G_more (ns : List Tr.Nd) (hs : List Nat) (y x : Nat) (h : x < hs.length) : Tr.G ns (hs ++ [y]) x = Tr.G ns hs x := by
  unfold Tr.G; rw [List.getElem?_append_left h]
/-- The open nodes that the program keeps are those that the specification keeps the places of. -/
theorem Tr.irun_eq (ns : List Tr.Nd) : ∀ (m i : Nat) (op hs : List Nat), m = ns.length - i → i ≤ ns.length → hs.length = i → (∀ x ∈ op, x < i) →
    Tr.irun (ns.drop i) (op.map (Tr.G ns hs)) = match (Tr.krun (ns.drop i) i op).2 with
      | none => none
      | some fin => if Tr.vgoN ns ((ns.drop i).zip (Tr.krun (ns.drop i) i op).1) = true then some (fin.map (Tr.G ns (Tr.hrun (Tr.krun (ns.drop i) i op).1 hs))) else none := by
  intro m
  induction m with
  | zero =>
    intro i op hs hm hi hl hop
    have e : ns.drop i = [] := List.drop_of_length_le (by omega)
    rw [e]; rfl
  | succ m ih =>
    intro i op hs hm hi hl hop
    have hlt : i < ns.length := by omega
    rw [List.drop_eq_getElem_cons hlt]
    by_cases hk : ns[i].kids < 0 ∨ (op.length : Int) < ns[i].kids
    · rw [Tr.irun, if_pos (by rw [List.length_map]; exact hk), Tr.krun, if_pos hk]
    · obtain ⟨k, hk1⟩ : ∃ k : Nat, ns[i].kids = k := ⟨ns[i].kids.toNat, by omega⟩
      rw [Tr.irun, if_neg (by rw [List.length_map]; exact hk), Tr.krun, if_neg hk]
      have hsub : (op.map (Tr.G ns hs)).length - ns[i].kids.toNat = op.length - ns[i].kids.toNat := by rw [List.length_map]
      rw [hsub]
      generalize hq : op.length - ns[i].kids.toNat = q
      have hql : (op.drop q).length = k := by simp; omega
      have hin : ∀ x ∈ op.drop q, x < ns.length := fun x hx => Nat.lt_trans (hop x (List.mem_of_mem_drop hx)) hlt
      rw [← List.map_drop, ← List.map_take]
      have hok : Tr.nodeOk ns[i] ((op.drop q).map (Tr.G ns hs)) = (Tr.plain ns[i] && Tr.kidsOk ns ns[i].kind (op.drop q)) := by
        unfold Tr.nodeOk
        rw [Bool.and_assoc, hk1, ← hql, Tr.ok_eq ns hs _ _ hin]
      rw [hok]
      have hmap : (op.take q).map (Tr.G ns hs) ++ [(⟨ns[i], Tr.over ((op.drop q).map (Tr.G ns hs)) 0⟩ : Tr.Gr)] = (op.take q ++ [i]).map (Tr.G ns (hs ++ [Tr.hmax hs (op.drop q) 0])) := by
        rw [List.map_append]
        congr 1
        · apply List.map_congr_left
          intro x hx
          rw [Tr.G_more _ _ _ _ (by rw [hl]; exact hop x (List.mem_of_mem_take hx))]
        · have h3 : Tr.G ns (hs ++ [Tr.hmax hs (op.drop q) 0]) i = ⟨ns[i], Tr.hmax hs (op.drop q) 0⟩ := by
            unfold Tr.G
            rw [List.getElem?_eq_getElem hlt, List.getElem?_append_right (by omega), hl, Nat.sub_self]; rfl
          rw [Tr.over_G, List.map_cons, List.map_nil, h3]
      have hnext := ih (i + 1) (op.take q ++ [i]) (hs ++ [Tr.hmax hs (op.drop q) 0]) (by omega) (by omega) (by simp [hl]) (fun x hx => by
        rcases List.mem_append.1 hx with hx | hx
        · have := hop x (List.mem_of_mem_take hx); omega
        · have : x = i := by simpa using hx
          omega)
      simp only [List.zip_cons_cons, Tr.vgoN, Tr.hrun]
      by_cases hc : (Tr.plain ns[i] && Tr.kidsOk ns ns[i].kind (op.drop q)) = true
      · rw [if_pos hc, hmap, hnext]
        simp only [hc, Bool.true_and]
      · rw [if_neg hc]
        have hc2 : (Tr.plain ns[i] && Tr.kidsOk ns ns[i].kind (op.drop q)) = false := by simpa using hc
        simp only [hc2, Bool.false_and, Bool.false_eq_true, if_false]
        cases (Tr.krun (ns.drop (i + 1)) (i + 1) (op.take q ++ [i])).2 <;> rfl
theorem Tr.hmax_ge (hs ls : List Nat) (h : Nat) : h ≤ Tr.hmax hs ls h ∧ ∀ x ∈ ls, hs[x]?.getD 0 + 1 ≤ Tr.hmax hs ls h := by
  induction ls generalizing h with
  | nil => simp [Tr.hmax]
  | cons y r ih =>
    rw [Tr.hmax]
    have q := ih (if h < hs[y]?.getD 0 + 1 then hs[y]?.getD 0 + 1 else h)
    have g1 : h ≤ (if h < hs[y]?.getD 0 + 1 then hs[y]?.getD 0 + 1 else h) ∧ hs[y]?.getD 0 + 1 ≤ (if h < hs[y]?.getD 0 + 1 then hs[y]?.getD 0 + 1 else h) := by split <;> omega
    refine ⟨by omega, fun x hx => ?_⟩
    rcases List.mem_cons.1 hx with rfl | hx
    · omega
    · exact q.2 x hx
/-- Every height is at most that of an open node. -/
theorem Tr.high_open (ds : List Tr.Nd) : ∀ (i : Nat) (op hs : List Nat), hs.length = i → (∀ x ∈ op, x < i) → (∀ y ∈ hs, ∃ x ∈ op, y ≤ hs[x]?.getD 0) →
    ∀ fin, (Tr.krun ds i op).2 = some fin → ∀ y ∈ Tr.hrun (Tr.krun ds i op).1 hs, ∃ x ∈ fin, y ≤ (Tr.hrun (Tr.krun ds i op).1 hs)[x]?.getD 0 := by
  induction ds with
  | nil =>
    intro i op hs _ _ h fin hf
    simp only [Tr.krun, Option.some.injEq] at hf
    subst hf
    exact h
  | cons d r ih =>
    intro i op hs hl hop h fin hf
    by_cases hk : d.kids < 0 ∨ (op.length : Int) < d.kids
    · rw [Tr.krun, if_pos hk] at hf; cases hf
    · rw [Tr.krun, if_neg hk] at hf ⊢
      generalize hq : op.length - d.kids.toNat = q at *
      simp only [Tr.hrun]
      refine ih (i + 1) (op.take q ++ [i]) (hs ++ [Tr.hmax hs (op.drop q) 0]) (by simp [hl]) ?_ ?_ fin hf
      · intro x hx
        rcases List.mem_append.1 hx with hx | hx
        · have := hop x (List.mem_of_mem_take hx); omega
        · have : x = i := by simpa using hx
          omega
      · intro y hy
        have hnew : (hs ++ [Tr.hmax hs (op.drop q) 0])[i]?.getD 0 = Tr.hmax hs (op.drop q) 0 := by simp [← hl]
        rcases List.mem_append.1 hy with hy | hy
        · obtain ⟨x, hx, hle⟩ := h y hy
          have hxl : x < hs.length := by rw [hl]; exact hop x hx
          rw [← List.take_append_drop q op] at hx
          rcases List.mem_append.1 hx with hx | hx
          · exact ⟨x, by simp [hx], by rw [List.getElem?_append_left hxl]; exact hle⟩
          · have := (Tr.hmax_ge hs (op.drop q) 0).2 x hx
            exact ⟨i, by simp, by rw [hnew]; omega⟩
        · have : y = Tr.hmax hs (op.drop q) 0 := by simpa using hy
          exact ⟨i, by simp, by rw [hnew]; omega⟩
/-- The last node stays open. -/
theorem Tr.krun_last (ds : List Tr.Nd) : ∀ (i : Nat) (op : List Nat), (ds = [] → op.getLast? = some (i - 1) ∧ 1 ≤ i) → ∀ fin, (Tr.krun ds i op).2 = some fin → fin.getLast? = some (i + ds.length - 1) := by
  induction ds with
  | nil =>
    intro i op h fin hf
    simp only [Tr.krun, Option.some.injEq] at hf
    subst hf
    simpa using (h rfl).1
  | cons d r ih =>
    intro i op h fin hf
    by_cases hk : d.kids < 0 ∨ (op.length : Int) < d.kids
    · rw [Tr.krun, if_pos hk] at hf; cases hf
    · rw [Tr.krun, if_neg hk] at hf
      have := ih (i + 1) _ (fun _ => ⟨by simp, by omega⟩) fin hf
      rw [this, List.length_cons]
      congr 1; omega
theorem Tr.ivalid_eq (ns : List Tr.Nd) : Tr.ivalid ns = Tr.valid ns := by
  have hI := Tr.irun_eq ns ns.length 0 [] [] (by simp) (Nat.zero_le _) rfl (fun x h => by cases h)
  rw [List.drop_zero, List.map_nil] at hI
  unfold Tr.ivalid Tr.valid
  by_cases h0 : ns = []
  · subst h0; rfl
  have hpos : 1 ≤ ns.length := by
    cases ns with
    | nil => exact absurd rfl h0
    | cons x r => simp
  have e1 : Tr.inr ns.length 1 5000 = decide (ns.length ≤ 5000) := by unfold Tr.inr; rw [Bool.eq_iff_iff]; simp; omega
  rw [e1, hI, Bool.and_assoc, Bool.and_assoc]
  congr 1
  have hkg : Tr.kidsGood ns = match (Tr.krun ns 0 []).2 with
    | none => false
    | some op => op.length == 1 := rfl
  have hkd : Tr.kids ns = (Tr.krun ns 0 []).1 := rfl
  have hlen := Tr.krun_len ns 0 []
  have hho := Tr.high_open ns 0 [] [] rfl (fun x h => by cases h) (fun x h => by cases h)
  have hla := Tr.krun_last ns 0 [] (fun h => absurd h h0)
  rw [hkg, hkd]
  generalize hkr : Tr.krun ns 0 [] = kr at *
  obtain ⟨ks, fo⟩ := kr
  cases fo with
  | none => simp [Tr.iend]
  | some fin =>
    have hkl : ks.length = ns.length := hlen.2 (by simp)
    have hv := Tr.vgo_eq ns ns ks [] hkl.symm (fun x h => by cases h)
    have hlast := hla fin rfl
    have hhigh := hho fin rfl
    simp only at hv hhigh ⊢
    match fin, hlast with
    | [r], hlast =>
      have hr : r = ns.length - 1 := by simpa using hlast
      have hlk : Tr.lastKind ns = (Tr.G ns (Tr.hrun ks []) r).nd.kind := by
        rw [Tr.G_kind, hr]
        unfold Tr.lastKind Tr.kindOf
        rw [List.getLast?_eq_getElem?]
        cases ns[ns.length - 1]? <;> rfl
      have hmem : (Tr.hrun ks [])[r]?.getD 0 ∈ Tr.hrun ks [] := by
        obtain ⟨t, h1, h2⟩ := Tr.hrun_pre ks []
        have hl : r < (Tr.hrun ks []).length := by rw [h1]; simp; omega
        rw [List.getElem?_eq_getElem hl]
        exact List.getElem_mem hl
      have hall : (∀ x ∈ Tr.hrun ks [], x ≤ 50) ↔ (Tr.G ns (Tr.hrun ks []) r).high ≤ 50 := by
        constructor
        · intro h; exact h _ hmem
        · intro h x hx
          obtain ⟨y, hy, hle⟩ := hhigh x hx
          have : y = r := by simpa using hy
          subst this
          exact Nat.le_trans hle h
      rw [hlk]
      by_cases hN : Tr.vgoN ns (ns.zip ks) = true
      · rw [if_pos hN]
        simp only [List.map_cons, List.map_nil, Tr.iend]
        rw [Bool.eq_iff_iff]
        simp only [Bool.and_eq_true, decide_eq_true_iff, hv, hall, hN, true_and]
        simp
      · rw [if_neg hN]
        have : Tr.vgo ns (ns.zip ks) [] = false := by
          rw [Bool.eq_false_iff]
          intro h
          exact hN (hv.1 h).1
        simp [Tr.iend, this]
    | [], hlast => simp at hlast
    | a :: b :: t, _ =>
      have e2 : ((a :: b :: t).length == 1) = false := by simp
      rw [e2]
      simp only [Bool.false_and, Bool.and_false]
      split <;> simp [Tr.iend]
end Go.Proofs.YtfjoecbkagedbaaGreatDoor
