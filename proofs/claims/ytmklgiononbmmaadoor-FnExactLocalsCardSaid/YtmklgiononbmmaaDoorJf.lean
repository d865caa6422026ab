/- The program's way of telling a valid tree answers as the specification's: lists alone. -/
import Derived.Test.YtmklgiononbmmaaDoorJa
namespace Go.Proofs.YtmklgiononbmmaaDoor
open Go.RowKit

/-- All checks but that on the heights; the heights that come. -/
def Tr.vgoN (ns : List Tr.Nd) : List (Tr.Nd × List Nat) → Bool
  | [] => true
  | (d, k) :: r => Tr.plain d && Tr.kidsOk ns d.kind k && Tr.vgoN ns r
def Tr.hrun : List (List Nat) → List Nat → List Nat
  | [], hs => hs
  | k :: r, hs => Tr.hrun r (hs ++ [Tr.hmax hs k 0])
theorem Tr.hrun_pre (ks : List (List Nat)) (hs : List Nat) : ∃ t, Tr.hrun ks hs = hs ++ t ∧ t.length = ks.length := by
  induction ks generalizing hs with
  | nil => exact ⟨[], by simp [Tr.hrun]⟩
  | cons k r ih =>
    obtain ⟨t, h1, h2⟩ := ih (hs ++ [Tr.hmax hs k 0])
    exact ⟨Tr.hmax hs k 0 :: t, by rw [Tr.hrun, h1]; simp, by simp [h2]⟩
theorem Tr.vgo_eq (ns : List Tr.Nd) (ds : List Tr.Nd) (ks : List (List Nat)) (hs : List Nat) (h : ds.length = ks.length) (h50 : ∀ x ∈ hs, x ≤ 50) :
    (Tr.vgo ns (ds.zip ks) hs = true) ↔ (Tr.vgoN ns (ds.zip ks) = true ∧ ∀ x ∈ Tr.hrun ks hs, x ≤ 50) := by
  induction ds generalizing ks hs with
  | nil =>
    cases ks with
    | nil => simp [Tr.vgo, Tr.vgoN, Tr.hrun]; exact h50
    | cons k r => simp at h
  | cons d r ih =>
    cases ks with
    | nil => simp at h
    | cons k t =>
      simp only [List.zip_cons_cons, Tr.vgo, Tr.vgoN, Tr.hrun, Bool.and_eq_true]
      by_cases hc : 50 < Tr.hmax hs k 0
      · have e : (!decide (50 < Tr.hmax hs k 0)) = false := by simp [hc]
        rw [e]
        simp only [Bool.false_eq_true, false_and, false_iff]
        rintro ⟨_, q⟩
        obtain ⟨u, h1, _⟩ := Tr.hrun_pre t (hs ++ [Tr.hmax hs k 0])
        have := q (Tr.hmax hs k 0) (by rw [h1]; simp)
        omega
      · have e : (!decide (50 < Tr.hmax hs k 0)) = true := by simp; omega
        rw [e, ih t (hs ++ [Tr.hmax hs k 0]) (by simpa using h) (fun x hx => by
          rcases List.mem_append.1 hx with hx | hx
          · exact h50 x hx
          · have : x = Tr.hmax hs k 0 := by simpa using hx
            omega)]
        simp only [true_and, and_assoc]
theorem Tr.G_more (ns : List Tr.Nd) (hs : List Nat) (y x : Nat) (h : x < hs.length) : Tr.G ns (hs ++ [y]) x = Tr.G ns hs x := by
  unfold Tr.G; rw [List.getElem?_append_left h]
/-- The open nodes that the program keeps are those that the specification keeps the places of. -/
theorem Tr.irun_eq (ns : List Tr.Nd) : ∀ (m i : Nat) (op hs : List Nat), m = ns.length - i → i ≤ ns.length → hs.length = i → (∀ x ∈ op, x < i) →
    Tr.irun (ns.drop i) (op.map (Tr.G ns hs)) = match (Tr.krun (ns.drop i) i op).2 with
      | none => none
      | some fin => if Tr.vgoN ns ((ns.drop i).zip (Tr.krun (ns.drop i) i op).1) = true then some (fin.map (Tr.G ns (Tr.hrun (Tr.krun (ns.drop i) i op).1 hs))) else none := by
  intro m
  induction m with
  | zero =>
    intro i op hs hm hi hl hop
    have e : ns.drop i = [] := List.drop_of_length_le (by omega)
    rw [e]; rfl
  | succ m ih =>
    intro i op hs hm hi hl hop
    have hlt : i < ns.length := by omega
    rw [List.drop_eq_getElem_cons hlt]
    by_cases hk : ns[i].kids < 0 ∨ (op.length : Int) < ns[i].kids
    · rw [Tr.irun, if_pos (by rw [List.length_map]; exact hk), Tr.krun, if_pos hk]
    · obtain ⟨k, hk1⟩ : ∃ k : Nat, ns[i].kids = k := ⟨ns[i].kids.toNat, by omega⟩
      rw [Tr.irun, if_neg (by rw [List.length_map]; exact hk), Tr.krun, if_neg hk]
      have hsub : (op.map (Tr.G ns hs)).length - ns[i].kids.toNat = op.length - ns[i].kids.toNat := by rw [List.length_map]
      rw [hsub]
      generalize hq : op.length - ns[i].kids.toNat = q
      have hql : (op.drop q).length = k := by simp; omega
      have hin : ∀ x ∈ op.drop q, x < ns.length := fun x hx => Nat.lt_trans (hop x (List.mem_of_mem_drop hx)) hlt
      rw [← List.map_drop, ← List.map_take]
      have hok : Tr.nodeOk ns[i] ((op.drop q).map (Tr.G ns hs)) = (Tr.plain ns[i] && Tr.kidsOk ns ns[i].kind (op.drop q)) := by
        unfold Tr.nodeOk
        rw [Bool.and_assoc, hk1, ← hql, Tr.ok_eq ns hs _ _ hin]
      rw [hok]
      have hmap : (op.take q).map (Tr.G ns hs) ++ [(⟨ns[i], Tr.over ((op.drop q).map (Tr.G ns hs)) 0⟩ : Tr.Gr)] = (op.take q ++ [i]).map (Tr.G ns (hs ++ [Tr.hmax hs (op.drop q) 0])) := by
        rw [List.map_append]
        congr 1
        · apply List.map_congr_left
          intro x hx
          rw [Tr.G_more _ _ _ _ (by rw [hl]; exact hop x (List.mem_of_mem_take hx))]
        · have h3 : Tr.G ns (hs ++ [Tr.hmax hs (op.drop q) 0]) i = ⟨ns[i], Tr.hmax hs (op.drop q) 0⟩ := by
            unfold Tr.G
            rw [List.getElem?_eq_getElem hlt, List.getElem?_append_right (by omega), hl, Nat.sub_self]; rfl
          rw [Tr.over_G, List.map_cons, List.map_nil, h3]
      have hnext := ih (i + 1) (op.take q ++ [i]) (hs ++ [Tr.hmax hs (op.drop q) 0]) (by omega) (by omega) (by simp [hl]) (fun x hx => by
        rcases List.mem_append.1 hx with hx | hx
        · have := hop x (List.mem_of_mem_take hx); omega
        · have : x = i := by simpa using hx
          omega)
      simp only [List.zip_cons_cons, Tr.vgoN, Tr.hrun]
      by_cases hc : (Tr.plain ns[i] && Tr.kidsOk ns ns[i].kind (op.drop q)) = true
      · rw [if_pos hc, hmap, hnext]
        simp only [hc, Bool.true_and]
      · rw [if_neg hc]
        have hc2 : (Tr.plain ns[i] && Tr.kidsOk ns ns[i].kind (op.drop q)) = false := by simpa using hc
        simp only [hc2, Bool.false_and, Bool.false_eq_true, if_false]
        cases (Tr.krun (ns.drop (i + 1)) (i + 1) (op.take q ++ [i])).2 <;> rfl
theorem Tr.hmax_ge (hs ls : List Nat) (h : Nat) : h ≤ Tr.hmax hs ls h ∧ ∀ x ∈ ls, hs[x]?.getD 0 + 1 ≤ Tr.hmax hs ls h := by
  induction ls generalizing h with
  | nil => simp [Tr.hmax]
  | cons y r ih =>
    rw [Tr.hmax]
    have q := ih (if h < hs[y]?.getD 0 + 1 then hs[y]?.getD 0 + 1 else h)
    have g1 : h ≤ (if h < hs[y]?.getD 0 + 1 then hs[y]?.getD 0 + 1 else h) ∧ hs[y]?.getD 0 + 1 ≤ (if h < hs[y]?.getD 0 + 1 then hs[y]?.getD 0 + 1 else h) := by split <;> omega
    refine ⟨by omega, fun x hx => ?_⟩
    rcases List.mem_cons.1 hx with rfl | hx
    · omega
    · exact q.2 x hx
/-- Every height is at most that of an open node. -/
theorem Tr.high_open (ds : List Tr.Nd) : ∀ (i : Nat) (op hs : List Nat), hs.length = i → (∀ x ∈ op, x < i) → (∀ y ∈ hs, ∃ x ∈ op, y ≤ hs[x]?.getD 0) →
    ∀ fin, (Tr.krun ds i op).2 = some fin → ∀ y ∈ Tr.hrun (Tr.krun ds i op).1 hs, ∃ x ∈ fin, y ≤ (Tr.hrun (Tr.krun ds i op).1 hs)[x]?.getD 0 := by
  induction ds with
  | nil =>
    intro i op hs _ _ h fin hf
    simp only [Tr.krun, Option.some.injEq] at hf
    subst hf
    exact h
  | cons d r ih =>
    intro i op hs hl hop h fin hf
    by_cases hk : d.kids < 0 ∨ (op.length : Int) < d.kids
    · rw [Tr.krun, if_pos hk] at hf; cases hf
    · rw [Tr.krun, if_neg hk] at hf ⊢
      generalize hq : op.length - d.kids.toNat = q at *
      simp only [Tr.hrun]
      refine ih (i + 1) (op.take q ++ [i]) (hs ++ [Tr.hmax hs (op.drop q) 0]) (by simp [hl]) ?_ ?_ fin hf
      · intro x hx
        rcases List.mem_append.1 hx with hx | hx
        · have := hop x (List.mem_of_mem_take hx); omega
        · have : x = i := by simpa using hx
          omega
      · intro y hy
        have hnew : (hs ++ [Tr.hmax hs (op.drop q) 0])[i]?.getD 0 = Tr.hmax hs (op.drop q) 0 := by simp [← hl]
        rcases List.mem_append.1 hy with hy | hy
        · obtain ⟨x, hx, hle⟩ := h y hy
          have hxl : x < hs.length := by rw [hl]; exact hop x hx
          rw [← List.take_append_drop q op] at hx
          rcases List.mem_append.1 hx with hx | hx
          · exact ⟨x, by simp [hx], by rw [List.getElem?_append_left hxl]; exact hle⟩
          · have := (Tr.hmax_ge hs (op.drop q) 0).2 x hx
            exact ⟨i, by simp, by rw [hnew]; omega⟩
        · have : y = Tr.hmax hs (op.drop q) 0 := by simpa using hy
          exact ⟨i, by simp, by rw [hnew]; omega⟩
/-- The last node stays open. -/
theorem Tr.krun_last (ds : List Tr.Nd) : ∀ (i : Nat) (op : List Nat), (ds = [] → op.getLast? = some (i - 1) ∧ 1 ≤ i) → ∀ fin, (Tr.krun ds i op).2 = some fin → fin.getLast? = some (i + ds.length - 1) := by
  induction ds with
  | nil =>
    intro i op h fin hf
    simp only [Tr.krun, Option.some.injEq] at hf
    subst hf
    simpa using (h rfl).1
  | cons d r ih =>
    intro i op h fin hf
    by_cases hk : d.kids < 0 ∨ (op.length : Int) < d.kids
    · rw [Tr.krun, if_pos hk] at hf; cases hf
    · rw [Tr.krun, if_neg hk] at hf
      have := ih (i + 1) _ (fun _ => ⟨by simp, by omega⟩) fin hf
      rw [this, List.length_cons]
      congr 1; omega
theorem Tr.ivalid_eq (ns : List Tr.Nd) : Tr.ivalid ns = Tr.valid ns := by
  have hI := Tr.irun_eq ns ns.length 0 [] [] (by simp) (Nat.zero_le _) rfl (fun x h => by cases h)
  rw [List.drop_zero, List.map_nil] at hI
  unfold Tr.ivalid Tr.valid
  by_cases h0 : ns = []
  · subst h0; rfl
  have hpos : 1 ≤ ns.length := by
    cases ns with
    | nil => exact absurd rfl h0
    | cons x r => simp
  have e1 : Tr.inr ns.length 1 5000 = decide (ns.length ≤ 5000) := by unfold Tr.inr; rw [Bool.eq_iff_iff]; simp; omega
  rw [e1, hI, Bool.and_assoc, Bool.and_assoc]
  congr 1
  have hkg : Tr.kidsGood ns = match (Tr.krun ns 0 []).2 with
    | none => false
    | some op => op.length == 1 := rfl
  have hkd : Tr.kids ns = (Tr.krun ns 0 []).1 := rfl
  have hlen := Tr.krun_len ns 0 []
  have hho := Tr.high_open ns 0 [] [] rfl (fun x h => by cases h) (fun x h => by cases h)
  have hla := Tr.krun_last ns 0 [] (fun h => absurd h h0)
  rw [hkg, hkd]
  generalize hkr : Tr.krun ns 0 [] = kr at *
  obtain ⟨ks, fo⟩ := kr
  cases fo with
  | none => simp [Tr.iend]
  | some fin =>
    have hkl : ks.length = ns.length := hlen.2 (by simp)
    have hv := Tr.vgo_eq ns ns ks [] hkl.symm (fun x h => by cases h)
    have hlast := hla fin rfl
    have hhigh := hho fin rfl
    simp only at hv hhigh ⊢
    match fin, hlast with
    | [r], hlast =>
      have hr : r = ns.length - 1 := by simpa using hlast
      have hlk : Tr.lastKind ns = (Tr.G ns (Tr.hrun ks []) r).nd.kind := by
        rw [Tr.G_kind, hr]
        unfold Tr.lastKind Tr.kindOf
        rw [List.getLast?_eq_getElem?]
        cases ns[ns.length - 1]? <;> rfl
      have hmem : (Tr.hrun ks [])[r]?.getD 0 ∈ Tr.hrun ks [] := by
        obtain ⟨t, h1, h2⟩ := Tr.hrun_pre ks []
        have hl : r < (Tr.hrun ks []).length := by rw [h1]; simp; omega
        rw [List.getElem?_eq_getElem hl]
        exact List.getElem_mem hl
      have hall : (∀ x ∈ Tr.hrun ks [], x ≤ 50) ↔ (Tr.G ns (Tr.hrun ks []) r).high ≤ 50 := by
        constructor
        · intro h; exact h _ hmem
        · intro h x hx
          obtain ⟨y, hy, hle⟩ := hhigh x hx
          have : y = r := by simpa using hy
          subst this
          exact Nat.le_trans hle h
      rw [hlk]
      by_cases hN : Tr.vgoN ns (ns.zip ks) = true
      · rw [if_pos hN]
        simp only [List.map_cons, List.map_nil, Tr.iend]
        rw [Bool.eq_iff_iff]
        simp only [Bool.and_eq_true, decide_eq_true_iff, hv, hall, hN, true_and]
        simp
      · rw [if_neg hN]
        have : Tr.vgo ns (ns.zip ks) [] = false := by
          rw [Bool.eq_false_iff]
          intro h
          exact hN (hv.1 h).1
        simp [Tr.iend, this]
    | [], hlast => simp at hlast
    | a :: b :: t, _ =>
      have e2 : ((a :: b :: t).length == 1) = false := by simp
      rw [e2]
      simp only [Bool.false_and, Bool.and_false]
      split <;> simp [Tr.iend]
end Go.Proofs.YtmklgiononbmmaaDoor
