/- Walks: what kids a node may have, whole; kids lie below their node. -/
import Derived.Test.YtmklgiononbmmaaDoorVg
import Derived.Test.YtmklgiononbmmaaDoorVe
import Derived.Test.YtmklgiononbmmaaDoorVk
import Derived.Test.YtmklgiononbmmaaDoorVb
namespace Go.Proofs.YtmklgiononbmmaaDoor
open Go.RowKit

theorem kidsOk_any (kind : Int) (ns : List Tr.Nd) (ls : List Nat) (tg tc g c : Nat) (w : World) (hl : ls.length ≤ 1048576) (ht : NodesAt w tg ns) (hi : IntsAt w g 0 ls) (hin : ∀ x ∈ ls, x < ns.length) (hcap : ls.length ≤ c) :
    Calls Tryd.prog 48 #[.agg #[.slice (some ⟨tg, 0, none⟩) ns.length tc], .int .i64 kind, .slice (some ⟨g, 0, none⟩) ls.length c] w fun e w' => e = .returned (.bool (Tr.kidsOk ns kind ls)) ∧ Below w.heap.size w w' := by
  by_cases h0 : kind < 1 ∨ 24 < kind
  · exact kidsOk_other kind ns ls tg tc g c w hl ht hi hin h0
  by_cases h9 : kind = 9
  · exact kidsOk_9 kind ns ls tg tc g c w hl ht hi hin h9
  by_cases h12 : kind = 12
  · exact kidsOk_12 kind ns ls tg tc g c w hl ht hi hin h12 hcap
  by_cases h15 : kind = 15 ∨ kind = 20
  · exact kidsOk_fn kind ns ls tg tc g c w hl ht hi hin h15
  by_cases h23 : kind = 23
  · exact kidsOk_23 kind ns ls tg tc g c w hl ht hi hin h23
  by_cases h24 : kind = 24
  · exact kidsOk_24 kind ns ls tg tc g c w hl ht hi hin h24
  exact kidsOk_simple kind ns ls tg tc g c w hl ht hi hin (by omega)

/-- Each node's kids lie ahead of it. -/
theorem Tr.krun_lt (ns : List Tr.Nd) (i : Nat) (op : List Nat) (h : ∀ x ∈ op, x < i) : ∀ j ks, (Tr.krun ns i op).1[j]? = some ks → ∀ x ∈ ks, x < i + j := by
  induction ns generalizing i op with
  | nil => intro j ks hj; simp [Tr.krun] at hj
  | cons d r ih =>
    intro j ks hj x hx
    by_cases hk : d.kids < 0 ∨ (op.length : Int) < d.kids
    · simp [Tr.krun, hk] at hj
    · have e : (Tr.krun (d :: r) i op).1 = op.drop (op.length - d.kids.toNat) :: (Tr.krun r (i + 1) (op.take (op.length - d.kids.toNat) ++ [i])).1 := by
        rw [Tr.krun, if_neg hk]
      have hop : ∀ x ∈ op.take (op.length - d.kids.toNat) ++ [i], x < i + 1 := by
        intro y hy
        rcases List.mem_append.1 hy with hy | hy
        · have := h y (List.mem_of_mem_take hy); omega
        · have : y = i := by simpa using hy
          omega
      rw [e] at hj
      cases j with
      | zero =>
        rw [List.getElem?_cons_zero] at hj
        cases hj
        exact h x (List.mem_of_mem_drop hx)
      | succ j =>
        rw [List.getElem?_cons_succ] at hj
        have := ih (i + 1) _ hop j ks hj x hx
        omega
theorem Tr.kids_lt (ns : List Tr.Nd) (j : Nat) (hj : j < (Tr.kids ns).length) : ∀ x ∈ (Tr.kids ns)[j], x < j := by
  intro x hx
  have := Tr.krun_lt ns 0 [] (fun x h => by cases h) j _ (List.getElem?_eq_getElem hj) x hx
  omega
theorem Tr.krun_short (ns : List Tr.Nd) (i : Nat) (op : List Nat) : ∀ j ks, (Tr.krun ns i op).1[j]? = some ks → ks.length ≤ op.length + j := by
  induction ns generalizing i op with
  | nil => intro j ks hj; simp [Tr.krun] at hj
  | cons d r ih =>
    intro j ks hj
    by_cases hk : d.kids < 0 ∨ (op.length : Int) < d.kids
    · simp [Tr.krun, hk] at hj
    · have e : (Tr.krun (d :: r) i op).1 = op.drop (op.length - d.kids.toNat) :: (Tr.krun r (i + 1) (op.take (op.length - d.kids.toNat) ++ [i])).1 := by
        rw [Tr.krun, if_neg hk]
      rw [e] at hj
      cases j with
      | zero =>
        rw [List.getElem?_cons_zero] at hj
        cases hj
        simp
      | succ j =>
        rw [List.getElem?_cons_succ] at hj
        have := ih (i + 1) _ j ks hj
        simp at this
        omega
theorem Tr.kids_short (ns : List Tr.Nd) (j : Nat) (hj : j < (Tr.kids ns).length) : ((Tr.kids ns)[j]).length ≤ j := by
  have := Tr.krun_short ns 0 [] j _ (List.getElem?_eq_getElem hj)
  simpa using this
theorem Tr.krun_len (ns : List Tr.Nd) (i : Nat) (op : List Nat) : (Tr.krun ns i op).1.length ≤ ns.length ∧ ((Tr.krun ns i op).2 ≠ none → (Tr.krun ns i op).1.length = ns.length) := by
  induction ns generalizing i op with
  | nil => simp [Tr.krun]
  | cons d r ih =>
    by_cases hk : d.kids < 0 ∨ (op.length : Int) < d.kids
    · simp [Tr.krun, hk]
    · have := ih (i + 1) (op.take (op.length - d.kids.toNat) ++ [i])
      simp only [Tr.krun, if_neg hk, List.length_cons]
      exact ⟨by omega, fun h => by have := this.2 h; omega⟩
theorem Tr.kids_len {ns : List Tr.Nd} (h : Tr.kidsGood ns = true) : (Tr.kids ns).length = ns.length := by
  refine (Tr.krun_len ns 0 []).2 fun e => ?_
  unfold Tr.kidsGood at h
  rw [e] at h
  cases h
end Go.Proofs.YtmklgiononbmmaaDoor
