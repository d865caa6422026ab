/- The order of values: the plain mathematics; l5Cmp and l5Order, on the specification's side. -/
import Derived.Test.YtfpdoafpimaoaaaQo
namespace Go.Proofs.Ytfpdoafpimaoaaa.Vl
open Go.RowKit T.atoms T.ok T.high T.good T.allPlain DatAt

def cmpB (less same : Bool) : Int := if same then 0 else if less then -1 else 1
def cmpI (a b : Int) : Int := cmpB (decide (a < b)) (a == b)
def cmpS (a b : ByteArray) : Int := cmpB (slt a b) (a.toList == b.toList)
def T.ord : T → T → Int
  | .mk k n s ks, .mk k' n' s' ks' => if k ≠ k' then cmpB (decide (k < k')) false else if k = 2 ∨ k = 3 then cmpI n n' else if k = 4 then cmpS s s' else ordL ks ks'
  where
  ordL : List T → List T → Int
  | [], l => cmpB (decide (0 < l.length)) (l.length == 0)
  | _ :: _, [] => 1
  | a :: r, b :: r' => if a.ord b ≠ 0 then a.ord b else ordL r r'
open T.ord
theorem T.ord_eq (a b : T) : a.ord b = if a.kind ≠ b.kind then cmpB (decide (a.kind < b.kind)) false else if a.kind = 2 ∨ a.kind = 3 then cmpI a.num b.num else if a.kind = 4 then cmpS a.text b.text else ordL a.ks b.ks := by
  cases a; cases b; rw [T.ord]; rfl
theorem ordL_step (p q : List T) (i : Nat) (h1 : i < p.length) (h2 : i < q.length) : ordL (p.drop i) (q.drop i) = if (p[i]).ord q[i] ≠ 0 then (p[i]).ord q[i] else ordL (p.drop (i + 1)) (q.drop (i + 1)) := by
  rw [List.drop_eq_getElem_cons h1, List.drop_eq_getElem_cons h2, ordL]
theorem ordL_end (p q : List T) (i : Nat) (h : p.length ≤ i ∨ q.length ≤ i) (h1 : i ≤ p.length) (h2 : i ≤ q.length) : ordL (p.drop i) (q.drop i) = cmpB (decide (p.length < q.length)) (p.length == q.length) := by
  by_cases hp : p.length ≤ i
  · rw [List.drop_of_length_le hp, ordL, List.length_drop]
    obtain rfl : i = p.length := by omega
    congr 1
    · rw [decide_eq_decide]; omega
    · rw [Bool.eq_iff_iff]; simp; omega
  · have hq : q.length ≤ i := by omega
    rw [List.drop_of_length_le hq, List.drop_eq_getElem_cons (by omega), ordL]
    unfold cmpB
    rw [if_neg (by simp; omega), if_neg (by simp; omega)]

theorem ord_range (a b : T) : a.ord b = -1 ∨ a.ord b = 0 ∨ a.ord b = 1 := by
  cases a with
  | mk k n s ks =>
    cases b with
    | mk k' n' s' ks' =>
      rw [T.ord]
      have hc : ∀ l e, cmpB l e = -1 ∨ cmpB l e = 0 ∨ cmpB l e = 1 := by intro l e; cases l <;> cases e <;> simp [cmpB]
      split
      · exact hc _ _
      · split
        · exact hc _ _
        · split
          · exact hc _ _
          · exact rangeL ks ks'
  where
  rangeL (p q : List T) : ordL p q = -1 ∨ ordL p q = 0 ∨ ordL p q = 1 := by
    have hc : ∀ l e, cmpB l e = -1 ∨ cmpB l e = 0 ∨ cmpB l e = 1 := by intro l e; cases l <;> cases e <;> simp [cmpB]
    match p, q with
    | [], l => rw [ordL]; exact hc _ _
    | _ :: _, [] => rw [ordL]; exact .inr (.inr rfl)
    | a :: r, b :: r' =>
      rw [ordL]
      split
      · exact ord_range a b
      · exact rangeL r r'

set_option maxHeartbeats 400000 in
theorem cmp5_any (l e : Bool) (w : World) : Calls Try.prog 51 #[.bool l, .bool e] w fun en w' => en = .returned (.int .i64 (cmpB l e)) ∧ w' = w := by
  cases l
  all_goals cases e
  all_goals
    go_enter Try.func51, Try.ntmps51
    go_wp2
    go_ret
    exact ⟨rfl, rfl⟩
end Go.Proofs.Ytfpdoafpimaoaaa.Vl
