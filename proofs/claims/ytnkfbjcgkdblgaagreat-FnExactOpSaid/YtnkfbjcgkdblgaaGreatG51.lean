/- Joined: Wc. -/
import Derived.Test.YtnkfbjcgkdblgaaGreatG48
import Derived.Test.YtnkfbjcgkdblgaaGreatG50
import Derived.Deep.CutRange
namespace Go.Proofs.YtnkfbjcgkdblgaaGreat.Vl
open Go.RowKit T.atoms T.ok T.high T.good T.allPlain

theorem OPost.row {w w' : World} {r : List At × List UInt8} {e : Ending} (h : OPost w r e w') : ∃ v, e = .returned (.tuple #[.agg #[v], .string ⟨r.2.toArray⟩]) ∧ RowS w' w.heap.size w'.heap.size v r.1 ∧ Below w.heap.size w w' := by
  obtain ⟨h1, h2⟩ := h
  rcases h2 with ⟨h2, h3⟩ | ⟨g, c, hg, h4, h5⟩
  · exact ⟨_, h3, .inl ⟨rfl, h2⟩, h1⟩
  · exact ⟨_, h4, .inr ⟨g, c, rfl, hg, h5.1, h5⟩, h1⟩
theorem PPost2.row {w w' : World} {r : List At × List UInt8} {e : Ending} (h : PPost2 w r e w') : ∃ v, e = .returned (.tuple #[.agg #[v], .string ⟨r.2.toArray⟩]) ∧ RowN w' w.heap.size v r.1 ∧ Below w.heap.size w w' := by
  obtain ⟨v, h1, h2, h3⟩ := h
  refine ⟨v, h1, ?_, h3⟩
  rcases h2 with h2 | ⟨g, c, rfl, ho⟩
  · exact .inl h2
  · exact .inr ⟨g, c, rfl, (ho.lt g rfl).1, row_mono ho (Nat.zero_le _)⟩
def Small (o : Out) : Prop := o.res.1.length ≤ 1000
theorem small_word (l : List UInt8) : Small (.inl l) := Nat.zero_le _
theorem small_bool (b : Bool) : Small (.inr (boolT b)) := by
  show (boolT b).count ≤ 1000
  rw [boolT_count]; decide
theorem small_int (z : Int) : Small (.inr (intT z)) := by
  show (intT z).atoms.length ≤ 1000
  simp [intT, T.atoms, atomsL]
theorem small_if {p : Prop} [Decidable p] {a b : Out} (ha : p → Small a) (hb : Small b) : Small (if p then a else b) := by
  split
  · exact ha (by assumption)
  · exact hb
theorem small_num (r : Option Int) (l : List UInt8) : Small (numOut r l) := by
  cases r with
  | none => exact small_word _
  | some z => exact small_int z
theorem small_either : ∀ l : List Out, (∀ o ∈ l, Small o) → Small (eitherOut l)
  | [], _ => small_word _
  | o :: r, h => by
    unfold eitherOut
    exact small_if (fun _ => small_either r (fun q hq => h q (List.mem_cons_of_mem _ hq))) (h o (List.mem_cons_self ..))
theorem small_alike (hb : Int → Bool) (t u : T) : Small (alike hb t u) := by
  refine small_either _ (fun o ho => ?_)
  simp only [List.map_cons, List.map_nil, List.mem_cons, List.not_mem_nil, or_false] at ho
  rcases ho with rfl | rfl | rfl | rfl <;> exact small_if (fun _ => small_bool _) (small_word _)
theorem small_cat (t u : T) : Small (catR t u) := small_if (fun _ => by show (catT t u).atoms.length ≤ 1000; simp [catT, T.atoms, atomsL]) (small_word _)
theorem small_catL (t u : T) : Small (catLR t u) := small_if (fun h => by
  unfold listOk at h
  show (T.mk 5 0 ⟨#[]⟩ (t.ks ++ u.ks)).count ≤ 1000
  rw [T.count_eq]
  exact (of_decide_eq_true h).2.1) (small_word _)
theorem small_catR (R : T → T → List T) (t u : T) : Small (catRR R t u) := small_if (fun h => by
  unfold recOk at h
  show (T.mk 6 0 ⟨#[]⟩ (R t u)).count ≤ 1000
  rw [T.count_eq]
  exact (of_decide_eq_true h).2.1) (small_word _)
theorem small0 : ∀ R ∈ Rs0, ∀ t u, Small (R t u) := by
  intro R hR t u
  unfold Rs0 opRs at hR
  simp only [List.mem_cons, List.not_mem_nil, or_false] at hR
  rcases hR with rfl | rfl | rfl | rfl | rfl | rfl | rfl | rfl | rfl | rfl | rfl | rfl | rfl | rfl
  · exact small_if (fun _ => small_bool _) (small_word _)
  · exact small_if (fun _ => small_bool _) (small_word _)
  · exact small_bool _
  · exact small_bool _
  · exact small_alike _ t u
  · exact small_alike _ t u
  · exact small_alike _ t u
  · exact small_alike _ t u
  · refine small_either _ (fun o ho => ?_)
    simp only [List.map_cons, List.map_nil, List.mem_cons, List.not_mem_nil, or_false] at ho
    rcases ho with rfl | rfl | rfl <;> exact small_if (fun _ => small_bool _) (small_word _)
  · refine small_either _ (fun o ho => ?_)
    simp only [List.map_cons, List.map_nil, List.mem_cons, List.not_mem_nil, or_false] at ho
    rcases ho with rfl | rfl | rfl | rfl
    · exact small_if (fun _ => small_num _ _) (small_word _)
    · exact small_if (fun _ => small_cat t u) (small_word _)
    · exact small_if (fun _ => small_catL t u) (small_word _)
    · exact small_if (fun _ => small_catR _ t u) (small_word _)
  · exact small_if (fun _ => small_num _ _) (small_word _)
  · exact small_if (fun _ => small_num _ _) (small_word _)
  · exact small_if (fun _ => small_if (fun _ => small_word _) (small_if (fun _ => small_word _) (small_int _))) (small_word _)
  · exact small_if (fun _ => small_if (fun _ => small_word _) (small_int _)) (small_word _)
theorem opRes_len (op : Int) (la lb : List At) : (opRes Rs0 op la lb).1.length ≤ 1048576 := by
  have h0 : ((([], tyW) : List At × List UInt8)).1.length ≤ 1048576 := Nat.zero_le _
  unfold opRes
  split
  · split
    · unfold opOut
      split
      · rename_i R h
        split at h
        · exact Nat.le_trans (small0 R (List.mem_of_getElem? h) _ _) (by decide)
        · cases h
      · exact h0
    · exact h0
  · exact h0

end Go.Proofs.YtnkfbjcgkdblgaaGreat.Vl
