/- Walks: Un, on the specification's side, joined; the leaves of a valid value. -/
import Derived.Test.YtfpdoafpimaoaaaUe
namespace Go.Proofs.Ytfpdoafpimaoaaa.Vl
open Go.RowKit T.atoms T.ok T.high T.good T.allPlain

theorem valid_parts {l : List At} (h : valid l = true) : ∃ t, treeOf l = some t ∧ plain t.kind t.num t.text t.ks = true := by
  unfold valid at h
  cases ht : treeOf l with
  | none => rw [ht] at h; simp at h
  | some t =>
    rw [ht] at h
    simp only [Bool.and_eq_true] at h
    refine ⟨t, rfl, ?_⟩
    have h2 := h.2
    rw [T.ok_eq] at h2
    simp only [Bool.and_eq_true] at h2
    exact h2.1.2
theorem tree_last {l : List At} {t : T} (h : treeOf l = some t) : l.getLast? = some ⟨t.kind, t.num, t.text, t.ks.length⟩ := by
  rw [treeOf_some h, T.atoms_eq]; simp
theorem plain_bool {n : Int} {s : ByteArray} {ks : List T} (h : plain 2 n s ks = true) : n = 0 ∨ n = 1 := by
  unfold plain at h
  simp at h
  exact h.2
theorem valid_pos {l : List At} (h : valid l = true) : 0 < l.length := by
  obtain ⟨t, ht, _⟩ := valid_parts h
  rw [treeOf_some ht]; exact atoms_pos t

theorem specUn_any (op : Int) (l : List At) (g c : Nat) (w : World) (ht : AtomsO w g 0 l) (hc : l.length ≤ c) (hl : l.length ≤ 1048576) (hx : ∀ x ∈ l, -9223372036854775808 ≤ x.n ∧ x.n ≤ 9223372036854775807) :
    Calls Try.prog 16 #[.int .i64 op, .agg #[.slice (some ⟨g, 0, none⟩) l.length c]] w fun e w' => UPost w (unRes op l) e w' := by
  by_cases hv : valid l = true
  · have hp := valid_pos hv
    obtain ⟨m, hm⟩ : ∃ m, l.length = m + 1 := ⟨l.length - 1, by omega⟩
    have hlt : m < l.length := by omega
    have ha : l[m]? = some l[m] := List.getElem?_eq_getElem hlt
    by_cases h1 : op = 1
    · subst h1
      by_cases hk : l[m].kind = 2
      · exact specUn_not l g c _ w rfl hv _ m hm ha hk ht hc hl
      · exact specUn_notNo l g c _ w rfl hv _ m hm ha hk ht hc hl
    · by_cases h2 : op = 2
      · subst h2
        by_cases hk : l[m].kind = 3
        · by_cases hn : l[m].n = -9223372036854775808
          · exact specUn_negMin l g c _ w rfl hv _ m hm ha hk hn ht hc hl
          · have hb := hx l[m] (List.getElem_mem hlt)
            exact specUn_neg l g c _ w rfl hv _ m hm ha hk hn hb.1 hb.2 ht hc hl
        · exact specUn_negNo l g c _ w rfl hv _ m hm ha hk ht hc hl
      · exact specUn_other op l g c _ w rfl hv h1 h2 ht hc hl
  · exact specUn_bad op l g c _ w rfl (by simpa using hv) ht hc hl

/-- Un's answer of a value. -/
theorem unRes_tree {l : List At} {t : T} (op : Int) (hv : valid l = true) (ht : treeOf l = some t) : unRes op l = unOut op ⟨t.kind, t.num, t.text, t.ks.length⟩ := by
  unfold unRes; rw [hv, tree_last ht]; rfl
theorem tree_num {l : List At} {t : T} (ht : treeOf l = some t) (hx : ∀ x ∈ l, -9223372036854775808 ≤ x.n ∧ x.n ≤ 9223372036854775807) : -9223372036854775808 ≤ t.num ∧ t.num ≤ 9223372036854775807 := by
  have h := List.mem_of_getLast? (tree_last ht)
  exact hx _ h
end Go.Proofs.Ytfpdoafpimaoaaa.Vl
