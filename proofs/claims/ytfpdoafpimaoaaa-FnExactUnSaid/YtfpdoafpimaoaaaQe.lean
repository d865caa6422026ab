/- Walks: what is valid, on the specification's side. -/
import Derived.Test.YtfpdoafpimaoaaaQd
namespace Go.Proofs.Ytfpdoafpimaoaaa.Vl
open Go.RowKit T.atoms T.ok T.high T.good T.allPlain

def okOf (l : List At) (a : Nat) : Bool := match treeOf l with
  | none => false
  | some t => t.ok a
theorem okOf_T (t : T) (a : Nat) : okOf t.atoms a = t.ok a := by unfold okOf; rw [treeOf_atoms]
theorem okOf_none {l : List At} (h : treeOf l = none) (a : Nat) : okOf l a = false := by unfold okOf; rw [h]
theorem okOf_high (l : List At) (a : Nat) (h : 12 < a) : okOf l a = false := by
  unfold okOf
  cases treeOf l with
  | none => rfl
  | some t => show t.ok a = false; rw [T.ok_eq]; simp; omega
theorem str_empty (s : ByteArray) : (s.toList == []) = (s.size == 0) := by
  have e : s.size = s.data.toList.length := (Array.length_toList (xs := s.data)).symm
  rw [Lib.toList_data, e]
  cases s.data.toList <;> rfl
theorem okL_at (ks : List T) (i a : Nat) (h : i < ks.length) : okL (ks.drop i) a = ((ks[i]).ok a && okL (ks.drop (i + 1)) a) := by
  rw [List.drop_eq_getElem_cons h]; simp [okL]
theorem fld0 (k n q : Int) (s : ByteArray) (w : World) : (Instr.field 55 (.agg #[.int .i64 k, .int .i64 n, .string s, .int .i64 q]) 0).run Try.prog w = .ok (.int .i64 k) w := by kernel_rfl
theorem fld2 (k n q : Int) (s : ByteArray) (w : World) : (Instr.field 55 (.agg #[.int .i64 k, .int .i64 n, .string s, .int .i64 q]) 2).run Try.prog w = .ok (.string s) w := by kernel_rfl
/-- The names from a place on. -/
def namesAt (ks : List T) (i : Nat) : Bool := (ks[i]?.map fun t => t.kind == 4).getD false && (i == 0 || slt ((ks[i - 2]?.map T.text).getD ⟨#[]⟩) ((ks[i]?.map T.text).getD ⟨#[]⟩))
theorem names_odd : ∀ (ks : List T), ks.length % 2 = 1 → names ks = false
  | [_], _ => rfl
  | [_, _], h => by simp at h
  | a :: b :: c :: r, h => by
    rw [names, names_odd (c :: r) (by simp at h ⊢; omega)]
    simp
theorem names_first (c d : T) : ∀ r : List T, names (c :: d :: r) = ((c.kind == 4) && names (c :: d :: r))
  | [] => by simp [names]
  | e :: r => by rw [names]; cases (c.kind == 4) <;> simp
/-- From the pair ahead of i on: all names behind are right. -/
def namesFrom (ks : List T) : Nat → Nat → Bool
  | 0, _ => true
  | f + 1, i => if i < ks.length then namesAt ks i && namesFrom ks f (i + 2) else true
theorem kids_name (ks : List T) : ∀ (f i : Nat) (r : List T), ks.drop i = r → ks.length < i + 2 * f → r.length % 2 = 0 → (0 < i → 2 ≤ i ∧ (ks[i - 2]?.map fun t => t.kind == 4) = some true) →
    namesFrom ks f i = (match r with
      | [] => true
      | a :: _ => (i == 0 || slt ((ks[i - 2]?.map T.text).getD ⟨#[]⟩) a.text) && names r)
  | 0, i, r, h, hf, _, _ => by
    have : r = [] := by rw [← h, List.drop_of_length_le (by omega)]
    subst this; rfl
  | f + 1, i, r, h, hf, hev, hp => by
    match r, h, hev with
    | [], h, _ =>
      have : ks.length ≤ i := by have := congrArg List.length h; simp at this; omega
      rw [namesFrom, if_neg (by omega)]
    | [_], _, hev => simp at hev
    | a :: b :: r', h, hev =>
      have hi : i < ks.length := by
        rcases Nat.lt_or_ge i ks.length with q | q
        · exact q
        · rw [List.drop_of_length_le q] at h; cases h
      have ha : ks[i]? = some a := by rw [← List.head?_drop, h]; rfl
      have h2 : ks.drop (i + 2) = r' := by rw [← List.drop_drop, h]; rfl
      rw [namesFrom, if_pos hi]
      unfold namesAt
      rw [ha]
      simp only [Option.map_some, Option.getD_some]
      cases hk : (a.kind == 4)
      · match r' with
        | [] => simp [names, hk]
        | c :: r'' => simp [names, hk]
      · rw [kids_name ks f (i + 2) r' h2 (by omega) (by simp at hev ⊢; omega) (fun _ => ⟨by omega, by rw [show i + 2 - 2 = i from by omega, ha]; simp [hk]⟩)]
        match r', hev with
        | [], _ => simp [names, hk]
        | [c], hev => simp at hev
        | c :: d :: r'', hev =>
          simp only [show i + 2 - 2 = i from by omega, ha, Option.map_some, Option.getD_some]
          have hnf := names_first c d r''
          rw [show names (a :: b :: c :: d :: r'') = (a.kind == 4 && c.kind == 4 && slt a.text c.text && names (c :: d :: r'')) from by rw [names], hk]
          generalize names (c :: d :: r'') = nm at *
          cases hc : (c.kind == 4)
          · rw [hc] at hnf
            have : nm = false := by simpa using hnf
            subst this; simp
          · simp
theorem names_from (ks : List T) (h : ks.length % 2 = 0) : namesFrom ks (ks.length + 1) 0 = names ks := by
  rw [kids_name ks (ks.length + 1) 0 ks (by simp) (by omega) h (fun h => absurd h (Nat.lt_irrefl _))]
  cases ks with
  | nil => rfl
  | cons a r => simp
end Go.Proofs.Ytfpdoafpimaoaaa.Vl
