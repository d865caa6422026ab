/- What fits, on the program's side: lists; the program's way and the specification's come to one. -/
import Derived.Test.YtmklgiononbmmaaDoorKj
import Derived.Test.YtmklgiononbmmaaDoorNd
namespace Go.Proofs.YtmklgiononbmmaaDoor
open Go.RowKit

/-! ### faults -/
def Tr.clean (s : Tr.St) : Prop := ∀ c ∈ s.codes, c = 0
theorem Tr.faultS_len (k : Nat) (c : Int) (s : Tr.St) : (Tr.faultS k c s).codes.length = s.codes.length := by
  unfold Tr.faultS; split <;> simp
theorem Tr.faultS_binds (k : Nat) (c : Int) (s : Tr.St) : (Tr.faultS k c s).binds = s.binds := by
  unfold Tr.faultS; split <;> rfl
theorem Tr.faultS_codes (k : Nat) (c : Int) (s t : Tr.St) (h : s.codes = t.codes) : (Tr.faultS k c s).codes = (Tr.faultS k c t).codes := by
  unfold Tr.faultS; rw [h]; split <;> simp [h]
theorem Tr.St.ext' {s t : Tr.St} (h1 : s.codes = t.codes) (h2 : s.binds = t.binds) : s = t := by
  cases s; cases t; simp at h1 h2; simp [h1, h2]
theorem Tr.faultS_clean {k : Nat} {c : Int} {s : Tr.St} (hc : c ≠ 0) (h : Tr.clean (Tr.faultS k c s)) : Tr.clean s := by
  unfold Tr.faultS at h
  split at h
  · by_cases hk : k < s.codes.length
    · exact absurd (h c (List.mem_set hk c)) hc
    · intro x hx
      exact h x (by show x ∈ s.codes.set k c; rw [List.set_eq_of_length_le (by omega)]; exact hx)
  · exact h
theorem Tr.faultS_dirty {k : Nat} {c : Int} {s : Tr.St} (hc : c ≠ 0) (hk : k < s.codes.length) : ¬ Tr.clean (Tr.faultS k c s) := by
  intro h
  unfold Tr.faultS at h
  split at h
  · exact hc (h c (List.mem_set hk c))
  · rename_i hn
    apply hn
    left
    rw [List.getElem?_eq_getElem hk]
    exact h _ (List.getElem_mem hk)
theorem Tr.faultS_twice (k : Nat) (c : Int) (s : Tr.St) (hc : c ≠ 0) : Tr.faultS k c (Tr.faultS k c s) = Tr.faultS k c s := by
  by_cases h : s.codes[k]?.getD 0 = 0 ∨ c < s.codes[k]?.getD 0
  · have e : Tr.faultS k c s = { s with codes := s.codes.set k c } := by unfold Tr.faultS; rw [if_pos h]
    rw [e]
    by_cases hk : k < s.codes.length
    · unfold Tr.faultS
      rw [if_neg]
      simp [hk]
      exact hc
    · have e2 : s.codes.set k c = s.codes := List.set_eq_of_length_le (by omega)
      rw [e2, e, e2]
  · have e : Tr.faultS k c s = s := by unfold Tr.faultS; rw [if_neg h]
    rw [e, e]
theorem Tr.faultS_comm (k p : Nat) (c d : Int) (s : Tr.St) (h : k ≠ p) : Tr.faultS k c (Tr.faultS p d s) = Tr.faultS p d (Tr.faultS k c s) := by
  have g1 : ∀ (v : Int), (s.codes.set p v)[k]?.getD 0 = s.codes[k]?.getD 0 := fun v => by rw [List.getElem?_set_ne (Ne.symm h)]
  have g2 : ∀ (v : Int), (s.codes.set k v)[p]?.getD 0 = s.codes[p]?.getD 0 := fun v => by rw [List.getElem?_set_ne h]
  unfold Tr.faultS
  by_cases h1 : s.codes[k]?.getD 0 = 0 ∨ c < s.codes[k]?.getD 0 <;> by_cases h2 : s.codes[p]?.getD 0 = 0 ∨ d < s.codes[p]?.getD 0
  · rw [if_pos h2, if_pos h1]
    simp only [g1, g2]
    rw [if_pos h1, if_pos h2, List.set_comm _ _ (Ne.symm h)]
  · rw [if_neg h2, if_pos h1]
    simp only [g2]
    rw [if_neg h2]
  · rw [if_pos h2, if_neg h1]
    simp only [g1]
    rw [if_neg h1, if_pos h2]
  · rw [if_neg h2, if_neg h1, if_neg h2]

/-! ### a fault further on commutes with what the specification does -/
def Tr.Cm (G : Nat → List Tr.Kn → Tr.St → Tr.St) (p : Nat) (d : Int) (m : Nat) : Prop := ∀ y, y < m → ∀ kn s, G y kn (Tr.faultS p d s) = Tr.faultS p d (G y kn s)
theorem Tr.Cm.fold {G : Nat → List Tr.Kn → Tr.St → Tr.St} {p : Nat} {d : Int} {m : Nat} (h : Tr.Cm G p d m) (kn : List Tr.Kn) (ls : List Nat) (hl : ∀ y ∈ ls, y < m) (s : Tr.St) :
    ls.foldl (fun s y => G y kn s) (Tr.faultS p d s) = Tr.faultS p d (ls.foldl (fun s y => G y kn s) s) := by
  induction ls generalizing s with
  | nil => rfl
  | cons x r ih => rw [List.foldl_cons, List.foldl_cons, h x (hl x (by simp)), ih (fun y hy => hl y (by simp [hy]))]
theorem Tr.dupS_comm (ns : List Tr.Nd) (q p : Nat) (d : Int) (h : q ≠ p) (seen : List Nat) (s : Tr.St) : Tr.dupS ns q seen (Tr.faultS p d s) = Tr.faultS p d (Tr.dupS ns q seen s) := by
  unfold Tr.dupS
  induction seen generalizing s with
  | nil => rfl
  | cons x r ih =>
    rw [List.foldl_cons, List.foldl_cons]
    split
    · rw [Tr.faultS_comm _ _ _ _ _ h, ih]
    · exact ih s
theorem Tr.Cm.par {G : Nat → List Tr.Kn → Tr.St → Tr.St} {p : Nat} {d : Int} {m : Nat} (h : Tr.Cm G p d m) (hm : m ≤ p) (ns : List Tr.Nd) (ks : List (List Nat)) (hk : ∀ k, ∀ x ∈ Tr.kidsOf ks k, x < k) (q : Nat) (hq : q < m) (seen : List Nat) (kn : List Tr.Kn) (df : Bool) (s : Tr.St) :
    Tr.parS G ns ks q seen kn df (Tr.faultS p d s) = Tr.faultS p d (Tr.parS G ns ks q seen kn df s) := by
  unfold Tr.parS
  have hd := Tr.dupS_comm ns q p d (by omega) seen s
  cases hkk : Tr.kidsOf ks q with
  | nil =>
    simp only
    split
    · rw [hd, Tr.faultS_comm _ _ _ _ _ (by omega)]
    · exact hd
  | cons c r =>
    simp only
    have := hk q c (by rw [hkk]; simp)
    rw [hd, h c (by omega)]
theorem Tr.Cm.fn {G : Nat → List Tr.Kn → Tr.St → Tr.St} {p : Nat} {d : Int} {m : Nat} (h : Tr.Cm G p d m) (hm : m ≤ p) (ns : List Tr.Nd) (ks : List (List Nat)) (hk : ∀ k, ∀ x ∈ Tr.kidsOf ks k, x < k) :
    ∀ (ls seen : List Nat) (kn : List Tr.Kn) (df : Bool) (s : Tr.St), (∀ y ∈ ls, y < m) → Tr.fnS G ns ks ls seen kn df (Tr.faultS p d s) = Tr.faultS p d (Tr.fnS G ns ks ls seen kn df s)
  | [], _, _, _, _, _ => rfl
  | [x], _, _, _, _, hl => h x (hl x (by simp)) _ _
  | q :: x :: r, seen, kn, df, s, hl => by
    rw [Tr.fnS, Tr.fnS, h.par hm ns ks hk q (hl q (by simp))]
    exact Tr.Cm.fn h hm ns ks hk (x :: r) _ _ _ _ (fun y hy => hl y (by simp only [List.mem_cons] at hy ⊢; exact .inr hy))
theorem Tr.Cm.go (ns : List Tr.Nd) (ks : List (List Nat)) (hk : ∀ k, ∀ x ∈ Tr.kidsOf ks k, x < k) (p : Nat) (d : Int) (f : Nat) : Tr.Cm (Tr.go1 ns ks f) p d p := by
  induction f with
  | zero => intro y _ kn s; rfl
  | succ f ih =>
    intro y hy kn s
    rw [Tr.go1, Tr.go1]
    have hks : ∀ x ∈ Tr.kidsOf ks y, x < p := fun x hx => Nat.lt_trans (hk y x hx) hy
    split
    · unfold Tr.useS
      cases Tr.lookK (Tr.textOf ns y) kn with
      | some a => exact Tr.St.ext' (by simp only [Tr.faultS]; split <;> rfl) (by simp [Tr.faultS_binds])
      | none =>
        simp only
        split
        · exact Tr.St.ext' (by simp only [Tr.faultS]; split <;> rfl) (by simp [Tr.faultS_binds])
        · rw [Tr.faultS_comm _ _ _ _ _ (by omega)]
    · split
      · rfl
      · split
        · exact ih.fn (Nat.le_refl _) ns ks hk _ _ _ _ _ hks
        · split
          · unfold Tr.letS
            cases hkk : Tr.kidsOf ks y with
            | nil => rfl
            | cons x r =>
              rw [hkk] at hks
              simp only
              rw [ih x (hks x (by simp)), ih.fold _ r (fun z hz => hks z (by simp [hz]))]
          · exact ih.fold _ _ hks _

/-! ### the two come to one -/
structure Tr.Re (n : Nat) (s t : Tr.St) : Prop where
  len : s.codes.length = n
  codes : s.codes = t.codes
  binds : Tr.clean s → s.binds = t.binds
structure Tr.Se (ch : List Tr.Sp) (kn : List Tr.Kn) (s : Tr.St) : Prop where
  weak : ∀ x, (Tr.cget x ch).isSome = ((Tr.lookK x kn).isSome || decide (x.data.toList ∈ Tr.builts))
  exact : Tr.clean s → ∀ x, Tr.cget x ch = match Tr.lookK x kn with
    | some a => some (a : Int)
    | none => if x.data.toList ∈ Tr.builts then some (-2) else none
theorem Tr.Se.later {ch : List Tr.Sp} {kn : List Tr.Kn} {s s' : Tr.St} (h : Tr.Se ch kn s) (hc : Tr.clean s' → Tr.clean s) : Tr.Se ch kn s' := ⟨h.weak, fun c => h.exact (hc c)⟩
theorem Tr.Re.fault {n : Nat} {s t : Tr.St} (h : Tr.Re n s t) (k : Nat) {c : Int} (hc : c ≠ 0) : Tr.Re n (Tr.faultS k c s) (Tr.faultS k c t) :=
  ⟨(Tr.faultS_len _ _ _).trans h.len, Tr.faultS_codes _ _ _ _ h.codes, fun q => by rw [Tr.faultS_binds, Tr.faultS_binds]; exact h.binds (Tr.faultS_clean hc q)⟩
theorem Tr.lookK_snoc' (x t : ByteArray) (k : Nat) (kn : List Tr.Kn) : Tr.lookK x (kn ++ [(t, k)]) = if t = x then some k else Tr.lookK x kn := Tr.lookK_snoc x kn (t, k)
theorem Tr.cget_push (x t : ByteArray) (v : Int) (sc : Tr.Sp) (ch : List Tr.Sp) : Tr.cget x (((t, v) :: sc) :: ch) = if t = x then some v else Tr.cget x (sc :: ch) := by
  rw [Tr.cget_cons, Tr.cget_cons, Tr.sget]
  split <;> rfl
theorem Tr.Se.push {sc : Tr.Sp} {ch : List Tr.Sp} {kn : List Tr.Kn} {s : Tr.St} (h : Tr.Se (sc :: ch) kn s) (t : ByteArray) (k : Nat) : Tr.Se (((t, (k : Int)) :: sc) :: ch) (kn ++ [(t, k)]) s := by
  constructor
  · intro x
    rw [Tr.cget_push, Tr.lookK_snoc']
    by_cases e : t = x
    · rw [if_pos e, if_pos e]; rfl
    · rw [if_neg e, if_neg e]; exact h.weak x
  · intro c x
    rw [Tr.cget_push, Tr.lookK_snoc']
    by_cases e : t = x
    · rw [if_pos e, if_pos e]
    · rw [if_neg e, if_neg e]; exact h.exact c x
theorem Tr.Se.open {ch : List Tr.Sp} {kn : List Tr.Kn} {s : Tr.St} (h : Tr.Se ch kn s) : Tr.Se ([] :: ch) kn s := ⟨fun x => by rw [Tr.cget_cons]; exact h.weak x, fun c x => by rw [Tr.cget_cons]; exact h.exact c x⟩
/-- A name is entered: told twice where it is there, else put in. -/
theorem Tr.enter_se {n : Nat} {ns : List Tr.Nd} {k : Nat} {sc : Tr.Sp} {ch : List Tr.Sp} {kn : List Tr.Kn} {s t : Tr.St} (hk : k < n) (hR : Tr.Re n s t) (hS : Tr.Se (sc :: ch) kn s) :
    Tr.Re n (Tr.enterS ns k (sc, s)).2 (if (Tr.sget (Tr.textOf ns k) sc).isSome = true then Tr.faultS k 8 t else t) ∧ Tr.Se ((Tr.enterS ns k (sc, s)).1 :: ch) (kn ++ [(Tr.textOf ns k, k)]) (Tr.enterS ns k (sc, s)).2 ∧
      (Tr.clean (Tr.enterS ns k (sc, s)).2 → Tr.clean s) ∧ ∀ x, (Tr.sget x (Tr.enterS ns k (sc, s)).1).isSome = ((Tr.sget x sc).isSome || decide (Tr.textOf ns k = x)) := by
  unfold Tr.enterS
  simp only
  cases hg : Tr.sget (Tr.textOf ns k) sc with
  | none =>
    simp only [Option.isSome_none]
    refine ⟨by simpa using hR, hS.push _ _, id, fun x => ?_⟩
    rw [Tr.sget]
    by_cases e : Tr.textOf ns k = x
    · simp [e]
    · simp [e]
  | some v =>
    simp only [Option.isSome_some, if_pos]
    have hd := Tr.faultS_dirty (k := k) (c := 8) (s := s) (by decide) (by rw [hR.len]; exact hk)
    refine ⟨hR.fault k (by decide), ⟨fun x => ?_, fun c => absurd c hd⟩, Tr.faultS_clean (by decide), fun x => ?_⟩
    · rw [Tr.lookK_snoc']
      by_cases e : Tr.textOf ns k = x
      · rw [if_pos e, Tr.cget_cons, ← e, hg]; rfl
      · rw [if_neg e]; exact hS.weak x
    · by_cases e : Tr.textOf ns k = x
      · rw [← e, hg]; rfl
      · simp [e]
theorem Tr.dupS_if (ns : List Tr.Nd) (p : Nat) (seen : List Nat) (s : Tr.St) : Tr.dupS ns p seen s = if seen.any (fun x => decide (Tr.textOf ns x = Tr.textOf ns p)) = true then Tr.faultS p 8 s else s := by
  unfold Tr.dupS
  induction seen generalizing s with
  | nil => rfl
  | cons x r ih =>
    rw [List.foldl_cons, List.any_cons]
    by_cases e : Tr.textOf ns x = Tr.textOf ns p
    · rw [if_pos e, ih, decide_eq_true e, Bool.true_or, if_pos rfl]
      split
      · exact Tr.faultS_twice _ _ _ (by decide)
      · rfl
    · rw [if_neg e, ih, decide_eq_false e, Bool.false_or]
theorem Tr.dupK_if (ns : List Tr.Nd) (p : Nat) (kn : List Tr.Kn) (s : Tr.St) : Tr.dupK ns p kn s = if kn.any (fun x => decide (x.1 = Tr.textOf ns p)) = true then Tr.faultS p 8 s else s := by
  unfold Tr.dupK
  induction kn generalizing s with
  | nil => rfl
  | cons x r ih =>
    rw [List.foldl_cons, List.any_cons]
    by_cases e : x.1 = Tr.textOf ns p
    · rw [if_pos e, ih, decide_eq_true e, Bool.true_or, if_pos rfl]
      split
      · exact Tr.faultS_twice _ _ _ (by decide)
      · rfl
    · rw [if_neg e, ih, decide_eq_false e, Bool.false_or]

structure Tr.okN (ns : List Tr.Nd) (k : Nat) : Prop where
  lt : k < ns.length
  a : Tr.kindOf ns k ≠ 23
  b : Tr.kindOf ns k ≠ 24
/-- What is wanted of the kids. -/
structure Tr.Kids (ns : List Tr.Nd) (ks : List (List Nat)) : Prop where
  lt : ∀ k, ∀ x ∈ Tr.kidsOf ks k, x < k
  ok : ∀ k, Tr.okN ns k → ∀ x ∈ Tr.kidsOf ks k, Tr.okN ns x
  one : ∀ k, Tr.kindOf ns k = 19 → (Tr.kidsOf ks k).length ≤ 1
  par : ∀ k, Tr.kindOf ns k = 15 ∨ Tr.kindOf ns k = 20 → ∀ x ∈ (Tr.kidsOf ks k).dropLast, Tr.kindOf ns x = 19
def Tr.Gok (ns : List Tr.Nd) (G : Nat → List Tr.Sp → Tr.St → Tr.St) (H : Nat → List Tr.Kn → Tr.St → Tr.St) : Prop :=
  ∀ k ch kn s t, Tr.okN ns k → Tr.Re ns.length s t → Tr.Se ch kn s → Tr.Re ns.length (G k ch s) (H k kn t) ∧ (Tr.clean (G k ch s) → Tr.clean s)
theorem Tr.Gok.fold {ns : List Tr.Nd} {G : Nat → List Tr.Sp → Tr.St → Tr.St} {H : Nat → List Tr.Kn → Tr.St → Tr.St} (hG : Tr.Gok ns G H) (ch : List Tr.Sp) (kn : List Tr.Kn) (ls : List Nat) (hl : ∀ x ∈ ls, Tr.okN ns x) (s t : Tr.St) (hR : Tr.Re ns.length s t) (hS : Tr.Se ch kn s) :
    Tr.Re ns.length (Tr.all G ls ch s) (ls.foldl (fun s y => H y kn s) t) ∧ (Tr.clean (Tr.all G ls ch s) → Tr.clean s) := by
  unfold Tr.all
  induction ls generalizing s t with
  | nil => exact ⟨hR, id⟩
  | cons x r ih =>
    rw [List.foldl_cons, List.foldl_cons]
    obtain ⟨h1, h2⟩ := hG x ch kn s t (hl x (by simp)) hR hS
    obtain ⟨h3, h4⟩ := ih (fun y hy => hl y (by simp [hy])) _ _ h1 (hS.later h2)
    exact ⟨h3, fun c => h2 (h4 c)⟩
theorem Tr.Gok.fn {ns : List Tr.Nd} {ks : List (List Nat)} {G : Nat → List Tr.Sp → Tr.St → Tr.St} {H : Nat → List Tr.Kn → Tr.St → Tr.St} (hG : Tr.Gok ns G H) (hK : Tr.Kids ns ks) (hC : ∀ p d, Tr.Cm H p d p) (ch : List Tr.Sp) :
    ∀ (ls seen : List Nat) (sc : Tr.Sp) (kn : List Tr.Kn) (df : Bool) (s t : Tr.St), (∀ x ∈ ls, Tr.okN ns x) → (∀ x ∈ ls.dropLast, Tr.kindOf ns x = 19) → Tr.Re ns.length s t → Tr.Se (sc :: ch) kn s → (∀ x, (Tr.sget x sc).isSome = seen.any (fun y => decide (Tr.textOf ns y = x))) →
      Tr.Re ns.length (Tr.ifn G ns ks ls sc ch df s) (Tr.fnS H ns ks ls seen kn df t) ∧ (Tr.clean (Tr.ifn G ns ks ls sc ch df s) → Tr.clean s)
  | [], _, _, _, _, _, _, _, _, hR, _, _ => ⟨hR, id⟩
  | [x], _, _, _, _, _, _, hl, _, hR, hS, _ => hG x _ _ _ _ (hl x (by simp)) hR hS
  | p :: q :: r, seen, sc, kn, df, s, t, hl, h19, hR, hS, hsc => by
    rw [Tr.ifn, Tr.fnS]
    have hp := hl p (by simp)
    have hk19 := hK.one p (h19 p (by simp))
    have hkok := hK.ok p hp
    obtain ⟨f1, f2⟩ := hG.fold (sc :: ch) kn (Tr.kidsOf ks p) hkok s t hR hS
    obtain ⟨e1, e2, e3, e4⟩ := Tr.enter_se (ns := ns) (k := p) hp.lt f1 (hS.later f2)
    rw [hsc (Tr.textOf ns p)] at e1
    -- the specification's one
    have hspec : Tr.parS H ns ks p seen kn df t = if df = true ∧ (Tr.kidsOf ks p).length = 0 then Tr.faultS p 10 (if seen.any (fun y => decide (Tr.textOf ns y = Tr.textOf ns p)) = true then Tr.faultS p 8 ((Tr.kidsOf ks p).foldl (fun s y => H y kn s) t) else (Tr.kidsOf ks p).foldl (fun s y => H y kn s) t)
        else (if seen.any (fun y => decide (Tr.textOf ns y = Tr.textOf ns p)) = true then Tr.faultS p 8 ((Tr.kidsOf ks p).foldl (fun s y => H y kn s) t) else (Tr.kidsOf ks p).foldl (fun s y => H y kn s) t) := by
      unfold Tr.parS
      rw [Tr.dupS_if]
      cases hkk : Tr.kidsOf ks p with
      | nil => simp only [List.length_nil, and_true, List.foldl_nil]
      | cons c r' =>
        rw [hkk] at hk19
        obtain rfl : r' = [] := by cases r' with
          | nil => rfl
          | cons _ _ => simp at hk19
        have hcp := hK.lt p c (by rw [hkk]; simp)
        simp only [List.length_singleton, List.foldl_cons, List.foldl_nil]
        rw [if_neg (show ¬ (df = true ∧ 1 = 0) by simp)]
        split
        · exact hC p 8 c hcp kn t
        · rfl
    have hr2 : Tr.Re ns.length (Tr.ipar G ns ks p sc ch df s).2 (Tr.parS H ns ks p seen kn df t) := by
      rw [hspec]
      unfold Tr.ipar
      simp only
      split
      · exact e1.fault p (by decide)
      · exact e1
    have hcl : Tr.clean (Tr.ipar G ns ks p sc ch df s).2 → Tr.clean (Tr.enterS ns p (sc, Tr.all G (Tr.kidsOf ks p) (sc :: ch) s)).2 := by
      unfold Tr.ipar
      simp only
      split
      · exact Tr.faultS_clean (by decide)
      · exact id
    obtain ⟨g1, g2⟩ := Tr.Gok.fn hG hK hC ch (q :: r) (seen ++ [p]) (Tr.ipar G ns ks p sc ch df s).1 (kn ++ [(Tr.textOf ns p, p)]) (df || !decide ((Tr.kidsOf ks p).length = 0)) _ _
      (fun y hy => hl y (List.mem_cons_of_mem _ hy)) (fun y hy => h19 y (by rw [List.dropLast_cons_of_ne_nil (by simp)]; exact List.mem_cons_of_mem _ hy)) hr2 (e2.later hcl)
      (fun x => by rw [show (Tr.ipar G ns ks p sc ch df s).1 = (Tr.enterS ns p (sc, Tr.all G (Tr.kidsOf ks p) (sc :: ch) s)).1 from rfl, e4 x, hsc x, List.any_append]; simp)
    exact ⟨g1, fun c => f2 (e3 (hcl (g2 c)))⟩
theorem Tr.iwalk_go1 {ns : List Tr.Nd} {ks : List (List Nat)} (hK : Tr.Kids ns ks) (f : Nat) : Tr.Gok ns (Tr.iwalk ns ks f) (Tr.go1 ns ks f) := by
  induction f with
  | zero => intro k ch kn s t _ hR _; exact ⟨hR, id⟩
  | succ f ih =>
    intro k ch kn s t hk hR hS
    rw [Tr.iwalk, Tr.go1, if_neg hk.a, if_neg hk.b]
    by_cases h5 : Tr.kindOf ns k = 5
    · rw [if_pos h5, if_pos h5]
      unfold Tr.iuse Tr.useS
      have hw := hS.weak (Tr.textOf ns k)
      have hx := fun c => hS.exact c (Tr.textOf ns k)
      cases hl : Tr.lookK (Tr.textOf ns k) kn with
      | some a =>
        rw [hl] at hw hx
        obtain ⟨v, hv⟩ := Option.isSome_iff_exists.1 (hw.trans rfl)
        rw [hv] at hx ⊢
        exact ⟨⟨hR.len, hR.codes, fun c => by
          have e1 := hR.binds c
          have e2 := hx c
          simp only [Option.some.injEq] at e2
          simp only [e1, e2]⟩, id⟩
      | none =>
        rw [hl] at hw hx
        simp only at hx ⊢
        by_cases hb : (Tr.textOf ns k).data.toList ∈ Tr.builts
        · rw [if_pos hb]
          obtain ⟨v, hv⟩ := Option.isSome_iff_exists.1 (hw.trans (by simp [hb]))
          rw [hv] at hx ⊢
          exact ⟨⟨hR.len, hR.codes, fun c => by
            have e1 := hR.binds c
            have e2 := hx c
            rw [if_pos hb] at e2
            simp only [Option.some.injEq] at e2
            simp only [e1, e2]⟩, id⟩
        · rw [if_neg hb]
          have hv : Tr.cget (Tr.textOf ns k) ch = none := by
            cases hq : Tr.cget (Tr.textOf ns k) ch with
            | none => rfl
            | some v => rw [hq] at hw; simp [hb] at hw
          rw [hv]
          exact ⟨hR.fault k (by decide), Tr.faultS_clean (by decide)⟩
    · rw [if_neg h5, if_neg h5]
      by_cases h14 : Tr.kindOf ns k = 14 ∨ Tr.kindOf ns k = 16
      · have h15 : ¬ (Tr.kindOf ns k = 15 ∨ Tr.kindOf ns k = 20) := by omega
        rw [if_pos h14, if_neg h15, if_pos h14]
        unfold Tr.ilet Tr.letS
        have hks := hK.ok k hk
        cases hkk : Tr.kidsOf ks k with
        | nil => exact ⟨hR, id⟩
        | cons x r =>
          rw [hkk] at hks
          simp only
          obtain ⟨f1, f2⟩ := ih x ch kn s t (hks x (by simp)) hR hS
          obtain ⟨f3, f4⟩ := ih.fold _ _ r (fun y hy => hks y (by simp [hy])) _ _ f1 ((hS.open.push (Tr.textOf ns k) k).later f2)
          exact ⟨f3, fun c => f2 (f4 c)⟩
      · rw [if_neg h14]
        by_cases h15 : Tr.kindOf ns k = 15 ∨ Tr.kindOf ns k = 20
        · rw [if_pos h15, if_pos h15]
          exact ih.fn hK (fun p d => Tr.Cm.go ns ks hK.lt p d f) ch _ [] [] kn false s t (hK.ok k hk) (hK.par k h15) hR hS.open (fun x => rfl)
        · rw [if_neg h15, if_neg h15, if_neg h14]
          exact ih.fold ch kn _ (hK.ok k hk) s t hR hS
theorem Tr.ents_mk {ns : List Tr.Nd} (ch : List Tr.Sp) : ∀ (ms : List Nat) (sc : Tr.Sp) (s : Tr.St) (kn : List Tr.Kn) (t : Tr.St), (∀ x ∈ ms, x < ns.length) → Tr.Re ns.length s t → Tr.Se (sc :: ch) kn s → (∀ x, (Tr.sget x sc).isSome = kn.any (fun p => decide (p.1 = x))) →
    Tr.Re ns.length (Tr.ents ns ms (sc, s)).2 (Tr.mkS ns ms kn t).2 ∧ Tr.Se ((Tr.ents ns ms (sc, s)).1 :: ch) (Tr.mkS ns ms kn t).1 (Tr.ents ns ms (sc, s)).2
  | [], _, _, _, _, _, hR, hS, _ => ⟨hR, hS⟩
  | k :: r, sc, s, kn, t, hl, hR, hS, hsc => by
    obtain ⟨e1, e2, e3, e4⟩ := Tr.enter_se (ns := ns) (k := k) (hl k (by simp)) hR hS
    rw [hsc] at e1
    rw [show Tr.ents ns (k :: r) (sc, s) = Tr.ents ns r ((Tr.enterS ns k (sc, s)).1, (Tr.enterS ns k (sc, s)).2) from rfl, Tr.mkS, Tr.dupK_if]
    exact Tr.ents_mk ch r _ _ _ _ (fun x hx => hl x (by simp [hx])) e1 e2 (fun x => by rw [e4, hsc, List.any_append]; simp)
theorem Tr.go_loads (ns : List Tr.Nd) (ks : List (List Nat)) (f : Nat) (kn : List Tr.Kn) (ls : List Nat) (s : Tr.St) : ls.foldl (fun s y => Tr.go1 ns ks f y kn s) s = (ls.filter fun x => Tr.kindOf ns x != 23).foldl (fun s y => Tr.go1 ns ks f y kn s) s := by
  induction ls generalizing s with
  | nil => rfl
  | cons x r ih =>
    rw [List.foldl_cons, List.filter_cons, ih]
    by_cases h : Tr.kindOf ns x = 23
    · have e : Tr.go1 ns ks f x kn s = s := by
        cases f with
        | zero => rfl
        | succ f => rw [Tr.go1, if_neg (by omega), if_pos h]
      rw [e, if_neg (by simp [h])]
    · rw [if_pos (by simpa using h), List.foldl_cons]
theorem Tr.sget_map (ls : List (List UInt8)) (x : ByteArray) : Tr.sget x (ls.map fun l => (⟨l.toArray⟩, (-2 : Int))) = if x.data.toList ∈ ls then some (-2) else none := by
  induction ls with
  | nil => rfl
  | cons l r ih =>
    rw [List.map_cons, Tr.sget, ih]
    by_cases e : l = x.data.toList
    · rw [if_pos (by rw [e]), if_pos (by simp [e])]
    · rw [if_neg (fun h => e (by rw [← h]))]
      by_cases h : x.data.toList ∈ r
      · rw [if_pos h, if_pos (by simp [h])]
      · rw [if_neg h, if_neg (by simp [h, Ne.symm e])]
theorem Tr.builtSp_get (x : ByteArray) : Tr.sget x Tr.builtSp = if x.data.toList ∈ Tr.builts then some (-2) else none := by
  unfold Tr.builtSp
  rw [Tr.sget_map]
  congr 1
  apply propext
  unfold Tr.builts
  simp only [List.mem_cons, List.not_mem_nil, or_false]
  constructor <;> (intro h; rcases h with h | h | h | h | h | h | h | h | h | h | h | h | h | h | h <;> simp [h])
def Tr.ilook (ns : List Tr.Nd) (ks : List (List Nat)) : Tr.St := Tr.iwalk ns ks ns.length (ns.length - 1) [Tr.builtSp] (Tr.st0 ns.length)
theorem Tr.st0_clean (n : Nat) : Tr.clean (Tr.st0 n) := fun _ h => (List.mem_replicate.1 h).2
theorem Tr.ilook_lookS {ns : List Tr.Nd} {ks : List (List Nat)} (hK : Tr.Kids ns ks) (h1 : 1 ≤ ns.length) (hlast : Tr.kindOf ns (ns.length - 1) = 24) (hfile : ∀ x ∈ Tr.kidsOf ks (ns.length - 1), Tr.kindOf ns x ≠ 24) (hks : ∀ k, ∀ x ∈ Tr.kidsOf ks k, x < ns.length) :
    Tr.Re ns.length (Tr.ilook ns ks) (Tr.lookS ns ks) := by
  unfold Tr.ilook Tr.lookS
  obtain ⟨f, hf⟩ : ∃ f, ns.length = f + 1 := ⟨ns.length - 1, by omega⟩
  generalize hm : ns.length - 1 = m at *
  have hgo : ∀ kn s, Tr.go1 ns ks ns.length m kn s = (Tr.kidsOf ks m).foldl (fun s y => Tr.go1 ns ks f y kn s) s := by
    intro kn s
    rw [hf, Tr.go1, if_neg (by omega), if_neg (by omega), if_neg (by omega), if_neg (by omega)]
  have hiw : ∀ ch s, Tr.iwalk ns ks ns.length m ch s = Tr.ifile (Tr.iwalk ns ks f) ns ks (Tr.kidsOf ks m) ch s := by
    intro ch s
    rw [hf, Tr.iwalk, if_neg (by omega), if_neg (by omega), if_neg (by omega), if_pos hlast]
  rw [hgo, hiw, Tr.go_loads]
  unfold Tr.ifile
  have hmk : ∀ x ∈ Tr.makesOf ns ks (Tr.kidsOf ks m), x < ns.length := by
    intro x hx
    obtain ⟨y, hy, hxy⟩ := List.mem_flatMap.1 hx
    unfold Tr.mk1 at hxy
    split at hxy
    · have : x = y := by simpa using hxy
      subst this; exact hks m x hy
    · split at hxy
      · exact hks y x hxy
      · cases hxy
  have hS0 : Tr.Se ([] :: [Tr.builtSp]) [] (Tr.st0 ns.length) := by
    refine Tr.Se.open ⟨fun x => ?_, fun _ x => ?_⟩
    · rw [Tr.cget_cons, Tr.builtSp_get]
      by_cases h : x.data.toList ∈ Tr.builts
      · simp [h, Tr.lookK]
      · simp [h, Tr.lookK, Tr.cget]
    · rw [Tr.cget_cons, Tr.builtSp_get]
      by_cases h : x.data.toList ∈ Tr.builts
      · simp [h, Tr.lookK]
      · simp [h, Tr.lookK, Tr.cget]
  obtain ⟨g1, g2⟩ := Tr.ents_mk (ns := ns) [Tr.builtSp] (Tr.makesOf ns ks (Tr.kidsOf ks m)) [] (Tr.st0 ns.length) [] (Tr.st0 ns.length) hmk ⟨by simp [Tr.st0], rfl, fun _ => rfl⟩ hS0 (fun x => rfl)
  exact ((Tr.iwalk_go1 hK f).fold _ _ _ (fun x hx => by
    obtain ⟨hx1, hx2⟩ := List.mem_filter.1 hx
    exact ⟨hks m x hx1, by simpa using hx2, hfile x hx1⟩) _ _ g1 g2).1
theorem Tr.firstC_clean (l : List Int) (i : Nat) : (Tr.firstC l i).1 = 0 ↔ ∀ c ∈ l, c = 0 := by
  induction l generalizing i with
  | nil => simp [Tr.firstC]
  | cons c r ih =>
    rw [Tr.firstC]
    by_cases h : c = 0
    · rw [if_pos h, ih]; simp [h]
    · rw [if_neg h]; simp [h]
end Go.Proofs.YtmklgiononbmmaaDoor
