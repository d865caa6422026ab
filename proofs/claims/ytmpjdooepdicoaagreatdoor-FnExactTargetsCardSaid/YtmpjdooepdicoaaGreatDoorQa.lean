/- The plain mathematics of values: atoms, and the trees that they make. No program, no world. -/
import Derived.WalkKit
namespace Go.Proofs.YtmpjdooepdicoaaGreatDoor.Vl

structure At where
  kind : Int
  n : Int
  text : ByteArray
  kids : Int

structure T where
  mk ::
  (kind' n' : Int)
  (text' : ByteArray)
  (ks' : List T)

def T.kind : T → Int | .mk k _ _ _ => k
def T.num : T → Int | .mk _ n _ _ => n
def T.text : T → ByteArray | .mk _ _ s _ => s
def T.ks : T → List T | .mk _ _ _ l => l
theorem T.eta (t : T) : t = .mk t.kind t.num t.text t.ks := by cases t; rfl

def T.atoms : T → List At
  | .mk k n s ks => atomsL ks ++ [⟨k, n, s, ks.length⟩]
  where
  atomsL : List T → List At
  | [] => []
  | t :: r => t.atoms ++ atomsL r
open T.atoms
theorem T.atoms_eq (t : T) : t.atoms = atomsL t.ks ++ [⟨t.kind, t.num, t.text, t.ks.length⟩] := by cases t; simp [T.atoms, T.kind, T.num, T.text, T.ks]
theorem atomsL_append (a b : List T) : atomsL (a ++ b) = atomsL a ++ atomsL b := by
  induction a with
  | nil => simp [atomsL]
  | cons t r ih => simp [atomsL, ih]
theorem atoms_pos (t : T) : 0 < t.atoms.length := by rw [T.atoms_eq]; simp
theorem atomsL_take_le (l : List T) (j : Nat) : (atomsL (l.take j)).length ≤ (atomsL l).length := by
  have h := congrArg (fun x => (atomsL x).length) (List.take_append_drop j l)
  simp only [atomsL_append, List.length_append] at h
  omega
theorem len_le_atomsL (l : List T) : l.length ≤ (atomsL l).length := by
  induction l with
  | nil => simp
  | cons t r ih => have := atoms_pos t; simp [atomsL]; omega

/-- The open values, run over atoms. -/
def run : List At → List T → Option (List T)
  | [], st => some st
  | a :: r, st => if a.kids < 0 ∨ (st.length : Int) < a.kids then none else run r (st.take (st.length - a.kids.toNat) ++ [.mk a.kind a.n a.text (st.drop (st.length - a.kids.toNat))])

theorem run_append (a b : List At) (st : List T) : run (a ++ b) st = (run a st).bind (run b) := by
  induction a generalizing st with
  | nil => rfl
  | cons x r ih =>
    rw [List.cons_append, run, run]
    split
    · rfl
    · rw [ih]

theorem run_T (t : T) (st : List T) : run t.atoms st = some (st ++ [t]) := by
  match t with
  | .mk k n s ks =>
    rw [T.atoms, run_append, run_L ks st]
    simp [run]
  where
  run_L (l : List T) (st : List T) : run (atomsL l) st = some (st ++ l) := by
    match l with
    | [] => simp [atomsL, run]
    | t :: r =>
      rw [atomsL, run_append, run_T t st]
      simp only [Option.bind_some]
      rw [run_L r]
      simp

theorem run_atoms (l : List At) (st st' : List T) (h : run l st = some st') : atomsL st' = atomsL st ++ l := by
  induction l generalizing st with
  | nil => simp [run] at h; simp [h]
  | cons a r ih =>
    rw [run] at h
    split at h
    · cases h
    · rename_i hk
      rw [ih _ h, atomsL_append]
      have e : atomsL st = atomsL (st.take (st.length - a.kids.toNat)) ++ atomsL (st.drop (st.length - a.kids.toNat)) := by rw [← atomsL_append, List.take_append_drop]
      rw [e]
      simp only [atomsL, T.atoms, List.append_nil, List.append_assoc, List.singleton_append]
      congr 2
      have : ((st.drop (st.length - a.kids.toNat)).length : Int) = a.kids := by simp; omega
      rw [this]

def treeOf (l : List At) : Option T := match run l [] with
  | some [t] => some t
  | _ => none
theorem treeOf_some {l : List At} {t : T} (h : treeOf l = some t) : l = t.atoms := by
  unfold treeOf at h
  split at h
  · rename_i t' ht
    cases h
    have := run_atoms l [] [t] ht
    simpa [atomsL] using this.symm
  · cases h
theorem treeOf_atoms (t : T) : treeOf t.atoms = some t := by simp [treeOf, run_T]

/-- Two texts in their order. -/
def slt (a b : ByteArray) : Bool := Go.Op.bytesLess a.toList b.toList

/-- The names of a record. -/
def names : List T → Bool
  | a :: _ :: c :: r => a.kind == 4 && c.kind == 4 && slt a.text c.text && names (c :: r)
  | [a, _] => a.kind == 4
  | [_] => false
  | [] => true

def plain (k n : Int) (s : ByteArray) (ks : List T) : Bool :=
  (k == 2 || k == 3 || n == 0) && (k == 4 || s.size == 0) && (k == 5 || k == 6 || ks.length == 0) &&
  (k == 1 || k == 3 || k == 2 && (n == 0 || n == 1) || k == 4 && decide (s.size ≤ 1000) || k == 5 && decide (ks.length ≤ 200) || k == 6 && decide (ks.length % 2 = 0 ∧ ks.length ≤ 400) && names ks)

def T.ok : T → Nat → Bool
  | .mk k n s ks, above => decide (above ≤ 12) && plain k n s ks && okL ks (above + 1)
  where
  okL : List T → Nat → Bool
  | [], _ => true
  | t :: r, above => t.ok above && okL r above
open T.ok
theorem T.ok_eq (t : T) (a : Nat) : t.ok a = (decide (a ≤ 12) && plain t.kind t.num t.text t.ks && okL t.ks (a + 1)) := by cases t; simp [T.ok, T.kind, T.num, T.text, T.ks]

def T.high : T → Nat
  | .mk _ _ _ ks => highL ks
  where
  highL : List T → Nat
  | [] => 0
  | t :: r => max (t.high + 1) (highL r)
open T.high
theorem T.high_eq (t : T) : t.high = highL t.ks := by cases t; simp [T.high, T.ks]
def T.count (t : T) : Nat := t.atoms.length
theorem T.count_eq (t : T) : t.count = 1 + (atomsL t.ks).length := by rw [T.count, T.atoms_eq]; simp; omega

def T.good : T → Bool
  | .mk k n s ks => plain k n s ks && decide (highL ks ≤ 12) && goodL ks
  where
  goodL : List T → Bool
  | [] => true
  | t :: r => t.good && goodL r
open T.good
theorem T.good_eq (t : T) : t.good = (plain t.kind t.num t.text t.ks && decide (highL t.ks ≤ 12) && goodL t.ks) := by cases t; rw [T.good]; rfl
theorem goodL_append (a b : List T) : goodL (a ++ b) = (goodL a && goodL b) := by
  induction a with
  | nil => simp [goodL]
  | cons t r ih => simp [goodL, ih, Bool.and_assoc]

def T.allPlain : T → Bool
  | .mk k n s ks => plain k n s ks && allPlainL ks
  where
  allPlainL : List T → Bool
  | [] => true
  | t :: r => t.allPlain && allPlainL r
open T.allPlain
theorem ok_split (t : T) (a : Nat) : t.ok a = (decide (a + t.high ≤ 12) && t.allPlain) := by
  match t with
  | .mk k n s ks =>
    rw [T.ok, T.high, T.allPlain, okL_split ks a]
    by_cases hk : ks = []
    · subst hk; simp [highL, allPlainL]; rfl
    · cases plain k n s ks <;> cases allPlainL ks <;> simp [hk]
      omega
  where
  okL_split (l : List T) (a : Nat) : okL l (a + 1) = (decide (a + highL l ≤ 12 ∨ l = []) && allPlainL l) := by
    match l with
    | [] => simp [okL, allPlainL]
    | t :: r =>
      rw [okL, highL, allPlainL, ok_split t (a + 1), okL_split r a]
      cases t.allPlain <;> cases allPlainL r <;> simp
      by_cases hr : r = []
      · subst hr; simp [highL]; omega
      · rw [Bool.eq_iff_iff]; simp [hr]; omega
theorem good_split (t : T) : t.good = (decide (t.high ≤ 12) && t.allPlain) := by
  match t with
  | .mk k n s ks =>
    rw [T.good, T.high, T.allPlain]
    rw [show goodL ks = (decide (highL ks ≤ 13) && allPlainL ks) from goodL_split ks]
    cases plain k n s ks <;> cases allPlainL ks <;> simp
    omega
  where
  goodL_split (l : List T) : goodL l = (decide (highL l ≤ 13) && allPlainL l) := by
    match l with
    | [] => simp [goodL, highL, allPlainL]
    | t :: r =>
      rw [goodL, highL, allPlainL, good_split t, goodL_split r]
      cases t.allPlain <;> cases allPlainL r <;> simp
      rw [← Bool.decide_and, decide_eq_decide]; omega
theorem ok_good (t : T) : t.ok 0 = t.good := by rw [ok_split, good_split, Nat.zero_add]

/-- The open values, run over atoms, each looked at when it is made. -/
def irun : List At → List T → Option (List T)
  | [], st => some st
  | a :: r, st => if a.kids < 0 ∨ (st.length : Int) < a.kids then none else
      if (plain a.kind a.n a.text (st.drop (st.length - a.kids.toNat)) && decide (highL (st.drop (st.length - a.kids.toNat)) ≤ 12)) = true then
        irun r (st.take (st.length - a.kids.toNat) ++ [.mk a.kind a.n a.text (st.drop (st.length - a.kids.toNat))]) else none

theorem goodL_parts (st : List T) (k : Nat) : goodL st = (goodL (st.take k) && goodL (st.drop k)) := by rw [← goodL_append, List.take_append_drop]
theorem run_bad (l : List At) (st st' : List T) (h : run l st = some st') (hb : goodL st = false) : goodL st' = false := by
  induction l generalizing st with
  | nil => simp [run] at h; rw [← h]; exact hb
  | cons a r ih =>
    rw [run] at h
    split at h
    · cases h
    · refine ih _ h ?_
      rw [goodL_parts st (st.length - a.kids.toNat)] at hb
      rw [goodL_append]
      simp only [goodL, T.good]
      cases h1 : goodL (st.take (st.length - a.kids.toNat)) <;> cases h2 : goodL (st.drop (st.length - a.kids.toNat)) <;> simp_all
theorem irun_eq (l : List At) (st : List T) (hg : goodL st = true) : irun l st = match run l st with
    | none => none
    | some st' => if goodL st' = true then some st' else none := by
  induction l generalizing st with
  | nil => simp [irun, run, hg]
  | cons a r ih =>
    rw [irun, run]
    split
    · rfl
    · have hp := goodL_parts st (st.length - a.kids.toNat)
      rw [hg] at hp
      obtain ⟨hp1, hp2⟩ := Bool.and_eq_true_iff.1 hp.symm
      split
      · rename_i hn
        rw [ih]
        rw [goodL_append, hp1]
        simp only [goodL, T.good, hn, hp2]; rfl
      · rename_i hn
        cases hr : run r (st.take (st.length - a.kids.toNat) ++ [.mk a.kind a.n a.text (st.drop (st.length - a.kids.toNat))]) with
        | none => rfl
        | some st' =>
          have := run_bad r _ st' hr (by rw [goodL_append]; simp only [goodL, T.good]; rw [Bool.not_eq_true] at hn; rw [hn]; simp)
          simp [this]

/-- A value is valid. -/
def valid (l : List At) : Bool := decide (l.length ≤ 1000) && match treeOf l with
  | none => false
  | some t => t.ok 0
def ivalid (l : List At) : Bool := decide (l.length ≤ 1000) && match irun l [] with
  | some [_] => true
  | _ => false
theorem ivalid_eq (l : List At) : ivalid l = valid l := by
  unfold ivalid valid treeOf
  rw [irun_eq l [] rfl]
  cases h : run l [] with
  | none => rfl
  | some st =>
    match st with
    | [] => by_cases h : goodL [] = true <;> simp [h]
    | [t] =>
      simp only [goodL, Bool.and_true]
      rw [ok_good]
      cases ht : t.good <;> simp
    | a :: b :: r => cases goodL (a :: b :: r) <;> simp

end Go.Proofs.YtmpjdooepdicoaaGreatDoor.Vl
