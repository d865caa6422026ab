/- Joined: Qa, Qb. -/
import Derived.WalkKit
import Derived.Test.YtnkfbjcgkdblgaaGreatProg
import Derived.WalkSpells
import Derived.WalkLawsBesides
import Derived.Deep.DeepFit
import Derived.Deep.DeepMust
import Derived.Deep.QuietTactic
import Derived.BigQuiet
import Derived.Deep.RegionWith
import Derived.Deep.RegionLaw
import Derived.Maps.AppendAt
import Derived.Deep.RegionHeld3
import Derived.Lib.Strings
import Derived.WalkSmall
namespace Go.Proofs.YtnkfbjcgkdblgaaGreat.Vl

structure At where
  kind : Int
  n : Int
  text : ByteArray
  kids : Int

structure T where
  mk ::
  (kind' n' : Int)
  (text' : ByteArray)
  (ks' : List T)

def T.kind : T → Int | .mk k _ _ _ => k
def T.num : T → Int | .mk _ n _ _ => n
def T.text : T → ByteArray | .mk _ _ s _ => s
def T.ks : T → List T | .mk _ _ _ l => l
theorem T.eta (t : T) : t = .mk t.kind t.num t.text t.ks := by cases t; rfl

def T.atoms : T → List At
  | .mk k n s ks => atomsL ks ++ [⟨k, n, s, ks.length⟩]
  where
  atomsL : List T → List At
  | [] => []
  | t :: r => t.atoms ++ atomsL r
open T.atoms
theorem T.atoms_eq (t : T) : t.atoms = atomsL t.ks ++ [⟨t.kind, t.num, t.text, t.ks.length⟩] := by cases t; simp [T.atoms, T.kind, T.num, T.text, T.ks]
theorem atomsL_append (a b : List T) : atomsL (a ++ b) = atomsL a ++ atomsL b := by
  induction a with
  | nil => simp [atomsL]
  | cons t r ih => simp [atomsL, ih]
theorem atoms_pos (t : T) : 0 < t.atoms.length := by rw [T.atoms_eq]; simp
theorem atomsL_take_le (l : List T) (j : Nat) : (atomsL (l.take j)).length ≤ (atomsL l).length := by
  have h := congrArg (fun x => (atomsL x).length) (List.take_append_drop j l)
  simp only [atomsL_append, List.length_append] at h
  omega
theorem len_le_atomsL (l : List T) : l.length ≤ (atomsL l).length := by
  induction l with
  | nil => simp
  | cons t r ih => have := atoms_pos t; simp [atomsL]; omega

/-- The open values, run over atoms. -/
def run : List At → List T → Option (List T)
  | [], st => some st
  | a :: r, st => if a.kids < 0 ∨ (st.length : Int) < a.kids then none else run r (st.take (st.length - a.kids.toNat) ++ [.mk a.kind a.n a.text (st.drop (st.length - a.kids.toNat))])

theorem run_append (a b : List At) (st : List T) : run (a ++ b) st = (run a st).bind (run b) := by
  induction a generalizing st with
  | nil => rfl
  | cons x r ih =>
    rw [List.cons_append, run, run]
    split
    · rfl
    · rw [ih]

theorem run_T (t : T) (st : List T) : run t.atoms st = some (st ++ [t]) := by
  match t with
  | .mk k n s ks =>
    rw [T.atoms, run_append, run_L ks st]
    simp [run]
  where
  run_L (l : List T) (st : List T) : run (atomsL l) st = some (st ++ l) := by
    match l with
    | [] => simp [atomsL, run]
    | t :: r =>
      rw [atomsL, run_append, run_T t st]
      simp only [Option.bind_some]
      rw [run_L r]
      simp

theorem run_atoms (l : List At) (st st' : List T) (h : run l st = some st') : atomsL st' = atomsL st ++ l := by
  induction l generalizing st with
  | nil => simp [run] at h; simp [h]
  | cons a r ih =>
    rw [run] at h
    split at h
    · cases h
    · rename_i hk
      rw [ih _ h, atomsL_append]
      have e : atomsL st = atomsL (st.take (st.length - a.kids.toNat)) ++ atomsL (st.drop (st.length - a.kids.toNat)) := by rw [← atomsL_append, List.take_append_drop]
      rw [e]
      simp only [atomsL, T.atoms, List.append_nil, List.append_assoc, List.singleton_append]
      congr 2
      have : ((st.drop (st.length - a.kids.toNat)).length : Int) = a.kids := by simp; omega
      rw [this]

def treeOf (l : List At) : Option T := match run l [] with
  | some [t] => some t
  | _ => none
theorem treeOf_some {l : List At} {t : T} (h : treeOf l = some t) : l = t.atoms := by
  unfold treeOf at h
  split at h
  · rename_i t' ht
    cases h
    have := run_atoms l [] [t] ht
    simpa [atomsL] using this.symm
  · cases h
theorem treeOf_atoms (t : T) : treeOf t.atoms = some t := by simp [treeOf, run_T]

/-- Two texts in their order. -/
def slt (a b : ByteArray) : Bool := Go.Op.bytesLess a.toList b.toList

/-- The names of a record. -/
def names : List T → Bool
  | a :: _ :: c :: r => a.kind == 4 && c.kind == 4 && slt a.text c.text && names (c :: r)
  | [a, _] => a.kind == 4
  | [_] => false
  | [] => true

def plain (k n : Int) (s : ByteArray) (ks : List T) : Bool :=
  (k == 2 || k == 3 || n == 0) && (k == 4 || s.size == 0) && (k == 5 || k == 6 || ks.length == 0) &&
  (k == 1 || k == 3 || k == 2 && (n == 0 || n == 1) || k == 4 && decide (s.size ≤ 1000) || k == 5 && decide (ks.length ≤ 200) || k == 6 && decide (ks.length % 2 = 0 ∧ ks.length ≤ 400) && names ks)

def T.ok : T → Nat → Bool
  | .mk k n s ks, above => decide (above ≤ 12) && plain k n s ks && okL ks (above + 1)
  where
  okL : List T → Nat → Bool
  | [], _ => true
  | t :: r, above => t.ok above && okL r above
open T.ok
theorem T.ok_eq (t : T) (a : Nat) : t.ok a = (decide (a ≤ 12) && plain t.kind t.num t.text t.ks && okL t.ks (a + 1)) := by cases t; simp [T.ok, T.kind, T.num, T.text, T.ks]

def T.high : T → Nat
  | .mk _ _ _ ks => highL ks
  where
  highL : List T → Nat
  | [] => 0
  | t :: r => max (t.high + 1) (highL r)
open T.high
theorem T.high_eq (t : T) : t.high = highL t.ks := by cases t; simp [T.high, T.ks]
def T.count (t : T) : Nat := t.atoms.length
theorem T.count_eq (t : T) : t.count = 1 + (atomsL t.ks).length := by rw [T.count, T.atoms_eq]; simp; omega

def T.good : T → Bool
  | .mk k n s ks => plain k n s ks && decide (highL ks ≤ 12) && goodL ks
  where
  goodL : List T → Bool
  | [] => true
  | t :: r => t.good && goodL r
open T.good
theorem T.good_eq (t : T) : t.good = (plain t.kind t.num t.text t.ks && decide (highL t.ks ≤ 12) && goodL t.ks) := by cases t; rw [T.good]; rfl
theorem goodL_append (a b : List T) : goodL (a ++ b) = (goodL a && goodL b) := by
  induction a with
  | nil => simp [goodL]
  | cons t r ih => simp [goodL, ih, Bool.and_assoc]

def T.allPlain : T → Bool
  | .mk k n s ks => plain k n s ks && allPlainL ks
  where
  allPlainL : List T → Bool
  | [] => true
  | t :: r => t.allPlain && allPlainL r
open T.allPlain
theorem ok_split (t : T) (a : Nat) : t.ok a = (decide (a + t.high ≤ 12) && t.allPlain) := by
  match t with
  | .mk k n s ks =>
    rw [T.ok, T.high, T.allPlain, okL_split ks a]
    by_cases hk : ks = []
    · subst hk; simp [highL, allPlainL]; rfl
    · cases plain k n s ks <;> cases allPlainL ks <;> simp [hk]
      omega
  where
  okL_split (l : List T) (a : Nat) : okL l (a + 1) = (decide (a + highL l ≤ 12 ∨ l = []) && allPlainL l) := by
    match l with
    | [] => simp [okL, allPlainL]
    | t :: r =>
      rw [okL, highL, allPlainL, ok_split t (a + 1), okL_split r a]
      cases t.allPlain <;> cases allPlainL r <;> simp
      by_cases hr : r = []
      · subst hr; simp [highL]; omega
      · rw [Bool.eq_iff_iff]; simp [hr]; omega
theorem good_split (t : T) : t.good = (decide (t.high ≤ 12) && t.allPlain) := by
  match t with
  | .mk k n s ks =>
    rw [T.good, T.high, T.allPlain]
    rw [show goodL ks = (decide (highL ks ≤ 13) && allPlainL ks) from goodL_split ks]
    cases plain k n s ks <;> cases allPlainL ks <;> simp
    omega
  where
  goodL_split (l : List T) : goodL l = (decide (highL l ≤ 13) && allPlainL l) := by
    match l with
    | [] => simp [goodL, highL, allPlainL]
    | t :: r =>
      rw [goodL, highL, allPlainL, good_split t, goodL_split r]
      cases t.allPlain <;> cases allPlainL r <;> simp
      rw [← Bool.decide_and, decide_eq_decide]; omega
theorem ok_good (t : T) : t.ok 0 = t.good := by rw [ok_split, good_split, Nat.zero_add]

/-- The open values, run over atoms, each looked at when it is made. -/
def irun : List At → List T → Option (List T)
  | [], st => some st
  | a :: r, st => if a.kids < 0 ∨ (st.length : Int) < a.kids then none else
      if (plain a.kind a.n a.text (st.drop (st.length - a.kids.toNat)) && decide (highL (st.drop (st.length - a.kids.toNat)) ≤ 12)) = true then
        irun r (st.take (st.length - a.kids.toNat) ++ [.mk a.kind a.n a.text (st.drop (st.length - a.kids.toNat))]) else none

theorem goodL_parts (st : List T) (k : Nat) : goodL st = (goodL (st.take k) && goodL (st.drop k)) := by rw [← goodL_append, List.take_append_drop]
theorem run_bad (l : List At) (st st' : List T) (h : run l st = some st') (hb : goodL st = false) : goodL st' = false := by
  induction l generalizing st with
  | nil => simp [run] at h; rw [← h]; exact hb
  | cons a r ih =>
    rw [run] at h
    split at h
    · cases h
    · refine ih _ h ?_
      rw [goodL_parts st (st.length - a.kids.toNat)] at hb
      rw [goodL_append]
      simp only [goodL, T.good]
      cases h1 : goodL (st.take (st.length - a.kids.toNat)) <;> cases h2 : goodL (st.drop (st.length - a.kids.toNat)) <;> simp_all
theorem irun_eq (l : List At) (st : List T) (hg : goodL st = true) : irun l st = match run l st with
    | none => none
    | some st' => if goodL st' = true then some st' else none := by
  induction l generalizing st with
  | nil => simp [irun, run, hg]
  | cons a r ih =>
    rw [irun, run]
    split
    · rfl
    · have hp := goodL_parts st (st.length - a.kids.toNat)
      rw [hg] at hp
      obtain ⟨hp1, hp2⟩ := Bool.and_eq_true_iff.1 hp.symm
      split
      · rename_i hn
        rw [ih]
        rw [goodL_append, hp1]
        simp only [goodL, T.good, hn, hp2]; rfl
      · rename_i hn
        cases hr : run r (st.take (st.length - a.kids.toNat) ++ [.mk a.kind a.n a.text (st.drop (st.length - a.kids.toNat))]) with
        | none => rfl
        | some st' =>
          have := run_bad r _ st' hr (by rw [goodL_append]; simp only [goodL, T.good]; rw [Bool.not_eq_true] at hn; rw [hn]; simp)
          simp [this]

/-- A value is valid. -/
def valid (l : List At) : Bool := decide (l.length ≤ 1000) && match treeOf l with
  | none => false
  | some t => t.ok 0
def ivalid (l : List At) : Bool := decide (l.length ≤ 1000) && match irun l [] with
  | some [_] => true
  | _ => false
theorem ivalid_eq (l : List At) : ivalid l = valid l := by
  unfold ivalid valid treeOf
  rw [irun_eq l [] rfl]
  cases h : run l [] with
  | none => rfl
  | some st =>
    match st with
    | [] => by_cases h : goodL [] = true <;> simp [h]
    | [t] =>
      simp only [goodL, Bool.and_true]
      rw [ok_good]
      cases ht : t.good <;> simp
    | a :: b :: r => cases goodL (a :: b :: r) <;> simp

end Go.Proofs.YtnkfbjcgkdblgaaGreat.Vl
namespace Go.Proofs.YtnkfbjcgkdblgaaGreat.Vl
open Go.RowKit T.atoms T.ok T.high T.good T.allPlain

theorem hide {p : Prop} (h : p) : Hid p := h
theorem ret_bool {a b : Bool} (h : a = b) : Ending.returned (.bool a) = .returned (.bool b) := by rw [h]
theorem ret_int {k : IntKind} {a b : Int} (h : a = b) : Ending.returned (.int k a) = .returned (.int k b) := by rw [h]

/-- Atoms lie in a block from a cell on. -/
def AtomsO (w : World) (g o : Nat) (l : List At) : Prop := g < w.heap.size ∧ ∀ i (h : i < l.length), w.cell? ⟨g, o + i * 4, none⟩ = some (.int .i64 l[i].kind) ∧ w.cell? ⟨g, o + i * 4 + 1, none⟩ = some (.int .i64 l[i].n) ∧ w.cell? ⟨g, o + i * 4 + 2, none⟩ = some (.string l[i].text) ∧ w.cell? ⟨g, o + i * 4 + 3, none⟩ = some (.int .i64 l[i].kids)
theorem AtomsO.below {w w' : World} {g o : Nat} {l : List At} (h : AtomsO w g o l) (hb : Below w.heap.size w w') : AtomsO w' g o l := by
  refine ⟨Nat.lt_of_lt_of_le h.1 hb.size, fun i hi => ?_⟩
  obtain ⟨a, b, c, d⟩ := h.2 i hi
  exact ⟨(hb.cell (p := ⟨g, o + i * 4, none⟩) h.1).trans a, (hb.cell (p := ⟨g, o + i * 4 + 1, none⟩) h.1).trans b, (hb.cell (p := ⟨g, o + i * 4 + 2, none⟩) h.1).trans c, (hb.cell (p := ⟨g, o + i * 4 + 3, none⟩) h.1).trans d⟩
theorem AtomsO.part {w : World} {g o : Nat} {l a b c : List At} (h : AtomsO w g o l) (e : l = a ++ b ++ c) : AtomsO w g (o + a.length * 4) b := by
  refine ⟨h.1, fun i hi => ?_⟩
  have q := h.2 (a.length + i) (by rw [e]; simp; omega)
  have e2 : l[a.length + i]'(by rw [e]; simp; omega) = b[i] := by
    subst e
    rw [List.getElem_append_left (by simp; omega), List.getElem_append_right (by omega)]
    simp
  rw [e2, show o + (a.length + i) * 4 = o + a.length * 4 + i * 4 from by omega] at q
  exact q
/-- A slice value that shows these atoms. -/
def AtomsV (w : World) (v : Value) (l : List At) : Prop := (∃ p c, v = .slice p 0 c ∧ l = []) ∨ ∃ g o c, v = .slice (some ⟨g, o, none⟩) l.length c ∧ AtomsO w g o l ∧ l.length ≤ c
theorem AtomsV.below {w w' : World} {v : Value} {l : List At} (h : AtomsV w v l) (hb : Below w.heap.size w w') : AtomsV w' v l := by
  rcases h with h | ⟨g, o, c, h1, h2, h3⟩
  · exact .inl h
  · exact .inr ⟨g, o, c, h1, h2.below hb, h3⟩

def vint (x : Nat) : Value := .int .i64 x
theorem vint_one (l : List Nat) : ∀ u ∈ l.map vint, u.oneCell' = true := by
  intro u hu
  obtain ⟨x, _, rfl⟩ := List.mem_map.1 hu
  rfl
theorem heap_alloc_new (w : World) (o : Obj) : (w.alloc o).heap[w.heap.size]? = some o := (Go.MapKept.heap_alloc w o).1
theorem add_plain (g o j : Nat) : ((⟨g, o, none⟩ : Addr).add j) = ⟨g, o + j, none⟩ := by unfold Addr.add; split <;> simp_all
theorem cell_one (w : World) (u : Value) (t : TypeId) : ∀ (j : Nat) (x : Value), ([u] : List Value)[j]? = some x → (w.alloc (.cells #[u] t)).cell? ((⟨w.heap.size, 0, none⟩ : Addr).add j) = some x := by
  intro j x h
  rw [add_plain, Nat.zero_add, World.cell?, heap_alloc_new]
  simpa using h
theorem row_mono {w : World} {base base' : Nat} {e : TypeId} {size : Nat} {v : Value} {n : Nat} {xs : List Value} (h : w.ownsRow base e size v n xs) (hb : base' ≤ base) : w.ownsRow base' e size v n xs := by
  refine ⟨h.1, ?_⟩
  rcases h.2 with h | ⟨g, cap, cur, h1, h2, h3⟩
  · exact .inl h
  · exact .inr ⟨g, cap, cur, h1, Nat.le_trans hb h2, h3⟩
theorem row_take {w : World} {base size : Nat} {e : TypeId} {g n cap : Nat} {xs : List Value} (h : w.ownsRow base e size (.slice (some ⟨g, 0, none⟩) n cap) n xs) (m : Nat) (hm : m ≤ n) : w.ownsRow base e size (.slice (some ⟨g, 0, none⟩) m cap) m (xs.take (m * size)) := by
  obtain ⟨h1, h2⟩ := h
  have hms : m * size ≤ n * size := Nat.mul_le_mul_right _ hm
  refine ⟨by rw [List.length_take, h1]; omega, .inr ?_⟩
  rcases h2 with ⟨h2, _⟩ | ⟨g', cap', cur, hv, hb, hg, hn, hc, hs, ht⟩
  · cases h2
  · cases hv
    refine ⟨g, cap, cur, rfl, hb, hg, by omega, hc, hs, ?_⟩
    rw [← ht, List.take_take, Nat.min_eq_left hms]
theorem row_room {w : World} {base : Nat} {e : TypeId} {size g n cap : Nat} {xs : List Value} (h : w.ownsRow base e size (.slice (some ⟨g, 0, none⟩) n cap) n xs) : n ≤ cap ∧ base ≤ g ∧ g < w.heap.size := by
  have hl := h.lt g rfl
  rcases h.2 with ⟨h2, _⟩ | ⟨g', cap', cur, hv, hb, hg, hn, hc, hs, ht⟩
  · cases h2
  · cases hv; exact ⟨hn, hl.1, hl.2⟩
theorem row_below {w w1 : World} {base : Nat} {e : TypeId} {size : Nat} {v : Value} {n : Nat} {xs : List Value} (h : w.ownsRow base e size v n xs) (hb : Below w.heap.size w w1) : w1.ownsRow base e size v n xs := by
  have hg : w.grownBy w1 none := ⟨hb.os, hb.tape, hb.output, hb.size, fun k hk _ => hb.block k hk⟩
  refine h.kept hg ?_
  cases hv : v.ownBlock with
  | none => exact .inl rfl
  | some k => exact .inr (by simp)
/-- What an append onto a row leaves: where the new row lies. -/
theorem lies_form {w2 : World} {b size : Nat} {e : TypeId} {v2 : Value} {n g H : Nat} {xs : List Value} (hown : w2.ownsRow b e size v2 n xs) (hnil : ¬ v2 = .slice none 0 0)
    (hat : v2.ownBlock = some g ∨ v2.ownBlock = some H) : ∃ g2 c2, v2 = .slice (some ⟨g2, 0, none⟩) n c2 ∧ (g2 = g ∨ g2 = H) := by
  rcases hown.2 with ⟨h, _⟩ | ⟨g2, c2, _, h, _⟩
  · exact absurd h hnil
  · subst h
    refine ⟨g2, c2, rfl, ?_⟩
    simpa [Value.ownBlock] using hat
theorem grown_block {w w2 : World} {o : Obj} {row : Option Nat} (h : (w.alloc o).grownBy w2 row) (g : Nat) (hg : g < w.heap.size) (hne : some g ≠ row) : w2.heap[g]? = w.heap[g]? := by
  have := (Below.refl w.heap.size w).alloc (Nat.le_refl _) o
  exact (h.block g (by simp; omega) hne).trans (this.block g hg)
theorem AtomsO.heap {w w' : World} {g o : Nat} {l : List At} (h : AtomsO w g o l) (hb : w'.heap[g]? = w.heap[g]?) : AtomsO w' g o l := by
  have h1 := h.1
  refine ⟨?_, fun j hj => ?_⟩
  · rcases Nat.lt_or_ge g w'.heap.size with q | q
    · exact q
    · rw [Array.getElem?_eq_none q, Array.getElem?_eq_getElem h1] at hb; cases hb
  · have := h.2 j hj
    simp only [World.cell?] at this ⊢
    rw [hb]
    exact this
/-- The values of a list, each a part of a row of atoms. -/
def KidsAt (w : World) (vs : List Value) (ks : List T) : Prop := vs.length = ks.length ∧ ∀ j (h : j < ks.length), ∃ g o c, vs[j]? = some (.slice (some ⟨g, o, none⟩) (ks[j]).count c) ∧ AtomsO w g o (ks[j]).atoms ∧ (ks[j]).count ≤ c
theorem KidsAt.below {w w' : World} {vs : List Value} {ks : List T} (h : KidsAt w vs ks) (hb : Below w.heap.size w w') : KidsAt w' vs ks := by
  refine ⟨h.1, fun j hj => ?_⟩
  obtain ⟨g, o, c, a, b, d⟩ := h.2 j hj
  exact ⟨g, o, c, a, b.below hb, d⟩

/-- A call by its contract, as one step of a region that draws. -/
theorem step_call1 {P : Program} {ops : Array Oper} {o : Oper} {a : Act} {w : World} {K : Act → World → Prop} {Q : Exit → Act → World → Prop} {E : Prop}
    (hg : o.guard = none) (f : FuncId) (x : Operand) (t : TypeId) (hop : o.op = Op.call { callee := Callee.value (Operand.func f), args := #[x], argTypes := #[t] })
    (v r : Value) (hx : a.eval x = v) (fn : Func) (hfn : P.funcs[f]? = some fn) (hne : (fn.name == "runtime.NumGoroutine") = false) (hbd : fn.body.isNone = false) (R : World → Prop) (hC : Calls P f #[v] w fun e w' => e = .returned r ∧ R w') (hK : ∀ w', R w' → K (a.put o.dst r) w') :
    if Region.wanted o (yielded ops a.tmps) = true then Oper.wp P o a w K Q else E := by
  have hw : Region.wanted o (yielded ops a.tmps) = true := by simp [Region.wanted, hg]
  rw [if_pos hw]
  have h1 : (callFunc f #[v]).run P w = .ok (.enter f #[v]) w := by
    simp only [callFunc, Sem.run_bind, run_program, Result.andThen_ok, hfn, hne, hbd]; rfl
  unfold Oper.wp
  simp only [execOp, hop, resolve, invoke, List.map_toArray, List.map_cons, List.map_nil, hx, Deferred.ofValue, Sem.run_bind]
  rw [show a.eval (Operand.func f) = Value.func (Fn.func f) #[] #[] from rfl]
  simp only [Sem.run_pure, Result.andThen_ok]
  simp [h1]
  refine hC.mono fun e w2 h => ?_
  obtain ⟨rfl, h2⟩ := h
  exact hK _ h2
/-- append onto a row of the call's own, as one step of a region that draws. -/
theorem step_append_own {P : Program} {ops : Array Oper} {o : Oper} {a : Act} {w : World} {K : Act → World → Prop} {Q : Exit → Act → World → Prop} {E : Prop}
    (hgd : o.guard = none) (s x : Operand) (t : TypeId) (ho : o.op = .call { callee := .builtin .append, args := #[s, x], argTypes := #[t, t] })
    (base : Nat) (e : TypeId) (i : TypeInfo) (z : Value) (size bytes : Nat) (ht : P.underlying t = some (.slice e)) (hi : P.info? e = some i) (hz : i.zero = some z)
    (hsize : i.size = size) (hby : i.bytes = bytes) (hzs : z.cells.size = size) (hsz : 0 < size)
    (v : Value) (n : Nat) (xs : List Value) (hs : a.eval s = v) (hown : w.ownsRow base e size v n xs)
    (ad : Addr) (m c : Nat) (news : List Value) (hx : a.eval x = .slice (some ad) m c) (hl : news.length = m * size) (hnews : ∀ j u, news[j]? = some u → w.cell? (ad.add j) = some u) (h1 : ∀ u ∈ news, u.oneCell' = true)
    (h63 : n + m ≤ maxLen) (hbytes : (n + m) * bytes ≤ 140737488355328) (hbase : base ≤ w.heap.size)
    (hK : ∀ v' w', w'.ownsRow base e size v' (n + m) (xs ++ news) → w.grownBy w' v.ownBlock → (v' = .slice none 0 0 ↔ v = .slice none 0 0 ∧ m = 0) → (v'.ownBlock = v.ownBlock ∨ v'.ownBlock = some w.heap.size) → K (a.put o.dst v') w') :
    if Region.wanted o (yielded ops a.tmps) = true then Oper.wp P o a w K Q else E := by
  have hw : Region.wanted o (yielded ops a.tmps) = true := by simp [Region.wanted, hgd]
  rw [if_pos hw]
  obtain ⟨v', w', hr, h2, h3, h4, h5⟩ := run_append_own_at (P := P) w base t o.type e i z size bytes ht hi hz hsize hby hzs hsz v n xs hown ad m c news hl hnews h1 h63 hbytes hbase
  unfold Oper.wp execOp
  simp only [ho, resolve, invoke, builtin, Sem.run_bind, Sem.run_pure, Result.andThen_ok, List.map_toArray, List.map_cons, List.map_nil, hs, hx, hr]
  exact hK _ _ h2 h3 h4 h5

/-- The worlds behind w. -/
def KB (w : World) : Type := { x : World // Below w.heap.size w x }
def KB.w {w : World} (q : KB w) : World := q.1
theorem KB.below {w : World} (q : KB w) : Below w.heap.size w q.w := q.2
theorem kb_call {P : Program} {f : FuncId} {args : Array Value} {r : Value} {w : World} (h : ∀ w1, Below w.heap.size w w1 → Calls P f args w1 fun e w' => e = .returned r ∧ Below w1.heap.size w1 w') (q : KB w) :
    Calls P f args q.w fun e w'' => e = .returned r ∧ ∃ q' : KB w, w'' = q'.w :=
  (h q.w q.2).mono fun _ w2 hw => ⟨hw.1, ⟨⟨w2, q.2.trans (hw.2.mono q.2.size)⟩, rfl⟩⟩
theorem region_class {P : Program} {α : Type} (c : α → World) {id : Nat} {Q : Exit → Act → World → Prop} {a : Act} {w : World} {l : List Oper} (hm : P.follows .mixedOrders = true) (hB : Region.lexB .any l.toArray = true) (h0 : ∃ q, w.drewN 1 = c q)
    (h : wpQuiet P l.toArray (fun w' => ∃ q, w' = c q) (fun a' => ∀ w', (∃ q, w' = c q) → Q .normal a' w') l a) : (Code.region id l.toArray true).wp P Q a w :=
  wp_region_quiet (C := fun w' => ∃ q, w' = c q) hm hB h0 (by simpa using h)

theorem Tryz.infoInt : (Tryz.prog.info? 3).map (fun i => (i.zero, i.size, i.bytes)) = some (some (.int .i64 0), 1, 8) := by kernel_rfl
theorem Tryz.infoVal : (Tryz.prog.info? 28).map (fun i => (i.zero, i.size, i.bytes)) = some (some (.agg #[.slice none 0 0]), 1, 24) := by kernel_rfl
end Go.Proofs.YtnkfbjcgkdblgaaGreat.Vl
