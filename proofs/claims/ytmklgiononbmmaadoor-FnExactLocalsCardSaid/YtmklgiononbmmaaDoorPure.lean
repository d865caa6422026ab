/- The plain mathematics of scanning: no program, no world. -/
import Derived.Lib.ParseIntB
namespace Go.Proofs.YtmklgiononbmmaaDoor.Sc

def dig (b : UInt8) : Bool := decide (48 ≤ b.toNat ∧ b.toNat ≤ 57)
def beg (b : UInt8) : Bool := decide ((97 ≤ b.toNat ∧ b.toNat ≤ 122) ∨ b.toNat = 95)
def nm (b : UInt8) : Bool := beg b || dig b
def hexv (b : UInt8) : Int := if 48 ≤ b.toNat ∧ b.toNat ≤ 57 then (b.toNat : Int) - 48 else if 97 ≤ b.toNat ∧ b.toNat ≤ 102 then (b.toNat : Int) - 97 + 10 else -1

/-- The size of the gap with which a text begins; 'true': inside a note. -/
def gapLen : Bool → List UInt8 → Nat
  | _, [] => 0
  | false, b :: r => if b.toNat = 35 then 1 + gapLen true r else if b.toNat = 32 ∨ b.toNat = 10 then 1 + gapLen false r else 0
  | true, b :: r => if b.toNat = 10 then 1 + gapLen false r else 1 + gapLen true r

def numVal (l : List UInt8) : Nat := l.foldl (fun a b => a * 10 + (b.toNat - 48)) 0

/-- What stands behind a quote: the text, and how many bytes it takes, its end's quote counted in. -/
def unq : List UInt8 → Option (List UInt8 × Nat)
  | [] => none
  | b :: r =>
    if b.toNat = 34 then some ([], 1)
    else if b.toNat = 92 then
      match r with
      | h :: lo :: r' => if hexv h < 0 ∨ hexv lo < 0 then none else (unq r').map fun p => (UInt8.ofNat (16 * hexv h + hexv lo).toNat :: p.1, p.2 + 3)
      | _ => none
    else if b.toNat < 32 ∨ 126 < b.toNat then none
    else (unq r).map fun p => (b :: p.1, p.2 + 1)

def words : List (List UInt8) := [[97, 110, 100], [100, 101, 102], [101, 108, 115, 101], [101, 109, 105, 116], [102, 97, 108, 115, 101], [102, 110], [102, 111, 114], [104, 97, 115], [105, 102], [105, 110], [108, 101, 116], [108, 111, 97, 100], [110, 111, 110, 101], [110, 111, 116], [111, 114], [116, 104, 101, 110], [116, 114, 117, 101]]
def marks : List (List UInt8) := [[61, 61], [33, 61], [60, 61], [62, 61], [61, 62], [40], [41], [91], [93], [123], [125], [44], [59], [58], [46], [61], [60], [62], [43], [45], [42], [47], [37]]

structure R where
  code : Nat
  kind : Nat
  text : List UInt8
  n : Nat
  size : Nat

def bad (c : Nat) : R := ⟨c, 0, [], 0, 0⟩

def oneNum (l : List UInt8) : R :=
  if (l.takeWhile nm).all dig = true ∧ numVal (l.takeWhile nm) ≤ 9223372036854775807 ∧ ¬ (l.head? = some 48 ∧ 1 < (l.takeWhile nm).length) then ⟨0, 3, [], numVal (l.takeWhile nm), (l.takeWhile nm).length⟩ else bad 3
def oneName (l : List UInt8) : R :=
  if (l.takeWhile nm) ∈ words then ⟨0, 2, l.takeWhile nm, 0, (l.takeWhile nm).length⟩ else if 30 < (l.takeWhile nm).length then bad 5 else ⟨0, 1, l.takeWhile nm, 0, (l.takeWhile nm).length⟩
def oneText (l : List UInt8) : R :=
  match unq l.tail with
  | none => bad 4
  | some p => if 1000 < p.1.length then bad 5 else ⟨0, 4, p.1, 0, p.2 + 1⟩
def oneMark (l : List UInt8) : R :=
  match marks.find? (fun m => m.isPrefixOf l) with
  | none => bad 2
  | some m => ⟨0, 5, m, 0, m.length⟩
def one (l : List UInt8) : R :=
  match l with
  | [] => bad 2
  | b :: _ => if dig b = true then oneNum l else if beg b = true then oneName l else if b.toNat = 34 then oneText l else oneMark l

structure T where
  kind : Nat
  text : List UInt8
  n : Nat
  place : Nat

def scan : Nat → Nat → List UInt8 → List T × Nat × Nat
  | 0, _, _ => ([], 0, 0)
  | f + 1, k, l =>
    if l.drop (gapLen false l) = [] then ([], 0, 0)
    else if (one (l.drop (gapLen false l))).code ≠ 0 then ([], (one (l.drop (gapLen false l))).code, k + gapLen false l)
    else (⟨(one (l.drop (gapLen false l))).kind, (one (l.drop (gapLen false l))).text, (one (l.drop (gapLen false l))).n, k + gapLen false l⟩ ::
        (scan f (k + gapLen false l + (one (l.drop (gapLen false l))).size) ((l.drop (gapLen false l)).drop (one (l.drop (gapLen false l))).size)).1,
      (scan f (k + gapLen false l + (one (l.drop (gapLen false l))).size) ((l.drop (gapLen false l)).drop (one (l.drop (gapLen false l))).size)).2)

theorem drop_cons (s : ByteArray) (k : Nat) (h : k < s.size) : s.data.toList.drop k = s[k] :: s.data.toList.drop (k + 1) := by
  rw [List.drop_eq_getElem_cons (by simpa using h)]; rfl

theorem gapLen_le : ∀ (b : Bool) (l : List UInt8), gapLen b l ≤ l.length := by
  intro b l
  induction l generalizing b with
  | nil => simp [gapLen]
  | cons x r ih =>
    cases b <;> simp only [gapLen, List.length_cons]
    · split
      · have := ih true; omega
      · split
        · have := ih false; omega
        · omega
    · split
      · have := ih false; omega
      · have := ih true; omega

theorem takeWhile_le (p : UInt8 → Bool) (l : List UInt8) : (l.takeWhile p).length ≤ l.length := by
  induction l with
  | nil => simp
  | cons x r ih => simp only [List.takeWhile_cons]; split <;> simp <;> omega

theorem unq_size : ∀ (l : List UInt8) (t : List UInt8) (n : Nat), unq l = some (t, n) → 1 ≤ n ∧ n ≤ l.length ∧ t.length < n
  | [], t, n, h => by simp [unq] at h
  | b :: r, t, n, h => by
    unfold unq at h
    split at h
    · simp at h; obtain ⟨rfl, rfl⟩ := h; simp
    · split at h
      · match r, h with
        | [], h => simp at h
        | [_], h => simp at h
        | x :: y :: r', h =>
          simp only at h
          split at h
          · simp at h
          · rw [Option.map_eq_some_iff] at h
            obtain ⟨p, hp, he⟩ := h
            simp at he
            obtain ⟨rfl, rfl⟩ := he
            have := unq_size r' p.1 p.2 hp
            simp; omega
      · split at h
        · simp at h
        · rw [Option.map_eq_some_iff] at h
          obtain ⟨p, hp, he⟩ := h
          simp at he
          obtain ⟨rfl, rfl⟩ := he
          have := unq_size r p.1 p.2 hp
          simp; omega

theorem marks_pos : ∀ m ∈ marks, 1 ≤ m.length ∧ m.length ≤ 2 := by decide

theorem one_size (l : List UInt8) (h : (one l).code = 0) : 1 ≤ (one l).size ∧ (one l).size ≤ l.length := by
  unfold one at h ⊢
  match l, h with
  | [], h => simp [bad] at h
  | b :: r, h =>
    have hnm : nm b = true → 1 ≤ ((b :: r).takeWhile nm).length := by intro hb; simp [hb]
    have hle := takeWhile_le nm (b :: r)
    simp only at h ⊢
    split at h
    · rename_i hd
      rw [if_pos hd]
      have := hnm (by simp [nm, hd])
      unfold oneNum at h ⊢
      split at h
      · rename_i hc; rw [if_pos hc]; exact ⟨this, hle⟩
      · simp [bad] at h
    · rename_i hd
      rw [if_neg hd]
      split at h
      · rename_i hb
        rw [if_pos hb]
        have := hnm (by simp [nm, hb])
        unfold oneName at h ⊢
        split at h
        · rename_i hc; rw [if_pos hc]; exact ⟨this, hle⟩
        · rename_i hc
          rw [if_neg hc]
          split at h
          · simp [bad] at h
          · rename_i hc2; rw [if_neg hc2]; exact ⟨this, hle⟩
      · rename_i hb
        rw [if_neg hb]
        split at h
        · rename_i hq
          rw [if_pos hq]
          unfold oneText at h ⊢
          split at h
          · simp [bad] at h
          · rename_i p hp
            split at h
            · simp [bad] at h
            · rename_i hc
              rw [if_neg hc]
              have := unq_size r p.1 p.2 hp
              simp; omega
        · rename_i hq
          rw [if_neg hq]
          unfold oneMark at h ⊢
          split at h
          · simp [bad] at h
          · rename_i m hm
            have h1 := List.mem_of_find?_eq_some hm
            have h2 := List.find?_some hm
            have h3 := marks_pos m h1
            have h4 : m <+: (b :: r) := List.isPrefixOf_iff_prefix.1 h2
            exact ⟨h3.1, h4.length_le⟩

/-- More fuel than bytes changes nothing. -/
theorem scan_fuel : ∀ (f g k : Nat) (l : List UInt8), l.length < f → l.length < g → scan f k l = scan g k l
  | 0, _, _, _, h, _ => by omega
  | f + 1, 0, _, _, _, h => by omega
  | f + 1, g + 1, k, l, hf, hg => by
    unfold scan
    by_cases h0 : l.drop (gapLen false l) = []
    · rw [if_pos h0, if_pos h0]
    · rw [if_neg h0, if_neg h0]
      by_cases hc : (one (l.drop (gapLen false l))).code ≠ 0
      · rw [if_pos hc, if_pos hc]
      · rw [if_neg hc, if_neg hc]
        have hs := one_size _ (by omega : (one (l.drop (gapLen false l))).code = 0)
        have e := scan_fuel f g (k + gapLen false l + (one (l.drop (gapLen false l))).size) ((l.drop (gapLen false l)).drop (one (l.drop (gapLen false l))).size)
          (by simp only [List.length_drop] at hs ⊢; omega) (by simp only [List.length_drop] at hs ⊢; omega)
        rw [e]

/-- The scan from place k on of the whole text. -/
def from_ (l : List UInt8) (k : Nat) : List T × Nat × Nat := scan (l.length + 1) k (l.drop k)

theorem from_end (l : List UInt8) (k : Nat) (h : l.length ≤ k + gapLen false (l.drop k)) : from_ l k = ([], 0, 0) := by
  unfold from_ scan
  rw [if_pos]
  rw [List.drop_drop, List.drop_eq_nil_iff]; omega

theorem from_gap (l : List UInt8) (k : Nat) (hg : gapLen false (l.drop (k + gapLen false (l.drop k))) = 0) : from_ l k = from_ l (k + gapLen false (l.drop k)) := by
  unfold from_
  conv => lhs; unfold scan
  conv => rhs; unfold scan
  rw [hg, List.drop_drop, List.drop_zero, Nat.add_zero]

theorem gap_gap : ∀ (b : Bool) (l : List UInt8), gapLen false (l.drop (gapLen b l)) = 0 := by
  intro b l
  induction l generalizing b with
  | nil => simp [gapLen]
  | cons x r ih =>
    cases b
    · simp only [gapLen]
      split
      · rw [Nat.add_comm, List.drop_succ_cons]; exact ih true
      · split
        · rw [Nat.add_comm, List.drop_succ_cons]; exact ih false
        · rename_i h1 h2; rw [List.drop_zero]; simp [gapLen, h1, h2]
    · simp only [gapLen]
      split
      · rw [Nat.add_comm, List.drop_succ_cons]; exact ih false
      · rw [Nat.add_comm, List.drop_succ_cons]; exact ih true

theorem from_bad (l : List UInt8) (k : Nat) (hk : k < l.length) (hg : gapLen false (l.drop k) = 0) (hc : (one (l.drop k)).code ≠ 0) : from_ l k = ([], (one (l.drop k)).code, k) := by
  unfold from_ scan
  rw [hg, List.drop_zero, Nat.add_zero, if_neg (by rw [List.drop_eq_nil_iff]; omega), if_pos hc]

theorem from_tok (l : List UInt8) (k : Nat) (hk : k < l.length) (hg : gapLen false (l.drop k) = 0) (hc : (one (l.drop k)).code = 0) :
    from_ l k = (⟨(one (l.drop k)).kind, (one (l.drop k)).text, (one (l.drop k)).n, k⟩ :: (from_ l (k + (one (l.drop k)).size)).1, (from_ l (k + (one (l.drop k)).size)).2) := by
  have hs := one_size _ hc
  unfold from_
  conv => lhs; unfold scan
  rw [hg, List.drop_zero, Nat.add_zero, if_neg (by rw [List.drop_eq_nil_iff]; omega), if_neg (by omega), List.drop_drop]
  rw [scan_fuel l.length (l.length + 1) _ _ (by simp only [List.length_drop] at hs ⊢; omega) (by simp only [List.length_drop] at hs ⊢; omega)]

end Go.Proofs.YtmklgiononbmmaaDoor.Sc
