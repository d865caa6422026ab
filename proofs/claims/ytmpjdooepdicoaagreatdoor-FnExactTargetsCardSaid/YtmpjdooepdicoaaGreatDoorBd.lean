/- Targets: a record read as a target, the two ways are one: the plain mathematics. -/
import Derived.Test.YtmpjdooepdicoaaGreatDoorBg
namespace Go.Proofs.YtmpjdooepdicoaaGreatDoor.Vl
open Go.RowKit T.atoms T.ok T.high T.good T.allPlain DatAt

def keysF : List T → List ByteArray
  | a :: _ :: r => a.text :: keysF r
  | _ => []
def lookF : List T → ByteArray → Option T
  | a :: b :: r, s => if a.text = s then some b else lookF r s
  | _, _ => none
theorem isAt_zero (a b : T) (r : List T) (s : ByteArray) : isAt (a :: b :: r) s 0 = decide (a.text = s) := by
  unfold isAt
  simp only [List.getElem?_cons_zero, Option.map_some, Option.getD_some, ba_eq]
  simp
theorem isAt_one (ks : List T) (s : ByteArray) : isAt ks s 1 = false := by unfold isAt; simp
theorem isAt_two (a b : T) (r : List T) (s : ByteArray) (j : Nat) : isAt (a :: b :: r) s (j + 2) = isAt r s j := by
  unfold isAt
  have e : ((j + 2) % 2 = 0 ∧ j + 2 + 1 < (a :: b :: r).length) ↔ (j % 2 = 0 ∧ j + 1 < r.length) := by
    simp only [List.length_cons]; omega
  rw [decide_eq_decide.2 e]
  rfl
theorem look_at : ∀ (ks : List T) (s : ByteArray), (lookF ks s = none ∧ ∀ j, isAt ks s j = false) ∨ (∃ b i, lookF ks s = some b ∧ isAt ks s i = true ∧ (∀ j, j < i → isAt ks s j = false) ∧ ks[i + 1]? = some b)
  | [], s => .inl ⟨rfl, fun j => by unfold isAt; simp⟩
  | [a], s => .inl ⟨rfl, fun j => by
      unfold isAt
      rw [decide_eq_false (by simp)]
      rfl⟩
  | a :: b :: r, s => by
    rw [lookF]
    by_cases h : a.text = s
    · rw [if_pos h]
      exact .inr ⟨b, 0, rfl, by rw [isAt_zero, decide_eq_true h], fun j hj => by omega, rfl⟩
    · rw [if_neg h]
      rcases look_at r s with ⟨h1, h2⟩ | ⟨b', i, h1, h2, h3, h4⟩
      · refine .inl ⟨h1, fun j => ?_⟩
        match j with
        | 0 => rw [isAt_zero, decide_eq_false h]
        | 1 => exact isAt_one _ _
        | j + 2 => rw [isAt_two]; exact h2 j
      · refine .inr ⟨b', i + 2, h1, by rw [isAt_two]; exact h2, fun j hj => ?_, by rw [show i + 2 + 1 = i + 1 + 1 + 1 from by omega]; exact h4⟩
        match j with
        | 0 => rw [isAt_zero, decide_eq_false h]
        | 1 => exact isAt_one _ _
        | j + 2 => rw [isAt_two]; exact h3 j (by omega)
def txN (o : Option T) (need : Bool) : ByteArray × Bool := match o with
  | none => (⟨#[]⟩, !need)
  | some x => (x.text, decide (x.kind = 4) && (!need || !decide (x.text = ⟨#[]⟩)))
theorem text9_look (ks : List T) (s : ByteArray) (need : Bool) : text9 ks s need = txN (lookF ks s) need := by
  unfold text9 txN
  rcases look_at ks s with ⟨h1, h2⟩ | ⟨b, i, h1, h2, h3, h4⟩
  · rw [getAt_none h2, h1]
  · rw [getAt_some h2 h3, h1]
    simp only
    rw [h4]
theorem placesI_eq (t : T) : placesI t = if t.kind = 5 ∧ allT t.ks = true then some (t.ks.map T.text) else none := by
  have key : ∀ ks : List T, (((textsT ks).length = ks.length ∧ memS ⟨#[]⟩ (textsT ks) = false) ↔ allT ks = true) ∧ (allT ks = true → textsT ks = ks.map T.text) := by
    intro ks
    induction ks with
    | nil => simp [textsT, allT, memS]
    | cons k r ih =>
      have hl := textsT_len r
      by_cases hk : k.kind = 4
      · have e1 : textsT (k :: r) = k.text :: textsT r := by unfold textsT; rw [List.filter_cons_of_pos (by simpa using hk), List.map_cons]
        have e2 : allT (k :: r) = (!decide (k.text = ⟨#[]⟩) && allT r) := by unfold allT; rw [List.all_cons]; simp [hk]
        have e3 : memS ⟨#[]⟩ (k.text :: textsT r) = (decide (k.text = ⟨#[]⟩) || memS ⟨#[]⟩ (textsT r)) := by unfold memS; rw [List.any_cons]
        rw [e1, e2, e3]
        constructor
        · rw [List.length_cons, List.length_cons]
          cases h : decide (k.text = (⟨#[]⟩ : ByteArray))
          · simp only [Bool.false_or, Bool.not_false, Bool.true_and]
            rw [← ih.1]
            constructor
            · rintro ⟨a, b⟩; exact ⟨by omega, b⟩
            · rintro ⟨a, b⟩; exact ⟨by omega, b⟩
          · simp
        · intro h
          rw [ih.2 (by simp at h; exact h.2), List.map_cons]
      · have e1 : textsT (k :: r) = textsT r := by unfold textsT; rw [List.filter_cons_of_neg (by simpa using hk)]
        have e2 : allT (k :: r) = false := by unfold allT; rw [List.all_cons]; simp [hk]
        rw [e1, e2]
        constructor
        · constructor
          · rintro ⟨a, _⟩
            rw [List.length_cons] at a
            omega
          · intro h; cases h
        · intro h; cases h
  unfold placesI
  obtain ⟨h1, h2⟩ := key t.ks
  by_cases hk : t.kind = 5 ∧ allT t.ks = true
  · rw [if_pos hk, if_pos ⟨hk.1, h1.2 hk.2⟩, h2 hk.2]
  · rw [if_neg hk, if_neg (fun h => hk ⟨h.1, h1.1 h.2⟩)]
def plN (o : Option T) (need : Bool) : Option (List ByteArray) := match o with
  | none => if need then none else some []
  | some x => (placesI x).bind fun l => if need = true ∧ l.length = 0 then none else some l
theorem list9_look (ks : List T) (s : ByteArray) (need : Bool) : list9 ks s need = plN (lookF ks s) need := by
  unfold list9 plN
  rcases look_at ks s with ⟨h1, h2⟩ | ⟨b, i, h1, h2, h3, h4⟩
  · rw [getAt_none h2, h1]
  · rw [getAt_some h2 h3, h1]
    simp only
    rw [h4, placesI_eq]
    simp only
    by_cases hk : b.kind = 5 ∧ allT b.ks = true
    · rw [if_pos hk]
      simp only [Option.bind_some, List.length_map]
      by_cases hn : need = true ∧ b.ks.length = 0
      · rw [if_pos hn, if_neg (fun h => h.2.1 hn)]
      · rw [if_neg hn, if_pos ⟨hk.1, hn, hk.2⟩]
    · rw [if_neg hk, if_neg (fun h => hk ⟨h.1, h.2.2⟩)]
      rfl
theorem keys_ok : ∀ (ks : List T), ks.length % 2 = 0 → (okN ks = true ↔ ∀ s ∈ keysF ks, memS s names5 = true)
  | [], _ => by simp [okN, keysF]
  | [a], h => by simp at h
  | a :: b :: r, h => by
    have ih := keys_ok r (by simp only [List.length_cons] at h; omega)
    have e : okN (a :: b :: r) = (memS a.text names5 && okN r) := by
      cases hm : memS a.text names5
      · rw [Bool.false_and]
        exact okN_no (i := 0) (by simp) rfl hm
      · rw [Bool.true_and]
        cases hr : okN r
        · by_cases hx : ∀ i (h : i < (a :: b :: r).length), i % 2 = 0 → memS ((a :: b :: r)[i]).text names5 = true
          · have : okN r = true := okN_yes (fun i hi h2 => by
              have := hx (i + 2) (by simp; omega) (by omega)
              simpa using this)
            rw [hr] at this; cases this
          · cases ho : okN (a :: b :: r) with
            | false => rfl
            | true =>
              exfalso
              apply hx
              intro i hi h2
              cases hq : memS ((a :: b :: r)[i]).text names5 with
              | true => rfl
              | false => rw [okN_no hi h2 hq] at ho; cases ho
        · refine okN_yes (fun i hi h2 => ?_)
          match i, hi, h2 with
          | 0, _, _ => exact hm
          | 1, _, h2 => omega
          | i + 2, hi, h2 =>
            have hi' : i < r.length := by simpa using hi
            cases hq : memS ((a :: b :: r)[i + 2]).text names5 with
            | true => rfl
            | false =>
              have hq2 : memS (r[i]).text names5 = false := by simpa using hq
              rw [okN_no hi' (by omega) hq2] at hr
              cases hr
    rw [e, Bool.and_eq_true, ih]
    simp [keysF]
/-- What the loop over the fields comes to, field by field. -/
def nmR (x : ByteArray) (o : Option T) : Option ByteArray := match o with
  | none => some x
  | some b => if (txtI b).2 = true then some (txtI b).1 else none
def plR (x : List ByteArray) (o : Option T) : Option (List ByteArray) := match o with
  | none => some x
  | some b => placesI b
def five (a b c : Option ByteArray) (d e : Option (List ByteArray)) : Option Tg := match a, b, c, d, e with
  | some a, some b, some c, some d, some e => some ⟨a, b, c, d, e⟩
  | _, _, _, _, _ => none
def comb (x : Tg) (ks : List T) : Option Tg :=
  if (keysF ks).all (fun s => memS s names5) = true then
    five (nmR x.name (lookF ks ⟨#[110, 97, 109, 101]⟩)) (nmR x.tool (lookF ks ⟨#[116, 111, 111, 108]⟩)) (nmR x.arg (lookF ks ⟨#[97, 114, 103]⟩)) (plR x.ins (lookF ks ⟨#[105, 110, 115]⟩)) (plR x.outs (lookF ks ⟨#[111, 117, 116, 115]⟩))
  else none
theorem lookF_none {ks : List T} {s : ByteArray} (h : s ∉ keysF ks) : lookF ks s = none := by
  match ks with
  | [] => rfl
  | [_] => rfl
  | a :: b :: r =>
    rw [keysF] at h
    rw [lookF, if_neg (fun e => h (by rw [e]; exact List.mem_cons_self ..))]
    exact lookF_none (fun hm => h (List.mem_cons_of_mem _ hm))
theorem five_none1 (b c : Option ByteArray) (d e : Option (List ByteArray)) : five none b c d e = none := rfl
theorem five_none2 (a c : Option ByteArray) (d e : Option (List ByteArray)) : five a none c d e = none := by cases a <;> rfl
theorem five_none3 (a b : Option ByteArray) (d e : Option (List ByteArray)) : five a b none d e = none := by cases a <;> cases b <;> rfl
theorem five_none4 (a b c : Option ByteArray) (e : Option (List ByteArray)) : five a b c none e = none := by cases a <;> cases b <;> cases c <;> rfl
theorem five_none5 (a b c : Option ByteArray) (d : Option (List ByteArray)) : five a b c d none = none := by cases a <;> cases b <;> cases c <;> cases d <;> rfl
theorem if_none {α : Type} (c : Prop) [Decidable c] : (if c then (none : Option α) else none) = none := by split <;> rfl
theorem mem5 : memS ⟨#[110, 97, 109, 101]⟩ names5 = true ∧ memS ⟨#[116, 111, 111, 108]⟩ names5 = true ∧ memS ⟨#[97, 114, 103]⟩ names5 = true ∧ memS ⟨#[105, 110, 115]⟩ names5 = true ∧ memS ⟨#[111, 117, 116, 115]⟩ names5 = true := by decide
theorem foldI_comb : ∀ (ks : List T) (x : Tg), ks.length % 2 = 0 → (keysF ks).Nodup → foldI x ks = comb x ks
  | [], x, _, _ => rfl
  | [_], x, h, _ => by simp at h
  | a :: b :: r, x, h, hn => by
    rw [keysF] at hn
    have hn1 := (List.nodup_cons.1 hn).1
    have ih := fun y => foldI_comb r y (by simp only [List.length_cons] at h; omega) (List.nodup_cons.1 hn).2
    have L : ∀ K, lookF (a :: b :: r) K = if a.text = K then some b else lookF r K := fun K => rfl
    rw [foldI]
    unfold comb
    rw [show keysF (a :: b :: r) = a.text :: keysF r from rfl, List.all_cons]
    obtain ⟨m1, m2, m3, m4, m5⟩ := mem5
    by_cases q1 : a.text = ⟨#[110, 97, 109, 101]⟩
    · have hl := lookF_none hn1
      rw [q1] at hl
      have e_name : lookF (a :: b :: r) ⟨#[110, 97, 109, 101]⟩ = some b := by rw [L, if_pos q1]
      have e_tool : lookF (a :: b :: r) ⟨#[116, 111, 111, 108]⟩ = lookF r ⟨#[116, 111, 111, 108]⟩ := by rw [L, if_neg (by rw [q1]; decide)]
      have e_arg : lookF (a :: b :: r) ⟨#[97, 114, 103]⟩ = lookF r ⟨#[97, 114, 103]⟩ := by rw [L, if_neg (by rw [q1]; decide)]
      have e_ins : lookF (a :: b :: r) ⟨#[105, 110, 115]⟩ = lookF r ⟨#[105, 110, 115]⟩ := by rw [L, if_neg (by rw [q1]; decide)]
      have e_outs : lookF (a :: b :: r) ⟨#[111, 117, 116, 115]⟩ = lookF r ⟨#[111, 117, 116, 115]⟩ := by rw [L, if_neg (by rw [q1]; decide)]
      have hs : stepI x a.text b = if (txtI b).2 = true then some ⟨(txtI b).1, x.tool, x.arg, x.ins, x.outs⟩ else none := by unfold stepI; rw [if_pos q1]
      rw [e_name, e_tool, e_arg, e_ins, e_outs, hs, q1, m1, Bool.true_and]
      by_cases ht : (txtI b).2 = true
      · rw [if_pos ht, Option.bind_some, ih]
        unfold comb
        rw [hl]
        simp only [nmR, if_pos ht]
      · rw [if_neg ht, Option.bind_none]
        rw [show nmR x.name (some b) = none from by unfold nmR; simp only [if_neg ht], five_none1, if_none]
    by_cases q2 : a.text = ⟨#[116, 111, 111, 108]⟩
    · have hl := lookF_none hn1
      rw [q2] at hl
      have e_name : lookF (a :: b :: r) ⟨#[110, 97, 109, 101]⟩ = lookF r ⟨#[110, 97, 109, 101]⟩ := by rw [L, if_neg (by rw [q2]; decide)]
      have e_tool : lookF (a :: b :: r) ⟨#[116, 111, 111, 108]⟩ = some b := by rw [L, if_pos q2]
      have e_arg : lookF (a :: b :: r) ⟨#[97, 114, 103]⟩ = lookF r ⟨#[97, 114, 103]⟩ := by rw [L, if_neg (by rw [q2]; decide)]
      have e_ins : lookF (a :: b :: r) ⟨#[105, 110, 115]⟩ = lookF r ⟨#[105, 110, 115]⟩ := by rw [L, if_neg (by rw [q2]; decide)]
      have e_outs : lookF (a :: b :: r) ⟨#[111, 117, 116, 115]⟩ = lookF r ⟨#[111, 117, 116, 115]⟩ := by rw [L, if_neg (by rw [q2]; decide)]
      have hs : stepI x a.text b = if (txtI b).2 = true then some ⟨x.name, (txtI b).1, x.arg, x.ins, x.outs⟩ else none := by unfold stepI; rw [if_neg (by rw [q2]; decide)]; rw [if_pos q2]
      rw [e_name, e_tool, e_arg, e_ins, e_outs, hs, q2, m2, Bool.true_and]
      by_cases ht : (txtI b).2 = true
      · rw [if_pos ht, Option.bind_some, ih]
        unfold comb
        rw [hl]
        simp only [nmR, if_pos ht]
      · rw [if_neg ht, Option.bind_none]
        rw [show nmR x.tool (some b) = none from by unfold nmR; simp only [if_neg ht], five_none2, if_none]
    by_cases q3 : a.text = ⟨#[97, 114, 103]⟩
    · have hl := lookF_none hn1
      rw [q3] at hl
      have e_name : lookF (a :: b :: r) ⟨#[110, 97, 109, 101]⟩ = lookF r ⟨#[110, 97, 109, 101]⟩ := by rw [L, if_neg (by rw [q3]; decide)]
      have e_tool : lookF (a :: b :: r) ⟨#[116, 111, 111, 108]⟩ = lookF r ⟨#[116, 111, 111, 108]⟩ := by rw [L, if_neg (by rw [q3]; decide)]
      have e_arg : lookF (a :: b :: r) ⟨#[97, 114, 103]⟩ = some b := by rw [L, if_pos q3]
      have e_ins : lookF (a :: b :: r) ⟨#[105, 110, 115]⟩ = lookF r ⟨#[105, 110, 115]⟩ := by rw [L, if_neg (by rw [q3]; decide)]
      have e_outs : lookF (a :: b :: r) ⟨#[111, 117, 116, 115]⟩ = lookF r ⟨#[111, 117, 116, 115]⟩ := by rw [L, if_neg (by rw [q3]; decide)]
      have hs : stepI x a.text b = if (txtI b).2 = true then some ⟨x.name, x.tool, (txtI b).1, x.ins, x.outs⟩ else none := by unfold stepI; rw [if_neg (by rw [q3]; decide)]; rw [if_neg (by rw [q3]; decide)]; rw [if_pos q3]
      rw [e_name, e_tool, e_arg, e_ins, e_outs, hs, q3, m3, Bool.true_and]
      by_cases ht : (txtI b).2 = true
      · rw [if_pos ht, Option.bind_some, ih]
        unfold comb
        rw [hl]
        simp only [nmR, if_pos ht]
      · rw [if_neg ht, Option.bind_none]
        rw [show nmR x.arg (some b) = none from by unfold nmR; simp only [if_neg ht], five_none3, if_none]
    by_cases q4 : a.text = ⟨#[105, 110, 115]⟩
    · have hl := lookF_none hn1
      rw [q4] at hl
      have e_name : lookF (a :: b :: r) ⟨#[110, 97, 109, 101]⟩ = lookF r ⟨#[110, 97, 109, 101]⟩ := by rw [L, if_neg (by rw [q4]; decide)]
      have e_tool : lookF (a :: b :: r) ⟨#[116, 111, 111, 108]⟩ = lookF r ⟨#[116, 111, 111, 108]⟩ := by rw [L, if_neg (by rw [q4]; decide)]
      have e_arg : lookF (a :: b :: r) ⟨#[97, 114, 103]⟩ = lookF r ⟨#[97, 114, 103]⟩ := by rw [L, if_neg (by rw [q4]; decide)]
      have e_ins : lookF (a :: b :: r) ⟨#[105, 110, 115]⟩ = some b := by rw [L, if_pos q4]
      have e_outs : lookF (a :: b :: r) ⟨#[111, 117, 116, 115]⟩ = lookF r ⟨#[111, 117, 116, 115]⟩ := by rw [L, if_neg (by rw [q4]; decide)]
      have hs : stepI x a.text b = (placesI b).map fun l => ⟨x.name, x.tool, x.arg, l, x.outs⟩ := by unfold stepI; rw [if_neg (by rw [q4]; decide)]; rw [if_neg (by rw [q4]; decide)]; rw [if_neg (by rw [q4]; decide)]; rw [if_pos q4]
      rw [e_name, e_tool, e_arg, e_ins, e_outs, hs, q4, m4, Bool.true_and]
      cases hp : placesI b with
      | some l =>
        rw [Option.map_some, Option.bind_some, ih]
        unfold comb
        rw [hl]
        simp only [plR, hp]
      | none =>
        rw [Option.map_none, Option.bind_none]
        rw [show plR x.ins (some b) = none from hp, five_none4, if_none]
    by_cases q5 : a.text = ⟨#[111, 117, 116, 115]⟩
    · have hl := lookF_none hn1
      rw [q5] at hl
      have e_name : lookF (a :: b :: r) ⟨#[110, 97, 109, 101]⟩ = lookF r ⟨#[110, 97, 109, 101]⟩ := by rw [L, if_neg (by rw [q5]; decide)]
      have e_tool : lookF (a :: b :: r) ⟨#[116, 111, 111, 108]⟩ = lookF r ⟨#[116, 111, 111, 108]⟩ := by rw [L, if_neg (by rw [q5]; decide)]
      have e_arg : lookF (a :: b :: r) ⟨#[97, 114, 103]⟩ = lookF r ⟨#[97, 114, 103]⟩ := by rw [L, if_neg (by rw [q5]; decide)]
      have e_ins : lookF (a :: b :: r) ⟨#[105, 110, 115]⟩ = lookF r ⟨#[105, 110, 115]⟩ := by rw [L, if_neg (by rw [q5]; decide)]
      have e_outs : lookF (a :: b :: r) ⟨#[111, 117, 116, 115]⟩ = some b := by rw [L, if_pos q5]
      have hs : stepI x a.text b = (placesI b).map fun l => ⟨x.name, x.tool, x.arg, x.ins, l⟩ := by unfold stepI; rw [if_neg (by rw [q5]; decide)]; rw [if_neg (by rw [q5]; decide)]; rw [if_neg (by rw [q5]; decide)]; rw [if_neg (by rw [q5]; decide)]; rw [if_pos q5]
      rw [e_name, e_tool, e_arg, e_ins, e_outs, hs, q5, m5, Bool.true_and]
      cases hp : placesI b with
      | some l =>
        rw [Option.map_some, Option.bind_some, ih]
        unfold comb
        rw [hl]
        simp only [plR, hp]
      | none =>
        rw [Option.map_none, Option.bind_none]
        rw [show plR x.outs (some b) = none from hp, five_none5, if_none]
    have hm : memS a.text names5 = false := by
      rw [memS_not]
      unfold names5
      simp only [List.mem_cons, List.not_mem_nil, or_false, not_or]
      exact ⟨q3, q4, q1, q5, q2⟩
    have hs : stepI x a.text b = none := by unfold stepI; rw [if_neg q1, if_neg q2, if_neg q3, if_neg q4, if_neg q5]
    rw [hs, Option.bind_none, hm, Bool.false_and, if_neg (by decide)]
theorem names_keys : ∀ (ks : List T), names ks = true → ks.length % 2 = 0 ∧ (keysF ks).Pairwise (fun a b => slt a b = true)
  | [], _ => ⟨by simp, by simp [keysF]⟩
  | [_], h => by simp [names] at h
  | [a, b], _ => ⟨by simp, by simp [keysF]⟩
  | a :: b :: c :: r, h => by
    rw [names] at h
    simp only [Bool.and_eq_true] at h
    obtain ⟨h1, h2⟩ := names_keys (c :: r) h.2
    match r, h1, h2 with
    | [], h1, _ => simp at h1
    | d :: r, h1, h2 =>
      refine ⟨by simp only [List.length_cons] at h1 ⊢; omega, ?_⟩
      rw [keysF]
      refine List.pairwise_cons.2 ⟨fun s hs => ?_, h2⟩
      rw [keysF] at hs h2
      rcases List.mem_cons.1 hs with rfl | hs
      · exact h.1.2
      · exact slt_tr h.1.2 ((List.pairwise_cons.1 h2).1 s hs)
theorem keys_nodup {ks : List T} (h : names ks = true) : (keysF ks).Nodup := by
  refine (names_keys ks h).2.imp ?_
  intro a b hab e
  subst e
  rw [slt_irr] at hab
  cases hab
theorem good_names {t : T} (h : t.good = true) (hk : t.kind = 6) : names t.ks = true := by
  rw [T.good_eq] at h
  simp only [Bool.and_eq_true] at h
  have hp := h.1.1
  unfold plain at hp
  simp [hk] at hp
  exact hp.2.2
theorem nm_cases (A : Option T) : (∃ n, nmR ⟨#[]⟩ A = some n ∧ n ≠ ⟨#[]⟩ ∧ txN A true = (n, true)) ∨ ((nmR ⟨#[]⟩ A = none ∨ nmR ⟨#[]⟩ A = some ⟨#[]⟩) ∧ ∃ s, txN A true = (s, false)) := by
  cases A with
  | none => exact .inr ⟨.inr rfl, _, rfl⟩
  | some x =>
    unfold nmR txN txtI
    by_cases hk : x.kind = 4
    · simp only [if_pos hk, if_true]
      by_cases he : x.text = ⟨#[]⟩
      · exact .inr ⟨.inr (by rw [he]), x.text, by simp [hk, he]⟩
      · exact .inl ⟨x.text, rfl, he, by simp [hk, he]⟩
    · refine .inr ⟨.inl (by simp [hk]), x.text, by simp [hk]⟩
theorem ar_cases (C : Option T) : (∃ n, nmR ⟨#[]⟩ C = some n ∧ txN C false = (n, true)) ∨ (nmR ⟨#[]⟩ C = none ∧ ∃ s, txN C false = (s, false)) := by
  cases C with
  | none => exact .inl ⟨_, rfl, rfl⟩
  | some x =>
    unfold nmR txN txtI
    by_cases hk : x.kind = 4
    · exact .inl ⟨x.text, by simp [hk], by simp [hk]⟩
    · exact .inr ⟨by simp [hk], x.text, by simp [hk]⟩
theorem in_eq (D : Option T) : plN D false = plR [] D := by
  cases D with
  | none => rfl
  | some x => unfold plN plR; cases placesI x <;> simp
theorem ou_cases (E : Option T) : (∃ l, plR [] E = some l ∧ l.length ≠ 0 ∧ plN E true = some l) ∨ ((plR [] E = none ∨ plR [] E = some []) ∧ plN E true = none) := by
  cases E with
  | none => exact .inr ⟨.inr rfl, rfl⟩
  | some x =>
    have e1 : plR [] (some x) = placesI x := rfl
    have e2 : plN (some x) true = (placesI x).bind fun l => if true = true ∧ l.length = 0 then none else some l := rfl
    rw [e1, e2]
    cases placesI x with
    | none => exact .inr ⟨.inl rfl, rfl⟩
    | some l =>
      rw [Option.bind_some]
      by_cases h0 : l.length = 0
      · exact .inr ⟨.inr (by rw [List.eq_nil_of_length_eq_zero h0]), by rw [if_pos ⟨rfl, h0⟩]⟩
      · exact .inl ⟨l, rfl, h0, by rw [if_neg (fun q => h0 q.2)]⟩
theorem five9_1 (s : ByteArray) (B C : ByteArray × Bool) (D E : Option (List ByteArray)) : five9 (s, false) B C D E = none := by obtain ⟨b, bb⟩ := B; obtain ⟨c, bc⟩ := C; cases bb <;> cases bc <;> cases D <;> cases E <;> rfl
theorem five9_2 (s : ByteArray) (A C : ByteArray × Bool) (D E : Option (List ByteArray)) : five9 A (s, false) C D E = none := by obtain ⟨b, bb⟩ := A; obtain ⟨c, bc⟩ := C; cases bb <;> cases bc <;> cases D <;> cases E <;> rfl
theorem five9_3 (s : ByteArray) (A B : ByteArray × Bool) (D E : Option (List ByteArray)) : five9 A B (s, false) D E = none := by obtain ⟨b, bb⟩ := A; obtain ⟨c, bc⟩ := B; cases bb <;> cases bc <;> cases D <;> cases E <;> rfl
theorem fin_1 (b c : Option ByteArray) (d e : Option (List ByteArray)) : (five (some ⟨#[]⟩) b c d e).bind finI = none := by
  cases b <;> cases c <;> cases d <;> cases e <;> simp [five, finI]
theorem fin_2 (a c : Option ByteArray) (d e : Option (List ByteArray)) : (five a (some ⟨#[]⟩) c d e).bind finI = none := by
  cases a <;> cases c <;> cases d <;> cases e <;> simp [five, finI]
theorem fin_5 (a b c : Option ByteArray) (d : Option (List ByteArray)) : (five a b c d (some [])).bind finI = none := by
  cases a <;> cases b <;> cases c <;> cases d <;> simp [five, finI]
theorem five_eq (A B C D E : Option T) : (five (nmR ⟨#[]⟩ A) (nmR ⟨#[]⟩ B) (nmR ⟨#[]⟩ C) (plR [] D) (plR [] E)).bind finI = five9 (txN A true) (txN B true) (txN C false) (plN D false) (plN E true) := by
  rcases nm_cases A with ⟨n, a1, a2, a3⟩ | ⟨a1, s, a3⟩
  · rcases nm_cases B with ⟨m, b1, b2, b3⟩ | ⟨b1, s, b3⟩
    · rcases ar_cases C with ⟨c, c1, c3⟩ | ⟨c1, s, c3⟩
      · rw [in_eq, a1, b1, c1, a3, b3, c3]
        rcases ou_cases E with ⟨l, e1, e2, e3⟩ | ⟨e1, e3⟩
        · rw [e1, e3]
          cases plR [] D with
          | none => rfl
          | some d =>
            show finI ⟨n, m, c, d, l⟩ = some ⟨n, m, c, d, l⟩
            unfold finI
            rw [if_pos ⟨a2, b2, e2⟩]
        · rw [e3]
          rcases e1 with e1 | e1
          · rw [e1, five_none5]; cases plR [] D <;> rfl
          · rw [e1, fin_5]; cases plR [] D <;> rfl
      · rw [c3, five9_3, c1, five_none3]; rfl
    · rw [b3, five9_2]
      rcases b1 with b1 | b1
      · rw [b1, five_none2]; rfl
      · rw [b1, fin_2]
  · rw [a3, five9_1]
    rcases a1 with a1 | a1
    · rw [a1, five_none1]; rfl
    · rw [a1, fin_1]
/-- The two ways are one. -/
theorem targetI_eq (t : T) (h : t.good = true) : targetI t = target9 t := by
  unfold targetI target9
  by_cases hk : t.kind = 6
  · have hn := good_names h hk
    have hev := (names_keys t.ks hn).1
    rw [if_pos hk, foldI_comb t.ks tg0 hev (keys_nodup hn)]
    unfold comb
    by_cases ho : okN t.ks = true
    · have hall : (keysF t.ks).all (fun s => memS s names5) = true := by rw [List.all_eq_true]; exact (keys_ok t.ks hev).1 ho
      rw [if_pos hall, if_pos ⟨hk, ho⟩]
      simp only [text9_look, list9_look]
      generalize lookF t.ks ⟨#[110, 97, 109, 101]⟩ = A
      generalize lookF t.ks ⟨#[116, 111, 111, 108]⟩ = B
      generalize lookF t.ks ⟨#[97, 114, 103]⟩ = C
      generalize lookF t.ks ⟨#[105, 110, 115]⟩ = D
      generalize lookF t.ks ⟨#[111, 117, 116, 115]⟩ = E
      exact five_eq A B C D E
    · have hall : ¬ (keysF t.ks).all (fun s => memS s names5) = true := fun hq => ho ((keys_ok t.ks hev).2 (by rw [List.all_eq_true] at hq; exact hq))
      rw [if_neg hall, if_neg (fun q => ho q.2)]
      rfl
  · rw [if_neg hk, if_neg (fun q => hk q.1)]
end Go.Proofs.YtmpjdooepdicoaaGreatDoor.Vl
