/- Joined: Lk, Ev. -/
import Derived.Test.YtnkfbjcgkdblgaaGreatG28
import Derived.Test.YtnkfbjcgkdblgaaGreatG32
namespace Go.Proofs.YtnkfbjcgkdblgaaGreat.Vl
open Go.RowKit T.atoms T.ok T.high T.good T.allPlain T.ord
/-- The place of a name among a record's kids. -/
def isAt (ks : List T) (s : ByteArray) (i : Nat) : Bool := decide (i % 2 = 0 ∧ i + 1 < ks.length) && ((ks[i]?.map fun k => k.text.toList == s.toList).getD false)
def getAt (ks : List T) (s : ByteArray) : Option Nat := (List.range ks.length).find? (isAt ks s)
theorem getAt_some {ks : List T} {s : ByteArray} {i : Nat} (h : isAt ks s i = true) (hn : ∀ j, j < i → isAt ks s j = false) : getAt ks s = some i := by
  unfold getAt
  rw [List.find?_range_eq_some]
  refine ⟨h, ?_, fun j hj => by rw [hn j hj]; rfl⟩
  unfold isAt at h
  simp only [Bool.and_eq_true, decide_eq_true_eq] at h
  rw [List.mem_range]; omega
theorem getAt_none {ks : List T} {s : ByteArray} (h : ∀ j, isAt ks s j = false) : getAt ks s = none := by
  unfold getAt
  rw [List.find?_eq_none]
  intro j _
  rw [h j]; simp
/-- What l5Get hands back. -/
def GPost (w : World) (ks : List T) (s : ByteArray) (e : Ending) (w' : World) : Prop := Below w.heap.size w w' ∧ match getAt ks s with
  | none => e = .returned (.tuple #[.agg #[.slice none 0 0], .bool false])
  | some i => ∃ (h : i + 1 < ks.length) (g o c : Nat), e = .returned (.tuple #[.agg #[.slice (some ⟨g, o, none⟩) (ks[i + 1]).count c], .bool true]) ∧ AtomsO w' g o (ks[i + 1]).atoms ∧ (ks[i + 1]).count ≤ c
/-- The boxes of l5Get: its value's, its answer's. -/
structure GB (w : World) (W : World) : Prop where
  B : Below w.heap.size w W
  r : W.cell? ⟨w.heap.size + 1, 0, none⟩ = some (.slice none 0 0)
  f : W.frozen? ⟨w.heap.size + 1, 0, none⟩ = false
  z : w.heap.size + 1 < W.heap.size
  k : W.heap[w.heap.size + 1]? = some (.cells #[.slice none 0 0] 28)
theorem GB.ne {w W : World} (h : GB w W) {g o : Nat} {l : List At} (ha : AtomsO W g o l) (hl : 0 < l.length) : w.heap.size + 1 ≠ g := by
  rintro rfl
  have h0 := (ha.2 0 hl).1
  simp only [World.cell?, h.k] at h0
  match hq : o + 0 * 4 with
  | 0 => simp [hq] at h0
  | k + 1 => simp [hq] at h0
theorem GB.below {w W W' : World} (h : GB w W) (hb : Below W.heap.size W W') : GB w W' := by
  have hz := h.z
  exact ⟨h.B.trans (hb.mono h.B.size), (hb.cell (p := ⟨w.heap.size + 1, 0, none⟩) (by show w.heap.size + 1 < _; omega)).trans h.r, (hb.frozen (p := ⟨w.heap.size + 1, 0, none⟩) (by show w.heap.size + 1 < _; omega)).trans h.f, Nat.lt_of_lt_of_le hz hb.size, (hb.block _ hz).trans h.k⟩
theorem GB.start (w : World) (va : Value) : GB w ((w.alloc (.cells #[va] 28)).alloc (.cells #[.slice none 0 0] 28)) := by
  have c2 := cell_new (w.alloc (.cells #[va] 28)) (.slice none 0 0) 28
  simp only [World.size_alloc] at c2
  exact ⟨((Below.refl _ _).alloc (Nat.le_refl _) _).alloc (by simp) _, c2.1, c2.2, by simp, by have := heap_alloc_new (w.alloc (.cells #[va] 28)) (.cells #[.slice none 0 0] 28); rwa [World.size_alloc] at this⟩
set_option maxRecDepth 100000 in
set_option maxHeartbeats 1000000 in
theorem get5_any (t : T) (s : ByteArray) (g o c m : Nat) (w : World) (hm : t.count = m + 1) (h1 : m < 1000) (hc : m + 1 ≤ c) (ht : AtomsO w g o t.atoms) :
    Calls Tryz.prog 34 #[.agg #[.slice (some ⟨g, o, none⟩) (m + 1) c], .string s] w (GPost w t.ks s) := by
  have HKD := hide (fun w1 (hb : Below w.heap.size w w1) => kids5_any t.atoms g o c m w1 hm (by omega) (ht.below hb) hc)
  have hE := hide (T.count_eq t)
  have HM := hide hm
  clear ht hm
  go_enter Tryz.func34, Tryz.ntmps34
  have o0 := GB.start w (.slice (some ⟨g, o, none⟩) (m + 1) c)
  go_wp2_with fail
  refine (HKD.out _ o0.B).mono ?_
  rintro e w1 ⟨g7, c7, nk, vs, ok, rfl, ⟨hyes, -⟩, hb1⟩
  obtain ⟨rfl, rfl, hown, hkids⟩ := hyes t (treeOf_atoms t)
  have O1 := hide (o0.below hb1)
  have HOA := hide hown
  have HKD2 := hide hkids
  clear hyes hown hkids hb1 o0
  have hla : t.ks.length ≤ 1000 := by have := len_le_atomsL t.ks; have := hE.out; have := HM.out; omega
  go_wp2
  go_loopw [8] (fun q wr => ∃ i : Nat, i ≤ t.ks.length + 1 ∧ i % 2 = 0 ∧ q = .int .i64 i ∧ Below w1.heap.size w1 wr ∧ ∀ j, j < i → isAt t.ks s j = false) (fun q _ => t.ks.length + 2 - (intOf q).toNat)
  case atStart => exact ⟨0, by omega, rfl, rfl, Below.refl _ _, fun j h => absurd h (Nat.not_lt_zero _)⟩
  case round =>
    obtain ⟨i, hia, hi2, rfl, hB, hno⟩ := hrel
    have HNO := hide hno
    clear hno
    have O2 := hide (O1.out.below hB)
    by_cases hlt : i + 1 < t.ks.length
    · obtain ⟨gx, ox, cx, hvx, hatx, hcx⟩ := HKD2.out.2 i (by omega)
      obtain ⟨gy, oy, cy, hvy, haty, hcy⟩ := HKD2.out.2 (i + 1) hlt
      obtain ⟨mx, hmx⟩ : ∃ mx, (t.ks[i]).count = mx + 1 := ⟨(t.ks[i]).count - 1, by have := atoms_pos t.ks[i]; unfold T.count; omega⟩
      have hsx := count_mem t.ks i (by omega)
      rw [hmx] at hvx hsx
      have hmx1 : mx < 1000 := by have := hE.out; have := HM.out; omega
      have HL := hide (fun w' (hb : Below wr.heap.size wr w') => last_any ⟨(t.ks[i]).kind, (t.ks[i]).num, (t.ks[i]).text, (t.ks[i]).ks.length⟩ (t.ks[i]).atoms gx ox cx mx w' hmx (by omega) (atoms_last _ mx hmx) ((hatx.below hB).below hb))
      have kx := (hB.cell (p := ⟨g7, i, none⟩) (row_room HOA.out).2.2).trans ((HOA.out.cellAt i (by omega)).trans hvx)
      have HKY := hide (fun W (hb : Below wr.heap.size wr W) => ((hB.trans (hb.mono hB.size)).cell (p := ⟨g7, i + 1, none⟩) (row_room HOA.out).2.2).trans ((HOA.out.cellAt (i + 1) (by omega)).trans hvy))
      have HAY := hide (fun W (hb : Below wr.heap.size wr W) => (haty.below hB).below hb)
      have HIS : Hid (isAt t.ks s i = ((t.ks[i]).text.toList == s.toList)) := (by unfold isAt; rw [decide_eq_true ⟨hi2, hlt⟩, List.getElem?_eq_getElem (show i < t.ks.length from by omega)]; rfl)
      have HIO : Hid (isAt t.ks s (i + 1) = false) := (by unfold isAt; rw [decide_eq_false (by omega)]; rfl)
      have HF := fun w => fld2' (t.ks[i]).kind (t.ks[i]).num (t.ks[i]).ks.length (t.ks[i]).text w
      clear hatx haty hmx hvx hvy
      generalize (t.ks[i]).kind = kk at *
      generalize (t.ks[i]).num = nn at *
      generalize ((t.ks[i]).ks.length : Int) = ll at *
      generalize (t.ks[i]).text = tx at *
      go_wp2_with fail
      refine (HL.out _ (Below.refl _ _)).mono ?_
      rintro e w3 ⟨rfl, hb3⟩
      have O3 := hide (O2.out.below hb3)
      have HBB := hide (hB.trans (hb3.mono hB.size))
      cases hq : (tx.toList == s.toList)
      · rw [hq] at HIS
        go_wp2
        go_roundw
        case rel => exact ⟨i + 2, by omega, by omega, by go_num, HBB.out, fun j hj => by rcases Nat.lt_or_ge j i with h | h; exact HNO.out j h; rcases Nat.lt_or_ge i j with h' | h'; rw [show j = i + 1 from by omega]; exact HIO.out; rw [show j = i from by omega]; exact HIS.out⟩
        case measure => simp [intOf]; omega
      · rw [hq] at HIS
        have HG : Hid (getAt t.ks s = some i) := getAt_some HIS.out HNO.out
        have ky := HKY.out _ hb3
        have hat := HAY.out _ hb3
        have hne := O3.out.ne hat (atoms_pos _)
        have HAT := hide hat
        have r3 := O3.out.r
        have f3 := O3.out.f
        have hw1 : wrap64 ((i : Int) + 1) = ((i + 1 : Nat) : Int) := by unfold wrap64; omega
        clear hat
        go_wp2
        refine bodyPost_ret (v := .tuple #[.agg #[.slice (some ⟨gy, oy, none⟩) (t.ks[i + 1]).count cy], .bool true]) (by simp [results, Tryz.results34, go_sem, r3]) rfl ?_
        refine ⟨O3.out.B.setCell (p := ⟨w.heap.size + 1, 0, none⟩) (by show w.heap.size ≤ w.heap.size + 1; omega) _, ?_⟩
        rw [HG.out]
        exact ⟨hlt, gy, oy, cy, rfl, atomsO_set HAT.out _ hne _, hcy⟩
    · have HG : Hid (getAt t.ks s = none) := getAt_none (fun j => by
        by_cases hj : j < i
        · exact HNO.out j hj
        · unfold isAt; rw [decide_eq_false (by omega)]; rfl)
      have hw : ¬ ((i : Int) + 1 < (t.ks.length : Int)) := by omega
      have r3 := O2.out.r
      have f3 := O2.out.f
      go_wp2
      refine bodyPost_ret (v := .tuple #[.agg #[.slice none 0 0], .bool false]) (by simp [results, Tryz.results34, go_sem, r3]) rfl ?_
      refine ⟨O2.out.B.setCell (p := ⟨w.heap.size + 1, 0, none⟩) (by show w.heap.size ≤ w.heap.size + 1; omega) _, ?_⟩
      rw [HG.out]
end Go.Proofs.YtnkfbjcgkdblgaaGreat.Vl
namespace Go.Proofs.YtnkfbjcgkdblgaaGreat.Vl
open Go.RowKit T.atoms T.ok T.high T.good T.allPlain DatAt T.ord

theorem rec_of {w : World} {x : Nat} {t : T} {p : Option Addr} {n c : Nat} {a d : Int} (h : DatAt w x t (.iface 100 (.agg #[.slice p n c, .int .i64 a, .int .i64 d]))) : t.kind = 6 ∧ t.ks.length = 2 * n ∧ ∃ vs, n ≤ c ∧ FldL w x t.ks vs ∧ RowAt w x p vs := by
  cases t with
  | mk k n s ks =>
    rw [DatAt] at h
    rcases h with ⟨_, e⟩ | ⟨_, e⟩ | ⟨_, e⟩ | ⟨_, e⟩ | ⟨_, p', c', vs, e, _⟩ | ⟨hk, p', c', m, vs, hm, e, h1, h2, h3⟩
    · cases e
    · cases e
    · cases e
    · cases e
    · injection e with h1
      exact absurd h1 (by decide)
    · cases e
      exact ⟨hk, hm, vs, h1, h2, h3⟩
theorem slt_cmp {a b : ByteArray} (h : slt a b = true) : cmpS a b < 0 := by
  have : cmpS a b = -1 := cmpS_less.2 h
  omega
/-- The names of a record come one behind the other. -/
theorem names_next : ∀ (ks : List T) (m : Nat), ks.length = 2 * m → names ks = true → ∀ j, j + 1 < m → cmpS (nameAt ks j) (nameAt ks (j + 1)) < 0
  | a :: b :: c :: r, m, hm, hn, 0, hj => by
    simp only [names, Bool.and_eq_true] at hn
    exact slt_cmp hn.1.2
  | a :: b :: c :: r, m, hm, hn, j + 1, hj => by
    simp only [names, Bool.and_eq_true] at hn
    have hm' : (c :: r).length = 2 * (m - 1) := by simp at hm ⊢; omega
    have := names_next (c :: r) (m - 1) hm' hn.2 j (by omega)
    unfold nameAt at this ⊢
    rw [show 2 * (j + 1) = 2 * j + 1 + 1 by omega, show 2 * (j + 1 + 1) = 2 * (j + 1) + 1 + 1 by omega]
    simpa using this
  | [a, b], m, hm, hn, j, hj => by simp at hm; omega
  | [a], m, hm, hn, j, hj => by simp at hm; omega
  | [], m, hm, hn, j, hj => by simp at hm; omega
theorem names_asc (ks : List T) (m : Nat) (hm : ks.length = 2 * m) (hn : names ks = true) : ∀ i j, i < j → j < m → cmpS (nameAt ks i) (nameAt ks j) < 0 := by
  intro i j hij hj
  induction j with
  | zero => omega
  | succ j ih =>
    rcases Nat.lt_succ_iff_lt_or_eq.1 hij with q | q
    · exact slt_trans (ih q (by omega)) (names_next ks m hm hn j hj)
    · subst q; exact names_next ks m hm hn i hj
theorem cmpS_self (a : ByteArray) : cmpS a a = 0 := by unfold cmpS cmpB; simp
theorem get_iff (ks : List T) (m : Nat) (nm : ByteArray) (hm : ks.length = 2 * m) : (getAt ks nm).isSome = true ↔ ∃ j, j < m ∧ cmpS (nameAt ks j) nm = 0 := by
  unfold getAt
  rw [List.find?_isSome]
  constructor
  · rintro ⟨i, _, h⟩
    unfold isAt at h
    simp only [Bool.and_eq_true, decide_eq_true_eq] at h
    obtain ⟨⟨h1, h2⟩, h3⟩ := h
    refine ⟨i / 2, by omega, ?_⟩
    unfold nameAt
    rw [show 2 * (i / 2) = i by omega]
    rw [List.getElem?_eq_getElem (by omega)] at h3 ⊢
    simp at h3 ⊢
    unfold cmpS cmpB
    rw [h3]; simp
  · rintro ⟨j, hj, h⟩
    have e := cmpS_zero h
    refine ⟨2 * j, List.mem_range.2 (by omega), ?_⟩
    unfold isAt
    unfold nameAt at e
    rw [List.getElem?_eq_getElem (by omega)] at e ⊢
    simp at e ⊢
    rw [e]
    exact ⟨by omega, rfl⟩

set_option maxRecDepth 100000 in
set_option maxHeartbeats 1000000 in
theorem find_any (t : T) (p : Option Addr) (m c x : Nat) (a d : Int) (vs : List Value) (nm : ByteArray) (w : World) (hg : t.good = true) (hk : t.kind = 6) (hm : t.ks.length = 2 * m) (hm1 : m ≤ 1000) (hD : FldL w x t.ks vs) (hR : RowAt w x p vs) :
    Calls Tryz.prog 91 #[.agg #[.slice p m c, .int .i64 a, .int .i64 d], .string nm] w fun e w' => ∃ v, e = .returned (.tuple #[v, .bool (getAt t.ks nm).isSome]) ∧ Below w.heap.size w w' := by
  have hn : names t.ks = true := by
    have he : t = .mk t.kind t.num t.text t.ks := T.eta t
    rw [he, hk] at hg
    exact good_names hg
  have hq : Below w.heap.size w (w.alloc (.cells #[.slice p m c, .int .i64 a, .int .i64 d] 100)) := (Below.refl _ _).alloc (Nat.le_refl _) _
  have b0 : (w.alloc (.cells #[.slice p m c, .int .i64 a, .int .i64 d] 100)).cell? ⟨w.heap.size, 0, none⟩ = some (.slice p m c) := by simp
  have HS := hide (search_any t.ks vs p c x m nm (w.alloc (.cells #[.slice p m c, .int .i64 a, .int .i64 d] 100)) hm hm1 (FldL.moves (Moves.below (x := x) hq) _ _ hD) (hR.moves (Moves.below (x := x) hq)) (names_asc t.ks m hm hn))
  have HG := hide (get_iff t.ks m nm hm)
  have HD := hide hD
  have HR := hide hR
  have HQ := hide hq
  have HB0 := hide b0
  have HMM := hide hm
  clear hD hR hq b0 hn hg hk hm
  go_enter Tryz.func91, Tryz.ntmps91
  go_wp2_with fail
  refine HS.out.mono ?_
  rintro e w1 ⟨i, ok, rfl, h1, h2, hb1⟩
  have BW := HQ.out.trans (hb1.mono HQ.out.size)
  cases ok
  · have HF : Hid ((getAt t.ks nm).isSome = false) := hide (by
      cases hgs : (getAt t.ks nm).isSome with
      | false => rfl
      | true =>
        obtain ⟨j, hj, hc⟩ := HG.out.1 hgs
        exact absurd hc (h2 rfl j hj))
    clear h1 h2
    go_wp2
    go_ret2
    exact ⟨_, by rw [HF.out]; rfl, BW⟩
  · obtain ⟨him, hc0⟩ := h1 rfl
    have HF : Hid ((getAt t.ks nm).isSome = true) := hide (HG.out.2 ⟨i, him, hc0⟩)
    obtain ⟨vi, hv0, hvi, hdi⟩ := FldL.at (FldL.moves (Moves.below (x := x) BW) _ _ HD.out) i (by have := HMM.out; omega)
    obtain ⟨y, u, rfl⟩ := hdi.isIface
    rcases HR.out.moves (Moves.below (x := x) BW) with hn | ⟨gp, op, rfl, hg1, hg2, hcl⟩
    · rw [hn] at hvi; simp at hvi
    have e1 := hcl (2 * i + 1) _ hvi
    rw [show op + (2 * i + 1) = op + i * 2 + 1 by omega] at e1
    have c0 := (hb1.cell (p := ⟨w.heap.size, 0, none⟩) (by simp)).trans HB0.out
    clear hdi hcl hvi hv0 h1 h2 hc0
    go_wp2
    go_ret2
    exact ⟨_, by rw [HF.out]; rfl, BW⟩

def hasNameR (t u : T) : Out := .inr (boolT (getAt t.ks u.text).isSome)
set_option maxRecDepth 100000 in
set_option maxHeartbeats 1000000 in
theorem leaf_hasName : LeafRT 61 hasNameR := fun W t u x y p n c a d s _ hg _ hc _ _ _ h4 h5 => by
  obtain ⟨hk, hm, vs, hcap, hD, hR⟩ := rec_of h4
  have e2 := text_of h5
  subst e2
  have hla := len_le_atomsL t.ks
  have hct := T.count_eq t
  have hq : Below W.heap.size W (W.alloc (.cells #[.slice p n c, .int .i64 a, .int .i64 d] 100)) := (Below.refl _ _).alloc (Nat.le_refl _) _
  have HF := hide (find_any t p n c x a d vs u.text (W.alloc (.cells #[.slice p n c, .int .i64 a, .int .i64 d] 100)) hg hk hm (by omega) (FldL.moves (Moves.below (x := x) hq) _ _ hD) (hR.moves (Moves.below (x := x) hq)))
  have HQ := hide hq
  unfold hasNameR
  generalize (getAt t.ks u.text).isSome = gb at *
  generalize u.text = s at *
  clear hD hR h4 h5 hq hg hk hm hc hla hct
  refine Calls.mono ?_ tup_bool
  go_enter Tryz.func61, Tryz.ntmps61
  go_wp2_with fail
  refine HF.out.mono ?_
  rintro e w1 ⟨v, rfl, hb1⟩
  go_wp2
  go_ret2
  exact ⟨_, _, rfl, rfl, rfl, HQ.out.trans (hb1.mono HQ.out.size)⟩
end Go.Proofs.YtnkfbjcgkdblgaaGreat.Vl
