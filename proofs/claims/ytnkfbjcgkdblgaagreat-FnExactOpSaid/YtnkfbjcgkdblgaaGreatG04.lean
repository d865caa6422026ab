/- Joined: Qs, Os, Qc, Qf. -/
import Derived.Test.YtnkfbjcgkdblgaaGreatG03
import Derived.Test.YtnkfbjcgkdblgaaGreatG01
namespace Go.Proofs.YtnkfbjcgkdblgaaGreat.Vl
open Go.RowKit T.atoms T.ok T.high T.good T.allPlain

set_option maxRecDepth 100000 in
set_option maxHeartbeats 400000 in
theorem ok5_nil (g tc : Nat) (w : World) :
    Calls Tryz.prog 29 #[.agg #[.slice (some ⟨g, 0, none⟩) 0 tc], .int .i64 0] w fun e w' => e = .returned (.bool false) ∧ Below w.heap.size w w' := by
  go_enter Tryz.func29, Tryz.ntmps29
  go_wp2
  go_ret
  exact ⟨rfl, (Below.refl _ _).alloc (Nat.le_refl _) _⟩
theorem valid_longS (l : List At) (h : 1000 < l.length) : valid l = false := by
  unfold valid; rw [decide_eq_false (by omega)]; rfl
theorem valid_ok (l : List At) (h : l.length ≤ 1000) : valid l = okOf l 0 := by
  unfold valid okOf; rw [decide_eq_true h, Bool.true_and]; cases treeOf l <;> rfl
theorem specValid_any (l : List At) (g o tc : Nat) (w : World) (ho : l.length = 0 → o = 0) (ht : AtomsO w g o l) (hc : l.length ≤ tc) (hl : l.length ≤ 1048576) :
    Calls Tryz.prog 12 #[.agg #[.slice (some ⟨g, o, none⟩) l.length tc]] w fun e w' => e = .returned (.bool (valid l)) ∧ Below w.heap.size w w' := by
  have r1 : Below w.heap.size w (w.alloc (.cells #[.slice (some ⟨g, o, none⟩) l.length tc] 28)) := (Below.refl _ _).alloc (Nat.le_refl _) _
  by_cases hlong : (l.length : Int) ≤ 1000
  · have HV := hide (valid_ok l (by omega))
    cases hm : l.length with
    | zero =>
      obtain rfl := ho hm
      obtain rfl := List.length_eq_zero_iff.1 hm
      have HZ : Hid (valid [] = false) := hide rfl
      have HO := hide (ok5_nil g tc)
      clear HV hm
      go_enter Tryz.func12, Tryz.ntmps12
      go_wp2_with fail
      refine (HO.out _).mono ?_
      rintro e w1 ⟨rfl, hb1⟩
      go_wp2
      go_ret
      exact ⟨ret_bool HZ.out.symm, r1.trans (hb1.mono (by simp))⟩
    | succ m =>
      rw [hm] at r1 hlong
      have hlong' : (m : Int) + 1 ≤ 1000 := by omega
      have HO := hide (ok5_any (l.length + 1) l g o tc 0 m _ (by omega) hm (by omega) (by omega) (by omega) (ht.below r1))
      rw [← HV.out] at HO
      generalize valid l = vl at *
      clear ht HV hlong hm
      go_enter Tryz.func12, Tryz.ntmps12
      go_wp2_with fail
      refine (HO.out).mono ?_
      rintro e w1 ⟨rfl, hb1⟩
      go_wp2
      go_ret
      exact ⟨rfl, r1.trans (hb1.mono (by simp))⟩
  · have HZ := hide (valid_longS l (by omega))
    clear ht
    go_enter Tryz.func12, Tryz.ntmps12
    go_wp2
    go_ret
    exact ⟨ret_bool HZ.out.symm, r1⟩
end Go.Proofs.YtnkfbjcgkdblgaaGreat.Vl
namespace Go.Proofs.YtnkfbjcgkdblgaaGreat.Vl
open Go.RowKit T.atoms T.ok T.high T.good T.allPlain

def cmpB (less same : Bool) : Int := if same then 0 else if less then -1 else 1
def cmpI (a b : Int) : Int := cmpB (decide (a < b)) (a == b)
def cmpS (a b : ByteArray) : Int := cmpB (slt a b) (a.toList == b.toList)
def T.ord : T → T → Int
  | .mk k n s ks, .mk k' n' s' ks' => if k ≠ k' then cmpB (decide (k < k')) false else if k = 2 ∨ k = 3 then cmpI n n' else if k = 4 then cmpS s s' else ordL ks ks'
  where
  ordL : List T → List T → Int
  | [], l => cmpB (decide (0 < l.length)) (l.length == 0)
  | _ :: _, [] => 1
  | a :: r, b :: r' => if a.ord b ≠ 0 then a.ord b else ordL r r'
open T.ord
theorem T.ord_eq (a b : T) : a.ord b = if a.kind ≠ b.kind then cmpB (decide (a.kind < b.kind)) false else if a.kind = 2 ∨ a.kind = 3 then cmpI a.num b.num else if a.kind = 4 then cmpS a.text b.text else ordL a.ks b.ks := by
  cases a; cases b; rw [T.ord]; rfl
theorem ordL_step (p q : List T) (i : Nat) (h1 : i < p.length) (h2 : i < q.length) : ordL (p.drop i) (q.drop i) = if (p[i]).ord q[i] ≠ 0 then (p[i]).ord q[i] else ordL (p.drop (i + 1)) (q.drop (i + 1)) := by
  rw [List.drop_eq_getElem_cons h1, List.drop_eq_getElem_cons h2, ordL]
theorem ordL_end (p q : List T) (i : Nat) (h : p.length ≤ i ∨ q.length ≤ i) (h1 : i ≤ p.length) (h2 : i ≤ q.length) : ordL (p.drop i) (q.drop i) = cmpB (decide (p.length < q.length)) (p.length == q.length) := by
  by_cases hp : p.length ≤ i
  · rw [List.drop_of_length_le hp, ordL, List.length_drop]
    obtain rfl : i = p.length := by omega
    congr 1
    · rw [decide_eq_decide]; omega
    · rw [Bool.eq_iff_iff]; simp; omega
  · have hq : q.length ≤ i := by omega
    rw [List.drop_of_length_le hq, List.drop_eq_getElem_cons (by omega), ordL]
    unfold cmpB
    rw [if_neg (by simp; omega), if_neg (by simp; omega)]

theorem ord_range (a b : T) : a.ord b = -1 ∨ a.ord b = 0 ∨ a.ord b = 1 := by
  cases a with
  | mk k n s ks =>
    cases b with
    | mk k' n' s' ks' =>
      rw [T.ord]
      have hc : ∀ l e, cmpB l e = -1 ∨ cmpB l e = 0 ∨ cmpB l e = 1 := by intro l e; cases l <;> cases e <;> simp [cmpB]
      split
      · exact hc _ _
      · split
        · exact hc _ _
        · split
          · exact hc _ _
          · exact rangeL ks ks'
  where
  rangeL (p q : List T) : ordL p q = -1 ∨ ordL p q = 0 ∨ ordL p q = 1 := by
    have hc : ∀ l e, cmpB l e = -1 ∨ cmpB l e = 0 ∨ cmpB l e = 1 := by intro l e; cases l <;> cases e <;> simp [cmpB]
    match p, q with
    | [], l => rw [ordL]; exact hc _ _
    | _ :: _, [] => rw [ordL]; exact .inr (.inr rfl)
    | a :: r, b :: r' =>
      rw [ordL]
      split
      · exact ord_range a b
      · exact rangeL r r'

set_option maxHeartbeats 400000 in
theorem cmp5_any (l e : Bool) (w : World) : Calls Tryz.prog 30 #[.bool l, .bool e] w fun en w' => en = .returned (.int .i64 (cmpB l e)) ∧ w' = w := by
  cases l
  all_goals cases e
  all_goals
    go_enter Tryz.func30, Tryz.ntmps30
    go_wp2
    go_ret
    exact ⟨rfl, rfl⟩
end Go.Proofs.YtnkfbjcgkdblgaaGreat.Vl
namespace Go.Proofs.YtnkfbjcgkdblgaaGreat.Vl
open Go.RowKit T.atoms T.ok T.high T.good T.allPlain

/-- Cells lie in a block from a place on. -/
def CellsAt (w : World) (g o : Nat) (vs : List Value) : Prop := ∀ j u, vs[j]? = some u → w.cell? ⟨g, o + j, none⟩ = some u
/-- A slice's cells, in a block other than x. -/
def RowAt (w : World) (x : Nat) (p : Option Addr) (vs : List Value) : Prop := vs = [] ∨ ∃ g o, p = some ⟨g, o, none⟩ ∧ g ≠ x ∧ g < w.heap.size ∧ CellsAt w g o vs
theorem CellsAt.heap {w w' : World} {g o : Nat} {vs : List Value} (h : CellsAt w g o vs) (hb : w'.heap[g]? = w.heap[g]?) : CellsAt w' g o vs := by
  intro j u hu
  have := h j u hu
  simp only [World.cell?] at this ⊢
  rw [hb]
  exact this
/-- What a change leaves: each block but x, which may become x'. -/
structure Moves (w w' : World) (x x' : Nat) : Prop where
  block : ∀ q, q < w.heap.size → q ≠ x → w'.heap[q]? = w.heap[q]?
  size : w.heap.size ≤ w'.heap.size
  other : ∀ q, q < w.heap.size → q ≠ x → q ≠ x'
theorem Moves.below {w w' : World} {x : Nat} (hb : Below w.heap.size w w') : Moves w w' x x := ⟨fun q h _ => hb.block q h, hb.size, fun _ _ h => h⟩
theorem Moves.fresh {w w' : World} {x x' : Nat} (hb : Below w.heap.size w w') (hx : w.heap.size ≤ x') : Moves w w' x x' := ⟨fun q h _ => hb.block q h, hb.size, fun q h _ => by omega⟩
theorem Moves.trans {w w1 w2 : World} {x x1 x2 : Nat} (a : Moves w w1 x x1) (b : Moves w1 w2 x1 x2) : Moves w w2 x x2 :=
  ⟨fun q h hx => (b.block q (Nat.lt_of_lt_of_le h a.size) (a.other q h hx)).trans (a.block q h hx), Nat.le_trans a.size b.size, fun q h hx => b.other q (Nat.lt_of_lt_of_le h a.size) (a.other q h hx)⟩
theorem RowAt.moves {w w' : World} {x x' : Nat} {p : Option Addr} {vs : List Value} (h : RowAt w x p vs) (hm : Moves w w' x x') : RowAt w' x' p vs := by
  rcases h with h | ⟨g, o, h1, h2, h3, h4⟩
  · exact .inl h
  · exact .inr ⟨g, o, h1, hm.other g h3 h2, Nat.lt_of_lt_of_le h3 hm.size, h4.heap (hm.block g h3 h2)⟩

/-- A datum in memory: the value of the interface type; no block that it reaches is x. -/
def DatAt (w : World) (x : Nat) : T → Value → Prop
  | .mk k n s ks, v =>
    (k = 1 ∧ v = .iface 137 (.agg #[])) ∨ (k = 2 ∧ v = .iface 83 (.bool (n == 1))) ∨ (k = 3 ∧ v = .iface 103 (.int .i64 n)) ∨ (k = 4 ∧ v = .iface 89 (.string s)) ∨
    (k = 5 ∧ ∃ p c vs, v = .iface 95 (.agg #[.slice p ks.length c, .int .i64 (1 + (atomsL ks).length : Nat), .int .i64 (highL ks : Nat)]) ∧ ks.length ≤ c ∧ DatL w x ks vs ∧ RowAt w x p vs) ∨
    (k = 6 ∧ ∃ p c m vs, ks.length = 2 * m ∧ v = .iface 100 (.agg #[.slice p m c, .int .i64 (1 + (atomsL ks).length : Nat), .int .i64 (highL ks : Nat)]) ∧ m ≤ c ∧ FldL w x ks vs ∧ RowAt w x p vs)
  where
  DatL (w : World) (x : Nat) : List T → List Value → Prop
  | [], vs => vs = []
  | t :: r, vs => ∃ v vr, vs = v :: vr ∧ DatAt w x t v ∧ DatL w x r vr
  FldL (w : World) (x : Nat) : List T → List Value → Prop
  | [], vs => vs = []
  | [_], _ => False
  | a :: b :: r, vs => ∃ v vr, vs = .string a.text :: v :: vr ∧ DatAt w x b v ∧ FldL w x r vr
open DatAt

theorem DatAt.moves {w w' : World} {x x' : Nat} (hm : Moves w w' x x') : ∀ (t : T) (v : Value), DatAt w x t v → DatAt w' x' t v
  | .mk k n s ks, v, h => by
    unfold DatAt at h ⊢
    rcases h with h | h | h | h | ⟨h, p, c, vs, h1, hc, h2, h3⟩ | ⟨h, p, c, m, vs, h0, h1, hc, h2, h3⟩
    · exact .inl h
    · exact .inr (.inl h)
    · exact .inr (.inr (.inl h))
    · exact .inr (.inr (.inr (.inl h)))
    · exact .inr (.inr (.inr (.inr (.inl ⟨h, p, c, vs, h1, hc, movesL hm ks vs h2, h3.moves hm⟩))))
    · exact .inr (.inr (.inr (.inr (.inr ⟨h, p, c, m, vs, h0, h1, hc, movesF hm ks vs h2, h3.moves hm⟩))))
  where
  movesL {w w' : World} {x x' : Nat} (hm : Moves w w' x x') : ∀ (l : List T) (vs : List Value), DatL w x l vs → DatL w' x' l vs
    | [], vs, h => by unfold DatL at h ⊢; exact h
    | t :: r, vs, h => by
      unfold DatL at h ⊢
      obtain ⟨v, vr, h1, h2, h3⟩ := h
      exact ⟨v, vr, h1, DatAt.moves hm t v h2, movesL hm r vr h3⟩
  movesF {w w' : World} {x x' : Nat} (hm : Moves w w' x x') : ∀ (l : List T) (vs : List Value), FldL w x l vs → FldL w' x' l vs
    | [], vs, h => by unfold FldL at h ⊢; exact h
    | [_], vs, h => by unfold FldL at h; exact h.elim
    | a :: b :: r, vs, h => by
      unfold FldL at h ⊢
      obtain ⟨v, vr, h1, h2, h3⟩ := h
      exact ⟨v, vr, h1, DatAt.moves hm b v h2, movesF hm r vr h3⟩
theorem DatL.moves {w w' : World} {x x' : Nat} (hm : Moves w w' x x') : ∀ (l : List T) (vs : List Value), DatL w x l vs → DatL w' x' l vs := DatAt.moves.movesL hm
theorem FldL.moves {w w' : World} {x x' : Nat} (hm : Moves w w' x x') : ∀ (l : List T) (vs : List Value), FldL w x l vs → FldL w' x' l vs := DatAt.moves.movesF hm

theorem DatL.len {w : World} {x : Nat} : ∀ {l : List T} {vs : List Value}, DatL w x l vs → vs.length = l.length
  | [], vs, h => by unfold DatL at h; rw [h]; rfl
  | t :: r, vs, h => by
    unfold DatL at h
    obtain ⟨v, vr, rfl, _, h3⟩ := h
    simp [DatL.len h3]
theorem DatL.at {w : World} {x : Nat} : ∀ {l : List T} {vs : List Value}, DatL w x l vs → ∀ j (h : j < l.length), ∃ v, vs[j]? = some v ∧ DatAt w x l[j] v
  | t :: r, vs, h, 0, _ => by
    unfold DatL at h
    obtain ⟨v, vr, rfl, h2, _⟩ := h
    exact ⟨v, rfl, h2⟩
  | t :: r, vs, h, j + 1, hj => by
    unfold DatL at h
    obtain ⟨v, vr, rfl, _, h3⟩ := h
    obtain ⟨u, hu, hd⟩ := DatL.at h3 j (by simpa using hj)
    exact ⟨u, hu, hd⟩
theorem DatL.snoc {w : World} {x : Nat} : ∀ {l : List T} {vs : List Value} {t : T} {v : Value}, DatL w x l vs → DatAt w x t v → DatL w x (l ++ [t]) (vs ++ [v])
  | [], vs, t, v, h, ht => by
    unfold DatL at h
    subst h
    show DatL w x [t] [v]
    unfold DatL
    exact ⟨v, [], rfl, ht, by unfold DatL; rfl⟩
  | a :: r, vs, t, v, h, ht => by
    unfold DatL at h
    obtain ⟨u, vr, rfl, h2, h3⟩ := h
    show DatL w x (a :: (r ++ [t])) (u :: (vr ++ [v]))
    unfold DatL
    exact ⟨u, vr ++ [v], rfl, h2, DatL.snoc h3 ht⟩
theorem DatL.take {w : World} {x : Nat} : ∀ {l : List T} {vs : List Value} (m : Nat), DatL w x l vs → DatL w x (l.take m) (vs.take m)
  | l, vs, 0, h => by rw [List.take_zero, List.take_zero]; unfold DatL; rfl
  | [], vs, m + 1, h => by unfold DatL at h; subst h; simp; unfold DatL; rfl
  | t :: r, vs, m + 1, h => by
    unfold DatL at h
    obtain ⟨v, vr, rfl, h2, h3⟩ := h
    rw [List.take_succ_cons, List.take_succ_cons]
    unfold DatL
    exact ⟨v, _, rfl, h2, DatL.take m h3⟩
theorem DatL.drop {w : World} {x : Nat} : ∀ {l : List T} {vs : List Value} (m : Nat), DatL w x l vs → DatL w x (l.drop m) (vs.drop m)
  | l, vs, 0, h => by rwa [List.drop_zero, List.drop_zero]
  | [], vs, m + 1, h => by unfold DatL at h; subst h; simp; unfold DatL; rfl
  | t :: r, vs, m + 1, h => by
    unfold DatL at h
    obtain ⟨v, vr, rfl, h2, h3⟩ := h
    rw [List.drop_succ_cons, List.drop_succ_cons]
    exact DatL.drop m h3
theorem DatAt.one {w : World} {x : Nat} {t : T} {v : Value} (h : DatAt w x t v) : v.oneCell' = true := by
  cases t
  unfold DatAt at h
  rcases h with ⟨_, rfl⟩ | ⟨_, rfl⟩ | ⟨_, rfl⟩ | ⟨_, rfl⟩ | ⟨_, p, c, vs, rfl, _⟩ | ⟨_, p, c, m, vs, _, rfl, _⟩ <;> rfl
theorem DatL.one {w : World} {x : Nat} : ∀ {l : List T} {vs : List Value}, DatL w x l vs → ∀ u ∈ vs, u.oneCell' = true
  | [], vs, h, u, hu => by unfold DatL at h; subst h; cases hu
  | t :: r, vs, h, u, hu => by
    unfold DatL at h
    obtain ⟨v, vr, rfl, h2, h3⟩ := h
    rcases List.mem_cons.1 hu with rfl | hu
    · exact h2.one
    · exact DatL.one h3 u hu
end Go.Proofs.YtnkfbjcgkdblgaaGreat.Vl
namespace Go.Proofs.YtnkfbjcgkdblgaaGreat.Vl
open Go.RowKit T.atoms T.ok T.high T.good T.allPlain DatAt

abbrev ext (a d : Int) : Value := .agg #[.int .i64 a, .int .i64 d]

theorem bcell {W w1 : World} (hb : Below W.heap.size W w1) : (∀ b o, b < W.heap.size → w1.cell? ⟨b, o, none⟩ = W.cell? ⟨b, o, none⟩) ∧ (∀ b o, b < W.heap.size → w1.frozen? ⟨b, o, none⟩ = W.frozen? ⟨b, o, none⟩) :=
  ⟨fun b o h => hb.cell (p := ⟨b, o, none⟩) h, fun b o h => hb.frozen (p := ⟨b, o, none⟩) h⟩
set_option maxHeartbeats 400000 in
theorem single_any (w : World) : Calls Tryz.prog 122 #[] w fun e w' => e = .returned (ext 1 0) ∧ Below w.heap.size w w' := by
  go_enter Tryz.func122, Tryz.ntmps122
  go_wp2
  refine bodyPost_ret (v := ext 1 0) (by simp [results, Tryz.results122, go_sem, ext]) rfl ⟨rfl, ?_⟩
  exact (Below.refl _ _).alloc (Nat.le_refl _) _

set_option maxHeartbeats 400000 in
theorem holding_any (a d b c : Nat) (w : World) (ha : a ≤ 1048576) (hb : b ≤ 1048576) (_hd : d ≤ 1048576) (hc : c ≤ 1048576) :
    Calls Tryz.prog 123 #[ext (a : Nat) (d : Nat), ext (b : Nat) (c : Nat)] w fun e w' => e = .returned (ext (a + b : Nat) (max d (c + 1) : Nat)) ∧ Below w.heap.size w w' := by
  unfold ext
  by_cases h : (d : Int) < (c : Int) + 1
  · go_enter Tryz.func123, Tryz.ntmps123
    go_wp2
    refine bodyPost_ret (v := .agg #[.int .i64 ((a : Int) + (b : Int)), .int .i64 ((c : Int) + 1)]) (by simp [results, Tryz.results123, go_sem]) rfl ⟨?_, ?_⟩
    · have e1 : ((a + b : Nat) : Int) = (a : Int) + (b : Int) := by omega
      have e2 : ((max d (c + 1) : Nat) : Int) = (c : Int) + 1 := by omega
      first | rw [e1, e2] | rw [e2]
    · exact (((Below.refl _ _).alloc (Nat.le_refl _) _).alloc (by simp) _).alloc (by simp; omega) _
  · go_enter Tryz.func123, Tryz.ntmps123
    go_wp2
    refine bodyPost_ret (v := .agg #[.int .i64 ((a : Int) + (b : Int)), .int .i64 (d : Int)]) (by simp [results, Tryz.results123, go_sem]) rfl ⟨?_, ?_⟩
    · have e1 : ((a + b : Nat) : Int) = (a : Int) + (b : Int) := by omega
      have e2 : ((max d (c + 1) : Nat) : Int) = (d : Int) := by omega
      first | rw [e1, e2] | rw [e2]
    · exact (((Below.refl _ _).alloc (Nat.le_refl _) _).alloc (by simp) _).alloc (by simp; omega) _

set_option maxHeartbeats 400000 in
theorem fits_any (a d : Nat) (w : World) : Calls Tryz.prog 124 #[ext (a : Nat) (d : Nat)] w fun e w' => e = .returned (.bool (decide (a ≤ 1000 ∧ d ≤ 12))) ∧ Below w.heap.size w w' := by
  unfold ext
  by_cases h1 : (a : Int) ≤ 1000
  all_goals by_cases h2 : (d : Int) ≤ 12
  all_goals
    go_enter Tryz.func124, Tryz.ntmps124
    go_wp2
    go_ret
    exact ⟨ret_bool (by rw [eq_comm]; simp; omega), (Below.refl _ _).alloc (Nat.le_refl _) _⟩

set_option maxHeartbeats 400000 in
theorem newText_any (s : ByteArray) (w : World) : Calls Tryz.prog 94 #[.string s] w fun e w' => e = .returned (.tuple #[.iface 89 (.string s), .bool (decide ((s.size : Int) ≤ 1000))]) ∧ w' = w := by
  go_enter Tryz.func94, Tryz.ntmps94
  go_wp2
  go_ret2
  exact ⟨rfl, rfl⟩

set_option maxHeartbeats 400000 in
theorem size_bool (v : Value) (w : World) : Calls Tryz.prog 175 #[v] w fun e w' => e = .returned (ext 1 0) ∧ Below w.heap.size w w' := by
  go_enter Tryz.func175, Tryz.ntmps175
  go_wp2_with (go_at_call 122; refine (single_any _).mono ?_; rintro e w1 ⟨rfl, hb1⟩; obtain ⟨hc, hf⟩ := bcell hb1; have hz : w.heap.size < w1.heap.size := Nat.lt_of_lt_of_le (by simp) hb1.size)
  refine bodyPost_ret (v := ext 1 0) (by simp [results, Tryz.results175, go_sem, hc]) rfl ⟨rfl, ?_⟩
  exact ((((Below.refl _ _).alloc (Nat.le_refl _) _).trans (hb1.mono (by simp))).setCell (by simp) _).setCell (by simp) _

set_option maxHeartbeats 400000 in
theorem size_int (v : Value) (w : World) : Calls Tryz.prog 182 #[v] w fun e w' => e = .returned (ext 1 0) ∧ Below w.heap.size w w' := by
  go_enter Tryz.func182, Tryz.ntmps182
  go_wp2_with (go_at_call 122; refine (single_any _).mono ?_; rintro e w1 ⟨rfl, hb1⟩; obtain ⟨hc, hf⟩ := bcell hb1; have hz : w.heap.size < w1.heap.size := Nat.lt_of_lt_of_le (by simp) hb1.size)
  refine bodyPost_ret (v := ext 1 0) (by simp [results, Tryz.results182, go_sem, hc]) rfl ⟨rfl, ?_⟩
  exact ((((Below.refl _ _).alloc (Nat.le_refl _) _).trans (hb1.mono (by simp))).setCell (by simp) _).setCell (by simp) _

set_option maxHeartbeats 400000 in
theorem size_text (v : Value) (w : World) : Calls Tryz.prog 177 #[v] w fun e w' => e = .returned (ext 1 0) ∧ Below w.heap.size w w' := by
  go_enter Tryz.func177, Tryz.ntmps177
  go_wp2_with (go_at_call 122; refine (single_any _).mono ?_; rintro e w1 ⟨rfl, hb1⟩; obtain ⟨hc, hf⟩ := bcell hb1; have hz : w.heap.size < w1.heap.size := Nat.lt_of_lt_of_le (by simp) hb1.size)
  refine bodyPost_ret (v := ext 1 0) (by simp [results, Tryz.results177, go_sem, hc]) rfl ⟨rfl, ?_⟩
  exact ((((Below.refl _ _).alloc (Nat.le_refl _) _).trans (hb1.mono (by simp))).setCell (by simp) _).setCell (by simp) _

theorem size_none_placeholder : True := trivial

set_option maxHeartbeats 400000 in
theorem size_ext (a d : Int) (w : World) : Calls Tryz.prog 178 #[ext a d] w fun e w' => e = .returned (ext a d) ∧ Below w.heap.size w w' := by
  unfold ext
  go_enter Tryz.func178, Tryz.ntmps178
  go_wp2
  refine bodyPost_ret (v := .agg #[.int .i64 a, .int .i64 d]) (by simp [results, Tryz.results178, go_sem]) rfl ⟨rfl, ?_⟩
  exact ((Below.refl _ _).alloc (Nat.le_refl _) _).alloc (by simp) _
end Go.Proofs.YtnkfbjcgkdblgaaGreat.Vl
