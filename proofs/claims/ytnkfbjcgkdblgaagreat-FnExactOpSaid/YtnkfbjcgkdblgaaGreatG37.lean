/- Joined: El. -/
import Derived.Test.YtnkfbjcgkdblgaaGreatG23
import Derived.Maps.OwnSet
namespace Go.Proofs.YtnkfbjcgkdblgaaGreat.Vl
open Go.RowKit T.atoms T.ok T.high T.good T.allPlain DatAt T.ord

/-- An element of a map as it stands. -/
def anyElem : Value → Option (DataW Value × List MemPlace) := fun v => some (.held v, [])
theorem lawI : Maps.Keyed Tryz.prog 3 := Maps.int_keyed Tryz.underlying3
theorem wpList_insert_own {H : Type} {P : Program} (w : World) {ops : Array Oper} {rest : List Oper} {o : Oper} {a : Act} {Q : Exit → Act → World → Prop}
    (hg : o.guard = none) (m x v : Operand) (t : TypeId) (hop : o.op = Op.insert t m x v)
    (k e : TypeId) (K : Maps.Keyed P k) (ht : P.underlying t = some (.map k e)) (R : Value → Option (DataW H × List MemPlace)) (b n : Nat) (D : DataW H)
    (hm : a.eval m = .map (some b)) (hown : w.ownsMap P k R b n D) (hn : n < maxLen) (key val : Value) (kl : Lit) (hx : a.eval x = key) (hv : a.eval v = val) (hkey : keyOf P k key = some kl)
    (d : DataW H) (ps : List MemPlace) (hval : R val = some (d, ps))
    (hK : ∀ w', w'.ownsMap P k R b (n + 1) (D.put kl d) → w.grownBy w' (some b) → wpList P ops Q rest (a.put o.dst undef) w') :
    wpList P ops Q (o :: rest) a w := by
  refine wpList_plain hg fun K' hK' => ?_
  obtain ⟨w', hrun, r1, r2⟩ := hown.update K ht hn hkey hval
  unfold Oper.wp
  simp [execOp, hop, hm, hx, hv, hrun, Result.andThen]
  exact hK' _ _ (hK w' r1 r2)
theorem map_below {H : Type} {w w1 : World} {P : Program} {k b n : Nat} {R : Value → Option (DataW H × List MemPlace)} {D : DataW H} (h : w.ownsMap P k R b n D) (hb : Below w.heap.size w w1) : w1.ownsMap P k R b n D := by
  obtain ⟨es, clock, h1, h2⟩ := h
  have hlt : b < w.heap.size := (Array.getElem?_eq_some_iff.1 h1).1
  exact ⟨es, clock, (hb.block b hlt).trans h1, h2⟩
theorem keyI (k : Int) (h : (Lit.int .i64 k).wf = true) : keyOf Tryz.prog 3 (.int .i64 k) = some (.int .i64 k) := Maps.keyOf_int_mk Tryz.underlying3 h
theorem zero_deed (w : World) : (zeroValue 51).run Tryz.prog w = .ok (.agg #[.int .i64 0, .nilFunc]) w := by kernel_rfl

/-- What a table of deeds holds, from the number 1 on. -/
def tabFrom : Nat → List (Nat × Nat) → DataW Value → DataW Value
  | _, [], D => D
  | k, x :: r, D => tabFrom (k + 1) r (D.put (.int .i64 (k + 1 : Nat)) (.held (deedV 2 x.1 x.2)))
def tabD (l : List (Nat × Nat)) : DataW Value := tabFrom 0 l (.map [])
theorem tabFrom_snoc : ∀ (l : List (Nat × Nat)) (k : Nat) (D : DataW Value) (x : Nat × Nat), tabFrom k (l ++ [x]) D = (tabFrom k l D).put (.int .i64 (k + l.length + 1 : Nat)) (.held (deedV 2 x.1 x.2))
  | [], k, D, x => rfl
  | y :: r, k, D, x => by
    show tabFrom (k + 1) (r ++ [x]) _ = (tabFrom (k + 1) r _).put _ _
    rw [tabFrom_snoc r (k + 1)]
    congr 3
    simp; omega
theorem tabD_snoc (l : List (Nat × Nat)) (x : Nat × Nat) : tabD (l ++ [x]) = (tabD l).put (.int .i64 (l.length + 1 : Nat)) (.held (deedV 2 x.1 x.2)) := by
  unfold tabD; rw [tabFrom_snoc]; simp
theorem tabFrom_isMap : ∀ (l : List (Nat × Nat)) (k : Nat) (D : DataW Value), Maps.IsMap D → Maps.IsMap (tabFrom k l D)
  | [], _, _, h => h
  | _ :: r, k, _, h => tabFrom_isMap r (k + 1) _ (h.put _ _)
theorem tabFrom_low : ∀ (l : List (Nat × Nat)) (k : Nat) (D : DataW Value) (op : Int) (z : DataW Value), op ≤ k ∨ (k + l.length : Nat) < op → (tabFrom k l D).atKey (.int .i64 op) z = D.atKey (.int .i64 op) z
  | [], _, _, _, _, _ => rfl
  | x :: r, k, D, op, z, h => by
    show (tabFrom (k + 1) r _).atKey _ _ = _
    simp only [List.length_cons] at h
    rw [tabFrom_low r (k + 1) _ op z (by omega), Maps.atKey_put_other (by intro e; cases e; omega)]
theorem tabFrom_at : ∀ (l : List (Nat × Nat)) (k : Nat) (D : DataW Value) (i : Nat) (h : i < l.length) (z : DataW Value), Maps.IsMap D → (tabFrom k l D).atKey (.int .i64 (k + i + 1 : Nat)) z = .held (deedV 2 (l[i]).1 (l[i]).2)
  | x :: r, k, D, 0, _, z, hD => by
    show (tabFrom (k + 1) r _).atKey _ _ = _
    rw [tabFrom_low r (k + 1) _ _ z (.inl (by simp)), Nat.add_zero, Maps.atKey_put_same hD (show WideAt.IsKeyLit (.int .i64 _) from trivial)]; rfl
  | x :: r, k, D, i + 1, h, z, hD => by
    show (tabFrom (k + 1) r _).atKey _ _ = _
    have := tabFrom_at r (k + 1) (D.put (.int .i64 (k + 1 : Nat)) (.held (deedV 2 x.1 x.2))) i (by simpa using h) z (hD.put _ _)
    rw [show k + (i + 1) + 1 = k + 1 + i + 1 by omega]
    exact this
def tabV (l : List (Nat × Nat)) (op : Int) : Value := match (if 1 ≤ op then l[(op - 1).toNat]? else none) with
  | some x => deedV 2 x.1 x.2
  | none => .agg #[.int .i64 0, .nilFunc]
theorem tab_at (l : List (Nat × Nat)) (op : Int) : (tabD l).atKey (.int .i64 op) (.held (.agg #[.int .i64 0, .nilFunc])) = .held (tabV l op) := by
  unfold tabD tabV
  by_cases h1 : 1 ≤ op
  · rw [if_pos h1]
    by_cases h2 : (op - 1).toNat < l.length
    · have := tabFrom_at l 0 (.map []) (op - 1).toNat h2 (.held (.agg #[.int .i64 0, .nilFunc])) Maps.isMap_empty
      rw [List.getElem?_eq_getElem h2, ← this]
      congr 2
      omega
    · rw [List.getElem?_eq_none (by omega), tabFrom_low l 0 _ op _ (.inr (by omega))]; rfl
  · rw [if_neg h1, tabFrom_low l 0 _ op _ (.inl (by omega))]; rfl
theorem tab_look (l : List (Nat × Nat)) (op : Int) (g n : Nat) (w : World) (hw : (Lit.int .i64 op).wf = true) (h : w.ownsMap Tryz.prog 3 anyElem g n (tabD l)) : (Instr.lookup 52 (.map (some g)) (.int .i64 op) false).run Tryz.prog w = .ok (tabV l op) w := by
  obtain ⟨v, ps, hrun, hv⟩ := h.lookup lawI Tryz.underlying52 (zero_deed w) (zd := .held (.agg #[.int .i64 0, .nilFunc])) (zp := []) rfl (keyI op hw)
  rw [hrun]
  have e : DataW.held v = (tabD l).atKey (.int .i64 op) (.held (.agg #[.int .i64 0, .nilFunc])) := by
    have := congrArg (fun o => o.map Prod.fst) hv
    simpa [anyElem] using this
  rw [tab_at] at e
  cases e
  rfl
/-- The table so far. -/
structure Tab (w : World) (Rs : List (T → T → Out)) (l : List (Nat × Nat)) (W : World) : Prop where
  B : Below w.heap.size w W
  len : l.length = Rs.length
  map : W.ownsMap Tryz.prog 3 anyElem w.heap.size l.length (tabD l)
  deeds : ∀ i (h : i < l.length) (h' : i < Rs.length), ∃ lo hi, w.heap.size < lo ∧ DeedAt lo hi W (l[i]).1 (l[i]).2 Rs[i]
  z : w.heap.size < W.heap.size
theorem Tab.below {w W W' : World} {Rs : List (T → T → Out)} {l : List (Nat × Nat)} (h : Tab w Rs l W) (hb : Below W.heap.size W W') : Tab w Rs l W' :=
  ⟨h.B.trans (hb.mono h.B.size), h.len, map_below h.map hb, fun i a b => by obtain ⟨lo, hi, h1, h2⟩ := h.deeds i a b; exact ⟨lo, hi, h1, h2.same ((Same.refl h2.size).below hb)⟩, Nat.lt_of_lt_of_le h.z hb.size⟩
theorem Tab.step {w W W' : World} {Rs : List (T → T → Out)} {l : List (Nat × Nat)} {lo hi f b : Nat} {R : T → T → Out} (h : Tab w Rs l W) (hd : DeedAt lo hi W f b R) (hlo : w.heap.size < lo) (ho : W'.ownsMap Tryz.prog 3 anyElem w.heap.size (l.length + 1) ((tabD l).put (.int .i64 (l.length + 1 : Nat)) (.held (deedV 2 f b)))) (hg : W.grownBy W' (some w.heap.size)) : Tab w (Rs ++ [R]) (l ++ [(f, b)]) W' := by
  refine ⟨h.B.grown hg h.B.size (fun k e => by cases e; exact Nat.le_refl _), by simp [h.len], by rw [tabD_snoc]; simpa using ho, ?_, Nat.lt_of_lt_of_le h.z hg.size⟩
  intro i a aa
  by_cases hil0 : i < l.length
  · obtain ⟨lo', hi', h1, h2⟩ := h.deeds i hil0 (by have := h.len; omega)
    refine ⟨lo', hi', h1, ?_⟩
    rw [List.getElem_append_left hil0, List.getElem_append_left (by have := h.len; omega)]
    exact h2.same ((Same.refl h2.size).grown hg h1)
  · have hil : i = l.length := by simp at a; omega
    subst hil
    refine ⟨lo, hi, hlo, ?_⟩
    have e1 : (l ++ [(f, b)])[l.length] = (f, b) := by simp
    have e2 : (Rs ++ [R])[l.length]'aa = R := by simp [h.len]
    rw [e1, e2]
    exact hd.same ((Same.refl hd.size).grown hg hlo)
/-- Deeds that are made one behind the other, and the first of them that fits. -/
structure Row (w : World) (Rs : List (T → T → Out)) (l : List (Nat × Nat)) (W : World) : Prop where
  B : Below w.heap.size w W
  len : l.length = Rs.length
  deeds : ∀ i (h : i < l.length) (h' : i < Rs.length), DeedAt w.heap.size W.heap.size W (l[i]).1 (l[i]).2 Rs[i]
theorem Row.nil (w : World) : Row w [] [] w := ⟨Below.refl _ _, rfl, fun i h => by cases h⟩
theorem Row.below {w W W' : World} {Rs : List (T → T → Out)} {l : List (Nat × Nat)} (h : Row w Rs l W) (hb : Below W.heap.size W W') : Row w Rs l W' :=
  ⟨h.B.trans (hb.mono h.B.size), h.len, fun i a b => ((h.deeds i a b).same ((Same.refl (Nat.le_refl _)).below hb)).wide (Nat.le_refl _) hb.size (Nat.le_refl _)⟩
theorem Row.step {w W W' : World} {Rs : List (T → T → Out)} {l : List (Nat × Nat)} {lo hi f b : Nat} {R : T → T → Out} (h : Row w Rs l W) (hb : Below W.heap.size W W') (hd : DeedAt lo hi W' f b R) (hlo : W.heap.size ≤ lo) : Row w (Rs ++ [R]) (l ++ [(f, b)]) W' := by
  have h2 := h.below hb
  refine ⟨h2.B, by simp [h.len], ?_⟩
  intro i a aa
  by_cases hi : i < l.length
  · rw [List.getElem_append_left hi, List.getElem_append_left (by have := h.len; omega)]
    exact h2.deeds i hi (by have := h.len; omega)
  · have hil : i = l.length := by simp at a; omega
    subst hil
    have e1 : (l ++ [(f, b)])[l.length] = (f, b) := by simp
    have e2 : (Rs ++ [R])[l.length]'aa = R := by simp [h.len]
    rw [e1, e2]
    exact hd.wide (by have := h.B.size; omega) hd.size (Nat.le_refl _)
def cellsD : List (Nat × Nat) → List Value
  | [] => []
  | x :: r => .int .i64 2 :: .func (.func x.1) #[] #[.pointer (some ⟨x.2, 0, none⟩)] :: cellsD r
theorem cellsD_at : ∀ (l : List (Nat × Nat)) (i : Nat) (h : i < l.length), (cellsD l)[i * 2]? = some (.int .i64 2) ∧ (cellsD l)[i * 2 + 1]? = some (.func (.func (l[i]).1) #[] #[.pointer (some ⟨(l[i]).2, 0, none⟩)])
  | x :: r, 0, _ => ⟨rfl, rfl⟩
  | x :: r, i + 1, h => by
    have := cellsD_at r i (by simpa using h)
    rw [show (i + 1) * 2 = i * 2 + 1 + 1 by omega]
    exact this
theorem Row.either {w W w' : World} {Rs : List (T → T → Out)} {l : List (Nat × Nat)} (h : Row w Rs l W) (hl : l.length ≤ 100) (hb : Below (W.heap.size + 1) (W.alloc (.cells (cellsD l).toArray 51)) w') (hc : w'.cell? ⟨W.heap.size + 1, 0, none⟩ = some (.slice (some ⟨W.heap.size, 0, none⟩) l.length l.length)) (hz : W.heap.size + 1 < w'.heap.size) :
    DeedAt w.heap.size w'.heap.size w' 85 (W.heap.size + 1) (fun t u => eitherOut (Rs.map fun R => R t u)) := by
  have hB : Below W.heap.size W w' := ((Below.refl _ _).alloc (Nat.le_refl _) _).trans (hb.mono (Nat.le_succ _))
  have h2 := h.below hB
  have hs := h.B.size
  refine deedE l Rs h.len.symm hl W.heap.size (W.heap.size + 1) hs (by omega) (by omega) hz (Nat.le_refl _) hc (fun i hi => ?_) (fun i a b => h2.deeds i a b)
  obtain ⟨a1, a2⟩ := cellsD_at l i hi
  exact ⟨(hb.cell (p := ⟨W.heap.size, i * 2, none⟩) (Nat.lt_succ_self _)).trans (eight_new W (cellsD l) _ _ _ a1), (hb.cell (p := ⟨W.heap.size, i * 2 + 1, none⟩) (Nat.lt_succ_self _)).trans (eight_new W (cellsD l) _ _ _ a2)⟩

/-- What the table does for each op. -/
def hasAll (RTH RLH RRH : T → T → Out) (t u : T) : Out := eitherOut ([twoTT RTH, twoLD RLH, twoRT RRH].map fun R => R t u)
def addAll (RLL RRR : T → T → Out) (t u : T) : Out := eitherOut ([twoII addR, twoTT catR, twoLL RLL, twoRR RRR].map fun R => R t u)
def opRs (RTH RLH RRH RLL RRR : T → T → Out) : List (T → T → Out) := [twoBB orR, twoBB andR, cmpsD (fun n => decide (n = 0)), cmpsD (fun n => decide (n ≠ 0)), alike (fun n => decide (n < 0)), alike (fun n => decide (n ≤ 0)), alike (fun n => decide (0 < n)), alike (fun n => decide (0 ≤ n)), hasAll RTH RLH RRH, addAll RLL RRR, twoII subR, twoII mulR, twoII quoR, twoII remR]
/-- What is left to be asked of the functions behind the table. -/
structure Hard (RTH RLH RRH RLL RRR : T → T → Out) : Prop where
  th : LeafTT 57 RTH
  lh : LeafLD 59 RLH
  rh : LeafRT 61 RRH
  ll : LeafLL 66 RLL
  rr : LeafRR 68 RRR
theorem Tab.start (w : World) : Tab w [] [] (w.alloc (.map #[] 0)) := ⟨(Below.refl _ _).alloc (Nat.le_refl _) _, rfl, World.ownsMap_made (H := Value) w Tryz.prog 3 anyElem, (fun i h => by cases h), by simp⟩

set_option maxRecDepth 100000 in
set_option maxHeartbeats 4000000 in
theorem opTable_any {RTH RLH RRH RLL RRR : T → T → Out} (HH : Hard RTH RLH RRH RLL RRR) (w : World) : Calls Tryz.prog 24 #[] w fun e w' => ∃ l, e = .returned (.map (some w.heap.size)) ∧ Tab w (opRs RTH RLH RRH RLL RRR) l w' := by
  have hmm := @run_makeMap Tryz.prog
  have T0 := hide (Tab.start w)
  go_enter Tryz.func24, Tryz.ntmps24
  go_wp2_with fail
  generalize w.alloc (.map #[] 0) = v0 at *
  refine (twoBB_any 45 #[] _).mono ?_
  rintro e u1 ⟨rfl, c0, b1, z1⟩
  have TB := hide (T0.out.below b1)
  have DD := hide (deedBB (en_of Tryz.func45 (by kernel_rfl) (by kernel_rfl)) c0 z1 leaf_or)
  have HLO := hide T0.out.z
  clear c0 b1 z1 T0
  unfold deedV
  go_wp2_with (show wpList _ _ _ ({ dst := _, op := Op.insert _ _ _ _, type := _, pos := _, after := _, guard := _ } :: _) _ _; go_must (refine wpList_insert_own _ rfl _ _ _ 52 rfl 3 51 lawI Tryz.underlying52 _ w.heap.size 0 _ rfl TB.out.map (by unfold maxLen; omega) _ _ _ rfl rfl (keyI 1 (by decide)) _ [] rfl ?_))
  intro v1 ho hg
  have T1 := hide (TB.out.step DD.out (hlo := HLO.out) ho hg)
  clear ho hg TB DD HLO
  go_wp2_with fail
  refine (twoBB_any 46 #[] _).mono ?_
  rintro e u2 ⟨rfl, c0, b1, z1⟩
  have TB := hide (T1.out.below b1)
  have DD := hide (deedBB (en_of Tryz.func46 (by kernel_rfl) (by kernel_rfl)) c0 z1 leaf_and)
  have HLO := hide T1.out.z
  clear c0 b1 z1 T1
  unfold deedV
  go_wp2_with (show wpList _ _ _ ({ dst := _, op := Op.insert _ _ _ _, type := _, pos := _, after := _, guard := _ } :: _) _ _; go_must (refine wpList_insert_own _ rfl _ _ _ 52 rfl 3 51 lawI Tryz.underlying52 _ w.heap.size 1 _ rfl TB.out.map (by unfold maxLen; omega) _ _ _ rfl rfl (keyI 2 (by decide)) _ [] rfl ?_))
  intro v2 ho hg
  have T2 := hide (TB.out.step DD.out (hlo := HLO.out) ho hg)
  clear ho hg TB DD HLO
  go_wp2_with fail
  refine (cmpsD_any 48 _).mono ?_
  rintro e u3 ⟨rfl, c0, c1, b1, z1⟩
  have TB := hide (T2.out.below b1)
  have DD := hide (deedCD (en_of Tryz.func48 (by kernel_rfl) (by kernel_rfl)) holds3 c0 c1 z1)
  have HLO := hide T2.out.z
  clear c0 c1 b1 z1 T2
  unfold deedV
  go_wp2_with (show wpList _ _ _ ({ dst := _, op := Op.insert _ _ _ _, type := _, pos := _, after := _, guard := _ } :: _) _ _; go_must (refine wpList_insert_own _ rfl _ _ _ 52 rfl 3 51 lawI Tryz.underlying52 _ w.heap.size 2 _ rfl TB.out.map (by unfold maxLen; omega) _ _ _ rfl rfl (keyI 3 (by decide)) _ [] rfl ?_))
  intro v3 ho hg
  have T3 := hide (TB.out.step DD.out (hlo := HLO.out) ho hg)
  clear ho hg TB DD HLO
  go_wp2_with fail
  refine (cmpsD_any 49 _).mono ?_
  rintro e u4 ⟨rfl, c0, c1, b1, z1⟩
  have TB := hide (T3.out.below b1)
  have DD := hide (deedCD (en_of Tryz.func49 (by kernel_rfl) (by kernel_rfl)) holds4 c0 c1 z1)
  have HLO := hide T3.out.z
  clear c0 c1 b1 z1 T3
  unfold deedV
  go_wp2_with (show wpList _ _ _ ({ dst := _, op := Op.insert _ _ _ _, type := _, pos := _, after := _, guard := _ } :: _) _ _; go_must (refine wpList_insert_own _ rfl _ _ _ 52 rfl 3 51 lawI Tryz.underlying52 _ w.heap.size 3 _ rfl TB.out.map (by unfold maxLen; omega) _ _ _ rfl rfl (keyI 4 (by decide)) _ [] rfl ?_))
  intro v4 ho hg
  have T4 := hide (TB.out.step DD.out (hlo := HLO.out) ho hg)
  clear ho hg TB DD HLO
  go_wp2_with fail
  refine (alike_any 51 _ _ (en_of Tryz.func51 (by kernel_rfl) (by kernel_rfl)) holds5).mono ?_
  rintro e u5 ⟨bb, rfl, dd, b1⟩
  have TB := hide (T4.out.below b1)
  have DD := hide dd
  have HLO := hide T4.out.z
  clear dd b1 T4
  unfold deedV
  go_wp2_with (show wpList _ _ _ ({ dst := _, op := Op.insert _ _ _ _, type := _, pos := _, after := _, guard := _ } :: _) _ _; go_must (refine wpList_insert_own _ rfl _ _ _ 52 rfl 3 51 lawI Tryz.underlying52 _ w.heap.size 4 _ rfl TB.out.map (by unfold maxLen; omega) _ _ _ rfl rfl (keyI 5 (by decide)) _ [] rfl ?_))
  intro v5 ho hg
  have T5 := hide (TB.out.step DD.out (hlo := HLO.out) ho hg)
  clear ho hg TB DD HLO
  go_wp2_with fail
  refine (alike_any 52 _ _ (en_of Tryz.func52 (by kernel_rfl) (by kernel_rfl)) holds6).mono ?_
  rintro e u6 ⟨bb, rfl, dd, b1⟩
  have TB := hide (T5.out.below b1)
  have DD := hide dd
  have HLO := hide T5.out.z
  clear dd b1 T5
  unfold deedV
  go_wp2_with (show wpList _ _ _ ({ dst := _, op := Op.insert _ _ _ _, type := _, pos := _, after := _, guard := _ } :: _) _ _; go_must (refine wpList_insert_own _ rfl _ _ _ 52 rfl 3 51 lawI Tryz.underlying52 _ w.heap.size 5 _ rfl TB.out.map (by unfold maxLen; omega) _ _ _ rfl rfl (keyI 6 (by decide)) _ [] rfl ?_))
  intro v6 ho hg
  have T6 := hide (TB.out.step DD.out (hlo := HLO.out) ho hg)
  clear ho hg TB DD HLO
  go_wp2_with fail
  refine (alike_any 53 _ _ (en_of Tryz.func53 (by kernel_rfl) (by kernel_rfl)) holds7).mono ?_
  rintro e u7 ⟨bb, rfl, dd, b1⟩
  have TB := hide (T6.out.below b1)
  have DD := hide dd
  have HLO := hide T6.out.z
  clear dd b1 T6
  unfold deedV
  go_wp2_with (show wpList _ _ _ ({ dst := _, op := Op.insert _ _ _ _, type := _, pos := _, after := _, guard := _ } :: _) _ _; go_must (refine wpList_insert_own _ rfl _ _ _ 52 rfl 3 51 lawI Tryz.underlying52 _ w.heap.size 6 _ rfl TB.out.map (by unfold maxLen; omega) _ _ _ rfl rfl (keyI 7 (by decide)) _ [] rfl ?_))
  intro v7 ho hg
  have T7 := hide (TB.out.step DD.out (hlo := HLO.out) ho hg)
  clear ho hg TB DD HLO
  go_wp2_with fail
  refine (alike_any 54 _ _ (en_of Tryz.func54 (by kernel_rfl) (by kernel_rfl)) holds8).mono ?_
  rintro e u8 ⟨bb, rfl, dd, b1⟩
  have TB := hide (T7.out.below b1)
  have DD := hide dd
  have HLO := hide T7.out.z
  clear dd b1 T7
  unfold deedV
  go_wp2_with (show wpList _ _ _ ({ dst := _, op := Op.insert _ _ _ _, type := _, pos := _, after := _, guard := _ } :: _) _ _; go_must (refine wpList_insert_own _ rfl _ _ _ 52 rfl 3 51 lawI Tryz.underlying52 _ w.heap.size 7 _ rfl TB.out.map (by unfold maxLen; omega) _ _ _ rfl rfl (keyI 8 (by decide)) _ [] rfl ?_))
  intro v8 ho hg
  have T8 := hide (TB.out.step DD.out (hlo := HLO.out) ho hg)
  clear ho hg TB DD HLO
  have R0 := hide (Row.nil v8)
  go_wp2_with fail
  refine (twoTT_any 57 #[] _).mono ?_
  rintro e a9_0 ⟨rfl, c0, b1, z1⟩
  have R1 := hide (R0.out.step b1 (deedTT (en_of Tryz.func57 (by kernel_rfl) (by kernel_rfl)) c0 z1 HH.th) (Nat.le_refl _))
  clear c0 b1 z1 R0
  unfold deedV
  go_wp2_with fail
  refine (twoLD_any 59 #[] _).mono ?_
  rintro e a9_1 ⟨rfl, c0, b1, z1⟩
  have R2 := hide (R1.out.step b1 (deedLD (en_of Tryz.func59 (by kernel_rfl) (by kernel_rfl)) c0 z1 HH.lh) (Nat.le_refl _))
  clear c0 b1 z1 R1
  unfold deedV
  go_wp2_with fail
  refine (twoRT_any 61 #[] _).mono ?_
  rintro e a9_2 ⟨rfl, c0, b1, z1⟩
  have R3 := hide (R2.out.step b1 (deedRT (en_of Tryz.func61 (by kernel_rfl) (by kernel_rfl)) c0 z1 HH.rh) (Nat.le_refl _))
  clear c0 b1 z1 R2
  unfold deedV
  go_wp2_with fail
  refine (eitherMk 3 a9_2.heap.size (by omega) _ (by simp) (eight_new a9_2 (cellsD [(86, v8.heap.size), (88, a9_0.heap.size), (90, a9_1.heap.size)]) 51 0 _ rfl)).mono ?_
  rintro e u9 ⟨rfl, cb, b5, z5⟩
  simp only [World.size_alloc] at cb b5 z5
  have DD := hide (R3.out.either (by simp) b5 cb z5)
  have TB := hide (T8.out.below (R3.out.B.trans ((((Below.refl _ _).alloc (Nat.le_refl _) _).trans (b5.mono (Nat.le_succ _))).mono R3.out.B.size)))
  have HLO := hide T8.out.z
  clear cb b5 z5 R3 T8
  unfold deedV
  go_wp2_with (show wpList _ _ _ ({ dst := _, op := Op.insert _ _ _ _, type := _, pos := _, after := _, guard := _ } :: _) _ _; go_must (refine wpList_insert_own _ rfl _ _ _ 52 rfl 3 51 lawI Tryz.underlying52 _ w.heap.size 8 _ rfl TB.out.map (by unfold maxLen; omega) _ _ _ rfl rfl (keyI 9 (by decide)) _ [] rfl ?_))
  intro v9 ho hg
  have T9 := hide (TB.out.step DD.out (hlo := HLO.out) ho hg)
  clear ho hg TB DD HLO
  have R0 := hide (Row.nil v9)
  go_wp2_with fail
  refine (twoII_any 63 #[] _).mono ?_
  rintro e a10_0 ⟨rfl, c0, b1, z1⟩
  have R1 := hide (R0.out.step b1 (deedII (en_of Tryz.func63 (by kernel_rfl) (by kernel_rfl)) c0 z1 leaf_add) (Nat.le_refl _))
  clear c0 b1 z1 R0
  unfold deedV
  go_wp2_with fail
  refine (twoTT_any 64 #[] _).mono ?_
  rintro e a10_1 ⟨rfl, c0, b1, z1⟩
  have R2 := hide (R1.out.step b1 (deedTT (en_of Tryz.func64 (by kernel_rfl) (by kernel_rfl)) c0 z1 leaf_cat) (Nat.le_refl _))
  clear c0 b1 z1 R1
  unfold deedV
  go_wp2_with fail
  refine (twoLL_any 66 #[] _).mono ?_
  rintro e a10_2 ⟨rfl, c0, b1, z1⟩
  have R3 := hide (R2.out.step b1 (deedLL (en_of Tryz.func66 (by kernel_rfl) (by kernel_rfl)) c0 z1 HH.ll) (Nat.le_refl _))
  clear c0 b1 z1 R2
  unfold deedV
  go_wp2_with fail
  refine (twoRR_any 68 #[] _).mono ?_
  rintro e a10_3 ⟨rfl, c0, b1, z1⟩
  have R4 := hide (R3.out.step b1 (deedRR (en_of Tryz.func68 (by kernel_rfl) (by kernel_rfl)) c0 z1 HH.rr) (Nat.le_refl _))
  clear c0 b1 z1 R3
  unfold deedV
  go_wp2_with fail
  refine (eitherMk 4 a10_3.heap.size (by omega) _ (by simp) (eight_new a10_3 (cellsD [(92, v9.heap.size), (86, a10_0.heap.size), (95, a10_1.heap.size), (98, a10_2.heap.size)]) 51 0 _ rfl)).mono ?_
  rintro e u10 ⟨rfl, cb, b5, z5⟩
  simp only [World.size_alloc] at cb b5 z5
  have DD := hide (R4.out.either (by simp) b5 cb z5)
  have TB := hide (T9.out.below (R4.out.B.trans ((((Below.refl _ _).alloc (Nat.le_refl _) _).trans (b5.mono (Nat.le_succ _))).mono R4.out.B.size)))
  have HLO := hide T9.out.z
  clear cb b5 z5 R4 T9
  unfold deedV
  go_wp2_with (show wpList _ _ _ ({ dst := _, op := Op.insert _ _ _ _, type := _, pos := _, after := _, guard := _ } :: _) _ _; go_must (refine wpList_insert_own _ rfl _ _ _ 52 rfl 3 51 lawI Tryz.underlying52 _ w.heap.size 9 _ rfl TB.out.map (by unfold maxLen; omega) _ _ _ rfl rfl (keyI 10 (by decide)) _ [] rfl ?_))
  intro v10 ho hg
  have T10 := hide (TB.out.step DD.out (hlo := HLO.out) ho hg)
  clear ho hg TB DD HLO
  go_wp2_with fail
  refine (twoII_any 69 #[] _).mono ?_
  rintro e u11 ⟨rfl, c0, b1, z1⟩
  have TB := hide (T10.out.below b1)
  have DD := hide (deedII (en_of Tryz.func69 (by kernel_rfl) (by kernel_rfl)) c0 z1 leaf_sub)
  have HLO := hide T10.out.z
  clear c0 b1 z1 T10
  unfold deedV
  go_wp2_with (show wpList _ _ _ ({ dst := _, op := Op.insert _ _ _ _, type := _, pos := _, after := _, guard := _ } :: _) _ _; go_must (refine wpList_insert_own _ rfl _ _ _ 52 rfl 3 51 lawI Tryz.underlying52 _ w.heap.size 10 _ rfl TB.out.map (by unfold maxLen; omega) _ _ _ rfl rfl (keyI 11 (by decide)) _ [] rfl ?_))
  intro v11 ho hg
  have T11 := hide (TB.out.step DD.out (hlo := HLO.out) ho hg)
  clear ho hg TB DD HLO
  go_wp2_with fail
  refine (twoII_any 70 #[] _).mono ?_
  rintro e u12 ⟨rfl, c0, b1, z1⟩
  have TB := hide (T11.out.below b1)
  have DD := hide (deedII (en_of Tryz.func70 (by kernel_rfl) (by kernel_rfl)) c0 z1 leaf_mul)
  have HLO := hide T11.out.z
  clear c0 b1 z1 T11
  unfold deedV
  go_wp2_with (show wpList _ _ _ ({ dst := _, op := Op.insert _ _ _ _, type := _, pos := _, after := _, guard := _ } :: _) _ _; go_must (refine wpList_insert_own _ rfl _ _ _ 52 rfl 3 51 lawI Tryz.underlying52 _ w.heap.size 11 _ rfl TB.out.map (by unfold maxLen; omega) _ _ _ rfl rfl (keyI 12 (by decide)) _ [] rfl ?_))
  intro v12 ho hg
  have T12 := hide (TB.out.step DD.out (hlo := HLO.out) ho hg)
  clear ho hg TB DD HLO
  go_wp2_with fail
  refine (twoII_any 71 #[] _).mono ?_
  rintro e u13 ⟨rfl, c0, b1, z1⟩
  have TB := hide (T12.out.below b1)
  have DD := hide (deedII (en_of Tryz.func71 (by kernel_rfl) (by kernel_rfl)) c0 z1 leaf_quo)
  have HLO := hide T12.out.z
  clear c0 b1 z1 T12
  unfold deedV
  go_wp2_with (show wpList _ _ _ ({ dst := _, op := Op.insert _ _ _ _, type := _, pos := _, after := _, guard := _ } :: _) _ _; go_must (refine wpList_insert_own _ rfl _ _ _ 52 rfl 3 51 lawI Tryz.underlying52 _ w.heap.size 12 _ rfl TB.out.map (by unfold maxLen; omega) _ _ _ rfl rfl (keyI 13 (by decide)) _ [] rfl ?_))
  intro v13 ho hg
  have T13 := hide (TB.out.step DD.out (hlo := HLO.out) ho hg)
  clear ho hg TB DD HLO
  go_wp2_with fail
  refine (twoII_any 72 #[] _).mono ?_
  rintro e u14 ⟨rfl, c0, b1, z1⟩
  have TB := hide (T13.out.below b1)
  have DD := hide (deedII (en_of Tryz.func72 (by kernel_rfl) (by kernel_rfl)) c0 z1 leaf_rem)
  have HLO := hide T13.out.z
  clear c0 b1 z1 T13
  unfold deedV
  go_wp2_with (show wpList _ _ _ ({ dst := _, op := Op.insert _ _ _ _, type := _, pos := _, after := _, guard := _ } :: _) _ _; go_must (refine wpList_insert_own _ rfl _ _ _ 52 rfl 3 51 lawI Tryz.underlying52 _ w.heap.size 13 _ rfl TB.out.map (by unfold maxLen; omega) _ _ _ rfl rfl (keyI 14 (by decide)) _ [] rfl ?_))
  intro v14 ho hg
  have T14 := hide (TB.out.step DD.out (hlo := HLO.out) ho hg)
  clear ho hg TB DD HLO
  go_wp2
  go_ret
  exact ⟨_, rfl, T14.out⟩
end Go.Proofs.YtnkfbjcgkdblgaaGreat.Vl
