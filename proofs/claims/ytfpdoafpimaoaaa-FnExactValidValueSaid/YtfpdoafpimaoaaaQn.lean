/- Walks: datumOf and ValidValue, on the program's side. -/
import Derived.Test.YtfpdoafpimaoaaaQl
namespace Go.Proofs.Ytfpdoafpimaoaaa.Vl
open Go.RowKit T.atoms T.ok T.high T.good T.allPlain DatAt

/-- A call of two arguments by a contract on what it returns, as one step of a region that draws. -/
theorem step_call2x {P : Program} {ops : Array Oper} {o : Oper} {a : Act} {w : World} {K : Act → World → Prop} {Q : Exit → Act → World → Prop} {E : Prop}
    (hg : o.guard = none) (f : FuncId) (x y : Operand) (t u : TypeId) (hop : o.op = Op.call { callee := Callee.value (Operand.func f), args := #[x, y], argTypes := #[t, u] })
    (v v2 : Value) (hx : a.eval x = v) (hy : a.eval y = v2) (fn : Func) (hfn : P.funcs[f]? = some fn) (hne : (fn.name == "runtime.NumGoroutine") = false) (hbd : fn.body.isNone = false) (R : Value → World → Prop) (hC : Calls P f #[v, v2] w fun e w' => ∃ r, e = .returned r ∧ R r w') (hK : ∀ r w', R r w' → K (a.put o.dst r) w') :
    if Region.wanted o (yielded ops a.tmps) = true then Oper.wp P o a w K Q else E := by
  have hw : Region.wanted o (yielded ops a.tmps) = true := by simp [Region.wanted, hg]
  rw [if_pos hw]
  have h1 : (callFunc f #[v, v2]).run P w = .ok (.enter f #[v, v2]) w := by
    simp only [callFunc, Sem.run_bind, run_program, Result.andThen_ok, hfn, hne, hbd]; rfl
  unfold Oper.wp
  simp only [execOp, hop, resolve, invoke, List.map_toArray, List.map_cons, List.map_nil, hx, hy, Deferred.ofValue, Sem.run_bind]
  rw [show a.eval (Operand.func f) = Value.func (Fn.func f) #[] #[] from rfl]
  simp only [Sem.run_pure, Result.andThen_ok]
  simp [h1]
  refine hC.mono fun e w2 h => ?_
  obtain ⟨r, rfl, h2⟩ := h
  exact hK _ _ h2

/-- What datumOf answers. -/
def DPost (w : World) (l : List At) (e : Ending) (w' : World) : Prop :=
  Below w.heap.size w w' ∧ ∃ v, e = .returned (.tuple #[v, .bool (valid l)]) ∧ (valid l = true → ∃ t x, treeOf l = some t ∧ t.good = true ∧ t.count ≤ 1000 ∧ DatAt w' x t v)
theorem dpost_no {w w' : World} {l : List At} (h : valid l = false) (hb : Below w.heap.size w w') : DPost w l (.returned (.tuple #[.nilIface, .bool false])) w' :=
  ⟨hb, .nilIface, by rw [h], fun e => by rw [h] at e; cases e⟩
theorem valid_long (l : List At) (h : 1000 < l.length) : valid l = false := by
  unfold valid; rw [decide_eq_false (by omega)]; rfl
theorem irun_append (a b : List At) (st : List T) : irun (a ++ b) st = (irun a st).bind (irun b) := by
  induction a generalizing st with
  | nil => rfl
  | cons x r ih =>
    rw [List.cons_append, irun, irun]
    split
    · rfl
    · split
      · rw [ih]
      · rfl
theorem irun_stop (l : List At) (i : Nat) (st : List T) (a : At) (ha : l[i]? = some a) (h : irun (l.take i) [] = some st) (hs : irun [a] st = none) : valid l = false := by
  have hi : i < l.length := (List.getElem?_eq_some_iff.1 ha).1
  have e : l[i] = a := (List.getElem?_eq_some_iff.1 ha).2
  have q : irun l [] = none := by
    conv => lhs; rw [← List.take_append_drop i l]
    rw [irun_append, h, List.drop_eq_getElem_cons hi, e, show a :: l.drop (i + 1) = [a] ++ l.drop (i + 1) from rfl, Option.bind_some, irun_append, hs]
    rfl
  rw [← ivalid_eq]
  unfold ivalid
  rw [q]; simp
theorem irun_next (l : List At) (i : Nat) (st st' : List T) (a : At) (ha : l[i]? = some a) (h : irun (l.take i) [] = some st) (hs : irun [a] st = some st') : irun (l.take (i + 1)) [] = some st' := by
  have hi : i < l.length := (List.getElem?_eq_some_iff.1 ha).1
  have e : l[i] = a := (List.getElem?_eq_some_iff.1 ha).2
  rw [List.take_succ_eq_append_getElem hi, irun_append, h, e]
  exact hs
theorem irun_good (l : List At) (st : List T) (h : irun l [] = some st) : goodL st = true ∧ run l [] = some st := by
  rw [irun_eq l [] rfl] at h
  cases hr : run l [] with
  | none => rw [hr] at h; cases h
  | some st' =>
    rw [hr] at h
    by_cases hg : goodL st' = true
    · simp only [hg, if_true] at h; cases h; exact ⟨hg, rfl⟩
    · simp only [hg] at h; cases h
theorem highL_good (l : List T) (h : goodL l = true) : highL l ≤ 13 := by
  rw [good_split.goodL_split] at h
  simp only [Bool.and_eq_true, decide_eq_true_eq] at h
  exact h.1

theorem nd_shape {w : World} {x : Nat} {k n : Int} {s : ByteArray} {ks : List T} {e : Ending} {w' : World} (h : NPost w x k n s ks e w') : ∃ r, e = .returned r ∧ (Below w.heap.size w w' ∧ ∃ v ok, r = .tuple #[v, .bool ok] ∧ (nodeOk k n s ks = true → ok = true ∧ DatAt w' x (.mk k n s ks) v) ∧ (nodeOk k n s ks = false → ok = false)) := by
  obtain ⟨hb, v, ok, rfl, h1, h2⟩ := h
  exact ⟨_, rfl, hb, v, ok, rfl, h1, h2⟩
/-- The open values in memory. -/
def Open (w : World) (st : List T) (v4 : Value) (wr : World) : Prop :=
  ∃ vs a4 c4 x, v4 = .slice a4 st.length c4 ∧ wr.ownsRow (w.heap.size + 1) 49 1 (.slice a4 st.length c4) st.length vs ∧ DatL wr x st vs ∧ x < wr.heap.size ∧ ((st = [] ∧ a4 = none ∧ c4 = 0) ∨ a4 = some ⟨x, 0, none⟩)
theorem node_run (a : At) (st : List T) (k q : Nat) (hk : a.kids = k) (hq : st.length = q + k) : irun [a] st = if nodeOk a.kind a.n a.text (st.drop q) = true then some (st.take q ++ [.mk a.kind a.n a.text (st.drop q)]) else none := by
  rw [irun, if_neg (by omega), show st.length - a.kids.toNat = q from by omega]
  rfl
theorem node_stop (a : At) (st : List T) (hk : a.kids < 0 ∨ (st.length : Int) < a.kids) : irun [a] st = none := by
  rw [irun, if_pos hk]
theorem open_next {w w3 w5 : World} {st : List T} {t : T} {q x : Nat} {vs : List Value} {made v5 : Value} {a4 : Option Addr} {c4 : Nat} (ho : w3.ownsRow (w.heap.size + 1) 49 1 (.slice a4 q c4) q (vs.take q)) (hq : q ≤ st.length) (hD : DatL w3 x st vs) (_hx : x < w3.heap.size) (hm : DatAt w3 x t made) (hca : a4 = none ∨ a4 = some ⟨x, 0, none⟩)
    (h1 : w5.ownsRow (w.heap.size + 1) 49 1 v5 (q + 1) (vs.take q ++ [made])) (h2 : (w3.alloc (.cells #[made] 49)).grownBy w5 (Value.slice a4 q c4).ownBlock) (h4 : v5.ownBlock = (Value.slice a4 q c4).ownBlock ∨ v5.ownBlock = some (w3.heap.size + 1)) :
    Open w (st.take q ++ [t]) v5 w5 := by
  have hlen : (st.take q ++ [t]).length = q + 1 := by simp; omega
  obtain ⟨g5, c5, rfl⟩ := row_pos h1 (by omega)
  have hb := (Below.refl w3.heap.size w3).alloc (Nat.le_refl _) (.cells #[made] 49)
  have hz := h2.size
  rw [World.size_alloc] at hz
  have hg5 : g5 = x ∨ g5 = w3.heap.size + 1 := by
    rcases h4 with h | h
    · rcases hca with rfl | rfl
      · simp [Value.ownBlock] at h
      · simp [Value.ownBlock] at h; exact .inl h
    · simp [Value.ownBlock] at h; exact .inr h
  have hmv : Moves w3 w5 x g5 := by
    refine ⟨fun b hb' hne => ?_, by omega, fun b hb' hne => by omega⟩
    refine (h2.block b (by simp; omega) ?_).trans (hb.block b hb')
    rcases hca with rfl | rfl
    · simp [Value.ownBlock]
    · simp [Value.ownBlock]; exact hne
  refine ⟨_, some ⟨g5, 0, none⟩, c5, g5, by rw [hlen], by rw [hlen]; exact h1, ?_, (row_room h1).2.2, .inr rfl⟩
  exact DatL.snoc (DatL.moves hmv _ _ (DatL.take q hD)) (DatAt.moves hmv _ _ hm)

set_option maxRecDepth 100000 in
set_option maxHeartbeats 1000000 in
theorem datumOf_any (l : List At) (g tc : Nat) (w : World) (hl : l.length ≤ 1048576) (ht : AtomsO w g 0 l) :
    Calls Try.prog 24 #[.agg #[.slice (some ⟨g, 0, none⟩) l.length tc]] w fun e w' => DPost w l e w' := by
  obtain ⟨iD, hDi, hDz, hDs, hDb⟩ := info_parts Try.infoDat
  have HT := hide ht
  have r1 : Below w.heap.size w (w.alloc (.cells #[.slice (some ⟨g, 0, none⟩) l.length tc] 25)) := (Below.refl _ _).alloc (Nat.le_refl _) _
  clear ht
  by_cases hlong : (1000 : Int) < (l.length : Int)
  · have HZ := hide (dpost_no (valid_long l (by omega)) r1)
    go_enter Try.func24, Try.ntmps24
    go_wp2
    exact bodyPost_ret (v := .tuple #[.nilIface, .bool false]) (by simp [results, Try.results24, go_sem]) rfl HZ.out
  · go_enter Try.func24, Try.ntmps24
    go_wp2
    go_loopw [4, 17] (fun v4 t wr => ∃ (i : Nat) (st : List T), i ≤ l.length ∧ t = .int .i64 i ∧ Open w st v4 wr ∧ Below w.heap.size w wr ∧ w.heap.size < wr.heap.size ∧ irun (l.take i) [] = some st) (fun _ t _ => l.length - (intOf t).toNat)
    case atStart => exact ⟨0, [], Nat.zero_le _, rfl, ⟨[], none, 0, w.heap.size, rfl, World.ownsRow_nil _ _ _ _, by unfold DatL; rfl, by simp, .inl ⟨rfl, rfl, rfl⟩⟩, r1, by simp, rfl⟩
    case round =>
      obtain ⟨i, st, hi, rfl, ⟨vs, a4, c4, x, rfl, ho4, hD, hx, hca⟩, hB, hz0, hrun⟩ := hrel
      have HR := hide hrun
      have HG := hide (irun_good _ _ hrun)
      have HSL : Hid ((atomsL st).length = i) := hide (by have := congrArg List.length (run_atoms _ _ _ (irun_good _ _ hrun).2); simp [atomsL] at this; omega)
      have hstl : st.length ≤ i := by have := len_le_atomsL st; have := HSL.out; omega
      have hl1000 : l.length ≤ 1000 := by omega
      have HD := hide hD
      have HCA := hide hca
      have HO := hide ho4
      clear hrun hD hca ho4
      by_cases hlt : i < l.length
      · obtain ⟨c0, c1, c2, c3⟩ := (HT.out.below hB).2 i hlt
        have HA := hide (List.getElem?_eq_getElem hlt)
        rw [Nat.zero_add] at c0 c1 c2 c3
        generalize l[i] = a at *
        obtain ⟨ak, an, ax, aq⟩ := a
        have hW : Below w.heap.size w (wr.alloc (.cells #[.int .i64 ak, .int .i64 an, .string ax, .int .i64 aq] 55)) := hB.alloc hB.size _
        by_cases hneg : aq < 0
        · have HZ := hide (dpost_no (irun_stop l i st _ HA.out HR.out (node_stop _ _ (.inl hneg))) hW)
          go_wp2
          exact bodyPost_ret (v := .tuple #[.nilIface, .bool false]) (by simp [results, Try.results24, go_sem]) rfl HZ.out
        · by_cases hbig : (st.length : Int) < aq
          · have HZ := hide (dpost_no (irun_stop l i st _ HA.out HR.out (node_stop _ _ (.inr hbig))) hW)
            go_wp2
            exact bodyPost_ret (v := .tuple #[.nilIface, .bool false]) (by simp [results, Try.results24, go_sem]) rfl HZ.out
          · obtain ⟨k, rfl⟩ : ∃ k : Nat, aq = k := ⟨aq.toNat, by omega⟩
            obtain ⟨q, hq⟩ : ∃ q, st.length = q + k := ⟨st.length - k, by omega⟩
            have HQ := hide hq
            have HN := hide (node_run ⟨ak, an, ax, k⟩ st k q rfl hq)
            have hgd : goodL (st.drop q) = true := by have := HG.out.1; rw [goodL_parts st q, Bool.and_eq_true] at this; exact this.2
            have hal : (atomsL (st.drop q)).length ≤ 999 := by
              have h := congrArg (fun y => (atomsL y).length) (List.take_append_drop q st)
              simp only [atomsL_append, List.length_append] at h
              have := HSL.out; omega
            have hhi := highL_good _ hgd
            have hdl : (st.drop q).length = k := by simp; omega
            rcases HCA.out with ⟨hst, rfl, rfl⟩ | rfl
            · have hk0 : k = 0 := by rw [hst] at hq; simp at hq; omega
              have hq0 : q = 0 := by rw [hst] at hq; simp at hq; omega
              subst hk0
              subst hq0
              rw [Nat.add_zero] at hq
              have HRC : Hid (RowC wr none (vs.drop 0)) := hide (.inl (by have := DatL.len HD.out; rw [hst] at this; exact List.length_eq_zero_iff.1 (by simpa using this)))
              clear hst
              have HND := hide (fun w' (hb : Below wr.heap.size wr w') => (newDatum_any ak an ax (st.drop 0) (vs.drop 0) none (0) x w' hal (by omega) (DatL.moves (Moves.below (x := x) hb) _ _ (DatL.drop 0 HD.out)) (HRC.out.below hb) (Nat.lt_of_lt_of_le hx hb.size) hgd).mono (fun e w'' h => nd_shape h))
              rw [hdl] at HND
              have hW1 : Below wr.heap.size wr (wr.alloc (.cells #[.int .i64 ak, .int .i64 an, .string ax, .int .i64 (0 : Nat)] 55)) := (Below.refl _ _).alloc (Nat.le_refl _) _
              go_wp2
              go_region_law (refine step_call2x rfl 42 (.tmp 37) (.tmp 40) 55 74 rfl (.agg #[.int .i64 ak, .int .i64 an, .string ax, .int .i64 (0 : Nat)]) (.slice none 0 (0)) (by first | (simp [Act.eval]; done) | simp [Act.eval, Act.put]) (by first | (simp [Act.eval]; done) | simp [Act.eval, Act.put]) Try.f42 Try.func42 (by kernel_rfl) (by kernel_rfl) _ (HND.out _ hW1.drew) ?_; intro r w3 hr; obtain ⟨hb3, made, ok, rfl, hyes, hno⟩ := hr)
              all_goals
                have hW3 : Below wr.heap.size wr w3 := hW1.drew.trans (hb3.mono hW1.size)
                have hB3 : Below w.heap.size w w3 := hB.trans (hW3.mono hB.size)
                cases hnk : nodeOk ak an ax (st.drop 0)
                · obtain rfl := hno hnk
                  have HZ := hide (dpost_no (irun_stop l i st _ HA.out HR.out (by rw [HN.out, if_neg (by rw [hnk]; decide)])) hB3)
                  go_wp2
                  exact bodyPost_ret (v := .tuple #[.nilIface, .bool false]) (by simp [results, Try.results24, go_sem]) rfl HZ.out
                · obtain ⟨rfl, hdat⟩ := hyes hnk
                  obtain ⟨ym, um, hme⟩ := hdat.isIface
                  subst hme
                  have HDT := hide hdat
                  have HO3 : Hid (w3.ownsRow (w.heap.size + 1) 49 1 (.slice none 0 0) 0 (vs.take 0)) := hide (World.ownsRow_nil _ _ _ _)
                  have hz3 := hB3.size
                  have hzz : w.heap.size + 1 ≤ w3.heap.size := by have := hW3.size; omega
                  clear hdat hyes hno hb3 HND
                  go_wp2_with (at_builtin; refine wpList_append_own_at _ rfl _ _ 74 rfl (w.heap.size + 1) 49 iD _ 1 16 Try.underlying74 hDi hDz hDs hDb rfl (by decide) (.slice none 0 0) 0 (vs.take 0) rfl (HO3.out.alloc _) ⟨w3.heap.size, 0, none⟩ 1 1 [.iface ym um] rfl rfl (cell_one _ _ _) (by simp [Value.oneCell']) (by unfold maxLen; omega) (by omega) (by simp; omega) ?_)
                  intro v5 w5 h1 h2 h3 h4
                  have HX2 : Hid (∃ (i2 : Nat) (st2 : List T), i2 ≤ l.length ∧ (Value.int .i64 ((i : Int) + 1)) = .int .i64 i2 ∧ Open w st2 v5 w5 ∧ Below w.heap.size w w5 ∧ w.heap.size < w5.heap.size ∧ irun (l.take i2) [] = some st2) := hide (by
                    have hz5 := h2.size
                    rw [World.size_alloc] at hz5
                    refine ⟨i + 1, st.take 0 ++ [.mk ak an ax (st.drop 0)], by omega, by go_num, open_next HO3.out (by omega) (DatL.moves (Moves.below (x := x) hW3) _ _ HD.out) (Nat.lt_of_lt_of_le hx hW3.size) HDT.out (by first | exact .inl rfl | exact .inr rfl) h1 h2 (by simpa using h4), ?_, by omega, ?_⟩
                    · exact (hB3.alloc hB3.size _).grown h2 (by simp; omega) (fun y e => by first | (simp [Value.ownBlock] at e; done) | (simp [Value.ownBlock] at e; have := (row_room HO.out).2.1; omega))
                    · exact irun_next l i st _ _ HA.out HR.out (by rw [HN.out, if_pos hnk]))
                  clear h1 h2 h3 h4
                  go_wp2
                  go_roundw
                  case rel => exact HX2.out
                  case measure => simp [intOf]; omega
            · have hro := row_room HO.out
              by_cases hcq : c4 = q
              · have hk0 : k = 0 := by omega
                subst hk0
                subst hcq
                have HRC : Hid (RowC wr (some ⟨x, 0, none⟩) (vs.drop c4)) := hide (.inl (by have := DatL.len HD.out; exact List.drop_of_length_le (by omega)))
                have HND := hide (fun w' (hb : Below wr.heap.size wr w') => (newDatum_any ak an ax (st.drop c4) (vs.drop c4) (some ⟨x, 0, none⟩) (0) x w' hal (by omega) (DatL.moves (Moves.below (x := x) hb) _ _ (DatL.drop c4 HD.out)) (HRC.out.below hb) (Nat.lt_of_lt_of_le hx hb.size) hgd).mono (fun e w'' h => nd_shape h))
                rw [hdl] at HND
                have hW1 : Below wr.heap.size wr (wr.alloc (.cells #[.int .i64 ak, .int .i64 an, .string ax, .int .i64 (0 : Nat)] 55)) := (Below.refl _ _).alloc (Nat.le_refl _) _
                go_wp2
                go_region_law (refine step_call2x rfl 42 (.tmp 37) (.tmp 40) 55 74 rfl (.agg #[.int .i64 ak, .int .i64 an, .string ax, .int .i64 (0 : Nat)]) (.slice (some ⟨x, 0, none⟩) 0 (0)) (by first | (simp [Act.eval]; done) | simp [Act.eval, Act.put]) (by first | (simp [Act.eval]; done) | simp [Act.eval, Act.put]) Try.f42 Try.func42 (by kernel_rfl) (by kernel_rfl) _ (HND.out _ hW1.drew) ?_; intro r w3 hr; obtain ⟨hb3, made, ok, rfl, hyes, hno⟩ := hr)
                all_goals
                  have hW3 : Below wr.heap.size wr w3 := hW1.drew.trans (hb3.mono hW1.size)
                  have hB3 : Below w.heap.size w w3 := hB.trans (hW3.mono hB.size)
                  cases hnk : nodeOk ak an ax (st.drop c4)
                  · obtain rfl := hno hnk
                    have HZ := hide (dpost_no (irun_stop l i st _ HA.out HR.out (by rw [HN.out, if_neg (by rw [hnk]; decide)])) hB3)
                    go_wp2
                    exact bodyPost_ret (v := .tuple #[.nilIface, .bool false]) (by simp [results, Try.results24, go_sem]) rfl HZ.out
                  · obtain ⟨rfl, hdat⟩ := hyes hnk
                    obtain ⟨ym, um, hme⟩ := hdat.isIface
                    subst hme
                    have HDT := hide hdat
                    have HO3 : Hid (w3.ownsRow (w.heap.size + 1) 49 1 (.slice (some ⟨x, 0, none⟩) c4 c4) c4 (vs.take c4)) := hide (row_below (by have := row_take HO.out c4 (by omega); rwa [Nat.mul_one] at this) hW3)
                    have hz3 := hB3.size
                    have hzz : w.heap.size + 1 ≤ w3.heap.size := by have := hW3.size; omega
                    clear hdat hyes hno hb3 HND
                    go_wp2_with (at_builtin; refine wpList_append_own_at _ rfl _ _ 74 rfl (w.heap.size + 1) 49 iD _ 1 16 Try.underlying74 hDi hDz hDs hDb rfl (by decide) (.slice (some ⟨x, 0, none⟩) c4 c4) c4 (vs.take c4) rfl (HO3.out.alloc _) ⟨w3.heap.size, 0, none⟩ 1 1 [.iface ym um] rfl rfl (cell_one _ _ _) (by simp [Value.oneCell']) (by unfold maxLen; omega) (by omega) (by simp; omega) ?_)
                    intro v5 w5 h1 h2 h3 h4
                    have HX2 : Hid (∃ (i2 : Nat) (st2 : List T), i2 ≤ l.length ∧ (Value.int .i64 ((i : Int) + 1)) = .int .i64 i2 ∧ Open w st2 v5 w5 ∧ Below w.heap.size w w5 ∧ w.heap.size < w5.heap.size ∧ irun (l.take i2) [] = some st2) := hide (by
                      have hz5 := h2.size
                      rw [World.size_alloc] at hz5
                      refine ⟨i + 1, st.take c4 ++ [.mk ak an ax (st.drop c4)], by omega, by go_num, open_next HO3.out (by omega) (DatL.moves (Moves.below (x := x) hW3) _ _ HD.out) (Nat.lt_of_lt_of_le hx hW3.size) HDT.out (by first | exact .inl rfl | exact .inr rfl) h1 h2 (by simpa using h4), ?_, by omega, ?_⟩
                      · exact (hB3.alloc hB3.size _).grown h2 (by simp; omega) (fun y e => by first | (simp [Value.ownBlock] at e; done) | (simp [Value.ownBlock] at e; have := (row_room HO.out).2.1; omega))
                      · exact irun_next l i st _ _ HA.out HR.out (by rw [HN.out, if_pos hnk]))
                    clear h1 h2 h3 h4
                    go_wp2
                    go_roundw
                    case rel => exact HX2.out
                    case measure => simp [intOf]; omega
              · have HRC : Hid (RowC wr (some ⟨x, q, none⟩) (vs.drop q)) := hide (.inr ⟨x, q, rfl, hx, fun j u hu => by
                  have := row_cells HO.out (q + j) u (by rw [List.getElem?_drop] at hu; exact hu)
                  rwa [Nat.zero_add] at this⟩)
                have y1 : (q : Int) ≤ (q : Int) + (k : Int) := by omega
                have y2 : (0 : Int) ≤ (q : Int) := by omega
                have y3 : q + k - q = k := by omega
                have y4 : (q : Int) + (k : Int) ≤ (c4 : Int) := by omega
                have HND := hide (fun w' (hb : Below wr.heap.size wr w') => (newDatum_any ak an ax (st.drop q) (vs.drop q) (some ⟨x, q, none⟩) (c4 - q) x w' hal (by omega) (DatL.moves (Moves.below (x := x) hb) _ _ (DatL.drop q HD.out)) (HRC.out.below hb) (Nat.lt_of_lt_of_le hx hb.size) hgd).mono (fun e w'' h => nd_shape h))
                rw [hdl] at HND
                have hW1 : Below wr.heap.size wr (wr.alloc (.cells #[.int .i64 ak, .int .i64 an, .string ax, .int .i64 (k : Nat)] 55)) := (Below.refl _ _).alloc (Nat.le_refl _) _
                go_wp2
                go_region_law (refine step_call2x rfl 42 (.tmp 37) (.tmp 40) 55 74 rfl (.agg #[.int .i64 ak, .int .i64 an, .string ax, .int .i64 (k : Nat)]) (.slice (some ⟨x, q, none⟩) k (c4 - q)) (by first | (simp [Act.eval]; done) | simp [Act.eval, Act.put]) (by first | (simp [Act.eval]; done) | simp [Act.eval, Act.put]) Try.f42 Try.func42 (by kernel_rfl) (by kernel_rfl) _ (HND.out _ hW1.drew) ?_; intro r w3 hr; obtain ⟨hb3, made, ok, rfl, hyes, hno⟩ := hr)
                all_goals
                  have hW3 : Below wr.heap.size wr w3 := hW1.drew.trans (hb3.mono hW1.size)
                  have hB3 : Below w.heap.size w w3 := hB.trans (hW3.mono hB.size)
                  cases hnk : nodeOk ak an ax (st.drop q)
                  · obtain rfl := hno hnk
                    have HZ := hide (dpost_no (irun_stop l i st _ HA.out HR.out (by rw [HN.out, if_neg (by rw [hnk]; decide)])) hB3)
                    go_wp2
                    exact bodyPost_ret (v := .tuple #[.nilIface, .bool false]) (by simp [results, Try.results24, go_sem]) rfl HZ.out
                  · obtain ⟨rfl, hdat⟩ := hyes hnk
                    obtain ⟨ym, um, hme⟩ := hdat.isIface
                    subst hme
                    have HDT := hide hdat
                    have HO3 : Hid (w3.ownsRow (w.heap.size + 1) 49 1 (.slice (some ⟨x, 0, none⟩) q c4) q (vs.take q)) := hide (row_below (by have := row_take HO.out q (by omega); rwa [Nat.mul_one] at this) hW3)
                    have hz3 := hB3.size
                    have hzz : w.heap.size + 1 ≤ w3.heap.size := by have := hW3.size; omega
                    clear hdat hyes hno hb3 HND
                    go_wp2_with (at_builtin; refine wpList_append_own_at _ rfl _ _ 74 rfl (w.heap.size + 1) 49 iD _ 1 16 Try.underlying74 hDi hDz hDs hDb rfl (by decide) (.slice (some ⟨x, 0, none⟩) q c4) q (vs.take q) rfl (HO3.out.alloc _) ⟨w3.heap.size, 0, none⟩ 1 1 [.iface ym um] rfl rfl (cell_one _ _ _) (by simp [Value.oneCell']) (by unfold maxLen; omega) (by omega) (by simp; omega) ?_)
                    intro v5 w5 h1 h2 h3 h4
                    have HX2 : Hid (∃ (i2 : Nat) (st2 : List T), i2 ≤ l.length ∧ (Value.int .i64 ((i : Int) + 1)) = .int .i64 i2 ∧ Open w st2 v5 w5 ∧ Below w.heap.size w w5 ∧ w.heap.size < w5.heap.size ∧ irun (l.take i2) [] = some st2) := hide (by
                      have hz5 := h2.size
                      rw [World.size_alloc] at hz5
                      refine ⟨i + 1, st.take q ++ [.mk ak an ax (st.drop q)], by omega, by go_num, open_next HO3.out (by omega) (DatL.moves (Moves.below (x := x) hW3) _ _ HD.out) (Nat.lt_of_lt_of_le hx hW3.size) HDT.out (by first | exact .inl rfl | exact .inr rfl) h1 h2 (by simpa using h4), ?_, by omega, ?_⟩
                      · exact (hB3.alloc hB3.size _).grown h2 (by simp; omega) (fun y e => by first | (simp [Value.ownBlock] at e; done) | (simp [Value.ownBlock] at e; have := (row_room HO.out).2.1; omega))
                      · exact irun_next l i st _ _ HA.out HR.out (by rw [HN.out, if_pos hnk]))
                    clear h1 h2 h3 h4
                    go_wp2
                    go_roundw
                    case rel => exact HX2.out
                    case measure => simp [intOf]; omega
      · obtain rfl : i = l.length := by omega
        rw [List.take_length] at HR HG
        by_cases h1 : st.length = 1
        · obtain ⟨t, rfl⟩ : ∃ t, st = [t] := by
            match st, h1 with
            | [t], _ => exact ⟨t, rfl⟩
          obtain ⟨v, hv, hdv⟩ := DatL.at HD.out 0 (by simp)
          have HDV : Hid (DatAt wr x t v) := hide hdv
          rcases HCA.out with ⟨h, _, _⟩ | rfl
          · cases h
          · have e0 := row_cells HO.out 0 v hv
            have HV : Hid (valid l = true) := hide (by
              rw [← ivalid_eq]; unfold ivalid; rw [HR.out, decide_eq_true hl1000]; rfl)
            have HZ : Hid (DPost w l (.returned (.tuple #[v, .bool true])) wr) := hide ⟨hB, v, by rw [HV.out], fun _ => ⟨t, x, by unfold treeOf; rw [HG.out.2], by have := HG.out.1; simpa [goodL] using this, by have := HSL.out; simp [atomsL] at this; unfold T.count; omega, HDV.out⟩⟩
            clear hv hdv
            go_wp2
            exact bodyPost_ret (v := .tuple #[v, .bool true]) (by simp [results, Try.results24, go_sem]) rfl HZ.out
        · have HV : Hid (valid l = false) := hide (by
            rw [← ivalid_eq]; unfold ivalid; rw [HR.out]
            match st, h1 with
            | [], _ => simp
            | a :: b :: r, _ => simp)
          have HZ := hide (dpost_no HV.out hB)
          have h1' : ¬ ((st.length : Int) = 1) := by omega
          go_wp2
          exact bodyPost_ret (v := .tuple #[.nilIface, .bool false]) (by simp [results, Try.results24, go_sem]) rfl HZ.out
end Go.Proofs.Ytfpdoafpimaoaaa.Vl
