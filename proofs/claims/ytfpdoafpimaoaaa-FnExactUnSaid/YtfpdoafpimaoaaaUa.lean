/- Walks: the table of deeds of one value, on the program's side. -/
import Derived.Test.YtfpdoafpimaoaaaOf
import Derived.Maps.OwnSet
namespace Go.Proofs.Ytfpdoafpimaoaaa.Vl
open Go.RowKit T.atoms T.ok T.high T.good T.allPlain DatAt T.ord

/-- An element of a map as it stands. -/
def anyElem : Value → Option (DataW Value × List MemPlace) := fun v => some (.held v, [])
theorem lawI : Maps.Keyed Try.prog 3 := Maps.int_keyed Try.underlying3
theorem wpList_insert_own {H : Type} {P : Program} (w : World) {ops : Array Oper} {rest : List Oper} {o : Oper} {a : Act} {Q : Exit → Act → World → Prop}
    (hg : o.guard = none) (m x v : Operand) (t : TypeId) (hop : o.op = Op.insert t m x v)
    (k e : TypeId) (K : Maps.Keyed P k) (ht : P.underlying t = some (.map k e)) (R : Value → Option (DataW H × List MemPlace)) (b n : Nat) (D : DataW H)
    (hm : a.eval m = .map (some b)) (hown : w.ownsMap P k R b n D) (hn : n < maxLen) (key val : Value) (kl : Lit) (hx : a.eval x = key) (hv : a.eval v = val) (hkey : keyOf P k key = some kl)
    (d : DataW H) (ps : List MemPlace) (hval : R val = some (d, ps))
    (hK : ∀ w', w'.ownsMap P k R b (n + 1) (D.put kl d) → w.grownBy w' (some b) → wpList P ops Q rest (a.put o.dst undef) w') :
    wpList P ops Q (o :: rest) a w := by
  refine wpList_plain hg fun K' hK' => ?_
  obtain ⟨w', hrun, r1, r2⟩ := hown.update K ht hn hkey hval
  unfold Oper.wp
  simp [execOp, hop, hm, hx, hv, hrun, Result.andThen]
  exact hK' _ _ (hK w' r1 r2)
theorem run_store_func (P : Program) (w : World) (a : Addr) (fn : Fn) (x y : Array Value) : (store a (.func fn x y)).run P w = stored P w a (.func fn x y) .plain := run_store P w a _ _ rfl
theorem map_below {H : Type} {w w1 : World} {P : Program} {k b n : Nat} {R : Value → Option (DataW H × List MemPlace)} {D : DataW H} (h : w.ownsMap P k R b n D) (hb : Below w.heap.size w w1) : w1.ownsMap P k R b n D := by
  obtain ⟨es, clock, h1, h2⟩ := h
  have hlt : b < w.heap.size := (Array.getElem?_eq_some_iff.1 h1).1
  exact ⟨es, clock, (hb.block b hlt).trans h1, h2⟩
def deedV (n : Int) (f b : Nat) : Value := .agg #[.int .i64 n, .func (.func f) #[] #[.pointer (some ⟨b, 0, none⟩)]]

set_option maxHeartbeats 400000 in
theorem takesB_any (f : FuncId) (w : World) : Calls Try.prog 58 #[.func (.func f) #[] #[]] w fun e w' => e = .returned (.agg #[.int .i64 1, .func (.func 81) #[] #[.pointer (some ⟨w.heap.size, 0, none⟩)]]) ∧ w'.cell? ⟨w.heap.size, 0, none⟩ = some (.func (.func f) #[] #[]) ∧ Below w.heap.size w w' ∧ w.heap.size < w'.heap.size := by
  have hsf := run_store_func Try.prog
  go_enter Try.func58, Try.ntmps58
  go_wp2
  refine bodyPost_ret (v := .agg #[.int .i64 1, .func (.func 81) #[] #[.pointer (some ⟨w.heap.size, 0, none⟩)]]) (by simp [results, Try.results58, go_sem]) rfl ⟨rfl, ?_, ?_, by simp; omega⟩
  · exact (((Below.refl (w.heap.size + 1) (w.alloc (.cells #[.func (.func f) #[] #[]] 109))).alloc (by simp) _).cell (p := ⟨w.heap.size, 0, none⟩) (Nat.lt_succ_self _)).trans (by simp)
  · exact ((Below.refl _ _).alloc (Nat.le_refl _) _).alloc (by simp) _
set_option maxHeartbeats 400000 in
theorem takesI_any (f : FuncId) (w : World) : Calls Try.prog 60 #[.func (.func f) #[] #[]] w fun e w' => e = .returned (.agg #[.int .i64 1, .func (.func 82) #[] #[.pointer (some ⟨w.heap.size, 0, none⟩)]]) ∧ w'.cell? ⟨w.heap.size, 0, none⟩ = some (.func (.func f) #[] #[]) ∧ Below w.heap.size w w' ∧ w.heap.size < w'.heap.size := by
  have hsf := run_store_func Try.prog
  go_enter Try.func60, Try.ntmps60
  go_wp2
  refine bodyPost_ret (v := .agg #[.int .i64 1, .func (.func 82) #[] #[.pointer (some ⟨w.heap.size, 0, none⟩)]]) (by simp [results, Try.results60, go_sem]) rfl ⟨rfl, ?_, ?_, by simp; omega⟩
  · exact (((Below.refl (w.heap.size + 1) (w.alloc (.cells #[.func (.func f) #[] #[]] 112))).alloc (by simp) _).cell (p := ⟨w.heap.size, 0, none⟩) (Nat.lt_succ_self _)).trans (by simp)
  · exact ((Below.refl _ _).alloc (Nat.le_refl _) _).alloc (by simp) _

/-- The table's two deeds. -/
def unDeeds (b c : Nat) : DataW Value := ((DataW.map []).put (.int .i64 1) (.held (deedV 1 81 b))).put (.int .i64 2) (.held (deedV 1 82 c))
theorem keyI (k : Int) (h : (Lit.int .i64 k).wf = true) : keyOf Try.prog 3 (.int .i64 k) = some (.int .i64 k) := Maps.keyOf_int_mk Try.underlying3 h

set_option maxRecDepth 100000 in
set_option maxHeartbeats 1000000 in
theorem unTable_any (w : World) : Calls Try.prog 36 #[] w fun e w' => ∃ b c, e = .returned (.map (some w.heap.size)) ∧ w'.ownsMap Try.prog 3 anyElem w.heap.size 2 (unDeeds b c) ∧ w'.cell? ⟨b, 0, none⟩ = some (.func (.func 59) #[] #[]) ∧ w'.cell? ⟨c, 0, none⟩ = some (.func (.func 61) #[] #[]) ∧ Below w.heap.size w w' := by
  have hmm := @run_makeMap Try.prog
  have HM := hide (World.ownsMap_made (H := Value) w Try.prog 3 anyElem)
  have r1 : Below w.heap.size w (w.alloc (.map #[] 0)) := (Below.refl _ _).alloc (Nat.le_refl _) _
  go_enter Try.func36, Try.ntmps36
  go_wp2_with fail
  refine (takesB_any _ _).mono ?_
  rintro e w1 ⟨rfl, hc1, hb1, hz1⟩
  rw [World.size_alloc] at hc1 hb1 hz1
  have HM1 := hide (map_below HM.out (by rw [World.size_alloc]; exact hb1))
  have HC1 := hide hc1
  have B1 := r1.trans (hb1.mono (Nat.le_succ _))
  clear hc1 hb1 HM
  go_wp2_with (show wpList _ _ _ ({ dst := _, op := Op.insert _ _ _ _, type := _, pos := _, after := _, guard := _ } :: _) _ _; go_must (refine wpList_insert_own _ rfl _ _ _ 67 rfl 3 66 lawI Try.underlying67 _ w.heap.size 0 _ rfl HM1.out (by unfold maxLen; omega) _ _ _ rfl rfl (keyI 1 (by decide)) _ [] rfl ?_))
  intro w2 hown2 hgrow2
  have hz2 : w.heap.size + 1 < w2.heap.size := by have := hgrow2.size; omega
  have B2 : Below w.heap.size w w2 := B1.grown hgrow2 (by omega) (fun k e => by cases e; exact Nat.le_refl _)
  have HC2 := hide ((World.cell?_of_block (a := ⟨w.heap.size + 1, 0, none⟩) (hgrow2.block (w.heap.size + 1) (by omega) (by simp))).trans HC1.out)
  have HM2 := hide hown2
  clear hown2 hgrow2
  go_wp2_with fail
  refine (takesI_any _ _).mono ?_
  rintro e w3 ⟨rfl, hc3, hb3, hz3⟩
  have HM3 := hide (map_below HM2.out hb3)
  have HC3 := hide ((hb3.cell (p := ⟨w.heap.size + 1, 0, none⟩) hz2).trans HC2.out)
  have HD3 := hide hc3
  have B3 := B2.trans (hb3.mono B2.size)
  clear hc3 hb3
  go_wp2_with (show wpList _ _ _ ({ dst := _, op := Op.insert _ _ _ _, type := _, pos := _, after := _, guard := _ } :: _) _ _; go_must (refine wpList_insert_own _ rfl _ _ _ 67 rfl 3 66 lawI Try.underlying67 _ w.heap.size 1 _ rfl HM3.out (by unfold maxLen; omega) _ _ _ rfl rfl (keyI 2 (by decide)) _ [] rfl ?_))
  intro w4 hown4 hgrow4
  have B4 : Below w.heap.size w w4 := B3.grown hgrow4 (by omega) (fun k e => by cases e; exact Nat.le_refl _)
  have HC4 := hide ((World.cell?_of_block (a := ⟨w.heap.size + 1, 0, none⟩) (hgrow4.block (w.heap.size + 1) (by omega) (by simp))).trans HC3.out)
  have HD4 := hide ((World.cell?_of_block (a := ⟨w2.heap.size, 0, none⟩) (hgrow4.block w2.heap.size hz3 (by simp; omega))).trans HD3.out)
  have HM4 := hide hown4
  clear hown4 hgrow4
  go_wp2
  go_ret
  exact ⟨w.heap.size + 1, w2.heap.size, rfl, HM4.out, HC4.out, HD4.out, B4⟩

theorem zero_deed (w : World) : (zeroValue 66).run Try.prog w = .ok (.agg #[.int .i64 0, .nilFunc]) w := by kernel_rfl
/-- What the table holds for an op. -/
def unDeed (op : Int) (b c : Nat) : Value := if op = 1 then deedV 1 81 b else if op = 2 then deedV 1 82 c else .agg #[.int .i64 0, .nilFunc]
theorem un_look (op : Int) (b c g : Nat) (w : World) (hw : (Lit.int .i64 op).wf = true) (h : w.ownsMap Try.prog 3 anyElem g 2 (unDeeds b c)) : (Instr.lookup 67 (.map (some g)) (.int .i64 op) false).run Try.prog w = .ok (unDeed op b c) w := by
  obtain ⟨v, ps, hrun, hv⟩ := h.lookup lawI Try.underlying67 (zero_deed w) (zd := .held (.agg #[.int .i64 0, .nilFunc])) (zp := []) rfl (keyI op hw)
  rw [hrun]
  have e : DataW.held v = (unDeeds b c).atKey (.int .i64 op) (.held (.agg #[.int .i64 0, .nilFunc])) := by
    have := congrArg (fun o => o.map Prod.fst) hv
    simpa [anyElem] using this
  have e2 : (unDeeds b c).atKey (.int .i64 op) (.held (.agg #[.int .i64 0, .nilFunc])) = .held (unDeed op b c) := by
    unfold unDeeds unDeed
    by_cases h1 : op = 1
    · subst h1
      rw [if_pos rfl, Maps.atKey_put_other (by intro h; cases h), Maps.atKey_put_same Maps.isMap_empty (show WideAt.IsKeyLit (.int .i64 1) from trivial)]
    · by_cases h2 : op = 2
      · subst h2
        rw [if_neg h1, if_pos rfl, Maps.atKey_put_same (Maps.isMap_empty.put _ _) (show WideAt.IsKeyLit (.int .i64 2) from trivial)]
      · rw [if_neg h1, if_neg h2, Maps.atKey_put_other (by intro h; cases h; exact h2 rfl), Maps.atKey_put_other (by intro h; cases h; exact h1 rfl)]
        rfl
  rw [e2] at e
  cases e
  rfl

def txt (l : List UInt8) : ByteArray := ⟨l.toArray⟩
def wType : List UInt8 := [116, 121, 112, 101]
def wRange : List UInt8 := [114, 97, 110, 103, 101]
set_option maxHeartbeats 400000 in
theorem notC_any (b : Bool) (w : World) : Calls Try.prog 59 #[.bool b] w fun e w' => e = .returned (.tuple #[.iface 78 (.bool !b), .string ⟨#[]⟩]) ∧ w' = w := by
  go_enter Try.func59, Try.ntmps59
  go_wp2
  go_ret2
  exact ⟨rfl, rfl⟩
/-- Less, told. -/
def lessV (n : Int) : Value := if n = -9223372036854775808 then .tuple #[.nilIface, .string (txt wRange)] else .tuple #[.iface 81 (.int .i64 (-n)), .string ⟨#[]⟩]
set_option maxHeartbeats 400000 in
theorem subtract0_any (n : Int) (w : World) (h1 : -9223372036854775808 ≤ n) (h2 : n ≤ 9223372036854775807) : Calls Try.prog 62 #[.int .i64 0, .int .i64 n] w fun e w' => e = .returned (lessV n) ∧ w' = w := by
  unfold lessV
  by_cases hm : n = -9223372036854775808
  · subst hm
    rw [if_pos rfl]
    have hmn : wrap64 9223372036854775808 = -9223372036854775808 := by unfold wrap64; omega
    go_enter Try.func62, Try.ntmps62
    go_wp2
    go_ret2
    exact ⟨rfl, rfl⟩
  · rw [if_neg hm]
    have hw : wrap64 (0 - n) = -n := by unfold wrap64; omega
    have hw2 : wrap64 (-n) = -n := by unfold wrap64; omega
    by_cases h0 : n < 0
    · have hp : 0 < -n := by omega
      go_enter Try.func62, Try.ntmps62
      go_wp2
      go_ret2
      exact ⟨rfl, rfl⟩
    · have hp : ¬ 0 < -n := by omega
      go_enter Try.func62, Try.ntmps62
      go_wp2
      go_ret2
      exact ⟨rfl, rfl⟩
set_option maxHeartbeats 400000 in
theorem negC_any (n : Int) (w : World) (h1 : -9223372036854775808 ≤ n) (h2 : n ≤ 9223372036854775807) : Calls Try.prog 61 #[.int .i64 n] w fun e w' => e = .returned (lessV n) ∧ w' = w := by
  have HS := hide (subtract0_any n)
  by_cases hm : n = -9223372036854775808
  · subst hm
    have hv : lessV (-9223372036854775808) = .tuple #[.nilIface, .string (txt wRange)] := by unfold lessV; rw [if_pos rfl]
    rw [hv] at HS
    rw [hv]
    clear hv
    go_enter Try.func61, Try.ntmps61
    go_wp2_with (go_at_call 62; refine (HS.out _ h1 h2).mono ?_; rintro e w' ⟨rfl, rfl⟩)
    go_ret2
    exact ⟨rfl, rfl⟩
  · have hv : lessV n = .tuple #[.iface 81 (.int .i64 (-n)), .string ⟨#[]⟩] := by unfold lessV; rw [if_neg hm]
    rw [hv] at HS
    rw [hv]
    clear hv
    go_enter Try.func61, Try.ntmps61
    go_wp2_with (go_at_call 62; refine (HS.out _ h1 h2).mono ?_; rintro e w' ⟨rfl, rfl⟩)
    go_ret2
    exact ⟨rfl, rfl⟩
end Go.Proofs.Ytfpdoafpimaoaaa.Vl
