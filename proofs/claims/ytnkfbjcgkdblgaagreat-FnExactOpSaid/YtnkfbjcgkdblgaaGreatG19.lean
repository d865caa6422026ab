/- Joined: Eg. -/
import Derived.Test.YtnkfbjcgkdblgaaGreatG18
namespace Go.Proofs.YtnkfbjcgkdblgaaGreat.Vl
open Go.RowKit T.atoms T.ok T.high T.good T.allPlain DatAt T.ord

/-- A call of a function's value by its contract, as one step of a region that draws. -/
theorem step_callv1 {P : Program} {ops : Array Oper} {o : Oper} {a : Act} {w : World} {K : Act → World → Prop} {Q : Exit → Act → World → Prop} {E : Prop}
    (hg : o.guard = none) (f : FuncId) (y x : Operand) (t : TypeId) (hop : o.op = Op.call { callee := Callee.value y, args := #[x], argTypes := #[t] })
    (v r : Value) (hy : a.eval y = .func (.func f) #[] #[]) (hx : a.eval x = v) (h1 : ∀ args w, (callFunc f args).run P w = .ok (.enter f args) w) (R : World → Prop) (hC : Calls P f #[v] w fun e w' => e = .returned r ∧ R w') (hK : ∀ w', R w' → K (a.put o.dst r) w') :
    if Region.wanted o (yielded ops a.tmps) = true then Oper.wp P o a w K Q else E := by
  have hw : Region.wanted o (yielded ops a.tmps) = true := by simp [Region.wanted, hg]
  rw [if_pos hw]
  unfold Oper.wp
  simp only [execOp, hop, resolve, invoke, List.map_toArray, List.map_cons, List.map_nil, hx, hy, Deferred.ofValue, Sem.run_bind, Sem.run_pure, Result.andThen_ok]
  simp [h1]
  refine hC.mono fun e w2 h => ?_
  obtain ⟨rfl, h2⟩ := h
  exact hK _ h2
set_option maxRecDepth 100000 in
set_option maxHeartbeats 1000000 in
theorem cmpD_do (xy : TypeId) (xu : Value) (zy : TypeId) (zu : Value) (h q : Nat) (hb : Int → Bool) (od : Int) (w : World) (hen : ∀ args w, (callFunc h args).run Tryz.prog w = .ok (.enter h args) w) (HH : Hid (∀ n w, Calls Tryz.prog h #[.int .i64 n] w fun e w' => e = .returned (.bool (hb n)) ∧ w' = w)) (hq : q < w.heap.size) (hc : w.cell? ⟨q, 0, none⟩ = some (.func (.func h) #[] #[])) (HC : Hid (∀ w', Below w.heap.size w w' → Calls Tryz.prog 80 #[.iface xy xu, .iface zy zu] w' fun e w'' => e = .returned (.int .i64 od) ∧ Below w'.heap.size w' w'')) :
    Calls Tryz.prog 79 #[.iface xy xu, .iface zy zu, .pointer (some ⟨q, 0, none⟩)] w (TupPost fun dv s w' => dv = .iface 83 (.bool (hb od)) ∧ s = ⟨#[]⟩ ∧ Below w.heap.size w w') := by
  have HQ0 := hide hq
  have hB : Below w.heap.size w w := Below.refl _ _
  have hc' := hc
  have HB := hide hB
  have HC' := hide hc'
  clear hB
  go_enter Tryz.func79, Tryz.ntmps79
  go_wp2_with fail
  go_region_held3 (fun w' => w'.cell? ⟨q, 0, none⟩ = some (.func (.func h) #[] #[])) (go_keep) (first
    | (refine step_call2 rfl 80 (.tmp 8) (.tmp 9) 77 77 rfl (.iface xy xu) (.iface zy zu) (.int .i64 od) (by simp [Act.eval]) (by simp [Act.eval]) Tryz.f80 Tryz.func80 (by kernel_rfl) (by kernel_rfl) _ (HC.out _ HB.out.drew) ?_; intro w1 hb1; have c1 := (hb1.cell (p := ⟨q, 0, none⟩) (Nat.lt_of_lt_of_le HQ0.out HB.out.size)).trans HC'.out)
    | (refine step_callv1 rfl h (.tmp 7) (.tmp 10) 3 rfl (.int .i64 od) (.bool (hb od)) (by simp [Act.eval]) (by simp [Act.eval]) hen _ (HH.out od _) ?_; rintro w2 rfl))
  have BB := HB.out.drew.trans (hb1.mono HB.out.drew.size)
  clear hb1 c1
  go_wp2
  go_ret2
  exact ⟨_, _, rfl, rfl, rfl, BB⟩
theorem two_new (W : World) (a b : Value) (t : TypeId) : ∀ j v, ([a, b] : List Value)[j]? = some v → (W.alloc (.cells #[a, b] t)).cell? ⟨W.heap.size, j, none⟩ = some v := by
  intro j v h
  rw [World.cell?, heap_alloc_new]
  simpa using h
theorem frozen_new2 (W : World) (a b : Value) (t : TypeId) : ∀ j, (W.alloc (.cells #[a, b] t)).frozen? ⟨W.heap.size, j, none⟩ = false := by
  intro j
  simp
set_option maxHeartbeats 400000 in
theorem cmpsD_any (h : FuncId) (w : World) : Calls Tryz.prog 47 #[.func (.func h) #[] #[]] w fun e w' => e = .returned (deedV 2 106 (w.heap.size + 1 + 1)) ∧ w'.cell? ⟨w.heap.size, 0, none⟩ = some (.func (.func h) #[] #[]) ∧ w'.cell? ⟨w.heap.size + 1 + 1, 0, none⟩ = some (.func (.func 79) #[] #[.pointer (some ⟨w.heap.size, 0, none⟩)]) ∧ Below w.heap.size w w' ∧ w.heap.size + 1 + 1 < w'.heap.size := by
  have HT := hide (fun W => twoDD_any 79 #[.pointer (some ⟨w.heap.size, 0, none⟩)] W)
  have hsf := run_store_func Tryz.prog
  have hq : Below w.heap.size w ((w.alloc (.cells #[.func (.func h) #[] #[]] 86)).alloc (.cells #[.int .i64 0, .nilFunc] 51)) := ((Below.refl _ _).alloc (Nat.le_refl _) _).alloc (by simp) _
  have h0 : ((w.alloc (.cells #[.func (.func h) #[] #[]] 86)).alloc (.cells #[.int .i64 0, .nilFunc] 51)).cell? ⟨w.heap.size, 0, none⟩ = some (.func (.func h) #[] #[]) := (((Below.refl (w.heap.size + 1) (w.alloc (.cells #[.func (.func h) #[] #[]] 86))).alloc (by simp) _).cell (p := ⟨w.heap.size, 0, none⟩) (Nat.lt_succ_self _)).trans (by simp)
  have d0 : ∀ j v, ([.int .i64 0, .nilFunc] : List Value)[j]? = some v → ((w.alloc (.cells #[.func (.func h) #[] #[]] 86)).alloc (.cells #[.int .i64 0, .nilFunc] 51)).cell? ⟨w.heap.size + 1, j, none⟩ = some v := fun j v hj => by
    have := two_new (w.alloc (.cells #[.func (.func h) #[] #[]] 86)) (.int .i64 0) .nilFunc 51 j v hj
    rwa [World.size_alloc] at this
  have HQ := hide hq
  have H0 := hide h0
  have D0 := hide d0
  have FZ := hide (frozen_new2 (w.alloc (.cells #[.func (.func h) #[] #[]] 86)) (.int .i64 0) .nilFunc 51)
  rw [World.size_alloc] at FZ
  clear hq h0 d0
  go_enter Tryz.func47, Tryz.ntmps47
  go_wp2_with fail
  refine (HT.out _).mono ?_
  rintro e w1 ⟨rfl, hc1, hb1, hz1⟩
  simp only [World.size_alloc] at hc1 hb1 hz1
  have e0 := (hb1.cell (p := ⟨w.heap.size + 1, 0, none⟩) (by show w.heap.size + 1 < _; omega)).trans (D0.out 0 _ rfl)
  have e1 := (hb1.cell (p := ⟨w.heap.size + 1, 1, none⟩) (by show w.heap.size + 1 < _; omega)).trans (D0.out 1 _ rfl)
  have g0 := (hb1.frozen (p := ⟨w.heap.size + 1, 0, none⟩) (by show w.heap.size + 1 < _; omega)).trans (FZ.out 0)
  have g1 := (hb1.frozen (p := ⟨w.heap.size + 1, 1, none⟩) (by show w.heap.size + 1 < _; omega)).trans (FZ.out 1)
  have HC1 := hide hc1
  have HH0 := hide ((hb1.cell (p := ⟨w.heap.size, 0, none⟩) (by show w.heap.size < _; omega)).trans H0.out)
  have BB := HQ.out.trans (hb1.mono (by omega))
  have hz2 := hz1
  unfold deedV
  clear hc1 hb1
  go_wp2
  obtain ⟨q0, q1⟩ := two_cells (x := .int .i64 2) (y := .func (.func 106) #[] #[.pointer (some ⟨w.heap.size + 1 + 1, 0, none⟩)]) e0 e1
  have hk : ∀ b, b ≠ w.heap.size + 1 → ((w1.setCell ⟨w.heap.size + 1, 0, none⟩ (.int .i64 2)).setCell ⟨w.heap.size + 1, 1, none⟩ (.func (.func 106) #[] #[.pointer (some ⟨w.heap.size + 1 + 1, 0, none⟩)])).heap[b]? = w1.heap[b]? := fun b hb => (Below.heap_setCell _ _ _ _ hb).trans (Below.heap_setCell _ _ _ _ hb)
  refine bodyPost_ret (v := deedV 2 106 (w.heap.size + 1 + 1)) (by simp [results, Tryz.results47, go_sem, deedV, q0, q1]) rfl ⟨rfl, ?_, ?_, ?_, by simpa using hz2⟩
  · exact (World.cell?_of_block (a := ⟨w.heap.size, 0, none⟩) (hk w.heap.size (by omega))).trans HH0.out
  · exact (World.cell?_of_block (a := ⟨w.heap.size + 1 + 1, 0, none⟩) (hk (w.heap.size + 1 + 1) (by omega))).trans HC1.out
  · exact (BB.setCell (p := ⟨w.heap.size + 1, 0, none⟩) (by simp) _).setCell (p := ⟨w.heap.size + 1, 1, none⟩) (by simp) _
set_option maxRecDepth 100000 in
set_option maxHeartbeats 1000000 in
theorem cmpB_do (xb : Bool) (zb : Bool) (h q : Nat) (hb : Int → Bool) (od : Int) (w : World) (hen : ∀ args w, (callFunc h args).run Tryz.prog w = .ok (.enter h args) w) (HH : Hid (∀ n w, Calls Tryz.prog h #[.int .i64 n] w fun e w' => e = .returned (.bool (hb n)) ∧ w' = w)) (hq : q < w.heap.size) (hc : w.cell? ⟨q, 0, none⟩ = some (.func (.func h) #[] #[])) (HC : Hid (∀ w', Below w.heap.size w w' → Calls Tryz.prog 80 #[.iface 83 (.bool xb), .iface 83 (.bool zb)] w' fun e w'' => e = .returned (.int .i64 od) ∧ Below w'.heap.size w' w'')) :
    Calls Tryz.prog 114 #[.bool xb, .bool zb, .pointer (some ⟨q, 0, none⟩)] w (TupPost fun dv s w' => dv = .iface 83 (.bool (hb od)) ∧ s = ⟨#[]⟩ ∧ Below w.heap.size w w') := by
  have HQ0 := hide hq
  have hB : Below w.heap.size w w := Below.refl _ _
  have hc' := hc
  have HB := hide hB
  have HC' := hide hc'
  clear hB
  go_enter Tryz.func114, Tryz.ntmps114
  go_wp2_with fail
  go_region_held3 (fun w' => w'.cell? ⟨q, 0, none⟩ = some (.func (.func h) #[] #[])) (go_keep) (first
    | (refine step_call2 rfl 80 (.tmp 9) (.tmp 11) 77 77 rfl (.iface 83 (.bool xb)) (.iface 83 (.bool zb)) (.int .i64 od) (by simp [Act.eval]) (by simp [Act.eval]) Tryz.f80 Tryz.func80 (by kernel_rfl) (by kernel_rfl) _ (HC.out _ HB.out.drew) ?_; intro w1 hb1; have c1 := (hb1.cell (p := ⟨q, 0, none⟩) (Nat.lt_of_lt_of_le HQ0.out HB.out.size)).trans HC'.out)
    | (refine step_callv1 rfl h (.tmp 7) (.tmp 12) 3 rfl (.int .i64 od) (.bool (hb od)) (by simp [Act.eval]) (by simp [Act.eval]) hen _ (HH.out od _) ?_; rintro w2 rfl))
  have BB := HB.out.drew.trans (hb1.mono HB.out.drew.size)
  clear hb1 c1
  go_wp2
  go_ret2
  exact ⟨_, _, rfl, rfl, rfl, BB⟩
set_option maxHeartbeats 400000 in
theorem cmpsB_any (h : FuncId) (w : World) : Calls Tryz.prog 81 #[.func (.func h) #[] #[]] w fun e w' => e = .returned (deedV 2 77 (w.heap.size + 1 + 1)) ∧ w'.cell? ⟨w.heap.size, 0, none⟩ = some (.func (.func h) #[] #[]) ∧ w'.cell? ⟨w.heap.size + 1 + 1, 0, none⟩ = some (.func (.func 114) #[] #[.pointer (some ⟨w.heap.size, 0, none⟩)]) ∧ Below w.heap.size w w' ∧ w.heap.size + 1 + 1 < w'.heap.size := by
  have HT := hide (fun W => twoBB_any 114 #[.pointer (some ⟨w.heap.size, 0, none⟩)] W)
  have hsf := run_store_func Tryz.prog
  have hq : Below w.heap.size w ((w.alloc (.cells #[.func (.func h) #[] #[]] 86)).alloc (.cells #[.int .i64 0, .nilFunc] 51)) := ((Below.refl _ _).alloc (Nat.le_refl _) _).alloc (by simp) _
  have h0 : ((w.alloc (.cells #[.func (.func h) #[] #[]] 86)).alloc (.cells #[.int .i64 0, .nilFunc] 51)).cell? ⟨w.heap.size, 0, none⟩ = some (.func (.func h) #[] #[]) := (((Below.refl (w.heap.size + 1) (w.alloc (.cells #[.func (.func h) #[] #[]] 86))).alloc (by simp) _).cell (p := ⟨w.heap.size, 0, none⟩) (Nat.lt_succ_self _)).trans (by simp)
  have d0 : ∀ j v, ([.int .i64 0, .nilFunc] : List Value)[j]? = some v → ((w.alloc (.cells #[.func (.func h) #[] #[]] 86)).alloc (.cells #[.int .i64 0, .nilFunc] 51)).cell? ⟨w.heap.size + 1, j, none⟩ = some v := fun j v hj => by
    have := two_new (w.alloc (.cells #[.func (.func h) #[] #[]] 86)) (.int .i64 0) .nilFunc 51 j v hj
    rwa [World.size_alloc] at this
  have HQ := hide hq
  have H0 := hide h0
  have D0 := hide d0
  have FZ := hide (frozen_new2 (w.alloc (.cells #[.func (.func h) #[] #[]] 86)) (.int .i64 0) .nilFunc 51)
  rw [World.size_alloc] at FZ
  clear hq h0 d0
  go_enter Tryz.func81, Tryz.ntmps81
  go_wp2_with fail
  refine (HT.out _).mono ?_
  rintro e w1 ⟨rfl, hc1, hb1, hz1⟩
  simp only [World.size_alloc] at hc1 hb1 hz1
  have e0 := (hb1.cell (p := ⟨w.heap.size + 1, 0, none⟩) (by show w.heap.size + 1 < _; omega)).trans (D0.out 0 _ rfl)
  have e1 := (hb1.cell (p := ⟨w.heap.size + 1, 1, none⟩) (by show w.heap.size + 1 < _; omega)).trans (D0.out 1 _ rfl)
  have g0 := (hb1.frozen (p := ⟨w.heap.size + 1, 0, none⟩) (by show w.heap.size + 1 < _; omega)).trans (FZ.out 0)
  have g1 := (hb1.frozen (p := ⟨w.heap.size + 1, 1, none⟩) (by show w.heap.size + 1 < _; omega)).trans (FZ.out 1)
  have HC1 := hide hc1
  have HH0 := hide ((hb1.cell (p := ⟨w.heap.size, 0, none⟩) (by show w.heap.size < _; omega)).trans H0.out)
  have BB := HQ.out.trans (hb1.mono (by omega))
  have hz2 := hz1
  unfold deedV
  clear hc1 hb1
  go_wp2
  obtain ⟨q0, q1⟩ := two_cells (x := .int .i64 2) (y := .func (.func 77) #[] #[.pointer (some ⟨w.heap.size + 1 + 1, 0, none⟩)]) e0 e1
  have hk : ∀ b, b ≠ w.heap.size + 1 → ((w1.setCell ⟨w.heap.size + 1, 0, none⟩ (.int .i64 2)).setCell ⟨w.heap.size + 1, 1, none⟩ (.func (.func 77) #[] #[.pointer (some ⟨w.heap.size + 1 + 1, 0, none⟩)])).heap[b]? = w1.heap[b]? := fun b hb => (Below.heap_setCell _ _ _ _ hb).trans (Below.heap_setCell _ _ _ _ hb)
  refine bodyPost_ret (v := deedV 2 77 (w.heap.size + 1 + 1)) (by simp [results, Tryz.results81, go_sem, deedV, q0, q1]) rfl ⟨rfl, ?_, ?_, ?_, by simpa using hz2⟩
  · exact (World.cell?_of_block (a := ⟨w.heap.size, 0, none⟩) (hk w.heap.size (by omega))).trans HH0.out
  · exact (World.cell?_of_block (a := ⟨w.heap.size + 1 + 1, 0, none⟩) (hk (w.heap.size + 1 + 1) (by omega))).trans HC1.out
  · exact (BB.setCell (p := ⟨w.heap.size + 1, 0, none⟩) (by simp) _).setCell (p := ⟨w.heap.size + 1, 1, none⟩) (by simp) _
set_option maxRecDepth 100000 in
set_option maxHeartbeats 1000000 in
theorem cmpI_do (xn : Int) (zn : Int) (h q : Nat) (hb : Int → Bool) (od : Int) (w : World) (hen : ∀ args w, (callFunc h args).run Tryz.prog w = .ok (.enter h args) w) (HH : Hid (∀ n w, Calls Tryz.prog h #[.int .i64 n] w fun e w' => e = .returned (.bool (hb n)) ∧ w' = w)) (hq : q < w.heap.size) (hc : w.cell? ⟨q, 0, none⟩ = some (.func (.func h) #[] #[])) (HC : Hid (∀ w', Below w.heap.size w w' → Calls Tryz.prog 80 #[.iface 103 (.int .i64 xn), .iface 103 (.int .i64 zn)] w' fun e w'' => e = .returned (.int .i64 od) ∧ Below w'.heap.size w' w'')) :
    Calls Tryz.prog 115 #[.int .i64 xn, .int .i64 zn, .pointer (some ⟨q, 0, none⟩)] w (TupPost fun dv s w' => dv = .iface 83 (.bool (hb od)) ∧ s = ⟨#[]⟩ ∧ Below w.heap.size w w') := by
  have HQ0 := hide hq
  have hB : Below w.heap.size w w := Below.refl _ _
  have hc' := hc
  have HB := hide hB
  have HC' := hide hc'
  clear hB
  go_enter Tryz.func115, Tryz.ntmps115
  go_wp2_with fail
  go_region_held3 (fun w' => w'.cell? ⟨q, 0, none⟩ = some (.func (.func h) #[] #[])) (go_keep) (first
    | (refine step_call2 rfl 80 (.tmp 9) (.tmp 11) 77 77 rfl (.iface 103 (.int .i64 xn)) (.iface 103 (.int .i64 zn)) (.int .i64 od) (by simp [Act.eval]) (by simp [Act.eval]) Tryz.f80 Tryz.func80 (by kernel_rfl) (by kernel_rfl) _ (HC.out _ HB.out.drew) ?_; intro w1 hb1; have c1 := (hb1.cell (p := ⟨q, 0, none⟩) (Nat.lt_of_lt_of_le HQ0.out HB.out.size)).trans HC'.out)
    | (refine step_callv1 rfl h (.tmp 7) (.tmp 12) 3 rfl (.int .i64 od) (.bool (hb od)) (by simp [Act.eval]) (by simp [Act.eval]) hen _ (HH.out od _) ?_; rintro w2 rfl))
  have BB := HB.out.drew.trans (hb1.mono HB.out.drew.size)
  clear hb1 c1
  go_wp2
  go_ret2
  exact ⟨_, _, rfl, rfl, rfl, BB⟩
set_option maxHeartbeats 400000 in
theorem cmpsI_any (h : FuncId) (w : World) : Calls Tryz.prog 82 #[.func (.func h) #[] #[]] w fun e w' => e = .returned (deedV 2 92 (w.heap.size + 1 + 1)) ∧ w'.cell? ⟨w.heap.size, 0, none⟩ = some (.func (.func h) #[] #[]) ∧ w'.cell? ⟨w.heap.size + 1 + 1, 0, none⟩ = some (.func (.func 115) #[] #[.pointer (some ⟨w.heap.size, 0, none⟩)]) ∧ Below w.heap.size w w' ∧ w.heap.size + 1 + 1 < w'.heap.size := by
  have HT := hide (fun W => twoII_any 115 #[.pointer (some ⟨w.heap.size, 0, none⟩)] W)
  have hsf := run_store_func Tryz.prog
  have hq : Below w.heap.size w ((w.alloc (.cells #[.func (.func h) #[] #[]] 86)).alloc (.cells #[.int .i64 0, .nilFunc] 51)) := ((Below.refl _ _).alloc (Nat.le_refl _) _).alloc (by simp) _
  have h0 : ((w.alloc (.cells #[.func (.func h) #[] #[]] 86)).alloc (.cells #[.int .i64 0, .nilFunc] 51)).cell? ⟨w.heap.size, 0, none⟩ = some (.func (.func h) #[] #[]) := (((Below.refl (w.heap.size + 1) (w.alloc (.cells #[.func (.func h) #[] #[]] 86))).alloc (by simp) _).cell (p := ⟨w.heap.size, 0, none⟩) (Nat.lt_succ_self _)).trans (by simp)
  have d0 : ∀ j v, ([.int .i64 0, .nilFunc] : List Value)[j]? = some v → ((w.alloc (.cells #[.func (.func h) #[] #[]] 86)).alloc (.cells #[.int .i64 0, .nilFunc] 51)).cell? ⟨w.heap.size + 1, j, none⟩ = some v := fun j v hj => by
    have := two_new (w.alloc (.cells #[.func (.func h) #[] #[]] 86)) (.int .i64 0) .nilFunc 51 j v hj
    rwa [World.size_alloc] at this
  have HQ := hide hq
  have H0 := hide h0
  have D0 := hide d0
  have FZ := hide (frozen_new2 (w.alloc (.cells #[.func (.func h) #[] #[]] 86)) (.int .i64 0) .nilFunc 51)
  rw [World.size_alloc] at FZ
  clear hq h0 d0
  go_enter Tryz.func82, Tryz.ntmps82
  go_wp2_with fail
  refine (HT.out _).mono ?_
  rintro e w1 ⟨rfl, hc1, hb1, hz1⟩
  simp only [World.size_alloc] at hc1 hb1 hz1
  have e0 := (hb1.cell (p := ⟨w.heap.size + 1, 0, none⟩) (by show w.heap.size + 1 < _; omega)).trans (D0.out 0 _ rfl)
  have e1 := (hb1.cell (p := ⟨w.heap.size + 1, 1, none⟩) (by show w.heap.size + 1 < _; omega)).trans (D0.out 1 _ rfl)
  have g0 := (hb1.frozen (p := ⟨w.heap.size + 1, 0, none⟩) (by show w.heap.size + 1 < _; omega)).trans (FZ.out 0)
  have g1 := (hb1.frozen (p := ⟨w.heap.size + 1, 1, none⟩) (by show w.heap.size + 1 < _; omega)).trans (FZ.out 1)
  have HC1 := hide hc1
  have HH0 := hide ((hb1.cell (p := ⟨w.heap.size, 0, none⟩) (by show w.heap.size < _; omega)).trans H0.out)
  have BB := HQ.out.trans (hb1.mono (by omega))
  have hz2 := hz1
  unfold deedV
  clear hc1 hb1
  go_wp2
  obtain ⟨q0, q1⟩ := two_cells (x := .int .i64 2) (y := .func (.func 92) #[] #[.pointer (some ⟨w.heap.size + 1 + 1, 0, none⟩)]) e0 e1
  have hk : ∀ b, b ≠ w.heap.size + 1 → ((w1.setCell ⟨w.heap.size + 1, 0, none⟩ (.int .i64 2)).setCell ⟨w.heap.size + 1, 1, none⟩ (.func (.func 92) #[] #[.pointer (some ⟨w.heap.size + 1 + 1, 0, none⟩)])).heap[b]? = w1.heap[b]? := fun b hb => (Below.heap_setCell _ _ _ _ hb).trans (Below.heap_setCell _ _ _ _ hb)
  refine bodyPost_ret (v := deedV 2 92 (w.heap.size + 1 + 1)) (by simp [results, Tryz.results82, go_sem, deedV, q0, q1]) rfl ⟨rfl, ?_, ?_, ?_, by simpa using hz2⟩
  · exact (World.cell?_of_block (a := ⟨w.heap.size, 0, none⟩) (hk w.heap.size (by omega))).trans HH0.out
  · exact (World.cell?_of_block (a := ⟨w.heap.size + 1 + 1, 0, none⟩) (hk (w.heap.size + 1 + 1) (by omega))).trans HC1.out
  · exact (BB.setCell (p := ⟨w.heap.size + 1, 0, none⟩) (by simp) _).setCell (p := ⟨w.heap.size + 1, 1, none⟩) (by simp) _
set_option maxRecDepth 100000 in
set_option maxHeartbeats 1000000 in
theorem cmpT_do (xs : ByteArray) (zs : ByteArray) (h q : Nat) (hb : Int → Bool) (od : Int) (w : World) (hen : ∀ args w, (callFunc h args).run Tryz.prog w = .ok (.enter h args) w) (HH : Hid (∀ n w, Calls Tryz.prog h #[.int .i64 n] w fun e w' => e = .returned (.bool (hb n)) ∧ w' = w)) (hq : q < w.heap.size) (hc : w.cell? ⟨q, 0, none⟩ = some (.func (.func h) #[] #[])) (HC : Hid (∀ w', Below w.heap.size w w' → Calls Tryz.prog 80 #[.iface 89 (.string xs), .iface 89 (.string zs)] w' fun e w'' => e = .returned (.int .i64 od) ∧ Below w'.heap.size w' w'')) :
    Calls Tryz.prog 116 #[.string xs, .string zs, .pointer (some ⟨q, 0, none⟩)] w (TupPost fun dv s w' => dv = .iface 83 (.bool (hb od)) ∧ s = ⟨#[]⟩ ∧ Below w.heap.size w w') := by
  have HQ0 := hide hq
  have hB : Below w.heap.size w w := Below.refl _ _
  have hc' := hc
  have HB := hide hB
  have HC' := hide hc'
  clear hB
  go_enter Tryz.func116, Tryz.ntmps116
  go_wp2_with fail
  go_region_held3 (fun w' => w'.cell? ⟨q, 0, none⟩ = some (.func (.func h) #[] #[])) (go_keep) (first
    | (refine step_call2 rfl 80 (.tmp 9) (.tmp 11) 77 77 rfl (.iface 89 (.string xs)) (.iface 89 (.string zs)) (.int .i64 od) (by simp [Act.eval]) (by simp [Act.eval]) Tryz.f80 Tryz.func80 (by kernel_rfl) (by kernel_rfl) _ (HC.out _ HB.out.drew) ?_; intro w1 hb1; have c1 := (hb1.cell (p := ⟨q, 0, none⟩) (Nat.lt_of_lt_of_le HQ0.out HB.out.size)).trans HC'.out)
    | (refine step_callv1 rfl h (.tmp 7) (.tmp 12) 3 rfl (.int .i64 od) (.bool (hb od)) (by simp [Act.eval]) (by simp [Act.eval]) hen _ (HH.out od _) ?_; rintro w2 rfl))
  have BB := HB.out.drew.trans (hb1.mono HB.out.drew.size)
  clear hb1 c1
  go_wp2
  go_ret2
  exact ⟨_, _, rfl, rfl, rfl, BB⟩
set_option maxHeartbeats 400000 in
theorem cmpsT_any (h : FuncId) (w : World) : Calls Tryz.prog 83 #[.func (.func h) #[] #[]] w fun e w' => e = .returned (deedV 2 86 (w.heap.size + 1 + 1)) ∧ w'.cell? ⟨w.heap.size, 0, none⟩ = some (.func (.func h) #[] #[]) ∧ w'.cell? ⟨w.heap.size + 1 + 1, 0, none⟩ = some (.func (.func 116) #[] #[.pointer (some ⟨w.heap.size, 0, none⟩)]) ∧ Below w.heap.size w w' ∧ w.heap.size + 1 + 1 < w'.heap.size := by
  have HT := hide (fun W => twoTT_any 116 #[.pointer (some ⟨w.heap.size, 0, none⟩)] W)
  have hsf := run_store_func Tryz.prog
  have hq : Below w.heap.size w ((w.alloc (.cells #[.func (.func h) #[] #[]] 86)).alloc (.cells #[.int .i64 0, .nilFunc] 51)) := ((Below.refl _ _).alloc (Nat.le_refl _) _).alloc (by simp) _
  have h0 : ((w.alloc (.cells #[.func (.func h) #[] #[]] 86)).alloc (.cells #[.int .i64 0, .nilFunc] 51)).cell? ⟨w.heap.size, 0, none⟩ = some (.func (.func h) #[] #[]) := (((Below.refl (w.heap.size + 1) (w.alloc (.cells #[.func (.func h) #[] #[]] 86))).alloc (by simp) _).cell (p := ⟨w.heap.size, 0, none⟩) (Nat.lt_succ_self _)).trans (by simp)
  have d0 : ∀ j v, ([.int .i64 0, .nilFunc] : List Value)[j]? = some v → ((w.alloc (.cells #[.func (.func h) #[] #[]] 86)).alloc (.cells #[.int .i64 0, .nilFunc] 51)).cell? ⟨w.heap.size + 1, j, none⟩ = some v := fun j v hj => by
    have := two_new (w.alloc (.cells #[.func (.func h) #[] #[]] 86)) (.int .i64 0) .nilFunc 51 j v hj
    rwa [World.size_alloc] at this
  have HQ := hide hq
  have H0 := hide h0
  have D0 := hide d0
  have FZ := hide (frozen_new2 (w.alloc (.cells #[.func (.func h) #[] #[]] 86)) (.int .i64 0) .nilFunc 51)
  rw [World.size_alloc] at FZ
  clear hq h0 d0
  go_enter Tryz.func83, Tryz.ntmps83
  go_wp2_with fail
  refine (HT.out _).mono ?_
  rintro e w1 ⟨rfl, hc1, hb1, hz1⟩
  simp only [World.size_alloc] at hc1 hb1 hz1
  have e0 := (hb1.cell (p := ⟨w.heap.size + 1, 0, none⟩) (by show w.heap.size + 1 < _; omega)).trans (D0.out 0 _ rfl)
  have e1 := (hb1.cell (p := ⟨w.heap.size + 1, 1, none⟩) (by show w.heap.size + 1 < _; omega)).trans (D0.out 1 _ rfl)
  have g0 := (hb1.frozen (p := ⟨w.heap.size + 1, 0, none⟩) (by show w.heap.size + 1 < _; omega)).trans (FZ.out 0)
  have g1 := (hb1.frozen (p := ⟨w.heap.size + 1, 1, none⟩) (by show w.heap.size + 1 < _; omega)).trans (FZ.out 1)
  have HC1 := hide hc1
  have HH0 := hide ((hb1.cell (p := ⟨w.heap.size, 0, none⟩) (by show w.heap.size < _; omega)).trans H0.out)
  have BB := HQ.out.trans (hb1.mono (by omega))
  have hz2 := hz1
  unfold deedV
  clear hc1 hb1
  go_wp2
  obtain ⟨q0, q1⟩ := two_cells (x := .int .i64 2) (y := .func (.func 86) #[] #[.pointer (some ⟨w.heap.size + 1 + 1, 0, none⟩)]) e0 e1
  have hk : ∀ b, b ≠ w.heap.size + 1 → ((w1.setCell ⟨w.heap.size + 1, 0, none⟩ (.int .i64 2)).setCell ⟨w.heap.size + 1, 1, none⟩ (.func (.func 86) #[] #[.pointer (some ⟨w.heap.size + 1 + 1, 0, none⟩)])).heap[b]? = w1.heap[b]? := fun b hb => (Below.heap_setCell _ _ _ _ hb).trans (Below.heap_setCell _ _ _ _ hb)
  refine bodyPost_ret (v := deedV 2 86 (w.heap.size + 1 + 1)) (by simp [results, Tryz.results83, go_sem, deedV, q0, q1]) rfl ⟨rfl, ?_, ?_, ?_, by simpa using hz2⟩
  · exact (World.cell?_of_block (a := ⟨w.heap.size, 0, none⟩) (hk w.heap.size (by omega))).trans HH0.out
  · exact (World.cell?_of_block (a := ⟨w.heap.size + 1 + 1, 0, none⟩) (hk (w.heap.size + 1 + 1) (by omega))).trans HC1.out
  · exact (BB.setCell (p := ⟨w.heap.size + 1, 0, none⟩) (by simp) _).setCell (p := ⟨w.heap.size + 1, 1, none⟩) (by simp) _
theorem cell3_new (W : World) (a b c : Value) (t : TypeId) : (W.alloc (.cells #[a, b, c] t)).cell? ⟨W.heap.size, 0, none⟩ = some a ∧ (W.alloc (.cells #[a, b, c] t)).cell? ⟨W.heap.size, 1, none⟩ = some b ∧ (W.alloc (.cells #[a, b, c] t)).cell? ⟨W.heap.size, 2, none⟩ = some c := by
  refine ⟨?_, ?_, ?_⟩ <;> simp
set_option maxRecDepth 100000 in
set_option maxHeartbeats 1000000 in
theorem cmpL_do (xp : Option Addr) (xn xc : Nat) (xa xd : Int) (zp : Option Addr) (zn zc : Nat) (za zd : Int) (h q : Nat) (hb : Int → Bool) (od : Int) (w : World) (hen : ∀ args w, (callFunc h args).run Tryz.prog w = .ok (.enter h args) w) (HH : Hid (∀ n w, Calls Tryz.prog h #[.int .i64 n] w fun e w' => e = .returned (.bool (hb n)) ∧ w' = w)) (hq : q < w.heap.size) (hc : w.cell? ⟨q, 0, none⟩ = some (.func (.func h) #[] #[])) (HC : Hid (∀ w', Below w.heap.size w w' → Calls Tryz.prog 80 #[.iface 95 (.agg #[.slice xp xn xc, .int .i64 xa, .int .i64 xd]), .iface 95 (.agg #[.slice zp zn zc, .int .i64 za, .int .i64 zd])] w' fun e w'' => e = .returned (.int .i64 od) ∧ Below w'.heap.size w' w'')) :
    Calls Tryz.prog 117 #[.agg #[.slice xp xn xc, .int .i64 xa, .int .i64 xd], .agg #[.slice zp zn zc, .int .i64 za, .int .i64 zd], .pointer (some ⟨q, 0, none⟩)] w (TupPost fun dv s w' => dv = .iface 83 (.bool (hb od)) ∧ s = ⟨#[]⟩ ∧ Below w.heap.size w w') := by
  have HQ0 := hide hq
  have hB : Below w.heap.size w ((w.alloc (.cells #[.slice xp xn xc, .int .i64 xa, .int .i64 xd] 95)).alloc (.cells #[.slice zp zn zc, .int .i64 za, .int .i64 zd] 95)) := ((Below.refl _ _).alloc (Nat.le_refl _) _).alloc (by simp) _
  have hc' : ((w.alloc (.cells #[.slice xp xn xc, .int .i64 xa, .int .i64 xd] 95)).alloc (.cells #[.slice zp zn zc, .int .i64 za, .int .i64 zd] 95)).cell? ⟨q, 0, none⟩ = some (.func (.func h) #[] #[]) := (hB.cell (p := ⟨q, 0, none⟩) hq).trans hc
  have b0 : ((w.alloc (.cells #[.slice xp xn xc, .int .i64 xa, .int .i64 xd] 95)).alloc (.cells #[.slice zp zn zc, .int .i64 za, .int .i64 zd] 95)).cell? ⟨w.heap.size, 0, none⟩ = some (.slice xp xn xc) := (((Below.refl (w.heap.size + 1) (w.alloc (.cells #[.slice xp xn xc, .int .i64 xa, .int .i64 xd] 95))).alloc (by simp) _).cell (p := ⟨w.heap.size, 0, none⟩) (Nat.lt_succ_self _)).trans (by simp)
  have B0 := hide b0
  have b1 : ((w.alloc (.cells #[.slice xp xn xc, .int .i64 xa, .int .i64 xd] 95)).alloc (.cells #[.slice zp zn zc, .int .i64 za, .int .i64 zd] 95)).cell? ⟨w.heap.size, 1, none⟩ = some (.int .i64 xa) := (((Below.refl (w.heap.size + 1) (w.alloc (.cells #[.slice xp xn xc, .int .i64 xa, .int .i64 xd] 95))).alloc (by simp) _).cell (p := ⟨w.heap.size, 1, none⟩) (Nat.lt_succ_self _)).trans (by simp)
  have B1 := hide b1
  have b2 : ((w.alloc (.cells #[.slice xp xn xc, .int .i64 xa, .int .i64 xd] 95)).alloc (.cells #[.slice zp zn zc, .int .i64 za, .int .i64 zd] 95)).cell? ⟨w.heap.size, 2, none⟩ = some (.int .i64 xd) := (((Below.refl (w.heap.size + 1) (w.alloc (.cells #[.slice xp xn xc, .int .i64 xa, .int .i64 xd] 95))).alloc (by simp) _).cell (p := ⟨w.heap.size, 2, none⟩) (Nat.lt_succ_self _)).trans (by simp)
  have B2 := hide b2
  have b3 : ((w.alloc (.cells #[.slice xp xn xc, .int .i64 xa, .int .i64 xd] 95)).alloc (.cells #[.slice zp zn zc, .int .i64 za, .int .i64 zd] 95)).cell? ⟨w.heap.size + 1, 0, none⟩ = some (.slice zp zn zc) := by have h := cell3_new (w.alloc (.cells #[.slice xp xn xc, .int .i64 xa, .int .i64 xd] 95)) (.slice zp zn zc) (.int .i64 za) (.int .i64 zd) 95; rw [World.size_alloc] at h; exact h.1
  have B3 := hide b3
  have b4 : ((w.alloc (.cells #[.slice xp xn xc, .int .i64 xa, .int .i64 xd] 95)).alloc (.cells #[.slice zp zn zc, .int .i64 za, .int .i64 zd] 95)).cell? ⟨w.heap.size + 1, 1, none⟩ = some (.int .i64 za) := by have h := cell3_new (w.alloc (.cells #[.slice xp xn xc, .int .i64 xa, .int .i64 xd] 95)) (.slice zp zn zc) (.int .i64 za) (.int .i64 zd) 95; rw [World.size_alloc] at h; exact h.2.1
  have B4 := hide b4
  have b5 : ((w.alloc (.cells #[.slice xp xn xc, .int .i64 xa, .int .i64 xd] 95)).alloc (.cells #[.slice zp zn zc, .int .i64 za, .int .i64 zd] 95)).cell? ⟨w.heap.size + 1, 2, none⟩ = some (.int .i64 zd) := by have h := cell3_new (w.alloc (.cells #[.slice xp xn xc, .int .i64 xa, .int .i64 xd] 95)) (.slice zp zn zc) (.int .i64 za) (.int .i64 zd) 95; rw [World.size_alloc] at h; exact h.2.2
  have B5 := hide b5
  have HB := hide hB
  have HC' := hide hc'
  clear hB
  go_enter Tryz.func117, Tryz.ntmps117
  go_wp2_with fail
  go_region_held3 (fun w' => w'.cell? ⟨q, 0, none⟩ = some (.func (.func h) #[] #[]) ∧ w'.cell? ⟨w.heap.size, 0, none⟩ = some (.slice xp xn xc) ∧ w'.cell? ⟨w.heap.size, 1, none⟩ = some (.int .i64 xa) ∧ w'.cell? ⟨w.heap.size, 2, none⟩ = some (.int .i64 xd) ∧ w'.cell? ⟨w.heap.size + 1, 0, none⟩ = some (.slice zp zn zc) ∧ w'.cell? ⟨w.heap.size + 1, 1, none⟩ = some (.int .i64 za) ∧ w'.cell? ⟨w.heap.size + 1, 2, none⟩ = some (.int .i64 zd)) (go_keep) (first
    | (refine step_call2 rfl 80 (.tmp 9) (.tmp 11) 77 77 rfl (.iface 95 (.agg #[.slice xp xn xc, .int .i64 xa, .int .i64 xd])) (.iface 95 (.agg #[.slice zp zn zc, .int .i64 za, .int .i64 zd])) (.int .i64 od) (by simp [Act.eval]) (by simp [Act.eval]) Tryz.f80 Tryz.func80 (by kernel_rfl) (by kernel_rfl) _ (HC.out _ HB.out.drew) ?_; intro w1 hb1; have c1 := (hb1.cell (p := ⟨q, 0, none⟩) (Nat.lt_of_lt_of_le HQ0.out HB.out.size)).trans HC'.out; have k0 := (hb1.cell (p := ⟨w.heap.size, 0, none⟩) (by simp; omega)).trans B0.out; have k1 := (hb1.cell (p := ⟨w.heap.size, 1, none⟩) (by simp; omega)).trans B1.out; have k2 := (hb1.cell (p := ⟨w.heap.size, 2, none⟩) (by simp; omega)).trans B2.out; have k3 := (hb1.cell (p := ⟨w.heap.size + 1, 0, none⟩) (by simp)).trans B3.out; have k4 := (hb1.cell (p := ⟨w.heap.size + 1, 1, none⟩) (by simp)).trans B4.out; have k5 := (hb1.cell (p := ⟨w.heap.size + 1, 2, none⟩) (by simp)).trans B5.out)
    | (refine step_callv1 rfl h (.tmp 7) (.tmp 12) 3 rfl (.int .i64 od) (.bool (hb od)) (by simp [Act.eval]) (by simp [Act.eval]) hen _ (HH.out od _) ?_; rintro w2 rfl))
  have BB := HB.out.drew.trans (hb1.mono HB.out.drew.size)
  clear hb1 c1
  go_wp2
  go_ret2
  exact ⟨_, _, rfl, rfl, rfl, BB⟩
set_option maxHeartbeats 400000 in
theorem cmpsL_any (h : FuncId) (w : World) : Calls Tryz.prog 84 #[.func (.func h) #[] #[]] w fun e w' => e = .returned (deedV 2 95 (w.heap.size + 1 + 1)) ∧ w'.cell? ⟨w.heap.size, 0, none⟩ = some (.func (.func h) #[] #[]) ∧ w'.cell? ⟨w.heap.size + 1 + 1, 0, none⟩ = some (.func (.func 117) #[] #[.pointer (some ⟨w.heap.size, 0, none⟩)]) ∧ Below w.heap.size w w' ∧ w.heap.size + 1 + 1 < w'.heap.size := by
  have HT := hide (fun W => twoLL_any 117 #[.pointer (some ⟨w.heap.size, 0, none⟩)] W)
  have hsf := run_store_func Tryz.prog
  have hq : Below w.heap.size w ((w.alloc (.cells #[.func (.func h) #[] #[]] 86)).alloc (.cells #[.int .i64 0, .nilFunc] 51)) := ((Below.refl _ _).alloc (Nat.le_refl _) _).alloc (by simp) _
  have h0 : ((w.alloc (.cells #[.func (.func h) #[] #[]] 86)).alloc (.cells #[.int .i64 0, .nilFunc] 51)).cell? ⟨w.heap.size, 0, none⟩ = some (.func (.func h) #[] #[]) := (((Below.refl (w.heap.size + 1) (w.alloc (.cells #[.func (.func h) #[] #[]] 86))).alloc (by simp) _).cell (p := ⟨w.heap.size, 0, none⟩) (Nat.lt_succ_self _)).trans (by simp)
  have d0 : ∀ j v, ([.int .i64 0, .nilFunc] : List Value)[j]? = some v → ((w.alloc (.cells #[.func (.func h) #[] #[]] 86)).alloc (.cells #[.int .i64 0, .nilFunc] 51)).cell? ⟨w.heap.size + 1, j, none⟩ = some v := fun j v hj => by
    have := two_new (w.alloc (.cells #[.func (.func h) #[] #[]] 86)) (.int .i64 0) .nilFunc 51 j v hj
    rwa [World.size_alloc] at this
  have HQ := hide hq
  have H0 := hide h0
  have D0 := hide d0
  have FZ := hide (frozen_new2 (w.alloc (.cells #[.func (.func h) #[] #[]] 86)) (.int .i64 0) .nilFunc 51)
  rw [World.size_alloc] at FZ
  clear hq h0 d0
  go_enter Tryz.func84, Tryz.ntmps84
  go_wp2_with fail
  refine (HT.out _).mono ?_
  rintro e w1 ⟨rfl, hc1, hb1, hz1⟩
  simp only [World.size_alloc] at hc1 hb1 hz1
  have e0 := (hb1.cell (p := ⟨w.heap.size + 1, 0, none⟩) (by show w.heap.size + 1 < _; omega)).trans (D0.out 0 _ rfl)
  have e1 := (hb1.cell (p := ⟨w.heap.size + 1, 1, none⟩) (by show w.heap.size + 1 < _; omega)).trans (D0.out 1 _ rfl)
  have g0 := (hb1.frozen (p := ⟨w.heap.size + 1, 0, none⟩) (by show w.heap.size + 1 < _; omega)).trans (FZ.out 0)
  have g1 := (hb1.frozen (p := ⟨w.heap.size + 1, 1, none⟩) (by show w.heap.size + 1 < _; omega)).trans (FZ.out 1)
  have HC1 := hide hc1
  have HH0 := hide ((hb1.cell (p := ⟨w.heap.size, 0, none⟩) (by show w.heap.size < _; omega)).trans H0.out)
  have BB := HQ.out.trans (hb1.mono (by omega))
  have hz2 := hz1
  unfold deedV
  clear hc1 hb1
  go_wp2
  obtain ⟨q0, q1⟩ := two_cells (x := .int .i64 2) (y := .func (.func 95) #[] #[.pointer (some ⟨w.heap.size + 1 + 1, 0, none⟩)]) e0 e1
  have hk : ∀ b, b ≠ w.heap.size + 1 → ((w1.setCell ⟨w.heap.size + 1, 0, none⟩ (.int .i64 2)).setCell ⟨w.heap.size + 1, 1, none⟩ (.func (.func 95) #[] #[.pointer (some ⟨w.heap.size + 1 + 1, 0, none⟩)])).heap[b]? = w1.heap[b]? := fun b hb => (Below.heap_setCell _ _ _ _ hb).trans (Below.heap_setCell _ _ _ _ hb)
  refine bodyPost_ret (v := deedV 2 95 (w.heap.size + 1 + 1)) (by simp [results, Tryz.results84, go_sem, deedV, q0, q1]) rfl ⟨rfl, ?_, ?_, ?_, by simpa using hz2⟩
  · exact (World.cell?_of_block (a := ⟨w.heap.size, 0, none⟩) (hk w.heap.size (by omega))).trans HH0.out
  · exact (World.cell?_of_block (a := ⟨w.heap.size + 1 + 1, 0, none⟩) (hk (w.heap.size + 1 + 1) (by omega))).trans HC1.out
  · exact (BB.setCell (p := ⟨w.heap.size + 1, 0, none⟩) (by simp) _).setCell (p := ⟨w.heap.size + 1, 1, none⟩) (by simp) _
end Go.Proofs.YtnkfbjcgkdblgaaGreat.Vl
