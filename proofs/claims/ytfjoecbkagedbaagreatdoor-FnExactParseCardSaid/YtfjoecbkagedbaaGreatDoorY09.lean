/- Pn, Vc. -/
import Derived.Test.YtfjoecbkagedbaaGreatDoorY08
import Derived.Test.YtfjoecbkagedbaaGreatDoorY01
namespace Go.Proofs.YtfjoecbkagedbaaGreatDoor
open Go.RowKit
/-- A call of one argument that may panic, as one step of a region that draws. -/
theorem step_call1P {P : Program} {ops : Array Oper} {o : Oper} {a : Act} {w : World} {K : Act → World → Prop} {Q : Exit → Act → World → Prop} {E : Prop}
    (hg : o.guard = none) (f : FuncId) (x : Operand) (t : TypeId) (hop : o.op = Op.call { callee := Callee.value (Operand.func f), args := #[x], argTypes := #[t] })
    (v : Value) (hx : a.eval x = v) (fn : Func) (hfn : P.funcs[f]? = some fn) (hne : (fn.name == "runtime.NumGoroutine") = false) (hbd : fn.body.isNone = false) (R : Value → World → Prop) (S : List PanicEntry → World → Prop) (hC : Calls P f #[v] w fun e w' => (∃ r, e = .returned r ∧ R r w') ∨ (∃ c, e = .panicked c ∧ S c w')) (hS : ∀ c w', S c w' → Q (.panic c) a w') (hK : ∀ r w', R r w' → K (a.put o.dst r) w') :
    if Region.wanted o (yielded ops a.tmps) = true then Oper.wp P o a w K Q else E := by
  have hw : Region.wanted o (yielded ops a.tmps) = true := by simp [Region.wanted, hg]
  rw [if_pos hw]
  have h1 : (callFunc f #[v]).run P w = .ok (.enter f #[v]) w := by
    simp only [callFunc, Sem.run_bind, run_program, Result.andThen_ok, hfn, hne, hbd]; rfl
  unfold Oper.wp
  simp only [execOp, hop, resolve, invoke, List.map_toArray, List.map_cons, List.map_nil, hx, Deferred.ofValue, Sem.run_bind]
  rw [show a.eval (Operand.func f) = Value.func (Fn.func f) #[] #[] from rfl]
  simp only [Sem.run_pure, Result.andThen_ok]
  simp [h1]
  refine hC.mono fun e w2 h => ?_
  rcases h with ⟨r, rfl, h2⟩ | ⟨c, rfl, h2⟩
  · exact hK _ _ h2
  · exact hS _ _ h2
theorem step_call2P {P : Program} {ops : Array Oper} {o : Oper} {a : Act} {w : World} {K : Act → World → Prop} {Q : Exit → Act → World → Prop} {E : Prop}
    (hg : o.guard = none) (f : FuncId) (x y : Operand) (t u : TypeId) (hop : o.op = Op.call { callee := Callee.value (Operand.func f), args := #[x, y], argTypes := #[t, u] })
    (v z : Value) (hx : a.eval x = v) (hy : a.eval y = z) (fn : Func) (hfn : P.funcs[f]? = some fn) (hne : (fn.name == "runtime.NumGoroutine") = false) (hbd : fn.body.isNone = false) (r : Value) (R : World → Prop) (hC : Calls P f #[v, z] w fun e w' => e = .returned r ∧ R w') (hK : ∀ w', R w' → K (a.put o.dst r) w') :
    if Region.wanted o (yielded ops a.tmps) = true then Oper.wp P o a w K Q else E := by
  have hw : Region.wanted o (yielded ops a.tmps) = true := by simp [Region.wanted, hg]
  rw [if_pos hw]
  have h1 : (callFunc f #[v, z]).run P w = .ok (.enter f #[v, z]) w := by
    simp only [callFunc, Sem.run_bind, run_program, Result.andThen_ok, hfn, hne, hbd]; rfl
  unfold Oper.wp
  simp only [execOp, hop, resolve, invoke, List.map_toArray, List.map_cons, List.map_nil, hx, hy, Deferred.ofValue, Sem.run_bind]
  rw [show a.eval (Operand.func f) = Value.func (Fn.func f) #[] #[] from rfl]
  simp only [Sem.run_pure, Result.andThen_ok]
  simp [h1]
  refine hC.mono fun e w2 h => ?_
  obtain ⟨rfl, h2⟩ := h
  exact hK _ h2
section
variable {b tc sz : Nat} {tp : Option Addr} {ts : List Sc.T} {s : Pr.Dk} {w0 : World}
set_option maxRecDepth 100000 in
set_option maxHeartbeats 1000000 in
theorem inameY (hd0 : IP b tp tc ts sz s.p w0) (hk : (Pr.tok ts sz s).kind = 1) :
    Calls Tryz.prog 90 #[.pointer (some ⟨b, 0, none⟩)] w0 fun e w' => ∃ v, e = .returned v ∧ IP b tp tc ts sz (Pr.adv s).p w' ∧ Ip.Mv b w0 w' ∧ Ip.Pt w0.heap.size w' v [⟨5, 0, 0, ⟨(Pr.tok ts sz s).text.toArray⟩, 0⟩] := by
  have Q := hide (itakeY (s := s) hd0 1 (by decide) hk)
  clear hd0 hk
  go_enter Tryz.func90, Tryz.ntmps90
  go_wp2_with fail
  refine Q.out.mono ?_
  rintro e w1 ⟨rfl, hd, hm⟩
  have HD := hide hd
  have HM := hide hm
  clear hd hm Q
  have hf1 := tokField1 (Pr.tok ts sz s).kind (Pr.tok ts sz s).n (Pr.tok ts sz s).place ⟨(Pr.tok ts sz s).text.toArray⟩
  have Q := hide (newPart_any 5 0 0 0 ⟨(Pr.tok ts sz s).text.toArray⟩ none 0 0 w1)
  unfold Pr.tokV
  go_wp2_with fail
  refine Q.out.mono ?_
  rintro e w2 ⟨rfl, hb⟩
  have HP := hide ((Ip.Row.nil w0.heap.size w2).made (x := ⟨5, 0, 0, ⟨(Pr.tok ts sz s).text.toArray⟩, 0⟩) rfl)
  have HB := hide hb
  clear hb Q
  go_wp2
  go_ret
  exact ⟨_, rfl, HD.out.below HB.out, HM.out.more HB.out, HP.out⟩
set_option maxRecDepth 100000 in
set_option maxHeartbeats 1000000 in
theorem inameN (hd0 : IP b tp tc ts sz s.p w0) (hk : (Pr.tok ts sz s).kind ≠ 1) :
    Calls Tryz.prog 90 #[.pointer (some ⟨b, 0, none⟩)] w0 fun e w' => e = .panicked (Ip.stuck (Pr.tok ts sz s).place) ∧ Ip.Mv b w0 w' := by
  have Q := hide (itakeN (s := s) hd0 1 hk)
  clear hd0
  go_enter Tryz.func90, Tryz.ntmps90
  go_wp2_with fail
  refine Q.out.mono ?_
  rintro e w1 ⟨rfl, hm⟩
  exact ⟨rfl, rfl, hm⟩
/-- The names of a load. -/
theorem loads_any (m : Nat) : Ip.Items b tp tc ts sz b 0 m (fun _ _ => True) (fun i _ s t n => Pr.Cv ts sz (.loadL i) s (t, n)) (fun i _ s q => Pr.Ends ts sz (.loadL i) s q) (fun _ => false) 90 (#[.pointer (some ⟨b, 0, none⟩)] ++ #[]) := by
  intro i f s _ _ hle hb w _ hd _
  cases hk : ((Pr.tok ts sz s).kind == 1)
  · refine (inameN hd (by simpa using hk)).mono ?_
    rintro e w' ⟨rfl, hm⟩
    exact .inr ⟨_, rfl, .load1 hb (.name_of hb (by rw [Pr.isName_of hb]; exact hk)), hm.wide b⟩
  · have hn : Pr.isName ts sz s = true := by rw [Pr.isName_of hb]; exact hk
    have hx : Pr.put (Pr.name ts sz s) 5 0 0 (Pr.nameT ts sz s) 0 = Pr.put (Pr.adv s) 5 0 0 (Pr.tok ts sz s).text 0 := by rw [Pr.name_go hn, Pr.nameT_go hn]
    refine (inameY hd (by simpa using hk)).mono ?_
    rintro e w' ⟨v, rfl, hd', hm, hp⟩
    refine .inl ⟨Pr.put (Pr.adv s) 5 0 0 (Pr.tok ts sz s).text 0, f, v, _, rfl, hb, by simp [Pr.put], Nat.le_succ _, hd', hm.wide b, hp, trivial, fun hc => ⟨fun u n h => ?_, fun q h => ?_⟩, fun hc => ?_⟩
    · rw [← hx] at hc h; exact .loadL_go hb hc h
    · rw [← hx] at hc h; exact .load2 hb hc h
    · rw [← hx] at hc ⊢; exact .loadL_last hb hc
end
set_option maxRecDepth 100000 in
set_option maxHeartbeats 2000000 in
theorem params_any {b tc sz m : Nat} {tp : Option Addr} {ts : List Sc.T} (ihE : ∀ q : Pr.Dk, m ≤ q.p → q.p ≤ ts.length → q.bad = false → Ip.DE b tp tc ts sz q) :
    Ip.Items b tp tc ts sz b 0 m (fun _ _ => True) (fun i _ s t n => Pr.Cv ts sz (.paramsL i) s (t, n)) (fun i _ s q => Pr.Ends ts sz (.paramsL i) s q) (fun d => Pr.is ts sz d [41]) 87 (#[.pointer (some ⟨b, 0, none⟩)] ++ #[]) := by
  intro i f s hn hm0 _ hbad w0 _ hd0 _
  have hlt := hd0.lt
  have hmost := hd0.most
  have HD0 := hide hd0
  have HM0 := hide (Ip.Mv.refl b w0)
  have HG0 := hide (show m ≤ s.p from hm0)
  clear hd0
  show Calls Tryz.prog 87 #[.pointer (some ⟨b, 0, none⟩)] w0 _
  go_enter Tryz.func87, Tryz.ntmps87
  cases hk1 : ((Pr.tok ts sz (s)).kind == 1)
  case false =>
    have hB := Pr.Bd.name_of (ts := ts) (sz := sz) (s := s) hbad (by rw [Pr.isName_of hbad]; exact hk1)
    have HE := hide (show Pr.Ends ts sz (.paramsL i) s (Pr.tok ts sz (s)).place from .param1 hbad hn hB)
    have Q := hide (itakeN (s := s) HD0.out 1 (by simpa using hk1))
    clear hB
    go_wp2_with fail
    refine Q.out.mono ?_
    rintro e w1 ⟨rfl, hm⟩
    exact ⟨rfl, .inr ⟨_, rfl, HE.out, (HM0.out.t hm).wide b⟩⟩
  have hn1 : Pr.isName ts sz (s) = true := by rw [Pr.isName_of hbad]; exact hk1
  have Q := hide (itakeY (s := s) HD0.out 1 (by decide) (by simpa using hk1))
  go_wp2_with fail
  refine Q.out.mono ?_
  rintro e w1 ⟨rfl, hd, hm⟩
  have HD1 := hide (show IP b tp tc ts sz (Pr.adv (s)).p w1 from hd)
  have HM1 := hide (HM0.out.t hm)
  have HG1 := hide (show m ≤ (Pr.adv (s)).p from Nat.le_succ_of_le HG0.out)
  clear hd hm Q
  have hf1 := tokField1 (Pr.tok ts sz (s)).kind (Pr.tok ts sz (s)).n (Pr.tok ts sz (s)).place ⟨(Pr.tok ts sz (s)).text.toArray⟩
  unfold Pr.tokV
  have HT := hide (show Pr.nameT ts sz s = (Pr.tok ts sz s).text from Pr.nameT_go hn1)
  have HN := hide (show Pr.name ts sz s = Pr.adv s from Pr.name_go hn1)
  have hbb := below_new w1 (.cells #[.int .i64 19, .int .i64 0, .int .i64 0, .string ⟨(Pr.tok ts sz s).text.toArray⟩, .int .i64 0] 41)
  have hz1 : (w1.alloc (.cells #[.int .i64 19, .int .i64 0, .int .i64 0, .string ⟨(Pr.tok ts sz s).text.toArray⟩, .int .i64 0] 41)).heap.size = w1.heap.size + 1 := by simp
  have HD1b := hide (HD1.out.below hbb)
  have HM1b := hide (HM1.out.more hbb)
  have HBX := hide (show (w1.alloc (.cells #[.int .i64 19, .int .i64 0, .int .i64 0, .string ⟨(Pr.tok ts sz s).text.toArray⟩, .int .i64 0] 41)).heap[w1.heap.size]? = some (.cells #[.int .i64 19, .int .i64 0, .int .i64 0, .string ⟨(Pr.tok ts sz s).text.toArray⟩, .int .i64 0] 41 (0, 0)) from heap_alloc_new w1 _)
  clear hbb
  cases he : Pr.is ts sz (Pr.adv s) [61]
  case false =>
    have Q := hide (skipN (s := Pr.adv s) HD1b.out hbad [61] #[61] rfl he)
    go_wp2_with fail
    refine Q.out.mono ?_
    rintro e w2 ⟨rfl, hd, hb⟩
    have HD2 := hide hd
    have HM2 := hide (HM1b.out.more hb)
    have hB := (hb.block w1.heap.size (by rw [hz1]; exact Nat.lt_succ_self _)).trans HBX.out
    have x0 : w2.cell? ⟨w1.heap.size, 0, none⟩ = some (.int .i64 19) := by simp only [World.cell?, hB]; rfl
    have x1 : w2.cell? ⟨w1.heap.size, 1, none⟩ = some (.int .i64 0) := by simp only [World.cell?, hB]; rfl
    have x2 : w2.cell? ⟨w1.heap.size, 2, none⟩ = some (.int .i64 0) := by simp only [World.cell?, hB]; rfl
    have x3 : w2.cell? ⟨w1.heap.size, 3, none⟩ = some (.string ⟨(Pr.tok ts sz s).text.toArray⟩) := by simp only [World.cell?, hB]; rfl
    have x4 : w2.cell? ⟨w1.heap.size, 4, none⟩ = some (.int .i64 0) := by simp only [World.cell?, hB]; rfl
    clear hd hb hB Q
    have Q := hide (newPart_any 19 0 0 0 ⟨(Pr.tok ts sz s).text.toArray⟩ none 0 0 w2)
    go_wp2_with fail
    refine Q.out.mono ?_
    rintro e w3 ⟨rfl, hb⟩
    have HPm := hide ((Ip.Row.nil w0.heap.size w3).made (x := ⟨19, 0, 0, ⟨(Pr.tok ts sz s).text.toArray⟩, 0⟩) rfl)
    have HD3 := hide (HD2.out.below hb)
    have HM3 := hide (HM2.out.more hb)
    clear hb Q
    go_wp2
    go_ret
    exact .inl ⟨Pr.put (Pr.name ts sz s) 19 0 0 (Pr.nameT ts sz s) 0, f, _, _, rfl, by rw [HN.out]; exact hbad, by rw [HN.out, HT.out]; simp [Pr.put], by rw [HN.out]; exact Nat.le_succ _, by rw [HN.out]; exact HD3.out, HM3.out.wide b, HPm.out, trivial, fun hc => ⟨fun u n h => .paramsL_no hbad hn (by rw [HN.out]; exact he) hc h, fun q h => .param4 hbad hn (by rw [HN.out]; exact he) hc h⟩, fun hc => .paramsL_noEnd hbad hn (by rw [HN.out]; exact he) hc⟩
  have Q := hide (skipY (s := Pr.adv s) HD1b.out [61] #[61] rfl he)
  go_wp2_with fail
  refine Q.out.mono ?_
  rintro e w2 ⟨rfl, hd, hm⟩
  have hs2 := hm.size
  rw [hz1] at hs2
  have HD2 := hide hd
  have HM2 := hide (HM1b.out.t hm)
  have hsm := HM1.out.size
  have hB := (hm.block w1.heap.size (by rw [hz1]; exact Nat.lt_succ_self _) (by omega)).trans HBX.out
  have x0 : w2.cell? ⟨w1.heap.size, 0, none⟩ = some (.int .i64 19) := by simp only [World.cell?, hB]; rfl
  have x1 : w2.cell? ⟨w1.heap.size, 1, none⟩ = some (.int .i64 0) := by simp only [World.cell?, hB]; rfl
  have x2 : w2.cell? ⟨w1.heap.size, 2, none⟩ = some (.int .i64 0) := by simp only [World.cell?, hB]; rfl
  have x3 : w2.cell? ⟨w1.heap.size, 3, none⟩ = some (.string ⟨(Pr.tok ts sz s).text.toArray⟩) := by simp only [World.cell?, hB]; rfl
  have x4 : w2.cell? ⟨w1.heap.size, 4, none⟩ = some (.int .i64 0) := by simp only [World.cell?, hB]; rfl
  clear hd hm Q
  have HBX2 := hide hB
  clear hB HBX
  have HDd := hide (HD2.out.below (Below.refl _ _).drew)
  have HMd := hide (HM2.out.more (Below.refl _ _).drew)
  have HQ := hide (ihE (Pr.adv (Pr.adv s)) (Nat.le_succ_of_le HG1.out) HDd.out.le hbad _ HDd.out)
  have HBXd := hide (show w2.drew.heap[w1.heap.size]? = _ from HBX2.out)
  clear HD2 HM2 HBX2 HD1b HM1b
  go_wp2_with fail
  go_region_law (first | (refine step_call1P rfl 65 (.tmp 11) 71 rfl (.pointer (some ⟨b, 0, none⟩)) (by simp [Act.eval, Act.put]) Tryz.f65 Tryz.func65 (by kernel_rfl) (by kernel_rfl) (fun r w' => (∃ (rr : Pr.Dk × Nat) (l : List Tr.Nd), Pr.Cv ts sz .e (Pr.adv (Pr.adv s)) rr ∧ rr.1.bad = false ∧ rr.1.out = s.out ++ l ∧ IP b tp tc ts sz rr.1.p w' ∧ Ip.Mv b w2.drew w' ∧ Ip.Pt w2.drew.heap.size w' r l)) (fun c w' => ∃ q, c = Ip.stuck q ∧ Pr.Ends ts sz .e (Pr.adv (Pr.adv s)) q ∧ Ip.Mv b w2.drew w') (HQ.out.mono (fun e w' h => h.elim (fun ⟨rr, r, l, h1, h2, h3, h4, h5, h6, h7⟩ => .inl ⟨r, h1, rr, l, h2, h3, h4, h5, h6, h7⟩) (fun ⟨q, h1, h2, h3⟩ => .inr ⟨_, h1, q, rfl, h2, h3⟩))) (fun c w' ⟨q, h1, h2, h3⟩ => ⟨rfl, .inr ⟨q, by rw [h1], .param2 hbad hn (by rw [HN.out]; exact he) (by rw [HN.out]; exact h2), (HMd.out.t h3).wide b⟩⟩) ?_; intro r3 w3 hR; obtain ⟨rr, l3, hc3, hb3, ho3, hd3, hm3, hp3⟩ := hR; obtain ⟨t3, u3, rfl⟩ := hp3.iface; have hs3 := hm3.size; have hB3 := (hm3.block w1.heap.size (by show w1.heap.size < w2.heap.size; omega) (by omega)).trans HBXd.out; have y0 : w3.cell? ⟨w1.heap.size, 0, none⟩ = some (.int .i64 19) := (by simp only [World.cell?, hB3]; rfl); have y1 : w3.cell? ⟨w1.heap.size, 1, none⟩ = some (.int .i64 0) := (by simp only [World.cell?, hB3]; rfl); have y2 : w3.cell? ⟨w1.heap.size, 2, none⟩ = some (.int .i64 0) := (by simp only [World.cell?, hB3]; rfl); have y3 : w3.cell? ⟨w1.heap.size, 3, none⟩ = some (.string ⟨(Pr.tok ts sz s).text.toArray⟩) := (by simp only [World.cell?, hB3]; rfl); have y4 : w3.cell? ⟨w1.heap.size, 4, none⟩ = some (.int .i64 0) := (by simp only [World.cell?, hB3]; rfl); have hA3 := (Below.heap_alloc w3 (.cells #[.iface t3 u3] 46) w1.heap.size (by have : w2.drew.heap.size = w2.heap.size := rfl; omega)).trans hB3; have z0 : (w3.alloc (.cells #[.iface t3 u3] 46)).cell? ⟨w1.heap.size, 0, none⟩ = some (.int .i64 19) := (by simp only [World.cell?, hA3]; rfl); have z1 : (w3.alloc (.cells #[.iface t3 u3] 46)).cell? ⟨w1.heap.size, 1, none⟩ = some (.int .i64 0) := (by simp only [World.cell?, hA3]; rfl); have z2 : (w3.alloc (.cells #[.iface t3 u3] 46)).cell? ⟨w1.heap.size, 2, none⟩ = some (.int .i64 0) := (by simp only [World.cell?, hA3]; rfl); have z3 : (w3.alloc (.cells #[.iface t3 u3] 46)).cell? ⟨w1.heap.size, 3, none⟩ = some (.string ⟨(Pr.tok ts sz s).text.toArray⟩) := (by simp only [World.cell?, hA3]; rfl); have z4 : (w3.alloc (.cells #[.iface t3 u3] 46)).cell? ⟨w1.heap.size, 4, none⟩ = some (.int .i64 0) := (by simp only [World.cell?, hA3]; rfl); have HC3 := hide hc3; have HO3 := hide ho3; have HD3 := hide hd3; have HM3 := hide (HMd.out.t hm3); have HP3 := hide (hp3.low (lo' := w0.heap.size) HMd.out.size); clear hc3 ho3 hd3 hm3 hp3 hB3 hA3) | (refine step_call2P rfl 37 (.tmp 10) (.tmp 13) 41 75 rfl (.agg #[.int .i64 19, .int .i64 0, .int .i64 0, .string ⟨(Pr.tok ts sz s).text.toArray⟩, .int .i64 0]) (.slice (some ⟨w3.heap.size, 0, none⟩) 1 1) (by simp [Act.eval]) (by simp [Act.eval]) Tryz.f37 Tryz.func37 (by kernel_rfl) (by kernel_rfl) _ _ (newPart_any 19 0 0 0 ⟨(Pr.tok ts sz s).text.toArray⟩ (some ⟨w3.heap.size, 0, none⟩) 1 1 (w3.alloc (.cells #[.iface t3 u3] 46))) ?_; intro w4 hb4; have hr : Ip.Row w0.heap.size (w3.alloc (.cells #[.iface t3 u3] 46)) (.slice (some ⟨w3.heap.size, 0, none⟩) 1 1) 1 l3 := (Ip.some1 HP3.out).row HM3.out.size (by simp); have HPm := hide ((hr.below hb4).made (x := ⟨19, 0, 0, ⟨(Pr.tok ts sz s).text.toArray⟩, 1⟩) rfl); have hbb := below_lit hb4; have HD4 := hide (HD3.out.below hbb); have HM4 := hide (HM3.out.more hbb); clear hr hb4 hbb))
  all_goals
    go_wp2
    go_ret
    exact .inl ⟨Pr.put rr.1 19 0 0 (Pr.nameT ts sz s) 1, f, _, _, rfl, hb3, by rw [HT.out]; simp [Pr.put, HO3.out], by have := (HC3.out.stp HDd.out.le).ge; simp at this; exact Nat.le_trans (by omega) this, HD4.out, HM4.out.wide b, HPm.out, trivial, fun hc => ⟨fun u n h => .paramsL_val hbad hn (by rw [HN.out]; exact he) hc (by rw [HN.out]; exact HC3.out) h, fun q h => .param3 hbad hn (by rw [HN.out]; exact he) (by rw [HN.out]; exact HC3.out) hc h⟩, fun hc => .paramsL_valEnd hbad hn (by rw [HN.out]; exact he) hc (by rw [HN.out]; exact HC3.out)⟩

set_option maxRecDepth 100000 in
set_option maxHeartbeats 2000000 in
theorem fields_any {b tc sz m : Nat} {tp : Option Addr} {ts : List Sc.T} (ihE : ∀ q : Pr.Dk, m ≤ q.p → q.p ≤ ts.length → q.bad = false → Ip.DE b tp tc ts sz q) :
    Ip.Items b tp tc ts sz b 0 m (fun _ _ => True) (fun i _ s t n => Pr.Cv ts sz (.recordL i) s (t, 2 * n)) (fun i _ s q => Pr.Ends ts sz (.recordL i) s q) (fun d => Pr.is ts sz d [125]) 128 (#[.pointer (some ⟨b, 0, none⟩)] ++ #[]) := by
  intro i f s hn hm0 _ hbad w0 _ hd0 _
  have hlt := hd0.lt
  have hmost := hd0.most
  have HD0 := hide hd0
  have HM0 := hide (Ip.Mv.refl b w0)
  have HG0 := hide (show m ≤ s.p from hm0)
  clear hd0
  show Calls Tryz.prog 128 #[.pointer (some ⟨b, 0, none⟩)] w0 _
  have hf0 := tokField0 (Pr.tok ts sz s).kind (Pr.tok ts sz s).n (Pr.tok ts sz s).place ⟨(Pr.tok ts sz s).text.toArray⟩
  have hf1 := tokField1 (Pr.tok ts sz s).kind (Pr.tok ts sz s).n (Pr.tok ts sz s).place ⟨(Pr.tok ts sz s).text.toArray⟩
  have QN := hide (inext_any (s := s) HD0.out)
  cases hk : ((Pr.tok ts sz s).kind == 4)
  case true =>
    have hkb : (((Pr.tok ts sz s).kind : Int) == 4) = true := by simp at hk; rw [hk]; rfl
    have hkk : ((Pr.tok ts sz s).kind == 1 || (Pr.tok ts sz s).kind == 4) = true := by rw [hk]; simp
    go_enter Tryz.func128, Tryz.ntmps128
    go_wp2_with fail
    refine QN.out.mono ?_
    rintro e w1 ⟨rfl, hb⟩
    have HD1 := hide (HD0.out.below hb)
    have HM1 := hide (HM0.out.more hb)
    have HG1 := hide HG0.out
    clear hb QN
    unfold Pr.tokV
    have Q := hide (itakeY (s := s) HD1.out 4 (by decide) (by simpa using hk))
    go_wp2_with fail
    refine Q.out.mono ?_
    rintro e w2 ⟨rfl, hd, hm⟩
    have HD2 := hide (show IP b tp tc ts sz (Pr.adv s).p w2 from hd)
    have HM2 := hide (HM1.out.t hm)
    have HG2 := hide (show m ≤ (Pr.adv s).p from Nat.le_succ_of_le HG1.out)
    clear hd hm Q
    unfold Pr.tokV
    cases hw3 : Pr.is ts sz (Pr.adv s) [58]
    case false =>
      have hB := Pr.Bd.need_of (ts := ts) (sz := sz) (s := Pr.adv s) hbad hw3
      have HE := hide (show Pr.Ends ts sz (.recordL i) s (Pr.tok ts sz (Pr.adv s)).place from .field1 hbad hn hkk hB.e)
      have Q := hide (wantN (s := Pr.adv s) HD2.out hbad [58] #[58] rfl hw3)
      clear hB
      go_wp2_with fail
      refine Q.out.mono ?_
      rintro e w3 ⟨rfl, hm⟩
      exact ⟨rfl, .inr ⟨_, rfl, HE.out, (HM2.out.t hm).wide b⟩⟩
    have Q := hide (wantY (s := Pr.adv s) HD2.out [58] #[58] rfl hw3)
    go_wp2_with fail
    refine Q.out.mono ?_
    rintro e w3 ⟨rfl, hd, hm⟩
    have HD3 := hide (show IP b tp tc ts sz (Pr.adv (Pr.adv s)).p w3 from hd)
    have HM3 := hide (HM2.out.t hm)
    have HG3 := hide (show m ≤ (Pr.adv (Pr.adv s)).p from Nat.le_succ_of_le HG2.out)
    clear hd hm Q
    have Q := hide (ihE (Pr.adv (Pr.adv s)) HG3.out HD3.out.le hbad _ HD3.out)
    go_wp2_with fail
    refine Q.out.mono ?_
    rintro e w4 (⟨r1, v1, l1, rfl, hc, hb1, ho, hd, hm, hp⟩ | ⟨q, rfl, hq, hm⟩)
    rotate_left
    · exact ⟨rfl, .inr ⟨_, rfl, .field1 hbad hn hkk (by rw [Pr.need_go hw3]; exact hq), (HM3.out.t hm).wide b⟩⟩
    obtain ⟨t1, u1, rfl⟩ := hp.iface
    have HC1 := hide hc
    have HO1 := hide ho
    have HPn := hide (hp.low HM3.out.size)
    clear ho hp
    have HD4 := hide (show IP b tp tc ts sz (r1.1).p w4 from hd)
    have HM4 := hide (HM3.out.t hm)
    have HG4 := hide (show m ≤ (r1.1).p from Nat.le_trans HG3.out (hc.stp HD3.out.le).ge)
    clear hd hm Q
    clear hc
    have HP1_4 := hide HPn.out
    clear HPn
    have Q := hide (newPart_any 17 0 0 0 ⟨(Pr.tok ts sz s).text.toArray⟩ (some ⟨w4.heap.size, 0, none⟩) 1 1 (w4.alloc (.cells #[.iface t1 u1] 46)))
    go_wp2_with fail
    refine Q.out.mono ?_
    rintro e w5 ⟨rfl, hb⟩
    have hr : Ip.Row w0.heap.size (w4.alloc (.cells #[.iface t1 u1] 46)) (.slice (some ⟨w4.heap.size, 0, none⟩) 1 1) 1 (l1) := (Ip.some1 HP1_4.out).row HM4.out.size (by simp)
    have HPm := hide ((hr.below hb).made (x := ⟨17, 0, 0, ⟨(Pr.tok ts sz s).text.toArray⟩, 1⟩) rfl)
    clear hr
    have hbb := below_lit hb
    have HD5 := hide (HD4.out.below hbb)
    have HM5 := hide (HM4.out.more hbb)
    clear hb hbb Q
    go_wp2
    go_ret
    exact .inl ⟨Pr.put r1.1 17 0 0 (Pr.tok ts sz s).text 1, f, _, _, rfl, hb1, by simp [Pr.put, HO1.out], by have := (HC1.out.stp HD3.out.le).ge; simp at this; exact Nat.le_trans (by omega) this, HD5.out, HM5.out.wide b, HPm.out, trivial, fun hc => ⟨fun u n h => .recordL_go hbad hn hkk hc (by rw [Pr.need_go hw3]; exact HC1.out) h, fun q h => .field2 hbad hn hkk (by rw [Pr.need_go hw3]; exact HC1.out) hc h⟩, fun hc => .recordL_last hbad hn hkk hc (by rw [Pr.need_go hw3]; exact HC1.out)⟩
  have hkb : (((Pr.tok ts sz s).kind : Int) == 4) = false := by simp at hk ⊢; omega
  have hk4 := hk
  clear hk
  cases hk : ((Pr.tok ts sz s).kind == 1)
  case true =>
    have hkk : ((Pr.tok ts sz s).kind == 1 || (Pr.tok ts sz s).kind == 4) = true := by rw [hk]; simp
    go_enter Tryz.func128, Tryz.ntmps128
    go_wp2_with fail
    refine QN.out.mono ?_
    rintro e w1 ⟨rfl, hb⟩
    have HD1 := hide (HD0.out.below hb)
    have HM1 := hide (HM0.out.more hb)
    have HG1 := hide HG0.out
    clear hb QN
    unfold Pr.tokV
    have Q := hide (itakeY (s := s) HD1.out 1 (by decide) (by simpa using hk))
    go_wp2_with fail
    refine Q.out.mono ?_
    rintro e w2 ⟨rfl, hd, hm⟩
    have HD2 := hide (show IP b tp tc ts sz (Pr.adv s).p w2 from hd)
    have HM2 := hide (HM1.out.t hm)
    have HG2 := hide (show m ≤ (Pr.adv s).p from Nat.le_succ_of_le HG1.out)
    clear hd hm Q
    unfold Pr.tokV
    cases hw3 : Pr.is ts sz (Pr.adv s) [58]
    case false =>
      have hB := Pr.Bd.need_of (ts := ts) (sz := sz) (s := Pr.adv s) hbad hw3
      have HE := hide (show Pr.Ends ts sz (.recordL i) s (Pr.tok ts sz (Pr.adv s)).place from .field1 hbad hn hkk hB.e)
      have Q := hide (wantN (s := Pr.adv s) HD2.out hbad [58] #[58] rfl hw3)
      clear hB
      go_wp2_with fail
      refine Q.out.mono ?_
      rintro e w3 ⟨rfl, hm⟩
      exact ⟨rfl, .inr ⟨_, rfl, HE.out, (HM2.out.t hm).wide b⟩⟩
    have Q := hide (wantY (s := Pr.adv s) HD2.out [58] #[58] rfl hw3)
    go_wp2_with fail
    refine Q.out.mono ?_
    rintro e w3 ⟨rfl, hd, hm⟩
    have HD3 := hide (show IP b tp tc ts sz (Pr.adv (Pr.adv s)).p w3 from hd)
    have HM3 := hide (HM2.out.t hm)
    have HG3 := hide (show m ≤ (Pr.adv (Pr.adv s)).p from Nat.le_succ_of_le HG2.out)
    clear hd hm Q
    have Q := hide (ihE (Pr.adv (Pr.adv s)) HG3.out HD3.out.le hbad _ HD3.out)
    go_wp2_with fail
    refine Q.out.mono ?_
    rintro e w4 (⟨r1, v1, l1, rfl, hc, hb1, ho, hd, hm, hp⟩ | ⟨q, rfl, hq, hm⟩)
    rotate_left
    · exact ⟨rfl, .inr ⟨_, rfl, .field1 hbad hn hkk (by rw [Pr.need_go hw3]; exact hq), (HM3.out.t hm).wide b⟩⟩
    obtain ⟨t1, u1, rfl⟩ := hp.iface
    have HC1 := hide hc
    have HO1 := hide ho
    have HPn := hide (hp.low HM3.out.size)
    clear ho hp
    have HD4 := hide (show IP b tp tc ts sz (r1.1).p w4 from hd)
    have HM4 := hide (HM3.out.t hm)
    have HG4 := hide (show m ≤ (r1.1).p from Nat.le_trans HG3.out (hc.stp HD3.out.le).ge)
    clear hd hm Q
    clear hc
    have HP1_4 := hide HPn.out
    clear HPn
    have Q := hide (newPart_any 17 0 0 0 ⟨(Pr.tok ts sz s).text.toArray⟩ (some ⟨w4.heap.size, 0, none⟩) 1 1 (w4.alloc (.cells #[.iface t1 u1] 46)))
    go_wp2_with fail
    refine Q.out.mono ?_
    rintro e w5 ⟨rfl, hb⟩
    have hr : Ip.Row w0.heap.size (w4.alloc (.cells #[.iface t1 u1] 46)) (.slice (some ⟨w4.heap.size, 0, none⟩) 1 1) 1 (l1) := (Ip.some1 HP1_4.out).row HM4.out.size (by simp)
    have HPm := hide ((hr.below hb).made (x := ⟨17, 0, 0, ⟨(Pr.tok ts sz s).text.toArray⟩, 1⟩) rfl)
    clear hr
    have hbb := below_lit hb
    have HD5 := hide (HD4.out.below hbb)
    have HM5 := hide (HM4.out.more hbb)
    clear hb hbb Q
    go_wp2
    go_ret
    exact .inl ⟨Pr.put r1.1 17 0 0 (Pr.tok ts sz s).text 1, f, _, _, rfl, hb1, by simp [Pr.put, HO1.out], by have := (HC1.out.stp HD3.out.le).ge; simp at this; exact Nat.le_trans (by omega) this, HD5.out, HM5.out.wide b, HPm.out, trivial, fun hc => ⟨fun u n h => .recordL_go hbad hn hkk hc (by rw [Pr.need_go hw3]; exact HC1.out) h, fun q h => .field2 hbad hn hkk (by rw [Pr.need_go hw3]; exact HC1.out) hc h⟩, fun hc => .recordL_last hbad hn hkk hc (by rw [Pr.need_go hw3]; exact HC1.out)⟩
  have hkk : ((Pr.tok ts sz s).kind == 1 || (Pr.tok ts sz s).kind == 4) = false := by rw [hk, hk4]; rfl
  go_enter Tryz.func128, Tryz.ntmps128
  go_wp2_with fail
  refine QN.out.mono ?_
  rintro e w1 ⟨rfl, hb⟩
  have HD1 := hide (HD0.out.below hb)
  have HM1 := hide (HM0.out.more hb)
  clear hb QN
  unfold Pr.tokV
  have Q := hide (itakeN (s := s) HD1.out 1 (by simpa using hk))
  go_wp2_with fail
  refine Q.out.mono ?_
  rintro e w2 ⟨rfl, hm⟩
  exact ⟨rfl, .inr ⟨_, rfl, .field3 hbad hn hkk, (HM1.out.t hm).wide b⟩⟩

end Go.Proofs.YtfjoecbkagedbaaGreatDoor
namespace Go.Proofs.YtfjoecbkagedbaaGreatDoor
open Go.RowKit

/-- No two of the nodes at these places have one text. -/
def Tr.apart (ns : List Tr.Nd) (ls : List Nat) : Bool := decide (∀ i (h : i < ls.length) k (h' : k < i), (ns[ls[k]]?.map (·.text)) ≠ (ns[ls[i]]?.map (·.text)))
theorem Tr.apart_true {ns : List Tr.Nd} {ls : List Nat} (h : ∀ i (h : i < ls.length) k (h' : k < i), (ns[ls[k]]?.map (·.text)) ≠ (ns[ls[i]]?.map (·.text))) : Tr.apart ns ls = true := by
  unfold Tr.apart; exact decide_eq_true h
theorem Tr.apart_false {ns : List Tr.Nd} {ls : List Nat} {i k : Nat} (hi : i < ls.length) (hk : k < i) (h : (ns[ls[k]]?.map (·.text)) = (ns[ls[i]]?.map (·.text))) : Tr.apart ns ls = false := by
  unfold Tr.apart; exact decide_eq_false fun q => q i hi k hk h

set_option maxRecDepth 100000 in
set_option maxHeartbeats 1000000 in
theorem apart_any (ns : List Tr.Nd) (ls : List Nat) (tg tc g o c : Nat) (w : World) (hl : ls.length ≤ 1048576) (ht : NodesAt w tg ns) (hi : IntsAt w g o ls) (hin : ∀ x ∈ ls, x < ns.length) :
    Calls Tryz.prog 58 #[.agg #[.slice (some ⟨tg, 0, none⟩) ns.length tc], .slice (some ⟨g, o, none⟩) ls.length c] w fun e w' => e = .returned (.bool (Tr.apart ns ls)) ∧ Below w.heap.size w w' := by
  have r1 : Below w.heap.size w (w.alloc (.cells #[.slice (some ⟨tg, 0, none⟩) ns.length tc] 24)) := (Below.refl _ _).alloc (Nat.le_refl _) _
  have HT := hide ht
  have HI := hide hi
  have HIN := hide hin
  clear ht hi hin
  go_enter Tryz.func58, Tryz.ntmps58
  go_wp2
  go_loopw [5] (fun t wr => ∃ i : Nat, i ≤ ls.length ∧ t = .int .i64 i ∧ Below w.heap.size w wr ∧ w.heap.size < wr.heap.size ∧ wr.cell? ⟨w.heap.size, 0, none⟩ = some (.slice (some ⟨tg, 0, none⟩) ns.length tc) ∧ (∀ j (h : j < ls.length) k (h' : k < j), j < i → (ns[ls[k]]?.map (·.text)) ≠ (ns[ls[j]]?.map (·.text)))) (fun t _ => ls.length - (intOf t).toNat)
  case atStart => exact ⟨0, Nat.zero_le _, rfl, r1, by simp, by simp, fun j _ k _ h => by omega⟩
  case round =>
    obtain ⟨i, hil, rfl, hB, hlt0, hc0, he⟩ := hrel
    have HE := hide he
    clear he
    by_cases hlt : i < ls.length
    · have hI := HI.out.2 i hlt
      have hx : ls[i] < ns.length := HIN.out _ (List.getElem_mem _)
      obtain ⟨_, _, _, hN, _⟩ := HT.out.2 ls[i] hx
      have hxi := hide (show ns[ls[i]]?.map (·.text) = some ns[ls[i]].text by simp [hx])
      go_wp2
      go_loopw [6] (fun t wr => ∃ k : Nat, k ≤ i ∧ t = .int .i64 k ∧ Below w.heap.size w wr ∧ w.heap.size < wr.heap.size ∧ wr.cell? ⟨w.heap.size, 0, none⟩ = some (.slice (some ⟨tg, 0, none⟩) ns.length tc) ∧ (∀ j (h : j < ls.length), j < k → (ns[ls[j]]?.map (·.text)) ≠ (ns[ls[i]]?.map (·.text)))) (fun t _ => i - (intOf t).toNat)
      case atStart => exact ⟨0, Nat.zero_le _, rfl, hB, hlt0, hc0, fun j _ h => by omega⟩
      case round =>
        obtain ⟨k, hk, rfl, hB2, hlt2, hc2, he2⟩ := hrel
        have HE2 := hide he2
        clear he2
        by_cases hki : k < i
        · have hkl : k < ls.length := by omega
          have hK := HI.out.2 k hkl
          have hy : ls[k] < ns.length := HIN.out _ (List.getElem_mem _)
          obtain ⟨_, _, _, hM, _⟩ := HT.out.2 ls[k] hy
          have hyi := hide (show ns[ls[k]]?.map (·.text) = some ns[ls[k]].text by simp [hy])
          have a0 := (hB2.cell (p := ⟨g, o + i, none⟩) HI.out.1).trans hI
          have a1 := (hB2.cell (p := ⟨g, o + k, none⟩) HI.out.1).trans hK
          have a2 := (hB2.cell (p := ⟨tg, ls[i] * 5 + 3, none⟩) HT.out.1).trans hN
          have a3 := (hB2.cell (p := ⟨tg, ls[k] * 5 + 3, none⟩) HT.out.1).trans hM
          have HXX := hide (show (ns[ls[k]]?.map (·.text) = ns[ls[i]]?.map (·.text)) ↔ (ns[ls[k]].text = ns[ls[i]].text) by rw [hxi.out, hyi.out]; simp)
          generalize ns[ls[k]].text = tk at *
          generalize ns[ls[i]].text = ti at *
          generalize hlk : ls[k] = xk at *
          generalize hli : ls[i] = xi at *
          clear hxi hyi hI hK hN hM
          have HLK := hide hlk
          have HLI := hide hli
          clear hlk hli
          cases hq : (tk.toList == ti.toList)
          · go_wp2
            go_quiet (fail)
            go_wp2
            go_roundw
            case rel =>
              refine ⟨k + 1, by omega, by go_num, below_drewN hB2 _, hlt2, hc2, ?_⟩
              intro j hj hjk
              by_cases e : j = k
              · subst e
                rw [HLK.out]
                intro h
                have := HXX.out.1 h
                rw [this] at hq; simp at hq
              · exact HE2.out j hj (by omega)
            case measure => simp [intOf]; omega
          · go_wp2
            go_quiet (fail)
            go_wp2
            go_ret
            refine ⟨ret_bool ?_, below_drewN hB2 _⟩
            refine (Tr.apart_false hlt hki ?_).symm
            rw [HLK.out, HLI.out]
            refine HXX.out.2 ?_
            have e2 : tk.toList = ti.toList := by simpa using hq
            rw [Lib.toList_data, Lib.toList_data] at e2
            exact ByteArray.ext (Array.toList_inj.1 e2)
        · go_wp2
          go_roundw
          case rel =>
            refine ⟨i + 1, by omega, by go_num, hB2, hlt2, hc2, ?_⟩
            intro j hj k' hk' hji
            by_cases e : j = i
            · subst e; exact HE2.out k' (by omega) (by omega)
            · exact HE.out j hj k' hk' (by omega)
          case measure => simp [intOf]; omega
    · go_wp2
      go_ret
      refine ⟨ret_bool ?_, hB⟩
      exact (Tr.apart_true fun j hj k hk => HE.out j hj k hk (by omega)).symm
end Go.Proofs.YtfjoecbkagedbaaGreatDoor
