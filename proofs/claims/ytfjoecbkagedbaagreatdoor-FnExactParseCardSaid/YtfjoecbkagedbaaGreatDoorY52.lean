/- La3. -/
import Derived.Test.YtfjoecbkagedbaaGreatDoorCards
import Derived.Test.YtfjoecbkagedbaaGreatDoorTie
import Derived.Test.YtfjoecbkagedbaaGreatDoorY51
import Derived.ProofKit
import Derived.LaidMore
import Derived.OpenShut
import Derived.OpenVars
import Derived.Stop.Joined
import Derived.Stop.LaidErr
namespace Go.Proofs.YtfjoecbkagedbaaGreatDoor
open Go.ChangeShapes Go.WideShapes Go.ChangeAt Go.RowKit Go.ChangeMaps
theorem own : ownKnob Tryz.prog.godebug = none := by kernel_rfl
theorem laidOut : laidOutB Tryz.prog = true := by kernel_rfl
theorem cellsStr : Tryz.prog.cellsOf 9 = 1 := by kernel_rfl
theorem cellsInt : Tryz.prog.cellsOf 3 = 1 := by kernel_rfl
theorem cellsForm : Tryz.prog.cellsOf 154 = 2 := by kernel_rfl
theorem iface_cell {P : Program} {n nm : String} {d : DataW Unit} {r : List (String × DataW Unit)} {W : World} {g : Nat} {ti : TypeId} {ms : Array (String × TypeId)}
    (h : laidMet P ((n, .iface nm d) :: r) W) (hg : P.globalNamed n = some g) (ht : (P.globals[g]?).map (·.type) = some ti) (hi : P.underlying ti = some (.interface ms)) :
    ∃ u v, W.cell? ⟨g, 0, none⟩ = some (.iface u v) := by
  obtain ⟨ps, ⟨g0, t0, cs0, f0, p0, q0, hg0, ht0, hv0, hd0, _, e0⟩, _, hrows⟩ := h
  obtain rfl := Option.some.inj (hg.symm.trans hg0)
  obtain rfl := Option.some.inj (ht.symm.trans ht0)
  obtain ⟨f1, u, v, hcs, _, _⟩ := iface_of_trod hi hd0
  refine ⟨u, v, ?_⟩
  have := World.var?_cell hg0 hv0 0
  rw [Array.eq_one_of_toList hcs] at this
  simpa using this
theorem gRange : Tryz.prog.globalNamed "strconv.ErrRange" = some 3 := by kernel_rfl
theorem gSyntax : Tryz.prog.globalNamed "strconv.ErrSyntax" = some 2 := by kernel_rfl
theorem gForms : Tryz.prog.globalNamed "loop.example/kilnclay/impl.opForms" = some 0 := by kernel_rfl
theorem tRange : (Tryz.prog.globals[3]?).map (·.type) = some 144 := by kernel_rfl
theorem tSyntax : (Tryz.prog.globals[2]?).map (·.type) = some 144 := by kernel_rfl
theorem tForms : (Tryz.prog.globals[0]?).map (·.type) = some 155 := by kernel_rfl
theorem lit_forms : Rows.laid_loop_example_kilnclay_impl_opForms = DataW.agg (H := Unit) ((List.range 15).map fun o => .agg [.lit (.string (Pr.mark o)), .lit (.int .i64 (Pr.rank o : Nat))]) := rfl
theorem forms_of {r : List (String × DataW Unit)} {W : World} (h : laidMet Tryz.prog (("loop.example/kilnclay/impl.opForms", Rows.laid_loop_example_kilnclay_impl_opForms) :: r) W) : Ip.Glob W := by
  obtain ⟨ps, ⟨g0, t0, cs0, f0, p0, q0, hg0, ht0, hv0, hd0, _, e0⟩, _, hrows⟩ := h
  obtain rfl := Option.some.inj (gForms.symm.trans hg0)
  obtain rfl := Option.some.inj (tForms.symm.trans ht0)
  rw [lit_forms] at hd0
  obtain ⟨xs, m, _, hx, hl, hxl, hall⟩ := DataW.trod_array Tryz.underlying155 hd0
  have hmap : (List.range 15).map (fun o => (DataW.agg [.lit (.string (Pr.mark o)), .lit (.int .i64 (Pr.rank o : Nat))] : DataW Unit)) = xs.map (·.1) := by
    have := congrArg Prod.fst hx
    injection this
  intro o ho
  have ho15 : o < 15 := by omega
  have hq := hall o ho15
  rw [cellsForm, List.getElem?_eq_getElem (by omega)] at hq
  obtain ⟨y0, y1, k, hy, hlen, h0, h1⟩ := trod_struct2 Tryz.underlying154 hq
  have hm : ((List.range 15).map (fun o => (DataW.agg [.lit (.string (Pr.mark o)), .lit (.int .i64 (Pr.rank o : Nat))] : DataW Unit)))[o]? = (xs.map (·.1))[o]? := by rw [hmap]
  rw [List.getElem?_map, List.getElem?_map, List.getElem?_range ho15, List.getElem?_eq_getElem (by omega), hy] at hm
  simp only [cellsStr, cellsInt] at h0 h1
  obtain ⟨s, hs, hxs, _⟩ := DataW.trod_string Tryz.underlying9 h0
  obtain ⟨n, hn, hxn, _⟩ := DataW.trod_int Tryz.underlying3 h1
  subst hxs hxn
  simp only [Option.map_some, Option.some.injEq, DataW.agg.injEq, List.cons.injEq, DataW.lit.injEq, Lit.string.injEq, Lit.int.injEq, and_true, true_and] at hm
  have hsb : s = ⟨(Pr.mark o).toArray⟩ := ByteArray.ext (Array.toList_inj.1 (by rw [← hm.1]))
  have c0 : cs0.toList[o * 2]? = some (.string s) := by
    have h1 : ((((cs0.toList.drop (o * 2)).take 2).drop 0).take 1)[0]? = some (.string s) := by rw [hs]; rfl
    simpa [List.getElem?_take, List.getElem?_drop] using h1
  have c1 : cs0.toList[o * 2 + 1]? = some (.int .i64 n) := by
    have h1 : ((((cs0.toList.drop (o * 2)).take 2).drop 1).take 1)[0]? = some (.int .i64 n) := by rw [hn]; rfl
    simpa [List.getElem?_take, List.getElem?_drop] using h1
  refine ⟨?_, ?_⟩
  · rw [World.var?_cell gForms hv0 (o * 2), ← hsb]; simpa using c0
  · rw [World.var?_cell gForms hv0 (o * 2 + 1), hm.2]; simpa using c1
theorem globs_of {W : World} (h : laidMetH Tryz.prog Rows.fnExactParseRow.laid W) : Glob W ∧ Ip.Glob W := by
  rw [MakeChecks.laidMetH_plain _ _ _ (by kernel_rfl)] at h
  have h3 := h.tail.tail.tail
  obtain ⟨u2, v2, c2⟩ := iface_cell h3 gRange tRange Tryz.underlying144
  obtain ⟨u1, v1, c1⟩ := iface_cell h3.tail gSyntax tSyntax Tryz.underlying144
  exact ⟨⟨⟨u1, v1, c1⟩, ⟨u2, v2, c2⟩, World.block_lt_of_cell? W ⟨3, 0, none⟩ c2⟩, forms_of h3.tail.tail⟩
theorem door_met (os : Os) (args : Array Value) : laidMetH Tryz.prog Rows.fnExactParseRow.laid ((World.doorLaid Tryz.prog 218 os).forCall (fun _ _ => 0) ⟨#[], args, []⟩).memory :=
  laidMetH_of_parts3 (fuel := 8) (laidMet_of_run' 8 (by kernel_rfl) (by kernel_rfl)) (by kernel_rfl) (by kernel_rfl)
set_option maxRecDepth 100000 in
set_option maxHeartbeats 1000000 in
theorem liftedP (os : Os) (started : os.Started) (H : Type) (enc : TypeId × Value → H) :
    ReturnsInHanded {} Tryz.checked os 3 .any (fun w args => (Rows.fnExactParseSpec.pre enc Tryz.prog Tryz.f3 [] false w args ∧ laidMetH Tryz.prog Rows.fnExactParseRow.laid w) ∧ sizedMet enc Tryz.prog Tryz.f3 (OpenSpec.ofChange Rows.fnExactParseSpec) false w args)
      (Rows.fnExactParseSpec.post enc Tryz.prog Tryz.f3 false true false false) := by
  refine returnsInHanded_of_change_and (C := Tryz.checked) (X := fun w _ => laidMetH Tryz.prog Rows.fnExactParseRow.laid w) (fun _ _ _ hh h => h.of_heap hh) own started (by kernel_rfl) Tryz.func3
    (ChangeSpec.witness_shaped (enc := enc) (C := Tryz.checked) (os := os) (X := fun w _ => laidMetH Tryz.prog Rows.fnExactParseRow.laid w) false (World.doorLaid Tryz.prog 218 os) #[.string ⟨#[]⟩] 8 rfl (World.shaped_of_RefB (by kernel_rfl) (by kernel_rfl)) (by kernel_rfl) (by kernel_rfl) (by kernel_rfl) (door_met os _)) ?_
  intro W base args ds gs before hval0 hW _ _ hL _
  have hval : ∀ (j : Nat) t v, Tryz.f3.params[j]? = some t → args[j]? = some v → Value.okWide Tryz.prog W .any base t v := hval0
  have hW' := hW
  obtain ⟨p, q, hA0, hV, rfl, hfz, hnd⟩ := hW
  have hA : DataW.TrodAll enc Tryz.prog W 0 (fun _ => true) true Tryz.f3.params.toList args.toList ds p := hA0
  rw [Tryz.params3] at hA hval
  obtain ⟨v0, d0, rfl, rfl, h0⟩ := trodAll_one hA
  have hVk : DataW.TrodVars enc Tryz.prog W (fun _ => true) ["loop.example/kilnclay/impl.opForms"] gs q := hV
  obtain ⟨_, _, _, _, dg, _, rfl, _⟩ := trodVars_one hVk
  obtain ⟨s, rfl, rfl, rfl, ws⟩ := open_string Tryz.underlying9 (hval 0 9 v0 rfl rfl) h0
  have hG := globs_of hL
  clear hA0 hval0 hL
  refine (lawP_any s W (by unfold maxLen at ws; omega) hG.1 hG.2).mono fun e W' ⟨he, hb⟩ => ?_
  subst he
  exact ⟨_, rfl, [.lit (.string s.data.toList)], [dg], _, [], [], q, hW', trodAll_mk1 (shut_bool Tryz.underlying4 _), trodAll_mk1 (shut_string Tryz.underlying9 ws), Below.trodVars laidOut hb (by kernel_rfl) hVk, hb.frame _, fun h => by cases h⟩
theorem saidP : Rows.FnExactParseSaid :=
  OpenClaim.holds_of_wide 3 Tryz.f3 rfl rfl rfl rfl rfl rfl rfl ⟨rfl, rfl, rfl, rfl, rfl⟩ rfl rfl rfl rfl rfl (by kernel_rfl) Tryz.func3 (by kernel_rfl)
    (of_decide_eq_true (by kernel_rfl)) (by unfold Func.isWrapper; first | (rw [if_pos (by decide +kernel)]; kernel_rfl) | (rw [if_neg (by decide +kernel)]; exact ⟨rfl, rfl⟩))
    (fun os started H enc _ => liftedP os started H enc)
theorem plainP (f : FuncId) (fn : Func) (hf : Tryz.pinned.checked.prog.funcNamed Rows.fnExactParseRow.func = some f) (hfn : Tryz.pinned.checked.prog.funcs[f]? = some fn) :
    true = Tryz.pinned.checked.prog.looks [] ∧ ∀ (j : Nat) t, fn.params[j]? = some t → Tryz.pinned.checked.prog.wantsStandIn t = false := by
  obtain rfl : f = 3 := Option.some.inj ((show Tryz.prog.funcNamed Rows.fnExactParseRow.func = some 3 by kernel_rfl).symm.trans hf) |>.symm
  obtain rfl : fn = Tryz.f3 := (Option.some.inj (Tryz.func3.symm.trans hfn)).symm
  refine ⟨by kernel_rfl, fun j t ht => ?_⟩
  rw [Tryz.params3] at ht
  obtain rfl : t = 9 := by simpa using Array.mem_of_getElem? ht
  exact (show Tryz.prog.wantsStandIn 9 = false by kernel_rfl)
theorem cardP : Rows.FnExactParseCardSaid :=
  Claim7.holds_tied_plain_at .later [] _ _ _ _ saidP (fun _ h => by cases h) (by kernel_rfl) (fun _ h => by cases h) fnExactParse_row_tie rfl ⟨rfl, rfl⟩ (by kernel_rfl) rfl plainP (by kernel_rfl)
#print axioms cardP
end Go.Proofs.YtfjoecbkagedbaaGreatDoor
