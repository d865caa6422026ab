/- Joined: Rh, Ri. -/
import Derived.Test.YthjilpnipidababDoorRg
import Derived.Test.YthjilpnipidababDoorRk
import Derived.Test.YthjilpnipidababDoorNp
namespace Go.Proofs.YthjilpnipidababDoor
open Go.RowKit

set_option maxRecDepth 100000 in
set_option maxHeartbeats 2000000 in
theorem lawR_any (l : List Tr.Nd) (v : Value) (at_ : Int) (nm : ByteArray) (w : World) (hl : l.length ≤ 9223372036854775807) (hx : ∀ x ∈ l, x.text.size ≤ 9223372036854775807) (hwf : (Lit.int .i64 at_).wf = true) (hG : GlobB w) (ht : NodesV w v l) :
    Calls Tryd.prog 6 #[.agg #[v], .int .i64 at_, .string nm] w fun e w' => e = .returned (.bool true) ∧ Below w.heap.size w w' := by
  have r1 : Below w.heap.size w (w.alloc (.cells #[v] 33)) := (Below.refl _ _).alloc (Nat.le_refl _) _
  have HZ := hide (szTree_any l v (w.alloc (.cells #[v] 33)) hl hx (ht.below r1))
  have HT := hide ht
  have HG := hide hG
  clear ht hG
  by_cases hnz : (1048576 : Int) < (nm.size : Int)
  · clear HZ HT HG
    go_enter Tryd.func6, Tryd.ntmps6
    go_wp2
    go_ret
    exact ⟨rfl, r1⟩
  by_cases hr : Tr.szS l 1048576 < 0
  · have HZ2 := HZ.out
    rw [if_pos hr] at HZ2
    replace HZ2 := hide HZ2
    go_enter Tryd.func6, Tryd.ntmps6
    go_wp2_with fail
    refine HZ2.out.mono ?_
    rintro e w1 ⟨rfl, hb1⟩
    go_wp2
    go_ret
    exact ⟨rfl, r1.trans (hb1.mono (by simp))⟩
  · obtain ⟨hl2, hx2⟩ := Tr.szS_ok l hr
    have HZ2 := HZ.out
    rw [if_neg hr] at HZ2
    replace HZ2 := hide HZ2
    have HX := hide hx2
    clear HZ hx hl hx2
    generalize Tr.szS l 1048576 = r at *
    have HTT : Hid (∀ w', Below w.heap.size w w' → Calls Tryd.prog 16 #[.agg #[v]] w' fun e w'' => ∃ g, e = .returned (.agg #[.slice (some ⟨g, 0, none⟩) l.length l.length]) ∧ OwnN w'' w'.heap.size g l ∧ w'.heap.size ≤ g ∧ Below w'.heap.size w' w'') := hide fun w' hb => toTreeO_any l v w' hl2 (HT.out.below hb)
    have HRS := hide (fun tg w' (h : NodesAt w' tg l) => rename_any l tg l.length at_ nm w' hl2 h)
    have HRI := hide (fun tg w' (hb : Below w.heap.size w w') (h : NodesAt w' tg l) => irename_any l tg l.length at_ nm w' hl2 HX.out (by omega) hwf (HG.out.below hb) h)
    have HLN : (Tr.renameOf l at_ nm).1.length ≤ 1048576 := by
      unfold Tr.renameOf
      split <;> try simp
      split <;> try simp
      split <;> try simp
      rw [Tr.renGo_len]; exact hl2
    generalize Tr.renameOf l at_ nm = R at *
    obtain ⟨b, k⟩ := R
    simp only at HRS HRI HLN
    go_enter Tryd.func6, Tryd.ntmps6
    go_wp2_with fail
    refine HZ2.out.mono ?_
    rintro e w1 ⟨rfl, hb1⟩
    have L1 : LB5 w v w1 := ⟨r1.trans (hb1.mono (by simp)), (hb1.cell (p := ⟨w.heap.size, 0, none⟩) (by simp)).trans (by simp), Nat.lt_of_lt_of_le (by simp) hb1.size⟩
    clear hb1
    have c1 := L1.c
    have HL1 := hide L1
    go_wp2_with fail
    refine (HTT.out _ HL1.out.B).mono ?_
    rintro e w2 ⟨ga, rfl, na, hga, hb2⟩
    have HL2 := hide (HL1.out.below hb2 HL1.out.z)
    have HNA := hide na.nodes
    clear hb2 na L1 c1 HL1
    go_wp2_with fail
    refine (HRS.out _ _ HNA.out).mono ?_
    rintro e w3 ⟨vs, rfl, hs3, hb3⟩
    obtain ⟨ps, ms, cs, rfl⟩ := hs3.slice
    obtain ⟨t3, u3, z3⟩ := box_in w3 (.slice ps ms cs)
    have HL3' := hide (HL2.out.below hb3 HL2.out.z)
    have HR3 : Hid (LR w v (.slice ps ms cs) w2.heap.size w3.heap.size b (w3.alloc (.cells #[.slice ps ms cs] 38))) := hide ⟨HL3'.out.below t3 HL3'.out.z, u3, hs3.upto.below t3 (Nat.le_refl _), HL3'.out.z, by rw [z3]; exact Nat.lt_succ_self _⟩
    have c3 := HR3.out.L.c
    clear hb3 hs3 HNA HL2 hga u3 t3 HL3'
    go_wp2_with fail
    refine (HTT.out _ HR3.out.L.B).mono ?_
    rintro e w4 ⟨gb, rfl, nb, hgb, hb4⟩
    rw [z3] at hb4 hgb
    obtain ⟨t4, u4, z4⟩ := box_in w4 (.slice (some ⟨gb, 0, none⟩) l.length l.length)
    have hz4 := hb4.size
    rw [z3] at hz4
    have HR4 := hide ((HR3.out.below hb4 (Nat.lt_succ_self _)).below t4 (by omega))
    have HX4 : Hid (LX (w3.heap.size + 1) w4.heap.size gb l (w4.alloc (.cells #[.slice (some ⟨gb, 0, none⟩) l.length l.length] 38))) := hide ⟨u4, by rw [← z3]; exact nb.alloc (.cells #[.slice (some ⟨gb, 0, none⟩) l.length l.length] 38), (nb.lt gb rfl).2, by rw [z4]; exact Nat.lt_succ_self _⟩
    clear hb4 nb t4 c3 HR3
    have HB5 := hide (HRI.out gb _ HR4.out.L.B (OwnN.nodes HX4.out.N))
    go_wp2_with fail
    refine HB5.out.mono ?_
    rintro e w5 ⟨vg, rfl, hg5, hb5⟩
    rw [z4] at hb5 hg5
    obtain ⟨pg, mg, cg, rfl⟩ := hg5.slice
    obtain ⟨t5, u5, z5⟩ := box_in w5 (.slice pg mg cg)
    have hz5 := hb5.size
    rw [z4] at hz5
    have HR5 := hide ((HR4.out.below hb5 (by omega)).below t5 (by omega))
    have HX5 := hide ((HX4.out.below hb5 (Nat.lt_succ_self _)).below t5 (by omega))
    have HG5 : Hid (LG (.slice pg mg cg) (w4.heap.size + 1) w5.heap.size b.length (Tr.cellsOf b) (w5.alloc (.cells #[.slice pg mg cg] 38))) := hide ⟨u5, hg5.upto.below t5 (Nat.le_refl _), by rw [z5]; exact Nat.lt_succ_self _⟩
    have d5 := HR5.out.U
    clear hb5 hg5 t5 HB5 HR4 HX4 u4
    go_wp2_with fail
    refine (eqTree_v b _ _ _ HLN HG5.out.R.nod HR5.out.S.nod).mono ?_
    rintro e w6 ⟨rfl, hb6⟩
    have hz6 := hb6.size
    rw [z5] at hz6 hb6
    have HR6 := hide (HR5.out.below hb6 (by omega))
    have HX6 := hide (HX5.out.below hb6 (by omega))
    have HG6 := hide (HG5.out.below hb6 (by omega))
    have x6 := HX6.out.X
    have c6 := HR6.out.L.c
    have hzz6 : w4.heap.size < w6.heap.size := by omega
    clear hb6 d5 u5 HR5 HX5 HG5
    go_upto_region 10 with fail
    go_cut [56] from 52 to 56 (fun v56 wx => v56 = .bool false ∧ Below w6.heap.size w6 wx)
    case first =>
      go_region_with (first
        | (go_at_call 16; refine (HTT.out _ HR6.out.L.B.drew).mono ?_; rintro e w7 ⟨gc, rfl, nc, hgc, hb7⟩; have s7 := (hb7.cell (p := ⟨w4.heap.size, 0, none⟩) hzz6).trans x6; have nb7 := (OwnN.nodes HX6.out.N).below ((Below.refl _ _).drew.trans hb7))
        | (go_at_call 18; refine (eqTree_same l gb gc l.length l.length _ hl2 nb7 nc.nodes).mono ?_; rintro e w8 ⟨rfl, hb8⟩))
      all_goals
        go_wp2_with fail
        go_meet
        case rel => exact ⟨rfl, (Below.refl _ _).drew.trans (hb7.trans (hb8.mono hb7.size))⟩
    case rest =>
      obtain ⟨rfl, hb8⟩ := hcut
      have hz8 := hb8.size
      have HR8 := hide (HR6.out.below hb8 (by omega))
      have HX8 := hide (HX6.out.below hb8 (by omega))
      have HG8 := hide (HG6.out.below hb8 (by omega))
      have x8 := HX8.out.X
      have hgb4 := HX8.out.o
      clear hb8 x6 c6 HR6 HX6 HG6
      have HMT := hide (markTree_any l.length gb l.length (w3.heap.size + 1) _ wc hl2 HX8.out.N (by omega))
      go_wp2_with fail
      refine HMT.out.mono ?_
      rintro e w9 ⟨rfl, _, hfr9, hb9⟩
      have hz9 := hb9.size
      have HR9 := hide (HR8.out.below hb9 (Nat.lt_succ_self _))
      have HG9 := hide (HG8.out.but hb9.size hfr9 (by omega) (by omega))
      have g9 := HG9.out.G
      have d9 := HR9.out.U
      clear hb9 hfr9 x8 HR8 HX8 HG8 HMT
      have hkp : ¬ (1 + 5 * (l.length : Int) < 0) := by omega
      have hkd : decide (1 + 5 * (l.length : Int) < 0) = false := by simp; omega
      go_wp2_with fail
      refine (eqTree_v b _ _ _ HLN HG9.out.R.nod HR9.out.S.nod).mono ?_
      rintro e w10 ⟨rfl, hb10⟩
      have hz10 := hb10.size
      have HR10 := hide (HR9.out.below hb10 (by omega))
      have HG10 := hide (HG9.out.below hb10 (by omega))
      have g10 := HG10.out.G
      clear hb10 HR9 HG9 g9 d9
      go_wp2_with fail
      refine (markT_t b.length _ _ _ _ w10 HLN (by omega) HG10.out.R).mono ?_
      rintro e w11 ⟨rfl, hr11, hfr11, hb11⟩
      have hz11 := hb11.size
      have HR11 := hide (HR10.out.below hb11 (by omega))
      have HG11 : Hid (LG (.slice pg mg cg) (w4.heap.size + 1) w5.heap.size b.length (Tr.marked5 b.length) w11) := hide ⟨(World.cell?_of_block (a := ⟨w5.heap.size, 0, none⟩) (hfr11 _ (by show w5.heap.size < w10.heap.size; omega) (Nat.le_refl _))).trans g10, hr11, by omega⟩
      have g11 := HG11.out.G
      clear hb11 hfr11 hr11 HR10 HG10 g10
      go_wp2_with fail
      refine (heldT_t b.length _ _ _ w11 HLN HG11.out.R).mono ?_
      rintro e w12 ⟨rfl, hb12⟩
      have hz12 := hb12.size
      have HR12 := hide (HR11.out.below hb12 (by omega))
      have HG12 := hide (HG11.out.below hb12 (by omega))
      have c12 := HR12.out.L.c
      clear hb12 HR11 HG11 g11
      have hnn : ¬ (1 + 5 * (b.length : Int) < 0) := by omega
      go_wp2_with fail
      refine (HTT.out _ HR12.out.L.B).mono ?_
      rintro e w13 ⟨gd, rfl, nd, hgd, hb13⟩
      have hz13 := hb13.size
      have HR13 := hide (HR12.out.below hb13 (by omega))
      have HG13 := hide (HG12.out.below hb13 (by omega))
      have HND := hide nd.nodes
      clear hb13 nd hgd c12 HR12 HG12
      have HB14 := hide (HRI.out gd _ HR13.out.L.B HND.out)
      go_wp2_with fail
      refine HB14.out.mono ?_
      rintro e w14 ⟨vh, rfl, hrh, hb14⟩
      have hz14 := hb14.size
      obtain ⟨ph, mh, ch, rfl⟩ := hrh.slice
      obtain ⟨t14, u14, z14⟩ := box_in w14 (.slice ph mh ch)
      have HR14 := hide ((HR13.out.below hb14 (by omega)).below t14 (by omega))
      have HG14 := hide ((HG13.out.below hb14 (by omega)).below t14 (by omega))
      have HRH := hide (hrh.upto.below t14 (Nat.le_refl _))
      have d14 := HR14.out.U
      clear hb14 hrh t14 HR13 HG13 HB14 HND
      go_wp2_with fail
      refine (eqTree_v b _ _ _ HLN HRH.out.nod HR14.out.S.nod).mono ?_
      rintro e w15 ⟨rfl, hb15⟩
      have hz15 := hb15.size
      rw [z14] at hb15 hz15
      have HR15 := hide (HR14.out.below hb15 (by omega))
      have HG15 := hide (HG14.out.below hb15 (by omega))
      have g15 := HG15.out.G
      clear hb15 u14 d14 HR14 HG14 HRH
      go_wp2_with fail
      refine (heldT_t b.length _ _ _ w15 HLN HG15.out.R).mono ?_
      rintro e w16 ⟨rfl, hb16⟩
      have HR16 := hide (HR15.out.below hb16 (by omega))
      clear hb16 g15 HR15 HG15
      go_wp2
      go_ret
      exact ⟨rfl, HR16.out.L.B⟩
end Go.Proofs.YthjilpnipidababDoor
namespace Go.Proofs.YthjilpnipidababDoor
open Go.ChangeShapes Go.WideShapes Go.ChangeAt Go.RowKit Go.ChangeMaps

theorem door_metR (os : Os) (args : Array Value) : laidMetH Tryd.prog Rows.fnExactRenameRow.laid ((World.doorLaid Tryd.prog 194 os).forCall (fun _ _ => 0) ⟨#[], args, []⟩).memory :=
  laidMetH_of_parts3 (fuel := 8) (laidMet_of_run' 8 (by kernel_rfl) (by kernel_rfl)) (by kernel_rfl) (by kernel_rfl)

set_option maxRecDepth 100000 in
set_option maxHeartbeats 1000000 in
theorem liftedR (os : Os) (started : os.Started) (H : Type) (enc : TypeId × Value → H) :
    ReturnsInHanded {} Tryd.checked os 6 .any (fun w args => (Rows.fnExactRenameSpec.pre enc Tryd.prog Tryd.f6 [] false w args ∧ laidMetH Tryd.prog Rows.fnExactRenameRow.laid w) ∧ sizedMet enc Tryd.prog Tryd.f6 (OpenSpec.ofChange Rows.fnExactRenameSpec) false w args)
      (Rows.fnExactRenameSpec.post enc Tryd.prog Tryd.f6 false true false false) := by
  refine returnsInHanded_of_change_and (C := Tryd.checked) (X := fun w _ => laidMetH Tryd.prog Rows.fnExactRenameRow.laid w) (fun _ _ _ hh h => h.of_heap hh) own started (by kernel_rfl) Tryd.func6
    (ChangeSpec.witness_shaped (enc := enc) (C := Tryd.checked) (os := os) (X := fun w _ => laidMetH Tryd.prog Rows.fnExactRenameRow.laid w) false (World.doorLaid Tryd.prog 194 os) #[.agg #[.slice none 0 0], .int .i64 0, .string ⟨#[]⟩] 8 rfl (World.shaped_of_RefB (by kernel_rfl) (by kernel_rfl)) (by kernel_rfl) (by kernel_rfl) (by kernel_rfl) (door_metR os _)) ?_
  intro W base args ds gs before hval0 hW _ _ hL _
  have hval : ∀ (j : Nat) t v, Tryd.f6.params[j]? = some t → args[j]? = some v → Value.okWide Tryd.prog W .any base t v := hval0
  have hW' := hW
  obtain ⟨p, q, hA0, hV, rfl, hfz, hnd⟩ := hW
  have hA : DataW.TrodAll enc Tryd.prog W 0 (fun _ => true) true Tryd.f6.params.toList args.toList ds p := hA0
  rw [Tryd.params6] at hA hval
  obtain ⟨v0, v1, v2, d0, d1, d2, p0, p1, p2, rfl, rfl, rfl, h0, h1, h2⟩ := trodAll_three hA
  have hVk : DataW.TrodVars enc Tryd.prog W (fun _ => true) ["loop.example/kilnclay/impl.builtNames"] gs q := hV
  obtain ⟨_, _, _, _, dg, _, rfl, _⟩ := trodVars_one hVk
  have h0k := h0
  obtain ⟨at_, rfl, rfl, rfl, hwf⟩ := open_int Tryd.underlying3 (hval 1 3 v1 rfl rfl) h1
  obtain ⟨nm, rfl, rfl, rfl, hnm⟩ := open_string Tryd.underlying9 (hval 2 9 v2 rfl rfl) h2
  simp only [List.append_nil] at hW' hA
  have hlt : ∀ x ∈ p0, x.block < W.heap.size := fun x hx => by simpa using hW'.lt x (by simp [hx])
  obtain ⟨v, l, rfl, hN, hl, hx⟩ := open_tree (hval 0 33 v0 rfl rfl) h0
  have hG := glob_of hL
  clear hA0 hval0 hL
  refine (lawR_any l v at_ nm W hl hx hwf hG hN).mono fun e W' ⟨he, hb⟩ => ?_
  subst he
  have hfin : DataW.TrodAll enc Tryd.prog W' 0 (fun b => decide (b < W.heap.size)) true [33, 3, 9] [.agg #[v], .int .i64 at_, .string nm] [d0, .lit (.int .i64 at_), .lit (.string nm.data.toList)] p0 := by simpa using trodAll_mk3 (Below.trod laidOut (by kernel_rfl) (of_decide_eq_true (by kernel_rfl)) h0k hb hlt) (shut_int Tryd.underlying3 hwf) (shut_string Tryd.underlying9 hnm)
  exact ⟨_, rfl, [d0, .lit (.int .i64 at_), .lit (.string nm.data.toList)], [dg], _, [], p0, q, hW', trodAll_mk1 (shut_bool Tryd.underlying4 _), hfin, Below.trodVars laidOut hb (by kernel_rfl) hVk, hb.frame _, fun h => by cases h⟩

theorem saidR : Rows.FnExactRenameSaid :=
  OpenClaim.holds_of_wide 6 Tryd.f6 rfl rfl rfl rfl rfl rfl rfl ⟨rfl, rfl, rfl, rfl, rfl⟩ rfl rfl rfl rfl rfl (by kernel_rfl) Tryd.func6 (by kernel_rfl)
    (of_decide_eq_true (by kernel_rfl)) (by unfold Func.isWrapper; first | (rw [if_pos (by decide +kernel)]; kernel_rfl) | (rw [if_neg (by decide +kernel)]; exact ⟨rfl, rfl⟩))
    (fun os started H enc _ => liftedR os started H enc)

theorem plainR (f : FuncId) (fn : Func) (hf : Tryd.pinned.checked.prog.funcNamed Rows.fnExactRenameRow.func = some f) (hfn : Tryd.pinned.checked.prog.funcs[f]? = some fn) :
    true = Tryd.pinned.checked.prog.looks [] ∧ ∀ (j : Nat) t, fn.params[j]? = some t → Tryd.pinned.checked.prog.wantsStandIn t = false := by
  obtain rfl : f = 6 := Option.some.inj ((show Tryd.prog.funcNamed Rows.fnExactRenameRow.func = some 6 by kernel_rfl).symm.trans hf) |>.symm
  obtain rfl : fn = Tryd.f6 := (Option.some.inj (Tryd.func6.symm.trans hfn)).symm
  refine ⟨by kernel_rfl, fun j t ht => ?_⟩
  rw [Tryd.params6] at ht
  have h3 : t = 33 ∨ t = 3 ∨ t = 9 := by simpa using Array.mem_of_getElem? ht
  rcases h3 with rfl | rfl | rfl
  · exact (show Tryd.prog.wantsStandIn 33 = false by kernel_rfl)
  · exact (show Tryd.prog.wantsStandIn 3 = false by kernel_rfl)
  · exact (show Tryd.prog.wantsStandIn 9 = false by kernel_rfl)

theorem cardR : Rows.FnExactRenameCardSaid :=
  Claim7.holds_tied_plain_at .later [] _ _ _ _ saidR (fun _ h => by cases h) (by kernel_rfl) (fun _ h => by cases h) fnExactRename_row_tie rfl ⟨rfl, rfl⟩ (by kernel_rfl) rfl plainR (by kernel_rfl)
#print axioms cardR
end Go.Proofs.YthjilpnipidababDoor
