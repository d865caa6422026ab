/- The law on Locals: its walk, the row, the card. -/
import Derived.Test.YthjilpnipidababDoorMh
import Derived.Test.YthjilpnipidababDoorNp
namespace Go.Proofs.YthjilpnipidababDoor
open Go.RowKit

set_option maxRecDepth 100000 in
set_option maxHeartbeats 2000000 in
theorem lawL_any (l : List Tr.Nd) (v : Value) (w : World) (hl : l.length ≤ 9223372036854775807) (hx : ∀ x ∈ l, x.text.size ≤ 9223372036854775807) (hG : GlobB w) (ht : NodesV w v l) :
    Calls Tryd.prog 7 #[.agg #[v]] w fun e w' => e = .returned (.bool true) ∧ Below w.heap.size w w' := by
  have r1 : Below w.heap.size w (w.alloc (.cells #[v] 33)) := (Below.refl _ _).alloc (Nat.le_refl _) _
  have HZ := hide (szTree_any l v (w.alloc (.cells #[v] 33)) hl hx (ht.below r1))
  have HT := hide ht
  have HG := hide hG
  clear ht hG
  by_cases hr : Tr.szS l 1048576 < 0
  · have HZ2 := HZ.out
    rw [if_pos hr] at HZ2
    replace HZ2 := hide HZ2
    go_enter Tryd.func7, Tryd.ntmps7
    go_wp2_with fail
    refine HZ2.out.mono ?_
    rintro e w1 ⟨rfl, hb1⟩
    go_wp2
    go_ret
    exact ⟨rfl, r1.trans (hb1.mono (by simp))⟩
  · obtain ⟨hl2, hx2⟩ := Tr.szS_ok l hr
    have HZ2 := HZ.out
    rw [if_neg hr] at HZ2
    replace HZ2 := hide HZ2
    have HX := hide hx2
    clear HZ hx hl hx2
    generalize Tr.szS l 1048576 = r at *
    have HTT : Hid (∀ w', Below w.heap.size w w' → Calls Tryd.prog 16 #[.agg #[v]] w' fun e w'' => ∃ g, e = .returned (.agg #[.slice (some ⟨g, 0, none⟩) l.length l.length]) ∧ OwnN w'' w'.heap.size g l ∧ w'.heap.size ≤ g ∧ Below w'.heap.size w' w'') := hide fun w' hb => toTreeO_any l v w' hl2 (HT.out.below hb)
    have HBS := hide (fun tg w' (h : NodesAt w' tg l) => locals_v l tg l.length w' hl2 h)
    have HBI := hide (fun tg w' (hb : Below w.heap.size w w') (h : NodesAt w' tg l) => ilocals_v l tg l.length w' hl2 HX.out (HG.out.below hb) h)
    generalize Tr.localsI l = b at *
    go_enter Tryd.func7, Tryd.ntmps7
    go_wp2_with fail
    refine HZ2.out.mono ?_
    rintro e w1 ⟨rfl, hb1⟩
    have L1 : LB w v w1 := ⟨r1.trans (hb1.mono (by simp)), (hb1.cell (p := ⟨w.heap.size, 0, none⟩) (by simp)).trans (by simp), Nat.lt_of_lt_of_le (by simp) hb1.size⟩
    clear hb1
    have c1 := L1.c
    have HL1 := hide L1
    go_wp2_with fail
    refine (HTT.out _ HL1.out.B).mono ?_
    rintro e w2 ⟨ga, rfl, na, hga, hb2⟩
    have HL2 := hide (HL1.out.below hb2 HL1.out.z)
    have HNA := hide na.nodes
    clear hb2 na L1 c1 HL1
    go_wp2_with fail
    refine (HBS.out _ _ HNA.out).mono ?_
    rintro e w3 ⟨gs, cs, rfl, hgs, ho3, hb3⟩
    have HL3 := hide (HL2.out.below hb3 HL2.out.z)
    have HO3 := hide ho3
    have c3 := HL3.out.c
    have hgs3 := (ho3.lt gs rfl).2
    clear hb3 ho3 HNA HL2 hga hgs
    go_wp2_with fail
    refine (HTT.out _ HL3.out.B).mono ?_
    rintro e w4 ⟨gb, rfl, nb, hgb, hb4⟩
    have q4 : Below w4.heap.size w4 (w4.alloc (.cells #[.slice (some ⟨gb, 0, none⟩) l.length l.length] 38)) := (Below.refl _ _).alloc (Nat.le_refl _) _
    have HL4 := hide ((HL3.out.below hb4 HL3.out.z).below q4 (Nat.lt_of_lt_of_le HL3.out.z hb4.size))
    have HO4 := hide (row_belowS (row_belowS HO3.out hb4) q4)
    have HNB := hide (nb.alloc (.cells #[.slice (some ⟨gb, 0, none⟩) l.length l.length] 38))
    have hz34 := hb4.size
    have hgb4 := (nb.lt gb rfl).2
    have s4 : (w4.alloc (.cells #[.slice (some ⟨gb, 0, none⟩) l.length l.length] 38)).cell? ⟨w4.heap.size, 0, none⟩ = some (.slice (some ⟨gb, 0, none⟩) l.length l.length) := by simp
    clear hb4 nb q4 c3 HO3
    have HB5 := hide (HBI.out gb _ HL4.out.B (OwnN.nodes HNB.out))
    go_wp2_with fail
    refine HB5.out.mono ?_
    rintro e w5 ⟨vg, rfl, hrg, hbn, hb5⟩
    rw [World.size_alloc] at hb5 hrg
    have HL5 := hide (HL4.out.below hb5 (by have := HL3.out.z; omega))
    have HO5 : Hid (w5.ownsRow 0 3 1 (.slice (some ⟨gs, 0, none⟩) b.length cs) b.length (b.map vi)) := hide (row_same HO4.out (hb5.block gs (by omega)))
    have HNB5 : Hid (OwnN w5 w3.heap.size gb l) := hide (row_same HNB.out (hb5.block gb (by omega)))
    have s5 := (hb5.cell (p := ⟨w4.heap.size, 0, none⟩) (Nat.lt_succ_self _)).trans s4
    have hz5 : w4.heap.size + 1 ≤ w5.heap.size := by have := hb5.size; simpa using this
    have HRG := hide hrg
    clear hb5 s4 hrg HB5 HO4 HNB HL4
    have HNS := hide (fun (W : World) (h : W.ownsRow 0 3 1 (.slice (some ⟨gs, 0, none⟩) b.length cs) b.length (b.map vi)) => RowI.num (B := 0) (.inr ⟨gs, _, rfl, Nat.zero_le _, h⟩))
    have hbl : b.length ≤ 1048576 := by omega
    go_wp2_with fail
    refine (eqI_same b _ _ w5 hbl HRG.out.num (HNS.out _ HO5.out)).mono ?_
    rintro e w6 ⟨rfl, hb6⟩
    have HL6 := hide (HL5.out.below hb6 HL5.out.z)
    have HO6 := hide (row_belowS HO5.out hb6)
    have HNB6 : Hid (OwnN w6 w3.heap.size gb l) := hide (row_belowS HNB5.out hb6)
    have HRG6 := hide (HRG.out.below hb6)
    have s6 := (hb6.cell (p := ⟨w4.heap.size, 0, none⟩) (show w4.heap.size < w5.heap.size by omega)).trans s5
    have hz6 := hb6.size
    have c6 := HL6.out.c
    have hzz6 : w4.heap.size < w6.heap.size := by omega
    clear hb6 s5 HL5 HO5 HNB5 HRG
    go_upto_region 10 with fail
    go_cut [31] from 27 to 31 (fun v31 wx => v31 = .bool false ∧ Below w6.heap.size w6 wx)
    case first =>
      go_region_with (first
        | (go_at_call 16; refine (HTT.out _ HL6.out.B.drew).mono ?_; rintro e w7 ⟨gc, rfl, nc, hgc, hb7⟩; have s7 := (hb7.cell (p := ⟨w4.heap.size, 0, none⟩) hzz6).trans s6; have nb7 := (OwnN.nodes HNB6.out).below ((Below.refl _ _).drew.trans hb7))
        | (go_at_call 18; refine (eqTree_same l gb gc l.length l.length _ hl2 nb7 nc.nodes).mono ?_; rintro e w8 ⟨rfl, hb8⟩))
      all_goals
        go_wp2_with fail
        go_meet
        case rel => exact ⟨rfl, (Below.refl _ _).drew.trans (hb7.trans (hb8.mono hb7.size))⟩
    case rest =>
      obtain ⟨rfl, hb8⟩ := hcut
      have HL8 := hide (HL6.out.below hb8 HL6.out.z)
      have HO8 := hide (row_belowS HO6.out hb8)
      have HNB8 : Hid (OwnN wc w3.heap.size gb l) := hide (row_belowS HNB6.out hb8)
      have HRG8 := hide (HRG6.out.below hb8)
      have s8 := (hb8.cell (p := ⟨w4.heap.size, 0, none⟩) hzz6).trans s6
      have hz8 := hb8.size
      clear hb8 s6 c6 HL6 HO6 HNB6 HRG6
      have HMT := hide (markTree_any l.length gb l.length w3.heap.size _ wc hl2 HNB8.out (by omega))
      go_wp2_with fail
      refine HMT.out.mono ?_
      rintro e w9 ⟨rfl, _, hfr9, hb9⟩
      have hz9 := hb9.size
      have HL9 := hide (HL8.out.below hb9 HL3.out.z)
      have HO9 : Hid (w9.ownsRow 0 3 1 (.slice (some ⟨gs, 0, none⟩) b.length cs) b.length (b.map vi)) := hide (row_same HO8.out (hb9.block gs hgs3))
      have HRG9 := hide (HRG8.out.but (by omega) hfr9)
      clear hb9 hfr9 s8 HL8 HO8 HNB8 HRG8 HMT
      have hkp : ¬ (1 + 5 * (l.length : Int) < 0) := by omega
      have hkd : decide (1 + 5 * (l.length : Int) < 0) = false := by simp; omega
      go_wp2_with fail
      refine (eqI_same b _ _ w9 hbl HRG9.out.num (HNS.out _ HO9.out)).mono ?_
      rintro e w10 ⟨rfl, hb10⟩
      have hz10 := hb10.size
      have HL10 := hide (HL9.out.below hb10 HL9.out.z)
      have HO10 := hide (row_belowS HO9.out hb10)
      have HRG10 := hide (HRG9.out.below hb10)
      clear hb10 HL9 HO9 HRG9
      go_wp2_with fail
      refine (markI_v b.length _ _ _ w10 hbl HRG10.out).mono ?_
      rintro e w11 ⟨rfl, hrg11, hb11⟩
      have hz11 := hb11.size
      have HL11 := hide (HL10.out.below hb11 (by have := HL3.out.z; omega))
      have HO11 : Hid (w11.ownsRow 0 3 1 (.slice (some ⟨gs, 0, none⟩) b.length cs) b.length (b.map vi)) := hide (row_same HO10.out (hb11.block gs (by omega)))
      have HRG11 := hide hrg11
      clear hb11 hrg11 HL10 HO10 HRG10
      go_wp2_with fail
      refine (heldI_v b.length _ _ w11 hbl HRG11.out).mono ?_
      rintro e w12 ⟨rfl, rfl⟩
      have hnn : ¬ (1 + (b.length : Int) < 0) := by omega
      have c11 := HL11.out.c
      go_wp2_with fail
      refine (HTT.out _ HL11.out.B).mono ?_
      rintro e w13 ⟨gd, rfl, nd, hgd, hb13⟩
      have HL13 := hide (HL11.out.below hb13 HL11.out.z)
      have HO13 := hide (row_belowS HO11.out hb13)
      have HRG13 := hide (HRG11.out.below hb13)
      have HND := hide nd.nodes
      clear hb13 nd hgd c11 HL11 HO11 HRG11
      have HB14 := hide (HBI.out gd _ HL13.out.B HND.out)
      go_wp2_with fail
      refine HB14.out.mono ?_
      rintro e w14 ⟨vh, rfl, hrh, _, hb14⟩
      have HL14 := hide (HL13.out.below hb14 HL13.out.z)
      have HO14 := hide (row_belowS HO13.out hb14)
      have HRG14 := hide (HRG13.out.below hb14)
      have HRH := hide hrh
      clear hb14 hrh HL13 HO13 HRG13 HB14 HND
      go_wp2_with fail
      refine (eqI_same b _ _ w14 hbl HRH.out.num (HNS.out _ HO14.out)).mono ?_
      rintro e w15 ⟨rfl, hb15⟩
      have HL15 := hide (HL14.out.below hb15 HL14.out.z)
      have HRG15 := hide (HRG14.out.below hb15)
      clear hb15 HL14 HO14 HRG14 HRH
      go_wp2_with fail
      refine (heldI_v b.length _ _ w15 hbl HRG15.out).mono ?_
      rintro e w16 ⟨rfl, rfl⟩
      go_wp2
      go_ret
      exact ⟨rfl, HL15.out.B⟩
end Go.Proofs.YthjilpnipidababDoor

namespace Go.Proofs.YthjilpnipidababDoor
open Go.ChangeShapes Go.WideShapes Go.ChangeAt Go.RowKit Go.ChangeMaps

theorem door_metL (os : Os) (args : Array Value) : laidMetH Tryd.prog Rows.fnExactLocalsRow.laid ((World.doorLaid Tryd.prog 194 os).forCall (fun _ _ => 0) ⟨#[], args, []⟩).memory :=
  laidMetH_of_parts3 (fuel := 8) (laidMet_of_run' 8 (by kernel_rfl) (by kernel_rfl)) (by kernel_rfl) (by kernel_rfl)

set_option maxRecDepth 100000 in
set_option maxHeartbeats 1000000 in
theorem liftedL (os : Os) (started : os.Started) (H : Type) (enc : TypeId × Value → H) :
    ReturnsInHanded {} Tryd.checked os 7 .any (fun w args => (Rows.fnExactLocalsSpec.pre enc Tryd.prog Tryd.f7 [] false w args ∧ laidMetH Tryd.prog Rows.fnExactLocalsRow.laid w) ∧ sizedMet enc Tryd.prog Tryd.f7 (OpenSpec.ofChange Rows.fnExactLocalsSpec) false w args)
      (Rows.fnExactLocalsSpec.post enc Tryd.prog Tryd.f7 false true false false) := by
  refine returnsInHanded_of_change_and (C := Tryd.checked) (X := fun w _ => laidMetH Tryd.prog Rows.fnExactLocalsRow.laid w) (fun _ _ _ hh h => h.of_heap hh) own started (by kernel_rfl) Tryd.func7
    (ChangeSpec.witness_shaped (enc := enc) (C := Tryd.checked) (os := os) (X := fun w _ => laidMetH Tryd.prog Rows.fnExactLocalsRow.laid w) false (World.doorLaid Tryd.prog 194 os) #[.agg #[.slice none 0 0]] 8 rfl (World.shaped_of_RefB (by kernel_rfl) (by kernel_rfl)) (by kernel_rfl) (by kernel_rfl) (by kernel_rfl) (door_metL os _)) ?_
  intro W base args ds gs before hval0 hW _ _ hL _
  have hval : ∀ (j : Nat) t v, Tryd.f7.params[j]? = some t → args[j]? = some v → Value.okWide Tryd.prog W .any base t v := hval0
  have hW' := hW
  obtain ⟨p, q, hA0, hV, rfl, hfz, hnd⟩ := hW
  have hA : DataW.TrodAll enc Tryd.prog W 0 (fun _ => true) true Tryd.f7.params.toList args.toList ds p := hA0
  rw [Tryd.params7] at hA hval
  obtain ⟨v0, d0, rfl, rfl, h0⟩ := trodAll_one hA
  have hVk : DataW.TrodVars enc Tryd.prog W (fun _ => true) ["loop.example/kilnclay/impl.builtNames"] gs q := hV
  obtain ⟨_, _, _, _, dg, _, rfl, _⟩ := trodVars_one hVk
  have h0k := h0
  have hlt : ∀ x ∈ p, x.block < W.heap.size := fun x hx => by simpa using hW'.lt x (by simp [hx])
  obtain ⟨v, l, rfl, hN, hl, hx⟩ := open_tree (hval 0 33 v0 rfl rfl) h0
  have hG := glob_of hL
  clear hA0 hval0 hL
  refine (lawL_any l v W hl hx hG hN).mono fun e W' ⟨he, hb⟩ => ?_
  subst he
  exact ⟨_, rfl, [d0], [dg], _, [], p, q, hW', trodAll_mk1 (shut_bool Tryd.underlying4 _), trodAll_mk1 (Below.trod laidOut (by kernel_rfl) (of_decide_eq_true (by kernel_rfl)) h0k hb hlt), Below.trodVars laidOut hb (by kernel_rfl) hVk, hb.frame _, fun h => by cases h⟩

theorem saidL : Rows.FnExactLocalsSaid :=
  OpenClaim.holds_of_wide 7 Tryd.f7 rfl rfl rfl rfl rfl rfl rfl ⟨rfl, rfl, rfl, rfl, rfl⟩ rfl rfl rfl rfl rfl (by kernel_rfl) Tryd.func7 (by kernel_rfl)
    (of_decide_eq_true (by kernel_rfl)) (by unfold Func.isWrapper; first | (rw [if_pos (by decide +kernel)]; kernel_rfl) | (rw [if_neg (by decide +kernel)]; exact ⟨rfl, rfl⟩))
    (fun os started H enc _ => liftedL os started H enc)

theorem plainL (f : FuncId) (fn : Func) (hf : Tryd.pinned.checked.prog.funcNamed Rows.fnExactLocalsRow.func = some f) (hfn : Tryd.pinned.checked.prog.funcs[f]? = some fn) :
    true = Tryd.pinned.checked.prog.looks [] ∧ ∀ (j : Nat) t, fn.params[j]? = some t → Tryd.pinned.checked.prog.wantsStandIn t = false := by
  obtain rfl : f = 7 := Option.some.inj ((show Tryd.prog.funcNamed Rows.fnExactLocalsRow.func = some 7 by kernel_rfl).symm.trans hf) |>.symm
  obtain rfl : fn = Tryd.f7 := (Option.some.inj (Tryd.func7.symm.trans hfn)).symm
  refine ⟨by kernel_rfl, fun j t ht => ?_⟩
  rw [Tryd.params7] at ht
  obtain rfl : t = 33 := by simpa using Array.mem_of_getElem? ht
  exact (show Tryd.prog.wantsStandIn 33 = false by kernel_rfl)

theorem cardL : Rows.FnExactLocalsCardSaid :=
  Claim7.holds_tied_plain_at .later [] _ _ _ _ saidL (fun _ h => by cases h) (by kernel_rfl) (fun _ h => by cases h) fnExactLocals_row_tie rfl ⟨rfl, rfl⟩ (by kernel_rfl) rfl plainL (by kernel_rfl)
#print axioms cardL
end Go.Proofs.YthjilpnipidababDoor
