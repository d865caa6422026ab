/- Walks: the law FnOrder. -/
import Derived.Test.YtfpdoafpimaoaaaDn
import Derived.Test.YtfpdoafpimaoaaaDa
import Derived.Test.YtfpdoafpimaoaaaOg
import Derived.Test.YtfpdoafpimaoaaaQo
namespace Go.Proofs.Ytfpdoafpimaoaaa.Vl
open Go.RowKit T.atoms T.ok T.high T.good T.allPlain

theorem ByV.below {w w' : World} {v : Value} {n : Nat} (h : ByV w v n) (hb : Below w.heap.size w w') : ByV w' v n := by
  rcases h with h | ⟨g, o, c, h1, h2, h3, h4, h5⟩
  · exact .inl h
  · exact .inr ⟨g, o, c, h1, h2, h3, Nat.lt_of_lt_of_le h4 hb.size, fun i hi => by
      obtain ⟨k, hk, hc⟩ := h5 i hi
      exact ⟨k, hk, (hb.cell (p := ⟨g, o + i, none⟩) h4).trans hc⟩⟩
theorem ByV.form {w : World} {v : Value} {n : Nat} (h : ByV w v n) : ∃ p c, v = .slice p n c := by
  rcases h with ⟨q, c, h, h1⟩ | ⟨g, o, c, h1, _⟩
  · subst h1; exact ⟨q, c, h⟩
  · exact ⟨_, c, h1⟩
theorem ordOf_not {l l' : List At} (h : (valid l && valid l') = false) : ordOf l l' = 0 := by
  unfold ordOf
  rw [h]

/-- What DrawOrder does, in this text's words. -/
def OPost (w : World) (e : Ending) (w' : World) : Prop := ∃ ga ca la gb cb lb, e = .returned (.tuple #[.agg #[.slice (some ⟨ga, 0, none⟩) la.length ca], .agg #[.slice (some ⟨gb, 0, none⟩) lb.length cb]]) ∧ la.length ≤ 3001 ∧ lb.length ≤ 3001 ∧ la.length ≤ ca ∧ lb.length ≤ cb ∧ w.heap.size ≤ ga ∧ w.heap.size ≤ gb ∧ AtomsO w' ga 0 la ∧ AtomsO w' gb 0 lb ∧ Below w.heap.size w w'

set_option maxRecDepth 100000 in
set_option maxHeartbeats 4000000 in
theorem lawFO_any (HD : ∀ n v w, ByV w v n → Calls Try.prog 7 #[v] w fun e w' => OPost w e w') (n n' : Nat) (v v' : Value) (w : World) (h : ByV w v n) (h' : ByV w v' n') :
    Calls Try.prog 3 #[v, v'] w fun e w' => e = .returned (.bool true) ∧ Below w.heap.size w w' := by
  have H1 := hide h
  have H2 := hide h'
  obtain ⟨p, c, rfl⟩ := h.form
  obtain ⟨p', c', rfl⟩ := h'.form
  clear h h'
  by_cases h1 : (1048576 : Int) < (n : Int)
  · go_enter Try.func3, Try.ntmps3
    go_wp2
    go_ret
    exact ⟨rfl, Below.refl _ _⟩
  · by_cases h2 : (1048576 : Int) < (n' : Int)
    · go_enter Try.func3, Try.ntmps3
      go_wp2
      go_ret
      exact ⟨rfl, Below.refl _ _⟩
    · go_enter Try.func3, Try.ntmps3
      go_wp2_with fail
      refine (HD n _ _ H1.out).mono ?_
      rintro e w1 ⟨ga, ca, la, gb, cb, lb, rfl, hla, hlb, hca, hcb, hga, hgb, haa, hab, hb1⟩
      go_wp2_with fail
      obtain ⟨r1, a0, b0⟩ := two_boxes w1 (.slice (some ⟨ga, 0, none⟩) la.length ca) (.slice (some ⟨gb, 0, none⟩) lb.length cb) 25 25
      have hb1' := hb1.trans (r1.mono hb1.size)
      have A1 := hide (haa.below r1)
      have B1 := hide (hab.below r1)
      have z1 : w1.heap.size + 1 < ((w1.alloc (.cells #[.slice (some ⟨ga, 0, none⟩) la.length ca] 25)).alloc (.cells #[.slice (some ⟨gb, 0, none⟩) lb.length cb] 25)).heap.size := by simp
      clear haa hab hb1 r1
      generalize ((w1.alloc (.cells #[.slice (some ⟨ga, 0, none⟩) la.length ca] 25)).alloc (.cells #[.slice (some ⟨gb, 0, none⟩) lb.length cb] 25)) = W1 at *
      refine (HD n' _ _ (H2.out.below hb1')).mono ?_
      rintro e w2 ⟨gc, cc, lc, gd, cd, ld, rfl, hlc, hld, hcc, hcd, hgc, hgd, hac, had, hb2⟩
      obtain ⟨r2, c0, d0⟩ := two_boxes w2 (.slice (some ⟨gc, 0, none⟩) lc.length cc) (.slice (some ⟨gd, 0, none⟩) ld.length cd) 25 25
      have hs2 := hb2.size
      have hb2' := hb1'.trans (hb2.mono hb1'.size)
      have FB := hide (hb2'.trans (r2.mono hb2'.size))
      have A2 := hide ((A1.out.below hb2).below r2)
      have B2 := hide ((B1.out.below hb2).below r2)
      have C2 := hide (hac.below r2)
      have a2 := (r2.cell (p := ⟨w1.heap.size, 0, none⟩) (show w1.heap.size < w2.heap.size by omega)).trans ((hb2.cell (p := ⟨w1.heap.size, 0, none⟩) (show w1.heap.size < W1.heap.size by omega)).trans a0)
      have b2 := (r2.cell (p := ⟨w1.heap.size + 1, 0, none⟩) (show w1.heap.size + 1 < w2.heap.size by omega)).trans ((hb2.cell (p := ⟨w1.heap.size + 1, 0, none⟩) (show w1.heap.size + 1 < W1.heap.size by omega)).trans b0)
      have z2 : w2.heap.size < ((w2.alloc (.cells #[.slice (some ⟨gc, 0, none⟩) lc.length cc] 25)).alloc (.cells #[.slice (some ⟨gd, 0, none⟩) ld.length cd] 25)).heap.size := by simp; omega
      have z3 : w1.heap.size + 1 < ((w2.alloc (.cells #[.slice (some ⟨gc, 0, none⟩) lc.length cc] 25)).alloc (.cells #[.slice (some ⟨gd, 0, none⟩) ld.length cd] 25)).heap.size := by simp; omega
      clear A1 B1 hac had r2 hb2 hb2' hb1' a0 b0 d0 hs2 z1 HD H1 H2
      go_wp2_with fail
      generalize ((w2.alloc (.cells #[.slice (some ⟨gc, 0, none⟩) lc.length cc] 25)).alloc (.cells #[.slice (some ⟨gd, 0, none⟩) ld.length cd] 25)) = wb at *
      have FX : Hid (∀ W, Below wb.heap.size wb W → W.cell? ⟨w1.heap.size, 0, none⟩ = some (.slice (some ⟨ga, 0, none⟩) la.length ca) ∧ W.cell? ⟨w1.heap.size + 1, 0, none⟩ = some (.slice (some ⟨gb, 0, none⟩) lb.length cb) ∧ W.cell? ⟨w2.heap.size, 0, none⟩ = some (.slice (some ⟨gc, 0, none⟩) lc.length cc)) := hide fun W q => ⟨(q.cell (p := ⟨w1.heap.size, 0, none⟩) (show w1.heap.size < wb.heap.size by omega)).trans a2, (q.cell (p := ⟨w1.heap.size + 1, 0, none⟩) (show w1.heap.size + 1 < wb.heap.size by omega)).trans b2, (q.cell (p := ⟨w2.heap.size, 0, none⟩) z2).trans c0⟩
      generalize w1.heap.size = xa at *
      generalize w2.heap.size = xc at *
      have Iab : Hid (∀ W, Below wb.heap.size wb W → Calls Try.prog 8 #[.agg #[.slice (some ⟨ga, 0, none⟩) la.length ca], .agg #[.slice (some ⟨gb, 0, none⟩) lb.length cb]] W fun e w' => e = .returned (.int .i64 (ordOf la lb)) ∧ Below W.heap.size W w') := hide fun W hb => implOrder_any la lb ga gb ca cb W (A2.out.below hb) (B2.out.below hb) (by omega) (by omega)
      have Sab : Hid (∀ W, Below wb.heap.size wb W → Calls Try.prog 9 #[.agg #[.slice (some ⟨ga, 0, none⟩) la.length ca], .agg #[.slice (some ⟨gb, 0, none⟩) lb.length cb]] W fun e w' => e = .returned (.int .i64 (ordOf la lb)) ∧ Below W.heap.size W w') := hide fun W hb => specOrder_any la lb ga gb ca cb W (A2.out.below hb) (B2.out.below hb) hca hcb (by omega) (by omega)
      have Iba : Hid (∀ W, Below wb.heap.size wb W → Calls Try.prog 8 #[.agg #[.slice (some ⟨gb, 0, none⟩) lb.length cb], .agg #[.slice (some ⟨ga, 0, none⟩) la.length ca]] W fun e w' => e = .returned (.int .i64 (ordOf lb la)) ∧ Below W.heap.size W w') := hide fun W hb => implOrder_any lb la gb ga cb ca W (B2.out.below hb) (A2.out.below hb) (by omega) (by omega)
      have Ibc : Hid (∀ W, Below wb.heap.size wb W → Calls Try.prog 8 #[.agg #[.slice (some ⟨gb, 0, none⟩) lb.length cb], .agg #[.slice (some ⟨gc, 0, none⟩) lc.length cc]] W fun e w' => e = .returned (.int .i64 (ordOf lb lc)) ∧ Below W.heap.size W w') := hide fun W hb => implOrder_any lb lc gb gc cb cc W (B2.out.below hb) (C2.out.below hb) (by omega) (by omega)
      have Iac : Hid (∀ W, Below wb.heap.size wb W → Calls Try.prog 8 #[.agg #[.slice (some ⟨ga, 0, none⟩) la.length ca], .agg #[.slice (some ⟨gc, 0, none⟩) lc.length cc]] W fun e w' => e = .returned (.int .i64 (ordOf la lc)) ∧ Below W.heap.size W w') := hide fun W hb => implOrder_any la lc ga gc ca cc W (A2.out.below hb) (C2.out.below hb) (by omega) (by omega)
      have Va : Hid (∀ W, Below wb.heap.size wb W → Calls Try.prog 10 #[.agg #[.slice (some ⟨ga, 0, none⟩) la.length ca]] W fun e w' => e = .returned (.bool (valid la)) ∧ Below W.heap.size W w') := hide fun W hb => specValid_any la ga 0 ca W (fun _ => rfl) (A2.out.below hb) hca (by omega)
      have Vb : Hid (∀ W, Below wb.heap.size wb W → Calls Try.prog 10 #[.agg #[.slice (some ⟨gb, 0, none⟩) lb.length cb]] W fun e w' => e = .returned (.bool (valid lb)) ∧ Below W.heap.size W w') := hide fun W hb => specValid_any lb gb 0 cb W (fun _ => rfl) (B2.out.below hb) hcb (by omega)
      have Vc : Hid (∀ W, Below wb.heap.size wb W → Calls Try.prog 10 #[.agg #[.slice (some ⟨gc, 0, none⟩) lc.length cc]] W fun e w' => e = .returned (.bool (valid lc)) ∧ Below W.heap.size W w') := hide fun W hb => specValid_any lc gc 0 cc W (fun _ => rfl) (C2.out.below hb) hcc (by omega)
      have Wab : Hid (∀ same : Bool, (same = true ↔ la = lb) → ∀ W, Below wb.heap.size wb W → Calls Try.prog 11 #[.agg #[.slice (some ⟨ga, 0, none⟩) la.length ca], .agg #[.slice (some ⟨gb, 0, none⟩) lb.length cb]] W fun e w' => e = .returned (.bool same) ∧ Below W.heap.size W w') := hide fun same hs W hb => wValue_any la lb ga gb ca cb W (by omega) (by omega) (A2.out.below hb) (B2.out.below hb) same hs
      have hod3 := ordOf_range la lb
      have hanti := ordOf_anti la lb
      clear A2 B2 C2 z2 z3
      refine (Iab.out _ (Below.refl _ _)).mono ?_
      rintro e w5 ⟨rfl, B5⟩
      obtain ⟨pa5, pb5, pc5⟩ := FX.out _ B5
      clear Iab a2 b2 c0
      have hneg1 : IntKind.i64.wrap (-(-1 : Int)) = 1 := by decide
      have hneg2 : IntKind.i64.wrap (-(0 : Int)) = 0 := by decide
      have hneg3 : IntKind.i64.wrap (-(1 : Int)) = -1 := by decide
      by_cases hval : valid la = true ∧ valid lb = true ∧ valid lc = true
      · obtain ⟨va, vb, vc⟩ := hval
        have ZZ := ordOf_zero va vb
        have M1 := hide (ordOf_most va vb vc)
        have M2 := hide (ordOf_least va vb vc)
        have hy3 := ordOf_range lb lc
        have hz3 := ordOf_range la lc
        rw [va] at Va
        rw [vb] at Vb
        rw [vc] at Vc
        generalize ordOf la lb = od at *
        generalize ordOf lb la = nd at *
        generalize ordOf lb lc = oy at *
        generalize ordOf la lc = oz at *
        obtain ⟨sm, hsm, hsm2⟩ : ∃ sm : Bool, (sm = true ↔ la = lb) ∧ (sm = true ↔ od = 0) := ⟨decide (od = 0), by rw [decide_eq_true_iff]; exact ZZ, by rw [decide_eq_true_iff]⟩
        have Wab2 := hide (Wab.out sm hsm)
        clear Wab hsm ZZ va vb vc
        rcases (show (od = -1 ∧ nd = 1 ∧ sm = false) ∨ (od = 0 ∧ nd = 0 ∧ sm = true) ∨ (od = 1 ∧ nd = -1 ∧ sm = false) from by
          rcases hod3 with h | h | h
          · exact .inl ⟨h, by omega, by cases sm; rfl; exact absurd (hsm2.1 rfl) (by omega)⟩
          · exact .inr (.inl ⟨h, by omega, hsm2.2 h⟩)
          · exact .inr (.inr ⟨h, by omega, by cases sm; rfl; exact absurd (hsm2.1 rfl) (by omega)⟩)) with ⟨rfl, rfl, rfl⟩ | ⟨rfl, rfl, rfl⟩ | ⟨rfl, rfl, rfl⟩
        all_goals
          clear hod3 hanti hsm2
          go_wp2_with fail
          refine (Sab.out _ B5).mono ?_
          rintro e w6 ⟨rfl, h6⟩
          have B6 := B5.trans (h6.mono B5.size)
          obtain ⟨pa6, pb6, pc6⟩ := FX.out _ B6
          clear h6 pa5 pb5 pc5
          go_wp2_with fail
          refine (Iba.out _ B6).mono ?_
          rintro e w7 ⟨rfl, h7⟩
          have B7 := B6.trans (h7.mono B6.size)
          obtain ⟨pa7, pb7, pc7⟩ := FX.out _ B7
          clear h7 pa6 pb6 pc6
          go_wp2_with fail
          refine (Va.out _ B7).mono ?_
          rintro e w8 ⟨rfl, h8⟩
          have B8 := B7.trans (h8.mono B7.size)
          obtain ⟨pa8, pb8, pc8⟩ := FX.out _ B8
          clear h8 pa7 pb7 pc7
          go_wp2_with fail
          refine (Vb.out _ B8).mono ?_
          rintro e w9 ⟨rfl, h9⟩
          have B9 := B8.trans (h9.mono B8.size)
          obtain ⟨pa9, pb9, pc9⟩ := FX.out _ B9
          clear h9 pa8 pb8 pc8
          go_wp2_with fail
          refine (Vc.out _ B9).mono ?_
          rintro e w10 ⟨rfl, h10⟩
          have B10 := B9.trans (h10.mono B9.size)
          obtain ⟨pa10, pb10, pc10⟩ := FX.out _ B10
          clear h10 pa9 pb9 pc9
          go_wp2_with fail
          refine (Wab2.out _ B10).mono ?_
          rintro e w11 ⟨rfl, h11⟩
          have B11 := B10.trans (h11.mono B10.size)
          obtain ⟨pa11, pb11, pc11⟩ := FX.out _ B11
          clear h11 pa10 pb10 pc10
          go_wp2_with fail
          refine (Ibc.out _ B11).mono ?_
          rintro e w12 ⟨rfl, h12⟩
          have B12 := B11.trans (h12.mono B11.size)
          obtain ⟨pa12, pb12, pc12⟩ := FX.out _ B12
          clear h12 pa11 pb11 pc11
          go_wp2_with fail
          refine (Iac.out _ B12).mono ?_
          rintro e w13 ⟨rfl, h13⟩
          have B13 := B12.trans (h13.mono B12.size)
          obtain ⟨pa13, pb13, pc13⟩ := FX.out _ B13
          clear h13 pa12 pb12 pc12
          have m1 := M1.out
          have m2 := M2.out
          clear M1 M2
          rcases hy3 with rfl | rfl | rfl <;> rcases hz3 with rfl | rfl | rfl
          all_goals first
            | (exfalso; omega)
            | (clear m1 m2; go_wp2; go_ret; exact ⟨rfl, FB.out.trans (B13.mono FB.out.size)⟩)
      · by_cases hv2 : (valid la && valid lb) = true
        · have hv3 : valid lc = false := by
            rw [Bool.and_eq_true] at hv2
            cases h : valid lc
            · rfl
            · exact absurd ⟨hv2.1, hv2.2, h⟩ hval
          obtain ⟨va, vb⟩ := Bool.and_eq_true_iff.1 hv2
          rw [va] at Va
          rw [vb] at Vb
          rw [hv3] at Vc
          clear hval hv2 hv3 va vb Wab Ibc Iac
          generalize ordOf la lb = od at *
          generalize ordOf lb la = nd at *
          rcases (show (od = -1 ∧ nd = 1) ∨ (od = 0 ∧ nd = 0) ∨ (od = 1 ∧ nd = -1) from by omega) with ⟨rfl, rfl⟩ | ⟨rfl, rfl⟩ | ⟨rfl, rfl⟩
          all_goals
            clear hod3 hanti
            go_wp2_with fail
            refine (Sab.out _ B5).mono ?_
            rintro e w6 ⟨rfl, h6⟩
            have B6 := B5.trans (h6.mono B5.size)
            obtain ⟨pa6, pb6, pc6⟩ := FX.out _ B6
            clear h6 pa5 pb5 pc5
            go_wp2_with fail
            refine (Iba.out _ B6).mono ?_
            rintro e w7 ⟨rfl, h7⟩
            have B7 := B6.trans (h7.mono B6.size)
            obtain ⟨pa7, pb7, pc7⟩ := FX.out _ B7
            clear h7 pa6 pb6 pc6
            go_wp2_with fail
            refine (Va.out _ B7).mono ?_
            rintro e w8 ⟨rfl, h8⟩
            have B8 := B7.trans (h8.mono B7.size)
            obtain ⟨pa8, pb8, pc8⟩ := FX.out _ B8
            clear h8 pa7 pb7 pc7
            go_wp2_with fail
            refine (Vb.out _ B8).mono ?_
            rintro e w9 ⟨rfl, h9⟩
            have B9 := B8.trans (h9.mono B8.size)
            obtain ⟨pa9, pb9, pc9⟩ := FX.out _ B9
            clear h9 pa8 pb8 pc8
            go_wp2_with fail
            refine (Vc.out _ B9).mono ?_
            rintro e w10 ⟨rfl, h10⟩
            have B10 := B9.trans (h10.mono B9.size)
            obtain ⟨pa10, pb10, pc10⟩ := FX.out _ B10
            clear h10 pa9 pb9 pc9
            go_wp2_with fail
            refine (Vc.out _ B10).mono ?_
            rintro e w11 ⟨rfl, h11⟩
            have B11 := B10.trans (h11.mono B10.size)
            obtain ⟨pa11, pb11, pc11⟩ := FX.out _ B11
            clear h11 pa10 pb10 pc10
            go_wp2
            go_ret
            exact ⟨rfl, FB.out.trans (B11.mono FB.out.size)⟩
        · have hv2 : (valid la && valid lb) = false := by simpa using hv2
          have hz := ordOf_not hv2
          rw [hz] at Sab
          rw [hz] at hanti
          rw [hanti] at Iba
          rw [hz]
          clear hval hz hanti hod3 Wab Ibc Iac
          have hnn : (-(0 : Int)) = 0 := by decide
          rw [hnn] at Iba
          generalize valid la = va at *
          generalize valid lb = vb at *
          generalize valid lc = vc at *
          cases va
          · clear hv2
            cases vc
            · go_wp2_with fail
              refine (Sab.out _ B5).mono ?_
              rintro e w6 ⟨rfl, h6⟩
              have B6 := B5.trans (h6.mono B5.size)
              obtain ⟨pa6, pb6, pc6⟩ := FX.out _ B6
              clear h6 pa5 pb5 pc5
              go_wp2_with fail
              refine (Iba.out _ B6).mono ?_
              rintro e w7 ⟨rfl, h7⟩
              have B7 := B6.trans (h7.mono B6.size)
              obtain ⟨pa7, pb7, pc7⟩ := FX.out _ B7
              clear h7 pa6 pb6 pc6
              go_wp2_with fail
              refine (Va.out _ B7).mono ?_
              rintro e w8 ⟨rfl, h8⟩
              have B8 := B7.trans (h8.mono B7.size)
              obtain ⟨pa8, pb8, pc8⟩ := FX.out _ B8
              clear h8 pa7 pb7 pc7
              go_wp2_with fail
              refine (Vc.out _ B8).mono ?_
              rintro e w9 ⟨rfl, h9⟩
              have B9 := B8.trans (h9.mono B8.size)
              obtain ⟨pa9, pb9, pc9⟩ := FX.out _ B9
              clear h9 pa8 pb8 pc8
              go_wp2
              go_ret
              exact ⟨rfl, FB.out.trans (B9.mono FB.out.size)⟩
            · go_wp2_with fail
              refine (Sab.out _ B5).mono ?_
              rintro e w6 ⟨rfl, h6⟩
              have B6 := B5.trans (h6.mono B5.size)
              obtain ⟨pa6, pb6, pc6⟩ := FX.out _ B6
              clear h6 pa5 pb5 pc5
              go_wp2_with fail
              refine (Iba.out _ B6).mono ?_
              rintro e w7 ⟨rfl, h7⟩
              have B7 := B6.trans (h7.mono B6.size)
              obtain ⟨pa7, pb7, pc7⟩ := FX.out _ B7
              clear h7 pa6 pb6 pc6
              go_wp2_with fail
              refine (Va.out _ B7).mono ?_
              rintro e w8 ⟨rfl, h8⟩
              have B8 := B7.trans (h8.mono B7.size)
              obtain ⟨pa8, pb8, pc8⟩ := FX.out _ B8
              clear h8 pa7 pb7 pc7
              go_wp2_with fail
              refine (Vc.out _ B8).mono ?_
              rintro e w9 ⟨rfl, h9⟩
              have B9 := B8.trans (h9.mono B8.size)
              obtain ⟨pa9, pb9, pc9⟩ := FX.out _ B9
              clear h9 pa8 pb8 pc8
              go_wp2
              go_ret
              exact ⟨rfl, FB.out.trans (B9.mono FB.out.size)⟩
          · obtain rfl : vb = false := by simpa using hv2
            clear hv2
            cases vc
            · go_wp2_with fail
              refine (Sab.out _ B5).mono ?_
              rintro e w6 ⟨rfl, h6⟩
              have B6 := B5.trans (h6.mono B5.size)
              obtain ⟨pa6, pb6, pc6⟩ := FX.out _ B6
              clear h6 pa5 pb5 pc5
              go_wp2_with fail
              refine (Iba.out _ B6).mono ?_
              rintro e w7 ⟨rfl, h7⟩
              have B7 := B6.trans (h7.mono B6.size)
              obtain ⟨pa7, pb7, pc7⟩ := FX.out _ B7
              clear h7 pa6 pb6 pc6
              go_wp2_with fail
              refine (Va.out _ B7).mono ?_
              rintro e w8 ⟨rfl, h8⟩
              have B8 := B7.trans (h8.mono B7.size)
              obtain ⟨pa8, pb8, pc8⟩ := FX.out _ B8
              clear h8 pa7 pb7 pc7
              go_wp2_with fail
              refine (Vb.out _ B8).mono ?_
              rintro e w9 ⟨rfl, h9⟩
              have B9 := B8.trans (h9.mono B8.size)
              obtain ⟨pa9, pb9, pc9⟩ := FX.out _ B9
              clear h9 pa8 pb8 pc8
              go_wp2_with fail
              refine (Vc.out _ B9).mono ?_
              rintro e w10 ⟨rfl, h10⟩
              have B10 := B9.trans (h10.mono B9.size)
              obtain ⟨pa10, pb10, pc10⟩ := FX.out _ B10
              clear h10 pa9 pb9 pc9
              go_wp2
              go_ret
              exact ⟨rfl, FB.out.trans (B10.mono FB.out.size)⟩
            · go_wp2_with fail
              refine (Sab.out _ B5).mono ?_
              rintro e w6 ⟨rfl, h6⟩
              have B6 := B5.trans (h6.mono B5.size)
              obtain ⟨pa6, pb6, pc6⟩ := FX.out _ B6
              clear h6 pa5 pb5 pc5
              go_wp2_with fail
              refine (Iba.out _ B6).mono ?_
              rintro e w7 ⟨rfl, h7⟩
              have B7 := B6.trans (h7.mono B6.size)
              obtain ⟨pa7, pb7, pc7⟩ := FX.out _ B7
              clear h7 pa6 pb6 pc6
              go_wp2_with fail
              refine (Va.out _ B7).mono ?_
              rintro e w8 ⟨rfl, h8⟩
              have B8 := B7.trans (h8.mono B7.size)
              obtain ⟨pa8, pb8, pc8⟩ := FX.out _ B8
              clear h8 pa7 pb7 pc7
              go_wp2_with fail
              refine (Vb.out _ B8).mono ?_
              rintro e w9 ⟨rfl, h9⟩
              have B9 := B8.trans (h9.mono B8.size)
              obtain ⟨pa9, pb9, pc9⟩ := FX.out _ B9
              clear h9 pa8 pb8 pc8
              go_wp2_with fail
              refine (Vc.out _ B9).mono ?_
              rintro e w10 ⟨rfl, h10⟩
              have B10 := B9.trans (h10.mono B9.size)
              obtain ⟨pa10, pb10, pc10⟩ := FX.out _ B10
              clear h10 pa9 pb9 pc9
              go_wp2
              go_ret
              exact ⟨rfl, FB.out.trans (B10.mono FB.out.size)⟩
end Go.Proofs.Ytfpdoafpimaoaaa.Vl
