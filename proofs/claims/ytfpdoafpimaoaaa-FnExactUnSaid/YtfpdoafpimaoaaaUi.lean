/- The walk of the law on Un. -/
import Derived.Test.YtfpdoafpimaoaaaUg
import Derived.Test.YtfpdoafpimaoaaaUh
import Derived.Deep.CutRange
namespace Go.Proofs.Ytfpdoafpimaoaaa.Vl
open Go.RowKit T.atoms T.ok T.high T.good T.allPlain

theorem UPost.row {w w' : World} {r : List At × List UInt8} {e : Ending} (h : UPost w r e w') : ∃ v, e = .returned (.tuple #[.agg #[v], .string (txt r.2)]) ∧ RowS w' w.heap.size w'.heap.size v r.1 ∧ Below w.heap.size w w' := by
  obtain ⟨v, h1, h2, h3⟩ := h
  refine ⟨v, h1, ?_, h3⟩
  rcases h2 with h2 | ⟨g, hg, h4, h5, h6⟩
  · exact .inl h2
  · exact .inr ⟨g, 1, by rw [h5]; exact h4, hg, h6.1, h6⟩
theorem PPost.row {w w' : World} {r : List At × List UInt8} {e : Ending} (h : PPost w r e w') : ∃ v, e = .returned (.tuple #[.agg #[v], .string (txt r.2)]) ∧ RowN w' w.heap.size v r.1 ∧ Below w.heap.size w w' := by
  obtain ⟨v, h1, h2, h3⟩ := h
  refine ⟨v, h1, ?_, h3⟩
  rcases h2 with h2 | ⟨a, ha, g, c, rfl, ho⟩
  · exact .inl h2
  · refine .inr ⟨g, c, by rw [ha]; rfl, (ho.lt g rfl).1, ?_⟩
    rw [ha]
    exact row_mono ho (Nat.zero_le _)
theorem unRes_len (op : Int) (l : List At) : (unRes op l).1.length ≤ 1048576 := by
  unfold unRes
  split
  · split
    · unfold unOut
      split <;> try simp
      split <;> try simp
      split <;> simp
    · simp
  · simp

set_option maxRecDepth 100000 in
set_option maxHeartbeats 2000000 in
theorem lawU_any (op : Int) (l : List At) (v : Value) (w : World) (hop : (Lit.int .i64 op).wf = true) (hl : l.length ≤ 9223372036854775807) (hx : ∀ x ∈ l, x.text.size ≤ 9223372036854775807) (hn : ∀ x ∈ l, -9223372036854775808 ≤ x.n ∧ x.n ≤ 9223372036854775807) (ht : AtomsV w v l) :
    Calls Try.prog 6 #[.int .i64 op, .agg #[v]] w fun e w' => e = .returned (.bool true) ∧ Below w.heap.size w w' := by
  have r1 : Below w.heap.size w (w.alloc (.cells #[v] 34)) := (Below.refl _ _).alloc (Nat.le_refl _) _
  have HZ := hide (szValue_any 1048576 (by omega) (by omega) l v (w.alloc (.cells #[v] 34)) hl hx (ht.below r1))
  have HT := hide ht
  clear ht
  by_cases hr : szS l 1048576 < 0
  · have HZ2 := HZ.out
    rw [if_pos hr] at HZ2
    replace HZ2 := hide HZ2
    go_enter Try.func6, Try.ntmps6
    go_wp2_with fail
    refine HZ2.out.mono ?_
    rintro e w1 ⟨rfl, hb1⟩
    go_wp2
    go_ret
    exact ⟨rfl, r1.trans (hb1.mono (by simp))⟩
  · obtain ⟨hl2, hx2⟩ := szS_ok l 1048576 (by omega) hr
    have HZ2 := HZ.out
    rw [if_neg hr] at HZ2
    replace HZ2 := hide HZ2
    have HX := hide hn
    clear HZ hx hl hx2 hn
    generalize szS l 1048576 = r at *
    have HTT : Hid (∀ w', Below w.heap.size w w' → Calls Try.prog 13 #[.agg #[v]] w' fun e w'' => ∃ g, e = .returned (.agg #[.slice (some ⟨g, 0, none⟩) l.length l.length]) ∧ OwnA w'' w'.heap.size g l ∧ w'.heap.size ≤ g ∧ Below w'.heap.size w' w'') := hide fun w' hb => toValueO_any l v w' hl2 (HT.out.below hb)
    have HRS := hide (fun tg w' (h : AtomsAt w' tg l) => (specUn_any op l tg l.length w' h (Nat.le_refl _) hl2 HX.out).mono fun _ _ h => UPost.row h)
    have HRI := hide (fun tg w' (h : AtomsAt w' tg l) => (implUn_any op l tg l.length w' hop hl2 HX.out h).mono fun _ _ h => PPost.row h)
    have HLN := unRes_len op l
    generalize unRes op l = R at *
    obtain ⟨b, k⟩ := R
    simp only at HRS HRI HLN
    go_enter Try.func6, Try.ntmps6
    go_wp2_with fail
    refine HZ2.out.mono ?_
    rintro e w1 ⟨rfl, hb1⟩
    have L1 : LB5 w v w1 := ⟨r1.trans (hb1.mono (by simp)), (hb1.cell (p := ⟨w.heap.size, 0, none⟩) (by simp)).trans (by simp), Nat.lt_of_lt_of_le (by simp) hb1.size⟩
    clear hb1
    have c1 := L1.c
    have HL1 := hide L1
    go_wp2_with fail
    refine (HTT.out _ HL1.out.B).mono ?_
    rintro e w2 ⟨ga, rfl, na, hga, hb2⟩
    have HL2 := hide (HL1.out.below hb2 HL1.out.z)
    have HNA := hide na.atoms
    clear hb2 na L1 c1 HL1
    go_wp2_with fail
    refine (HRS.out _ _ HNA.out).mono ?_
    rintro e w3 ⟨vs, rfl, hs3, hb3⟩
    obtain ⟨ps, ms, cs, rfl⟩ := hs3.slice
    obtain ⟨t3, u3, z3⟩ := box_in w3 (.slice ps ms cs)
    have HL3' := hide (HL2.out.below hb3 HL2.out.z)
    have HR3 : Hid (LR w v (.slice ps ms cs) w2.heap.size w3.heap.size b (w3.alloc (.cells #[.slice ps ms cs] 25))) := hide ⟨HL3'.out.below t3 HL3'.out.z, u3, hs3.below t3 (Nat.le_refl _), HL3'.out.z, by rw [z3]; exact Nat.lt_succ_self _⟩
    have c3 := HR3.out.L.c
    clear hb3 hs3 HNA HL2 hga u3 t3 HL3'
    go_wp2_with fail
    refine (HTT.out _ HR3.out.L.B).mono ?_
    rintro e w4 ⟨gb, rfl, nb, hgb, hb4⟩
    rw [z3] at hb4 hgb
    obtain ⟨t4, u4, z4⟩ := box_in w4 (.slice (some ⟨gb, 0, none⟩) l.length l.length)
    have hz4 := hb4.size
    rw [z3] at hz4
    have HR4 := hide ((HR3.out.below hb4 (Nat.lt_succ_self _)).below t4 (by omega))
    have HX4 : Hid (LX (w3.heap.size + 1) w4.heap.size gb l (w4.alloc (.cells #[.slice (some ⟨gb, 0, none⟩) l.length l.length] 25))) := hide ⟨u4, by rw [← z3]; exact nb.alloc (.cells #[.slice (some ⟨gb, 0, none⟩) l.length l.length] 25), (nb.lt gb rfl).2, by rw [z4]; exact Nat.lt_succ_self _⟩
    clear hb4 nb t4 c3 HR3
    have HB5 := hide (HRI.out gb _ (OwnA.atoms HX4.out.N))
    go_wp2_with fail
    refine HB5.out.mono ?_
    rintro e w5 ⟨vg, rfl, hg5, hb5⟩
    rw [z4] at hb5 hg5
    obtain ⟨pg, mg, cg, rfl⟩ := hg5.slice
    obtain ⟨t5, u5, z5⟩ := box_in w5 (.slice pg mg cg)
    have hz5 := hb5.size
    rw [z4] at hz5
    have HR5 := hide ((HR4.out.below hb5 (by omega)).below t5 (by omega))
    have HX5 := hide ((HX4.out.below hb5 (Nat.lt_succ_self _)).below t5 (by omega))
    have HG5 : Hid (LG (.slice pg mg cg) (w4.heap.size + 1) w5.heap.size b.length (cellsOf b) (w5.alloc (.cells #[.slice pg mg cg] 25))) := hide ⟨u5, hg5.upto.below t5 (Nat.le_refl _), by rw [z5]; exact Nat.lt_succ_self _⟩
    have d5 := HR5.out.U
    clear hb5 hg5 t5 HB5 HR4 HX4 u4
    go_wp2_with fail
    refine (eqValue_v b _ _ _ HLN HG5.out.R.ats HR5.out.S.ats).mono ?_
    rintro e w6 ⟨rfl, hb6⟩
    have hz6 := hb6.size
    rw [z5] at hz6 hb6
    have HR6 := hide (HR5.out.below hb6 (by omega))
    have HX6 := hide (HX5.out.below hb6 (by omega))
    have HG6 := hide (HG5.out.below hb6 (by omega))
    have x6 := HX6.out.X
    have c6 := HR6.out.L.c
    have hzz6 : w4.heap.size < w6.heap.size := by omega
    clear hb6 d5 u5 HR5 HX5 HG5
    go_upto_region 10 with fail
    go_cut [49] from 45 to 49 (fun v49 wx => v49 = .bool false ∧ Below w6.heap.size w6 wx)
    case first =>
      go_region_with (first
        | (go_at_call 13; refine (HTT.out _ HR6.out.L.B.drew).mono ?_; rintro e w7 ⟨gc, rfl, nc, hgc, hb7⟩; have s7 := (hb7.cell (p := ⟨w4.heap.size, 0, none⟩) hzz6).trans x6; have nb7 := (OwnA.atoms HX6.out.N).below ((Below.refl _ _).drew.trans hb7))
        | (go_at_call 15; refine (eqValue_same l gb gc l.length l.length _ hl2 nb7 nc.atoms).mono ?_; rintro e w8 ⟨rfl, hb8⟩))
      all_goals
        go_wp2_with fail
        go_meet
        case rel => exact ⟨rfl, (Below.refl _ _).drew.trans (hb7.trans (hb8.mono hb7.size))⟩
    case rest =>
      obtain ⟨rfl, hb8⟩ := hcut
      have hz8 := hb8.size
      have HR8 := hide (HR6.out.below hb8 (by omega))
      have HX8 := hide (HX6.out.below hb8 (by omega))
      have HG8 := hide (HG6.out.below hb8 (by omega))
      have x8 := HX8.out.X
      have hgb4 := HX8.out.o
      clear hb8 x6 c6 HR6 HX6 HG6
      have HMT := hide (markValue_any 1 l.length gb l.length (w3.heap.size + 1) _ wc (by omega) (by omega) hl2 HX8.out.N (by omega))
      go_wp2_with fail
      refine HMT.out.mono ?_
      rintro e w9 ⟨rfl, _, hfr9, hb9⟩
      have hz9 := hb9.size
      have HR9 := hide (HR8.out.below hb9 (Nat.lt_succ_self _))
      have HG9 := hide (HG8.out.but hb9.size hfr9 (by omega) (by omega))
      have g9 := HG9.out.G
      have d9 := HR9.out.U
      clear hb9 hfr9 x8 HR8 HX8 HG8 HMT
      have hkp : ¬ (1 + 4 * (l.length : Int) < 0) := by omega
      have hkd : decide (1 + 4 * (l.length : Int) < 0) = false := by simp; omega
      go_wp2_with fail
      refine (eqValue_v b _ _ _ HLN HG9.out.R.ats HR9.out.S.ats).mono ?_
      rintro e w10 ⟨rfl, hb10⟩
      have hz10 := hb10.size
      have HR10 := hide (HR9.out.below hb10 (by omega))
      have HG10 := hide (HG9.out.below hb10 (by omega))
      have g10 := HG10.out.G
      clear hb10 HR9 HG9 g9 d9
      go_wp2_with fail
      refine (markT_t b.length _ _ _ _ w10 HLN (by omega) HG10.out.R).mono ?_
      rintro e w11 ⟨rfl, hr11, hfr11, hb11⟩
      have hz11 := hb11.size
      have HR11 := hide (HR10.out.below hb11 (by omega))
      have HG11 : Hid (LG (.slice pg mg cg) (w4.heap.size + 1) w5.heap.size b.length (marked4 1 b.length) w11) := hide ⟨(World.cell?_of_block (a := ⟨w5.heap.size, 0, none⟩) (hfr11 _ (by show w5.heap.size < w10.heap.size; omega) (Nat.le_refl _))).trans g10, hr11, by omega⟩
      have g11 := HG11.out.G
      clear hb11 hfr11 hr11 HR10 HG10 g10
      go_wp2_with fail
      refine (heldT_t b.length _ _ _ w11 HLN HG11.out.R).mono ?_
      rintro e w12 ⟨rfl, hb12⟩
      have hz12 := hb12.size
      have HR12 := hide (HR11.out.below hb12 (by omega))
      have HG12 := hide (HG11.out.below hb12 (by omega))
      have c12 := HR12.out.L.c
      clear hb12 HR11 HG11 g11
      have hnn : ¬ (1 + 4 * (b.length : Int) < 0) := by omega
      go_wp2_with fail
      refine (HTT.out _ HR12.out.L.B).mono ?_
      rintro e w13 ⟨gd, rfl, nd, hgd, hb13⟩
      have hz13 := hb13.size
      have HR13 := hide (HR12.out.below hb13 (by omega))
      have HG13 := hide (HG12.out.below hb13 (by omega))
      have HND := hide nd.atoms
      clear hb13 nd hgd c12 HR12 HG12
      have HB14 := hide (HRI.out gd _ HND.out)
      go_wp2_with fail
      refine HB14.out.mono ?_
      rintro e w14 ⟨vh, rfl, hrh, hb14⟩
      have hz14 := hb14.size
      obtain ⟨ph, mh, ch, rfl⟩ := hrh.slice
      obtain ⟨t14, u14, z14⟩ := box_in w14 (.slice ph mh ch)
      have HR14 := hide ((HR13.out.below hb14 (by omega)).below t14 (by omega))
      have HG14 := hide ((HG13.out.below hb14 (by omega)).below t14 (by omega))
      have HRH := hide (hrh.upto.below t14 (Nat.le_refl _))
      have d14 := HR14.out.U
      clear hb14 hrh t14 HR13 HG13 HB14 HND
      go_wp2_with fail
      refine (eqValue_v b _ _ _ HLN HRH.out.ats HR14.out.S.ats).mono ?_
      rintro e w15 ⟨rfl, hb15⟩
      have hz15 := hb15.size
      rw [z14] at hb15 hz15
      have HR15 := hide (HR14.out.below hb15 (by omega))
      have HG15 := hide (HG14.out.below hb15 (by omega))
      have g15 := HG15.out.G
      clear hb15 u14 d14 HR14 HG14 HRH
      go_wp2_with fail
      refine (heldT_t b.length _ _ _ w15 HLN HG15.out.R).mono ?_
      rintro e w16 ⟨rfl, hb16⟩
      have HR16 := hide (HR15.out.below hb16 (by omega))
      clear hb16 g15 HR15 HG15
      go_wp2
      go_ret
      exact ⟨rfl, HR16.out.L.B⟩
end Go.Proofs.Ytfpdoafpimaoaaa.Vl
