/- Joined: Wd. -/
import Derived.Test.YtnkfbjcgkdblgaaGreatG50
namespace Go.Proofs.YtnkfbjcgkdblgaaGreat.Vl
open Go.RowKit T.atoms T.ok T.high T.good T.allPlain

theorem szGo_le (l : List At) : ∀ left : Int, left ≤ 1048576 → szGo l left ≤ 1048576 := by
  induction l with
  | nil => intro left h; exact h
  | cons y r ih =>
    intro left h
    rw [szGo]
    split
    · omega
    · exact ih _ (by omega)
theorem szS_le (l : List At) (L : Int) (h : L ≤ 1048576) : szS l L ≤ 1048576 := by
  unfold szS
  split
  · omega
  · exact szGo_le l _ (by omega)
/-- With what the specification answered. -/
structure LS (w : World) (v v' vs : Value) (q lo h : Nat) (b : List At) (W : World) : Prop where
  L : LB6 w v v' W
  U : W.cell? ⟨q, 0, none⟩ = some vs
  S : RowS W lo h vs b
  o : q < h
  p : w.heap.size + 1 < h
  z : h ≤ W.heap.size
theorem LS.below {w W W' : World} {v v' vs : Value} {q lo h k : Nat} {b : List At} (H : LS w v v' vs q lo h b W) (hb : Below k W W') (hk : h ≤ k) : LS w v v' vs q lo h b W' :=
  ⟨H.L.below hb (by have := H.p; omega), (hb.cell (p := ⟨q, 0, none⟩) (by have := H.o; show q < k; omega)).trans H.U, H.S.below hb hk, H.o, H.p, Nat.le_trans H.z hb.size⟩
theorem LX.but {W W' : World} {q3 q4 gb g : Nat} {l : List At} (h : LX q3 q4 gb l W) (hs : W.heap.size ≤ W'.heap.size) (hb : ∀ b, b < W.heap.size → b ≠ g → W'.heap[b]? = W.heap[b]?) (h1 : q4 ≠ g) (h2 : gb ≠ g) : LX q3 q4 gb l W' :=
  ⟨(World.cell?_of_block (a := ⟨q4, 0, none⟩) (hb q4 h.z h1)).trans h.X, row_same h.N (hb gb (by have := h.o; have := h.z; omega) h2), h.o, Nat.lt_of_lt_of_le h.z hs⟩
theorem RowN.some {w : World} {B : Nat} {v : Value} {l : List At} (h : RowN w B v l) : RowS w B w.heap.size v l := by
  rcases h with h | ⟨g, c, h1, h2, h3⟩
  · exact .inl h
  · subst h1
    exact .inr ⟨g, c, rfl, h2, (h3.lt g rfl).2, atoms_of_row h3⟩
theorem A0 (W : World) : Below W.heap.size W (W.alloc (.cells #[.slice none 0 0] 28)) := (Below.refl _ _).alloc (Nat.le_refl _) _
/-- A box with an answer, as a region that draws leaves it. -/
def AnsP (w : World) (v v' : Value) (W0 : World) (b : List At) (k : List UInt8) (v8 v9 : Value) (W : World) : Prop := ∃ q lo ps ms cs, v8 = .pointer (some ⟨q, 0, none⟩) ∧ v9 = .string ⟨k.toArray⟩ ∧ LS w v v' (.slice ps ms cs) q lo W.heap.size b W ∧ W0.heap.size ≤ q ∧ Below W0.heap.size W0 W
theorem ans_old {w W0 W5 : World} {v v' vz : Value} {q B : Nat} {b : List At} {k : List UInt8} (L : LB6 w v v' W5) (X : BX q W5) (hr : RowS W5 B W5.heap.size vz b) (hB : q < B) (hk : W0.heap.size ≤ q) (hw : w.heap.size + 1 < q) (hB5 : Below W0.heap.size W0 W5) : AnsP w v v' W0 b k (.pointer (some ⟨q, 0, none⟩)) (.string ⟨k.toArray⟩) (W5.setCell ⟨q, 0, none⟩ vz) := by
  obtain ⟨ps, ms, cs, rfl⟩ := hr.slice
  have hs : (W5.setCell ⟨q, 0, none⟩ (.slice ps ms cs)).heap.size = W5.heap.size := by simp
  have hb : Below q W5 (W5.setCell ⟨q, 0, none⟩ (.slice ps ms cs)) := (Below.refl _ _).setCell (p := ⟨q, 0, none⟩) (Nat.le_refl _) _
  refine ⟨q, B, ps, ms, cs, rfl, rfl, ⟨L.below hb hw, World.cell?_setCell_same _ _ _ X.c, ?_, ?_, ?_, ?_⟩, hk, hB5.trans (hb.mono hk)⟩
  · rw [hs]; exact hr.put (.inl hB)
  · rw [hs]; exact X.z
  · rw [hs]; exact L.z
  · exact Nat.le_refl _
theorem ans_new {w W0 W5 : World} {v v' vz : Value} {B : Nat} {b : List At} {k : List UInt8} (L : LB6 w v v' W5) (hr : RowS W5 B W5.heap.size vz b) (hB5 : Below W0.heap.size W0 W5) : AnsP w v v' W0 b k (.pointer (some ⟨W5.heap.size, 0, none⟩)) (.string ⟨k.toArray⟩) (W5.alloc (.cells #[vz] 28)) := by
  obtain ⟨ps, ms, cs, rfl⟩ := hr.slice
  obtain ⟨t3, u3, z3⟩ := box_in W5 (.slice ps ms cs)
  refine ⟨W5.heap.size, B, ps, ms, cs, rfl, rfl, ⟨L.below t3 L.z, u3, ?_, by rw [z3]; omega, by rw [z3]; have := L.z; omega, Nat.le_refl _⟩, hB5.size, hB5.trans (t3.mono hB5.size)⟩
  have hS := hr.below t3 (Nat.le_refl _)
  rcases hS with h | ⟨g, c, h1, h2, h3, h4⟩
  · exact .inl h
  · exact .inr ⟨g, c, h1, h2, by rw [z3]; omega, h4⟩

set_option maxRecDepth 100000 in
set_option maxHeartbeats 40000000 in
theorem lawOp_of (op : Int) (l l' : List At) (v v' : Value) (w : World) (hl : l.length ≤ 9223372036854775807) (hx : ∀ x ∈ l, x.text.size ≤ 9223372036854775807) (hn : ∀ x ∈ l, -9223372036854775808 ≤ x.n ∧ x.n ≤ 9223372036854775807) (ht : AtomsV w v l) (hl' : l'.length ≤ 9223372036854775807) (hx' : ∀ x ∈ l', x.text.size ≤ 9223372036854775807) (hn' : ∀ x ∈ l', -9223372036854775808 ≤ x.n ∧ x.n ≤ 9223372036854775807) (ht' : AtomsV w v' l') (b : List At) (k : List UInt8) (HLN : b.length ≤ 1048576)
    (hRS : l.length ≤ 1048576 → l'.length ≤ 1048576 → (∀ x ∈ l, -9223372036854775808 ≤ x.n ∧ x.n ≤ 9223372036854775807) → (∀ x ∈ l', -9223372036854775808 ≤ x.n ∧ x.n ≤ 9223372036854775807) → ∀ ga gb w', AtomsAt w' ga l → AtomsAt w' gb l' → Calls Tryz.prog 5 #[.int .i64 op, .agg #[.slice (some ⟨ga, 0, none⟩) l.length l.length], .agg #[.slice (some ⟨gb, 0, none⟩) l'.length l'.length]] w' fun e w'' => ∃ v, e = .returned (.tuple #[.agg #[v], .string ⟨k.toArray⟩]) ∧ RowS w'' w'.heap.size w''.heap.size v b ∧ Below w'.heap.size w' w'')
    (hRI : l.length ≤ 1048576 → l'.length ≤ 1048576 → (∀ x ∈ l, -9223372036854775808 ≤ x.n ∧ x.n ≤ 9223372036854775807) → (∀ x ∈ l', -9223372036854775808 ≤ x.n ∧ x.n ≤ 9223372036854775807) → ∀ ga gb w', AtomsAt w' ga l → AtomsAt w' gb l' → Below w.heap.size w w' → Calls Tryz.prog 7 #[.int .i64 op, .agg #[.slice (some ⟨ga, 0, none⟩) l.length l.length], .agg #[.slice (some ⟨gb, 0, none⟩) l'.length l'.length]] w' fun e w'' => ∃ v, e = .returned (.tuple #[.agg #[v], .string ⟨k.toArray⟩]) ∧ RowN w'' w'.heap.size v b ∧ Below w'.heap.size w' w'') :
    Calls Tryz.prog 3 #[.int .i64 op, .agg #[v], .agg #[v']] w fun e w' => e = .returned (.bool true) ∧ Below w.heap.size w w' := by
  have r1 : Below w.heap.size w ((w.alloc (.cells #[v] 24)).alloc (.cells #[v'] 24)) := ((Below.refl _ _).alloc (Nat.le_refl _) _).alloc (by simp) _
  have b0 : ((w.alloc (.cells #[v] 24)).alloc (.cells #[v'] 24)).cell? ⟨w.heap.size, 0, none⟩ = some v := (((Below.refl (w.heap.size + 1) (w.alloc (.cells #[v] 24))).alloc (by simp) _).cell (p := ⟨w.heap.size, 0, none⟩) (Nat.lt_succ_self _)).trans (cell_new w v 24).1
  have b1 : ((w.alloc (.cells #[v] 24)).alloc (.cells #[v'] 24)).cell? ⟨w.heap.size + 1, 0, none⟩ = some v' := by
    have n2 := (cell_new (w.alloc (.cells #[v] 24)) v' 24).1
    rwa [World.size_alloc] at n2
  have HZ := hide (szValue_any 1048576 (by omega) (by omega) l v _ hl hx (ht.below r1))
  have HT := hide ht
  have HT' := hide ht'
  clear ht ht'
  by_cases hr : szS l 1048576 < 0
  · have HZ2 := HZ.out
    rw [if_pos hr] at HZ2
    replace HZ2 := hide HZ2
    go_enter Tryz.func3, Tryz.ntmps3
    go_wp2_with fail
    refine HZ2.out.mono ?_
    rintro e w1 ⟨rfl, hb1⟩
    go_wp2
    go_ret
    exact ⟨rfl, r1.trans (hb1.mono r1.size)⟩
  · obtain ⟨hl2, hx2⟩ := szS_ok l 1048576 (by omega) hr
    have HZ2 := HZ.out
    rw [if_neg hr] at HZ2
    replace HZ2 := hide HZ2
    have hle := szS_le l 1048576 (by omega)
    clear HZ hx hl hx2
    generalize szS l 1048576 = r at *
    have HZ3 := hide (fun w1 (hb : Below w.heap.size w w1) => szValue_any r (by omega) hle l' v' w1 hl' hx' (HT'.out.below hb))
    go_enter Tryz.func3, Tryz.ntmps3
    go_wp2_with fail
    refine HZ2.out.mono ?_
    rintro e w1 ⟨rfl, hb1⟩
    have B1 := r1.trans (hb1.mono r1.size)
    have z1 : w.heap.size + 1 < w1.heap.size := Nat.lt_of_lt_of_le (by simp) hb1.size
    have c0 := (hb1.cell (p := ⟨w.heap.size, 0, none⟩) (by show w.heap.size < _; simp; omega)).trans b0
    have c1 := (hb1.cell (p := ⟨w.heap.size + 1, 0, none⟩) (by show w.heap.size + 1 < _; simp)).trans b1
    clear hb1 b0 b1 HZ2
    by_cases hr2 : szS l' r < 0
    · have HZ4 := HZ3.out _ B1
      rw [if_pos hr2] at HZ4
      replace HZ4 := hide HZ4
      go_wp2_with fail
      refine HZ4.out.mono ?_
      rintro e w2 ⟨rfl, hb2⟩
      go_wp2
      go_ret
      exact ⟨rfl, B1.trans (hb2.mono B1.size)⟩
    · obtain ⟨hl2', hx2'⟩ := szS_ok l' r hle hr2
      have HZ4 := HZ3.out _ B1
      rw [if_neg hr2] at HZ4
      replace HZ4 := hide HZ4
      clear HZ3 hx' hl' hx2'
      generalize szS l' r = r2 at *
      have HX := hide hn
      have HX' := hide hn'
      clear hn hn'
      go_wp2_with fail
      refine HZ4.out.mono ?_
      rintro e w2 ⟨rfl, hb2⟩
      have HL2 : Hid (LB6 w v v' w2) := hide ((LB6.mk B1 c0 c1 z1).below hb2 z1)
      have x2 := HL2.out.c
      have y2 := HL2.out.c'
      clear hb2 c0 c1 HZ4 B1 z1
      have HTA : Hid (∀ w', LB6 w v v' w' → Calls Tryz.prog 6 #[.agg #[v]] w' fun e w'' => ∃ g, e = .returned (.agg #[.slice (some ⟨g, 0, none⟩) l.length l.length]) ∧ OwnA w'' w'.heap.size g l ∧ w'.heap.size ≤ g ∧ Below w'.heap.size w' w'') := hide fun w' hb => toValueO_any l v w' hl2 (HT.out.below hb.B)
      have HTB : Hid (∀ w', LB6 w v v' w' → Calls Tryz.prog 6 #[.agg #[v']] w' fun e w'' => ∃ g, e = .returned (.agg #[.slice (some ⟨g, 0, none⟩) l'.length l'.length]) ∧ OwnA w'' w'.heap.size g l' ∧ w'.heap.size ≤ g ∧ Below w'.heap.size w' w'') := hide fun w' hb => toValueO_any l' v' w' hl2' (HT'.out.below hb.B)
      have HRS := hide (hRS hl2 hl2' HX.out HX'.out)
      have HRI := hide (fun ga gb w' (h : AtomsAt w' ga l) (h' : AtomsAt w' gb l') (hL : LB6 w v v' w') => hRI hl2 hl2' HX.out HX'.out ga gb w' h h' hL.B)
      clear hRS hRI
      go_upto_region 8 with fail
      go_cut [8, 9] from 29 to 37 (fun v8 v9 wx => AnsP w v v' w2 b k v8 v9 wx)
      case first =>
        have x2s := (HL2.out.drew.below (A0 w2.drew) HL2.out.z).c
        have y2s := (HL2.out.drew.below (A0 w2.drew) HL2.out.z).c'
        have z2a : w.heap.size + 1 < w2.heap.size := HL2.out.z
        have z2b : w.heap.size < w2.heap.size := by omega
        go_region_with (first
        | (go_at_call 5; have hX := X4; refine (HRS.out ga3 gb4 w4r (na3.atoms.below hb4r) nb4.atoms).mono ?_; rintro e w5r ⟨vz, rfl, hrz, hb5r⟩; skip; obtain ⟨pz, mz, cz, rfl⟩ := hrz.slice; have L5 := L4.below hb5r L4.z; have X5 := hX.below hb5r; have c5 := X5.c; have f5 := X5.f; have hlo := X4.z; have B5 := B4.trans (hb5r.mono B4.size))
        | (go_at_call 5; refine (HRS.out ga3 gb4 w4r (na3.atoms.below hb4r) nb4.atoms).mono ?_; rintro e w5r ⟨vz, rfl, hrz, hb5r⟩; skip; obtain ⟨pz, mz, cz, rfl⟩ := hrz.slice; have L5 := L4.below hb5r L4.z; have B5 := B4.trans (hb5r.mono B4.size))
        | (go_at_call 5; refine (HRS.out ga3 gb4 (w4r.alloc (.cells #[.slice none 0 0] 28)) ((na3.atoms.below hb4r).below A4) (nb4.atoms.below A4)).mono ?_; rintro e w5r ⟨vz, rfl, hrz, hb5r⟩; skip; obtain ⟨pz, mz, cz, rfl⟩ := hrz.slice; have L5 := (L4.below A4 L4.z).below hb5r (L4.below A4 L4.z).z; have X5 := (BX.new w4r).below hb5r; have c5 := X5.c; have f5 := X5.f; have hlo := (BX.new w4r).z; have B5 := B4.trans ((A4.trans (hb5r.mono A4.size)).mono B4.size))
        | (have hX := X3; refine (HTB.out w3r L3).mono ?_; rintro e w4r ⟨gb4, rfl, nb4, _, hb4r⟩; have L4 := L3.below hb4r L3.z; have X4 := hX.below hb4r; have A4 := A0 w4r; have B4 := B3.trans (hb4r.mono B3.size))
        | (have hL := L3; refine (HTB.out w3r L3).mono ?_; rintro e w4r ⟨gb4, rfl, nb4, _, hb4r⟩; have L4 := L3.below hb4r L3.z; have A4 := A0 w4r; have B4 := B3.trans (hb4r.mono B3.size))
        | (have hL := L3; refine (HTB.out (w3r.alloc (.cells #[.slice none 0 0] 28)) (L3.below (A0 w3r) L3.z)).mono ?_; rintro e w4r ⟨gb4, rfl, nb4, _, hb4q⟩; have hb4r := (A0 w3r).trans (hb4q.mono (A0 w3r).size); have L4 := L3.below hb4r L3.z; have X4 := (BX.new w3r).below hb4q; have A4 := A0 w4r; have B4 := B3.trans (hb4r.mono B3.size))
        | (refine (HTA.out w2.drew HL2.out.drew).mono ?_; rintro e w3r ⟨ga3, rfl, na3, _, hb3r⟩; have L3 := HL2.out.drew.below hb3r HL2.out.z; have x3r := L3.c; have y3r := L3.c'; have y3s := (L3.below (A0 w3r) L3.z).c'; have B3 := (Below.refl _ w2).drew.trans hb3r)
        | (refine (HTA.out (w2.drew.alloc (.cells #[.slice none 0 0] 28)) (HL2.out.drew.below (A0 _) HL2.out.z)).mono ?_; rintro e w3r ⟨ga3, rfl, na3, _, hb3q⟩; have hb3r := (A0 w2.drew).trans (hb3q.mono (A0 _).size); have L3 := HL2.out.drew.below hb3r HL2.out.z; have X3 : BX w2.heap.size w3r := (BX.new w2.drew).below hb3q; have x3r := L3.c; have y3r := L3.c'; have y3s := (L3.below (A0 w3r) L3.z).c'; have B3 := (Below.refl _ w2).drew.trans hb3r))
        all_goals
          have hz3 := B3.size
          have hz4 := B4.size
          have hzL := HL2.out.z
          go_wp2_with fail
          go_meet
          case rel =>
            first
              | exact ans_old L5 X5 hrz hlo (by omega) (by omega) B5
              | exact ans_new L5 hrz B5
      case rest =>
        obtain ⟨q, lo, ps, ms, cs, rfl, rfl, hS0, _, _⟩ := hcut
        obtain ⟨w3, hw3⟩ : ∃ x, x = wc := ⟨wc, rfl⟩
        subst hw3
        have HR3 := hide hS0
        have c3 := HR3.out.L.c
        clear hS0 HL2 HRS x2 y2
        go_wp2_with fail
        refine (HTA.out _ HR3.out.L).mono ?_
        rintro e w4 ⟨ga, rfl, na, hga, hb4⟩
        obtain ⟨t4, u4, z4⟩ := box_in w4 (.slice (some ⟨ga, 0, none⟩) l.length l.length)
        have hz4 := hb4.size
        have HR4 := hide ((HR3.out.below hb4 (Nat.le_refl _)).below t4 hz4)
        have HX4 : Hid (LX w3.heap.size w4.heap.size ga l (w4.alloc (.cells #[.slice (some ⟨ga, 0, none⟩) l.length l.length] 28))) := hide ⟨u4, na.alloc (.cells #[.slice (some ⟨ga, 0, none⟩) l.length l.length] 28), (na.lt ga rfl).2, by rw [z4]; exact Nat.lt_succ_self _⟩
        have d4 := HR4.out.L.c'
        have hga4 := HX4.out.o
        clear hb4 na t4 u4 c3 HR3
        go_wp2_with fail
        refine (HTB.out _ HR4.out.L).mono ?_
        rintro e w5 ⟨gb, rfl, nb, hgb, hb5⟩
        rw [z4] at hb5 hgb
        obtain ⟨t5, u5, z5⟩ := box_in w5 (.slice (some ⟨gb, 0, none⟩) l'.length l'.length)
        have hz5 := hb5.size
        rw [z4] at hz5
        have HR5 := hide ((HR4.out.below hb5 (by omega)).below t5 (by omega))
        have HX5 := hide ((HX4.out.below hb5 (Nat.lt_succ_self _)).below t5 (by omega))
        have HY5 : Hid (LX (w4.heap.size + 1) w5.heap.size gb l' (w5.alloc (.cells #[.slice (some ⟨gb, 0, none⟩) l'.length l'.length] 28))) := hide ⟨u5, by rw [← z4]; exact nb.alloc (.cells #[.slice (some ⟨gb, 0, none⟩) l'.length l'.length] 28), (nb.lt gb rfl).2, by rw [z5]; exact Nat.lt_succ_self _⟩
        have hgb5 := HY5.out.o
        clear hb5 nb t5 d4 HR4 HX4
        have HB6 := hide (HRI.out ga gb _ (OwnA.atoms HX5.out.N) (OwnA.atoms HY5.out.N) HR5.out.L)
        have x5 := HX5.out.X
        go_wp2_with fail
        refine HB6.out.mono ?_
        rintro e w6 ⟨vg, rfl, hg6, hb6⟩
        rw [z5] at hb6 hg6
        obtain ⟨pg, mg, cg, rfl⟩ := hg6.slice
        obtain ⟨t6, u6, z6⟩ := box_in w6 (.slice pg mg cg)
        have hz6 := hb6.size
        rw [z5] at hz6
        have HR6 := hide ((HR5.out.below hb6 (by omega)).below t6 (by omega))
        have HX6 := hide ((HX5.out.below hb6 (by omega)).below t6 (by omega))
        have HY6 := hide ((HY5.out.below hb6 (Nat.lt_succ_self _)).below t6 (by omega))
        have HG6 : Hid (LG (.slice pg mg cg) (w5.heap.size + 1) w6.heap.size b.length (cellsOf b) (w6.alloc (.cells #[.slice pg mg cg] 28))) := hide ⟨u6, hg6.upto.below t6 (Nat.le_refl _), by rw [z6]; exact Nat.lt_succ_self _⟩
        have d6 := HR6.out.U
        clear hb6 hg6 t6 HB6 HR5 HX5 HY5 u5 x5
        go_wp2_with fail
        refine (eqValue_v b _ _ _ HLN HG6.out.R.ats HR6.out.S.ats).mono ?_
        rintro e w7 ⟨rfl, hb7⟩
        have hz7 := hb7.size
        rw [z6] at hz7 hb7
        have HR7 := hide (HR6.out.below hb7 (by omega))
        have HX7 := hide (HX6.out.below hb7 (by omega))
        have HY7 := hide (HY6.out.below hb7 (by omega))
        have HG7 := hide (HG6.out.below hb7 (by omega))
        have x7 := HX7.out.X
        have c7 := HR7.out.L.c
        have hzz7 : w4.heap.size < w7.heap.size := by omega
        clear hb7 d6 u6 HR6 HX6 HY6 HG6
        go_upto_region 14 with fail
        go_cut [62] from 58 to 62 (fun v62 wx => v62 = .bool false ∧ Below w7.heap.size w7 wx)
        case first =>
          go_region_with (first
            | (go_at_call 6; refine (HTA.out _ HR7.out.L.drew).mono ?_; rintro e w8 ⟨gc, rfl, nc, hgc, hb8⟩; have s8 := (hb8.cell (p := ⟨w4.heap.size, 0, none⟩) hzz7).trans x7; have na8 := (OwnA.atoms HX7.out.N).below ((Below.refl _ _).drew.trans hb8))
            | (go_at_call 8; refine (eqValue_same l ga gc l.length l.length _ hl2 na8 nc.atoms).mono ?_; rintro e w9 ⟨rfl, hb9⟩))
          all_goals
            go_wp2_with fail
            go_meet
            case rel => exact ⟨rfl, (Below.refl _ _).drew.trans (hb8.trans (hb9.mono hb8.size))⟩
        case rest =>
          obtain ⟨rfl, hb8⟩ := hcut
          obtain ⟨wc8, hw8⟩ : ∃ x, x = wc := ⟨wc, rfl⟩
          subst hw8
          have hz8 := hb8.size
          have HR8 := hide (HR7.out.below hb8 (by omega))
          have HX8 := hide (HX7.out.below hb8 (by omega))
          have HY8 := hide (HY7.out.below hb8 (by omega))
          have HG8 := hide (HG7.out.below hb8 (by omega))
          have x8 := HY8.out.X
          have c8 := HR8.out.L.c'
          have hzz8 : w5.heap.size < wc8.heap.size := by omega
          clear hb8 x7 c7 HR7 HX7 HY7 HG7
          go_upto_region 16 with fail
          go_cut [67] from 63 to 67 (fun v67 wx => v67 = .bool false ∧ Below wc8.heap.size wc8 wx)
          case first =>
            go_region_with (first
              | (go_at_call 6; refine (HTB.out _ HR8.out.L.drew).mono ?_; rintro e w9 ⟨gc, rfl, nc, hgc, hb9⟩; have s9 := (hb9.cell (p := ⟨w5.heap.size, 0, none⟩) hzz8).trans x8; have na9 := (OwnA.atoms HY8.out.N).below ((Below.refl _ _).drew.trans hb9))
              | (go_at_call 8; refine (eqValue_same l' gb gc l'.length l'.length _ hl2' na9 nc.atoms).mono ?_; rintro e w10 ⟨rfl, hb10⟩))
            all_goals
              go_wp2_with fail
              go_meet
              case rel => exact ⟨rfl, (Below.refl _ _).drew.trans (hb9.trans (hb10.mono hb9.size))⟩
          case rest =>
            obtain ⟨rfl, hb9⟩ := hcut
            obtain ⟨wc9, hw9⟩ : ∃ x, x = wc := ⟨wc, rfl⟩
            subst hw9
            have hz9 := hb9.size
            have HR9 := hide (HR8.out.below hb9 (by omega))
            have HX9 := hide (HX8.out.below hb9 (by omega))
            have HY9 := hide (HY8.out.below hb9 (by omega))
            have HG9 := hide (HG8.out.below hb9 (by omega))
            have x9 := HX9.out.X
            clear hb9 x8 c8 HR8 HX8 HY8 HG8
            have HMT := hide (markValue_any 1 l.length ga l.length w3.heap.size _ wc9 (by omega) (by omega) hl2 HX9.out.N (by omega))
            go_wp2_with fail
            refine HMT.out.mono ?_
            rintro e w10 ⟨rfl, _, hfr10, hb10⟩
            have hz10 := hb10.size
            have HR10 := hide (HR9.out.below hb10 (Nat.le_refl _))
            have HY10 := hide (HY9.out.but hb10.size hfr10 (by omega) (by omega))
            have HG10 := hide (HG9.out.but hb10.size hfr10 (by omega) (by omega))
            have y10 := HY10.out.X
            clear hb10 hfr10 x9 HR9 HX9 HY9 HG9 HMT
            have HM2 := markValue_any (1 + 4 * l.length) l'.length gb l'.length (w4.heap.size + 1) _ w10 (by omega) (by omega) hl2' HY10.out.N (by omega)
            rw [show (((1 + 4 * l.length : Nat) : Int)) = 1 + 4 * (l.length : Int) from by omega] at HM2
            replace HM2 := hide HM2
            go_wp2_with fail
            refine HM2.out.mono ?_
            rintro e w11 ⟨rfl, _, hfr11, hb11⟩
            have hz11 := hb11.size
            have HR11 := hide (HR10.out.below hb11 (by omega))
            have HG11 := hide (HG10.out.but hb11.size hfr11 (by omega) (by omega))
            have g11 := HG11.out.G
            have d11 := HR11.out.U
            clear hb11 hfr11 y10 HR10 HY10 HG10 HM2
            have hkp : ¬ (1 + 4 * (l.length : Int) + 4 * (l'.length : Int) < 0) := by omega
            have hkd : decide (1 + 4 * (l.length : Int) + 4 * (l'.length : Int) < 0) = false := by simp; omega
            go_wp2_with fail
            refine (eqValue_v b _ _ _ HLN HG11.out.R.ats HR11.out.S.ats).mono ?_
            rintro e w12 ⟨rfl, hb12⟩
            have hz12 := hb12.size
            have HR12 := hide (HR11.out.below hb12 (by omega))
            have HG12 := hide (HG11.out.below hb12 (by omega))
            have g12 := HG12.out.G
            clear hb12 HR11 HG11 g11 d11
            go_wp2_with fail
            refine (markT_t b.length _ _ _ _ w12 HLN (by omega) HG12.out.R).mono ?_
            rintro e w13 ⟨rfl, hr13, hfr13, hb13⟩
            have hz13 := hb13.size
            have HR13 := hide (HR12.out.below hb13 (by omega))
            have HG13 : Hid (LG (.slice pg mg cg) (w5.heap.size + 1) w6.heap.size b.length (marked4 1 b.length) w13) := hide ⟨(World.cell?_of_block (a := ⟨w6.heap.size, 0, none⟩) (hfr13 _ (by show w6.heap.size < w12.heap.size; omega) (Nat.le_refl _))).trans g12, hr13, by omega⟩
            have g13 := HG13.out.G
            clear hb13 hfr13 hr13 HR12 HG12 g12
            go_wp2_with fail
            refine (heldT_t b.length _ _ _ w13 HLN HG13.out.R).mono ?_
            rintro e w14 ⟨rfl, hb14⟩
            have hz14 := hb14.size
            have HR14 := hide (HR13.out.below hb14 (by omega))
            have HG14 := hide (HG13.out.below hb14 (by omega))
            have c14 := HR14.out.L.c
            have d14 := HR14.out.L.c'
            have HL14 := hide HR14.out.L
            clear hb14 HR13 HG13 g13
            have hnn : ¬ (1 + 4 * (b.length : Int) < 0) := by omega
            go_upto_region 31 with fail
            go_cut [17, 18] from 98 to 106 (fun v17 v18 wx => AnsP w v v' w14 b k v17 v18 wx)
            case first =>
              have x14s := (HL14.out.drew.below (A0 w14.drew) HL14.out.z).c
              have y14s := (HL14.out.drew.below (A0 w14.drew) HL14.out.z).c'
              have z14a : w.heap.size + 1 < w14.heap.size := HL14.out.z
              have z14b : w.heap.size < w14.heap.size := by omega
              go_region_with (first
              | (go_at_call 7; have hX := X4; refine (HRI.out ga3 gb4 w4r (na3.atoms.below hb4r) nb4.atoms L4).mono ?_; rintro e w5r ⟨vz, rfl, hrz, hb5r⟩; have hrz := hrz.some; obtain ⟨pz, mz, cz, rfl⟩ := hrz.slice; have L5 := L4.below hb5r L4.z; have X5 := hX.below hb5r; have c5 := X5.c; have f5 := X5.f; have hlo := X4.z; have B5 := B4.trans (hb5r.mono B4.size))
              | (go_at_call 7; refine (HRI.out ga3 gb4 w4r (na3.atoms.below hb4r) nb4.atoms L4).mono ?_; rintro e w5r ⟨vz, rfl, hrz, hb5r⟩; have hrz := hrz.some; obtain ⟨pz, mz, cz, rfl⟩ := hrz.slice; have L5 := L4.below hb5r L4.z; have B5 := B4.trans (hb5r.mono B4.size))
              | (go_at_call 7; refine (HRI.out ga3 gb4 (w4r.alloc (.cells #[.slice none 0 0] 28)) ((na3.atoms.below hb4r).below A4) (nb4.atoms.below A4) (L4.below A4 L4.z)).mono ?_; rintro e w5r ⟨vz, rfl, hrz, hb5r⟩; have hrz := hrz.some; obtain ⟨pz, mz, cz, rfl⟩ := hrz.slice; have L5 := (L4.below A4 L4.z).below hb5r (L4.below A4 L4.z).z; have X5 := (BX.new w4r).below hb5r; have c5 := X5.c; have f5 := X5.f; have hlo := (BX.new w4r).z; have B5 := B4.trans ((A4.trans (hb5r.mono A4.size)).mono B4.size))
              | (have hX := X3; refine (HTB.out w3r L3).mono ?_; rintro e w4r ⟨gb4, rfl, nb4, _, hb4r⟩; have L4 := L3.below hb4r L3.z; have X4 := hX.below hb4r; have A4 := A0 w4r; have B4 := B3.trans (hb4r.mono B3.size))
              | (have hL := L3; refine (HTB.out w3r L3).mono ?_; rintro e w4r ⟨gb4, rfl, nb4, _, hb4r⟩; have L4 := L3.below hb4r L3.z; have A4 := A0 w4r; have B4 := B3.trans (hb4r.mono B3.size))
              | (have hL := L3; refine (HTB.out (w3r.alloc (.cells #[.slice none 0 0] 28)) (L3.below (A0 w3r) L3.z)).mono ?_; rintro e w4r ⟨gb4, rfl, nb4, _, hb4q⟩; have hb4r := (A0 w3r).trans (hb4q.mono (A0 w3r).size); have L4 := L3.below hb4r L3.z; have X4 := (BX.new w3r).below hb4q; have A4 := A0 w4r; have B4 := B3.trans (hb4r.mono B3.size))
              | (refine (HTA.out w14.drew HL14.out.drew).mono ?_; rintro e w3r ⟨ga3, rfl, na3, _, hb3r⟩; have L3 := HL14.out.drew.below hb3r HL14.out.z; have x3r := L3.c; have y3r := L3.c'; have y3s := (L3.below (A0 w3r) L3.z).c'; have B3 := (Below.refl _ w14).drew.trans hb3r)
              | (refine (HTA.out (w14.drew.alloc (.cells #[.slice none 0 0] 28)) (HL14.out.drew.below (A0 _) HL14.out.z)).mono ?_; rintro e w3r ⟨ga3, rfl, na3, _, hb3q⟩; have hb3r := (A0 w14.drew).trans (hb3q.mono (A0 _).size); have L3 := HL14.out.drew.below hb3r HL14.out.z; have X3 : BX w14.heap.size w3r := (BX.new w14.drew).below hb3q; have x3r := L3.c; have y3r := L3.c'; have y3s := (L3.below (A0 w3r) L3.z).c'; have B3 := (Below.refl _ w14).drew.trans hb3r))
              all_goals
                have hz3 := B3.size
                have hz4 := B4.size
                have hzL := HL14.out.z
                go_wp2_with fail
                go_meet
                case rel =>
                  first
                    | exact ans_old L5 X5 hrz hlo (by omega) (by omega) B5
                    | exact ans_new L5 hrz B5
            case rest =>
              obtain ⟨q15, lo15, ph, mh, ch, rfl, rfl, hS15, _, hb15⟩ := hcut
              have HR15 := hide (HR14.out.below hb15 (by omega))
              have HG15 := hide (HG14.out.below hb15 (by omega))
              have HS15 := hide hS15
              have hz15 := hb15.size
              have d15 := HR15.out.U
              have g15 := HS15.out.U
              clear hb15 hS15 HR14 HG14 c14 d14 HL14
              go_wp2_with fail
              refine (eqValue_v b _ _ _ HLN HS15.out.S.ats HR15.out.S.ats).mono ?_
              rintro e w16 ⟨rfl, hb16⟩
              have hz16 := hb16.size
              have HR16 := hide (HR15.out.below hb16 (by omega))
              have HG16 := hide (HG15.out.below hb16 (by omega))
              have g16 := HG16.out.G
              clear hb16 d15 g15 HR15 HG15 HS15
              go_wp2_with fail
              refine (heldT_t b.length _ _ _ w16 HLN HG16.out.R).mono ?_
              rintro e w17 ⟨rfl, hb17⟩
              have HR17 := hide (HR16.out.below hb17 (by omega))
              clear hb17 g16 HR16 HG16
              go_wp2
              go_ret
              exact ⟨rfl, HR17.out.L.B⟩
end Go.Proofs.YtnkfbjcgkdblgaaGreat.Vl
