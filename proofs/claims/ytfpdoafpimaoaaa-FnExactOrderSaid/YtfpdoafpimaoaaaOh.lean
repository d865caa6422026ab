/- The walk of the law on Order. -/
import Derived.Test.YtfpdoafpimaoaaaOg
namespace Go.Proofs.Ytfpdoafpimaoaaa.Vl
open Go.RowKit T.atoms T.ok T.high T.good T.allPlain DatAt T.ord

set_option maxRecDepth 100000 in
set_option maxHeartbeats 4000000 in
theorem lawO_any (l l' : List At) (v v' : Value) (w : World) (hl : l.length ≤ 9223372036854775807) (hx : ∀ x ∈ l, x.text.size ≤ 9223372036854775807) (ht : AtomsV w v l) (hl' : l'.length ≤ 9223372036854775807) (hx' : ∀ x ∈ l', x.text.size ≤ 9223372036854775807) (ht' : AtomsV w v' l') :
    Calls Try.prog 5 #[.agg #[v], .agg #[v']] w fun e w' => e = .returned (.bool true) ∧ Below w.heap.size w w' := by
  obtain ⟨r1, b0, b1⟩ := two_boxes w v v' 34 34
  have HZ := hide (szValue_any 1048576 (by omega) (by omega) l v _ hl hx (ht.below r1))
  have HT := hide ht
  have HT' := hide ht'
  clear ht ht'
  by_cases hr : szS l 1048576 < 0
  · have HZ2 := HZ.out
    rw [if_pos hr] at HZ2
    replace HZ2 := hide HZ2
    go_enter Try.func5, Try.ntmps5
    go_wp2_with fail
    refine HZ2.out.mono ?_
    rintro e w1 ⟨rfl, hb1⟩
    go_wp2
    go_ret
    exact ⟨rfl, r1.trans (hb1.mono r1.size)⟩
  · obtain ⟨hl2, hx2⟩ := szS_ok l 1048576 (by omega) hr
    have HZ2 := HZ.out
    rw [if_neg hr] at HZ2
    replace HZ2 := hide HZ2
    have hle := szS_le l 1048576 (by omega)
    clear HZ hx hl hx2
    generalize szS l 1048576 = r at *
    have HZ3 := hide (fun w1 (hb : Below w.heap.size w w1) => szValue_any r (by omega) hle l' v' w1 hl' hx' (HT'.out.below hb))
    go_enter Try.func5, Try.ntmps5
    go_wp2_with fail
    refine HZ2.out.mono ?_
    rintro e w1 ⟨rfl, hb1⟩
    have B1 := r1.trans (hb1.mono r1.size)
    have z1 : w.heap.size + 1 < w1.heap.size := Nat.lt_of_lt_of_le (by simp) hb1.size
    have c0 := (hb1.cell (p := ⟨w.heap.size, 0, none⟩) (by show w.heap.size < _; simp; omega)).trans b0
    have c1 := (hb1.cell (p := ⟨w.heap.size + 1, 0, none⟩) (by show w.heap.size + 1 < _; simp)).trans b1
    clear hb1 b0 b1 HZ2
    by_cases hr2 : szS l' r < 0
    · have HZ4 := HZ3.out _ B1
      rw [if_pos hr2] at HZ4
      replace HZ4 := hide HZ4
      go_wp2_with fail
      refine HZ4.out.mono ?_
      rintro e w2 ⟨rfl, hb2⟩
      go_wp2
      go_ret
      exact ⟨rfl, B1.trans (hb2.mono B1.size)⟩
    · obtain ⟨hl2', hx2'⟩ := szS_ok l' r hle hr2
      have HZ4 := HZ3.out _ B1
      rw [if_neg hr2] at HZ4
      replace HZ4 := hide HZ4
      clear HZ3 hx' hl' hx2'
      generalize szS l' r = r2 at *
      go_wp2_with fail
      refine HZ4.out.mono ?_
      rintro e w2 ⟨rfl, hb2⟩
      have B2 := B1.trans (hb2.mono B1.size)
      have z2 : w.heap.size + 1 < w2.heap.size := Nat.lt_of_lt_of_le z1 hb2.size
      have d0 := (hb2.cell (p := ⟨w.heap.size, 0, none⟩) (by show w.heap.size < _; omega)).trans c0
      have d1 := (hb2.cell (p := ⟨w.heap.size + 1, 0, none⟩) (by show w.heap.size + 1 < _; omega)).trans c1
      clear hb2 c0 c1 HZ4
      have HTA : Hid (∀ w', Below w2.heap.size w2 w' → Calls Try.prog 13 #[.agg #[v]] w' fun e w'' => ∃ g, e = .returned (.agg #[.slice (some ⟨g, 0, none⟩) l.length l.length]) ∧ AtomsAt w'' g l ∧ Below w'.heap.size w' w'') := hide fun w' hb => toValue_any l v w' hl2 (HT.out.below (B2.trans (hb.mono B2.size)))
      have HTB : Hid (∀ w', Below w2.heap.size w2 w' → Calls Try.prog 13 #[.agg #[v']] w' fun e w'' => ∃ g, e = .returned (.agg #[.slice (some ⟨g, 0, none⟩) l'.length l'.length]) ∧ AtomsAt w'' g l' ∧ Below w'.heap.size w' w'') := hide fun w' hb => toValue_any l' v' w' hl2' (HT'.out.below (B2.trans (hb.mono B2.size)))
      have HBX : Hid (∀ w', Below w2.heap.size w2 w' → w'.cell? ⟨w.heap.size, 0, none⟩ = some v ∧ w'.cell? ⟨w.heap.size + 1, 0, none⟩ = some v') := hide fun w' hb => ⟨(hb.cell (p := ⟨w.heap.size, 0, none⟩) (by show w.heap.size < _; omega)).trans d0, (hb.cell (p := ⟨w.heap.size + 1, 0, none⟩) (by show w.heap.size + 1 < _; omega)).trans d1⟩
      go_upto_region 8 with fail
      go_cut [6] from 20 to 24 (fun v6 wx => v6 = .int .i64 (ordOf l l') ∧ Below w2.heap.size w2 wx)
      case first =>
        go_region_with (first
          | (go_at_call 9; refine (specOrder_any l l' ga gb l.length l'.length _ (na.below hb4) nb (Nat.le_refl _) (Nat.le_refl _) hl2 hl2').mono ?_; rintro e w5 ⟨rfl, hb5⟩)
          | (have _hh := q3; refine (HTB.out _ q3).mono ?_; rintro e w4 ⟨gb, rfl, nb, hb4⟩; have q4 := q3.trans (hb4.mono q3.size))
          | (refine (HTA.out _ (Below.refl _ _).drew).mono ?_; rintro e w3 ⟨ga, rfl, na, hb3⟩; have q3 := (Below.refl _ w2).drew.trans hb3; obtain ⟨x3, y3⟩ := HBX.out _ q3))
        all_goals
          go_wp2_with fail
          go_meet
          case rel => exact ⟨rfl, q4.trans (hb5.mono q4.size)⟩
      case rest =>
        obtain ⟨rfl, hbx⟩ := hcut
        obtain ⟨x3, y3⟩ := HBX.out _ hbx
        go_wp2_with fail
        refine (HTA.out _ hbx).mono ?_
        rintro e w4 ⟨ga, rfl, na, hb4⟩
        have q4 := hbx.trans (hb4.mono hbx.size)
        have p5 : Below w4.heap.size w4 (w4.alloc (.cells #[.slice (some ⟨ga, 0, none⟩) l.length l.length] 25)) := (Below.refl _ _).alloc (Nat.le_refl _) _
        have q5 := q4.trans (p5.mono q4.size)
        obtain ⟨x5, y5⟩ := HBX.out _ q5
        have na5 := na.below p5
        clear hb4 na x3 y3
        go_wp2_with fail
        refine (HTB.out _ q5).mono ?_
        rintro e w6 ⟨gb, rfl, nb, hb6⟩
        have q6 := q5.trans (hb6.mono q5.size)
        have s6 : w6.cell? ⟨w4.heap.size, 0, none⟩ = some (.slice (some ⟨ga, 0, none⟩) l.length l.length) := (hb6.cell (p := ⟨w4.heap.size, 0, none⟩) (by simp)).trans (by simp)
        have z6 : w4.heap.size < w6.heap.size := Nat.lt_of_lt_of_le (by simp) hb6.size
        have na6 := na5.below hb6
        have p7 : Below w6.heap.size w6 (w6.alloc (.cells #[.slice (some ⟨gb, 0, none⟩) l'.length l'.length] 25)) := (Below.refl _ _).alloc (Nat.le_refl _) _
        have q7 := q6.trans (p7.mono q6.size)
        have s7 := (p7.cell (p := ⟨w4.heap.size, 0, none⟩) z6).trans s6
        have HIO := hide (implOrder_any l l' ga gb l.length l'.length _ (na6.below p7) (nb.below p7) hl2 hl2')
        have na7 := hide (na6.below p7)
        have nb7 := hide (nb.below p7)
        clear hb6 na5 na6 nb x5 y5 s6
        go_wp2_with fail
        refine HIO.out.mono ?_
        rintro e w8 ⟨rfl, hb8⟩
        have q8 := q7.trans (hb8.mono q7.size)
        have s8 : w8.cell? ⟨w4.heap.size, 0, none⟩ = some (.slice (some ⟨ga, 0, none⟩) l.length l.length) := (hb8.cell (p := ⟨w4.heap.size, 0, none⟩) (by simp; omega)).trans s7
        have u8 : w8.cell? ⟨w6.heap.size, 0, none⟩ = some (.slice (some ⟨gb, 0, none⟩) l'.length l'.length) := (hb8.cell (p := ⟨w6.heap.size, 0, none⟩) (by simp)).trans (by simp)
        have z8 : w6.heap.size < w8.heap.size := Nat.lt_of_lt_of_le (by simp) hb8.size
        obtain ⟨x8, y8⟩ := HBX.out _ q8
        have NA := hide (na7.out.below hb8)
        have NB := hide (nb7.out.below hb8)
        generalize ordOf l l' = od at *
        clear hb8 s7 HIO na7 nb7
        go_upto_region 14 with fail
        go_cut [39] from 35 to 39 (fun v39 wx => v39 = .bool false ∧ Below w8.heap.size w8 wx)
        case first =>
          go_region_with (first
            | (go_at_call 13; refine (HTA.out _ q8.drew).mono ?_; rintro e w9 ⟨gc, rfl, nc, hb9⟩; have s9 := (hb9.cell (p := ⟨w4.heap.size, 0, none⟩) (show w4.heap.size < w8.heap.size by omega)).trans s8; have na9 := NA.out.below ((Below.refl _ _).drew.trans hb9))
            | (go_at_call 15; refine (eqValue_same l ga gc l.length l.length _ hl2 na9 nc).mono ?_; rintro e w10 ⟨rfl, hb10⟩))
          all_goals
            go_wp2_with fail
            go_meet
            case rel => exact ⟨rfl, (Below.refl _ _).drew.trans (hb9.trans (hb10.mono hb9.size))⟩
        case rest =>
          obtain ⟨rfl, hb11⟩ := hcut
          have q11 := q8.trans (hb11.mono q8.size)
          have u11 := (hb11.cell (p := ⟨w6.heap.size, 0, none⟩) z8).trans u8
          obtain ⟨x11, y11⟩ := HBX.out _ q11
          have NB2 := hide (NB.out.below hb11)
          have z11 : w6.heap.size < wc.heap.size := Nat.lt_of_lt_of_le z8 hb11.size
          have BF := hide (B2.trans (q11.mono B2.size))
          clear hb11 s8 u8 x8 y8
          go_wp2
          go_region_with (first
            | (go_at_call 13; refine (HTB.out _ q11.drew).mono ?_; rintro e w12 ⟨gd, rfl, nd, hb12⟩; have u12 := (hb12.cell (p := ⟨w6.heap.size, 0, none⟩) z11).trans u11; have nb12 := NB2.out.below ((Below.refl _ _).drew.trans hb12))
            | (go_at_call 15; refine (eqValue_same l' gb gd l'.length l'.length _ hl2' nb12 nd).mono ?_; rintro e w13 ⟨rfl, hb13⟩))
          all_goals
            have hB12 := BF.out.drew.trans (hb12.mono BF.out.size)
            have hB13 := hB12.trans (hb13.mono hB12.size)
            go_wp2
            go_ret
            exact ⟨rfl, hB13⟩
end Go.Proofs.Ytfpdoafpimaoaaa.Vl
