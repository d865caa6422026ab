/- The walk of the law on ValidTree. -/
import Derived.Test.YtfpdoafpimaoaaaQv
import Derived.Test.YtfpdoafpimaoaaaQm
import Derived.Test.YtfpdoafpimaoaaaQn
namespace Go.Proofs.Ytfpdoafpimaoaaa.Vl
open Go.RowKit T.atoms T.ok T.high T.good T.allPlain DatAt

set_option maxRecDepth 100000 in
set_option maxHeartbeats 400000 in
theorem ok5_nil (g tc : Nat) (w : World) :
    Calls Try.prog 27 #[.agg #[.slice (some ⟨g, 0, none⟩) 0 tc], .int .i64 0] w fun e w' => e = .returned (.bool false) ∧ Below w.heap.size w w' := by
  go_enter Try.func27, Try.ntmps27
  go_wp2
  go_ret
  exact ⟨rfl, (Below.refl _ _).alloc (Nat.le_refl _) _⟩
theorem valid_ok (l : List At) (h : l.length ≤ 1000) : valid l = okOf l 0 := by
  unfold valid okOf; rw [decide_eq_true h, Bool.true_and]; cases treeOf l <;> rfl
theorem specValid_any (l : List At) (g o tc : Nat) (w : World) (ho : l.length = 0 → o = 0) (ht : AtomsO w g o l) (hc : l.length ≤ tc) (hl : l.length ≤ 1048576) :
    Calls Try.prog 10 #[.agg #[.slice (some ⟨g, o, none⟩) l.length tc]] w fun e w' => e = .returned (.bool (valid l)) ∧ Below w.heap.size w w' := by
  have r1 : Below w.heap.size w (w.alloc (.cells #[.slice (some ⟨g, o, none⟩) l.length tc] 25)) := (Below.refl _ _).alloc (Nat.le_refl _) _
  by_cases hlong : (l.length : Int) ≤ 1000
  · have HV := hide (valid_ok l (by omega))
    cases hm : l.length with
    | zero =>
      obtain rfl := ho hm
      obtain rfl := List.length_eq_zero_iff.1 hm
      have HZ : Hid (valid [] = false) := hide rfl
      have HO := hide (ok5_nil g tc)
      clear HV hm
      go_enter Try.func10, Try.ntmps10
      go_wp2_with fail
      refine (HO.out _).mono ?_
      rintro e w1 ⟨rfl, hb1⟩
      go_wp2
      go_ret
      exact ⟨ret_bool HZ.out.symm, r1.trans (hb1.mono (by simp))⟩
    | succ m =>
      rw [hm] at r1 hlong
      have hlong' : (m : Int) + 1 ≤ 1000 := by omega
      have HO := hide (ok5_any (l.length + 1) l g o tc 0 m _ (by omega) hm (by omega) (by omega) (by omega) (ht.below r1))
      rw [← HV.out] at HO
      generalize valid l = vl at *
      clear ht HV hlong hm
      go_enter Try.func10, Try.ntmps10
      go_wp2_with fail
      refine (HO.out).mono ?_
      rintro e w1 ⟨rfl, hb1⟩
      go_wp2
      go_ret
      exact ⟨rfl, r1.trans (hb1.mono (by simp))⟩
  · have HZ := hide (valid_long l (by omega))
    clear ht
    go_enter Try.func10, Try.ntmps10
    go_wp2
    go_ret
    exact ⟨ret_bool HZ.out.symm, r1⟩
set_option maxRecDepth 100000 in
set_option maxHeartbeats 400000 in
theorem implValid_any (l : List At) (g tc : Nat) (w : World) (hl : l.length ≤ 1048576) (ht : AtomsO w g 0 l) :
    Calls Try.prog 14 #[.agg #[.slice (some ⟨g, 0, none⟩) l.length tc]] w fun e w' => e = .returned (.bool (valid l)) ∧ Below w.heap.size w w' := by
  have r1 : Below w.heap.size w (w.alloc (.cells #[.slice (some ⟨g, 0, none⟩) l.length tc] 25)) := (Below.refl _ _).alloc (Nat.le_refl _) _
  have HO := hide (datumOf_any l g tc _ hl (ht.below r1))
  clear ht
  go_enter Try.func14, Try.ntmps14
  go_wp2_with fail
  refine (HO.out).mono ?_
  rintro e w1 ⟨hb1, v, rfl, -⟩
  go_wp2
  go_ret
  exact ⟨rfl, r1.trans (hb1.mono (by simp))⟩

set_option maxRecDepth 100000 in
set_option maxHeartbeats 2000000 in
theorem law_any (l : List At) (v : Value) (w : World) (hl : l.length ≤ 9223372036854775807) (hx : ∀ x ∈ l, x.text.size ≤ 9223372036854775807) (ht : AtomsV w v l) :
    Calls Try.prog 4 #[.agg #[v]] w fun e w' => e = .returned (.bool true) ∧ Below w.heap.size w w' := by
  have r1 : Below w.heap.size w (w.alloc (.cells #[v] 34)) := (Below.refl _ _).alloc (Nat.le_refl _) _
  have HZ := hide (szValue_any 1048576 (by omega) (by omega) l v (w.alloc (.cells #[v] 34)) hl hx (ht.below r1))
  have HT := hide ht
  clear ht
  by_cases hr : szS l 1048576 < 0
  · have HZ2 := HZ.out
    rw [if_pos hr] at HZ2
    replace HZ2 := hide HZ2
    go_enter Try.func4, Try.ntmps4
    go_wp2_with fail
    refine HZ2.out.mono ?_
    rintro e w1 ⟨rfl, hb1⟩
    go_wp2
    go_ret
    exact ⟨rfl, r1.trans (hb1.mono (by simp))⟩
  · obtain ⟨hl2, hx2⟩ := szS_ok l 1048576 (by omega) hr
    have HZ2 := HZ.out
    rw [if_neg hr] at HZ2
    replace HZ2 := hide HZ2
    clear HZ hx hl hx2
    generalize szS l 1048576 = r at *
    have HTT : Hid (∀ w', Below w.heap.size w w' → Calls Try.prog 13 #[.agg #[v]] w' fun e w'' => ∃ g, e = .returned (.agg #[.slice (some ⟨g, 0, none⟩) l.length l.length]) ∧ AtomsAt w'' g l ∧ Below w'.heap.size w' w'') := hide fun w' hb => toValue_any l v w' hl2 (HT.out.below hb)
    go_enter Try.func4, Try.ntmps4
    go_wp2_with fail
    refine HZ2.out.mono ?_
    rintro e w1 ⟨rfl, hb1⟩
    have c1 : w1.cell? ⟨w.heap.size, 0, none⟩ = some v := (hb1.cell (p := ⟨w.heap.size, 0, none⟩) (by simp)).trans (by simp)
    have B1 := r1.trans (hb1.mono (by simp))
    have z1 : w.heap.size < w1.heap.size := Nat.lt_of_lt_of_le (by simp) hb1.size
    clear hb1
    go_wp2_with fail
    refine (HTT.out _ B1).mono ?_
    rintro e w2 ⟨ga, rfl, na, hb2⟩
    have c2 := (hb2.cell (p := ⟨w.heap.size, 0, none⟩) z1).trans c1
    have B2 := B1.trans (hb2.mono B1.size)
    have z2 : w.heap.size < w2.heap.size := Nat.lt_of_lt_of_le z1 hb2.size
    clear hb2 c1
    go_wp2_with fail
    refine (specValid_any l ga 0 l.length _ (fun _ => rfl) na (Nat.le_refl _) hl2).mono ?_
    rintro e w3 ⟨rfl, hb3⟩
    have c3 := (hb3.cell (p := ⟨w.heap.size, 0, none⟩) z2).trans c2
    have B3 := B2.trans (hb3.mono B2.size)
    have z3 : w.heap.size < w3.heap.size := Nat.lt_of_lt_of_le z2 hb3.size
    clear hb3 c2 na
    go_wp2_with fail
    refine (HTT.out _ B3).mono ?_
    rintro e w4 ⟨gb, rfl, nb, hb4⟩
    have c4 := (hb4.cell (p := ⟨w.heap.size, 0, none⟩) z3).trans c3
    have B4 := B3.trans (hb4.mono B3.size)
    have z4 : w.heap.size < w4.heap.size := Nat.lt_of_lt_of_le z3 hb4.size
    clear hb4 c3
    have nb4 := nb.below ((Below.refl _ _).alloc (Nat.le_refl _) (.cells #[.slice (some ⟨gb, 0, none⟩) l.length l.length] 25))
    go_wp2_with fail
    refine (implValid_any l gb l.length _ hl2 nb4).mono ?_
    rintro e w5 ⟨rfl, hb5⟩
    have B4' : Below w.heap.size w (w4.alloc (.cells #[.slice (some ⟨gb, 0, none⟩) l.length l.length] 25)) := B4.alloc B4.size _
    have c5 : w5.cell? ⟨w.heap.size, 0, none⟩ = some v := (hb5.cell (p := ⟨w.heap.size, 0, none⟩) (by simp; omega)).trans (((Below.refl w4.heap.size w4).alloc (Nat.le_refl _) _).cell (p := ⟨w.heap.size, 0, none⟩) z4 |>.trans c4)
    have d5 : w5.cell? ⟨w4.heap.size, 0, none⟩ = some (.slice (some ⟨gb, 0, none⟩) l.length l.length) := (hb5.cell (p := ⟨w4.heap.size, 0, none⟩) (by simp)).trans (by simp)
    have nb5 := nb4.below hb5
    have B5 := B4'.trans (hb5.mono B4'.size)
    have HB5 := hide B5
    have HN5 := hide nb5
    clear hb5 c4 nb nb4 B4 B4' B3 B2 B1
    generalize valid l = vl at *
    have hz5 : w4.heap.size < w5.heap.size := World.block_lt_of_cell? w5 ⟨w4.heap.size, 0, none⟩ d5
    go_wp2
    go_region_with (first
      | (go_at_call 13; refine (HTT.out _ HB5.out.drew).mono ?_; rintro e w6 ⟨gc, rfl, nc, hb6⟩; have c6 := (hb6.cell (p := ⟨w4.heap.size, 0, none⟩) hz5).trans d5; have nb6 := HN5.out.below ((Below.refl _ _).drew.trans hb6))
      | (go_at_call 15; refine (eqValue_same l gb gc l.length l.length _ hl2 nb6 nc).mono ?_; rintro e w7 ⟨rfl, hb7⟩))
    all_goals
      have hB6 : Below w.heap.size w w6 := HB5.out.drew.trans (hb6.mono HB5.out.size)
      have hB7 : Below w.heap.size w w7 := hB6.trans (hb7.mono hB6.size)
      go_wp2
      go_ret
      exact ⟨rfl, hB7⟩
end Go.Proofs.Ytfpdoafpimaoaaa.Vl
