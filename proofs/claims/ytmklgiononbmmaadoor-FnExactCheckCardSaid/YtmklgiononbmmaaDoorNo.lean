/- The walk of the law on Check. -/
import Derived.Test.YtmklgiononbmmaaDoorNm
import Derived.Test.YtmklgiononbmmaaDoorJl
namespace Go.Proofs.YtmklgiononbmmaaDoor
open Go.RowKit

set_option maxHeartbeats 400000 in
theorem eqFault_same (a b : Int) (w : World) :
    Calls Tryd.prog 11 #[.agg #[.int .i64 a, .int .i64 b], .agg #[.int .i64 a, .int .i64 b]] w fun e w' => e = .returned (.bool true) ∧ Below w.heap.size w w' := by
  go_enter Tryd.func11, Tryd.ntmps11
  go_wp2
  go_ret
  exact ⟨rfl, ((Below.refl _ _).alloc (Nat.le_refl _) _).alloc (by simp) _⟩

set_option maxRecDepth 100000 in
set_option maxHeartbeats 2000000 in
theorem lawC_any (l : List Tr.Nd) (v : Value) (w : World) (hl : l.length ≤ 9223372036854775807) (hx : ∀ x ∈ l, x.text.size ≤ 9223372036854775807) (hG : GlobB w) (ht : NodesV w v l) :
    Calls Tryd.prog 3 #[.agg #[v]] w fun e w' => e = .returned (.bool true) ∧ Below w.heap.size w w' := by
  have r1 : Below w.heap.size w (w.alloc (.cells #[v] 24)) := (Below.refl _ _).alloc (Nat.le_refl _) _
  have HZ := hide (szTree_any l v (w.alloc (.cells #[v] 24)) hl hx (ht.below r1))
  have HT := hide ht
  have HG := hide hG
  clear ht hG
  by_cases hr : Tr.szS l 1048576 < 0
  · have HZ2 := HZ.out
    rw [if_pos hr] at HZ2
    replace HZ2 := hide HZ2
    go_enter Tryd.func3, Tryd.ntmps3
    go_wp2_with fail
    refine HZ2.out.mono ?_
    rintro e w1 ⟨rfl, hb1⟩
    go_wp2
    go_ret
    exact ⟨rfl, r1.trans (hb1.mono (by simp))⟩
  · obtain ⟨hl2, hx2⟩ := Tr.szS_ok l hr
    have HZ2 := HZ.out
    rw [if_neg hr] at HZ2
    replace HZ2 := hide HZ2
    have HX := hide hx2
    clear HZ hx hl hx2
    generalize Tr.szS l 1048576 = r at *
    have HTT : Hid (∀ w', Below w.heap.size w w' → Calls Tryd.prog 9 #[.agg #[v]] w' fun e w'' => ∃ g, e = .returned (.agg #[.slice (some ⟨g, 0, none⟩) l.length l.length]) ∧ NodesAt w'' g l ∧ Below w'.heap.size w' w'') := hide fun w' hb => toTree_any l v w' hl2 (HT.out.below hb)
    generalize hco : Tr.checkOf l = co at *
    have HCO := hide hco
    clear hco
    go_enter Tryd.func3, Tryd.ntmps3
    go_wp2_with fail
    refine HZ2.out.mono ?_
    rintro e w1 ⟨rfl, hb1⟩
    have c1 : w1.cell? ⟨w.heap.size, 0, none⟩ = some v := (hb1.cell (p := ⟨w.heap.size, 0, none⟩) (by simp)).trans (by simp)
    have B1 := r1.trans (hb1.mono (by simp))
    have z1 : w.heap.size < w1.heap.size := Nat.lt_of_lt_of_le (by simp) hb1.size
    clear hb1
    go_wp2_with fail
    refine (HTT.out _ B1).mono ?_
    rintro e w2 ⟨ga, rfl, na, hb2⟩
    have c2 := (hb2.cell (p := ⟨w.heap.size, 0, none⟩) z1).trans c1
    have B2 := B1.trans (hb2.mono B1.size)
    have z2 : w.heap.size < w2.heap.size := Nat.lt_of_lt_of_le z1 hb2.size
    clear hb2 c1
    have HCK := hide (check_any l ga l.length w2 hl2 na)
    rw [HCO.out] at HCK
    go_wp2_with fail
    refine HCK.out.mono ?_
    rintro e w3 ⟨rfl, hb3⟩
    have c3 := (hb3.cell (p := ⟨w.heap.size, 0, none⟩) z2).trans c2
    have B3 := B2.trans (hb3.mono B2.size)
    have z3 : w.heap.size < w3.heap.size := Nat.lt_of_lt_of_le z2 hb3.size
    clear hb3 c2 na HCK
    have q3 : Below w3.heap.size w3 (w3.alloc (.cells #[.int .i64 co.1, .int .i64 (co.2 : Int)] 27)) := (Below.refl _ _).alloc (Nat.le_refl _) _
    have c3' := (q3.cell (p := ⟨w.heap.size, 0, none⟩) z3).trans c3
    have B3' := B3.trans (q3.mono B3.size)
    go_wp2_with fail
    refine (HTT.out _ B3').mono ?_
    rintro e w4 ⟨gb, rfl, nb, hb4⟩
    rw [World.size_alloc] at hb4
    have d4 := two_new w3 (.int .i64 co.1) (.int .i64 (co.2 : Int)) 27
    have e0 := (hb4.cell (p := ⟨w3.heap.size, 0, none⟩) (Nat.lt_succ_self _)).trans d4.1
    have e1 := (hb4.cell (p := ⟨w3.heap.size, 1, none⟩) (Nat.lt_succ_self _)).trans d4.2.1
    have c4 := (hb4.cell (p := ⟨w.heap.size, 0, none⟩) (Nat.lt_succ_of_lt z3)).trans c3'
    have hz4 : w3.heap.size + 1 ≤ w4.heap.size := by have := hb4.size; simpa using this
    have B4 := B3'.trans (hb4.mono (by omega))
    clear hb4 c3 c3' q3 B3' d4
    have q4 : Below w4.heap.size w4 (w4.alloc (.cells #[.slice (some ⟨gb, 0, none⟩) l.length l.length] 31)) := (Below.refl _ _).alloc (Nat.le_refl _) _
    have nb4 := nb.below q4
    have B4' := B4.trans (q4.mono B4.size)
    have HCK := hide (icheck_any l gb l.length _ hl2 HX.out (HG.out.below B4') nb4)
    rw [HCO.out] at HCK
    have c4' := (q4.cell (p := ⟨w.heap.size, 0, none⟩) (show w.heap.size < w4.heap.size by omega)).trans c4
    have e0' := (q4.cell (p := ⟨w3.heap.size, 0, none⟩) (show w3.heap.size < w4.heap.size by omega)).trans e0
    have e1' := (q4.cell (p := ⟨w3.heap.size, 1, none⟩) (show w3.heap.size < w4.heap.size by omega)).trans e1
    have s4 : (w4.alloc (.cells #[.slice (some ⟨gb, 0, none⟩) l.length l.length] 31)).cell? ⟨w4.heap.size, 0, none⟩ = some (.slice (some ⟨gb, 0, none⟩) l.length l.length) := by simp
    go_wp2_with fail
    refine HCK.out.mono ?_
    rintro e w5 ⟨rfl, hb5⟩
    rw [World.size_alloc] at hb5
    have c5 := (hb5.cell (p := ⟨w.heap.size, 0, none⟩) (show w.heap.size < w4.heap.size + 1 by omega)).trans c4'
    have e05 := (hb5.cell (p := ⟨w3.heap.size, 0, none⟩) (show w3.heap.size < w4.heap.size + 1 by omega)).trans e0'
    have e15 := (hb5.cell (p := ⟨w3.heap.size, 1, none⟩) (show w3.heap.size < w4.heap.size + 1 by omega)).trans e1'
    have s5 := (hb5.cell (p := ⟨w4.heap.size, 0, none⟩) (show w4.heap.size < w4.heap.size + 1 by omega)).trans s4
    have hz5 : w4.heap.size + 1 ≤ w5.heap.size := by have := hb5.size; simpa using this
    have nb5 := nb4.below (by rw [World.size_alloc]; exact hb5)
    have B5 := B4'.trans (hb5.mono (by omega))
    clear hb5 c4 c4' e0 e1 e0' e1' s4 q4 nb nb4 B4 B4' B3 B2 B1 HCK
    have q5 : Below w5.heap.size w5 (w5.alloc (.cells #[.int .i64 co.1, .int .i64 (co.2 : Int)] 27)) := (Below.refl _ _).alloc (Nat.le_refl _) _
    have c6 := (q5.cell (p := ⟨w.heap.size, 0, none⟩) (show w.heap.size < w5.heap.size by omega)).trans c5
    have e06 := (q5.cell (p := ⟨w3.heap.size, 0, none⟩) (show w3.heap.size < w5.heap.size by omega)).trans e05
    have e16 := (q5.cell (p := ⟨w3.heap.size, 1, none⟩) (show w3.heap.size < w5.heap.size by omega)).trans e15
    have s6 := (q5.cell (p := ⟨w4.heap.size, 0, none⟩) (show w4.heap.size < w5.heap.size by omega)).trans s5
    have B6 := B5.trans (q5.mono B5.size)
    have nb6 := nb5.below q5
    go_wp2_with fail
    refine (eqFault_same co.1 co.2 _).mono ?_
    rintro e w7 ⟨rfl, hb7⟩
    rw [World.size_alloc] at hb7
    have c7 := (hb7.cell (p := ⟨w.heap.size, 0, none⟩) (show w.heap.size < w5.heap.size + 1 by omega)).trans c6
    have s7 := (hb7.cell (p := ⟨w4.heap.size, 0, none⟩) (show w4.heap.size < w5.heap.size + 1 by omega)).trans s6
    have HN7 := hide (nb6.below (by rw [World.size_alloc]; exact hb7))
    have HB7 := hide (B6.trans (hb7.mono (by omega)))
    have hz7 : w4.heap.size < w7.heap.size := World.block_lt_of_cell? w7 ⟨w4.heap.size, 0, none⟩ s7
    clear hb7 c5 c6 e05 e15 e06 e16 s5 s6 q5 nb5 nb6 B5 B6
    go_wp2
    go_region_with (first
      | (go_at_call 9; refine (HTT.out _ HB7.out.drew).mono ?_; rintro e w8 ⟨gc, rfl, nc, hb8⟩; have c8 := (hb8.cell (p := ⟨w4.heap.size, 0, none⟩) hz7).trans s7; have nb8 := HN7.out.below ((Below.refl _ _).drew.trans hb8))
      | (go_at_call 12; refine (eqTree_same l gb gc l.length l.length _ hl2 nb8 nc).mono ?_; rintro e w9 ⟨rfl, hb9⟩))
    all_goals
      have hB8 : Below w.heap.size w w8 := HB7.out.drew.trans (hb8.mono HB7.out.size)
      have hB9 : Below w.heap.size w w9 := hB8.trans (hb9.mono hB8.size)
      go_wp2
      go_ret
      exact ⟨rfl, hB9⟩
end Go.Proofs.YtmklgiononbmmaaDoor
