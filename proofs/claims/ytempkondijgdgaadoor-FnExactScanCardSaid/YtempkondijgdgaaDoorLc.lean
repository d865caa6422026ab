/- The walk of the law. -/
import Derived.Test.YtempkondijgdgaaDoorLb
namespace Go.Proofs.YtempkondijgdgaaDoor
open Go.RowKit

theorem Sc.scan_len : ∀ (f k : Nat) (l : List UInt8), (Sc.scan f k l).1.length ≤ l.length
  | 0, _, _ => Nat.zero_le _
  | f + 1, k, l => by
    unfold Sc.scan
    by_cases h0 : l.drop (Sc.gapLen false l) = []
    · rw [if_pos h0]; exact Nat.zero_le _
    · rw [if_neg h0]
      by_cases hc : (Sc.one (l.drop (Sc.gapLen false l))).code ≠ 0
      · rw [if_pos hc]; exact Nat.zero_le _
      · rw [if_neg hc]
        have hs := Sc.one_size _ (by omega : (Sc.one (l.drop (Sc.gapLen false l))).code = 0)
        have ih := Sc.scan_len f (k + Sc.gapLen false l + (Sc.one (l.drop (Sc.gapLen false l))).size) ((l.drop (Sc.gapLen false l)).drop (Sc.one (l.drop (Sc.gapLen false l))).size)
        simp only [List.length_drop] at hs ih
        simp only [List.length_cons]
        omega
theorem Sc.toks_len (s : ByteArray) : (Sc.toks s).length ≤ 8000 := by
  unfold Sc.toks
  split
  · simp
  · split
    · have := Sc.scan_len (s.data.toList.length + 1) 0 (s.data.toList.drop 0)
      unfold Sc.from_
      simp at this ⊢
      omega
    · simp

theorem mark_v (n B : Nat) (v : Value) (xs : List Value) (w : World) (hn : n ≤ 8000) (hown : w.ownsRow B 33 4 v n xs) (hBs : B ≤ w.heap.size) :
    Calls Tryd.prog 8 #[v, .int .i64 1] w fun e w' => e = .returned (.int .i64 (1 + 4 * (n : Int))) ∧ w'.ownsRow B 33 4 v n (Sc.marked n) ∧ Below B w w' := by
  rcases row_view hown with ⟨rfl, rfl⟩ | ⟨g, cap, rfl⟩
  · refine (mark_none none 0 w).mono ?_
    rintro e w' ⟨rfl, rfl⟩
    exact ⟨rfl, World.ownsRow_nil _ _ _ _, Below.refl _ _⟩
  · exact mark_any n g cap B xs w hn hown hBs
theorem held_v (n B : Nat) (v : Value) (w : World) (hn : n ≤ 8000) (hown : w.ownsRow B 33 4 v n (Sc.marked n)) :
    Calls Tryd.prog 9 #[v, .int .i64 1] w fun e w' => e = .returned (.int .i64 (1 + 4 * (n : Int))) ∧ Below w.heap.size w w' := by
  rcases row_view hown with ⟨rfl, rfl⟩ | ⟨g, cap, rfl⟩
  · refine (held_none none 0 w).mono ?_
    rintro e w' ⟨rfl, rfl⟩
    exact ⟨rfl, Below.refl _ _⟩
  · exact held_any n g cap B w hn hown
theorem row_belowB {w w1 : World} {B base : Nat} {e : TypeId} {size : Nat} {v : Value} {n : Nat} {xs : List Value} (h : w.ownsRow base e size v n xs) (hb : Below B w w1) (hlt : ∀ k, v.ownBlock = some k → k < B) : w1.ownsRow base e size v n xs := by
  refine ⟨h.1, ?_⟩
  rcases h.2 with h | ⟨g, cap, cur, h1, h2, h3, h4⟩
  · exact .inl h
  · exact .inr ⟨g, cap, cur, h1, h2, (hb.block g (hlt g (by rw [h1]; rfl))).trans h3, h4⟩
theorem two_cells {w X : World} {a b : Value} (h : Below (w.heap.size + 1) (w.alloc (.cells #[a, b] 24)) X) : X.cell? ⟨w.heap.size, 0, none⟩ = some a ∧ X.cell? ⟨w.heap.size, 1, none⟩ = some b := by
  have hb := (h.block w.heap.size (Nat.lt_succ_self _)).trans (heap_alloc_new' w (.cells #[a, b] 24))
  exact ⟨cell_2a hb, cell_2b hb⟩

set_option maxRecDepth 100000 in
set_option maxHeartbeats 2000000 in
theorem law_any (s : ByteArray) (w : World) (hG : Glob w) :
    Calls Tryd.prog 3 #[.string s] w fun e w' => e = .returned (.bool true) ∧ Below w.heap.size w w' := by
  by_cases hbig : 1048576 < s.size
  · go_enter Tryd.func3, Tryd.ntmps3
    go_wp2
    go_ret
    exact ⟨rfl, Below.refl _ _⟩
  · have hs : s.size ≤ 1048576 := by omega
    have hn := Sc.toks_len s
    have hS := fun w => sscan_any s w hs
    have hI := fun w hG => iscan_any s w hs hG
    generalize hts : Sc.toks s = ts at *
    generalize ((Sc.code s : Nat) : Int) = C at *
    generalize ((Sc.at_ s : Nat) : Int) = A at *
    clear hts
    have HS := hide hS
    have HI := hide hI
    clear hS hI
    have h2 := hG.2.2
    go_enter Tryd.func3, Tryd.ntmps3
    go_wp2_with fail
    refine (HS.out _).mono ?_
    rintro e w1 ⟨v0, rfl, r0, hb1⟩
    have hv0 : ∀ k, v0.ownBlock = some k → k < w1.heap.size + 1 := fun k e => Nat.lt_succ_of_lt (r0.lt k e).2
    have r0' := r0.alloc (.cells #[.int .i64 C, .int .i64 A] 24)
    have bw : Below w.heap.size w (w1.alloc (.cells #[.int .i64 C, .int .i64 A] 24)) := hb1.alloc hb1.size _
    have hG1 := hG.below bw h2
    have HR0 := hide r0'
    have HV0 := hide hv0
    clear r0 r0' hv0
    go_wp2_with fail
    refine (HI.out _ hG1).mono ?_
    rintro e w2 ⟨g0, rfl, rg, hb2⟩
    rw [World.size_alloc] at rg hb2
    have hz2 : w1.heap.size + 1 ≤ w2.heap.size := by have := hb2.size; rw [World.size_alloc] at this; exact this
    have b2 := hb2.alloc hz2 (.cells #[.int .i64 C, .int .i64 A] 24)
    have rg2 := rg.alloc (.cells #[.int .i64 C, .int .i64 A] 24)
    have rv2 := row_belowB HR0.out b2 HV0.out
    go_wp2_with fail
    refine (eqTokenS_same ts _ _ _ _ _ hn rg2 rv2).mono ?_
    rintro e w3 ⟨rfl, hb3⟩
    rw [World.size_alloc] at hb3
    have hz3 : w2.heap.size + 1 ≤ w3.heap.size := by have := hb3.size; rw [World.size_alloc] at this; exact this
    have b3 := b2.trans (hb3.mono (by omega))
    obtain ⟨x0, x1⟩ := two_cells b3
    obtain ⟨y0, y1⟩ := two_cells hb3
    have rg3 := row_below rg2 (by rw [World.size_alloc]; exact hb3)
    clear rg rg2 rv2 hb2 b2 hG1 hb3
    go_wp2_with fail
    refine (eqFault_same C A _).mono ?_
    rintro e w4 ⟨rfl, hb4⟩
    have hz4 := hb4.size
    have b4 := b3.trans (hb4.mono (by omega))
    have rg4 := row_below rg3 hb4
    clear x0 x1 y0 y1 rg3 b3 hb4
    go_wp2_with fail
    refine (mark_v ts.length _ _ _ _ hn rg4 (by omega)).mono ?_
    rintro e w5 ⟨rfl, rm5, hb5⟩
    have hz5 := hb5.size
    have b5 := b4.trans hb5
    clear rg4 b4 hb5
    go_wp2_with fail
    refine (held_v ts.length _ _ _ hn rm5).mono ?_
    rintro e w6 ⟨rfl, hb6⟩
    have hz6 := hb6.size
    have b6 := b5.trans (hb6.mono (by omega))
    have rm6 := row_below rm5 hb6
    have hG6 := hG.below (bw.trans (b6.mono (by have := hb1.size; omega))) h2
    clear rm5 b5 hb6
    go_wp2_with fail
    refine (HI.out _ hG6).mono ?_
    rintro e w7 ⟨h0, rfl, rh, hb7⟩
    have hz7 := hb7.size
    have hb7' := hb7.alloc hz7 (.cells #[.int .i64 C, .int .i64 A] 24)
    have b7 := b6.trans (hb7'.mono (by omega))
    have rm7 := row_below rm6 hb7'
    have rh7 := rh.alloc (.cells #[.int .i64 C, .int .i64 A] 24)
    have rv7 := row_belowB HR0.out b7 HV0.out
    clear rm6 b6 hb7 hb7' rh hG6
    go_wp2_with fail
    refine (eqTokenS_same ts _ _ _ _ _ hn rh7 rv7).mono ?_
    rintro e w8 ⟨rfl, hb8⟩
    rw [World.size_alloc] at hb8
    have hz8 : w7.heap.size + 1 ≤ w8.heap.size := by have := hb8.size; rw [World.size_alloc] at this; exact this
    have b8 := b7.trans (hb8.mono (by omega))
    obtain ⟨x0, x1⟩ := two_cells b8
    obtain ⟨y0, y1⟩ := two_cells hb8
    have rm8 := row_below rm7 (by rw [World.size_alloc]; exact hb8)
    clear rm7 rh7 rv7 b7 hb8
    go_wp2_with fail
    refine (eqFault_same C A _).mono ?_
    rintro e w9 ⟨rfl, hb9⟩
    have hz9 := hb9.size
    have b9 := b8.trans (hb9.mono (by omega))
    have rm9 := row_below rm8 hb9
    clear rm8 b8 hb9 x0 x1 y0 y1
    go_wp2_with fail
    refine (held_v ts.length _ _ _ hn rm9).mono ?_
    rintro e w10 ⟨rfl, hb10⟩
    have b10 := b9.trans (hb10.mono (by omega))
    go_wp2
    go_ret
    exact ⟨rfl, bw.trans (b10.mono (by have := hb1.size; omega))⟩
end Go.Proofs.YtempkondijgdgaaDoor
