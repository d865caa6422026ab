/- Walks: newList, on the program's side. -/
import Derived.Test.YtfpdoafpimaoaaaQg
import Derived.WalkSmall
namespace Go.Proofs.Ytfpdoafpimaoaaa.Vl
open Go.RowKit T.atoms T.ok T.high T.good T.allPlain DatAt

theorem highL_snoc (l : List T) (t : T) : highL (l ++ [t]) = max (highL l) (t.high + 1) := by
  induction l with
  | nil => simp [highL]
  | cons a r ih => rw [List.cons_append, highL, ih, highL]; omega
theorem highL_take_le (l : List T) (j : Nat) : highL (l.take j) ≤ highL l := by
  induction l generalizing j with
  | nil => simp
  | cons a r ih =>
    cases j with
    | zero => simp [highL]
    | succ j => rw [List.take_succ_cons, highL, highL]; have := ih j; omega
def listOk (ks : List T) : Bool := decide (ks.length ≤ 200 ∧ 1 + (atomsL ks).length ≤ 1000 ∧ highL ks ≤ 12)

theorem two_cells {w : World} {b : Nat} {x y u v : Value} (h0 : w.cell? ⟨b, 0, none⟩ = some u) (h1 : w.cell? ⟨b, 1, none⟩ = some v) : ((w.setCell ⟨b, 0, none⟩ x).setCell ⟨b, 1, none⟩ y).cell? ⟨b, 0, none⟩ = some x ∧ ((w.setCell ⟨b, 0, none⟩ x).setCell ⟨b, 1, none⟩ y).cell? ⟨b, 1, none⟩ = some y := by
  constructor
  · rw [World.cell?_setCell_other _ _ _ _ (by intro h; cases h)]; exact World.cell?_setCell_same _ _ _ h0
  · exact World.cell?_setCell_same _ _ _ (by rw [World.cell?_setCell_other _ _ _ _ (by intro h; cases h)]; exact h1)
set_option maxRecDepth 100000 in
set_option maxHeartbeats 1000000 in
theorem newList_any (ks : List T) (vs : List Value) (p : Option Addr) (c x : Nat) (w : World) (hlen : (atomsL ks).length ≤ 1000) (hhi : highL ks ≤ 1000) (hD : DatL w x ks vs) (hR : RowAt w x p vs) (hlf : ∀ t ∈ ks, t.leafy) :
    Calls Try.prog 71 #[.slice p ks.length c] w fun e w' => e = .returned (.tuple #[.iface 88 (.agg #[.slice p ks.length c, .int .i64 (1 + (atomsL ks).length : Nat), .int .i64 (highL ks : Nat)]), .bool (listOk ks)]) ∧ Below w.heap.size w w' := by
  have HD := hide hD
  have HR := hide hR
  have HF := hide hlf
  have hkl := len_le_atomsL ks
  clear hD hR hlf
  go_enter Try.func71, Try.ntmps71
  go_wp2_with fail
  refine (single_any _).mono ?_
  rintro e w1 ⟨rfl, hb1⟩
  go_wp2
  go_loopw [10] (fun t wr => ∃ i : Nat, i ≤ ks.length ∧ t = .int .i64 i ∧ Below w.heap.size w wr ∧ w1.heap.size < wr.heap.size ∧ w.heap.size ≤ w1.heap.size ∧ wr.cell? ⟨w1.heap.size, 0, none⟩ = some (.int .i64 (1 + (atomsL (ks.take i)).length : Nat)) ∧ wr.cell? ⟨w1.heap.size, 1, none⟩ = some (.int .i64 (highL (ks.take i) : Nat)) ∧ wr.frozen? ⟨w1.heap.size, 0, none⟩ = false ∧ wr.frozen? ⟨w1.heap.size, 1, none⟩ = false) (fun t _ => ks.length - (intOf t).toNat)
  case atStart =>
    have hz := hb1.size
    exact ⟨0, Nat.zero_le _, rfl, hb1.alloc hb1.size _, by simp, hb1.size, by simp [atomsL], by simp [highL], by simp, by simp⟩
  case round =>
    obtain ⟨i, hi, rfl, hB, hz1, hz0, d0, d1, f0, f1⟩ := hrel
    have ht1 := atomsL_take_le ks i
    have ht2 := highL_take_le ks i
    by_cases hlt : i < ks.length
    · obtain ⟨v, hv, hdv⟩ := DatL.at HD.out i hlt
      have hlv := HF.out ks[i] (List.getElem_mem hlt)
      have HS := hide (sizes_of hdv hlv)
      have hne : vs ≠ [] := fun e => by rw [e] at hv; simp at hv
      rcases HR.out with h | ⟨g, o, rfl, hgx, hgw, hcs⟩
      · exact absurd h hne
      have e0 := (hB.cell (p := ⟨g, o + i, none⟩) hgw).trans (hcs i v hv)
      have HA : Hid (1 + (atomsL (ks.take (i + 1))).length = 1 + (atomsL (ks.take i)).length + (ks[i]).count) := hide (by
        rw [List.take_succ_eq_append_getElem hlt, atomsL_append, List.length_append]; simp [atomsL, T.count]; omega)
      have HH : Hid (highL (ks.take (i + 1)) = max (highL (ks.take i)) ((ks[i]).high + 1)) := hide (by rw [List.take_succ_eq_append_getElem hlt, highL_snoc])
      have hb2 := atomsL_take_le ks (i + 1)
      have hb3 := highL_take_le ks (i + 1)
      have hc1 : (ks[i]).count ≤ 1000 := by have := HA.out; omega
      have hc2 : (ks[i]).high ≤ 1000 := by have := HH.out; omega
      generalize (ks[i]).count = cn at *
      generalize (ks[i]).high = hg at *
      generalize (atomsL (ks.take i)).length = al at *
      generalize highL (ks.take i) = ah at *
      have HCA := hide (fun w' => holding_any (1 + al) ah cn hg w' (by omega) (by omega) (by omega) (by omega))
      clear hv hdv hne hlv hcs hb2 hb3
      go_wp2
      go_region_law (first
        | (refine step_size rfl (.tmp 15) rfl v cn hg (by first | (simp [Act.eval]; done) | simp [Act.eval, Act.put]) HS.out ?_; intro w3 hb3; have hz3 : w1.heap.size < w3.heap.size := Nat.lt_of_lt_of_le hz1 hb3.size; have k3 : w3.cell? ⟨w1.heap.size, 0, none⟩ = some (.int .i64 (1 + al : Nat)) ∧ w3.cell? ⟨w1.heap.size, 1, none⟩ = some (.int .i64 (ah : Nat)) := ⟨(hb3.cell (p := ⟨w1.heap.size, 0, none⟩) hz1).trans d0, (hb3.cell (p := ⟨w1.heap.size, 1, none⟩) hz1).trans d1⟩)
        | (refine step_call2 rfl 84 (.tmp 14) (.tmp 16) 86 86 rfl (ext (1 + al : Nat) (ah : Nat)) (ext (cn : Nat) (hg : Nat)) (ext (1 + al + cn : Nat) (max ah (hg + 1) : Nat)) (by first | (simp [Act.eval]; done) | simp [Act.eval, Act.put]) (by first | (simp [Act.eval]; done) | simp [Act.eval, Act.put]) Try.f84 Try.func84 (by kernel_rfl) (by kernel_rfl) _ (HCA.out _) ?_; intro w4 hb4; have k4 : w4.cell? ⟨w1.heap.size, 0, none⟩ = some (.int .i64 (1 + al : Nat)) ∧ w4.cell? ⟨w1.heap.size, 1, none⟩ = some (.int .i64 (ah : Nat)) := ⟨(hb4.cell (p := ⟨w1.heap.size, 0, none⟩) hz3).trans k3.1, (hb4.cell (p := ⟨w1.heap.size, 1, none⟩) hz3).trans k3.2⟩; have q4 : w4.frozen? ⟨w1.heap.size, 0, none⟩ = false ∧ w4.frozen? ⟨w1.heap.size, 1, none⟩ = false := ⟨(hb4.frozen (p := ⟨w1.heap.size, 0, none⟩) hz3).trans ((hb3.frozen (p := ⟨w1.heap.size, 0, none⟩) hz1).trans f0), (hb4.frozen (p := ⟨w1.heap.size, 1, none⟩) hz3).trans ((hb3.frozen (p := ⟨w1.heap.size, 1, none⟩) hz1).trans f1)⟩)
        | fail)
      all_goals
        have hB3 : Below w.heap.size w w3 := by first | exact hB.drew.trans (hb3.mono hB.size) | exact hB.trans (hb3.mono hB.size) | exact hB.drew.drew.trans (hb3.mono hB.size)
        have hB4 : Below w.heap.size w w4 := hB3.trans (hb4.mono hB3.size)
        have hz4 : w1.heap.size < w4.heap.size := Nat.lt_of_lt_of_le hz3 hb4.size
        have HB5 : Hid (Below w.heap.size w ((w4.setCell ⟨w1.heap.size, 0, none⟩ (.int .i64 (1 + al + cn : Nat))).setCell ⟨w1.heap.size, 1, none⟩ (.int .i64 (max ah (hg + 1) : Nat)))) := hide ((hB4.setCell hz0 _).setCell hz0 _)
        go_wp2
        go_roundw
        case rel =>
          refine ⟨i + 1, by omega, by go_num, HB5.out, ?_, hz0, ?_, ?_, ?_, ?_⟩
          · simpa using hz4
          · rw [HA.out]; exact (two_cells k4.1 k4.2).1
          · rw [HH.out]; exact (two_cells k4.1 k4.2).2
          · simp [q4.1]
          · simp [q4.2]
        case measure => simp [intOf]; omega
    · obtain rfl : i = ks.length := by omega
      rw [List.take_length] at d0 d1
      obtain ⟨al, hal⟩ : ∃ al, (atomsL ks).length = al := ⟨_, rfl⟩
      obtain ⟨ah, hah⟩ : ∃ ah, highL ks = ah := ⟨_, rfl⟩
      have HAL := hide hal
      have HAH := hide hah
      rw [hal] at d0 hlen
      rw [hah] at d1 hhi
      clear hal hah ht1 ht2 hkl
      have HFT := hide (fun w' (_ : Below wr.heap.size wr w') => fits_any (1 + al) ah w')
      have HB := hide hB
      have f0' := fun q : KB wr => (q.below.cell (p := ⟨w1.heap.size, 0, none⟩) hz1).trans d0
      have f1' := fun q : KB wr => (q.below.cell (p := ⟨w1.heap.size, 1, none⟩) hz1).trans d1
      haveI hne : Nonempty (KB wr) := ⟨⟨_, Below.refl _ _⟩⟩
      by_cases h200 : (ks.length : Int) ≤ 200
      · have HL : Hid (listOk ks = decide (1 + al ≤ 1000 ∧ ah ≤ 12)) := hide (by unfold listOk; rw [HAL.out, HAH.out, decide_eq_decide]; omega)
        obtain ⟨bb, hbb⟩ : ∃ bb, decide (1 + al ≤ 1000 ∧ ah ≤ 12) = bb := ⟨_, rfl⟩
        rw [hbb] at HFT HL
        clear hbb f0 f1 d0 d1
        go_wp2
        have hd : decide ((ks.length : Int) ≤ 200) = true := by simp; omega
        refine region_class (KB.w (w := wr)) (by kernel_rfl) (by kernel_rfl) ⟨⟨_, below_drewN (Below.refl _ _) _⟩, rfl⟩ ?_
        repeat (go_big_quiet_step ((go_at_call 85; exact kb_call HFT.out _)))
        refine wpQuiet_nil ?_
        rintro _ ⟨q, rfl⟩
        have hBq := q.below
        go_wp2
        go_ret2
        refine ⟨?_, HB.out.trans (hBq.mono HB.out.size)⟩
        rw [HL.out, HAL.out, HAH.out]
        rfl
      · have HL : Hid (listOk ks = false) := hide (by unfold listOk; simp; omega)
        clear f0 f1 d0 d1
        go_wp2
        have hd : decide ((ks.length : Int) ≤ 200) = false := by simp; omega
        have hd2 : ¬ ((ks.length : Int) ≤ 200) := by omega
        refine region_class (KB.w (w := wr)) (by kernel_rfl) (by kernel_rfl) ⟨⟨_, below_drewN (Below.refl _ _) _⟩, rfl⟩ ?_
        repeat (go_big_quiet_step (fail))
        refine wpQuiet_nil ?_
        rintro _ ⟨q, rfl⟩
        have hBq := q.below
        go_wp2
        go_ret2
        refine ⟨?_, HB.out.trans (hBq.mono HB.out.size)⟩
        rw [HL.out, HAL.out, HAH.out]
        rfl
end Go.Proofs.Ytfpdoafpimaoaaa.Vl
