/- Walks: newRecord, on the program's side. -/
import Derived.Test.YtfpdoafpimaoaaaQj
namespace Go.Proofs.Ytfpdoafpimaoaaa.Vl
open Go.RowKit T.atoms T.ok T.high T.good T.allPlain DatAt

def recOk (ks : List T) : Bool := decide (ks.length ≤ 400 ∧ 1 + (atomsL ks).length ≤ 1000 ∧ highL ks ≤ 12)
/-- A name: one atom, nothing below it. -/
def Bare (t : T) : Prop := t.count = 1 ∧ t.high = 0

set_option maxRecDepth 100000 in
set_option maxHeartbeats 2000000 in
theorem newRecord_any (ks : List T) (vs : List Value) (p : Option Addr) (c x m : Nat) (w : World) (hm : ks.length = 2 * m) (hlen : (atomsL ks).length ≤ 1000) (hhi : highL ks ≤ 1000) (hD : FldL w x ks vs) (hR : RowAt w x p vs) (hlf : ∀ t ∈ ks, t.leafy) (hbare : ∀ j (h : 2 * j < ks.length), Bare ks[2 * j]) :
    Calls Try.prog 74 #[.slice p m c] w fun e w' => e = .returned (.tuple #[.iface 92 (.agg #[.slice p m c, .int .i64 (1 + (atomsL ks).length : Nat), .int .i64 (highL ks : Nat)]), .bool (recOk ks)]) ∧ Below w.heap.size w w' := by
  have HD := hide hD
  have HR := hide hR
  have HF := hide hlf
  have HBA := hide hbare
  have HM := hide hm
  have hm1000 : m ≤ 1000 := by have := len_le_atomsL ks; omega
  clear hD hR hlf hbare hm
  go_enter Try.func74, Try.ntmps74
  go_wp2_with fail
  refine (single_any _).mono ?_
  rintro e w1 ⟨rfl, hb1⟩
  go_wp2
  go_loopw [10] (fun t wr => ∃ i : Nat, i ≤ m ∧ t = .int .i64 i ∧ Below w.heap.size w wr ∧ w1.heap.size < wr.heap.size ∧ w.heap.size ≤ w1.heap.size ∧ wr.cell? ⟨w1.heap.size, 0, none⟩ = some (.int .i64 (1 + (atomsL (ks.take (2 * i))).length : Nat)) ∧ wr.cell? ⟨w1.heap.size, 1, none⟩ = some (.int .i64 (highL (ks.take (2 * i)) : Nat)) ∧ wr.frozen? ⟨w1.heap.size, 0, none⟩ = false ∧ wr.frozen? ⟨w1.heap.size, 1, none⟩ = false) (fun t _ => m - (intOf t).toNat)
  case atStart => exact ⟨0, Nat.zero_le _, rfl, hb1.alloc hb1.size _, by simp, hb1.size, by simp [atomsL], by simp [highL], by simp, by simp⟩
  case round =>
    obtain ⟨i, hi, rfl, hB, hz1, hz0, d0, d1, f0, f1⟩ := hrel
    have ht1 := atomsL_take_le ks (2 * i)
    have ht2 := highL_take_le ks (2 * i)
    by_cases hlt : i < m
    · have h2 : 2 * i < ks.length := by have := HM.out; omega
      have h3 : 2 * i + 1 < ks.length := by have := HM.out; omega
      obtain ⟨v, hvn, hv, hdv⟩ := FldL.at HD.out i h3
      have hlv := HF.out ks[2 * i + 1] (List.getElem_mem h3)
      have HS := hide (sizes_of hdv hlv)
      obtain ⟨yv, uv, hve⟩ := hdv.isIface
      subst hve
      have hne : vs ≠ [] := fun e => by rw [e] at hv; simp at hv
      rcases HR.out with h | ⟨g, o, rfl, hgx, hgw, hcs⟩
      · exact absurd h hne
      have e0 := (hB.cell (p := ⟨g, o + 2 * i, none⟩) hgw).trans (hcs (2 * i) _ hvn)
      have e1 := (hB.cell (p := ⟨g, o + (2 * i + 1), none⟩) hgw).trans (hcs (2 * i + 1) _ hv)
      have e0' : wr.cell? ⟨g, o + i * 2, none⟩ = some (.string (ks[2 * i]).text) := by rw [Nat.mul_comm i 2]; exact e0
      have e1' : wr.cell? ⟨g, o + i * 2 + 1, none⟩ = some (.iface yv uv) := by rw [Nat.mul_comm i 2, Nat.add_assoc]; exact e1
      clear e0 e1
      have hba := HBA.out i h2
      have e : ks.take (2 * (i + 1)) = ks.take (2 * i) ++ [ks[2 * i], ks[2 * i + 1]] := by
        rw [show 2 * (i + 1) = (2 * i + 1) + 1 from by omega, List.take_succ_eq_append_getElem h3, List.take_succ_eq_append_getElem h2, List.append_assoc]; rfl
      have HA : Hid (1 + (atomsL (ks.take (2 * (i + 1)))).length = 1 + (atomsL (ks.take (2 * i))).length + 1 + (ks[2 * i + 1]).count) := hide (by
        have := hba.1
        unfold T.count at *
        rw [e, atomsL_append, List.length_append]; simp [atomsL]; omega)
      have HH : Hid (highL (ks.take (2 * (i + 1))) = max (max (highL (ks.take (2 * i))) (0 + 1)) ((ks[2 * i + 1]).high + 1)) := hide (by
        rw [e, show ks.take (2 * i) ++ [ks[2 * i], ks[2 * i + 1]] = (ks.take (2 * i) ++ [ks[2 * i]]) ++ [ks[2 * i + 1]] from by rw [List.append_assoc]; rfl, highL_snoc, highL_snoc, hba.2])
      have hb2 := atomsL_take_le ks (2 * (i + 1))
      have hb3 := highL_take_le ks (2 * (i + 1))
      have hc1 : (ks[2 * i + 1]).count ≤ 1000 := by have := HA.out; omega
      have hc2 : (ks[2 * i + 1]).high ≤ 1000 := by have := HH.out; omega
      have hc3 : 1 + (atomsL (ks.take (2 * i))).length + 1 ≤ 1002 := by omega
      generalize (ks[2 * i + 1]).count = cn at *
      generalize (ks[2 * i + 1]).high = hg at *
      generalize (atomsL (ks.take (2 * i))).length = al at *
      generalize highL (ks.take (2 * i)) = ah at *
      have HCA := hide (fun w' => holding_any (1 + al) ah 1 0 w' (by omega) (by omega) (by omega) (by omega))
      obtain ⟨m1, hm1⟩ : ∃ m1, max ah (0 + 1) = m1 := ⟨_, rfl⟩
      rw [hm1] at HCA HH
      have hm1b : m1 ≤ 1001 := by omega
      have HCB := hide (fun w' => holding_any (1 + al + 1) m1 cn hg w' (by omega) (by omega) (by omega) (by omega))
      obtain ⟨mh, hmh⟩ : ∃ mh, max m1 (hg + 1) = mh := ⟨_, rfl⟩
      rw [hmh] at HCB HH
      clear hm1 hmh
      clear hv hvn hdv hne hlv hcs hb2 hb3 e hba
      obtain ⟨nm, hnm⟩ : ∃ nm, (ks[2 * i]).text = nm := ⟨_, rfl⟩
      rw [hnm] at e0'
      clear hnm
      have r1 : Below wr.heap.size wr (wr.alloc (.cells #[.string nm, .iface yv uv] 95)) := (Below.refl _ _).alloc (Nat.le_refl _) _
      have HC : Hid (∀ w', Below (wr.alloc (.cells #[.string nm, .iface yv uv] 95)).heap.size (wr.alloc (.cells #[.string nm, .iface yv uv] 95)) w' → w'.cell? ⟨w1.heap.size, 0, none⟩ = some (.int .i64 (1 + al : Nat)) ∧ w'.cell? ⟨w1.heap.size, 1, none⟩ = some (.int .i64 (ah : Nat)) ∧ w'.cell? ⟨wr.heap.size, 1, none⟩ = some (.iface yv uv) ∧ w'.frozen? ⟨w1.heap.size, 0, none⟩ = false ∧ w'.frozen? ⟨w1.heap.size, 1, none⟩ = false ∧ w1.heap.size < w'.heap.size) := hide (by
        intro w' hb
        have hs : w1.heap.size < (wr.alloc (.cells #[.string nm, .iface yv uv] 95)).heap.size := by simp; omega
        exact ⟨(hb.cell (p := ⟨w1.heap.size, 0, none⟩) hs).trans ((r1.cell (p := ⟨w1.heap.size, 0, none⟩) hz1).trans d0), (hb.cell (p := ⟨w1.heap.size, 1, none⟩) hs).trans ((r1.cell (p := ⟨w1.heap.size, 1, none⟩) hz1).trans d1), (hb.cell (p := ⟨wr.heap.size, 1, none⟩) (by simp)).trans (by simp), (hb.frozen (p := ⟨w1.heap.size, 0, none⟩) hs).trans ((r1.frozen (p := ⟨w1.heap.size, 0, none⟩) hz1).trans f0), (hb.frozen (p := ⟨w1.heap.size, 1, none⟩) hs).trans ((r1.frozen (p := ⟨w1.heap.size, 1, none⟩) hz1).trans f1), Nat.lt_of_lt_of_le hs hb.size⟩)
      obtain ⟨s0, s1, s2, -, -, -⟩ := HC.out _ (Below.refl _ _)
      go_wp2
      go_region_law (first
        | (refine step_call0 rfl 83 rfl (ext 1 0) Try.f83 Try.func83 (by kernel_rfl) (by kernel_rfl) _ (single_any _) ?_; intro w3 hb3; have hA : Below (wr.alloc (.cells #[.string nm, .iface yv uv] 95)).heap.size (wr.alloc (.cells #[.string nm, .iface yv uv] 95)) w3 := (Below.refl _ _).drew.trans hb3; obtain ⟨a0, a1, a2, -, -, -⟩ := HC.out _ hA)
        | (refine step_call2 rfl 84 (.tmp 14) (.tmp 15) 86 86 rfl (ext (1 + al : Nat) (ah : Nat)) (ext (1 : Nat) (0 : Nat)) (ext (1 + al + 1 : Nat) (m1 : Nat)) (by first | (simp [Act.eval]; done) | simp [Act.eval, Act.put]) (by first | (simp [Act.eval]; done) | simp [Act.eval, Act.put]) Try.f84 Try.func84 (by kernel_rfl) (by kernel_rfl) _ (HCA.out _) ?_; intro w4 hb4; have hA4 := hA.trans (hb4.mono hA.size); obtain ⟨b0, b1, b2, -, -, -⟩ := HC.out _ hA4)
        | (refine step_size rfl (.tmp 18) rfl (.iface yv uv) cn hg (by first | (simp [Act.eval]; done) | simp [Act.eval, Act.put]) HS.out ?_; intro w5 hb5; have hA5 := hA4.trans (hb5.mono hA4.size); obtain ⟨c0, c1, c2, -, -, -⟩ := HC.out _ hA5)
        | (refine step_call2 rfl 84 (.tmp 16) (.tmp 19) 86 86 rfl (ext (1 + al + 1 : Nat) (m1 : Nat)) (ext (cn : Nat) (hg : Nat)) (ext (1 + al + 1 + cn : Nat) (mh : Nat)) (by first | (simp [Act.eval]; done) | simp [Act.eval, Act.put]) (by first | (simp [Act.eval]; done) | simp [Act.eval, Act.put]) Try.f84 Try.func84 (by kernel_rfl) (by kernel_rfl) _ (HCB.out _) ?_; intro w6 hb6; have hA6 := hA5.trans (hb6.mono hA5.size); obtain ⟨k0, k1, k2, q0, q1, hz6⟩ := HC.out _ hA6)
        | fail)
      all_goals
        have hB6 : Below w.heap.size w w6 := (hB.alloc hB.size _).trans (hA6.mono (by have := hB.size; simp; omega))
        have HB5 : Hid (Below w.heap.size w ((w6.setCell ⟨w1.heap.size, 0, none⟩ (.int .i64 (1 + al + 1 + cn : Nat))).setCell ⟨w1.heap.size, 1, none⟩ (.int .i64 (mh : Nat)))) := hide ((hB6.setCell hz0 _).setCell hz0 _)
        go_wp2
        go_roundw
        case rel =>
          refine ⟨i + 1, by omega, by go_num, HB5.out, ?_, hz0, ?_, ?_, ?_, ?_⟩
          · simpa using hz6
          · rw [HA.out]; exact (two_cells k0 k1).1
          · rw [HH.out]; exact (two_cells k0 k1).2
          · simp [q0]
          · simp [q1]
        case measure => simp [intOf]; omega
    · obtain rfl : i = m := by omega
      rw [List.take_of_length_le (by have := HM.out; omega)] at d0 d1
      obtain ⟨al, hal⟩ : ∃ al, (atomsL ks).length = al := ⟨_, rfl⟩
      obtain ⟨ah, hah⟩ : ∃ ah, highL ks = ah := ⟨_, rfl⟩
      have HAL := hide hal
      have HAH := hide hah
      rw [hal] at d0 hlen
      rw [hah] at d1 hhi
      clear hal hah ht1 ht2
      have HFT := hide (fun w' (_ : Below wr.heap.size wr w') => fits_any (1 + al) ah w')
      have HB := hide hB
      have f0' := fun q : KB wr => (q.below.cell (p := ⟨w1.heap.size, 0, none⟩) hz1).trans d0
      have f1' := fun q : KB wr => (q.below.cell (p := ⟨w1.heap.size, 1, none⟩) hz1).trans d1
      haveI hne : Nonempty (KB wr) := ⟨⟨_, Below.refl _ _⟩⟩
      by_cases h200 : (i : Int) ≤ 200
      · have HL : Hid (recOk ks = decide (1 + al ≤ 1000 ∧ ah ≤ 12)) := hide (by unfold recOk; rw [HAL.out, HAH.out, decide_eq_decide]; have := HM.out; omega)
        obtain ⟨bb, hbb⟩ : ∃ bb, decide (1 + al ≤ 1000 ∧ ah ≤ 12) = bb := ⟨_, rfl⟩
        rw [hbb] at HFT HL
        clear hbb f0 f1 d0 d1
        go_wp2
        have hd : decide ((i : Int) ≤ 200) = true := by simp; omega
        refine region_class (KB.w (w := wr)) (by kernel_rfl) (by kernel_rfl) ⟨⟨_, below_drewN (Below.refl _ _) _⟩, rfl⟩ ?_
        repeat (go_big_quiet_step ((go_at_call 85; exact kb_call HFT.out _)))
        refine wpQuiet_nil ?_
        rintro _ ⟨q, rfl⟩
        have hBq := q.below
        go_wp2
        go_ret2
        refine ⟨?_, HB.out.trans (hBq.mono HB.out.size)⟩
        rw [HL.out, HAL.out, HAH.out]
        rfl
      · have HL : Hid (recOk ks = false) := hide (by unfold recOk; simp; have := HM.out; omega)
        clear f0 f1 d0 d1
        go_wp2
        have hd : decide ((i : Int) ≤ 200) = false := by simp; omega
        have hd2 : ¬ ((i : Int) ≤ 200) := by omega
        refine region_class (KB.w (w := wr)) (by kernel_rfl) (by kernel_rfl) ⟨⟨_, below_drewN (Below.refl _ _) _⟩, rfl⟩ ?_
        repeat (go_big_quiet_step (fail))
        refine wpQuiet_nil ?_
        rintro _ ⟨q, rfl⟩
        have hBq := q.below
        go_wp2
        go_ret2
        refine ⟨?_, HB.out.trans (hBq.mono HB.out.size)⟩
        rw [HL.out, HAL.out, HAH.out]
        rfl
end Go.Proofs.Ytfpdoafpimaoaaa.Vl
