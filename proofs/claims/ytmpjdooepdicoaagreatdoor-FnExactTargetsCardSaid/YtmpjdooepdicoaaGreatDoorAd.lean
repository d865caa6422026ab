/- Targets: the law's marks in what is told. -/
import Derived.Test.YtmpjdooepdicoaaGreatDoorAb
import Derived.Test.YtmpjdooepdicoaaGreatDoorAc
namespace Go.Proofs.YtmpjdooepdicoaaGreatDoor.Vl
open Go.RowKit T.atoms T.ok T.high T.good T.allPlain

def kD (l : List (Td × Nat)) : Nat := (l.map fun p => 1 + 4 * p.1.at_.length).sum
theorem kD_cons (p : Td × Nat) (l : List (Td × Nat)) : kD (p :: l) = 1 + 4 * p.1.at_.length + kD l := by unfold kD; rw [List.map_cons, List.sum_cons]
theorem cellsD_cons (p : Td × Nat) (l : List (Td × Nat)) : cellsD (p :: l) = .string p.1.fr :: .slice (some ⟨p.2, 0, none⟩) p.1.at_.length p.1.at_.length :: cellsD l := rfl

set_option maxRecDepth 100000 in
set_option maxHeartbeats 1000000 in
theorem markD_any (lc : List (Td × Nat)) (g B H : Nat) (w : World) (hk : kD lc ≤ 4999999) (hn : ∀ p ∈ lc, p.1.at_.length ≤ 1048576) (hl : lc.length ≤ 1048576) (hc : TdsC w B g lc) (hBs : B ≤ w.heap.size) (hg : g < H) (hH : ∀ p ∈ lc, p.2 < H) :
    Calls Tryz.prog 10 #[.slice (some ⟨g, 0, none⟩) lc.length lc.length, .int .i64 1] w fun e w' => e = .returned (.int .i64 ((1 + kD lc : Nat) : Int)) ∧ Below B w w' ∧ ∀ b, H ≤ b → b < w.heap.size → w'.heap[b]? = w.heap[b]? := by
  have hgB := (hc.row.lt g rfl).1
  have HN := hide hn
  have HH := hide hH
  have HC := hide hc
  clear hn hH hc
  go_enter Tryz.func10, Tryz.ntmps10
  go_wp2
  go_loopw [1, 5] (fun t u wr => ∃ (i K : Nat) (P : List Value), i ≤ lc.length ∧ u = .int .i64 i ∧ t = .int .i64 (K : Int) ∧ 1 ≤ K ∧ 1 + kD lc = K + kD (lc.drop i) ∧ P.length = i * 2 ∧ wr.ownsRow B 47 2 (.slice (some ⟨g, 0, none⟩) lc.length lc.length) lc.length (P ++ cellsD (lc.drop i)) ∧ (∀ p ∈ lc.drop i, OwnA wr B p.2 p.1.at_) ∧ Below B w wr ∧ (∀ b, H ≤ b → b < w.heap.size → wr.heap[b]? = w.heap[b]?) ∧ B ≤ wr.heap.size ∧ w.heap.size ≤ wr.heap.size) (fun _ u _ => lc.length - (intOf u).toNat)
  case atStart => exact ⟨0, 1, [], Nat.zero_le _, rfl, rfl, Nat.le_refl _, rfl, rfl, HC.out.row, fun p hp => (HC.out.own p hp).2, Below.refl _ _, fun _ _ _ => rfl, hBs, Nat.le_refl _⟩
  case round =>
    obtain ⟨i, K, P, hi, rfl, rfl, hK1, hKe, hPl, ho, how, hB, hfr, hsz, hws⟩ := hrel
    by_cases hlt : i < lc.length
    · have hdr := List.drop_eq_getElem_cons hlt
      have hmem := List.getElem_mem hlt
      have hni := HN.out _ hmem
      have hHi := HH.out _ hmem
      have hgi := (HC.out.own _ hmem).1
      have hdis : ∀ q ∈ lc.drop (i + 1), (lc[i]).2 ≠ q.2 := by
        have h := HC.out.dis.sublist (List.drop_sublist i lc)
        rw [hdr] at h
        exact (List.pairwise_cons.1 h).1
      rw [hdr] at ho how hKe
      rw [kD_cons] at hKe
      rw [cellsD_cons] at ho
      have HGR : Hid (∀ q ∈ lc.drop (i + 1), g < q.2) := hide (fun q hq => (HC.out.own q (List.mem_of_mem_drop hq)).1)
      have HDIS := hide hdis
      clear hdis hmem hdr
      generalize lc[i] = p at *
      obtain ⟨⟨fr, at_⟩, gi⟩ := p
      simp only at ho how hKe hni hHi hgi HDIS
      have hKb : K + 1 + 4 * at_.length ≤ 5000000 := by omega
      have c0 : wr.cell? ⟨g, i * 2, none⟩ = some (.string fr) := (ho.cellAt _ (by omega)).trans (get4 _ _ _ 0 hPl)
      have f0 := ho.frozenAt (i * 2)
      have HO := hide ho
      have HOW := hide how
      have HFR := hide hfr
      have HKE := hide hKe
      have hgr : g < wr.heap.size := (ho.lt g rfl).2
      clear ho how hfr hKe
      go_wp2_with fail
      refine (markText_any K _ _ (by omega) (by omega) rfl).mono ?_
      rintro e w1 ⟨rfl, hb1⟩
      have t1 := row_belowS HO.out hb1
      have q0 : w1.cell? ⟨g, i * 2, none⟩ = some (.string fr) := (t1.cellAt _ (by omega)).trans (get4 _ _ _ 0 hPl)
      have z0 := t1.frozenAt (i * 2)
      have s0 := (t1.stored (i * 2) (.string ⟨(Mk.mt K).toArray⟩)).1
      rw [set2_0 _ _ _ _ _ _ hPl] at s0
      have c1 : (w1.setCell ⟨g, i * 2, none⟩ (.string ⟨(Mk.mt K).toArray⟩)).cell? ⟨g, i * 2 + 1, none⟩ = some (.slice (some ⟨gi, 0, none⟩) at_.length at_.length) := (s0.cellAt _ (by omega)).trans (get4 _ _ _ 1 hPl)
      have ow1 : OwnA (w1.setCell ⟨g, i * 2, none⟩ (.string ⟨(Mk.mt K).toArray⟩)) B gi at_ := own_set ((HOW.out (⟨fr, at_⟩, gi) (List.mem_cons_self ..)).below hb1) hgi _ _
      have hsW : (w1.setCell ⟨g, i * 2, none⟩ (.string ⟨(Mk.mt K).toArray⟩)).heap.size = w1.heap.size := size_set4 _ _ _
      have hb1s := hb1.size
      have hm := markAtoms_some (K + 1) at_.length gi at_.length B (cellsOf at_) _ (by omega) (by omega) hni ow1 (by rw [hsW]; omega)
      rw [show ((K + 1 : Nat) : Int) = (K : Int) + 1 from by omega] at hm
      have HM := hide hm
      have HS := hide s0
      have HR1 : Hid (∀ q ∈ lc.drop (i + 1), OwnA (w1.setCell ⟨g, i * 2, none⟩ (.string ⟨(Mk.mt K).toArray⟩)) B q.2 q.1.at_) := hide (fun q hq => own_set ((HOW.out q (List.mem_cons_of_mem _ hq)).below hb1) (HGR.out q hq) _ _)
      have HB1 : Hid (Below B w (w1.setCell ⟨g, i * 2, none⟩ (.string ⟨(Mk.mt K).toArray⟩))) := hide ((hB.trans (hb1.mono hsz)).setCell (p := ⟨g, i * 2, none⟩) hgB _)
      have HF1 : Hid (∀ b, H ≤ b → b < w.heap.size → (w1.setCell ⟨g, i * 2, none⟩ (.string ⟨(Mk.mt K).toArray⟩)).heap[b]? = w.heap[b]?) := hide (fun b h1 h2 => (Below.heap_setCell _ _ _ _ (show b ≠ g by omega)).trans ((hb1.block b (by omega)).trans (HFR.out b h1 h2)))
      clear t1 s0 ow1 hm c0 f0 hb1 HOW HFR HO
      go_wp2_with fail
      refine HM.out.mono ?_
      rintro e w3 ⟨rfl, ho3, hfr3, hb3⟩
      have hb3s := hb3.size
      rw [hsW] at hb3s hfr3
      clear q0 z0 c1
      go_wp2
      go_roundw
      case rel =>
        refine ⟨i + 1, K + 1 + 4 * at_.length, P ++ [.string ⟨(Mk.mt K).toArray⟩, .slice (some ⟨gi, 0, none⟩) at_.length at_.length], by omega, by go_num, congrArg (Value.int IntKind.i64) (by omega), by omega, by have := HKE.out; omega, by simp; omega, ?_, fun q hq => ?_, HB1.out.trans hb3, fun b h1 h2 => ?_, by omega, by omega⟩
        · rw [List.append_assoc]
          exact row_same HS.out (hfr3 g (by omega) (by omega))
        · have h := HR1.out q hq
          exact row_same h (hfr3 q.2 (by have := (h.lt q.2 rfl).2; rw [hsW] at this; exact this) (fun e => HDIS.out q hq e.symm))
        · exact (hfr3 b (by omega) (by omega)).trans (HF1.out b h1 h2)
      case measure => simp [intOf]; omega
    · obtain rfl : i = lc.length := by omega
      rw [List.drop_of_length_le (Nat.le_refl _)] at hKe
      have HKE := hide (show K = 1 + kD lc by rw [hKe]; rfl)
      clear hKe
      go_wp2
      go_ret
      exact ⟨ret_int (by rw [HKE.out]), hB, hfr⟩
end Go.Proofs.YtmpjdooepdicoaaGreatDoor.Vl
