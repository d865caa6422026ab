/- Walks: a name that is used, on the specification's side. -/
import Derived.Test.YtmklgiononbmmaaDoorKa
namespace Go.Proofs.YtmklgiononbmmaaDoor
open Go.RowKit

theorem Tr.lookK_snoc (x : ByteArray) (kn : List Tr.Kn) (p : Tr.Kn) : Tr.lookK x (kn ++ [p]) = if p.1 = x then some p.2 else Tr.lookK x kn := by
  induction kn with
  | nil => simp [Tr.lookK]
  | cons q r ih =>
    rw [List.cons_append, Tr.lookK, ih, Tr.lookK]
    by_cases h : p.1 = x
    · simp [h]
    · simp [h]
theorem Tr.lookK_at (x : ByteArray) (kn : List Tr.Kn) (i : Nat) (h : i < kn.length) : Tr.lookK x (kn.take (i + 1)) = if kn[i].1 = x then some kn[i].2 else Tr.lookK x (kn.take i) := by
  rw [List.take_succ_eq_append_getElem h, Tr.lookK_snoc]

set_option maxHeartbeats 400000 in
theorem builts_any (w : World) : Calls Tryd.prog 37 #[] w fun e w' => e = .returned (.slice (some ⟨w.heap.size, 0, none⟩) 15 15) ∧ Below w.heap.size w w' ∧ w.heap.size < w'.heap.size ∧ Lies w' w.heap.size Tr.builts := by
  go_enter Tryd.func37, Tryd.ntmps37
  go_wp2
  go_ret
  refine ⟨rfl, (Below.refl _ _).alloc (Nat.le_refl _) _, by simp, ?_⟩
  exact lies_lit w 9 Tr.builts
theorem has_builts (s : ByteArray) (w : World) (b : Nat) (hc : Lies w b Tr.builts) :
    Calls Tryd.prog 36 #[.slice (some ⟨b, 0, none⟩) 15 15, .string s] w fun e w' => e = .returned (.bool (decide (s.data.toList ∈ Tr.builts))) ∧ w' = w := has_any Tr.builts b s w (by decide) hc
theorem Tr.textOf_at {ns : List Tr.Nd} {k : Nat} (h : k < ns.length) : Tr.textOf ns k = ns[k].text := by simp [Tr.textOf, h]
theorem ba_eq (a b : ByteArray) : (a.toList == b.toList) = true ↔ a = b := by
  rw [beq_iff_eq, Lib.toList_data, Lib.toList_data]
  exact ⟨fun h => ByteArray.ext (Array.toList_inj.1 h), fun h => by rw [h]⟩

set_option maxRecDepth 100000 in
set_option maxHeartbeats 2000000 in
theorem use_any (ns : List Tr.Nd) (ks : List (List Nat)) (wb tg tc kg kc cg bg k kng knc : Nat) (kn : List Tr.Kn) (s : Tr.St) (w : World) (hk : k < ns.length) (hl : kn.length ≤ 100000000) (hF : Fx ns ks wb tg tc kg kc cg bg w) (hD : Dy ns.length cg bg s w) (hK : KnAt w kng kn) :
    Calls Tryd.prog 76 #[.pointer (some ⟨wb, 0, none⟩), .int .i64 k, .slice (some ⟨kng, 0, none⟩) kn.length knc] w fun e w' => e = .returned (.tuple #[]) ∧ Kp cg bg w w' ∧ Dy ns.length cg bg (Tr.useS ns k kn s) w' := by
  obtain ⟨_, _, _, hN, _⟩ := hF.nodes.2 k hk
  have h0 := hF.f0
  have h3 := hF.f3
  obtain ⟨hcb, hfb⟩ := hD.cellB k hk
  have HU := hide (show Tr.useS ns k kn s = (match Tr.lookK ns[k].text kn with
    | some a => { s with binds := s.binds.set k a }
    | none => if ns[k].text.data.toList ∈ Tr.builts then { s with binds := s.binds.set k (-2) } else Tr.faultS k 9 s) by rw [← Tr.textOf_at hk]; rfl)
  generalize ns[k].text = tx at *
  have HD := hide hD
  have HF := hide hF
  have HKN := hide hK
  have hlt0 := hF.wlt
  have hlt1 := hF.nodes.1
  have hlt2 := (hD.b.lt bg rfl).2
  clear hF hD hK
  go_enter Tryd.func76, Tryd.ntmps76
  go_wp2
  go_loopw [6] (fun t wr => ∃ i : Nat, i ≤ kn.length ∧ t = .int .i64 ((i : Int) - 1) ∧ Below w.heap.size w wr ∧ Tr.lookK tx kn = Tr.lookK tx (kn.take i)) (fun t _ => (intOf t + 1).toNat)
  case atStart => exact ⟨kn.length, Nat.le_refl _, rfl, Below.refl _ _, by rw [List.take_length]⟩
  case round =>
    obtain ⟨i, hi, rfl, hB, he⟩ := hrel
    have HE := hide he
    clear he
    have q0 := (hB.cell (p := ⟨wb, 0, none⟩) hlt0).trans h0
    have q3 := (hB.cell (p := ⟨wb, 3, none⟩) hlt0).trans h3
    have qN := (hB.cell (p := ⟨tg, k * 5 + 3, none⟩) hlt1).trans hN
    have qb := (hB.cell (p := ⟨bg, k, none⟩) hlt2).trans hcb
    have qf := (hB.frozen (p := ⟨bg, k, none⟩) hlt2).trans hfb
    by_cases hpos : 0 < i
    · obtain ⟨j, rfl⟩ : ∃ j, i = j + 1 := ⟨i - 1, by omega⟩
      have HS := hide (Tr.lookK_at tx kn j (by omega))
      obtain ⟨e0, e1⟩ := HKN.out.2 j (by omega)
      have k0 := (hB.cell (p := ⟨kng, j * 2, none⟩) HKN.out.1).trans e0
      have k1 := (hB.cell (p := ⟨kng, j * 2 + 1, none⟩) HKN.out.1).trans e1
      have hba := ba_eq kn[j].1 tx
      generalize kn[j].1 = tj at *
      generalize kn[j].2 = aj at *
      have hj1 : ((j + 1 : Nat) : Int) - 1 = j := by omega
      rw [hj1]
      cases hq : (tj.toList == tx.toList)
      · have HS2 : Hid (Tr.lookK tx kn = Tr.lookK tx (kn.take j)) := hide (by rw [HE.out, HS.out, if_neg (fun h => by rw [hba.2 h] at hq; cases hq)])
        go_wp2
        go_quiet (fail)
        go_wp2
        go_roundw
        case rel => exact ⟨j, by omega, by go_num, below_drewN hB _, HS2.out⟩
        case measure => simp [intOf]
      · have HS2 : Hid (Tr.useS ns k kn s = { s with binds := s.binds.set k aj }) := hide (by rw [HU.out, HE.out, HS.out, if_pos (hba.1 hq)])
        go_wp2
        go_quiet (fail)
        go_wp2
        go_region
        all_goals
          go_wp2
          (first | go_end0 | refine bodyPost_ret (results_none rfl _ _ _) rfl ?_)
          exact ⟨rfl, (Kp.of_below (below_drewN hB _)).setCell _ _ (.inr rfl), by rw [HS2.out]; exact (HD.out.below (below_drewN hB _)).setB k aj⟩
    · obtain rfl : i = 0 := by omega
      have HN : Hid (Tr.lookK tx kn = none) := hide (by rw [HE.out]; rfl)
      have hw0 := Nat.lt_of_lt_of_le hlt0 hB.size
      have hw1 := Nat.lt_of_lt_of_le hlt1 hB.size
      have hw2 := Nat.lt_of_lt_of_le hlt2 hB.size
      have HBT := hide (has_builts tx)
      cases hbt : decide (tx.data.toList ∈ Tr.builts)
      · have HS2 : Hid (Tr.useS ns k kn s = Tr.faultS k 9 s) := hide (by rw [HU.out, HN.out]; simp only; rw [if_neg (by simpa using hbt)])
        have HBT2 := HBT.out
        rw [hbt] at HBT2
        replace HBT2 := hide HBT2
        have HFA := hide (fun w' (hb : Below w.heap.size w w') => fault_any ns ks wb tg tc kg kc cg bg k 9 s w' hk (HF.out.kept (.of_below hb)) (HD.out.below hb))
        go_wp2
        go_region_with (first
          | (go_at_call 37; refine (builts_any _).mono ?_; rintro e w1 ⟨rfl, hb1, hz1, hli⟩; have r0 := (hb1.cell (p := ⟨wb, 0, none⟩) hw0).trans q0; have rN := (hb1.cell (p := ⟨tg, k * 5 + 3, none⟩) hw1).trans qN)
          | (go_at_call 36; refine (HBT2.out _ _ hli).mono ?_; rintro e w' ⟨rfl, rfl⟩))
        all_goals
          have hB1 := hB.drew.trans (hb1.mono hB.size)
          go_wp2_with fail
          refine (HFA.out _ hB1).mono ?_
          rintro e w2 ⟨rfl, hk2, hd2⟩
          go_wp2
          (first | go_end0 | refine bodyPost_ret (results_none rfl _ _ _) rfl ?_)
          exact ⟨rfl, (Kp.of_below hB1).trans hk2, by rw [HS2.out]; exact hd2⟩
      · have HS2 : Hid (Tr.useS ns k kn s = { s with binds := s.binds.set k (-2) }) := hide (by rw [HU.out, HN.out]; simp only; rw [if_pos (by simpa using hbt)])
        have HBT2 := HBT.out
        rw [hbt] at HBT2
        replace HBT2 := hide HBT2
        go_wp2
        go_region_with (first
          | (go_at_call 37; refine (builts_any _).mono ?_; rintro e w1 ⟨rfl, hb1, hz1, hli⟩; have r0 := (hb1.cell (p := ⟨wb, 0, none⟩) hw0).trans q0; have rN := (hb1.cell (p := ⟨tg, k * 5 + 3, none⟩) hw1).trans qN; have r3 := (hb1.cell (p := ⟨wb, 3, none⟩) hw0).trans q3; have rb := (hb1.cell (p := ⟨bg, k, none⟩) hw2).trans qb; have rf := (hb1.frozen (p := ⟨bg, k, none⟩) hw2).trans qf)
          | (go_at_call 36; refine (HBT2.out _ _ hli).mono ?_; rintro e w' ⟨rfl, rfl⟩))
        all_goals
          have hB1 := hB.drew.trans (hb1.mono hB.size)
          go_wp2
          (first | go_end0 | refine bodyPost_ret (results_none rfl _ _ _) rfl ?_)
          exact ⟨rfl, (Kp.of_below hB1).setCell _ _ (.inr rfl), by rw [HS2.out]; exact (HD.out.below hB1).setB k (-2)⟩
end Go.Proofs.YtmklgiononbmmaaDoor
