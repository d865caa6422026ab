/- Walks: kids of records, loads and files, on the specification's side. -/
import Derived.Test.YtmklgiononbmmaaDoorVd
namespace Go.Proofs.YtmklgiononbmmaaDoor
open Go.RowKit

theorem Tr.kidsOk_9 (ns : List Tr.Nd) (ls : List Nat) : Tr.kidsOk ns 9 ls = (Tr.allK ns (fun x => x == 17) ls && decide ((ls.length : Int) ≤ 200) && Tr.apart ns ls) := by unfold Tr.kidsOk; rfl
theorem Tr.kidsOk_23 (ns : List Tr.Nd) (ls : List Nat) : Tr.kidsOk ns 23 ls = (Tr.allK ns (fun x => x == 5) ls && Tr.inr ls.length 1 200) := by unfold Tr.kidsOk; rfl
theorem Tr.kidsOk_24 (ns : List Tr.Nd) (ls : List Nat) : Tr.kidsOk ns 24 ls = (Tr.allK ns (fun x => Tr.inr x 20 23) ls && decide ((ls.length : Int) ≤ 200)) := by unfold Tr.kidsOk; rfl

set_option maxRecDepth 100000 in
set_option maxHeartbeats 4000000 in
theorem kidsOk_9 (kind : Int) (ns : List Tr.Nd) (ls : List Nat) (tg tc g c : Nat) (w : World) (hl : ls.length ≤ 1048576) (ht : NodesAt w tg ns) (hi : IntsAt w g 0 ls) (hin : ∀ x ∈ ls, x < ns.length) (hkind : kind = 9) :
    Calls Tryd.prog 48 #[.agg #[.slice (some ⟨tg, 0, none⟩) ns.length tc], .int .i64 kind, .slice (some ⟨g, 0, none⟩) ls.length c] w fun e w' => e = .returned (.bool (Tr.kidsOk ns kind ls)) ∧ Below w.heap.size w w' := by
  have r1 : Below w.heap.size w (w.alloc (.cells #[.slice (some ⟨tg, 0, none⟩) ns.length tc] 31)) := (Below.refl _ _).alloc (Nat.le_refl _) _
  have HT := hide ht
  have HI := hide hi
  have HIN := hide hin
  have HK := hide hkind
  have hel := Tr.esOf_le ns ls
  clear ht hi hin hkind
  go_enter Tryd.func48, Tryd.ntmps48
  go_wp2
  go_loopw [8, 10] (fun s t wr => ∃ (j es : Nat), j ≤ ls.length ∧ t = .int .i64 j ∧ s = .int .i64 es ∧ es + Tr.esOf ns (ls.drop j) = Tr.esOf ns ls ∧ Below w.heap.size w wr ∧ w.heap.size < wr.heap.size ∧ wr.cell? ⟨w.heap.size, 0, none⟩ = some (.slice (some ⟨tg, 0, none⟩) ns.length tc)) (fun _ t _ => ls.length - (intOf t).toNat)
  case atStart => exact ⟨0, 0, Nat.zero_le _, rfl, rfl, by simp, r1, by simp, by simp⟩
  case round =>
    obtain ⟨j, es, hj, rfl, rfl, he, hB, hlt0, hc0⟩ := hrel
    have HE := hide he
    clear he
    by_cases hlt : j < ls.length
    · have hI := HI.out.2 j hlt
      rw [Nat.zero_add] at hI
      have hx : ls[j] < ns.length := HIN.out _ (List.getElem_mem _)
      obtain ⟨hN, _⟩ := HT.out.2 ls[j] hx
      have HS := hide (Tr.esOf_at ns ls j hlt)
      have HQ := hide (show Tr.isE ns ls[j] = Tr.inr ns[ls[j]].kind 1 16 by unfold Tr.isE; rw [Tr.kindOf_at hx])
      have a0 := (hB.cell (p := ⟨g, j, none⟩) HI.out.1).trans hI
      have a1 := (hB.cell (p := ⟨tg, ls[j] * 5, none⟩) HT.out.1).trans hN
      generalize ns[ls[j]].kind = kj at *
      generalize ls[j] = xj at *
      clear hI hN
      have hes : es ≤ ls.length := by have := HE.out; omega
      cases hq : Tr.inr kj 1 16
      all_goals
        go_wp2
        go_quiet ((go_at_call 74; exact Calls.quiet_of_same (e_any _ _)))
        rw [hq]
        go_wp2
        go_roundw
        case rel =>
          have e1 := HE.out
          rw [HS.out, HQ.out, hq] at e1
          first | rw [if_pos rfl] at e1 | rw [if_neg (by decide)] at e1
          first
          | exact ⟨j + 1, es + 1, by omega, by go_num, by go_num, by omega, below_drewN hB _, hlt0, hc0⟩
          | exact ⟨j + 1, es, by omega, by go_num, rfl, by omega, below_drewN hB _, hlt0, hc0⟩
        case measure => simp [intOf]; omega
    · have hes : es = Tr.esOf ns ls := by have e1 := HE.out; rw [List.drop_of_length_le (by omega)] at e1; simpa [Tr.esOf] using e1
      subst hes
      obtain rfl : j = ls.length := by omega
      clear HE hj
      obtain rfl := HK.out
      have HD := hide (Tr.kidsOk_9 ns ls)
      go_wp2
      go_loopw [16] (fun t wr => ∃ j : Nat, j ≤ ls.length ∧ t = .int .i64 j ∧ Tr.allK ns (fun x => x == 17) ls = Tr.allK ns (fun x => x == 17) (ls.drop j) ∧ Below w.heap.size w wr ∧ w.heap.size < wr.heap.size ∧ wr.cell? ⟨w.heap.size, 0, none⟩ = some (.slice (some ⟨tg, 0, none⟩) ns.length tc)) (fun t _ => ls.length - (intOf t).toNat)
      case atStart => exact ⟨0, Nat.zero_le _, rfl, by rw [List.drop_zero], hB, hlt0, hc0⟩
      case round =>
        obtain ⟨j, hj, rfl, he, hB, hlt0, hc0⟩ := hrel
        have HE := hide he
        clear he
        by_cases hlt : j < ls.length
        · have hI := HI.out.2 j hlt
          rw [Nat.zero_add] at hI
          have hx : ls[j] < ns.length := HIN.out _ (List.getElem_mem _)
          obtain ⟨hN, _⟩ := HT.out.2 ls[j] hx
          have HS := hide (Tr.allK_at ns (fun x => x == 17) ls j hlt)
          have HQ := hide (Tr.kindOf_at hx)
          have a0 := (hB.cell (p := ⟨g, j, none⟩) HI.out.1).trans hI
          have a1 := (hB.cell (p := ⟨tg, ls[j] * 5, none⟩) HT.out.1).trans hN
          generalize ns[ls[j]].kind = kj at *
          generalize ls[j] = xj at *
          clear hI hN
          cases hq : (kj != 17)
          all_goals
            go_wp2
            go_quiet (fail)
            try rw [hq]
            go_wp2
            first
            | (go_ret
               refine ⟨ret_bool ?_, below_drewN hB _⟩
               rw [HD.out, HE.out, HS.out, HQ.out]
               first | (simp only [hq, Bool.false_and]; done) | (simp at hq; simp [hq]; done))
            | (go_roundw
               case rel =>
                 refine ⟨j + 1, by omega, by go_num, ?_, below_drewN hB _, hlt0, hc0⟩
                 rw [HE.out, HS.out, HQ.out]
                 first | (simp only [hq, Bool.true_and]; done) | (simp at hq; simp [hq]; done)
               case measure => simp [intOf]; omega)
        · have HE2 := hide (show Tr.allK ns (fun x => x == 17) ls = true by rw [HE.out, List.drop_of_length_le (by omega)]; rfl)
          clear HE
          by_cases hn : (ls.length : Int) ≤ 200
          · go_wp2_with (go_at_call 75; refine (apart_any ns ls tg tc g 0 c _ hl (HT.out.below hB) (HI.out.below hB) HIN.out).mono ?_; rintro e w1 ⟨rfl, hb1⟩)
            go_ret
            refine ⟨ret_bool ?_, hB.trans (hb1.mono hB.size)⟩
            rw [HD.out, HE2.out]; simp [hn]
          · go_wp2
            go_ret
            refine ⟨ret_bool ?_, hB⟩
            rw [HD.out, decide_eq_false (by omega)]; simp

set_option maxRecDepth 100000 in
set_option maxHeartbeats 4000000 in
theorem kidsOk_23 (kind : Int) (ns : List Tr.Nd) (ls : List Nat) (tg tc g c : Nat) (w : World) (hl : ls.length ≤ 1048576) (ht : NodesAt w tg ns) (hi : IntsAt w g 0 ls) (hin : ∀ x ∈ ls, x < ns.length) (hkind : kind = 23) :
    Calls Tryd.prog 48 #[.agg #[.slice (some ⟨tg, 0, none⟩) ns.length tc], .int .i64 kind, .slice (some ⟨g, 0, none⟩) ls.length c] w fun e w' => e = .returned (.bool (Tr.kidsOk ns kind ls)) ∧ Below w.heap.size w w' := by
  have r1 : Below w.heap.size w (w.alloc (.cells #[.slice (some ⟨tg, 0, none⟩) ns.length tc] 31)) := (Below.refl _ _).alloc (Nat.le_refl _) _
  have HT := hide ht
  have HI := hide hi
  have HIN := hide hin
  have HK := hide hkind
  have hel := Tr.esOf_le ns ls
  clear ht hi hin hkind
  go_enter Tryd.func48, Tryd.ntmps48
  go_wp2
  go_loopw [8, 10] (fun s t wr => ∃ (j es : Nat), j ≤ ls.length ∧ t = .int .i64 j ∧ s = .int .i64 es ∧ es + Tr.esOf ns (ls.drop j) = Tr.esOf ns ls ∧ Below w.heap.size w wr ∧ w.heap.size < wr.heap.size ∧ wr.cell? ⟨w.heap.size, 0, none⟩ = some (.slice (some ⟨tg, 0, none⟩) ns.length tc)) (fun _ t _ => ls.length - (intOf t).toNat)
  case atStart => exact ⟨0, 0, Nat.zero_le _, rfl, rfl, by simp, r1, by simp, by simp⟩
  case round =>
    obtain ⟨j, es, hj, rfl, rfl, he, hB, hlt0, hc0⟩ := hrel
    have HE := hide he
    clear he
    by_cases hlt : j < ls.length
    · have hI := HI.out.2 j hlt
      rw [Nat.zero_add] at hI
      have hx : ls[j] < ns.length := HIN.out _ (List.getElem_mem _)
      obtain ⟨hN, _⟩ := HT.out.2 ls[j] hx
      have HS := hide (Tr.esOf_at ns ls j hlt)
      have HQ := hide (show Tr.isE ns ls[j] = Tr.inr ns[ls[j]].kind 1 16 by unfold Tr.isE; rw [Tr.kindOf_at hx])
      have a0 := (hB.cell (p := ⟨g, j, none⟩) HI.out.1).trans hI
      have a1 := (hB.cell (p := ⟨tg, ls[j] * 5, none⟩) HT.out.1).trans hN
      generalize ns[ls[j]].kind = kj at *
      generalize ls[j] = xj at *
      clear hI hN
      have hes : es ≤ ls.length := by have := HE.out; omega
      cases hq : Tr.inr kj 1 16
      all_goals
        go_wp2
        go_quiet ((go_at_call 74; exact Calls.quiet_of_same (e_any _ _)))
        rw [hq]
        go_wp2
        go_roundw
        case rel =>
          have e1 := HE.out
          rw [HS.out, HQ.out, hq] at e1
          first | rw [if_pos rfl] at e1 | rw [if_neg (by decide)] at e1
          first
          | exact ⟨j + 1, es + 1, by omega, by go_num, by go_num, by omega, below_drewN hB _, hlt0, hc0⟩
          | exact ⟨j + 1, es, by omega, by go_num, rfl, by omega, below_drewN hB _, hlt0, hc0⟩
        case measure => simp [intOf]; omega
    · have hes : es = Tr.esOf ns ls := by have e1 := HE.out; rw [List.drop_of_length_le (by omega)] at e1; simpa [Tr.esOf] using e1
      subst hes
      obtain rfl : j = ls.length := by omega
      clear HE hj
      obtain rfl := HK.out
      have HD := hide (Tr.kidsOk_23 ns ls)
      go_wp2
      go_loopw [14] (fun t wr => ∃ j : Nat, j ≤ ls.length ∧ t = .int .i64 j ∧ Tr.allK ns (fun x => x == 5) ls = Tr.allK ns (fun x => x == 5) (ls.drop j) ∧ Below w.heap.size w wr ∧ w.heap.size < wr.heap.size ∧ wr.cell? ⟨w.heap.size, 0, none⟩ = some (.slice (some ⟨tg, 0, none⟩) ns.length tc)) (fun t _ => ls.length - (intOf t).toNat)
      case atStart => exact ⟨0, Nat.zero_le _, rfl, by rw [List.drop_zero], hB, hlt0, hc0⟩
      case round =>
        obtain ⟨j, hj, rfl, he, hB, hlt0, hc0⟩ := hrel
        have HE := hide he
        clear he
        by_cases hlt : j < ls.length
        · have hI := HI.out.2 j hlt
          rw [Nat.zero_add] at hI
          have hx : ls[j] < ns.length := HIN.out _ (List.getElem_mem _)
          obtain ⟨hN, _⟩ := HT.out.2 ls[j] hx
          have HS := hide (Tr.allK_at ns (fun x => x == 5) ls j hlt)
          have HQ := hide (Tr.kindOf_at hx)
          have a0 := (hB.cell (p := ⟨g, j, none⟩) HI.out.1).trans hI
          have a1 := (hB.cell (p := ⟨tg, ls[j] * 5, none⟩) HT.out.1).trans hN
          generalize ns[ls[j]].kind = kj at *
          generalize ls[j] = xj at *
          clear hI hN
          cases hq : (kj != 5)
          all_goals
            go_wp2
            go_quiet (fail)
            try rw [hq]
            go_wp2
            first
            | (go_ret
               refine ⟨ret_bool ?_, below_drewN hB _⟩
               rw [HD.out, HE.out, HS.out, HQ.out]
               first | (simp only [hq, Bool.false_and]; done) | (simp at hq; simp [hq]; done))
            | (go_roundw
               case rel =>
                 refine ⟨j + 1, by omega, by go_num, ?_, below_drewN hB _, hlt0, hc0⟩
                 rw [HE.out, HS.out, HQ.out]
                 first | (simp only [hq, Bool.true_and]; done) | (simp at hq; simp [hq]; done)
               case measure => simp [intOf]; omega)
        · have HE2 := hide (show Tr.allK ns (fun x => x == 5) ls = true by rw [HE.out, List.drop_of_length_le (by omega)]; rfl)
          clear HE
          go_wp2_with (go_at_call 34; refine (in_any _ _ _ _).mono ?_; rintro e w' ⟨rfl, rfl⟩)
          go_ret
          refine ⟨ret_bool ?_, hB⟩
          rw [HD.out, HE2.out]; rfl

set_option maxRecDepth 100000 in
set_option maxHeartbeats 4000000 in
theorem kidsOk_24 (kind : Int) (ns : List Tr.Nd) (ls : List Nat) (tg tc g c : Nat) (w : World) (hl : ls.length ≤ 1048576) (ht : NodesAt w tg ns) (hi : IntsAt w g 0 ls) (hin : ∀ x ∈ ls, x < ns.length) (hkind : kind = 24) :
    Calls Tryd.prog 48 #[.agg #[.slice (some ⟨tg, 0, none⟩) ns.length tc], .int .i64 kind, .slice (some ⟨g, 0, none⟩) ls.length c] w fun e w' => e = .returned (.bool (Tr.kidsOk ns kind ls)) ∧ Below w.heap.size w w' := by
  have r1 : Below w.heap.size w (w.alloc (.cells #[.slice (some ⟨tg, 0, none⟩) ns.length tc] 31)) := (Below.refl _ _).alloc (Nat.le_refl _) _
  have HT := hide ht
  have HI := hide hi
  have HIN := hide hin
  have HK := hide hkind
  have hel := Tr.esOf_le ns ls
  clear ht hi hin hkind
  go_enter Tryd.func48, Tryd.ntmps48
  go_wp2
  go_loopw [8, 10] (fun s t wr => ∃ (j es : Nat), j ≤ ls.length ∧ t = .int .i64 j ∧ s = .int .i64 es ∧ es + Tr.esOf ns (ls.drop j) = Tr.esOf ns ls ∧ Below w.heap.size w wr ∧ w.heap.size < wr.heap.size ∧ wr.cell? ⟨w.heap.size, 0, none⟩ = some (.slice (some ⟨tg, 0, none⟩) ns.length tc)) (fun _ t _ => ls.length - (intOf t).toNat)
  case atStart => exact ⟨0, 0, Nat.zero_le _, rfl, rfl, by simp, r1, by simp, by simp⟩
  case round =>
    obtain ⟨j, es, hj, rfl, rfl, he, hB, hlt0, hc0⟩ := hrel
    have HE := hide he
    clear he
    by_cases hlt : j < ls.length
    · have hI := HI.out.2 j hlt
      rw [Nat.zero_add] at hI
      have hx : ls[j] < ns.length := HIN.out _ (List.getElem_mem _)
      obtain ⟨hN, _⟩ := HT.out.2 ls[j] hx
      have HS := hide (Tr.esOf_at ns ls j hlt)
      have HQ := hide (show Tr.isE ns ls[j] = Tr.inr ns[ls[j]].kind 1 16 by unfold Tr.isE; rw [Tr.kindOf_at hx])
      have a0 := (hB.cell (p := ⟨g, j, none⟩) HI.out.1).trans hI
      have a1 := (hB.cell (p := ⟨tg, ls[j] * 5, none⟩) HT.out.1).trans hN
      generalize ns[ls[j]].kind = kj at *
      generalize ls[j] = xj at *
      clear hI hN
      have hes : es ≤ ls.length := by have := HE.out; omega
      cases hq : Tr.inr kj 1 16
      all_goals
        go_wp2
        go_quiet ((go_at_call 74; exact Calls.quiet_of_same (e_any _ _)))
        rw [hq]
        go_wp2
        go_roundw
        case rel =>
          have e1 := HE.out
          rw [HS.out, HQ.out, hq] at e1
          first | rw [if_pos rfl] at e1 | rw [if_neg (by decide)] at e1
          first
          | exact ⟨j + 1, es + 1, by omega, by go_num, by go_num, by omega, below_drewN hB _, hlt0, hc0⟩
          | exact ⟨j + 1, es, by omega, by go_num, rfl, by omega, below_drewN hB _, hlt0, hc0⟩
        case measure => simp [intOf]; omega
    · have hes : es = Tr.esOf ns ls := by have e1 := HE.out; rw [List.drop_of_length_le (by omega)] at e1; simpa [Tr.esOf] using e1
      subst hes
      obtain rfl : j = ls.length := by omega
      clear HE hj
      obtain rfl := HK.out
      have HD := hide (Tr.kidsOk_24 ns ls)
      go_wp2
      go_loopw [15] (fun t wr => ∃ j : Nat, j ≤ ls.length ∧ t = .int .i64 j ∧ Tr.allK ns (fun x => Tr.inr x 20 23) ls = Tr.allK ns (fun x => Tr.inr x 20 23) (ls.drop j) ∧ Below w.heap.size w wr ∧ w.heap.size < wr.heap.size ∧ wr.cell? ⟨w.heap.size, 0, none⟩ = some (.slice (some ⟨tg, 0, none⟩) ns.length tc)) (fun t _ => ls.length - (intOf t).toNat)
      case atStart => exact ⟨0, Nat.zero_le _, rfl, by rw [List.drop_zero], hB, hlt0, hc0⟩
      case round =>
        obtain ⟨j, hj, rfl, he, hB, hlt0, hc0⟩ := hrel
        have HE := hide he
        clear he
        by_cases hlt : j < ls.length
        · have hI := HI.out.2 j hlt
          rw [Nat.zero_add] at hI
          have hx : ls[j] < ns.length := HIN.out _ (List.getElem_mem _)
          obtain ⟨hN, _⟩ := HT.out.2 ls[j] hx
          have HS := hide (Tr.allK_at ns (fun x => Tr.inr x 20 23) ls j hlt)
          have HQ := hide (Tr.kindOf_at hx)
          have a0 := (hB.cell (p := ⟨g, j, none⟩) HI.out.1).trans hI
          have a1 := (hB.cell (p := ⟨tg, ls[j] * 5, none⟩) HT.out.1).trans hN
          generalize ns[ls[j]].kind = kj at *
          generalize ls[j] = xj at *
          clear hI hN
          cases hq : Tr.inr kj 20 23
          all_goals
            go_wp2
            go_quiet ((go_at_call 34; exact Calls.quiet_of_same (in_any _ _ _ _)))
            try rw [hq]
            go_wp2
            first
            | (go_ret
               refine ⟨ret_bool ?_, below_drewN hB _⟩
               rw [HD.out, HE.out, HS.out, HQ.out]
               first | (simp only [hq, Bool.false_and]; done) | (simp at hq; simp [hq]; done))
            | (go_roundw
               case rel =>
                 refine ⟨j + 1, by omega, by go_num, ?_, below_drewN hB _, hlt0, hc0⟩
                 rw [HE.out, HS.out, HQ.out]
                 first | (simp only [hq, Bool.true_and]; done) | (simp at hq; simp [hq]; done)
               case measure => simp [intOf]; omega)
        · have HE2 := hide (show Tr.allK ns (fun x => Tr.inr x 20 23) ls = true by rw [HE.out, List.drop_of_length_le (by omega)]; rfl)
          clear HE
          by_cases hn : (ls.length : Int) ≤ 200
          all_goals
            go_wp2
            go_ret
            refine ⟨ret_bool ?_, hB⟩
            rw [HD.out, HE2.out]; simp [hn]

set_option maxRecDepth 100000 in
set_option maxHeartbeats 4000000 in
theorem kidsOk_other (kind : Int) (ns : List Tr.Nd) (ls : List Nat) (tg tc g c : Nat) (w : World) (hl : ls.length ≤ 1048576) (ht : NodesAt w tg ns) (hi : IntsAt w g 0 ls) (hin : ∀ x ∈ ls, x < ns.length) (hkind : kind < 1 ∨ 24 < kind) :
    Calls Tryd.prog 48 #[.agg #[.slice (some ⟨tg, 0, none⟩) ns.length tc], .int .i64 kind, .slice (some ⟨g, 0, none⟩) ls.length c] w fun e w' => e = .returned (.bool (Tr.kidsOk ns kind ls)) ∧ Below w.heap.size w w' := by
  have r1 : Below w.heap.size w (w.alloc (.cells #[.slice (some ⟨tg, 0, none⟩) ns.length tc] 31)) := (Below.refl _ _).alloc (Nat.le_refl _) _
  have HT := hide ht
  have HI := hide hi
  have HIN := hide hin
  have HK := hide hkind
  have hel := Tr.esOf_le ns ls
  clear ht hi hin hkind
  go_enter Tryd.func48, Tryd.ntmps48
  go_wp2
  go_loopw [8, 10] (fun s t wr => ∃ (j es : Nat), j ≤ ls.length ∧ t = .int .i64 j ∧ s = .int .i64 es ∧ es + Tr.esOf ns (ls.drop j) = Tr.esOf ns ls ∧ Below w.heap.size w wr ∧ w.heap.size < wr.heap.size ∧ wr.cell? ⟨w.heap.size, 0, none⟩ = some (.slice (some ⟨tg, 0, none⟩) ns.length tc)) (fun _ t _ => ls.length - (intOf t).toNat)
  case atStart => exact ⟨0, 0, Nat.zero_le _, rfl, rfl, by simp, r1, by simp, by simp⟩
  case round =>
    obtain ⟨j, es, hj, rfl, rfl, he, hB, hlt0, hc0⟩ := hrel
    have HE := hide he
    clear he
    by_cases hlt : j < ls.length
    · have hI := HI.out.2 j hlt
      rw [Nat.zero_add] at hI
      have hx : ls[j] < ns.length := HIN.out _ (List.getElem_mem _)
      obtain ⟨hN, _⟩ := HT.out.2 ls[j] hx
      have HS := hide (Tr.esOf_at ns ls j hlt)
      have HQ := hide (show Tr.isE ns ls[j] = Tr.inr ns[ls[j]].kind 1 16 by unfold Tr.isE; rw [Tr.kindOf_at hx])
      have a0 := (hB.cell (p := ⟨g, j, none⟩) HI.out.1).trans hI
      have a1 := (hB.cell (p := ⟨tg, ls[j] * 5, none⟩) HT.out.1).trans hN
      generalize ns[ls[j]].kind = kj at *
      generalize ls[j] = xj at *
      clear hI hN
      have hes : es ≤ ls.length := by have := HE.out; omega
      cases hq : Tr.inr kj 1 16
      all_goals
        go_wp2
        go_quiet ((go_at_call 74; exact Calls.quiet_of_same (e_any _ _)))
        rw [hq]
        go_wp2
        go_roundw
        case rel =>
          have e1 := HE.out
          rw [HS.out, HQ.out, hq] at e1
          first | rw [if_pos rfl] at e1 | rw [if_neg (by decide)] at e1
          first
          | exact ⟨j + 1, es + 1, by omega, by go_num, by go_num, by omega, below_drewN hB _, hlt0, hc0⟩
          | exact ⟨j + 1, es, by omega, by go_num, rfl, by omega, below_drewN hB _, hlt0, hc0⟩
        case measure => simp [intOf]; omega
    · have hes : es = Tr.esOf ns ls := by have e1 := HE.out; rw [List.drop_of_length_le (by omega)] at e1; simpa [Tr.esOf] using e1
      subst hes
      obtain rfl : j = ls.length := by omega
      clear HE hj
      have h0 := HK.out
      go_wp2
      all_goals
        go_ret
        refine ⟨ret_bool ?_, hB⟩
        unfold Tr.kidsOk
        repeat rw [if_neg (by omega)]
end Go.Proofs.YtmklgiononbmmaaDoor
