/- Walks: kids of calls and functions, on the specification's side. -/
import Derived.Test.YtmklgiononbmmaaDoorVd
namespace Go.Proofs.YtmklgiononbmmaaDoor
open Go.RowKit

def Tr.fnOk (ns : List Tr.Nd) (ls : List Nat) : Bool := Tr.allK ns (fun x => x == 19) ls.dropLast && (ls.getLast?.map (Tr.isE ns) == some true) && decide ((ls.length : Int) - 1 ≤ 8)
theorem Tr.kidsOk_15 (ns : List Tr.Nd) (ls : List Nat) : Tr.kidsOk ns 15 ls = Tr.fnOk ns ls := by unfold Tr.kidsOk; rfl
theorem Tr.kidsOk_20 (ns : List Tr.Nd) (ls : List Nat) : Tr.kidsOk ns 20 ls = Tr.fnOk ns ls := by unfold Tr.kidsOk; rfl
theorem Tr.kidsOk_12 (ns : List Tr.Nd) (ls : List Nat) : Tr.kidsOk ns 12 ls = (Tr.allK ns (fun x => x == 18) (ls.drop (Tr.firsts ns ls)) && decide (1 ≤ (Tr.firsts ns ls : Int)) && decide ((ls.length : Int) - 1 ≤ 8) && Tr.apart ns (ls.drop (Tr.firsts ns ls))) := by unfold Tr.kidsOk; rfl
theorem Tr.firsts_at (ns : List Tr.Nd) (ls : List Nat) (j : Nat) (h : j < ls.length) : Tr.firsts ns (ls.drop j) = if Tr.isE ns ls[j] = true then 1 + Tr.firsts ns (ls.drop (j + 1)) else 0 := by
  rw [List.drop_eq_getElem_cons h]; rfl
theorem Tr.drop_last (ls : List Nat) (j : Nat) (h : j + 1 < ls.length) : ls.dropLast[j]'(by simp; omega) = ls[j] := by simp

set_option maxRecDepth 100000 in
set_option maxHeartbeats 4000000 in
theorem kidsOk_fn (kind : Int) (ns : List Tr.Nd) (ls : List Nat) (tg tc g c : Nat) (w : World) (hl : ls.length ≤ 1048576) (ht : NodesAt w tg ns) (hi : IntsAt w g 0 ls) (hin : ∀ x ∈ ls, x < ns.length) (hkind : kind = 15 ∨ kind = 20) :
    Calls Tryd.prog 48 #[.agg #[.slice (some ⟨tg, 0, none⟩) ns.length tc], .int .i64 kind, .slice (some ⟨g, 0, none⟩) ls.length c] w fun e w' => e = .returned (.bool (Tr.kidsOk ns kind ls)) ∧ Below w.heap.size w w' := by
  have r1 : Below w.heap.size w (w.alloc (.cells #[.slice (some ⟨tg, 0, none⟩) ns.length tc] 31)) := (Below.refl _ _).alloc (Nat.le_refl _) _
  have HT := hide ht
  have HI := hide hi
  have HIN := hide hin
  have HK := hide hkind
  have hel := Tr.esOf_le ns ls
  clear ht hi hin hkind
  go_enter Tryd.func48, Tryd.ntmps48
  go_wp2
  go_loopw [8, 10] (fun s t wr => ∃ (j es : Nat), j ≤ ls.length ∧ t = .int .i64 j ∧ s = .int .i64 es ∧ es + Tr.esOf ns (ls.drop j) = Tr.esOf ns ls ∧ Below w.heap.size w wr ∧ w.heap.size < wr.heap.size ∧ wr.cell? ⟨w.heap.size, 0, none⟩ = some (.slice (some ⟨tg, 0, none⟩) ns.length tc)) (fun _ t _ => ls.length - (intOf t).toNat)
  case atStart => exact ⟨0, 0, Nat.zero_le _, rfl, rfl, by simp, r1, by simp, by simp⟩
  case round =>
    obtain ⟨j, es, hj, rfl, rfl, he, hB, hlt0, hc0⟩ := hrel
    have HE := hide he
    clear he
    by_cases hlt : j < ls.length
    · have hI := HI.out.2 j hlt
      rw [Nat.zero_add] at hI
      have hx : ls[j] < ns.length := HIN.out _ (List.getElem_mem _)
      obtain ⟨hN, _⟩ := HT.out.2 ls[j] hx
      have HS := hide (Tr.esOf_at ns ls j hlt)
      have HQ := hide (show Tr.isE ns ls[j] = Tr.inr ns[ls[j]].kind 1 16 by unfold Tr.isE; rw [Tr.kindOf_at hx])
      have a0 := (hB.cell (p := ⟨g, j, none⟩) HI.out.1).trans hI
      have a1 := (hB.cell (p := ⟨tg, ls[j] * 5, none⟩) HT.out.1).trans hN
      generalize ns[ls[j]].kind = kj at *
      generalize ls[j] = xj at *
      clear hI hN
      have hes : es ≤ ls.length := by have := HE.out; omega
      cases hq : Tr.inr kj 1 16
      all_goals
        go_wp2
        go_quiet ((go_at_call 74; exact Calls.quiet_of_same (e_any _ _)))
        rw [hq]
        go_wp2
        go_roundw
        case rel =>
          have e1 := HE.out
          rw [HS.out, HQ.out, hq] at e1
          first | rw [if_pos rfl] at e1 | rw [if_neg (by decide)] at e1
          first
          | exact ⟨j + 1, es + 1, by omega, by go_num, by go_num, by omega, below_drewN hB _, hlt0, hc0⟩
          | exact ⟨j + 1, es, by omega, by go_num, rfl, by omega, below_drewN hB _, hlt0, hc0⟩
        case measure => simp [intOf]; omega
    · have hes : es = Tr.esOf ns ls := by have e1 := HE.out; rw [List.drop_of_length_le (by omega)] at e1; simpa [Tr.esOf] using e1
      subst hes
      obtain rfl : j = ls.length := by omega
      clear HE hj
      have HD : Hid (Tr.kidsOk ns kind ls = Tr.fnOk ns ls) := hide (by rcases HK.out with rfl | rfl; exact Tr.kidsOk_15 ns ls; exact Tr.kidsOk_20 ns ls)
      have h15 : kind = 15 ∨ kind = 20 := HK.out
      rcases h15 with rfl | rfl
      all_goals
        go_wp2
        go_loopw [13] (fun t wr => ∃ j : Nat, j ≤ ls.length ∧ t = .int .i64 j ∧ Tr.allK ns (fun x => x == 19) ls.dropLast = Tr.allK ns (fun x => x == 19) (ls.dropLast.drop j) ∧ Below w.heap.size w wr ∧ w.heap.size < wr.heap.size ∧ wr.cell? ⟨w.heap.size, 0, none⟩ = some (.slice (some ⟨tg, 0, none⟩) ns.length tc)) (fun t _ => ls.length - (intOf t).toNat)
        case atStart => exact ⟨0, Nat.zero_le _, rfl, by rw [List.drop_zero], hB, hlt0, hc0⟩
        case round =>
          obtain ⟨j, hj, rfl, he, hB, hlt0, hc0⟩ := hrel
          have HE := hide he
          clear he
          by_cases hlt : j + 1 < ls.length
          · have hI := HI.out.2 j (by omega)
            rw [Nat.zero_add] at hI
            have hx : ls[j] < ns.length := HIN.out _ (List.getElem_mem _)
            obtain ⟨hN, _⟩ := HT.out.2 ls[j] hx
            have HS := hide (Tr.allK_at ns (fun x => x == 19) ls.dropLast j (by simp; omega))
            have HDL := hide (Tr.drop_last ls j hlt)
            have HQ := hide (Tr.kindOf_at hx)
            have a0 := (hB.cell (p := ⟨g, j, none⟩) HI.out.1).trans hI
            have a1 := (hB.cell (p := ⟨tg, ls[j] * 5, none⟩) HT.out.1).trans hN
            generalize ns[ls[j]].kind = kj at *
            generalize ls[j] = xj at *
            clear hI hN
            cases hq : (kj != 19)
            all_goals
              go_wp2
              go_quiet (fail)
              try rw [hq]
              go_wp2
              first
              | (go_ret
                 refine ⟨ret_bool ?_, below_drewN hB _⟩
                 rw [HD.out, Tr.fnOk, HE.out, HS.out, HDL.out, HQ.out]
                 simp at hq
                 simp [hq]
                 done)
              | (go_roundw
                 case rel =>
                   refine ⟨j + 1, by omega, by go_num, ?_, below_drewN hB _, hlt0, hc0⟩
                   rw [HE.out, HS.out, HDL.out, HQ.out]
                   simp at hq
                   simp [hq]
                   done
                 case measure => simp [intOf]; omega)
          · have HE2 := hide (show Tr.allK ns (fun x => x == 19) ls.dropLast = true by rw [HE.out, List.drop_of_length_le (by simp; omega)]; rfl)
            clear HE
            by_cases h0 : ls.length = 0
            · go_wp2
              go_quiet (fail)
              go_wp2
              go_ret
              refine ⟨ret_bool ?_, below_drewN hB _⟩
              have : ls = [] := List.eq_nil_of_length_eq_zero h0
              rw [HD.out, this]; rfl
            · have hI := HI.out.2 (ls.length - 1) (by omega)
              rw [Nat.zero_add] at hI
              have hx : ls[ls.length - 1] < ns.length := HIN.out _ (List.getElem_mem _)
              obtain ⟨hN, _⟩ := HT.out.2 ls[ls.length - 1] hx
              have HL := hide (show ls.getLast? = some (ls[ls.length - 1]'(by omega)) by rw [List.getLast?_eq_getElem?]; simp)
              have HQ := hide (show Tr.isE ns (ls[ls.length - 1]'(by omega)) = Tr.inr ns[ls[ls.length - 1]].kind 1 16 by unfold Tr.isE; rw [Tr.kindOf_at hx])
              have a0 := (hB.cell (p := ⟨g, ls.length - 1, none⟩) HI.out.1).trans hI
              have a1 := (hB.cell (p := ⟨tg, ls[ls.length - 1] * 5, none⟩) HT.out.1).trans hN
              generalize ns[ls[ls.length - 1]].kind = kj at *
              generalize ls[ls.length - 1]'(by omega) = xj at *
              clear hI hN
              obtain ⟨m, hm⟩ : ∃ m, ls.length = m + 1 := ⟨ls.length - 1, by omega⟩
              rw [hm, Nat.add_sub_cancel] at a0
              have hm1 : (1 : Int) ≤ (m : Int) + 1 := by omega
              cases hq : Tr.inr kj 1 16
              all_goals by_cases h8 : (m : Int) ≤ 8
              all_goals
                have hE := fun w => e_any kj w
                simp only [hq] at hE
                have HEE := hide hE
                clear hE
                go_wp2
                go_quiet ((go_at_call 74; exact Calls.quiet_of_same (HEE.out _)))
                go_wp2
                go_ret
                refine ⟨ret_bool ?_, below_drewN hB _⟩
                rw [HD.out, Tr.fnOk, HE2.out, HL.out, Option.map_some, HQ.out, hq, hm]
                simp
                try omega
end Go.Proofs.YtmklgiononbmmaaDoor
