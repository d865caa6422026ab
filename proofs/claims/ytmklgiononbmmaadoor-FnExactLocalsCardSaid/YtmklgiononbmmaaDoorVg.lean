/- Walks: kids of calls, on the specification's side. -/
import Derived.Test.YtmklgiononbmmaaDoorVf
namespace Go.Proofs.YtmklgiononbmmaaDoor
open Go.RowKit

/-- The worlds that a walk may stand in whose callees make blocks: all below is kept, the box of the tree too. -/
def KW (w : World) (v : Value) : Type := { x : World // Below w.heap.size w x ∧ w.heap.size < x.heap.size ∧ x.cell? ⟨w.heap.size, 0, none⟩ = some v }
def KW.w {w : World} {v : Value} (q : KW w v) : World := q.1
theorem KW.box {w : World} {v : Value} (q : KW w v) : q.w.cell? ⟨w.heap.size, 0, none⟩ = some v := q.2.2.2
theorem KW.below {w : World} {v : Value} (q : KW w v) : Below w.heap.size w q.w := q.2.1
theorem region_class {P : Program} {α : Type} (c : α → World) {id : Nat} {Q : Exit → Act → World → Prop} {a : Act} {w : World} {l : List Oper} (hm : P.follows .mixedOrders = true) (hB : Region.lexB .any l.toArray = true) (h0 : ∃ q, w.drewN 1 = c q)
    (h : wpQuiet P l.toArray (fun w' => ∃ q, w' = c q) (fun a' => ∀ w', (∃ q, w' = c q) → Q .normal a' w') l a) : (Code.region id l.toArray true).wp P Q a w :=
  wp_region_quiet (C := fun w' => ∃ q, w' = c q) hm hB h0 (by simpa using h)
theorem kw_call {P : Program} {f : FuncId} {args : Array Value} {r v : Value} {w : World} (h : ∀ w1, Below w.heap.size w w1 → Calls P f args w1 fun e w' => e = .returned r ∧ Below w1.heap.size w1 w') (q : KW w v) :
    Calls P f args q.w fun e w'' => e = .returned r ∧ ∃ q' : KW w v, w'' = q'.w :=
  (h q.w q.2.1).mono fun _ w2 hw => ⟨hw.1, ⟨⟨w2, q.2.1.trans (hw.2.mono q.2.1.size), Nat.lt_of_lt_of_le q.2.2.1 hw.2.size, (hw.2.cell (p := ⟨w.heap.size, 0, none⟩) q.2.2.1).trans q.2.2.2⟩, rfl⟩⟩

set_option maxRecDepth 100000 in
set_option maxHeartbeats 4000000 in
theorem kidsOk_12 (kind : Int) (ns : List Tr.Nd) (ls : List Nat) (tg tc g c : Nat) (w : World) (hl : ls.length ≤ 1048576) (ht : NodesAt w tg ns) (hi : IntsAt w g 0 ls) (hin : ∀ x ∈ ls, x < ns.length) (hkind : kind = 12) (hcap : ls.length ≤ c) :
    Calls Tryd.prog 48 #[.agg #[.slice (some ⟨tg, 0, none⟩) ns.length tc], .int .i64 kind, .slice (some ⟨g, 0, none⟩) ls.length c] w fun e w' => e = .returned (.bool (Tr.kidsOk ns kind ls)) ∧ Below w.heap.size w w' := by
  have r1 : Below w.heap.size w (w.alloc (.cells #[.slice (some ⟨tg, 0, none⟩) ns.length tc] 31)) := (Below.refl _ _).alloc (Nat.le_refl _) _
  have HT := hide ht
  have HI := hide hi
  have HIN := hide hin
  have HK := hide hkind
  have hel := Tr.esOf_le ns ls
  clear ht hi hin hkind
  go_enter Tryd.func48, Tryd.ntmps48
  go_wp2
  go_loopw [8, 10] (fun s t wr => ∃ (j es : Nat), j ≤ ls.length ∧ t = .int .i64 j ∧ s = .int .i64 es ∧ es + Tr.esOf ns (ls.drop j) = Tr.esOf ns ls ∧ Below w.heap.size w wr ∧ w.heap.size < wr.heap.size ∧ wr.cell? ⟨w.heap.size, 0, none⟩ = some (.slice (some ⟨tg, 0, none⟩) ns.length tc)) (fun _ t _ => ls.length - (intOf t).toNat)
  case atStart => exact ⟨0, 0, Nat.zero_le _, rfl, rfl, by simp, r1, by simp, by simp⟩
  case round =>
    obtain ⟨j, es, hj, rfl, rfl, he, hB, hlt0, hc0⟩ := hrel
    have HE := hide he
    clear he
    by_cases hlt : j < ls.length
    · have hI := HI.out.2 j hlt
      rw [Nat.zero_add] at hI
      have hx : ls[j] < ns.length := HIN.out _ (List.getElem_mem _)
      obtain ⟨hN, _⟩ := HT.out.2 ls[j] hx
      have HS := hide (Tr.esOf_at ns ls j hlt)
      have HQ := hide (show Tr.isE ns ls[j] = Tr.inr ns[ls[j]].kind 1 16 by unfold Tr.isE; rw [Tr.kindOf_at hx])
      have a0 := (hB.cell (p := ⟨g, j, none⟩) HI.out.1).trans hI
      have a1 := (hB.cell (p := ⟨tg, ls[j] * 5, none⟩) HT.out.1).trans hN
      generalize ns[ls[j]].kind = kj at *
      generalize ls[j] = xj at *
      clear hI hN
      have hes : es ≤ ls.length := by have := HE.out; omega
      cases hq : Tr.inr kj 1 16
      all_goals
        go_wp2
        go_quiet ((go_at_call 74; exact Calls.quiet_of_same (e_any _ _)))
        rw [hq]
        go_wp2
        go_roundw
        case rel =>
          have e1 := HE.out
          rw [HS.out, HQ.out, hq] at e1
          first | rw [if_pos rfl] at e1 | rw [if_neg (by decide)] at e1
          first
          | exact ⟨j + 1, es + 1, by omega, by go_num, by go_num, by omega, below_drewN hB _, hlt0, hc0⟩
          | exact ⟨j + 1, es, by omega, by go_num, rfl, by omega, below_drewN hB _, hlt0, hc0⟩
        case measure => simp [intOf]; omega
    · have hes : es = Tr.esOf ns ls := by have e1 := HE.out; rw [List.drop_of_length_le (by omega)] at e1; simpa [Tr.esOf] using e1
      subst hes
      obtain rfl : j = ls.length := by omega
      clear HE hj
      obtain rfl := HK.out
      have HD := hide (Tr.kidsOk_12 ns ls)
      go_wp2
      go_loopw [9] (fun t wr => ∃ f : Nat, f ≤ ls.length ∧ t = .int .i64 f ∧ f + Tr.firsts ns (ls.drop f) = Tr.firsts ns ls ∧ Below w.heap.size w wr ∧ w.heap.size < wr.heap.size ∧ wr.cell? ⟨w.heap.size, 0, none⟩ = some (.slice (some ⟨tg, 0, none⟩) ns.length tc)) (fun t _ => ls.length - (intOf t).toNat)
      case atStart => exact ⟨0, Nat.zero_le _, rfl, by simp, hB, hlt0, hc0⟩
      case round =>
        obtain ⟨f, hf, rfl, he, hB, hlt0, hc0⟩ := hrel
        have HE := hide he
        clear he
        by_cases hlt : f < ls.length
        · have hI := HI.out.2 f hlt
          rw [Nat.zero_add] at hI
          have hx : ls[f] < ns.length := HIN.out _ (List.getElem_mem _)
          obtain ⟨hN, _⟩ := HT.out.2 ls[f] hx
          have HS := hide (Tr.firsts_at ns ls f hlt)
          have HQ := hide (show Tr.isE ns ls[f] = Tr.inr ns[ls[f]].kind 1 16 by unfold Tr.isE; rw [Tr.kindOf_at hx])
          have a0 := (hB.cell (p := ⟨g, f, none⟩) HI.out.1).trans hI
          have a1 := (hB.cell (p := ⟨tg, ls[f] * 5, none⟩) HT.out.1).trans hN
          generalize ns[ls[f]].kind = kf at *
          generalize ls[f] = xf at *
          clear hI hN
          cases hq : Tr.inr kf 1 16
          · have hE := fun w => e_any kf w
            simp only [hq] at hE
            have HEE := hide hE
            clear hE
            have HF : Hid (Tr.firsts ns ls = f) := hide (by have e1 := HE.out; rw [HS.out, HQ.out, hq, if_neg (by decide)] at e1; omega)
            go_wp2
            go_quiet ((go_at_call 74; exact Calls.quiet_of_same (HEE.out _)))
            go_wp2
            clear a0 a1 HS HQ HEE HE
            go_loopw [12] (fun t wr2 => ∃ j : Nat, f ≤ j ∧ j ≤ ls.length ∧ t = .int .i64 j ∧ Tr.allK ns (fun x => x == 18) (ls.drop f) = Tr.allK ns (fun x => x == 18) (ls.drop j) ∧ Below w.heap.size w wr2 ∧ w.heap.size < wr2.heap.size ∧ wr2.cell? ⟨w.heap.size, 0, none⟩ = some (.slice (some ⟨tg, 0, none⟩) ns.length tc)) (fun t _ => ls.length - (intOf t).toNat)
            case atStart => exact ⟨f, Nat.le_refl _, hf, rfl, rfl, below_drewN hB _, hlt0, hc0⟩
            case round =>
              obtain ⟨j, hfj, hj, rfl, he2, hB, hlt0, hc0⟩ := hrel
              have HE2 := hide he2
              clear he2
              by_cases hjl : j < ls.length
              · have hI := HI.out.2 j hjl
                rw [Nat.zero_add] at hI
                have hx : ls[j] < ns.length := HIN.out _ (List.getElem_mem _)
                obtain ⟨hN, _⟩ := HT.out.2 ls[j] hx
                have HS := hide (Tr.allK_at ns (fun x => x == 18) ls j hjl)
                have HQ := hide (Tr.kindOf_at hx)
                have a0 := (hB.cell (p := ⟨g, j, none⟩) HI.out.1).trans hI
                have a1 := (hB.cell (p := ⟨tg, ls[j] * 5, none⟩) HT.out.1).trans hN
                generalize ns[ls[j]].kind = kj at *
                generalize ls[j] = xj at *
                clear hI hN
                cases hq : (kj != 18)
                all_goals
                  go_wp2
                  go_quiet (fail)
                  go_wp2
                  first
                  | (go_ret
                     refine ⟨ret_bool ?_, below_drewN hB _⟩
                     rw [HD.out, HF.out, HE2.out, HS.out, HQ.out]
                     simp at hq
                     simp [hq]
                     done)
                  | (go_roundw
                     case rel =>
                       refine ⟨j + 1, by omega, by omega, by go_num, ?_, below_drewN hB _, hlt0, hc0⟩
                       rw [HE2.out, HS.out, HQ.out]
                       simp at hq
                       simp [hq]
                       done
                     case measure => simp [intOf]; omega)
              · have HE3 := hide (show Tr.allK ns (fun x => x == 18) (ls.drop f) = true by rw [HE2.out, List.drop_of_length_le (by omega)]; rfl)
                clear HE2
                by_cases h1 : (1 : Int) ≤ f
                · by_cases h8 : (ls.length : Int) - 1 ≤ 8
                  · by_cases hcf : c = f
                    · exfalso; omega
                    · have hAp := fun w1 (hb : Below w.heap.size w w1) => apart_any ns (ls.drop f) tg tc g f (c - f) w1 (by simp; omega) (HT.out.below hb) (by have := (HI.out.below hb).drop f; rwa [Nat.zero_add] at this) (fun x h => HIN.out x (List.mem_of_mem_drop h))
                      rw [List.length_drop] at hAp
                      have HAP := hide hAp
                      clear hAp
                      go_wp2
                      have h1' : (1 : Int) ≤ (f : Int) := by omega
                      have h8' : (ls.length : Int) - 1 ≤ 8 := by omega
                      refine region_class (KW.w (w := w) (v := .slice (some ⟨tg, 0, none⟩) ns.length tc)) (by kernel_rfl) (by kernel_rfl) ⟨⟨_, below_drewN hB _, hlt0, hc0⟩, rfl⟩ ?_
                      have hbx := fun q : KW w (.slice (some ⟨tg, 0, none⟩) ns.length tc) => q.box
                      haveI hne : Nonempty (KW w (.slice (some ⟨tg, 0, none⟩) ns.length tc)) := ⟨⟨_, hB, hlt0, hc0⟩⟩
                      repeat (go_big_quiet_step ((go_at_call 75; exact kw_call HAP.out _)))
                      refine wpQuiet_nil ?_
                      rintro _ ⟨q, rfl⟩
                      have hBq := q.below
                      go_wp2
                      go_ret
                      refine ⟨ret_bool ?_, hBq⟩
                      rw [HD.out, HF.out, HE3.out]
                      simp [h1', h8']
                  · go_wp2
                    have h1' : (1 : Int) ≤ (f : Int) := by omega
                    have h8' : ¬ ((ls.length : Int) - 1 ≤ 8) := by omega
                    go_quiet (fail)
                    go_wp2
                    go_ret
                    refine ⟨ret_bool ?_, below_drewN hB _⟩
                    rw [HD.out, HF.out, decide_eq_false (p := (ls.length : Int) - 1 ≤ 8) (by omega)]; simp
                · go_wp2
                  have h1' : ¬ ((1 : Int) ≤ (f : Int)) := by omega
                  go_quiet (fail)
                  go_wp2
                  go_ret
                  refine ⟨ret_bool ?_, below_drewN hB _⟩
                  rw [HD.out, HF.out, decide_eq_false (p := (1 : Int) ≤ f) (by omega)]; simp
          · have hE := fun w => e_any kf w
            simp only [hq] at hE
            have HEE := hide hE
            clear hE
            go_wp2
            go_quiet ((go_at_call 74; exact Calls.quiet_of_same (HEE.out _)))
            go_wp2
            go_roundw
            case rel =>
              refine ⟨f + 1, by omega, by go_num, ?_, below_drewN hB _, hlt0, hc0⟩
              have e1 := HE.out
              rw [HS.out, HQ.out, hq, if_pos rfl] at e1
              omega
            case measure => simp [intOf]; omega
        · have HF : Hid (Tr.firsts ns ls = f) := hide (by have e1 := HE.out; rw [List.drop_of_length_le (by omega)] at e1; simpa [Tr.firsts] using e1.symm)
          go_wp2
          go_quiet (fail)
          go_wp2
          clear HE
          go_loopw [12] (fun t wr2 => ∃ j : Nat, f ≤ j ∧ j ≤ ls.length ∧ t = .int .i64 j ∧ Tr.allK ns (fun x => x == 18) (ls.drop f) = Tr.allK ns (fun x => x == 18) (ls.drop j) ∧ Below w.heap.size w wr2 ∧ w.heap.size < wr2.heap.size ∧ wr2.cell? ⟨w.heap.size, 0, none⟩ = some (.slice (some ⟨tg, 0, none⟩) ns.length tc)) (fun t _ => ls.length - (intOf t).toNat)
          case atStart => exact ⟨f, Nat.le_refl _, hf, rfl, rfl, below_drewN hB _, hlt0, hc0⟩
          case round =>
            obtain ⟨j, hfj, hj, rfl, he2, hB, hlt0, hc0⟩ := hrel
            have HE2 := hide he2
            clear he2
            by_cases hjl : j < ls.length
            · have hI := HI.out.2 j hjl
              rw [Nat.zero_add] at hI
              have hx : ls[j] < ns.length := HIN.out _ (List.getElem_mem _)
              obtain ⟨hN, _⟩ := HT.out.2 ls[j] hx
              have HS := hide (Tr.allK_at ns (fun x => x == 18) ls j hjl)
              have HQ := hide (Tr.kindOf_at hx)
              have a0 := (hB.cell (p := ⟨g, j, none⟩) HI.out.1).trans hI
              have a1 := (hB.cell (p := ⟨tg, ls[j] * 5, none⟩) HT.out.1).trans hN
              generalize ns[ls[j]].kind = kj at *
              generalize ls[j] = xj at *
              clear hI hN
              cases hq : (kj != 18)
              all_goals
                go_wp2
                go_quiet (fail)
                go_wp2
                first
                | (go_ret
                   refine ⟨ret_bool ?_, below_drewN hB _⟩
                   rw [HD.out, HF.out, HE2.out, HS.out, HQ.out]
                   simp at hq
                   simp [hq]
                   done)
                | (go_roundw
                   case rel =>
                     refine ⟨j + 1, by omega, by omega, by go_num, ?_, below_drewN hB _, hlt0, hc0⟩
                     rw [HE2.out, HS.out, HQ.out]
                     simp at hq
                     simp [hq]
                     done
                   case measure => simp [intOf]; omega)
            · have HE3 := hide (show Tr.allK ns (fun x => x == 18) (ls.drop f) = true by rw [HE2.out, List.drop_of_length_le (by omega)]; rfl)
              clear HE2
              by_cases h1 : (1 : Int) ≤ f
              · by_cases h8 : (ls.length : Int) - 1 ≤ 8
                · by_cases hcf : c = f
                  · have hlf : ls.length = f := by omega
                    have hdl : ls.drop f = [] := List.drop_of_length_le (by omega)
                    have hAp := fun w1 (hb : Below w.heap.size w w1) => apart_any ns [] tg tc g 0 0 w1 (Nat.zero_le _) (HT.out.below hb) ⟨(HI.out.below hb).1, fun j h => absurd h (Nat.not_lt_zero _)⟩ (fun x h => by cases h)
                    have HAP := hide hAp
                    have HDL := hide hdl
                    clear hAp hdl
                    have h8f : (f : Int) - 1 ≤ 8 := by omega
                    go_wp2
                    have h1' : (1 : Int) ≤ (f : Int) := by omega
                    have h8' : (ls.length : Int) - 1 ≤ 8 := by omega
                    refine region_class (KW.w (w := w) (v := .slice (some ⟨tg, 0, none⟩) ns.length tc)) (by kernel_rfl) (by kernel_rfl) ⟨⟨_, below_drewN hB _, hlt0, hc0⟩, rfl⟩ ?_
                    have hbx := fun q : KW w (.slice (some ⟨tg, 0, none⟩) ns.length tc) => q.box
                    haveI hne : Nonempty (KW w (.slice (some ⟨tg, 0, none⟩) ns.length tc)) := ⟨⟨_, hB, hlt0, hc0⟩⟩
                    repeat (go_big_quiet_step ((go_at_call 75; exact kw_call HAP.out _)))
                    refine wpQuiet_nil ?_
                    rintro _ ⟨q, rfl⟩
                    have hBq := q.below
                    go_wp2
                    go_ret
                    refine ⟨ret_bool ?_, hBq⟩
                    rw [HD.out, HF.out, HE3.out, HDL.out, hlf]
                    simp [h1', h8f]
                  · have hAp := fun w1 (hb : Below w.heap.size w w1) => apart_any ns (ls.drop f) tg tc g f (c - f) w1 (by simp; omega) (HT.out.below hb) (by have := (HI.out.below hb).drop f; rwa [Nat.zero_add] at this) (fun x h => HIN.out x (List.mem_of_mem_drop h))
                    rw [List.length_drop] at hAp
                    have HAP := hide hAp
                    clear hAp
                    go_wp2
                    have h1' : (1 : Int) ≤ (f : Int) := by omega
                    have h8' : (ls.length : Int) - 1 ≤ 8 := by omega
                    refine region_class (KW.w (w := w) (v := .slice (some ⟨tg, 0, none⟩) ns.length tc)) (by kernel_rfl) (by kernel_rfl) ⟨⟨_, below_drewN hB _, hlt0, hc0⟩, rfl⟩ ?_
                    have hbx := fun q : KW w (.slice (some ⟨tg, 0, none⟩) ns.length tc) => q.box
                    haveI hne : Nonempty (KW w (.slice (some ⟨tg, 0, none⟩) ns.length tc)) := ⟨⟨_, hB, hlt0, hc0⟩⟩
                    repeat (go_big_quiet_step ((go_at_call 75; exact kw_call HAP.out _)))
                    refine wpQuiet_nil ?_
                    rintro _ ⟨q, rfl⟩
                    have hBq := q.below
                    go_wp2
                    go_ret
                    refine ⟨ret_bool ?_, hBq⟩
                    rw [HD.out, HF.out, HE3.out]
                    simp [h1', h8']
                · go_wp2
                  have h1' : (1 : Int) ≤ (f : Int) := by omega
                  have h8' : ¬ ((ls.length : Int) - 1 ≤ 8) := by omega
                  go_quiet (fail)
                  go_wp2
                  go_ret
                  refine ⟨ret_bool ?_, below_drewN hB _⟩
                  rw [HD.out, HF.out, decide_eq_false (p := (ls.length : Int) - 1 ≤ 8) (by omega)]; simp
              · go_wp2
                have h1' : ¬ ((1 : Int) ≤ (f : Int)) := by omega
                go_quiet (fail)
                go_wp2
                go_ret
                refine ⟨ret_bool ?_, below_drewN hB _⟩
                rw [HD.out, HF.out, decide_eq_false (p := (1 : Int) ≤ f) (by omega)]; simp
end Go.Proofs.YtmklgiononbmmaaDoor
