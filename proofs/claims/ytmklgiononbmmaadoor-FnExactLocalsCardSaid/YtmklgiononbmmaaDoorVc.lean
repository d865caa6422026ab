/- Walks: texts that stand apart, and what kids a node may have, on the specification's side. -/
import Derived.Test.YtmklgiononbmmaaDoorVn
namespace Go.Proofs.YtmklgiononbmmaaDoor
open Go.RowKit

/-- No two of the nodes at these places have one text. -/
def Tr.apart (ns : List Tr.Nd) (ls : List Nat) : Bool := decide (∀ i (h : i < ls.length) k (h' : k < i), (ns[ls[k]]?.map (·.text)) ≠ (ns[ls[i]]?.map (·.text)))
theorem Tr.apart_true {ns : List Tr.Nd} {ls : List Nat} (h : ∀ i (h : i < ls.length) k (h' : k < i), (ns[ls[k]]?.map (·.text)) ≠ (ns[ls[i]]?.map (·.text))) : Tr.apart ns ls = true := by
  unfold Tr.apart; exact decide_eq_true h
theorem Tr.apart_false {ns : List Tr.Nd} {ls : List Nat} {i k : Nat} (hi : i < ls.length) (hk : k < i) (h : (ns[ls[k]]?.map (·.text)) = (ns[ls[i]]?.map (·.text))) : Tr.apart ns ls = false := by
  unfold Tr.apart; exact decide_eq_false fun q => q i hi k hk h

set_option maxRecDepth 100000 in
set_option maxHeartbeats 1000000 in
theorem apart_any (ns : List Tr.Nd) (ls : List Nat) (tg tc g o c : Nat) (w : World) (hl : ls.length ≤ 1048576) (ht : NodesAt w tg ns) (hi : IntsAt w g o ls) (hin : ∀ x ∈ ls, x < ns.length) :
    Calls Tryd.prog 75 #[.agg #[.slice (some ⟨tg, 0, none⟩) ns.length tc], .slice (some ⟨g, o, none⟩) ls.length c] w fun e w' => e = .returned (.bool (Tr.apart ns ls)) ∧ Below w.heap.size w w' := by
  have r1 : Below w.heap.size w (w.alloc (.cells #[.slice (some ⟨tg, 0, none⟩) ns.length tc] 31)) := (Below.refl _ _).alloc (Nat.le_refl _) _
  have HT := hide ht
  have HI := hide hi
  have HIN := hide hin
  clear ht hi hin
  go_enter Tryd.func75, Tryd.ntmps75
  go_wp2
  go_loopw [5] (fun t wr => ∃ i : Nat, i ≤ ls.length ∧ t = .int .i64 i ∧ Below w.heap.size w wr ∧ w.heap.size < wr.heap.size ∧ wr.cell? ⟨w.heap.size, 0, none⟩ = some (.slice (some ⟨tg, 0, none⟩) ns.length tc) ∧ (∀ j (h : j < ls.length) k (h' : k < j), j < i → (ns[ls[k]]?.map (·.text)) ≠ (ns[ls[j]]?.map (·.text)))) (fun t _ => ls.length - (intOf t).toNat)
  case atStart => exact ⟨0, Nat.zero_le _, rfl, r1, by simp, by simp, fun j _ k _ h => by omega⟩
  case round =>
    obtain ⟨i, hil, rfl, hB, hlt0, hc0, he⟩ := hrel
    have HE := hide he
    clear he
    by_cases hlt : i < ls.length
    · have hI := HI.out.2 i hlt
      have hx : ls[i] < ns.length := HIN.out _ (List.getElem_mem _)
      obtain ⟨_, _, _, hN, _⟩ := HT.out.2 ls[i] hx
      have hxi := hide (show ns[ls[i]]?.map (·.text) = some ns[ls[i]].text by simp [hx])
      go_wp2
      go_loopw [6] (fun t wr => ∃ k : Nat, k ≤ i ∧ t = .int .i64 k ∧ Below w.heap.size w wr ∧ w.heap.size < wr.heap.size ∧ wr.cell? ⟨w.heap.size, 0, none⟩ = some (.slice (some ⟨tg, 0, none⟩) ns.length tc) ∧ (∀ j (h : j < ls.length), j < k → (ns[ls[j]]?.map (·.text)) ≠ (ns[ls[i]]?.map (·.text)))) (fun t _ => i - (intOf t).toNat)
      case atStart => exact ⟨0, Nat.zero_le _, rfl, hB, hlt0, hc0, fun j _ h => by omega⟩
      case round =>
        obtain ⟨k, hk, rfl, hB2, hlt2, hc2, he2⟩ := hrel
        have HE2 := hide he2
        clear he2
        by_cases hki : k < i
        · have hkl : k < ls.length := by omega
          have hK := HI.out.2 k hkl
          have hy : ls[k] < ns.length := HIN.out _ (List.getElem_mem _)
          obtain ⟨_, _, _, hM, _⟩ := HT.out.2 ls[k] hy
          have hyi := hide (show ns[ls[k]]?.map (·.text) = some ns[ls[k]].text by simp [hy])
          have a0 := (hB2.cell (p := ⟨g, o + i, none⟩) HI.out.1).trans hI
          have a1 := (hB2.cell (p := ⟨g, o + k, none⟩) HI.out.1).trans hK
          have a2 := (hB2.cell (p := ⟨tg, ls[i] * 5 + 3, none⟩) HT.out.1).trans hN
          have a3 := (hB2.cell (p := ⟨tg, ls[k] * 5 + 3, none⟩) HT.out.1).trans hM
          have HXX := hide (show (ns[ls[k]]?.map (·.text) = ns[ls[i]]?.map (·.text)) ↔ (ns[ls[k]].text = ns[ls[i]].text) by rw [hxi.out, hyi.out]; simp)
          generalize ns[ls[k]].text = tk at *
          generalize ns[ls[i]].text = ti at *
          generalize hlk : ls[k] = xk at *
          generalize hli : ls[i] = xi at *
          clear hxi hyi hI hK hN hM
          have HLK := hide hlk
          have HLI := hide hli
          clear hlk hli
          cases hq : (tk.toList == ti.toList)
          · go_wp2
            go_quiet (fail)
            go_wp2
            go_roundw
            case rel =>
              refine ⟨k + 1, by omega, by go_num, below_drewN hB2 _, hlt2, hc2, ?_⟩
              intro j hj hjk
              by_cases e : j = k
              · subst e
                rw [HLK.out]
                intro h
                have := HXX.out.1 h
                rw [this] at hq; simp at hq
              · exact HE2.out j hj (by omega)
            case measure => simp [intOf]; omega
          · go_wp2
            go_quiet (fail)
            go_wp2
            go_ret
            refine ⟨ret_bool ?_, below_drewN hB2 _⟩
            refine (Tr.apart_false hlt hki ?_).symm
            rw [HLK.out, HLI.out]
            refine HXX.out.2 ?_
            have e2 : tk.toList = ti.toList := by simpa using hq
            rw [Lib.toList_data, Lib.toList_data] at e2
            exact ByteArray.ext (Array.toList_inj.1 e2)
        · go_wp2
          go_roundw
          case rel =>
            refine ⟨i + 1, by omega, by go_num, hB2, hlt2, hc2, ?_⟩
            intro j hj k' hk' hji
            by_cases e : j = i
            · subst e; exact HE2.out k' (by omega) (by omega)
            · exact HE.out j hj k' hk' (by omega)
          case measure => simp [intOf]; omega
    · go_wp2
      go_ret
      refine ⟨ret_bool ?_, hB⟩
      exact (Tr.apart_true fun j hj k hk => HE.out j hj k hk (by omega)).symm
end Go.Proofs.YtmklgiononbmmaaDoor
