/- Walks: what kids a node may have, on the specification's side. -/
import Derived.Test.YtmklgiononbmmaaDoorVc
namespace Go.Proofs.YtmklgiononbmmaaDoor
open Go.RowKit

def Tr.kindOf (ns : List Tr.Nd) (x : Nat) : Int := match ns[x]? with
  | some d => d.kind
  | none => 0
def Tr.isE (ns : List Tr.Nd) (x : Nat) : Bool := Tr.inr (Tr.kindOf ns x) 1 16
def Tr.esOf (ns : List Tr.Nd) : List Nat → Nat
  | [] => 0
  | x :: r => (if Tr.isE ns x = true then 1 else 0) + Tr.esOf ns r
def Tr.firsts (ns : List Tr.Nd) : List Nat → Nat
  | [] => 0
  | x :: r => if Tr.isE ns x = true then 1 + Tr.firsts ns r else 0
def Tr.allK (ns : List Tr.Nd) (p : Int → Bool) : List Nat → Bool
  | [] => true
  | x :: r => p (Tr.kindOf ns x) && Tr.allK ns p r
theorem Tr.kindOf_at {ns : List Tr.Nd} {x : Nat} (h : x < ns.length) : Tr.kindOf ns x = ns[x].kind := by simp [Tr.kindOf, h]
theorem Tr.esOf_at (ns : List Tr.Nd) (ls : List Nat) (j : Nat) (h : j < ls.length) : Tr.esOf ns (ls.drop j) = (if Tr.isE ns ls[j] = true then 1 else 0) + Tr.esOf ns (ls.drop (j + 1)) := by
  rw [List.drop_eq_getElem_cons h]; rfl
theorem Tr.allK_at (ns : List Tr.Nd) (p : Int → Bool) (ls : List Nat) (j : Nat) (h : j < ls.length) : Tr.allK ns p (ls.drop j) = (p (Tr.kindOf ns ls[j]) && Tr.allK ns p (ls.drop (j + 1))) := by
  rw [List.drop_eq_getElem_cons h]; rfl
theorem Tr.esOf_le (ns : List Tr.Nd) (ls : List Nat) : Tr.esOf ns ls ≤ ls.length := by
  induction ls with
  | nil => exact Nat.le_refl _
  | cons x r ih => simp only [Tr.esOf, List.length_cons]; split <;> omega
/-- What kids a node of a kind may have. -/
def Tr.kidsOk (ns : List Tr.Nd) (k : Int) (ls : List Nat) : Bool :=
  if k = 1 ∨ k = 2 ∨ k = 3 ∨ k = 4 ∨ k = 5 then decide ((ls.length : Int) = 0)
  else if k = 6 ∨ k = 11 ∨ k = 17 ∨ k = 18 ∨ k = 21 ∨ k = 22 then decide ((ls.length : Int) = 1 ∧ (Tr.esOf ns ls : Int) = 1)
  else if k = 7 ∨ k = 10 ∨ k = 14 then decide ((ls.length : Int) = 2 ∧ (Tr.esOf ns ls : Int) = 2)
  else if k = 13 then decide ((ls.length : Int) = 3 ∧ (Tr.esOf ns ls : Int) = 3)
  else if k = 16 then decide ((2 ≤ (ls.length : Int) ∧ (ls.length : Int) ≤ 3) ∧ (Tr.esOf ns ls : Int) = ls.length)
  else if k = 19 then decide ((ls.length : Int) ≤ 1 ∧ (Tr.esOf ns ls : Int) = ls.length)
  else if k = 8 then decide ((Tr.esOf ns ls : Int) = ls.length ∧ (ls.length : Int) ≤ 200)
  else if k = 9 then Tr.allK ns (fun x => x == 17) ls && decide ((ls.length : Int) ≤ 200) && Tr.apart ns ls
  else if k = 12 then Tr.allK ns (fun x => x == 18) (ls.drop (Tr.firsts ns ls)) && decide (1 ≤ (Tr.firsts ns ls : Int)) && decide ((ls.length : Int) - 1 ≤ 8) && Tr.apart ns (ls.drop (Tr.firsts ns ls))
  else if k = 15 ∨ k = 20 then Tr.allK ns (fun x => x == 19) ls.dropLast && (ls.getLast?.map (Tr.isE ns) == some true) && decide ((ls.length : Int) - 1 ≤ 8)
  else if k = 23 then Tr.allK ns (fun x => x == 5) ls && Tr.inr ls.length 1 200
  else if k = 24 then Tr.allK ns (fun x => Tr.inr x 20 23) ls && decide ((ls.length : Int) ≤ 200)
  else false

set_option maxRecDepth 100000 in
set_option maxHeartbeats 4000000 in
theorem kidsOk_simple (kind : Int) (ns : List Tr.Nd) (ls : List Nat) (tg tc g c : Nat) (w : World) (hl : ls.length ≤ 1048576) (ht : NodesAt w tg ns) (hi : IntsAt w g 0 ls) (hin : ∀ x ∈ ls, x < ns.length) (hkind : kind = 1 ∨ kind = 2 ∨ kind = 3 ∨ kind = 4 ∨ kind = 5 ∨ kind = 6 ∨ kind = 11 ∨ kind = 17 ∨ kind = 18 ∨ kind = 21 ∨ kind = 22 ∨ kind = 7 ∨ kind = 10 ∨ kind = 14 ∨ kind = 13 ∨ kind = 16 ∨ kind = 19 ∨ kind = 8) :
    Calls Tryd.prog 48 #[.agg #[.slice (some ⟨tg, 0, none⟩) ns.length tc], .int .i64 kind, .slice (some ⟨g, 0, none⟩) ls.length c] w fun e w' => e = .returned (.bool (Tr.kidsOk ns kind ls)) ∧ Below w.heap.size w w' := by
  have r1 : Below w.heap.size w (w.alloc (.cells #[.slice (some ⟨tg, 0, none⟩) ns.length tc] 31)) := (Below.refl _ _).alloc (Nat.le_refl _) _
  have HT := hide ht
  have HI := hide hi
  have HIN := hide hin
  have HK := hide hkind
  have hel := Tr.esOf_le ns ls
  clear ht hi hin hkind
  go_enter Tryd.func48, Tryd.ntmps48
  go_wp2
  go_loopw [8, 10] (fun s t wr => ∃ (j es : Nat), j ≤ ls.length ∧ t = .int .i64 j ∧ s = .int .i64 es ∧ es + Tr.esOf ns (ls.drop j) = Tr.esOf ns ls ∧ Below w.heap.size w wr ∧ w.heap.size < wr.heap.size ∧ wr.cell? ⟨w.heap.size, 0, none⟩ = some (.slice (some ⟨tg, 0, none⟩) ns.length tc)) (fun _ t _ => ls.length - (intOf t).toNat)
  case atStart => exact ⟨0, 0, Nat.zero_le _, rfl, rfl, by simp, r1, by simp, by simp⟩
  case round =>
    obtain ⟨j, es, hj, rfl, rfl, he, hB, hlt0, hc0⟩ := hrel
    have HE := hide he
    clear he
    by_cases hlt : j < ls.length
    · have hI := HI.out.2 j hlt
      rw [Nat.zero_add] at hI
      have hx : ls[j] < ns.length := HIN.out _ (List.getElem_mem _)
      obtain ⟨hN, _⟩ := HT.out.2 ls[j] hx
      have HS := hide (Tr.esOf_at ns ls j hlt)
      have HQ := hide (show Tr.isE ns ls[j] = Tr.inr ns[ls[j]].kind 1 16 by unfold Tr.isE; rw [Tr.kindOf_at hx])
      have a0 := (hB.cell (p := ⟨g, j, none⟩) HI.out.1).trans hI
      have a1 := (hB.cell (p := ⟨tg, ls[j] * 5, none⟩) HT.out.1).trans hN
      generalize ns[ls[j]].kind = kj at *
      generalize ls[j] = xj at *
      clear hI hN
      have hes : es ≤ ls.length := by have := HE.out; omega
      cases hq : Tr.inr kj 1 16
      all_goals
        go_wp2
        go_quiet ((go_at_call 74; exact Calls.quiet_of_same (e_any _ _)))
        rw [hq]
        go_wp2
        go_roundw
        case rel =>
          have e1 := HE.out
          rw [HS.out, HQ.out, hq] at e1
          first | rw [if_pos rfl] at e1 | rw [if_neg (by decide)] at e1
          first
          | exact ⟨j + 1, es + 1, by omega, by go_num, by go_num, by omega, below_drewN hB _, hlt0, hc0⟩
          | exact ⟨j + 1, es, by omega, by go_num, rfl, by omega, below_drewN hB _, hlt0, hc0⟩
        case measure => simp [intOf]; omega
    · have hes : es = Tr.esOf ns ls := by have e1 := HE.out; rw [List.drop_of_length_le (by omega)] at e1; simpa [Tr.esOf] using e1
      subst hes
      obtain rfl : j = ls.length := by omega
      clear HE hj
      rcases HK.out with rfl | rfl | rfl | rfl | rfl | rfl | rfl | rfl | rfl | rfl | rfl | rfl | rfl | rfl | rfl | rfl | rfl | rfl
      all_goals
        go_wp2_with (go_at_call 34; refine (in_any _ _ _ _).mono ?_; rintro e w' ⟨rfl, rfl⟩)
      all_goals
        go_ret
        refine ⟨ret_bool ?_, hB⟩
        clear HT HI HIN HK hB hc0 r1
        rw [Bool.eq_iff_iff]
        first
        | (simp [Tr.kidsOk]; done)
        | (simp [Tr.kidsOk]; omega)
        | (rename_i h; simp [Tr.inr] at h; simp [Tr.kidsOk]; omega)
end Go.Proofs.YtmklgiononbmmaaDoor
