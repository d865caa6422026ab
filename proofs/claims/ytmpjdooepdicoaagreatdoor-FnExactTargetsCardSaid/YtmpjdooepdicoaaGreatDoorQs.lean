/- The walk of the law on ValidTree. -/
import Derived.Test.YtmpjdooepdicoaaGreatDoorQm
namespace Go.Proofs.YtmpjdooepdicoaaGreatDoor.Vl
open Go.RowKit T.atoms T.ok T.high T.good T.allPlain

set_option maxRecDepth 100000 in
set_option maxHeartbeats 400000 in
theorem ok5_nil (g tc : Nat) (w : World) :
    Calls Tryz.prog 32 #[.agg #[.slice (some ⟨g, 0, none⟩) 0 tc], .int .i64 0] w fun e w' => e = .returned (.bool false) ∧ Below w.heap.size w w' := by
  go_enter Tryz.func32, Tryz.ntmps32
  go_wp2
  go_ret
  exact ⟨rfl, (Below.refl _ _).alloc (Nat.le_refl _) _⟩
theorem valid_longS (l : List At) (h : 1000 < l.length) : valid l = false := by
  unfold valid; rw [decide_eq_false (by omega)]; rfl
theorem valid_ok (l : List At) (h : l.length ≤ 1000) : valid l = okOf l 0 := by
  unfold valid okOf; rw [decide_eq_true h, Bool.true_and]; cases treeOf l <;> rfl
theorem specValid_any (l : List At) (g o tc : Nat) (w : World) (ho : l.length = 0 → o = 0) (ht : AtomsO w g o l) (hc : l.length ≤ tc) (hl : l.length ≤ 1048576) :
    Calls Tryz.prog 14 #[.agg #[.slice (some ⟨g, o, none⟩) l.length tc]] w fun e w' => e = .returned (.bool (valid l)) ∧ Below w.heap.size w w' := by
  have r1 : Below w.heap.size w (w.alloc (.cells #[.slice (some ⟨g, o, none⟩) l.length tc] 45)) := (Below.refl _ _).alloc (Nat.le_refl _) _
  by_cases hlong : (l.length : Int) ≤ 1000
  · have HV := hide (valid_ok l (by omega))
    cases hm : l.length with
    | zero =>
      obtain rfl := ho hm
      obtain rfl := List.length_eq_zero_iff.1 hm
      have HZ : Hid (valid [] = false) := hide rfl
      have HO := hide (ok5_nil g tc)
      clear HV hm
      go_enter Tryz.func14, Tryz.ntmps14
      go_wp2_with fail
      refine (HO.out _).mono ?_
      rintro e w1 ⟨rfl, hb1⟩
      go_wp2
      go_ret
      exact ⟨ret_bool HZ.out.symm, r1.trans (hb1.mono (by simp))⟩
    | succ m =>
      rw [hm] at r1 hlong
      have hlong' : (m : Int) + 1 ≤ 1000 := by omega
      have HO := hide (ok5_any (l.length + 1) l g o tc 0 m _ (by omega) hm (by omega) (by omega) (by omega) (ht.below r1))
      rw [← HV.out] at HO
      generalize valid l = vl at *
      clear ht HV hlong hm
      go_enter Tryz.func14, Tryz.ntmps14
      go_wp2_with fail
      refine (HO.out).mono ?_
      rintro e w1 ⟨rfl, hb1⟩
      go_wp2
      go_ret
      exact ⟨rfl, r1.trans (hb1.mono (by simp))⟩
  · have HZ := hide (valid_longS l (by omega))
    clear ht
    go_enter Tryz.func14, Tryz.ntmps14
    go_wp2
    go_ret
    exact ⟨ret_bool HZ.out.symm, r1⟩
end Go.Proofs.YtmpjdooepdicoaaGreatDoor.Vl
