/- Walks: the places of the names that are made inside, on the program's side. -/
import Derived.Test.YthjilpnipidababDoorJd
import Derived.Test.YthjilpnipidababDoorKi
import Derived.Maps.OwnSet
namespace Go.Proofs.YthjilpnipidababDoor
open Go.RowKit

theorem Tr.localsGo_snoc (a : List Tr.Nd) (d : Tr.Nd) (k : Nat) : Tr.localsGo (a ++ [d]) k = Tr.localsGo a k ++ (if Tr.isLocal d.kind = true then [k + a.length] else []) := by
  induction a generalizing k with
  | nil => simp [Tr.localsGo]
  | cons x r ih => rw [List.cons_append, Tr.localsGo, ih, Tr.localsGo, List.append_assoc, List.length_cons, show k + 1 + r.length = k + (r.length + 1) from by omega]
def Tr.keysI (l : List Nat) : List Lit := l.map fun (k : Nat) => Lit.int .i64 (k : Int)
theorem Tr.keysI_ok (l : List Nat) : ∀ x ∈ Tr.keysI l, WideAt.IsKeyLit x := by
  intro x hx
  simp only [Tr.keysI, List.mem_map] at hx
  obtain ⟨y, _, rfl⟩ := hx
  trivial
theorem lawI : Maps.Keyed Tryd.prog 3 := Maps.int_keyed Tryd.underlying3
theorem wfI (k : Nat) (h : k ≤ 1048576) : (Lit.int .i64 (k : Int)).wf = true := by
  have h1 : IntKind.i64.min = -9223372036854775808 := by decide
  have h2 : IntKind.i64.max = 9223372036854775807 := by decide
  simp [Lit.wf, h1, h2]
  omega
theorem zeroUI (w : World) : (zeroValue 81).run Tryd.prog w = .ok (.agg #[]) w := by kernel_rfl

set_option maxRecDepth 100000 in
set_option maxHeartbeats 1000000 in
theorem localPlaces_any (ns : List Tr.Nd) (tg tc : Nat) (w : World) (hn : ns.length ≤ 5000) (ht : NodesAt w tg ns) :
    Calls Tryd.prog 49 #[.slice (some ⟨tg, 0, none⟩) ns.length tc] w fun e w' => e = .returned (.map (some w.heap.size)) ∧ w'.ownsMap (H := Unit) Tryd.prog 3 unitElem w.heap.size ns.length (Maps.setOf (.agg []) (Tr.keysI (Tr.localsGo ns 0))) ∧ Below w.heap.size w w' := by
  have hmm := @run_makeMap Tryd.prog
  have hm0 := World.ownsMap_made (H := Unit) w Tryd.prog 3 unitElem
  have hb0 : Below w.heap.size w (w.alloc (.map #[] 0)) := (Below.refl _ _).alloc (Nat.le_refl _) _
  have HT := hide ht
  have HM := hide hm0
  clear ht hm0
  go_enter Tryd.func49, Tryd.ntmps49
  go_wp2
  go_loopw [9] (fun t wr => ∃ i : Nat, i ≤ ns.length ∧ t = .int .i64 i ∧ Below w.heap.size w wr ∧ w.heap.size < wr.heap.size ∧ wr.ownsMap (H := Unit) Tryd.prog 3 unitElem w.heap.size i (Maps.setOf (.agg []) (Tr.keysI (Tr.localsGo (ns.take i) 0)))) (fun t _ => ns.length - (intOf t).toNat)
  case atStart => exact ⟨0, Nat.zero_le _, rfl, hb0, by simp, HM.out⟩
  case round =>
    obtain ⟨i, hi, rfl, hB, hz, hown⟩ := hrel
    have HO := hide hown
    clear hown
    by_cases hlt : i < ns.length
    · obtain ⟨c0, c1, c2, c3, c4⟩ := (HT.out.below hB).2 i hlt
      have HK := hide (show Tr.localsGo (ns.take (i + 1)) 0 = Tr.localsGo (ns.take i) 0 ++ (if Tr.isLocal ns[i].kind = true then [i] else []) by
        rw [List.take_succ_eq_append_getElem hlt, Tr.localsGo_snoc, List.length_take, Nat.min_eq_left hi, Nat.zero_add])
      have HY : Hid (keyOf Tryd.prog 3 (.int .i64 (i : Int)) = some (.int .i64 (i : Int))) := hide (Maps.keyOf_int_mk Tryd.underlying3 (wfI i (by omega)))
      by_cases hloc : ns[i].kind = 14 ∨ ns[i].kind = 16
      · have hK2 : Maps.setOf (H := Unit) (.agg []) (Tr.keysI (Tr.localsGo (ns.take (i + 1)) 0)) = (Maps.setOf (.agg []) (Tr.keysI (Tr.localsGo (ns.take i) 0))).put (.int .i64 (i : Int)) (.agg []) := by
          rw [HK.out, if_pos (by rcases hloc with e | e <;> (rw [e]; rfl)), ← Maps.setOf_snoc]; congr 1; simp [Tr.keysI]
        have HK2 := hide hK2
        clear hK2 HK
        generalize ns[i].kind = kd at *
        generalize Tr.localsGo (ns.take i) 0 = L at *
        rcases hloc with rfl | rfl
        all_goals
          go_wp2_with (at_mapUpdate; refine wpList_mapUpdate_own _ rfl _ _ _ 83 rfl 3 81 lawI Tryd.underlying83 _ w.heap.size i _ rfl (HO.out.alloc _) (by unfold maxLen; omega) _ _ _ rfl rfl HY.out _ [] unitElem_mk ?_)
          intro w1 hown1 hgrow1
          have hB1 : Below w.heap.size w w1 := (hB.alloc hB.size _).grown hgrow1 (by simp; omega) (fun k e => by cases e; exact Nat.le_refl _)
          have hz1 : w.heap.size < w1.heap.size := by have := hgrow1.size; simp at this; omega
          rw [← HK2.out] at hown1
          go_wp2
          go_roundw
          case rel => exact ⟨i + 1, by omega, by go_num, hB1, hz1, hown1⟩
          case measure => simp [intOf]; omega
      · have HK2 : Hid (Tr.localsGo (ns.take (i + 1)) 0 = Tr.localsGo (ns.take i) 0) := hide (by
          rw [HK.out, if_neg (by intro h; apply hloc; simpa [Tr.isLocal] using h), List.append_nil])
        have q14 : (ns[i].kind == 14) = false := by simp; omega
        have q16 : (ns[i].kind == 16) = false := by simp; omega
        clear HK
        go_wp2
        go_roundw
        case rel => exact ⟨i + 1, by omega, by go_num, hB.alloc hB.size _, by rw [World.size_alloc]; omega, by rw [HK2.out]; exact (HO.out.alloc _).mono (by omega)⟩
        case measure => simp [intOf]; omega
    · go_wp2
      go_ret
      obtain rfl : i = ns.length := by omega
      have := HO.out
      rw [List.take_length] at this
      exact ⟨rfl, this, hB⟩

/-! ### what is sorted -/
theorem Tr.localsGo_ge (ns : List Tr.Nd) (i : Nat) : ∀ x ∈ Tr.localsGo ns i, i ≤ x ∧ x < i + ns.length := by
  induction ns generalizing i with
  | nil => intro x hx; cases hx
  | cons d r ih =>
    intro x hx
    rw [Tr.localsGo, List.mem_append] at hx
    rw [List.length_cons]
    rcases hx with hx | hx
    · split at hx
      · have : x = i := by simpa using hx
        omega
      · cases hx
    · have := ih (i + 1) x hx; omega
theorem Tr.localsGo_asc (ns : List Tr.Nd) (i : Nat) : (Tr.localsGo ns i).Pairwise (· < ·) := by
  induction ns generalizing i with
  | nil => exact List.Pairwise.nil
  | cons d r ih =>
    rw [Tr.localsGo]
    split
    · rw [List.singleton_append, List.pairwise_cons]
      exact ⟨fun x hx => by have := Tr.localsGo_ge r (i + 1) x hx; omega, ih _⟩
    · exact ih _
theorem Tr.sortI_eq {ss : List Int} {L : List Nat} (hL : L.Pairwise (· < ·)) (hp : ss.Perm (L.map fun (k : Nat) => (k : Int))) : ss.mergeSort (fun x y => decide (x ≤ y)) = L.map fun (k : Nat) => (k : Int) := by
  have h1 : (ss.mergeSort (fun x y => decide (x ≤ y))).Pairwise (fun x y => decide (x ≤ y) = true) := List.pairwise_mergeSort (fun a b c h1 h2 => by rw [decide_eq_true_iff] at *; omega) (fun a b => by rw [Bool.or_eq_true, decide_eq_true_iff, decide_eq_true_iff]; omega) ss
  have h2 : (L.map fun (k : Nat) => (k : Int)).Pairwise (fun x y => decide (x ≤ y) = true) := by
    rw [List.pairwise_map]
    exact hL.imp fun h => by rw [decide_eq_true_iff]; omega
  exact List.Perm.eq_of_pairwise (fun a b _ _ h1 h2 => by rw [decide_eq_true_iff] at h1 h2; omega) h1 h2 ((List.mergeSort_perm ss _).trans hp)
end Go.Proofs.YthjilpnipidababDoor
