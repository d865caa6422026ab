/- Targets: the law's marks in texts. -/
import Derived.Test.YtmpjdooepdicoaaGreatDoorAb
import Derived.Test.YtmpjdooepdicoaaGreatDoorAa
namespace Go.Proofs.YtmpjdooepdicoaaGreatDoor.Vl
open Go.RowKit T.atoms T.ok T.high T.good T.allPlain

def mkS (k : Nat) : ByteArray := ⟨(Mk.mt k).toArray⟩
def mks (k n : Nat) : List ByteArray := (List.range n).map fun i => mkS (k + i)
theorem mks_len (k n : Nat) : (mks k n).length = n := by simp [mks]
theorem mks_succ (k n : Nat) : cellsT (mks k (n + 1)) = cellsT (mks k n) ++ [.string (mkS (k + n))] := by simp [mks, cellsT, List.range_succ]
theorem cellsT_len (l : List ByteArray) : (cellsT l).length = l.length := by simp [cellsT]
theorem drop1 (xs : List Value) (i : Nat) (h : i + 1 ≤ xs.length) : ∃ a, xs.drop i = a :: xs.drop (i + 1) := ⟨xs[i], List.drop_eq_getElem_cons (by omega)⟩
theorem set1_0 (P R : List Value) (a v : Value) (k : Nat) (h : P.length = k) : (P ++ a :: R).set k v = P ++ v :: R := by subst h; simp

set_option maxRecDepth 100000 in
set_option maxHeartbeats 1000000 in
theorem markS_some (k0 n g cap B : Nat) (xs : List Value) (w : World) (h1 : 1 ≤ k0) (hk : k0 ≤ 5000000) (hn : n ≤ 1048576) (hown : w.ownsRow B 9 1 (.slice (some ⟨g, 0, none⟩) n cap) n xs) (hBs : B ≤ w.heap.size) :
    Calls Tryz.prog 50 #[.slice (some ⟨g, 0, none⟩) n cap, .int .i64 (k0 : Int)] w fun e w' => e = .returned (.int .i64 ((k0 : Int) + (n : Int))) ∧ w'.ownsRow B 9 1 (.slice (some ⟨g, 0, none⟩) n cap) n (cellsT (mks k0 n)) ∧ (∀ b, b < w.heap.size → b ≠ g → w'.heap[b]? = w.heap[b]?) ∧ Below B w w' := by
  have hgB := (hown.lt g rfl).1
  have hxl : xs.length = n * 1 := hown.1
  have HW := hide hown
  clear hown
  go_enter Tryz.func50, Tryz.ntmps50
  go_wp2
  go_loopw [1, 5] (fun t u wr => ∃ i : Nat, i ≤ n ∧ u = .int .i64 i ∧ t = .int .i64 ((k0 : Int) + (i : Int)) ∧ wr.ownsRow B 9 1 (.slice (some ⟨g, 0, none⟩) n cap) n (cellsT (mks k0 i) ++ xs.drop i) ∧ (∀ b, b < w.heap.size → b ≠ g → wr.heap[b]? = w.heap[b]?) ∧ w.heap.size ≤ wr.heap.size ∧ Below B w wr ∧ B ≤ wr.heap.size) (fun _ u _ => n - (intOf u).toNat)
  case atStart => exact ⟨0, Nat.zero_le _, rfl, by simp, by simpa [mks, cellsT] using HW.out, fun _ _ _ => rfl, Nat.le_refl _, Below.refl _ _, hBs⟩
  case round =>
    obtain ⟨i, hi, rfl, rfl, ho, hfr, hws, hB, hsz⟩ := hrel
    by_cases hlt : i < n
    · obtain ⟨a, hd⟩ := drop1 xs i (by omega)
      have hml : (cellsT (mks k0 i)).length = i := by rw [cellsT_len, mks_len]
      rw [hd] at ho
      have c0 : wr.cell? ⟨g, i, none⟩ = some a := (ho.cellAt _ (by omega)).trans (get4 _ _ _ 0 hml)
      have f0 := ho.frozenAt i
      have hgr : g < wr.heap.size := (ho.lt g rfl).2
      have HO := hide ho
      have HFR := hide hfr
      have HD := hide hd
      clear ho hfr hd
      go_wp2_with fail
      refine (markText_any (k0 + i) _ _ (by omega) (by omega) (by omega)).mono ?_
      rintro e w1 ⟨rfl, hb1⟩
      have t1 := row_belowS HO.out hb1
      have q0 : w1.cell? ⟨g, i, none⟩ = some a := (t1.cellAt _ (by omega)).trans (get4 _ _ _ 0 hml)
      have z0 := t1.frozenAt i
      have HT := hide t1
      have hb1s := hb1.size
      clear t1 c0 f0
      go_wp2
      go_roundw
      case rel =>
        have s0 := (HT.out.stored i (.string ⟨(Mk.mt (k0 + i)).toArray⟩)).1
        rw [set1_0 _ _ _ _ _ hml] at s0
        refine ⟨i + 1, by omega, by go_num, by go_num, ?_, fun q hq hqg => ?_, by simp only [size_set4]; omega, (hB.trans (hb1.mono hsz)).setCell (p := ⟨g, i, none⟩) hgB _, by simp only [size_set4]; omega⟩
        · rw [mks_succ, List.append_assoc]
          exact s0
        · exact (Below.heap_setCell _ _ _ _ hqg).trans ((hb1.block q (by omega)).trans (HFR.out q hq hqg))
      case measure => simp [intOf]; omega
    · obtain rfl : i = n := by omega
      go_wp2
      go_ret
      rw [List.drop_of_length_le (by omega), List.append_nil] at ho
      exact ⟨rfl, ho, hfr, hB⟩
set_option maxHeartbeats 400000 in
theorem markS_none (k0 : Nat) (w : World) : Calls Tryz.prog 50 #[.slice none 0 0, .int .i64 (k0 : Int)] w fun e w' => e = .returned (.int .i64 (k0 : Int)) ∧ w' = w := by
  go_enter Tryz.func50, Tryz.ntmps50
  go_wp2
  go_loopw [1, 5] (fun t u wr => t = .int .i64 (k0 : Int) ∧ u = .int .i64 0 ∧ wr = w) (fun _ _ _ => 0)
  case atStart => exact ⟨rfl, rfl, rfl⟩
  case round =>
    obtain ⟨rfl, rfl, rfl⟩ := hrel
    go_wp2
    go_ret
    exact ⟨rfl, rfl⟩
theorem markS_any (k0 n B : Nat) (v : Value) (xs : List Value) (w : World) (h1 : 1 ≤ k0) (hk : k0 ≤ 5000000) (hn : n ≤ 1048576) (hown : w.ownsRow B 9 1 v n xs) (hBs : B ≤ w.heap.size) :
    Calls Tryz.prog 50 #[v, .int .i64 (k0 : Int)] w fun e w' => e = .returned (.int .i64 ((k0 : Int) + (n : Int))) ∧ w'.ownsRow B 9 1 v n (cellsT (mks k0 n)) ∧ w.grownBy w' v.ownBlock ∧ Below B w w' := by
  rcases hown.2 with ⟨rfl, rfl⟩ | ⟨g, cap, _, rfl, _⟩
  · refine (markS_none k0 w).mono ?_
    rintro e w1 ⟨rfl, rfl⟩
    exact ⟨by simp, ⟨rfl, .inl ⟨rfl, rfl⟩⟩, ⟨rfl, rfl, rfl, Nat.le_refl _, fun _ _ _ => rfl⟩, Below.refl _ _⟩
  · refine (markS_some k0 n g cap B xs w h1 hk hn hown hBs).mono ?_
    rintro e w1 ⟨rfl, h2, h3, h4⟩
    exact ⟨rfl, h2, ⟨h4.os, h4.tape, h4.output, h4.size, fun k hk hne => h3 k hk (fun e => hne (by rw [e]; rfl))⟩, h4⟩

set_option maxRecDepth 100000 in
set_option maxHeartbeats 1000000 in
theorem heldS_some (k0 n g cap B : Nat) (w : World) (h1 : 1 ≤ k0) (hk : k0 ≤ 5000000) (hn : n ≤ 1048576) (hown : w.ownsRow B 9 1 (.slice (some ⟨g, 0, none⟩) n cap) n (cellsT (mks k0 n))) :
    Calls Tryz.prog 51 #[.slice (some ⟨g, 0, none⟩) n cap, .int .i64 (k0 : Int)] w fun e w' => e = .returned (.int .i64 ((k0 : Int) + (n : Int))) ∧ Below w.heap.size w w' := by
  have HC : Hid (∀ i, i < n → w.cell? ⟨g, i, none⟩ = some (.string ⟨(Mk.mt (k0 + i)).toArray⟩)) := hide (fun i hi => (hown.cellAt _ (by omega)).trans (by simp [cellsT, mks, mkS, hi]))
  have hg := (hown.lt g rfl).2
  clear hown
  go_enter Tryz.func51, Tryz.ntmps51
  go_wp2
  go_loopw [1, 5] (fun t u wr => ∃ i : Nat, i ≤ n ∧ u = .int .i64 i ∧ t = .int .i64 ((k0 : Int) + (i : Int)) ∧ Below w.heap.size w wr) (fun _ u _ => n - (intOf u).toNat)
  case atStart => exact ⟨0, Nat.zero_le _, rfl, by simp, Below.refl _ _⟩
  case round =>
    obtain ⟨i, hi, rfl, rfl, hB⟩ := hrel
    by_cases hlt : i < n
    · have hgr : g < wr.heap.size := Nat.lt_of_lt_of_le hg hB.size
      have c0 : wr.cell? ⟨g, i, none⟩ = some (.string ⟨(Mk.mt (k0 + i)).toArray⟩) := (hB.cell (p := ⟨g, i, none⟩) hg).trans (HC.out i hlt)
      have HB := hide hB
      clear hB
      go_wp2
      go_region_with (go_at_call 27; refine (markText_any (k0 + i) _ _ (by omega) (by omega) (by omega)).mono ?_; rintro e w1 ⟨rfl, hb1⟩; have q3 := (hb1.cell (p := ⟨g, i, none⟩) hgr).trans c0; have q5 : Below w.heap.size w w1 := HB.out.trans (Below.mono (w := wr) ⟨hb1.os, hb1.tape, hb1.output, hb1.size, hb1.block⟩ HB.out.size))
      all_goals
        clear hb1 c0
        go_wp2
        go_roundw
        case rel => exact ⟨i + 1, by omega, by go_num, by go_num, q5⟩
        case measure => simp [intOf]; omega
    · obtain rfl : i = n := by omega
      go_wp2
      go_ret
      exact ⟨rfl, hB⟩
set_option maxHeartbeats 400000 in
theorem heldS_none (k0 : Nat) (w : World) : Calls Tryz.prog 51 #[.slice none 0 0, .int .i64 (k0 : Int)] w fun e w' => e = .returned (.int .i64 (k0 : Int)) ∧ w' = w := by
  go_enter Tryz.func51, Tryz.ntmps51
  go_wp2
  go_loopw [1, 5] (fun t u wr => t = .int .i64 (k0 : Int) ∧ u = .int .i64 0 ∧ wr = w) (fun _ _ _ => 0)
  case atStart => exact ⟨rfl, rfl, rfl⟩
  case round =>
    obtain ⟨rfl, rfl, rfl⟩ := hrel
    go_wp2
    go_ret
    exact ⟨rfl, rfl⟩
theorem heldS_any (k0 n B : Nat) (v : Value) (w : World) (h1 : 1 ≤ k0) (hk : k0 ≤ 5000000) (hn : n ≤ 1048576) (hown : w.ownsRow B 9 1 v n (cellsT (mks k0 n))) :
    Calls Tryz.prog 51 #[v, .int .i64 (k0 : Int)] w fun e w' => e = .returned (.int .i64 ((k0 : Int) + (n : Int))) ∧ Below w.heap.size w w' := by
  rcases hown.2 with ⟨rfl, rfl⟩ | ⟨g, cap, _, rfl, _⟩
  · refine (heldS_none k0 w).mono ?_
    rintro e w1 ⟨rfl, rfl⟩
    exact ⟨by simp, Below.refl _ _⟩
  · exact heldS_some k0 n g cap B w h1 hk hn hown
end Go.Proofs.YtmpjdooepdicoaaGreatDoor.Vl
