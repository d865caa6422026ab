/- Walks: the law's marks. -/
import Derived.Test.YtempkondijgdgaaDoorLa
namespace Go.Proofs.YtempkondijgdgaaDoor
open Go.RowKit

namespace Sc
def dg (k : Nat) : UInt8 := UInt8.ofNat (48 + k % 10)
/-- The decimal digits of k ahead of o. -/
def fin : Nat → Nat → List UInt8 → List UInt8
  | 0, _, o => o
  | f + 1, k, o => if k = 0 then o else fin f (k / 10) (dg k :: o)
theorem fin_fuel : ∀ (f g k : Nat) (o : List UInt8), k < f → k < g → fin f k o = fin g k o
  | 0, _, _, _, h, _ => by omega
  | _ + 1, 0, _, _, _, h => by omega
  | f + 1, g + 1, k, o, hf, hg => by
    unfold fin
    by_cases h : k = 0
    · rw [if_pos h, if_pos h]
    · rw [if_neg h, if_neg h]
      exact fin_fuel f g (k / 10) _ (by omega) (by omega)
theorem fin_step (k : Nat) (o : List UInt8) (h : k ≠ 0) : fin (k + 1) k o = fin (k / 10 + 1) (k / 10) (dg k :: o) := by
  conv => lhs; unfold fin
  rw [if_neg h]
  exact fin_fuel _ _ _ _ (by omega) (by omega)
def mt (k : Nat) : List UInt8 := 109 :: fin (k + 1) k []
end Sc

theorem str1 (j : Nat) : strOfNums [48 + (j : Int) % 10] = ⟨#[Sc.dg j]⟩ := by
  have e : (48 + (j : Int) % 10).toNat = 48 + j % 10 := by omega
  simp [strOfNums, e, Sc.dg]
theorem str_cons (c : UInt8) (o : List UInt8) : (⟨#[c]⟩ : ByteArray) ++ ⟨o.toArray⟩ = ⟨(c :: o).toArray⟩ := by
  rw [← Lib.mk_data (⟨#[c]⟩ ++ ⟨o.toArray⟩)]
  congr 2

set_option maxRecDepth 100000 in
set_option maxHeartbeats 1000000 in
theorem markText_any (k : Nat) (a : Int) (w : World) (h1 : 1 ≤ k) (hk : k ≤ 100000) (ha : a = (k : Int)) :
    Calls Tryd.prog 14 #[.int .i64 a] w fun e w' => e = .returned (.string ⟨(Sc.mt k).toArray⟩) ∧ Below w.heap.size w w' := by
  subst ha
  have hk0 : decide (k = 0) = false := by simp; omega
  go_enter Tryd.func14, Tryd.ntmps14
  go_wp2
  go_loopw [0, 3] (fun t v wr => ∃ (j : Nat) (o : List UInt8), j ≤ k ∧ t = .int .i64 j ∧ v = .string ⟨o.toArray⟩ ∧ Sc.fin (j + 1) j o = Sc.fin (k + 1) k [] ∧ o.length + j ≤ k ∧ Below w.heap.size w wr) (fun t _ _ => (intOf t).toNat)
  case atStart => exact ⟨k, [], Nat.le_refl _, rfl, rfl, rfl, by simp, Below.refl _ _⟩
  case round =>
    obtain ⟨j, o, hj, rfl, rfl, he, hlen, hB⟩ := hrel
    have HE := hide he
    clear he
    by_cases hz : 0 < j
    · have hcv := run_convert_bytes_arg (P := Tryd.prog) (wr.alloc (.cells #[.int .u8 (48 + (j : Int) % 10)] 5)) 52 5 Tryd.underlying52 Tryd.underlying5 wr.heap.size 0 1 1 [48 + (j : Int) % 10] rfl (fun i hi => by
        obtain rfl : i = 0 := by omega
        simp) 9 Tryd.underlying9
      rw [str1] at hcv
      go_wp2
      go_roundw
      case rel =>
        refine ⟨j / 10, Sc.dg j :: o, by omega, by go_num, ?_, ?_, by simp; omega, hB.alloc hB.size _⟩
        · rw [str_cons]
        · rw [← HE.out, Sc.fin_step j o (by omega)]
      case measure => simp [intOf]; omega
    · go_wp2
      go_ret
      refine ⟨?_, hB⟩
      obtain rfl : j = 0 := by omega
      have e := HE.out
      rw [str_cons]
      show _ = Ending.returned (.string ⟨(109 :: Sc.fin (k + 1) k []).toArray⟩)
      rw [← e]; rfl

/-- The four marks of token i. -/
def Sc.mark4 (i : Nat) : List Value := [.int .i64 (1 + 4 * (i : Int)), .string ⟨(Sc.mt (2 + 4 * i)).toArray⟩, .int .i64 (1 + 4 * (i : Int) + 1 + 1), .int .i64 (1 + 4 * (i : Int) + 1 + 1 + 1)]
def Sc.marked (n : Nat) : List Value := (List.range n).flatMap Sc.mark4
theorem Sc.marked_succ (n : Nat) : Sc.marked (n + 1) = Sc.marked n ++ Sc.mark4 n := by simp [Sc.marked, List.range_succ]
theorem Sc.marked_len (n : Nat) : (Sc.marked n).length = n * 4 := by
  induction n with
  | zero => rfl
  | succ n ih => rw [Sc.marked_succ, List.length_append, ih]; simp [Sc.mark4]; omega
theorem Sc.drop4 (xs : List Value) (i : Nat) (h : i * 4 + 4 ≤ xs.length) : ∃ a b c d, xs.drop (i * 4) = a :: b :: c :: d :: xs.drop ((i + 1) * 4) := by
  refine ⟨xs[i * 4], xs[i * 4 + 1], xs[i * 4 + 2], xs[i * 4 + 3], ?_⟩
  rw [List.drop_eq_getElem_cons (by omega), List.drop_eq_getElem_cons (by omega), List.drop_eq_getElem_cons (by omega), List.drop_eq_getElem_cons (by omega), show i * 4 + 1 + 1 + 1 + 1 = (i + 1) * 4 from by omega]

theorem Sc.set_at (P R : List Value) (a v : Value) (k : Nat) (h : P.length = k) : (P ++ a :: R).set k v = P ++ v :: R := by
  subst h; simp
theorem Sc.set_at1 (P R : List Value) (x a v : Value) (k : Nat) (h : P.length = k) : (P ++ x :: a :: R).set (k + 1) v = P ++ x :: v :: R := by
  subst h; simp
theorem Sc.set_at2 (P R : List Value) (x y a v : Value) (k : Nat) (h : P.length = k) : (P ++ x :: y :: a :: R).set (k + 2) v = P ++ x :: y :: v :: R := by
  subst h; simp
theorem Sc.set_at3 (P R : List Value) (x y z a v : Value) (k : Nat) (h : P.length = k) : (P ++ x :: y :: z :: a :: R).set (k + 3) v = P ++ x :: y :: z :: v :: R := by
  subst h; simp
theorem Sc.get_at (P R : List Value) (k j : Nat) (h : P.length = k) : (P ++ R)[k + j]? = R[j]? := by
  subst h; rw [List.getElem?_append_right (by omega)]; congr 1; omega

set_option maxRecDepth 100000 in
set_option maxHeartbeats 1000000 in
theorem mark_any (n g cap B : Nat) (xs : List Value) (w : World) (hn : n ≤ 8000) (hown : w.ownsRow B 33 4 (.slice (some ⟨g, 0, none⟩) n cap) n xs) (hBs : B ≤ w.heap.size) :
    Calls Tryd.prog 8 #[.slice (some ⟨g, 0, none⟩) n cap, .int .i64 1] w fun e w' => e = .returned (.int .i64 (1 + 4 * (n : Int))) ∧ w'.ownsRow B 33 4 (.slice (some ⟨g, 0, none⟩) n cap) n (Sc.marked n) ∧ Below B w w' := by
  have hgB := (hown.lt g rfl).1
  have hxl : xs.length = n * 4 := hown.1
  go_enter Tryd.func8, Tryd.ntmps8
  go_wp2
  go_loopw [1, 5] (fun t u wr => ∃ i : Nat, i ≤ n ∧ u = .int .i64 i ∧ t = .int .i64 (1 + 4 * (i : Int)) ∧ wr.ownsRow B 33 4 (.slice (some ⟨g, 0, none⟩) n cap) n (Sc.marked i ++ xs.drop (i * 4)) ∧ Below B w wr ∧ B ≤ wr.heap.size) (fun _ u _ => n - (intOf u).toNat)
  case atStart => exact ⟨0, Nat.zero_le _, rfl, rfl, by simpa [Sc.marked] using hown, Below.refl _ _, hBs⟩
  case round =>
    obtain ⟨i, hi, rfl, rfl, ho, hB, hsz⟩ := hrel
    by_cases hlt : i < n
    · obtain ⟨a, b, c, d, hd4⟩ := Sc.drop4 xs i (by omega)
      have hml := Sc.marked_len i
      rw [hd4] at ho
      have HD := hide hd4
      clear hd4
      have hcl := fun j hj => ho.cellAt j hj
      have hfz := fun j => ho.frozenAt j
      have k0 : wr.cell? ⟨g, i * 4, none⟩ = some a := (hcl _ (by omega)).trans (by rw [List.getElem?_append_right (by omega), hml]; simp)
      have k1 : wr.cell? ⟨g, i * 4 + 1, none⟩ = some b := (hcl _ (by omega)).trans (by rw [List.getElem?_append_right (by omega), hml, show i * 4 + 1 - i * 4 = 1 from by omega]; rfl)
      have k2 : wr.cell? ⟨g, i * 4 + 2, none⟩ = some c := (hcl _ (by omega)).trans (by rw [List.getElem?_append_right (by omega), hml, show i * 4 + 2 - i * 4 = 2 from by omega]; rfl)
      have k3 : wr.cell? ⟨g, i * 4 + 3, none⟩ = some d := (hcl _ (by omega)).trans (by rw [List.getElem?_append_right (by omega), hml, show i * 4 + 3 - i * 4 = 3 from by omega]; rfl)
      clear hcl
      have s0 := (ho.stored (i * 4) (.int .i64 (1 + 4 * (i : Int)))).1
      rw [Sc.set_at _ _ _ _ _ hml] at s0
      have hg1 : g < wr.heap.size := (ho.lt g rfl).2
      have HS0 := hide s0
      have HO := hide ho
      clear s0 ho
      go_wp2_with fail
      refine (markText_any (2 + 4 * i) _ _ (by omega) (by omega) (by omega)).mono ?_
      rintro e w1 ⟨rfl, hb1⟩
      have s1 := row_below HS0.out hb1
      have hB1 : Below B w w1 := (hB.setCell (p := ⟨g, i * 4, none⟩) hgB _).trans (hb1.mono (by rw [size_setCell']; exact hsz))
      have hsz1 : B ≤ w1.heap.size := by have := hb1.size; rw [size_setCell'] at this; omega
      have q1 : w1.cell? ⟨g, i * 4 + 1, none⟩ = some b := (s1.cellAt _ (by omega)).trans (Sc.get_at _ _ _ _ hml)
      have q2 : w1.cell? ⟨g, i * 4 + 2, none⟩ = some c := (s1.cellAt _ (by omega)).trans (Sc.get_at _ _ _ _ hml)
      have q3 : w1.cell? ⟨g, i * 4 + 3, none⟩ = some d := (s1.cellAt _ (by omega)).trans (Sc.get_at _ _ _ _ hml)
      have z1 := s1.frozenAt (i * 4 + 1)
      have z2 := s1.frozenAt (i * 4 + 2)
      have z3 := s1.frozenAt (i * 4 + 3)
      have HS1 := hide s1
      clear s1 k0 k1 k2 k3 hfz hb1
      go_wp2
      go_roundw
      case rel =>
        have t1 := (HS1.out.stored (i * 4 + 1) (.string ⟨(Sc.mt (2 + 4 * i)).toArray⟩)).1
        rw [Sc.set_at1 _ _ _ _ _ _ hml] at t1
        have t2 := (t1.stored (i * 4 + 2) (.int .i64 (1 + 4 * (i : Int) + 1 + 1))).1
        rw [Sc.set_at2 _ _ _ _ _ _ _ hml] at t2
        have t3 := (t2.stored (i * 4 + 3) (.int .i64 (1 + 4 * (i : Int) + 1 + 1 + 1))).1
        rw [Sc.set_at3 _ _ _ _ _ _ _ _ hml] at t3
        refine ⟨i + 1, by omega, by go_num, by go_num, ?_, ((hB1.setCell (p := ⟨g, i * 4 + 1, none⟩) hgB _).setCell (p := ⟨g, i * 4 + 2, none⟩) hgB _).setCell (p := ⟨g, i * 4 + 3, none⟩) hgB _, by simp only [size_setCell']; exact hsz1⟩
        rw [Sc.marked_succ, List.append_assoc]
        exact t3
      case measure => simp [intOf]; omega
    · obtain rfl : i = n := by omega
      go_wp2
      go_ret
      refine ⟨rfl, ?_, hB⟩
      rw [List.drop_of_length_le (by omega), List.append_nil] at ho
      exact ho

set_option maxHeartbeats 400000 in
theorem mark_none (oa : Option Addr) (ca : Nat) (w : World) : Calls Tryd.prog 8 #[.slice oa 0 ca, .int .i64 1] w fun e w' => e = .returned (.int .i64 1) ∧ w' = w := by
  go_enter Tryd.func8, Tryd.ntmps8
  go_wp2
  go_loop [1, 5] (fun t u => t = .int .i64 1 ∧ u = .int .i64 0) (fun _ _ => 0)
  case atStart => exact ⟨rfl, rfl⟩
  case round =>
    obtain ⟨rfl, rfl⟩ := hrel
    go_wp2
    go_ret
    exact ⟨rfl, rfl⟩

set_option maxHeartbeats 400000 in
theorem held_none (oa : Option Addr) (ca : Nat) (w : World) : Calls Tryd.prog 9 #[.slice oa 0 ca, .int .i64 1] w fun e w' => e = .returned (.int .i64 1) ∧ w' = w := by
  go_enter Tryd.func9, Tryd.ntmps9
  go_wp2
  go_loop [1, 5] (fun t u => t = .int .i64 1 ∧ u = .int .i64 0) (fun _ _ => 0)
  case atStart => exact ⟨rfl, rfl⟩
  case round =>
    obtain ⟨rfl, rfl⟩ := hrel
    go_wp2
    go_ret
    exact ⟨rfl, rfl⟩

theorem Sc.marked_at (n i : Nat) (h : i < n) : (Sc.marked n)[i * 4]? = some (.int .i64 (1 + 4 * (i : Int))) ∧ (Sc.marked n)[i * 4 + 1]? = some (.string ⟨(Sc.mt (2 + 4 * i)).toArray⟩) ∧ (Sc.marked n)[i * 4 + 2]? = some (.int .i64 (1 + 4 * (i : Int) + 1 + 1)) ∧ (Sc.marked n)[i * 4 + 3]? = some (.int .i64 (1 + 4 * (i : Int) + 1 + 1 + 1)) := by
  induction n with
  | zero => omega
  | succ n ih =>
    rw [Sc.marked_succ]
    have hl := Sc.marked_len n
    by_cases e : i = n
    · subst e
      exact ⟨Sc.get_at _ _ _ 0 hl, Sc.get_at _ _ _ 1 hl, Sc.get_at _ _ _ 2 hl, Sc.get_at _ _ _ 3 hl⟩
    · have := ih (by omega)
      refine ⟨?_, ?_, ?_, ?_⟩
      all_goals rw [List.getElem?_append_left (by omega)]
      · exact this.1
      · exact this.2.1
      · exact this.2.2.1
      · exact this.2.2.2

set_option maxRecDepth 100000 in
set_option maxHeartbeats 1000000 in
theorem held_any (n g cap B : Nat) (w : World) (hn : n ≤ 8000) (hown : w.ownsRow B 33 4 (.slice (some ⟨g, 0, none⟩) n cap) n (Sc.marked n)) :
    Calls Tryd.prog 9 #[.slice (some ⟨g, 0, none⟩) n cap, .int .i64 1] w fun e w' => e = .returned (.int .i64 (1 + 4 * (n : Int))) ∧ Below w.heap.size w w' := by
  have hg1 := (hown.lt g rfl).2
  go_enter Tryd.func9, Tryd.ntmps9
  go_wp2
  go_loopw [1, 5] (fun t u wr => ∃ i : Nat, i ≤ n ∧ u = .int .i64 i ∧ t = .int .i64 (1 + 4 * (i : Int)) ∧ Below w.heap.size w wr) (fun _ u _ => n - (intOf u).toNat)
  case atStart => exact ⟨0, Nat.zero_le _, rfl, rfl, Below.refl _ _⟩
  case round =>
    obtain ⟨i, hi, rfl, rfl, hB⟩ := hrel
    by_cases hlt : i < n
    · obtain ⟨p0, p1, p2, p3⟩ := Sc.marked_at n i hlt
      have HP := hide (And.intro p2 p3)
      have v0 := (hown.cellAt (i * 4) (by omega)).trans p0
      have v1 := (hown.cellAt (i * 4 + 1) (by omega)).trans p1
      have v2 := (hown.cellAt (i * 4 + 2) (by omega)).trans p2
      have v3 := (hown.cellAt (i * 4 + 3) (by omega)).trans p3
      have hmk := fun w => markText_any (2 + 4 * i) (1 + 4 * (i : Int) + 1) w (by omega) (by omega) (by omega)
      clear p0 p1 p2 p3
      generalize Sc.mt (2 + 4 * i) = tx at *
      have HM := hide hmk
      have HV1 := hide v1
      have HV2 := hide v2
      have HV3 := hide v3
      have a0 := (hB.cell (p := ⟨g, i * 4, none⟩) hg1).trans v0
      have a1 := (hB.cell (p := ⟨g, i * 4 + 1, none⟩) hg1).trans v1
      clear hmk v0 v1 v2 v3
      go_wp2
      go_region_with (go_at_call 14; refine (HM.out _).mono ?_; rintro e w1 ⟨rfl, hb1⟩; have hB1 : Below w.heap.size w w1 := (by first | exact hB.trans (hb1.mono hB.size) | exact hB.drew.trans (hb1.mono hB.size) | exact hB.drew.drew.trans (hb1.mono hB.size)); have a2 := (hB1.cell (p := ⟨g, i * 4 + 1, none⟩) hg1).trans HV1.out)
      all_goals
        have a3 := (hB1.cell (p := ⟨g, i * 4 + 2, none⟩) hg1).trans HV2.out
        have a4 := (hB1.cell (p := ⟨g, i * 4 + 3, none⟩) hg1).trans HV3.out
        go_wp2
        go_roundw
        case rel => exact ⟨i + 1, by omega, by go_num, by go_num, by first | exact hB1 | exact hB1.drew | exact hB1.drew.drew⟩
        case measure => simp [intOf]; omega
    · obtain rfl : i = n := by omega
      go_wp2
      go_ret
      exact ⟨rfl, hB⟩
end Go.Proofs.YtempkondijgdgaaDoor
