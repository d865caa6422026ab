/- Walks: worlds: the law's copies and comparisons. -/
import Derived.Test.YthlddankekghbaaZb
import Derived.Deep.RegionWith
import Derived.Deep.QuietTactic
import Derived.BigQuiet
namespace Go.Proofs.Ythlddankekghbaa.Wd
open Go.RowKit

theorem cellsF_len (l : List Fl) : (cellsF l).length = l.length * 2 := by
  induction l with
  | nil => rfl
  | cons x r ih => rw [show cellsF (x :: r) = x.cells ++ cellsF r from rfl, List.length_append, ih, List.length_cons]; simp [Fl.cells]; omega
theorem cellsF_at (l : List Fl) (i : Nat) (h : i < l.length) : (cellsF l)[i * 2]? = some (.string l[i].name) ∧ (cellsF l)[i * 2 + 1]? = some (.string l[i].text) := by
  induction l generalizing i with
  | nil => simp at h
  | cons x r ih =>
    rw [show cellsF (x :: r) = x.cells ++ cellsF r from rfl]
    match i, h with
    | 0, _ => simp [Fl.cells]
    | i + 1, h =>
      have := ih i (by simpa using h)
      have hl : x.cells.length = 2 := rfl
      refine ⟨?_, ?_⟩
      all_goals rw [List.getElem?_append_right (by omega), hl]
      · rw [show (i + 1) * 2 - 2 = i * 2 from by omega]; exact this.1
      · rw [show (i + 1) * 2 + 1 - 2 = i * 2 + 1 from by omega]; exact this.2
theorem files_of_row {w : World} {base : Nat} {e : TypeId} {g cap : Nat} {l : List Fl} (h : w.ownsRow base e 2 (.slice (some ⟨g, 0, none⟩) l.length cap) l.length (cellsF l)) : FilesO w g 0 l := by
  refine ⟨(h.lt g rfl).2, fun i hi => ?_⟩
  obtain ⟨p0, p1⟩ := cellsF_at l i hi
  simp only [Nat.zero_add]
  exact ⟨(h.cellAt (i * 2) (by omega)).trans p0, (h.cellAt (i * 2 + 1) (by omega)).trans p1⟩
theorem strs_of_row {w : World} {base : Nat} {e : TypeId} {g cap : Nat} {l : List ByteArray} (h : w.ownsRow base e 1 (.slice (some ⟨g, 0, none⟩) l.length cap) l.length (cellsT l)) : StrsO w g 0 l := by
  refine ⟨(h.lt g rfl).2, fun i hi => ?_⟩
  simp only [Nat.zero_add]
  exact (h.cellAt i (by omega)).trans (by simp [cellsT, hi])
theorem drop2 (xs : List Value) (i : Nat) (h : i * 2 + 2 ≤ xs.length) : ∃ a b, xs.drop (i * 2) = a :: b :: xs.drop ((i + 1) * 2) := by
  refine ⟨xs[i * 2], xs[i * 2 + 1], ?_⟩
  rw [List.drop_eq_getElem_cons (by omega), List.drop_eq_getElem_cons (by omega), show i * 2 + 1 + 1 = (i + 1) * 2 from by omega]
theorem drop1 (xs : List Value) (i : Nat) (h : i + 1 ≤ xs.length) : ∃ a, xs.drop i = a :: xs.drop (i + 1) := ⟨xs[i], List.drop_eq_getElem_cons (by omega)⟩
theorem size_set (w : World) (a : Addr) (v : Value) : (w.setCell a v).heap.size = w.heap.size := by simp
theorem set2_0 (P R : List Value) (a b v : Value) (k : Nat) (h : P.length = k) : (P ++ a :: b :: R).set k v = P ++ v :: b :: R := by
  subst h; simp
theorem set2_1 (P R : List Value) (a b v : Value) (k : Nat) (h : P.length = k) : (P ++ a :: b :: R).set (k + 1) v = P ++ a :: v :: R := by
  subst h; simp
theorem set1_0 (P R : List Value) (a v : Value) (k : Nat) (h : P.length = k) : (P ++ a :: R).set k v = P ++ v :: R := by
  subst h; simp
theorem Try.infoFl : (Try.prog.info? 38).map (fun i => (i.zero, i.size, i.bytes)) = some (some (.agg #[.string ⟨#[]⟩, .string ⟨#[]⟩]), 2, 32) := by kernel_rfl
theorem Try.infoStr : (Try.prog.info? 9).map (fun i => (i.zero, i.size, i.bytes)) = some (some (.string ⟨#[]⟩), 1, 16) := by kernel_rfl

set_option maxRecDepth 100000 in
set_option maxHeartbeats 1000000 in
theorem toF_some (l : List Fl) (g o c : Nat) (w : World) (hl : l.length ≤ 1048576) (ht : FilesO w g o l) :
    Calls Try.prog 13 #[.slice (some ⟨g, o, none⟩) l.length c] w fun e w' => e = .returned (.slice (some ⟨w.heap.size, 0, none⟩) l.length l.length) ∧ FilesO w' w.heap.size 0 l ∧ Below w.heap.size w w' := by
  obtain ⟨iN, hN, hNz, hNs, hNb⟩ := info_parts Try.infoFl
  have HT := hide ht
  clear ht
  go_enter Try.func13, Try.ntmps13
  go_wp2_with (at_make; refine wpList_make_full _ rfl _ _ 28 rfl w.heap.size 38 iN _ 2 Try.underlying28 hN hNz hNs _ _ _ _ l.length rfl rfl rfl rfl (by rw [hNb]; omega) (by unfold maxLen; omega) (Nat.le_refl _) ?_)
  intro w1 hown hgrow
  have hb1 : Below w.heap.size w w1 := (Below.refl _ _).grown hgrow (Nat.le_refl _) (fun q e => by cases e)
  have hz1 : w.heap.size < w1.heap.size := (hown.lt _ rfl).2
  replace hown : ∃ xs, w1.ownsRow w.heap.size 38 2 (.slice (some ⟨w.heap.size, 0, none⟩) l.length l.length) l.length xs := ⟨_, hown⟩
  obtain ⟨xs, hown⟩ := hown
  have hxl : xs.length = l.length * 2 := hown.1
  have HO := hide hown
  clear hown hgrow
  go_wp2
  go_loopw [4] (fun t wr => ∃ i : Nat, i ≤ l.length ∧ t = .int .i64 i ∧ wr.ownsRow w.heap.size 38 2 (.slice (some ⟨w.heap.size, 0, none⟩) l.length l.length) l.length (cellsF (l.take i) ++ xs.drop (i * 2)) ∧ Below w.heap.size w wr ∧ w.heap.size < wr.heap.size) (fun t _ => l.length - (intOf t).toNat)
  case atStart => exact ⟨0, Nat.zero_le _, rfl, by simpa [cellsF] using HO.out, hb1, hz1⟩
  case round =>
    obtain ⟨i, hi, rfl, ho, hB, hsz⟩ := hrel
    by_cases hlt : i < l.length
    · obtain ⟨c0, c1⟩ := (HT.out.below hB).2 i hlt
      have htk : cellsF (l.take (i + 1)) = cellsF (l.take i) ++ l[i].cells := by unfold cellsF; rw [List.take_succ_eq_append_getElem hlt, List.flatMap_append, List.flatMap_cons, List.flatMap_nil, List.append_nil]
      have hml : (cellsF (l.take i)).length = i * 2 := by rw [cellsF_len, List.length_take]; congr 1; omega
      obtain ⟨a0, a1, hd5⟩ := drop2 xs i (by omega)
      rw [hd5] at ho
      have HTK := hide htk
      have HO2 := hide ho
      have HTN := hide (toFile_any l[i].name l[i].text wr)
      have hcell : l[i].cells = [.string l[i].name, .string l[i].text] := rfl
      rw [hcell] at HTK
      clear hd5 ho htk hcell
      generalize l[i] = d at *
      go_wp2_with fail
      refine HTN.out.mono ?_
      rintro e w2 ⟨rfl, hb2⟩
      have ho2 : w2.ownsRow w.heap.size 38 2 (.slice (some ⟨w.heap.size, 0, none⟩) l.length l.length) l.length (cellsF (l.take i) ++ a0 :: a1 :: xs.drop ((i + 1) * 2)) := by
        have hg : wr.grownBy w2 none := ⟨hb2.os, hb2.tape, hb2.output, hb2.size, fun k hk _ => hb2.block k hk⟩
        exact HO2.out.kept hg (.inr (by simp [Value.ownBlock]))
      have hB2 := hB.trans (hb2.mono hB.size)
      have hsz2 : w.heap.size < w2.heap.size := Nat.lt_of_lt_of_le hsz hb2.size
      have q : ∀ j v, (a0 :: a1 :: xs.drop ((i + 1) * 2))[j]? = some v → j < 2 → w2.cell? ⟨w.heap.size, i * 2 + j, none⟩ = some v := by
        intro j v hv hj
        rw [ho2.cellAt (i * 2 + j) (by omega), List.getElem?_append_right (by omega), hml, show i * 2 + j - i * 2 = j from by omega]; exact hv
      have q0 := q 0 a0 rfl (by omega)
      have q1 := q 1 a1 rfl (by omega)
      rw [Nat.add_zero] at q0
      have z0 := ho2.frozenAt (i * 2)
      have z1 := ho2.frozenAt (i * 2 + 1)
      have HO3 := hide ho2
      clear ho2 q c0 c1
      go_wp2
      go_roundw
      case rel =>
        have t0 := (HO3.out.stored (i * 2) (.string d.name)).1
        rw [set2_0 _ _ _ _ _ _ hml] at t0
        have t1 := (t0.stored (i * 2 + 1) (.string d.text)).1
        rw [set2_1 _ _ _ _ _ _ hml] at t1
        refine ⟨i + 1, by omega, by go_num, ?_, (hB2.setCell (p := ⟨w.heap.size, i * 2, none⟩) (Nat.le_refl _) _).setCell (p := ⟨w.heap.size, i * 2 + 1, none⟩) (Nat.le_refl _) _, by simp only [size_set]; exact hsz2⟩
        rw [HTK.out, List.append_assoc]
        exact t1
      case measure => simp [intOf]; omega
    · go_wp2
      go_ret
      obtain rfl : i = l.length := by omega
      rw [List.take_length, List.drop_of_length_le (by omega), List.append_nil] at ho
      exact ⟨rfl, files_of_row ho, hB⟩

set_option maxRecDepth 100000 in
set_option maxHeartbeats 1000000 in
theorem toF_nil (p : Option Addr) (c : Nat) (w : World) :
    Calls Try.prog 13 #[.slice p 0 c] w fun e w' => e = .returned (.slice (some ⟨w.heap.size, 0, none⟩) 0 0) ∧ FilesO w' w.heap.size 0 [] ∧ Below w.heap.size w w' := by
  obtain ⟨iN, hN, hNz, hNs, hNb⟩ := info_parts Try.infoFl
  go_enter Try.func13, Try.ntmps13
  go_wp2_with (at_make; refine wpList_make_full _ rfl _ _ 28 rfl w.heap.size 38 iN _ 2 Try.underlying28 hN hNz hNs _ _ _ _ 0 rfl rfl rfl rfl (by omega) (by unfold maxLen; omega) (Nat.le_refl _) ?_)
  intro w1 hown hgrow
  have hb1 : Below w.heap.size w w1 := (Below.refl _ _).grown hgrow (Nat.le_refl _) (fun q e => by cases e)
  have hz1 : w.heap.size < w1.heap.size := (hown.lt _ rfl).2
  clear hown hgrow
  go_wp2
  go_loopw [4] (fun t wr => t = .int .i64 0 ∧ wr = w1) (fun _ _ => 0)
  case atStart => exact ⟨rfl, rfl⟩
  case round =>
    obtain ⟨rfl, rfl⟩ := hrel
    go_wp2
    go_ret
    exact ⟨rfl, ⟨hz1, fun i h => absurd h (Nat.not_lt_zero _)⟩, hb1⟩
theorem toF_any (l : List Fl) (v : Value) (w : World) (hl : l.length ≤ 1048576) (ht : FilesV w v l) :
    Calls Try.prog 13 #[v] w fun e w' => e = .returned (.slice (some ⟨w.heap.size, 0, none⟩) l.length l.length) ∧ FilesO w' w.heap.size 0 l ∧ Below w.heap.size w w' := by
  rcases ht with ⟨p, c, rfl, rfl⟩ | ⟨g, o, c, rfl, h⟩
  · exact toF_nil p c w
  · exact toF_some l g o c w hl h

set_option maxRecDepth 100000 in
set_option maxHeartbeats 1000000 in
theorem toT_some (l : List ByteArray) (g o c : Nat) (w : World) (hl : l.length ≤ 1048576) (ht : StrsO w g o l) :
    Calls Try.prog 14 #[.slice (some ⟨g, o, none⟩) l.length c] w fun e w' => e = .returned (.slice (some ⟨w.heap.size, 0, none⟩) l.length l.length) ∧ StrsO w' w.heap.size 0 l ∧ Below w.heap.size w w' := by
  obtain ⟨iN, hN, hNz, hNs, hNb⟩ := info_parts Try.infoStr
  have HT := hide ht
  clear ht
  go_enter Try.func14, Try.ntmps14
  go_wp2_with (at_make; refine wpList_make_full _ rfl _ _ 23 rfl w.heap.size 9 iN _ 1 Try.underlying23 hN hNz hNs _ _ _ _ l.length rfl rfl rfl rfl (by rw [hNb]; omega) (by unfold maxLen; omega) (Nat.le_refl _) ?_)
  intro w1 hown hgrow
  have hb1 : Below w.heap.size w w1 := (Below.refl _ _).grown hgrow (Nat.le_refl _) (fun q e => by cases e)
  have hz1 : w.heap.size < w1.heap.size := (hown.lt _ rfl).2
  replace hown : ∃ xs, w1.ownsRow w.heap.size 9 1 (.slice (some ⟨w.heap.size, 0, none⟩) l.length l.length) l.length xs := ⟨_, hown⟩
  obtain ⟨xs, hown⟩ := hown
  have hxl : xs.length = l.length * 1 := hown.1
  have HO := hide hown
  clear hown hgrow
  go_wp2
  go_loopw [4] (fun t wr => ∃ i : Nat, i ≤ l.length ∧ t = .int .i64 i ∧ wr.ownsRow w.heap.size 9 1 (.slice (some ⟨w.heap.size, 0, none⟩) l.length l.length) l.length (cellsT (l.take i) ++ xs.drop i) ∧ Below w.heap.size w wr ∧ w.heap.size < wr.heap.size) (fun t _ => l.length - (intOf t).toNat)
  case atStart => exact ⟨0, Nat.zero_le _, rfl, by simpa [cellsT] using HO.out, hb1, hz1⟩
  case round =>
    obtain ⟨i, hi, rfl, ho, hB, hsz⟩ := hrel
    by_cases hlt : i < l.length
    · have c0 := (HT.out.below hB).2 i hlt
      have htk : cellsT (l.take (i + 1)) = cellsT (l.take i) ++ [.string l[i]] := by unfold cellsT; rw [List.take_succ_eq_append_getElem hlt, List.map_append]; rfl
      have hml : (cellsT (l.take i)).length = i := by simp [cellsT]; omega
      obtain ⟨a0, hd5⟩ := drop1 xs i (by omega)
      rw [hd5] at ho
      have HTK := hide htk
      have q0 : wr.cell? ⟨w.heap.size, i, none⟩ = some a0 := by
        rw [ho.cellAt i (by omega), List.getElem?_append_right (by omega), hml, Nat.sub_self]; rfl
      have z0 := ho.frozenAt i
      have HO3 := hide ho
      clear hd5 ho htk
      generalize l[i] = d at *
      go_wp2
      go_roundw
      case rel =>
        have t0 := (HO3.out.stored i (.string d)).1
        rw [set1_0 _ _ _ _ _ hml] at t0
        refine ⟨i + 1, by omega, by go_num, ?_, hB.setCell (p := ⟨w.heap.size, i, none⟩) (Nat.le_refl _) _, by simp only [size_set]; exact hsz⟩
        rw [HTK.out, List.append_assoc]
        exact t0
      case measure => simp [intOf]; omega
    · go_wp2
      go_ret
      obtain rfl : i = l.length := by omega
      rw [List.take_length, List.drop_of_length_le (by omega), List.append_nil] at ho
      exact ⟨rfl, strs_of_row ho, hB⟩

set_option maxRecDepth 100000 in
set_option maxHeartbeats 1000000 in
theorem toT_nil (p : Option Addr) (c : Nat) (w : World) :
    Calls Try.prog 14 #[.slice p 0 c] w fun e w' => e = .returned (.slice (some ⟨w.heap.size, 0, none⟩) 0 0) ∧ StrsO w' w.heap.size 0 [] ∧ Below w.heap.size w w' := by
  obtain ⟨iN, hN, hNz, hNs, hNb⟩ := info_parts Try.infoStr
  go_enter Try.func14, Try.ntmps14
  go_wp2_with (at_make; refine wpList_make_full _ rfl _ _ 23 rfl w.heap.size 9 iN _ 1 Try.underlying23 hN hNz hNs _ _ _ _ 0 rfl rfl rfl rfl (by omega) (by unfold maxLen; omega) (Nat.le_refl _) ?_)
  intro w1 hown hgrow
  have hb1 : Below w.heap.size w w1 := (Below.refl _ _).grown hgrow (Nat.le_refl _) (fun q e => by cases e)
  have hz1 : w.heap.size < w1.heap.size := (hown.lt _ rfl).2
  clear hown hgrow
  go_wp2
  go_loopw [4] (fun t wr => t = .int .i64 0 ∧ wr = w1) (fun _ _ => 0)
  case atStart => exact ⟨rfl, rfl⟩
  case round =>
    obtain ⟨rfl, rfl⟩ := hrel
    go_wp2
    go_ret
    exact ⟨rfl, ⟨hz1, fun i h => absurd h (Nat.not_lt_zero _)⟩, hb1⟩
theorem toT_any (l : List ByteArray) (v : Value) (w : World) (hl : l.length ≤ 1048576) (ht : StrsV w v l) :
    Calls Try.prog 14 #[v] w fun e w' => e = .returned (.slice (some ⟨w.heap.size, 0, none⟩) l.length l.length) ∧ StrsO w' w.heap.size 0 l ∧ Below w.heap.size w w' := by
  rcases ht with ⟨p, c, rfl, rfl⟩ | ⟨g, o, c, rfl, h⟩
  · exact toT_nil p c w
  · exact toT_some l g o c w hl h

set_option maxRecDepth 100000 in
set_option maxHeartbeats 1000000 in
theorem eqF_same (l : List Fl) (ga gb ca cb : Nat) (w : World) (hl : l.length ≤ 1048576) (ha : FilesO w ga 0 l) (hb : FilesO w gb 0 l) :
    Calls Try.prog 16 #[.slice (some ⟨ga, 0, none⟩) l.length ca, .slice (some ⟨gb, 0, none⟩) l.length cb] w fun e w' => e = .returned (.bool true) ∧ Below w.heap.size w w' := by
  have HA := hide ha
  have HB := hide hb
  clear ha hb
  go_enter Try.func16, Try.ntmps16
  go_wp2
  go_loopw [5] (fun t wr => ∃ i : Nat, i ≤ l.length ∧ t = .int .i64 i ∧ Below w.heap.size w wr) (fun t _ => l.length - (intOf t).toNat)
  case atStart => exact ⟨0, Nat.zero_le _, rfl, Below.refl _ _⟩
  case round =>
    obtain ⟨i, hi, rfl, hB⟩ := hrel
    by_cases hlt : i < l.length
    · obtain ⟨a0, a1⟩ := (HA.out.below hB).2 i hlt
      obtain ⟨b0, b1⟩ := (HB.out.below hB).2 i hlt
      simp only [Nat.zero_add] at a0 a1 b0 b1
      generalize l[i] = x at *
      go_wp2
      go_region_with (go_at_call 23; refine (eqFile_same _ _ _).mono ?_; rintro e w1 ⟨rfl, hb1⟩)
      all_goals go_wp2
      all_goals
        have hfin : Below w.heap.size w w1 := by first | exact hB.trans (hb1.mono hB.size) | exact hB.drew.trans (hb1.mono hB.size) | exact hB.drew.drew.trans (hb1.mono hB.size)
        go_roundw
        case rel => exact ⟨i + 1, by omega, by go_num, hfin⟩
        case measure => simp [intOf]; omega
    · go_wp2
      go_ret
      exact ⟨rfl, hB⟩

set_option maxRecDepth 100000 in
set_option maxHeartbeats 1000000 in
theorem eqT_same (l : List ByteArray) (ga gb ca cb : Nat) (w : World) (hl : l.length ≤ 1048576) (ha : StrsO w ga 0 l) (hb : StrsO w gb 0 l) :
    Calls Try.prog 17 #[.slice (some ⟨ga, 0, none⟩) l.length ca, .slice (some ⟨gb, 0, none⟩) l.length cb] w fun e w' => e = .returned (.bool true) ∧ Below w.heap.size w w' := by
  have HA := hide ha
  have HB := hide hb
  clear ha hb
  go_enter Try.func17, Try.ntmps17
  go_wp2
  go_loopw [5] (fun t wr => ∃ i : Nat, i ≤ l.length ∧ t = .int .i64 i ∧ Below w.heap.size w wr) (fun t _ => l.length - (intOf t).toNat)
  case atStart => exact ⟨0, Nat.zero_le _, rfl, Below.refl _ _⟩
  case round =>
    obtain ⟨i, hi, rfl, hB⟩ := hrel
    by_cases hlt : i < l.length
    · have a0 := (HA.out.below hB).2 i hlt
      have b0 := (HB.out.below hB).2 i hlt
      simp only [Nat.zero_add] at a0 b0
      generalize l[i] = x at *
      go_wp2
      go_quiet (fail)
      go_wp2
      all_goals
        go_roundw
        case rel => exact ⟨i + 1, by omega, by go_num, by first | exact hB | exact hB.drew | exact below_drewN hB _⟩
        case measure => simp [intOf]; omega
    · go_wp2
      go_ret
      exact ⟨rfl, hB⟩

set_option maxRecDepth 100000 in
set_option maxHeartbeats 1000000 in
theorem eqWorld_same (fs : List Fl) (ns : List ByteArray) (ga gb na nb ca cb da db : Nat) (w : World) (hf : fs.length ≤ 1048576) (hn : ns.length ≤ 1048576) (ha : FilesO w ga 0 fs) (hb : FilesO w gb 0 fs) (hna : StrsO w na 0 ns) (hnb : StrsO w nb 0 ns) :
    Calls Try.prog 8 #[.agg #[.slice (some ⟨ga, 0, none⟩) fs.length ca, .slice (some ⟨na, 0, none⟩) ns.length da], .agg #[.slice (some ⟨gb, 0, none⟩) fs.length cb, .slice (some ⟨nb, 0, none⟩) ns.length db]] w fun e w' => e = .returned (.bool true) ∧ Below w.heap.size w w' := by
  have HF := hide (fun w' (hq : Below w.heap.size w w') => eqF_same fs ga gb ca cb w' hf (ha.below hq) (hb.below hq))
  have HN := hide (fun w' (hq : Below w.heap.size w w') => eqT_same ns na nb da db w' hn (hna.below hq) (hnb.below hq))
  clear ha hb hna hnb
  go_enter Try.func8, Try.ntmps8
  go_wp2_with fail
  have hq : Below w.heap.size w ((w.alloc (.cells #[.slice (some ⟨ga, 0, none⟩) fs.length ca, .slice (some ⟨na, 0, none⟩) ns.length da] 30)).alloc (.cells #[.slice (some ⟨gb, 0, none⟩) fs.length cb, .slice (some ⟨nb, 0, none⟩) ns.length db] 30)) := ((Below.refl _ _).alloc (Nat.le_refl _) _).alloc (by simp) _
  refine (HF.out _ hq).mono ?_
  rintro e w1 ⟨rfl, hb1⟩
  have k2 : Below (w.alloc (.cells #[.slice (some ⟨ga, 0, none⟩) fs.length ca, .slice (some ⟨na, 0, none⟩) ns.length da] 30)).heap.size (w.alloc (.cells #[.slice (some ⟨ga, 0, none⟩) fs.length ca, .slice (some ⟨na, 0, none⟩) ns.length da] 30)) ((w.alloc (.cells #[.slice (some ⟨ga, 0, none⟩) fs.length ca, .slice (some ⟨na, 0, none⟩) ns.length da] 30)).alloc (.cells #[.slice (some ⟨gb, 0, none⟩) fs.length cb, .slice (some ⟨nb, 0, none⟩) ns.length db] 30)) := (Below.refl _ _).alloc (Nat.le_refl _) _
  have c1 : w1.cell? ⟨w.heap.size, 1, none⟩ = some (.slice (some ⟨na, 0, none⟩) ns.length da) := (hb1.cell (p := ⟨w.heap.size, 1, none⟩) (by simp; omega)).trans ((k2.cell (p := ⟨w.heap.size, 1, none⟩) (by simp)).trans (by simp))
  have c2 : w1.cell? ⟨w.heap.size + 1, 1, none⟩ = some (.slice (some ⟨nb, 0, none⟩) ns.length db) := (hb1.cell (p := ⟨w.heap.size + 1, 1, none⟩) (by simp)).trans (by simp)
  have B1 := hq.trans (hb1.mono hq.size)
  clear hb1 hq k2
  go_wp2_with fail
  refine (HN.out _ B1).mono ?_
  rintro e w2 ⟨rfl, hb2⟩
  go_wp2
  go_ret
  exact ⟨rfl, B1.trans (hb2.mono B1.size)⟩
end Go.Proofs.Ythlddankekghbaa.Wd
