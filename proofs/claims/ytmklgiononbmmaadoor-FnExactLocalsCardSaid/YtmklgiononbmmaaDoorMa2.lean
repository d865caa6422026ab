/- Ma, Mb. -/
import Derived.Test.YtmklgiononbmmaaDoorJl
import Derived.Test.YtmklgiononbmmaaDoorKd
namespace Go.Proofs.YtmklgiononbmmaaDoor
open Go.RowKit

/-- Nodes in a row of one's own. -/
def OwnN (w : World) (base g : Nat) (l : List Tr.Nd) : Prop := w.ownsRow base 61 5 (.slice (some ⟨g, 0, none⟩) l.length l.length) l.length (Tr.cellsOf l)
theorem OwnN.nodes {w : World} {base g : Nat} {l : List Tr.Nd} (h : OwnN w base g l) : NodesAt w g l := nodes_of_row h

set_option maxRecDepth 100000 in
set_option maxHeartbeats 1000000 in
theorem toSO_some (l : List Tr.Nd) (g o c : Nat) (w : World) (hl : l.length ≤ 1048576) (ht : NodesO w g o l) :
    Calls Tryd.prog 27 #[.slice (some ⟨g, o, none⟩) l.length c] w fun e w' => e = .returned (.slice (some ⟨w.heap.size, 0, none⟩) l.length l.length) ∧ OwnN w' w.heap.size w.heap.size l ∧ Below w.heap.size w w' := by
  obtain ⟨iN, hN, hNz, hNs, hNb⟩ := info_parts Tryd.infoNd
  have HT := hide ht
  clear ht
  go_enter Tryd.func27, Tryd.ntmps27
  go_wp2_with (at_make; refine wpList_make_full _ rfl _ _ 29 rfl w.heap.size 61 iN _ 5 Tryd.underlying29 hN hNz hNs _ _ _ _ l.length rfl rfl rfl rfl (by rw [hNb]; omega) (by unfold maxLen; omega) (Nat.le_refl _) ?_)
  intro w1 hown hgrow
  have hb1 : Below w.heap.size w w1 := (Below.refl _ _).grown hgrow (Nat.le_refl _) (fun q e => by cases e)
  have hz1 : w.heap.size < w1.heap.size := (hown.lt _ rfl).2
  replace hown : ∃ xs, w1.ownsRow w.heap.size 61 5 (.slice (some ⟨w.heap.size, 0, none⟩) l.length l.length) l.length xs := ⟨_, hown⟩
  obtain ⟨xs, hown⟩ := hown
  have hxl : xs.length = l.length * 5 := hown.1
  have HO := hide hown
  clear hown hgrow
  go_wp2
  go_loopw [4] (fun t wr => ∃ i : Nat, i ≤ l.length ∧ t = .int .i64 i ∧ wr.ownsRow w.heap.size 61 5 (.slice (some ⟨w.heap.size, 0, none⟩) l.length l.length) l.length (Tr.cellsOf (l.take i) ++ xs.drop (i * 5)) ∧ Below w.heap.size w wr ∧ w.heap.size < wr.heap.size) (fun t _ => l.length - (intOf t).toNat)
  case atStart => exact ⟨0, Nat.zero_le _, rfl, by simpa [Tr.cellsOf] using HO.out, hb1, hz1⟩
  case round =>
    obtain ⟨i, hi, rfl, ho, hB, hsz⟩ := hrel
    by_cases hlt : i < l.length
    · obtain ⟨c0, c1, c2, c3, c4⟩ := (HT.out.below hB).2 i hlt
      have htk : Tr.cellsOf (l.take (i + 1)) = Tr.cellsOf (l.take i) ++ l[i].cells := by unfold Tr.cellsOf; rw [List.take_succ_eq_append_getElem hlt, List.flatMap_append, List.flatMap_cons, List.flatMap_nil, List.append_nil]
      have hml : (Tr.cellsOf (l.take i)).length = i * 5 := by rw [Tr.cellsOf_len, List.length_take]; congr 1; omega
      obtain ⟨a0, a1, a2, a3, a4, hd5⟩ := drop5 xs i (by omega)
      rw [hd5] at ho
      have HTK := hide htk
      have HO2 := hide ho
      have HTN := hide (toNode_any l[i].kind l[i].op l[i].n l[i].kids l[i].text wr)
      have hcell : l[i].cells = [.int .i64 l[i].kind, .int .i64 l[i].op, .int .i64 l[i].n, .string l[i].text, .int .i64 l[i].kids] := rfl
      rw [hcell] at HTK
      clear hd5 ho htk hcell
      generalize l[i] = d at *
      go_wp2_with fail
      refine HTN.out.mono ?_
      rintro e w2 ⟨rfl, hb2⟩
      have ho2 : w2.ownsRow w.heap.size 61 5 (.slice (some ⟨w.heap.size, 0, none⟩) l.length l.length) l.length (Tr.cellsOf (l.take i) ++ a0 :: a1 :: a2 :: a3 :: a4 :: xs.drop ((i + 1) * 5)) := by
        have hg : wr.grownBy w2 none := ⟨hb2.os, hb2.tape, hb2.output, hb2.size, fun k hk _ => hb2.block k hk⟩
        exact HO2.out.kept hg (.inr (by simp [Value.ownBlock]))
      have hB2 := hB.trans (hb2.mono hB.size)
      have hsz2 : w.heap.size < w2.heap.size := Nat.lt_of_lt_of_le hsz hb2.size
      have q : ∀ j v, (a0 :: a1 :: a2 :: a3 :: a4 :: xs.drop ((i + 1) * 5))[j]? = some v → j < 5 → w2.cell? ⟨w.heap.size, i * 5 + j, none⟩ = some v := by
        intro j v hv hj
        rw [ho2.cellAt (i * 5 + j) (by omega), List.getElem?_append_right (by omega), hml, show i * 5 + j - i * 5 = j from by omega]; exact hv
      have q0 := q 0 a0 rfl (by omega)
      have q1 := q 1 a1 rfl (by omega)
      have q2 := q 2 a2 rfl (by omega)
      have q3 := q 3 a3 rfl (by omega)
      have q4 := q 4 a4 rfl (by omega)
      rw [Nat.add_zero] at q0
      have z0 := ho2.frozenAt (i * 5)
      have z1 := ho2.frozenAt (i * 5 + 1)
      have z2 := ho2.frozenAt (i * 5 + 2)
      have z3 := ho2.frozenAt (i * 5 + 3)
      have z4 := ho2.frozenAt (i * 5 + 4)
      have HO3 := hide ho2
      clear ho2 q c0 c1 c2 c3 c4
      go_wp2
      go_roundw
      case rel =>
        have t0 := (HO3.out.stored (i * 5) (.int .i64 d.kind)).1
        rw [set5_0 _ _ _ _ _ _ _ _ _ hml] at t0
        have t1 := (t0.stored (i * 5 + 1) (.int .i64 d.op)).1
        rw [set5_1 _ _ _ _ _ _ _ _ _ hml] at t1
        have t2 := (t1.stored (i * 5 + 2) (.int .i64 d.n)).1
        rw [set5_2 _ _ _ _ _ _ _ _ _ hml] at t2
        have t3 := (t2.stored (i * 5 + 3) (.string d.text)).1
        rw [set5_3 _ _ _ _ _ _ _ _ _ hml] at t3
        have t4 := (t3.stored (i * 5 + 4) (.int .i64 d.kids)).1
        rw [set5_4 _ _ _ _ _ _ _ _ _ hml] at t4
        refine ⟨i + 1, by omega, by go_num, ?_, ((((hB2.setCell (p := ⟨w.heap.size, i * 5, none⟩) (Nat.le_refl _) _).setCell (p := ⟨w.heap.size, i * 5 + 1, none⟩) (Nat.le_refl _) _).setCell (p := ⟨w.heap.size, i * 5 + 2, none⟩) (Nat.le_refl _) _).setCell (p := ⟨w.heap.size, i * 5 + 3, none⟩) (Nat.le_refl _) _).setCell (p := ⟨w.heap.size, i * 5 + 4, none⟩) (Nat.le_refl _) _, by simp only [size_set5]; exact hsz2⟩
        rw [HTK.out, List.append_assoc]
        exact t4
      case measure => simp [intOf]; omega
    · go_wp2
      go_ret
      obtain rfl : i = l.length := by omega
      rw [List.take_length, List.drop_of_length_le (by omega), List.append_nil] at ho
      exact ⟨rfl, ho, hB⟩

set_option maxRecDepth 100000 in
set_option maxHeartbeats 1000000 in
theorem toSO_nil (p : Option Addr) (c : Nat) (w : World) :
    Calls Tryd.prog 27 #[.slice p 0 c] w fun e w' => e = .returned (.slice (some ⟨w.heap.size, 0, none⟩) 0 0) ∧ OwnN w' w.heap.size w.heap.size [] ∧ Below w.heap.size w w' := by
  obtain ⟨iN, hN, hNz, hNs, hNb⟩ := info_parts Tryd.infoNd
  go_enter Tryd.func27, Tryd.ntmps27
  go_wp2_with (at_make; refine wpList_make_full _ rfl _ _ 29 rfl w.heap.size 61 iN _ 5 Tryd.underlying29 hN hNz hNs _ _ _ _ 0 rfl rfl rfl rfl (by omega) (by unfold maxLen; omega) (Nat.le_refl _) ?_)
  intro w1 hown hgrow
  have hb1 : Below w.heap.size w w1 := (Below.refl _ _).grown hgrow (Nat.le_refl _) (fun q e => by cases e)
  have HW := hide (Exists.intro _ hown)
  clear hown hgrow
  go_wp2
  go_loopw [4] (fun t wr => t = .int .i64 0 ∧ wr = w1) (fun _ _ => 0)
  case atStart => exact ⟨rfl, rfl⟩
  case round =>
    obtain ⟨rfl, rfl⟩ := hrel
    go_wp2
    go_ret
    obtain ⟨xs, hxs⟩ := HW.out
    have hx0 : xs = [] := List.eq_nil_of_length_eq_zero (by have := hxs.1; omega)
    subst hx0
    exact ⟨rfl, hxs, hb1⟩
theorem toSO_any (l : List Tr.Nd) (v : Value) (w : World) (hl : l.length ≤ 1048576) (ht : NodesV w v l) :
    Calls Tryd.prog 27 #[v] w fun e w' => e = .returned (.slice (some ⟨w.heap.size, 0, none⟩) l.length l.length) ∧ OwnN w' w.heap.size w.heap.size l ∧ Below w.heap.size w w' := by
  rcases ht with ⟨p, c, rfl, rfl⟩ | ⟨g, o, c, rfl, h⟩
  · exact toSO_nil p c w
  · exact toSO_some l g o c w hl h

set_option maxRecDepth 100000 in
set_option maxHeartbeats 1000000 in
theorem toTreeO_any (l : List Tr.Nd) (v : Value) (w : World) (hl : l.length ≤ 1048576) (ht : NodesV w v l) :
    Calls Tryd.prog 9 #[.agg #[v]] w fun e w' => ∃ g, e = .returned (.agg #[.slice (some ⟨g, 0, none⟩) l.length l.length]) ∧ OwnN w' w.heap.size g l ∧ w.heap.size ≤ g ∧ Below w.heap.size w w' := by
  have HS := hide (fun w' (hb : Below w.heap.size w w') => toSO_any l v w' hl (ht.below hb))
  clear ht
  go_enter Tryd.func9, Tryd.ntmps9
  go_wp2_with fail
  have hq : Below w.heap.size w (((w.alloc (.cells #[v] 24)).alloc (.cells #[.slice none 0 0] 31)).alloc (.cells #[.slice none 0 0] 31)) := (((Below.refl _ _).alloc (Nat.le_refl _) _).alloc (by simp) _).alloc (by simp; omega) _
  refine (HS.out _ hq).mono ?_
  rintro e w1 ⟨rfl, hN, hb1⟩
  simp only [World.size_alloc] at hN hb1 ⊢
  have hn2 := cell_new ((w.alloc (.cells #[v] 24)).alloc (.cells #[.slice none 0 0] 31)) (.slice none 0 0) 31
  have hn1 := cell_new (w.alloc (.cells #[v] 24)) (.slice none 0 0) 31
  have hk1 := ((Below.refl ((w.alloc (.cells #[v] 24)).alloc (.cells #[.slice none 0 0] 31)).heap.size ((w.alloc (.cells #[v] 24)).alloc (.cells #[.slice none 0 0] 31))).alloc (Nat.le_refl _) (.cells #[.slice none 0 0] 31))
  simp only [World.size_alloc] at hn2 hn1 hk1
  have hx : w1.cell? ⟨w.heap.size + 1 + 1, 0, none⟩ = some (.slice none 0 0) := (hb1.cell (p := ⟨w.heap.size + 1 + 1, 0, none⟩) (Nat.lt_succ_self _)).trans hn2.1
  have hy : w1.cell? ⟨w.heap.size + 1, 0, none⟩ = some (.slice none 0 0) := (hb1.cell (p := ⟨w.heap.size + 1, 0, none⟩) (Nat.lt_succ_of_lt (Nat.lt_succ_self _))).trans ((hk1.cell (p := ⟨w.heap.size + 1, 0, none⟩) (Nat.lt_succ_self _)).trans hn1.1)
  have fx : w1.frozen? ⟨w.heap.size + 1 + 1, 0, none⟩ = false := (hb1.frozen (p := ⟨w.heap.size + 1 + 1, 0, none⟩) (Nat.lt_succ_self _)).trans hn2.2
  have fy : w1.frozen? ⟨w.heap.size + 1, 0, none⟩ = false := (hb1.frozen (p := ⟨w.heap.size + 1, 0, none⟩) (Nat.lt_succ_of_lt (Nat.lt_succ_self _))).trans ((hk1.frozen (p := ⟨w.heap.size + 1, 0, none⟩) (Nat.lt_succ_self _)).trans hn1.2)
  have hB1 : Below w.heap.size w w1 := hq.trans (by have := hb1.mono (show w.heap.size ≤ w.heap.size + 1 + 1 + 1 by omega); exact this)
  clear hb1 hq
  go_wp2
  refine bodyPost_ret (v := .agg #[.slice (some ⟨w.heap.size + 1 + 1 + 1, 0, none⟩) l.length l.length]) (by simp [results, Tryd.results9, go_sem, hy]) rfl ⟨_, rfl, ?_, by omega, ?_⟩
  · exact row_mono (row_same (row_same hN (Below.heap_setCell _ _ _ _ (show w.heap.size + 1 + 1 + 1 ≠ w.heap.size + 1 + 1 by omega))) (Below.heap_setCell _ _ _ _ (show w.heap.size + 1 + 1 + 1 ≠ w.heap.size + 1 by omega))) (by omega)
  · exact (hB1.setCell (p := ⟨w.heap.size + 1 + 1, 0, none⟩) (by simp; omega) _).setCell (p := ⟨w.heap.size + 1, 0, none⟩) (by simp) _


namespace Sc
def dg (k : Nat) : UInt8 := UInt8.ofNat (48 + k % 10)
/-- The decimal digits of k ahead of o. -/
def fin : Nat → Nat → List UInt8 → List UInt8
  | 0, _, o => o
  | f + 1, k, o => if k = 0 then o else fin f (k / 10) (dg k :: o)
theorem fin_fuel : ∀ (f g k : Nat) (o : List UInt8), k < f → k < g → fin f k o = fin g k o
  | 0, _, _, _, h, _ => by omega
  | _ + 1, 0, _, _, _, h => by omega
  | f + 1, g + 1, k, o, hf, hg => by
    unfold fin
    by_cases h : k = 0
    · rw [if_pos h, if_pos h]
    · rw [if_neg h, if_neg h]
      exact fin_fuel f g (k / 10) _ (by omega) (by omega)
theorem fin_step (k : Nat) (o : List UInt8) (h : k ≠ 0) : fin (k + 1) k o = fin (k / 10 + 1) (k / 10) (dg k :: o) := by
  conv => lhs; unfold fin
  rw [if_neg h]
  exact fin_fuel _ _ _ _ (by omega) (by omega)
def mt (k : Nat) : List UInt8 := 109 :: fin (k + 1) k []
end Sc

theorem str1 (j : Nat) : strOfNums [48 + (j : Int) % 10] = ⟨#[Sc.dg j]⟩ := by
  have e : (48 + (j : Int) % 10).toNat = 48 + j % 10 := by omega
  simp [strOfNums, e, Sc.dg]
theorem str_cons (c : UInt8) (o : List UInt8) : (⟨#[c]⟩ : ByteArray) ++ ⟨o.toArray⟩ = ⟨(c :: o).toArray⟩ := by
  rw [← Lib.mk_data (⟨#[c]⟩ ++ ⟨o.toArray⟩)]
  congr 2

set_option maxRecDepth 100000 in
set_option maxHeartbeats 1000000 in
theorem markText_any (k : Nat) (a : Int) (w : World) (h1 : 1 ≤ k) (hk : k ≤ 10000000) (ha : a = (k : Int)) :
    Calls Tryd.prog 62 #[.int .i64 a] w fun e w' => e = .returned (.string ⟨(Sc.mt k).toArray⟩) ∧ Below w.heap.size w w' := by
  subst ha
  have hk0 : decide (k = 0) = false := by simp; omega
  go_enter Tryd.func62, Tryd.ntmps62
  go_wp2
  go_loopw [0, 3] (fun t v wr => ∃ (j : Nat) (o : List UInt8), j ≤ k ∧ t = .int .i64 j ∧ v = .string ⟨o.toArray⟩ ∧ Sc.fin (j + 1) j o = Sc.fin (k + 1) k [] ∧ o.length + j ≤ k ∧ Below w.heap.size w wr) (fun t _ _ => (intOf t).toNat)
  case atStart => exact ⟨k, [], Nat.le_refl _, rfl, rfl, rfl, by simp, Below.refl _ _⟩
  case round =>
    obtain ⟨j, o, hj, rfl, rfl, he, hlen, hB⟩ := hrel
    have HE := hide he
    clear he
    by_cases hz : 0 < j
    · have hcv := run_convert_bytes_arg (P := Tryd.prog) (wr.alloc (.cells #[.int .u8 (48 + (j : Int) % 10)] 5)) 120 5 Tryd.underlying120 Tryd.underlying5 wr.heap.size 0 1 1 [48 + (j : Int) % 10] rfl (fun i hi => by
        obtain rfl : i = 0 := by omega
        simp) 9 Tryd.underlying9
      rw [str1] at hcv
      go_wp2
      go_roundw
      case rel =>
        refine ⟨j / 10, Sc.dg j :: o, by omega, by go_num, ?_, ?_, by simp; omega, hB.alloc hB.size _⟩
        · rw [str_cons]
        · rw [← HE.out, Sc.fin_step j o (by omega)]
      case measure => simp [intOf]; omega
    · go_wp2
      go_ret
      refine ⟨?_, hB⟩
      obtain rfl : j = 0 := by omega
      have e := HE.out
      rw [str_cons]
      show _ = Ending.returned (.string ⟨(109 :: Sc.fin (k + 1) k []).toArray⟩)
      rw [← e]; rfl

end Go.Proofs.YtmklgiononbmmaaDoor
namespace Go.Proofs.YtmklgiononbmmaaDoor
open Go.RowKit

/-- The five marks of node i. -/
def Tr.mark5 (i : Nat) : List Value := [.int .i64 (1 + 5 * (i : Int)), .int .i64 (1 + 5 * (i : Int) + 1), .int .i64 (1 + 5 * (i : Int) + 1 + 1), .string ⟨(Sc.mt (4 + 5 * i)).toArray⟩, .int .i64 (1 + 5 * (i : Int) + 1 + 1 + 1 + 1)]
def Tr.marked5 (n : Nat) : List Value := (List.range n).flatMap Tr.mark5
theorem Tr.marked5_succ (n : Nat) : Tr.marked5 (n + 1) = Tr.marked5 n ++ Tr.mark5 n := by simp [Tr.marked5, List.range_succ]
theorem Tr.marked5_len (n : Nat) : (Tr.marked5 n).length = n * 5 := by
  induction n with
  | zero => rfl
  | succ n ih => rw [Tr.marked5_succ, List.length_append, ih]; simp [Tr.mark5]; omega
theorem row_belowS {w w1 : World} {base : Nat} {e : TypeId} {size : Nat} {v : Value} {n : Nat} {xs : List Value} (h : w.ownsRow base e size v n xs) (hb : Below w.heap.size w w1) : w1.ownsRow base e size v n xs :=
  h.kept (row := none) ⟨hb.os, hb.tape, hb.output, hb.size, fun k hk _ => hb.block k hk⟩ (by
    cases e : v.ownBlock with
    | none => exact .inl rfl
    | some q => exact .inr (by simp))
theorem get5 (P R : List Value) (k j : Nat) (h : P.length = k) : (P ++ R)[k + j]? = R[j]? := by
  subst h; rw [List.getElem?_append_right (by omega)]; congr 1; omega

set_option maxRecDepth 100000 in
set_option maxHeartbeats 1000000 in
theorem markNodes_some (n g cap B : Nat) (xs : List Value) (w : World) (hn : n ≤ 1048576) (hown : w.ownsRow B 61 5 (.slice (some ⟨g, 0, none⟩) n cap) n xs) (hBs : B ≤ w.heap.size) :
    Calls Tryd.prog 33 #[.slice (some ⟨g, 0, none⟩) n cap, .int .i64 1] w fun e w' => e = .returned (.int .i64 (1 + 5 * (n : Int))) ∧ w'.ownsRow B 61 5 (.slice (some ⟨g, 0, none⟩) n cap) n (Tr.marked5 n) ∧ (∀ b, b < w.heap.size → b ≠ g → w'.heap[b]? = w.heap[b]?) ∧ Below B w w' := by
  have hgB := (hown.lt g rfl).1
  have hxl : xs.length = n * 5 := hown.1
  go_enter Tryd.func33, Tryd.ntmps33
  go_wp2
  go_loopw [1, 5] (fun t u wr => ∃ i : Nat, i ≤ n ∧ u = .int .i64 i ∧ t = .int .i64 (1 + 5 * (i : Int)) ∧ wr.ownsRow B 61 5 (.slice (some ⟨g, 0, none⟩) n cap) n (Tr.marked5 i ++ xs.drop (i * 5)) ∧ (∀ b, b < w.heap.size → b ≠ g → wr.heap[b]? = w.heap[b]?) ∧ w.heap.size ≤ wr.heap.size ∧ Below B w wr ∧ B ≤ wr.heap.size) (fun _ u _ => n - (intOf u).toNat)
  case atStart => exact ⟨0, Nat.zero_le _, rfl, rfl, by simpa [Tr.marked5] using hown, fun _ _ _ => rfl, Nat.le_refl _, Below.refl _ _, hBs⟩
  case round =>
    obtain ⟨i, hi, rfl, rfl, ho, hfr, hws, hB, hsz⟩ := hrel
    by_cases hlt : i < n
    · obtain ⟨a, b, c, d, e, hd5⟩ := drop5 xs i (by omega)
      have hml := Tr.marked5_len i
      rw [hd5] at ho
      have HD := hide hd5
      clear hd5
      have hg1 : g < wr.heap.size := (ho.lt g rfl).2
      have k0 : wr.cell? ⟨g, i * 5, none⟩ = some a := (ho.cellAt _ (by omega)).trans (get5 _ _ _ 0 hml)
      have k1 : wr.cell? ⟨g, i * 5 + 1, none⟩ = some b := (ho.cellAt _ (by omega)).trans (get5 _ _ _ 1 hml)
      have k2 : wr.cell? ⟨g, i * 5 + 2, none⟩ = some c := (ho.cellAt _ (by omega)).trans (get5 _ _ _ 2 hml)
      have f0 := ho.frozenAt (i * 5)
      have f1 := ho.frozenAt (i * 5 + 1)
      have f2 := ho.frozenAt (i * 5 + 2)
      have s0 := (ho.stored (i * 5) (.int .i64 (1 + 5 * (i : Int)))).1
      rw [set5_0 _ _ _ _ _ _ _ _ _ hml] at s0
      have s1 := (s0.stored (i * 5 + 1) (.int .i64 (1 + 5 * (i : Int) + 1))).1
      rw [set5_1 _ _ _ _ _ _ _ _ _ hml] at s1
      have s2 := (s1.stored (i * 5 + 2) (.int .i64 (1 + 5 * (i : Int) + 1 + 1))).1
      rw [set5_2 _ _ _ _ _ _ _ _ _ hml] at s2
      have hB0 : Below B w (((wr.setCell ⟨g, i * 5, none⟩ (.int .i64 (1 + 5 * (i : Int)))).setCell ⟨g, i * 5 + 1, none⟩ (.int .i64 (1 + 5 * (i : Int) + 1))).setCell ⟨g, i * 5 + 2, none⟩ (.int .i64 (1 + 5 * (i : Int) + 1 + 1))) := ((hB.setCell (p := ⟨g, i * 5, none⟩) hgB _).setCell (p := ⟨g, i * 5 + 1, none⟩) hgB _).setCell (p := ⟨g, i * 5 + 2, none⟩) hgB _
      have hfr0 : ∀ q, q ≠ g → (((wr.setCell ⟨g, i * 5, none⟩ (.int .i64 (1 + 5 * (i : Int)))).setCell ⟨g, i * 5 + 1, none⟩ (.int .i64 (1 + 5 * (i : Int) + 1))).setCell ⟨g, i * 5 + 2, none⟩ (.int .i64 (1 + 5 * (i : Int) + 1 + 1))).heap[q]? = wr.heap[q]? := fun q hq => ((Below.heap_setCell _ _ _ _ hq).trans (Below.heap_setCell _ _ _ _ hq)).trans (Below.heap_setCell _ _ _ _ hq)
      have HS2 := hide s2
      have HB0 := hide hB0
      have HF0 := hide hfr0
      have HFR := hide hfr
      clear s0 s1 s2 ho hB0 hfr0 hfr
      go_wp2_with fail
      refine (markText_any (4 + 5 * i) _ _ (by omega) (by omega) (by omega)).mono ?_
      rintro e w1 ⟨rfl, hb1⟩
      have t2 := row_belowS HS2.out hb1
      have hss : ∀ (p q r : Addr) (x y z : Value), (((wr.setCell p x).setCell q y).setCell r z).heap.size = wr.heap.size := fun p q r x y z => by rw [size_set5, size_set5, size_set5]
      have hb1s := hb1.size
      rw [hss] at hb1s
      have hB1 : Below B w w1 := HB0.out.trans (hb1.mono (by rw [hss]; exact hsz))
      have HF1 : Hid (∀ q, q < wr.heap.size → q ≠ g → w1.heap[q]? = wr.heap[q]?) := hide (fun q hq hqg => (hb1.block q (by rw [hss]; exact hq)).trans (HF0.out q hqg))
      have q3 : w1.cell? ⟨g, i * 5 + 3, none⟩ = some d := (t2.cellAt _ (by omega)).trans (get5 _ _ _ 3 hml)
      have q4 : w1.cell? ⟨g, i * 5 + 4, none⟩ = some e := (t2.cellAt _ (by omega)).trans (get5 _ _ _ 4 hml)
      have z3 := t2.frozenAt (i * 5 + 3)
      have z4 := t2.frozenAt (i * 5 + 4)
      have HT2 := hide t2
      clear t2 k0 k1 k2 f0 f1 f2 hb1 HF0 HB0 HS2 hss
      go_wp2
      go_roundw
      case rel =>
        have u3 := (HT2.out.stored (i * 5 + 3) (.string ⟨(Sc.mt (4 + 5 * i)).toArray⟩)).1
        rw [set5_3 _ _ _ _ _ _ _ _ _ hml] at u3
        have u4 := (u3.stored (i * 5 + 4) (.int .i64 (1 + 5 * (i : Int) + 1 + 1 + 1 + 1))).1
        rw [set5_4 _ _ _ _ _ _ _ _ _ hml] at u4
        refine ⟨i + 1, by omega, by go_num, by go_num, ?_, fun q hq hqg => ?_, by simp only [size_set5]; omega, (hB1.setCell (p := ⟨g, i * 5 + 3, none⟩) hgB _).setCell (p := ⟨g, i * 5 + 4, none⟩) hgB _, by simp only [size_set5]; omega⟩
        · rw [Tr.marked5_succ, List.append_assoc]
          exact u4
        · exact (((Below.heap_setCell _ _ _ _ hqg).trans (Below.heap_setCell _ _ _ _ hqg)).trans (HF1.out q (by omega) hqg)).trans (HFR.out q hq hqg)
      case measure => simp [intOf]; omega
    · obtain rfl : i = n := by omega
      go_wp2
      go_ret
      rw [List.drop_of_length_le (by omega), List.append_nil] at ho
      exact ⟨rfl, ho, hfr, hB⟩

set_option maxRecDepth 100000 in
set_option maxHeartbeats 400000 in
theorem markTree_any (n g cap B : Nat) (xs : List Value) (w : World) (hn : n ≤ 1048576) (hown : w.ownsRow B 61 5 (.slice (some ⟨g, 0, none⟩) n cap) n xs) (hBs : B ≤ w.heap.size) :
    Calls Tryd.prog 16 #[.agg #[.slice (some ⟨g, 0, none⟩) n cap], .int .i64 1] w fun e w' => e = .returned (.int .i64 (1 + 5 * (n : Int))) ∧ w'.ownsRow B 61 5 (.slice (some ⟨g, 0, none⟩) n cap) n (Tr.marked5 n) ∧ (∀ b, b < w.heap.size → b ≠ g → w'.heap[b]? = w.heap[b]?) ∧ Below B w w' := by
  have hq : Below w.heap.size w (w.alloc (.cells #[.slice (some ⟨g, 0, none⟩) n cap] 31)) := (Below.refl _ _).alloc (Nat.le_refl _) _
  have HM := hide (markNodes_some n g cap B xs _ hn (hown.alloc (.cells #[.slice (some ⟨g, 0, none⟩) n cap] 31)) (by rw [World.size_alloc]; omega))
  clear hown
  go_enter Tryd.func16, Tryd.ntmps16
  go_wp2_with fail
  refine HM.out.mono ?_
  rintro e w1 ⟨rfl, ho, hfr, hb⟩
  go_wp2
  go_ret
  exact ⟨rfl, ho, fun q hq1 hqg => (hfr q (by rw [World.size_alloc]; omega) hqg).trans (hq.block q hq1), (hq.mono hBs).trans hb⟩

def Tr.markI (n : Nat) : List Value := (List.range n).map fun (i : Nat) => Value.int .i64 (1 + (i : Int))
theorem Tr.markI_succ (n : Nat) : Tr.markI (n + 1) = Tr.markI n ++ [.int .i64 (1 + (n : Int))] := by simp [Tr.markI, List.range_succ]
theorem Tr.markI_len (n : Nat) : (Tr.markI n).length = n := by simp [Tr.markI]

set_option maxRecDepth 100000 in
set_option maxHeartbeats 1000000 in
theorem markI_some (n g cap B : Nat) (xs : List Value) (w : World) (hn : n ≤ 1048576) (hown : w.ownsRow B 3 1 (.slice (some ⟨g, 0, none⟩) n cap) n xs) :
    Calls Tryd.prog 17 #[.slice (some ⟨g, 0, none⟩) n cap, .int .i64 1] w fun e w' => e = .returned (.int .i64 (1 + (n : Int))) ∧ w'.ownsRow B 3 1 (.slice (some ⟨g, 0, none⟩) n cap) n (Tr.markI n) ∧ (∀ b, b ≠ g → w'.heap[b]? = w.heap[b]?) ∧ Below B w w' := by
  have hgB := (hown.lt g rfl).1
  have hxl : xs.length = n := by have := hown.1; omega
  go_enter Tryd.func17, Tryd.ntmps17
  go_wp2
  go_loopw [1, 5] (fun t u wr => ∃ i : Nat, i ≤ n ∧ u = .int .i64 i ∧ t = .int .i64 (1 + (i : Int)) ∧ wr.ownsRow B 3 1 (.slice (some ⟨g, 0, none⟩) n cap) n (Tr.markI i ++ xs.drop i) ∧ (∀ b, b ≠ g → wr.heap[b]? = w.heap[b]?) ∧ Below B w wr) (fun _ u _ => n - (intOf u).toNat)
  case atStart => exact ⟨0, Nat.zero_le _, rfl, rfl, by simpa [Tr.markI] using hown, fun _ _ => rfl, Below.refl _ _⟩
  case round =>
    obtain ⟨i, hi, rfl, rfl, ho, hfr, hB⟩ := hrel
    by_cases hlt : i < n
    · have hml := Tr.markI_len i
      rw [List.drop_eq_getElem_cons (show i < xs.length by omega)] at ho
      generalize xs[i] = a at *
      have k0 : wr.cell? ⟨g, i, none⟩ = some a := (ho.cellAt _ (by omega)).trans (get5 _ _ _ 0 hml)
      have f0 := ho.frozenAt i
      have s0 := (ho.stored i (.int .i64 (1 + (i : Int)))).1
      rw [show (Tr.markI i ++ a :: xs.drop (i + 1)).set i (.int .i64 (1 + (i : Int))) = Tr.markI (i + 1) ++ xs.drop (i + 1) from by
        rw [Tr.markI_succ, List.set_append_right (h := by omega), hml, Nat.sub_self]; simp] at s0
      have HS0 := hide s0
      have HFR := hide hfr
      clear s0 ho hfr
      go_wp2
      go_roundw
      case rel => exact ⟨i + 1, by omega, by go_num, by go_num, HS0.out, fun q hq => (Below.heap_setCell _ _ _ _ hq).trans (HFR.out q hq), hB.setCell (p := ⟨g, i, none⟩) hgB _⟩
      case measure => simp [intOf]; omega
    · obtain rfl : i = n := by omega
      go_wp2
      go_ret
      rw [List.drop_of_length_le (by omega), List.append_nil] at ho
      exact ⟨rfl, ho, hfr, hB⟩
set_option maxHeartbeats 400000 in
theorem markI_none (oa : Option Addr) (ca : Nat) (w : World) : Calls Tryd.prog 17 #[.slice oa 0 ca, .int .i64 1] w fun e w' => e = .returned (.int .i64 1) ∧ w' = w := by
  go_enter Tryd.func17, Tryd.ntmps17
  go_wp2
  go_loopw [1, 5] (fun t u wr => t = .int .i64 1 ∧ u = .int .i64 0 ∧ wr = w) (fun _ _ _ => 0)
  case atStart => exact ⟨rfl, rfl, rfl⟩
  case round =>
    obtain ⟨rfl, rfl, rfl⟩ := hrel
    go_wp2
    go_ret
    exact ⟨rfl, rfl⟩
set_option maxHeartbeats 400000 in
theorem heldI_none (oa : Option Addr) (ca : Nat) (w : World) : Calls Tryd.prog 18 #[.slice oa 0 ca, .int .i64 1] w fun e w' => e = .returned (.int .i64 1) ∧ w' = w := by
  go_enter Tryd.func18, Tryd.ntmps18
  go_wp2
  go_loopw [1, 5] (fun t u wr => t = .int .i64 1 ∧ u = .int .i64 0 ∧ wr = w) (fun _ _ _ => 0)
  case atStart => exact ⟨rfl, rfl, rfl⟩
  case round =>
    obtain ⟨rfl, rfl, rfl⟩ := hrel
    go_wp2
    go_ret
    exact ⟨rfl, rfl⟩
set_option maxRecDepth 100000 in
set_option maxHeartbeats 1000000 in
theorem heldI_some (n g cap B : Nat) (w : World) (hn : n ≤ 1048576) (hown : w.ownsRow B 3 1 (.slice (some ⟨g, 0, none⟩) n cap) n (Tr.markI n)) :
    Calls Tryd.prog 18 #[.slice (some ⟨g, 0, none⟩) n cap, .int .i64 1] w fun e w' => e = .returned (.int .i64 (1 + (n : Int))) ∧ w' = w := by
  have HO := hide hown
  clear hown
  go_enter Tryd.func18, Tryd.ntmps18
  go_wp2
  go_loopw [1, 5] (fun t u wr => ∃ i : Nat, i ≤ n ∧ u = .int .i64 i ∧ t = .int .i64 (1 + (i : Int)) ∧ wr = w) (fun _ u _ => n - (intOf u).toNat)
  case atStart => exact ⟨0, Nat.zero_le _, rfl, rfl, rfl⟩
  case round =>
    obtain ⟨i, hi, rfl, rfl, rfl⟩ := hrel
    by_cases hlt : i < n
    · have k0 : wr.cell? ⟨g, i, none⟩ = some (.int .i64 (1 + (i : Int))) := (HO.out.cellAt _ (by omega)).trans (by simp [Tr.markI, hlt])
      go_wp2
      go_roundw
      case rel => exact ⟨i + 1, by omega, by go_num, by go_num, by trivial⟩
      case measure => simp [intOf]; omega
    · obtain rfl : i = n := by omega
      go_wp2
      go_ret
      exact ⟨rfl, rfl⟩
/-- Numbers in a slice, or none. -/
def NumV (w : World) (v : Value) (l : List Int) : Prop := (∃ p c, v = .slice p 0 c ∧ l = []) ∨ ∃ g c, v = .slice (some ⟨g, 0, none⟩) l.length c ∧ g < w.heap.size ∧ ∀ j (h : j < l.length), w.cell? ⟨g, j, none⟩ = some (.int .i64 l[j])

set_option maxRecDepth 100000 in
set_option maxHeartbeats 1000000 in
theorem eqI_same (l : List Int) (va vb : Value) (w : World) (hl : l.length ≤ 1048576) (ha : NumV w va l) (hb : NumV w vb l) :
    Calls Tryd.prog 15 #[va, vb] w fun e w' => e = .returned (.bool true) ∧ Below w.heap.size w w' := by
  by_cases h0 : l.length = 0
  · have hla : ∃ p c, va = .slice p 0 c := by
      rcases ha with ⟨p, c, h, _⟩ | ⟨g, c, h, _⟩
      · exact ⟨p, c, h⟩
      · exact ⟨_, c, by rw [h, h0]⟩
    have hlb : ∃ p c, vb = .slice p 0 c := by
      rcases hb with ⟨p, c, h, _⟩ | ⟨g, c, h, _⟩
      · exact ⟨p, c, h⟩
      · exact ⟨_, c, by rw [h, h0]⟩
    obtain ⟨pa, ca, rfl⟩ := hla
    obtain ⟨pb, cb, rfl⟩ := hlb
    clear ha hb
    go_enter Tryd.func15, Tryd.ntmps15
    go_wp2
    go_loopw [5] (fun u wr => u = .int .i64 0 ∧ wr = w) (fun _ _ => 0)
    case atStart => exact ⟨rfl, rfl⟩
    case round =>
      obtain ⟨rfl, rfl⟩ := hrel
      go_wp2
      go_ret
      exact ⟨rfl, Below.refl _ _⟩
  · rcases ha with ⟨_, _, _, h⟩ | ⟨ga, ca, rfl, hga, ha⟩
    · subst h; simp at h0
    rcases hb with ⟨_, _, _, h⟩ | ⟨gb, cb, rfl, hgb, hb⟩
    · subst h; simp at h0
    have HA := hide ha
    have HB := hide hb
    clear ha hb
    go_enter Tryd.func15, Tryd.ntmps15
    go_wp2
    go_loopw [5] (fun u wr => ∃ i : Nat, i ≤ l.length ∧ u = .int .i64 i ∧ Below w.heap.size w wr) (fun u _ => l.length - (intOf u).toNat)
    case atStart => exact ⟨0, Nat.zero_le _, rfl, Below.refl _ _⟩
    case round =>
      obtain ⟨i, hi, rfl, hBr⟩ := hrel
      by_cases hlt : i < l.length
      · have a0 := (hBr.cell (p := ⟨ga, i, none⟩) hga).trans (HA.out i hlt)
        have b0 := (hBr.cell (p := ⟨gb, i, none⟩) hgb).trans (HB.out i hlt)
        generalize l[i] = x at *
        go_wp2
        go_quiet (fail)
        go_wp2
        go_roundw
        case rel => exact ⟨i + 1, by omega, by go_num, below_drewN hBr _⟩
        case measure => simp [intOf]; omega
      · go_wp2
        go_ret
        exact ⟨rfl, hBr⟩
end Go.Proofs.YtmklgiononbmmaaDoor
