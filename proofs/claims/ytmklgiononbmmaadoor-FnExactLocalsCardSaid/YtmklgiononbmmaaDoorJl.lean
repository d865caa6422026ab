/- Walks: the law's copies and comparisons of trees. -/
import Derived.Test.YtmklgiononbmmaaDoorJk
import Derived.OwnWalk
namespace Go.Proofs.YtmklgiononbmmaaDoor
open Go.RowKit

theorem nodes_of_row {w : World} {base : Nat} {e : TypeId} {g cap : Nat} {l : List Tr.Nd} (h : w.ownsRow base e 5 (.slice (some ⟨g, 0, none⟩) l.length cap) l.length (Tr.cellsOf l)) : NodesAt w g l := by
  refine ⟨(h.lt g rfl).2, fun i hi => ?_⟩
  obtain ⟨p0, p1, p2, p3, p4⟩ := Tr.cellsOf_at l i hi
  exact ⟨(h.cellAt (i * 5) (by omega)).trans p0, (h.cellAt (i * 5 + 1) (by omega)).trans p1, (h.cellAt (i * 5 + 2) (by omega)).trans p2, (h.cellAt (i * 5 + 3) (by omega)).trans p3, (h.cellAt (i * 5 + 4) (by omega)).trans p4⟩
theorem NodesAt.setOther {w : World} {g : Nat} {l : List Tr.Nd} (h : NodesAt w g l) {a : Addr} (ha : g ≠ a.block) (v : Value) : NodesAt (w.setCell a v) g l := by
  have hb : (w.setCell a v).heap[g]? = w.heap[g]? := Below.heap_setCell _ _ _ _ ha
  refine ⟨by rw [show (w.setCell a v).heap.size = w.heap.size from by simp]; exact h.1, fun i hi => ?_⟩
  obtain ⟨q0, q1, q2, q3, q4⟩ := h.2 i hi
  exact ⟨(World.cell?_of_block hb).trans q0, (World.cell?_of_block hb).trans q1, (World.cell?_of_block hb).trans q2, (World.cell?_of_block hb).trans q3, (World.cell?_of_block hb).trans q4⟩
theorem drop5 (xs : List Value) (i : Nat) (h : i * 5 + 5 ≤ xs.length) : ∃ a b c d e, xs.drop (i * 5) = a :: b :: c :: d :: e :: xs.drop ((i + 1) * 5) := by
  refine ⟨xs[i * 5], xs[i * 5 + 1], xs[i * 5 + 2], xs[i * 5 + 3], xs[i * 5 + 4], ?_⟩
  rw [List.drop_eq_getElem_cons (by omega), List.drop_eq_getElem_cons (by omega), List.drop_eq_getElem_cons (by omega), List.drop_eq_getElem_cons (by omega), List.drop_eq_getElem_cons (by omega), show i * 5 + 1 + 1 + 1 + 1 + 1 = (i + 1) * 5 from by omega]
theorem set5_0 (P R : List Value) (a b c d e v : Value) (k : Nat) (h : P.length = k) : (P ++ a :: b :: c :: d :: e :: R).set k v = P ++ v :: b :: c :: d :: e :: R := by
  subst h; simp
theorem set5_1 (P R : List Value) (a b c d e v : Value) (k : Nat) (h : P.length = k) : (P ++ a :: b :: c :: d :: e :: R).set (k + 1) v = P ++ a :: v :: c :: d :: e :: R := by
  subst h; simp
theorem set5_2 (P R : List Value) (a b c d e v : Value) (k : Nat) (h : P.length = k) : (P ++ a :: b :: c :: d :: e :: R).set (k + 2) v = P ++ a :: b :: v :: d :: e :: R := by
  subst h; simp
theorem set5_3 (P R : List Value) (a b c d e v : Value) (k : Nat) (h : P.length = k) : (P ++ a :: b :: c :: d :: e :: R).set (k + 3) v = P ++ a :: b :: c :: v :: e :: R := by
  subst h; simp
theorem set5_4 (P R : List Value) (a b c d e v : Value) (k : Nat) (h : P.length = k) : (P ++ a :: b :: c :: d :: e :: R).set (k + 4) v = P ++ a :: b :: c :: d :: v :: R := by
  subst h; simp
set_option maxRecDepth 100000 in
set_option maxHeartbeats 1000000 in
theorem toS_some (l : List Tr.Nd) (g o c : Nat) (w : World) (hl : l.length ≤ 1048576) (ht : NodesO w g o l) :
    Calls Tryd.prog 27 #[.slice (some ⟨g, o, none⟩) l.length c] w fun e w' => e = .returned (.slice (some ⟨w.heap.size, 0, none⟩) l.length l.length) ∧ NodesAt w' w.heap.size l ∧ Below w.heap.size w w' := by
  obtain ⟨iN, hN, hNz, hNs, hNb⟩ := info_parts Tryd.infoNd
  have HT := hide ht
  clear ht
  go_enter Tryd.func27, Tryd.ntmps27
  go_wp2_with (at_make; refine wpList_make_full _ rfl _ _ 29 rfl w.heap.size 61 iN _ 5 Tryd.underlying29 hN hNz hNs _ _ _ _ l.length rfl rfl rfl rfl (by rw [hNb]; omega) (by unfold maxLen; omega) (Nat.le_refl _) ?_)
  intro w1 hown hgrow
  have hb1 : Below w.heap.size w w1 := (Below.refl _ _).grown hgrow (Nat.le_refl _) (fun q e => by cases e)
  have hz1 : w.heap.size < w1.heap.size := (hown.lt _ rfl).2
  replace hown : ∃ xs, w1.ownsRow w.heap.size 61 5 (.slice (some ⟨w.heap.size, 0, none⟩) l.length l.length) l.length xs := ⟨_, hown⟩
  obtain ⟨xs, hown⟩ := hown
  have hxl : xs.length = l.length * 5 := hown.1
  have HO := hide hown
  clear hown hgrow
  go_wp2
  go_loopw [4] (fun t wr => ∃ i : Nat, i ≤ l.length ∧ t = .int .i64 i ∧ wr.ownsRow w.heap.size 61 5 (.slice (some ⟨w.heap.size, 0, none⟩) l.length l.length) l.length (Tr.cellsOf (l.take i) ++ xs.drop (i * 5)) ∧ Below w.heap.size w wr ∧ w.heap.size < wr.heap.size) (fun t _ => l.length - (intOf t).toNat)
  case atStart => exact ⟨0, Nat.zero_le _, rfl, by simpa [Tr.cellsOf] using HO.out, hb1, hz1⟩
  case round =>
    obtain ⟨i, hi, rfl, ho, hB, hsz⟩ := hrel
    by_cases hlt : i < l.length
    · obtain ⟨c0, c1, c2, c3, c4⟩ := (HT.out.below hB).2 i hlt
      have htk : Tr.cellsOf (l.take (i + 1)) = Tr.cellsOf (l.take i) ++ l[i].cells := by unfold Tr.cellsOf; rw [List.take_succ_eq_append_getElem hlt, List.flatMap_append, List.flatMap_cons, List.flatMap_nil, List.append_nil]
      have hml : (Tr.cellsOf (l.take i)).length = i * 5 := by rw [Tr.cellsOf_len, List.length_take]; congr 1; omega
      obtain ⟨a0, a1, a2, a3, a4, hd5⟩ := drop5 xs i (by omega)
      rw [hd5] at ho
      have HTK := hide htk
      have HO2 := hide ho
      have HTN := hide (toNode_any l[i].kind l[i].op l[i].n l[i].kids l[i].text wr)
      have hcell : l[i].cells = [.int .i64 l[i].kind, .int .i64 l[i].op, .int .i64 l[i].n, .string l[i].text, .int .i64 l[i].kids] := rfl
      rw [hcell] at HTK
      clear hd5 ho htk hcell
      generalize l[i] = d at *
      go_wp2_with fail
      refine HTN.out.mono ?_
      rintro e w2 ⟨rfl, hb2⟩
      have ho2 : w2.ownsRow w.heap.size 61 5 (.slice (some ⟨w.heap.size, 0, none⟩) l.length l.length) l.length (Tr.cellsOf (l.take i) ++ a0 :: a1 :: a2 :: a3 :: a4 :: xs.drop ((i + 1) * 5)) := by
        have hg : wr.grownBy w2 none := ⟨hb2.os, hb2.tape, hb2.output, hb2.size, fun k hk _ => hb2.block k hk⟩
        exact HO2.out.kept hg (.inr (by simp [Value.ownBlock]))
      have hB2 := hB.trans (hb2.mono hB.size)
      have hsz2 : w.heap.size < w2.heap.size := Nat.lt_of_lt_of_le hsz hb2.size
      have q : ∀ j v, (a0 :: a1 :: a2 :: a3 :: a4 :: xs.drop ((i + 1) * 5))[j]? = some v → j < 5 → w2.cell? ⟨w.heap.size, i * 5 + j, none⟩ = some v := by
        intro j v hv hj
        rw [ho2.cellAt (i * 5 + j) (by omega), List.getElem?_append_right (by omega), hml, show i * 5 + j - i * 5 = j from by omega]; exact hv
      have q0 := q 0 a0 rfl (by omega)
      have q1 := q 1 a1 rfl (by omega)
      have q2 := q 2 a2 rfl (by omega)
      have q3 := q 3 a3 rfl (by omega)
      have q4 := q 4 a4 rfl (by omega)
      rw [Nat.add_zero] at q0
      have z0 := ho2.frozenAt (i * 5)
      have z1 := ho2.frozenAt (i * 5 + 1)
      have z2 := ho2.frozenAt (i * 5 + 2)
      have z3 := ho2.frozenAt (i * 5 + 3)
      have z4 := ho2.frozenAt (i * 5 + 4)
      have HO3 := hide ho2
      clear ho2 q c0 c1 c2 c3 c4
      go_wp2
      go_roundw
      case rel =>
        have t0 := (HO3.out.stored (i * 5) (.int .i64 d.kind)).1
        rw [set5_0 _ _ _ _ _ _ _ _ _ hml] at t0
        have t1 := (t0.stored (i * 5 + 1) (.int .i64 d.op)).1
        rw [set5_1 _ _ _ _ _ _ _ _ _ hml] at t1
        have t2 := (t1.stored (i * 5 + 2) (.int .i64 d.n)).1
        rw [set5_2 _ _ _ _ _ _ _ _ _ hml] at t2
        have t3 := (t2.stored (i * 5 + 3) (.string d.text)).1
        rw [set5_3 _ _ _ _ _ _ _ _ _ hml] at t3
        have t4 := (t3.stored (i * 5 + 4) (.int .i64 d.kids)).1
        rw [set5_4 _ _ _ _ _ _ _ _ _ hml] at t4
        refine ⟨i + 1, by omega, by go_num, ?_, ((((hB2.setCell (p := ⟨w.heap.size, i * 5, none⟩) (Nat.le_refl _) _).setCell (p := ⟨w.heap.size, i * 5 + 1, none⟩) (Nat.le_refl _) _).setCell (p := ⟨w.heap.size, i * 5 + 2, none⟩) (Nat.le_refl _) _).setCell (p := ⟨w.heap.size, i * 5 + 3, none⟩) (Nat.le_refl _) _).setCell (p := ⟨w.heap.size, i * 5 + 4, none⟩) (Nat.le_refl _) _, by simp only [size_set5]; exact hsz2⟩
        rw [HTK.out, List.append_assoc]
        exact t4
      case measure => simp [intOf]; omega
    · go_wp2
      go_ret
      obtain rfl : i = l.length := by omega
      rw [List.take_length, List.drop_of_length_le (by omega), List.append_nil] at ho
      exact ⟨rfl, nodes_of_row ho, hB⟩

set_option maxRecDepth 100000 in
set_option maxHeartbeats 1000000 in
theorem toS_nil (p : Option Addr) (c : Nat) (w : World) :
    Calls Tryd.prog 27 #[.slice p 0 c] w fun e w' => e = .returned (.slice (some ⟨w.heap.size, 0, none⟩) 0 0) ∧ NodesAt w' w.heap.size [] ∧ Below w.heap.size w w' := by
  obtain ⟨iN, hN, hNz, hNs, hNb⟩ := info_parts Tryd.infoNd
  go_enter Tryd.func27, Tryd.ntmps27
  go_wp2_with (at_make; refine wpList_make_full _ rfl _ _ 29 rfl w.heap.size 61 iN _ 5 Tryd.underlying29 hN hNz hNs _ _ _ _ 0 rfl rfl rfl rfl (by omega) (by unfold maxLen; omega) (Nat.le_refl _) ?_)
  intro w1 hown hgrow
  have hb1 : Below w.heap.size w w1 := (Below.refl _ _).grown hgrow (Nat.le_refl _) (fun q e => by cases e)
  have hz1 : w.heap.size < w1.heap.size := (hown.lt _ rfl).2
  clear hown hgrow
  go_wp2
  go_loopw [4] (fun t wr => t = .int .i64 0 ∧ wr = w1) (fun _ _ => 0)
  case atStart => exact ⟨rfl, rfl⟩
  case round =>
    obtain ⟨rfl, rfl⟩ := hrel
    go_wp2
    go_ret
    exact ⟨rfl, ⟨hz1, fun i h => absurd h (Nat.not_lt_zero _)⟩, hb1⟩
theorem toS_any (l : List Tr.Nd) (v : Value) (w : World) (hl : l.length ≤ 1048576) (ht : NodesV w v l) :
    Calls Tryd.prog 27 #[v] w fun e w' => e = .returned (.slice (some ⟨w.heap.size, 0, none⟩) l.length l.length) ∧ NodesAt w' w.heap.size l ∧ Below w.heap.size w w' := by
  rcases ht with ⟨p, c, rfl, rfl⟩ | ⟨g, o, c, rfl, h⟩
  · exact toS_nil p c w
  · exact toS_some l g o c w hl h

set_option maxRecDepth 100000 in
set_option maxHeartbeats 1000000 in
theorem toTree_any (l : List Tr.Nd) (v : Value) (w : World) (hl : l.length ≤ 1048576) (ht : NodesV w v l) :
    Calls Tryd.prog 9 #[.agg #[v]] w fun e w' => ∃ g, e = .returned (.agg #[.slice (some ⟨g, 0, none⟩) l.length l.length]) ∧ NodesAt w' g l ∧ Below w.heap.size w w' := by
  have HS := hide (fun w' (hb : Below w.heap.size w w') => toS_any l v w' hl (ht.below hb))
  clear ht
  go_enter Tryd.func9, Tryd.ntmps9
  go_wp2_with fail
  have hq : Below w.heap.size w (((w.alloc (.cells #[v] 24)).alloc (.cells #[.slice none 0 0] 31)).alloc (.cells #[.slice none 0 0] 31)) := (((Below.refl _ _).alloc (Nat.le_refl _) _).alloc (by simp) _).alloc (by simp; omega) _
  refine (HS.out _ hq).mono ?_
  rintro e w1 ⟨rfl, hN, hb1⟩
  simp only [World.size_alloc] at hN hb1 ⊢
  have hn2 := cell_new ((w.alloc (.cells #[v] 24)).alloc (.cells #[.slice none 0 0] 31)) (.slice none 0 0) 31
  have hn1 := cell_new (w.alloc (.cells #[v] 24)) (.slice none 0 0) 31
  have hk1 := ((Below.refl ((w.alloc (.cells #[v] 24)).alloc (.cells #[.slice none 0 0] 31)).heap.size ((w.alloc (.cells #[v] 24)).alloc (.cells #[.slice none 0 0] 31))).alloc (Nat.le_refl _) (.cells #[.slice none 0 0] 31))
  simp only [World.size_alloc] at hn2 hn1 hk1
  have hx : w1.cell? ⟨w.heap.size + 1 + 1, 0, none⟩ = some (.slice none 0 0) := (hb1.cell (p := ⟨w.heap.size + 1 + 1, 0, none⟩) (Nat.lt_succ_self _)).trans hn2.1
  have hy : w1.cell? ⟨w.heap.size + 1, 0, none⟩ = some (.slice none 0 0) := (hb1.cell (p := ⟨w.heap.size + 1, 0, none⟩) (Nat.lt_succ_of_lt (Nat.lt_succ_self _))).trans ((hk1.cell (p := ⟨w.heap.size + 1, 0, none⟩) (Nat.lt_succ_self _)).trans hn1.1)
  have fx : w1.frozen? ⟨w.heap.size + 1 + 1, 0, none⟩ = false := (hb1.frozen (p := ⟨w.heap.size + 1 + 1, 0, none⟩) (Nat.lt_succ_self _)).trans hn2.2
  have fy : w1.frozen? ⟨w.heap.size + 1, 0, none⟩ = false := (hb1.frozen (p := ⟨w.heap.size + 1, 0, none⟩) (Nat.lt_succ_of_lt (Nat.lt_succ_self _))).trans ((hk1.frozen (p := ⟨w.heap.size + 1, 0, none⟩) (Nat.lt_succ_self _)).trans hn1.2)
  have hB1 : Below w.heap.size w w1 := hq.trans (by have := hb1.mono (show w.heap.size ≤ w.heap.size + 1 + 1 + 1 by omega); exact this)
  clear hb1 hq
  go_wp2
  refine bodyPost_ret (v := .agg #[.slice (some ⟨w.heap.size + 1 + 1 + 1, 0, none⟩) l.length l.length]) (by simp [results, Tryd.results9, go_sem, hy]) rfl ⟨_, rfl, ?_, ?_⟩
  · exact (hN.setOther (a := ⟨w.heap.size + 1 + 1, 0, none⟩) (by simp) _).setOther (a := ⟨w.heap.size + 1, 0, none⟩) (by simp; omega) _
  · exact (hB1.setCell (p := ⟨w.heap.size + 1 + 1, 0, none⟩) (by simp; omega) _).setCell (p := ⟨w.heap.size + 1, 0, none⟩) (by simp) _


set_option maxRecDepth 100000 in
set_option maxHeartbeats 1000000 in
theorem eqS_same (l : List Tr.Nd) (ga gb ca cb : Nat) (w : World) (hl : l.length ≤ 1048576) (ha : NodesAt w ga l) (hb : NodesAt w gb l) :
    Calls Tryd.prog 31 #[.slice (some ⟨ga, 0, none⟩) l.length ca, .slice (some ⟨gb, 0, none⟩) l.length cb] w fun e w' => e = .returned (.bool true) ∧ Below w.heap.size w w' := by
  have HA := hide ha
  have HB := hide hb
  clear ha hb
  go_enter Tryd.func31, Tryd.ntmps31
  go_wp2
  go_loopw [5] (fun t wr => ∃ i : Nat, i ≤ l.length ∧ t = .int .i64 i ∧ Below w.heap.size w wr) (fun t _ => l.length - (intOf t).toNat)
  case atStart => exact ⟨0, Nat.zero_le _, rfl, Below.refl _ _⟩
  case round =>
    obtain ⟨i, hi, rfl, hB⟩ := hrel
    by_cases hlt : i < l.length
    · obtain ⟨a0, a1, a2, a3, a4⟩ := (HA.out.below hB).2 i hlt
      obtain ⟨b0, b1, b2, b3, b4⟩ := (HB.out.below hB).2 i hlt
      generalize l[i] = x at *
      go_wp2
      go_region_with (go_at_call 61; refine (eqNode_same _ _ _ _ _ _).mono ?_; rintro e w1 ⟨rfl, hb1⟩)
      all_goals go_wp2
      all_goals
        have hfin : Below w.heap.size w w1 := by first | exact hB.trans (hb1.mono hB.size) | exact hB.drew.trans (hb1.mono hB.size) | exact hB.drew.drew.trans (hb1.mono hB.size)
        go_roundw
        case rel => exact ⟨i + 1, by omega, by go_num, hfin⟩
        case measure => simp [intOf]; omega
    · go_wp2
      go_ret
      exact ⟨rfl, hB⟩

set_option maxRecDepth 100000 in
set_option maxHeartbeats 1000000 in
theorem eqTree_same (l : List Tr.Nd) (ga gb ca cb : Nat) (w : World) (hl : l.length ≤ 1048576) (ha : NodesAt w ga l) (hb : NodesAt w gb l) :
    Calls Tryd.prog 12 #[.agg #[.slice (some ⟨ga, 0, none⟩) l.length ca], .agg #[.slice (some ⟨gb, 0, none⟩) l.length cb]] w fun e w' => e = .returned (.bool true) ∧ Below w.heap.size w w' := by
  have HS := hide (fun w' (hq : Below w.heap.size w w') => eqS_same l ga gb ca cb w' hl (ha.below hq) (hb.below hq))
  clear ha hb
  go_enter Tryd.func12, Tryd.ntmps12
  go_wp2_with fail
  have hq : Below w.heap.size w ((w.alloc (.cells #[.slice (some ⟨ga, 0, none⟩) l.length ca] 31)).alloc (.cells #[.slice (some ⟨gb, 0, none⟩) l.length cb] 31)) := ((Below.refl _ _).alloc (Nat.le_refl _) _).alloc (by simp) _
  refine (HS.out _ hq).mono ?_
  rintro e w1 ⟨rfl, hb1⟩
  go_wp2
  go_ret
  exact ⟨rfl, hq.trans (hb1.mono hq.size)⟩
end Go.Proofs.YtmklgiononbmmaaDoor
