/- Walks: the law's own functions: sizes, copies, comparisons. -/
import Derived.Test.YtmklgiononbmmaaDoorJp
namespace Go.Proofs.YtmklgiononbmmaaDoor
open Go.RowKit

/-- Nodes lie in a block from a cell on. -/
def NodesO (w : World) (g o : Nat) (l : List Tr.Nd) : Prop := g < w.heap.size ∧ ∀ i (h : i < l.length), w.cell? ⟨g, o + i * 5, none⟩ = some (.int .i64 l[i].kind) ∧ w.cell? ⟨g, o + i * 5 + 1, none⟩ = some (.int .i64 l[i].op) ∧ w.cell? ⟨g, o + i * 5 + 2, none⟩ = some (.int .i64 l[i].n) ∧ w.cell? ⟨g, o + i * 5 + 3, none⟩ = some (.string l[i].text) ∧ w.cell? ⟨g, o + i * 5 + 4, none⟩ = some (.int .i64 l[i].kids)
theorem NodesO.below {w w' : World} {g o : Nat} {l : List Tr.Nd} (h : NodesO w g o l) (hb : Below w.heap.size w w') : NodesO w' g o l := by
  refine ⟨Nat.lt_of_lt_of_le h.1 hb.size, fun i hi => ?_⟩
  obtain ⟨a, b, c, d, e⟩ := h.2 i hi
  exact ⟨(hb.cell (p := ⟨g, o + i * 5, none⟩) h.1).trans a, (hb.cell (p := ⟨g, o + i * 5 + 1, none⟩) h.1).trans b, (hb.cell (p := ⟨g, o + i * 5 + 2, none⟩) h.1).trans c, (hb.cell (p := ⟨g, o + i * 5 + 3, none⟩) h.1).trans d, (hb.cell (p := ⟨g, o + i * 5 + 4, none⟩) h.1).trans e⟩
/-- A slice value that shows these nodes. -/
def NodesV (w : World) (v : Value) (l : List Tr.Nd) : Prop := (∃ p c, v = .slice p 0 c ∧ l = []) ∨ ∃ g o c, v = .slice (some ⟨g, o, none⟩) l.length c ∧ NodesO w g o l
theorem NodesV.below {w w' : World} {v : Value} {l : List Tr.Nd} (h : NodesV w v l) (hb : Below w.heap.size w w') : NodesV w' v l := by
  rcases h with h | ⟨g, o, c, h1, h2⟩
  · exact .inl h
  · exact .inr ⟨g, o, c, h1, h2.below hb⟩

def Tr.szGo : List Tr.Nd → Int → Int
  | [], left => left
  | x :: r, left => if left - x.text.size < 0 then -1 else Tr.szGo r (left - x.text.size)
def Tr.szS (l : List Tr.Nd) (left : Int) : Int := if left - l.length < 0 then -1 else Tr.szGo l (left - l.length)
theorem Tr.szGo_ok (l : List Tr.Nd) (left : Int) (hl : left ≤ 1048576) (h : ¬ Tr.szGo l left < 0) : ∀ x ∈ l, x.text.size ≤ 1048576 := by
  induction l generalizing left with
  | nil => intro x hx; cases hx
  | cons y r ih =>
    rw [Tr.szGo] at h
    by_cases hc : left - y.text.size < 0
    · rw [if_pos hc] at h; omega
    · rw [if_neg hc] at h
      intro x hx
      rcases List.mem_cons.1 hx with rfl | hx
      · omega
      · exact ih _ (by omega) h x hx
theorem Tr.szS_ok (l : List Tr.Nd) (h : ¬ Tr.szS l 1048576 < 0) : l.length ≤ 1048576 ∧ ∀ x ∈ l, x.text.size ≤ 1048576 := by
  unfold Tr.szS at h
  by_cases hc : (1048576 : Int) - l.length < 0
  · rw [if_pos hc] at h; omega
  · rw [if_neg hc] at h
    exact ⟨by omega, Tr.szGo_ok l _ (by omega) h⟩
theorem Tr.szGo_at (l : List Tr.Nd) (i : Nat) (left : Int) (h : i < l.length) : Tr.szGo (l.drop i) left = if left - l[i].text.size < 0 then -1 else Tr.szGo (l.drop (i + 1)) (left - l[i].text.size) := by
  rw [List.drop_eq_getElem_cons h]; rfl

set_option maxHeartbeats 400000 in
theorem szNode_any (k op n m left : Int) (s : ByteArray) (w : World) (hs : s.size ≤ 9223372036854775807) (h0 : 0 ≤ left) (h1 : left ≤ 1048576) :
    Calls Tryd.prog 45 #[.agg #[.int .i64 k, .int .i64 op, .int .i64 n, .string s, .int .i64 m], .int .i64 left] w fun e w' => e = .returned (.int .i64 (if left - s.size < 0 then -1 else left - s.size)) ∧ Below w.heap.size w w' := by
  have hsub : wrap64 (left - (s.size : Int)) = left - s.size := by unfold wrap64; omega
  by_cases hc : left - (s.size : Int) < 0
  · rw [if_pos hc]
    go_enter Tryd.func45, Tryd.ntmps45
    go_wp2
    go_ret
    exact ⟨rfl, (Below.refl _ _).alloc (Nat.le_refl _) _⟩
  · rw [if_neg hc]
    go_enter Tryd.func45, Tryd.ntmps45
    go_wp2
    go_ret
    exact ⟨rfl, (Below.refl _ _).alloc (Nat.le_refl _) _⟩

set_option maxHeartbeats 400000 in
theorem toNode_any (k op n m : Int) (s : ByteArray) (w : World) :
    Calls Tryd.prog 52 #[.agg #[.int .i64 k, .int .i64 op, .int .i64 n, .string s, .int .i64 m]] w fun e w' => e = .returned (.agg #[.int .i64 k, .int .i64 op, .int .i64 n, .string s, .int .i64 m]) ∧ Below w.heap.size w w' := by
  go_enter Tryd.func52, Tryd.ntmps52
  go_wp2
  refine bodyPost_ret (v := .agg #[.int .i64 k, .int .i64 op, .int .i64 n, .string s, .int .i64 m]) (by simp [results, Tryd.results52, go_sem]) rfl ⟨rfl, ?_⟩
  exact (((Below.refl _ _).alloc (Nat.le_refl _) _).alloc (by simp) _).alloc (by simp; omega) _

set_option maxHeartbeats 400000 in
theorem eqNode_same (k op n m : Int) (s : ByteArray) (w : World) :
    Calls Tryd.prog 61 #[.agg #[.int .i64 k, .int .i64 op, .int .i64 n, .string s, .int .i64 m], .agg #[.int .i64 k, .int .i64 op, .int .i64 n, .string s, .int .i64 m]] w fun e w' => e = .returned (.bool true) ∧ Below w.heap.size w w' := by
  go_enter Tryd.func61, Tryd.ntmps61
  go_wp2
  go_ret
  exact ⟨rfl, ((Below.refl _ _).alloc (Nat.le_refl _) _).alloc (by simp) _⟩

set_option maxHeartbeats 400000 in
theorem szS_nil (p : Option Addr) (c : Nat) (w : World) :
    Calls Tryd.prog 24 #[.slice p 0 c, .int .i64 1048576] w fun e w' => e = .returned (.int .i64 1048576) ∧ Below w.heap.size w w' := by
  go_enter Tryd.func24, Tryd.ntmps24
  go_wp2
  go_loop [1, 5] (fun a t => a = .int .i64 1048576 ∧ t = .int .i64 0) (fun _ _ => 0)
  case atStart => exact ⟨rfl, rfl⟩
  case round =>
    obtain ⟨rfl, rfl⟩ := hrel
    go_wp2
    go_ret
    exact ⟨rfl, Below.refl _ _⟩

set_option maxRecDepth 100000 in
set_option maxHeartbeats 1000000 in
theorem szS_some (l : List Tr.Nd) (g o c : Nat) (w : World) (hl : l.length ≤ 9223372036854775807) (hx : ∀ x ∈ l, x.text.size ≤ 9223372036854775807) (ht : NodesO w g o l) :
    Calls Tryd.prog 24 #[.slice (some ⟨g, o, none⟩) l.length c, .int .i64 1048576] w fun e w' => e = .returned (.int .i64 (Tr.szS l 1048576)) ∧ Below w.heap.size w w' := by
  have HT := hide ht
  have HX := hide hx
  clear ht hx
  have hsub : wrap64 (1048576 - (l.length : Int)) = 1048576 - l.length := by unfold wrap64; omega
  by_cases hc : (1048576 : Int) - l.length < 0
  · have HD : Hid (Tr.szS l 1048576 = -1) := hide (by unfold Tr.szS; rw [if_pos hc])
    go_enter Tryd.func24, Tryd.ntmps24
    go_wp2
    go_ret
    exact ⟨ret_int HD.out.symm, Below.refl _ _⟩
  · have HD : Hid (Tr.szS l 1048576 = Tr.szGo l (1048576 - l.length)) := hide (by unfold Tr.szS; rw [if_neg hc])
    go_enter Tryd.func24, Tryd.ntmps24
    go_wp2
    go_loopw [1, 5] (fun a t wr => ∃ (i : Nat) (left : Int), i ≤ l.length ∧ t = .int .i64 i ∧ a = .int .i64 left ∧ 0 ≤ left ∧ left ≤ 1048576 ∧ Below w.heap.size w wr ∧ Tr.szS l 1048576 = Tr.szGo (l.drop i) left) (fun _ t _ => l.length - (intOf t).toNat)
    case atStart => exact ⟨0, _, Nat.zero_le _, rfl, rfl, by omega, by omega, Below.refl _ _, by rw [HD.out, List.drop_zero]⟩
    case round =>
      obtain ⟨i, left, hi, rfl, rfl, h0, h1, hB, he⟩ := hrel
      have HE := hide he
      clear he
      by_cases hlt : i < l.length
      · obtain ⟨c0, c1, c2, c3, c4⟩ := (HT.out.below hB).2 i hlt
        have HS := hide (show Tr.szS l 1048576 = if left - l[i].text.size < 0 then -1 else Tr.szGo (l.drop (i + 1)) (left - l[i].text.size) by rw [HE.out, Tr.szGo_at l i left hlt])
        have hN := szNode_any l[i].kind l[i].op l[i].n l[i].kids left l[i].text wr (HX.out _ (List.getElem_mem hlt)) h0 h1
        have HN := hide hN
        clear hN
        generalize l[i] = d at *
        by_cases hq : left - (d.text.size : Int) < 0
        · have HN2 := HN.out
          rw [if_pos hq] at HN2
          replace HN2 := hide HN2
          go_wp2_with fail
          refine HN2.out.mono ?_
          rintro e w1 ⟨rfl, hb1⟩
          go_wp2
          go_ret
          exact ⟨ret_int (by rw [HS.out, if_pos hq]), hB.trans (hb1.mono hB.size)⟩
        · have HN2 := HN.out
          rw [if_neg hq] at HN2
          replace HN2 := hide HN2
          go_wp2_with fail
          refine HN2.out.mono ?_
          rintro e w1 ⟨rfl, hb1⟩
          go_wp2
          go_roundw
          case rel => exact ⟨i + 1, left - d.text.size, by omega, by go_num, rfl, by omega, by omega, hB.trans (hb1.mono hB.size), by rw [HS.out, if_neg (by omega)]⟩
          case measure => simp [intOf]; omega
      · go_wp2
        go_ret
        refine ⟨ret_int ?_, hB⟩
        rw [HE.out, List.drop_of_length_le (by omega)]; rfl

theorem szS_any (l : List Tr.Nd) (v : Value) (w : World) (hl : l.length ≤ 9223372036854775807) (hx : ∀ x ∈ l, x.text.size ≤ 9223372036854775807) (ht : NodesV w v l) :
    Calls Tryd.prog 24 #[v, .int .i64 1048576] w fun e w' => e = .returned (.int .i64 (Tr.szS l 1048576)) ∧ Below w.heap.size w w' := by
  rcases ht with ⟨p, c, rfl, rfl⟩ | ⟨g, o, c, rfl, h⟩
  · exact szS_nil p c w
  · exact szS_some l g o c w hl hx h

set_option maxHeartbeats 400000 in
theorem szTree_any (l : List Tr.Nd) (v : Value) (w : World) (hl : l.length ≤ 9223372036854775807) (hx : ∀ x ∈ l, x.text.size ≤ 9223372036854775807) (ht : NodesV w v l) :
    Calls Tryd.prog 7 #[.agg #[v], .int .i64 1048576] w fun e w' => e = .returned (.int .i64 (if Tr.szS l 1048576 < 0 then -1 else Tr.szS l 1048576)) ∧ Below w.heap.size w w' := by
  have HS := hide (szS_any l v (w.alloc (.cells #[v] 24)) hl hx (ht.below ((Below.refl _ _).alloc (Nat.le_refl _) _)))
  generalize Tr.szS l 1048576 = r at *
  clear ht
  by_cases hr : r < 0
  · rw [if_pos hr]
    go_enter Tryd.func7, Tryd.ntmps7
    go_wp2_with fail
    refine HS.out.mono ?_
    rintro e w1 ⟨rfl, hb1⟩
    go_wp2
    go_ret
    exact ⟨rfl, ((Below.refl _ _).alloc (Nat.le_refl _) _).trans (hb1.mono (by simp))⟩
  · rw [if_neg hr]
    go_enter Tryd.func7, Tryd.ntmps7
    go_wp2_with fail
    refine HS.out.mono ?_
    rintro e w1 ⟨rfl, hb1⟩
    go_wp2
    go_ret
    exact ⟨rfl, ((Below.refl _ _).alloc (Nat.le_refl _) _).trans (hb1.mono (by simp))⟩
end Go.Proofs.YtmklgiononbmmaaDoor
