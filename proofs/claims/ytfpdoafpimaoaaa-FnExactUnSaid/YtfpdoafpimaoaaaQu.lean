/- Walks: the law's own functions: sizes, copies, comparisons. -/
import Derived.Test.YtfpdoafpimaoaaaQb
namespace Go.Proofs.Ytfpdoafpimaoaaa.Vl
open Go.RowKit T.atoms T.ok T.high T.good T.allPlain

def At.cells (x : At) : List Value := [.int .i64 x.kind, .int .i64 x.n, .string x.text, .int .i64 x.kids]
def cellsOf (l : List At) : List Value := l.flatMap At.cells
def AtomsAt (w : World) (g : Nat) (l : List At) : Prop := AtomsO w g 0 l
theorem AtomsAt.below {w w' : World} {g : Nat} {l : List At} (h : AtomsAt w g l) (hb : Below w.heap.size w w') : AtomsAt w' g l := AtomsO.below h hb
theorem AtomsAt.at {w : World} {g : Nat} {l : List At} (h : AtomsAt w g l) (i : Nat) (hi : i < l.length) : w.cell? ⟨g, i * 4, none⟩ = some (.int .i64 l[i].kind) ∧ w.cell? ⟨g, i * 4 + 1, none⟩ = some (.int .i64 l[i].n) ∧ w.cell? ⟨g, i * 4 + 2, none⟩ = some (.string l[i].text) ∧ w.cell? ⟨g, i * 4 + 3, none⟩ = some (.int .i64 l[i].kids) := by
  have := h.2 i hi
  simpa only [Nat.zero_add] using this

def szGo : List At → Int → Int
  | [], left => left
  | x :: r, left => if left - x.text.size < 0 then -1 else szGo r (left - x.text.size)
def szS (l : List At) (left : Int) : Int := if left - l.length < 0 then -1 else szGo l (left - l.length)
theorem szGo_ok (l : List At) (left : Int) (hl : left ≤ 1048576) (h : ¬ szGo l left < 0) : ∀ x ∈ l, x.text.size ≤ 1048576 := by
  induction l generalizing left with
  | nil => intro x hx; cases hx
  | cons y r ih =>
    rw [szGo] at h
    by_cases hc : left - y.text.size < 0
    · rw [if_pos hc] at h; omega
    · rw [if_neg hc] at h
      intro x hx
      rcases List.mem_cons.1 hx with rfl | hx
      · omega
      · exact ih _ (by omega) h x hx
theorem szS_ok (l : List At) (L : Int) (hL : L ≤ 1048576) (h : ¬ szS l L < 0) : l.length ≤ 1048576 ∧ ∀ x ∈ l, x.text.size ≤ 1048576 := by
  unfold szS at h
  by_cases hc : L - l.length < 0
  · rw [if_pos hc] at h; omega
  · rw [if_neg hc] at h
    exact ⟨by omega, szGo_ok l _ (by omega) h⟩
theorem szGo_at (l : List At) (i : Nat) (left : Int) (h : i < l.length) : szGo (l.drop i) left = if left - l[i].text.size < 0 then -1 else szGo (l.drop (i + 1)) (left - l[i].text.size) := by
  rw [List.drop_eq_getElem_cons h]; rfl

set_option maxHeartbeats 400000 in
theorem szAtom_any (k n m left : Int) (s : ByteArray) (w : World) (hs : s.size ≤ 9223372036854775807) (h0 : 0 ≤ left) (h1 : left ≤ 1048576) :
    Calls Try.prog 53 #[.agg #[.int .i64 k, .int .i64 n, .string s, .int .i64 m], .int .i64 left] w fun e w' => e = .returned (.int .i64 (if left - s.size < 0 then -1 else left - s.size)) ∧ Below w.heap.size w w' := by
  have hsub : wrap64 (left - (s.size : Int)) = left - s.size := by unfold wrap64; omega
  by_cases hc : left - (s.size : Int) < 0
  · rw [if_pos hc]
    go_enter Try.func53, Try.ntmps53
    go_wp2
    go_ret
    exact ⟨rfl, (Below.refl _ _).alloc (Nat.le_refl _) _⟩
  · rw [if_neg hc]
    go_enter Try.func53, Try.ntmps53
    go_wp2
    go_ret
    exact ⟨rfl, (Below.refl _ _).alloc (Nat.le_refl _) _⟩

set_option maxHeartbeats 400000 in
theorem toAtom_any (k n m : Int) (s : ByteArray) (w : World) :
    Calls Try.prog 54 #[.agg #[.int .i64 k, .int .i64 n, .string s, .int .i64 m]] w fun e w' => e = .returned (.agg #[.int .i64 k, .int .i64 n, .string s, .int .i64 m]) ∧ Below w.heap.size w w' := by
  go_enter Try.func54, Try.ntmps54
  go_wp2
  refine bodyPost_ret (v := .agg #[.int .i64 k, .int .i64 n, .string s, .int .i64 m]) (by simp [results, Try.results54, go_sem]) rfl ⟨rfl, ?_⟩
  exact (((Below.refl _ _).alloc (Nat.le_refl _) _).alloc (by simp) _).alloc (by simp; omega) _

set_option maxHeartbeats 400000 in
theorem eqAtom_same (k n m : Int) (s : ByteArray) (w : World) :
    Calls Try.prog 55 #[.agg #[.int .i64 k, .int .i64 n, .string s, .int .i64 m], .agg #[.int .i64 k, .int .i64 n, .string s, .int .i64 m]] w fun e w' => e = .returned (.bool true) ∧ Below w.heap.size w w' := by
  go_enter Try.func55, Try.ntmps55
  go_wp2
  go_ret
  exact ⟨rfl, ((Below.refl _ _).alloc (Nat.le_refl _) _).alloc (by simp) _⟩

set_option maxHeartbeats 400000 in
theorem szS_nil (L : Int) (h0 : 0 ≤ L) (h1 : L ≤ 1048576) (p : Option Addr) (c : Nat) (w : World) :
    Calls Try.prog 28 #[.slice p 0 c, .int .i64 L] w fun e w' => e = .returned (.int .i64 L) ∧ Below w.heap.size w w' := by
  go_enter Try.func28, Try.ntmps28
  go_wp2
  go_loop [1, 5] (fun a t => a = .int .i64 L ∧ t = .int .i64 0) (fun _ _ => 0)
  case atStart => exact ⟨rfl, rfl⟩
  case round =>
    obtain ⟨rfl, rfl⟩ := hrel
    go_wp2
    go_ret
    exact ⟨rfl, Below.refl _ _⟩

set_option maxRecDepth 100000 in
set_option maxHeartbeats 1000000 in
theorem szS_some (L : Int) (hL0 : 0 ≤ L) (hL1 : L ≤ 1048576) (l : List At) (g o c : Nat) (w : World) (hl : l.length ≤ 9223372036854775807) (hx : ∀ x ∈ l, x.text.size ≤ 9223372036854775807) (ht : AtomsO w g o l) :
    Calls Try.prog 28 #[.slice (some ⟨g, o, none⟩) l.length c, .int .i64 L] w fun e w' => e = .returned (.int .i64 (szS l L)) ∧ Below w.heap.size w w' := by
  have HT := hide ht
  have HX := hide hx
  clear ht hx
  have hsub : wrap64 (L - (l.length : Int)) = L - l.length := by unfold wrap64; omega
  by_cases hc : L - l.length < 0
  · have HD : Hid (szS l L = -1) := hide (by unfold szS; rw [if_pos hc])
    go_enter Try.func28, Try.ntmps28
    go_wp2
    go_ret
    exact ⟨ret_int HD.out.symm, Below.refl _ _⟩
  · have HD : Hid (szS l L = szGo l (L - l.length)) := hide (by unfold szS; rw [if_neg hc])
    go_enter Try.func28, Try.ntmps28
    go_wp2
    go_loopw [1, 5] (fun a t wr => ∃ (i : Nat) (left : Int), i ≤ l.length ∧ t = .int .i64 i ∧ a = .int .i64 left ∧ 0 ≤ left ∧ left ≤ 1048576 ∧ Below w.heap.size w wr ∧ szS l L = szGo (l.drop i) left) (fun _ t _ => l.length - (intOf t).toNat)
    case atStart => exact ⟨0, _, Nat.zero_le _, rfl, rfl, by omega, by omega, Below.refl _ _, by rw [HD.out, List.drop_zero]⟩
    case round =>
      obtain ⟨i, left, hi, rfl, rfl, h0, h1, hB, he⟩ := hrel
      have HE := hide he
      clear he
      by_cases hlt : i < l.length
      · obtain ⟨c0, c1, c2, c3⟩ := (HT.out.below hB).2 i hlt
        have HS := hide (show szS l L = if left - l[i].text.size < 0 then -1 else szGo (l.drop (i + 1)) (left - l[i].text.size) by rw [HE.out, szGo_at l i left hlt])
        have hN := szAtom_any l[i].kind l[i].n l[i].kids left l[i].text wr (HX.out _ (List.getElem_mem hlt)) h0 h1
        have HN := hide hN
        clear hN
        generalize l[i] = d at *
        by_cases hq : left - (d.text.size : Int) < 0
        · have HN2 := HN.out
          rw [if_pos hq] at HN2
          replace HN2 := hide HN2
          go_wp2_with fail
          refine HN2.out.mono ?_
          rintro e w1 ⟨rfl, hb1⟩
          go_wp2
          go_ret
          exact ⟨ret_int (by rw [HS.out, if_pos hq]), hB.trans (hb1.mono hB.size)⟩
        · have HN2 := HN.out
          rw [if_neg hq] at HN2
          replace HN2 := hide HN2
          go_wp2_with fail
          refine HN2.out.mono ?_
          rintro e w1 ⟨rfl, hb1⟩
          go_wp2
          go_roundw
          case rel => exact ⟨i + 1, left - d.text.size, by omega, by go_num, rfl, by omega, by omega, hB.trans (hb1.mono hB.size), by rw [HS.out, if_neg (by omega)]⟩
          case measure => simp [intOf]; omega
      · go_wp2
        go_ret
        refine ⟨ret_int ?_, hB⟩
        rw [HE.out, List.drop_of_length_le (by omega)]; rfl

theorem szS_any (L : Int) (hL0 : 0 ≤ L) (hL1 : L ≤ 1048576) (l : List At) (v : Value) (w : World) (hl : l.length ≤ 9223372036854775807) (hx : ∀ x ∈ l, x.text.size ≤ 9223372036854775807) (ht : AtomsV w v l) :
    Calls Try.prog 28 #[v, .int .i64 L] w fun e w' => e = .returned (.int .i64 (szS l L)) ∧ Below w.heap.size w w' := by
  rcases ht with ⟨p, c, rfl, rfl⟩ | ⟨g, o, c, rfl, h, -⟩
  · rw [show szS [] L = L from by unfold szS; rw [if_neg (by simp; omega)]; simp [szGo]]
    exact szS_nil L hL0 hL1 p c w
  · exact szS_some L hL0 hL1 l g o c w hl hx h

set_option maxHeartbeats 400000 in
theorem szValue_any (L : Int) (hL0 : 0 ≤ L) (hL1 : L ≤ 1048576) (l : List At) (v : Value) (w : World) (hl : l.length ≤ 9223372036854775807) (hx : ∀ x ∈ l, x.text.size ≤ 9223372036854775807) (ht : AtomsV w v l) :
    Calls Try.prog 12 #[.agg #[v], .int .i64 L] w fun e w' => e = .returned (.int .i64 (if szS l L < 0 then -1 else szS l L)) ∧ Below w.heap.size w w' := by
  have HS := hide (szS_any L hL0 hL1 l v (w.alloc (.cells #[v] 34)) hl hx (ht.below ((Below.refl _ _).alloc (Nat.le_refl _) _)))
  generalize szS l L = r at *
  clear ht
  by_cases hr : r < 0
  · rw [if_pos hr]
    go_enter Try.func12, Try.ntmps12
    go_wp2_with fail
    refine HS.out.mono ?_
    rintro e w1 ⟨rfl, hb1⟩
    go_wp2
    go_ret
    exact ⟨rfl, ((Below.refl _ _).alloc (Nat.le_refl _) _).trans (hb1.mono (by simp))⟩
  · rw [if_neg hr]
    go_enter Try.func12, Try.ntmps12
    go_wp2_with fail
    refine HS.out.mono ?_
    rintro e w1 ⟨rfl, hb1⟩
    go_wp2
    go_ret
    exact ⟨rfl, ((Below.refl _ _).alloc (Nat.le_refl _) _).trans (hb1.mono (by simp))⟩
end Go.Proofs.Ytfpdoafpimaoaaa.Vl
