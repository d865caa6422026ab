/- Walks: rows of texts: the law's own functions: sizes, copies, comparisons. -/
import Derived.Test.YtlganondmnhecaaTa
namespace Go.Proofs.Ytlganondmnhecaa.Pl
open Go.RowKit

def cellsT (l : List ByteArray) : List Value := l.map .string
def StrsO (w : World) (g o : Nat) (l : List ByteArray) : Prop := g < w.heap.size ∧ ∀ i (h : i < l.length), w.cell? ⟨g, o + i, none⟩ = some (.string l[i])
theorem StrsO.heap {w w' : World} {g o : Nat} {l : List ByteArray} (h : StrsO w g o l) (hb : w'.heap[g]? = w.heap[g]?) : StrsO w' g o l := by
  refine ⟨?_, fun i hi => ?_⟩
  · have h1 := h.1
    rw [Array.getElem?_eq_getElem h1] at hb
    exact (Array.getElem?_eq_some_iff.1 hb).1
  · exact (World.cell?_of_block (a := ⟨g, o + i, none⟩) hb).trans (h.2 i hi)
theorem StrsO.below {w w' : World} {g o : Nat} {l : List ByteArray} (h : StrsO w g o l) (hb : Below w.heap.size w w') : StrsO w' g o l := h.heap (hb.block g h.1)
def StrsV (w : World) (v : Value) (l : List ByteArray) : Prop := (∃ p c, v = .slice p 0 c ∧ l = []) ∨ ∃ g o c, v = .slice (some ⟨g, o, none⟩) l.length c ∧ StrsO w g o l
theorem StrsV.below {w w' : World} {v : Value} {l : List ByteArray} (h : StrsV w v l) (hb : Below w.heap.size w w') : StrsV w' v l := by
  rcases h with h | ⟨g, o, c, h1, h2⟩
  · exact .inl h
  · exact .inr ⟨g, o, c, h1, h2.below hb⟩

def szGo : List Nat → Int → Int
  | [], left => left
  | x :: r, left => if left - x < 0 then -1 else szGo r (left - x)
def szS (l : List Nat) (left : Int) : Int := if left - l.length < 0 then -1 else szGo l (left - l.length)
theorem szGo_ok (l : List Nat) (left : Int) (hl : left ≤ 1048576) (h : ¬ szGo l left < 0) : szGo l left ≤ 1048576 ∧ ∀ x ∈ l, x ≤ 1048576 := by
  induction l generalizing left with
  | nil => exact ⟨hl, fun x hx => by cases hx⟩
  | cons y r ih =>
    rw [szGo] at h ⊢
    by_cases hc : left - y < 0
    · rw [if_pos hc] at h; omega
    · rw [if_neg hc] at h ⊢
      have := ih _ (by omega) h
      refine ⟨this.1, fun x hx => ?_⟩
      rcases List.mem_cons.1 hx with rfl | hx
      · omega
      · exact this.2 x hx
theorem szS_ok (l : List Nat) (L : Int) (hL : L ≤ 1048576) (h : ¬ szS l L < 0) : szS l L ≤ 1048576 ∧ l.length ≤ 1048576 ∧ ∀ x ∈ l, x ≤ 1048576 := by
  unfold szS at h ⊢
  by_cases hc : L - l.length < 0
  · rw [if_pos hc] at h; omega
  · rw [if_neg hc] at h ⊢
    have := szGo_ok l _ (by omega) h
    exact ⟨this.1, by omega, this.2⟩
theorem szGo_at (l : List Nat) (i : Nat) (left : Int) (h : i < l.length) : szGo (l.drop i) left = if left - l[i] < 0 then -1 else szGo (l.drop (i + 1)) (left - l[i]) := by
  rw [List.drop_eq_getElem_cons h]; rfl

set_option maxHeartbeats 400000 in
theorem szT_nil (L : Int) (h0 : 0 ≤ L) (h1 : L ≤ 1048576) (p : Option Addr) (c : Nat) (w : World) :
    Calls Try.prog 16 #[.slice p 0 c, .int .i64 L] w fun e w' => e = .returned (.int .i64 L) ∧ Below w.heap.size w w' := by
  go_enter Try.func16, Try.ntmps16
  go_wp2
  go_loop [1, 5] (fun a t => a = .int .i64 L ∧ t = .int .i64 0) (fun _ _ => 0)
  case atStart => exact ⟨rfl, rfl⟩
  case round =>
    obtain ⟨rfl, rfl⟩ := hrel
    go_wp2
    go_ret
    exact ⟨rfl, Below.refl _ _⟩

set_option maxRecDepth 100000 in
set_option maxHeartbeats 1000000 in
theorem szT_some (L : Int) (hL0 : 0 ≤ L) (hL1 : L ≤ 1048576) (l : List ByteArray) (g o c : Nat) (w : World) (hl : l.length ≤ 9223372036854775807) (hx : ∀ x ∈ l, x.size ≤ 9223372036854775807) (ht : StrsO w g o l) :
    Calls Try.prog 16 #[.slice (some ⟨g, o, none⟩) l.length c, .int .i64 L] w fun e w' => e = .returned (.int .i64 (szS (l.map ByteArray.size) L)) ∧ Below w.heap.size w w' := by
  have HT := hide ht
  have HX := hide hx
  have HM : Hid ((l.map ByteArray.size).length = l.length) := hide (by simp)
  clear ht hx
  have hsub : wrap64 (L - (l.length : Int)) = L - l.length := by unfold wrap64; omega
  by_cases hc : L - l.length < 0
  · have HD : Hid (szS (l.map ByteArray.size) L = -1) := hide (by unfold szS; rw [HM.out, if_pos hc])
    go_enter Try.func16, Try.ntmps16
    go_wp2
    go_ret
    exact ⟨ret_int HD.out.symm, Below.refl _ _⟩
  · have HD : Hid (szS (l.map ByteArray.size) L = szGo (l.map ByteArray.size) (L - l.length)) := hide (by unfold szS; rw [HM.out, if_neg hc])
    go_enter Try.func16, Try.ntmps16
    go_wp2
    go_loopw [1, 5] (fun a t wr => ∃ (i : Nat) (left : Int), i ≤ l.length ∧ t = .int .i64 i ∧ a = .int .i64 left ∧ 0 ≤ left ∧ left ≤ 1048576 ∧ Below w.heap.size w wr ∧ szS (l.map ByteArray.size) L = szGo ((l.map ByteArray.size).drop i) left) (fun _ t _ => l.length - (intOf t).toNat)
    case atStart => exact ⟨0, _, Nat.zero_le _, rfl, rfl, by omega, by omega, Below.refl _ _, by rw [HD.out, List.drop_zero]⟩
    case round =>
      obtain ⟨i, left, hi, rfl, rfl, h0, h1, hB, he⟩ := hrel
      have HE := hide he
      clear he
      by_cases hlt : i < l.length
      · have c0 := (HT.out.below hB).2 i hlt
        have HS := hide (show szS (l.map ByteArray.size) L = if left - ((l[i].size : Nat) : Int) < 0 then -1 else szGo ((l.map ByteArray.size).drop (i + 1)) (left - ((l[i].size : Nat) : Int)) by rw [HE.out, szGo_at _ i left (by rw [HM.out]; exact hlt)]; simp)
        have hds := HX.out _ (List.getElem_mem hlt)
        generalize l[i] = d at *
        have hsub : wrap64 (left - (d.size : Int)) = left - d.size := by unfold wrap64; omega
        by_cases hq : left - (d.size : Int) < 0
        · go_wp2
          go_ret
          exact ⟨ret_int (by rw [HS.out, if_pos hq]), hB⟩
        · go_wp2
          go_roundw
          case rel => exact ⟨i + 1, left - d.size, by omega, by go_num, rfl, by omega, by omega, hB, by rw [HS.out, if_neg (by omega)]⟩
          case measure => simp [intOf]; omega
      · go_wp2
        go_ret
        refine ⟨ret_int ?_, hB⟩
        rw [HE.out, List.drop_of_length_le (by rw [HM.out]; omega)]; rfl

theorem szT_any (L : Int) (hL0 : 0 ≤ L) (hL1 : L ≤ 1048576) (l : List ByteArray) (v : Value) (w : World) (hl : l.length ≤ 9223372036854775807) (hx : ∀ x ∈ l, x.size ≤ 9223372036854775807) (ht : StrsV w v l) :
    Calls Try.prog 16 #[v, .int .i64 L] w fun e w' => e = .returned (.int .i64 (szS (l.map ByteArray.size) L)) ∧ Below w.heap.size w w' := by
  rcases ht with ⟨p, c, rfl, rfl⟩ | ⟨g, o, c, rfl, h⟩
  · rw [show szS ([].map ByteArray.size) L = L from by unfold szS; rw [if_neg (by simp; omega)]; simp [szGo]]
    exact szT_nil L hL0 hL1 p c w
  · exact szT_some L hL0 hL1 l g o c w hl hx h

theorem strs_of_row {w : World} {base : Nat} {e : TypeId} {g cap : Nat} {l : List ByteArray} (h : w.ownsRow base e 1 (.slice (some ⟨g, 0, none⟩) l.length cap) l.length (cellsT l)) : StrsO w g 0 l := by
  refine ⟨(h.lt g rfl).2, fun i hi => ?_⟩
  simp only [Nat.zero_add]
  exact (h.cellAt i (by omega)).trans (by simp [cellsT, hi])
theorem drop1 (xs : List Value) (i : Nat) (h : i + 1 ≤ xs.length) : ∃ a, xs.drop i = a :: xs.drop (i + 1) := ⟨xs[i], List.drop_eq_getElem_cons (by omega)⟩
theorem size_set (w : World) (a : Addr) (v : Value) : (w.setCell a v).heap.size = w.heap.size := by simp
theorem set1_0 (P R : List Value) (a v : Value) (k : Nat) (h : P.length = k) : (P ++ a :: R).set k v = P ++ v :: R := by
  subst h; simp
theorem Try.infoStr : (Try.prog.info? 9).map (fun i => (i.zero, i.size, i.bytes)) = some (some (.string ⟨#[]⟩), 1, 16) := by kernel_rfl

set_option maxRecDepth 100000 in
set_option maxHeartbeats 1000000 in
theorem toT_some (l : List ByteArray) (g o c : Nat) (w : World) (hl : l.length ≤ 1048576) (ht : StrsO w g o l) :
    Calls Try.prog 17 #[.slice (some ⟨g, o, none⟩) l.length c] w fun e w' => e = .returned (.slice (some ⟨w.heap.size, 0, none⟩) l.length l.length) ∧ StrsO w' w.heap.size 0 l ∧ Below w.heap.size w w' := by
  obtain ⟨iN, hN, hNz, hNs, hNb⟩ := info_parts Try.infoStr
  have HT := hide ht
  clear ht
  go_enter Try.func17, Try.ntmps17
  go_wp2_with (at_make; refine wpList_make_full _ rfl _ _ 30 rfl w.heap.size 9 iN _ 1 Try.underlying30 hN hNz hNs _ _ _ _ l.length rfl rfl rfl rfl (by rw [hNb]; omega) (by unfold maxLen; omega) (Nat.le_refl _) ?_)
  intro w1 hown hgrow
  have hb1 : Below w.heap.size w w1 := (Below.refl _ _).grown hgrow (Nat.le_refl _) (fun q e => by cases e)
  have hz1 : w.heap.size < w1.heap.size := (hown.lt _ rfl).2
  replace hown : ∃ xs, w1.ownsRow w.heap.size 9 1 (.slice (some ⟨w.heap.size, 0, none⟩) l.length l.length) l.length xs := ⟨_, hown⟩
  obtain ⟨xs, hown⟩ := hown
  have hxl : xs.length = l.length * 1 := hown.1
  have HO := hide hown
  clear hown hgrow
  go_wp2
  go_loopw [4] (fun t wr => ∃ i : Nat, i ≤ l.length ∧ t = .int .i64 i ∧ wr.ownsRow w.heap.size 9 1 (.slice (some ⟨w.heap.size, 0, none⟩) l.length l.length) l.length (cellsT (l.take i) ++ xs.drop i) ∧ Below w.heap.size w wr ∧ w.heap.size < wr.heap.size) (fun t _ => l.length - (intOf t).toNat)
  case atStart => exact ⟨0, Nat.zero_le _, rfl, by simpa [cellsT] using HO.out, hb1, hz1⟩
  case round =>
    obtain ⟨i, hi, rfl, ho, hB, hsz⟩ := hrel
    by_cases hlt : i < l.length
    · have c0 := (HT.out.below hB).2 i hlt
      have htk : cellsT (l.take (i + 1)) = cellsT (l.take i) ++ [.string l[i]] := by unfold cellsT; rw [List.take_succ_eq_append_getElem hlt, List.map_append]; rfl
      have hml : (cellsT (l.take i)).length = i := by simp [cellsT]; omega
      obtain ⟨a0, hd5⟩ := drop1 xs i (by omega)
      rw [hd5] at ho
      have HTK := hide htk
      have q0 : wr.cell? ⟨w.heap.size, i, none⟩ = some a0 := by
        rw [ho.cellAt i (by omega), List.getElem?_append_right (by omega), hml, Nat.sub_self]; rfl
      have z0 := ho.frozenAt i
      have HO3 := hide ho
      clear hd5 ho htk
      generalize l[i] = d at *
      go_wp2
      go_roundw
      case rel =>
        have t0 := (HO3.out.stored i (.string d)).1
        rw [set1_0 _ _ _ _ _ hml] at t0
        refine ⟨i + 1, by omega, by go_num, ?_, hB.setCell (p := ⟨w.heap.size, i, none⟩) (Nat.le_refl _) _, by simp only [size_set]; exact hsz⟩
        rw [HTK.out, List.append_assoc]
        exact t0
      case measure => simp [intOf]; omega
    · go_wp2
      go_ret
      obtain rfl : i = l.length := by omega
      rw [List.take_length, List.drop_of_length_le (by omega), List.append_nil] at ho
      exact ⟨rfl, strs_of_row ho, hB⟩

set_option maxRecDepth 100000 in
set_option maxHeartbeats 1000000 in
theorem toT_nil (p : Option Addr) (c : Nat) (w : World) :
    Calls Try.prog 17 #[.slice p 0 c] w fun e w' => e = .returned (.slice (some ⟨w.heap.size, 0, none⟩) 0 0) ∧ StrsO w' w.heap.size 0 [] ∧ Below w.heap.size w w' := by
  obtain ⟨iN, hN, hNz, hNs, hNb⟩ := info_parts Try.infoStr
  go_enter Try.func17, Try.ntmps17
  go_wp2_with (at_make; refine wpList_make_full _ rfl _ _ 30 rfl w.heap.size 9 iN _ 1 Try.underlying30 hN hNz hNs _ _ _ _ 0 rfl rfl rfl rfl (by omega) (by unfold maxLen; omega) (Nat.le_refl _) ?_)
  intro w1 hown hgrow
  have hb1 : Below w.heap.size w w1 := (Below.refl _ _).grown hgrow (Nat.le_refl _) (fun q e => by cases e)
  have hz1 : w.heap.size < w1.heap.size := (hown.lt _ rfl).2
  clear hown hgrow
  go_wp2
  go_loopw [4] (fun t wr => t = .int .i64 0 ∧ wr = w1) (fun _ _ => 0)
  case atStart => exact ⟨rfl, rfl⟩
  case round =>
    obtain ⟨rfl, rfl⟩ := hrel
    go_wp2
    go_ret
    exact ⟨rfl, ⟨hz1, fun i h => absurd h (Nat.not_lt_zero _)⟩, hb1⟩
theorem toT_any (l : List ByteArray) (v : Value) (w : World) (hl : l.length ≤ 1048576) (ht : StrsV w v l) :
    Calls Try.prog 17 #[v] w fun e w' => e = .returned (.slice (some ⟨w.heap.size, 0, none⟩) l.length l.length) ∧ StrsO w' w.heap.size 0 l ∧ Below w.heap.size w w' := by
  rcases ht with ⟨p, c, rfl, rfl⟩ | ⟨g, o, c, rfl, h⟩
  · exact toT_nil p c w
  · exact toT_some l g o c w hl h

set_option maxRecDepth 100000 in
set_option maxHeartbeats 1000000 in
theorem eqT_same (l : List ByteArray) (ga gb ca cb : Nat) (w : World) (hl : l.length ≤ 1048576) (ha : StrsO w ga 0 l) (hb : StrsO w gb 0 l) :
    Calls Try.prog 19 #[.slice (some ⟨ga, 0, none⟩) l.length ca, .slice (some ⟨gb, 0, none⟩) l.length cb] w fun e w' => e = .returned (.bool true) ∧ Below w.heap.size w w' := by
  have HA := hide ha
  have HB := hide hb
  clear ha hb
  go_enter Try.func19, Try.ntmps19
  go_wp2
  go_loopw [5] (fun t wr => ∃ i : Nat, i ≤ l.length ∧ t = .int .i64 i ∧ Below w.heap.size w wr) (fun t _ => l.length - (intOf t).toNat)
  case atStart => exact ⟨0, Nat.zero_le _, rfl, Below.refl _ _⟩
  case round =>
    obtain ⟨i, hi, rfl, hB⟩ := hrel
    by_cases hlt : i < l.length
    · have a0 := (HA.out.below hB).2 i hlt
      have b0 := (HB.out.below hB).2 i hlt
      simp only [Nat.zero_add] at a0 b0
      generalize l[i] = x at *
      go_wp2
      go_quiet (fail)
      go_wp2
      all_goals
        go_roundw
        case rel => exact ⟨i + 1, by omega, by go_num, by first | exact hB | exact hB.drew | exact below_drewN hB _⟩
        case measure => simp [intOf]; omega
    · go_wp2
      go_ret
      exact ⟨rfl, hB⟩

end Go.Proofs.Ytlganondmnhecaa.Pl
