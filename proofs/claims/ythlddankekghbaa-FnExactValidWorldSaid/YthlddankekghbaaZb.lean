/- Walks: worlds: the law's own functions: sizes, copies, comparisons. -/
import Derived.Test.YthlddankekghbaaZa
import Derived.OwnWalk
namespace Go.Proofs.Ythlddankekghbaa.Wd
open Go.RowKit

structure Fl where
  name : ByteArray
  text : ByteArray
def Fl.cells (x : Fl) : List Value := [.string x.name, .string x.text]
def Fl.wt (x : Fl) : Nat := x.name.size + x.text.size
def cellsF (l : List Fl) : List Value := l.flatMap Fl.cells
def cellsT (l : List ByteArray) : List Value := l.map .string
def FilesO (w : World) (g o : Nat) (l : List Fl) : Prop := g < w.heap.size ∧ ∀ i (h : i < l.length), w.cell? ⟨g, o + i * 2, none⟩ = some (.string l[i].name) ∧ w.cell? ⟨g, o + i * 2 + 1, none⟩ = some (.string l[i].text)
def StrsO (w : World) (g o : Nat) (l : List ByteArray) : Prop := g < w.heap.size ∧ ∀ i (h : i < l.length), w.cell? ⟨g, o + i, none⟩ = some (.string l[i])
theorem FilesO.heap {w w' : World} {g o : Nat} {l : List Fl} (h : FilesO w g o l) (hb : w'.heap[g]? = w.heap[g]?) : FilesO w' g o l := by
  refine ⟨?_, fun i hi => ?_⟩
  · have h1 := h.1
    rw [Array.getElem?_eq_getElem h1] at hb
    exact (Array.getElem?_eq_some_iff.1 hb).1
  · have e : ∀ j, w'.cell? ⟨g, j, none⟩ = w.cell? ⟨g, j, none⟩ := fun j => World.cell?_of_block (a := ⟨g, j, none⟩) hb
    exact ⟨(e _).trans (h.2 i hi).1, (e _).trans (h.2 i hi).2⟩
theorem StrsO.heap {w w' : World} {g o : Nat} {l : List ByteArray} (h : StrsO w g o l) (hb : w'.heap[g]? = w.heap[g]?) : StrsO w' g o l := by
  refine ⟨?_, fun i hi => ?_⟩
  · have h1 := h.1
    rw [Array.getElem?_eq_getElem h1] at hb
    exact (Array.getElem?_eq_some_iff.1 hb).1
  · exact (World.cell?_of_block (a := ⟨g, o + i, none⟩) hb).trans (h.2 i hi)
theorem FilesO.below {w w' : World} {g o : Nat} {l : List Fl} (h : FilesO w g o l) (hb : Below w.heap.size w w') : FilesO w' g o l := h.heap (hb.block g h.1)
theorem StrsO.below {w w' : World} {g o : Nat} {l : List ByteArray} (h : StrsO w g o l) (hb : Below w.heap.size w w') : StrsO w' g o l := h.heap (hb.block g h.1)
def FilesV (w : World) (v : Value) (l : List Fl) : Prop := (∃ p c, v = .slice p 0 c ∧ l = []) ∨ ∃ g o c, v = .slice (some ⟨g, o, none⟩) l.length c ∧ FilesO w g o l
def StrsV (w : World) (v : Value) (l : List ByteArray) : Prop := (∃ p c, v = .slice p 0 c ∧ l = []) ∨ ∃ g o c, v = .slice (some ⟨g, o, none⟩) l.length c ∧ StrsO w g o l
theorem FilesV.below {w w' : World} {v : Value} {l : List Fl} (h : FilesV w v l) (hb : Below w.heap.size w w') : FilesV w' v l := by
  rcases h with h | ⟨g, o, c, h1, h2⟩
  · exact .inl h
  · exact .inr ⟨g, o, c, h1, h2.below hb⟩
theorem StrsV.below {w w' : World} {v : Value} {l : List ByteArray} (h : StrsV w v l) (hb : Below w.heap.size w w') : StrsV w' v l := by
  rcases h with h | ⟨g, o, c, h1, h2⟩
  · exact .inl h
  · exact .inr ⟨g, o, c, h1, h2.below hb⟩

def szGo : List Nat → Int → Int
  | [], left => left
  | x :: r, left => if left - x < 0 then -1 else szGo r (left - x)
def szS (l : List Nat) (left : Int) : Int := if left - l.length < 0 then -1 else szGo l (left - l.length)
theorem szGo_ok (l : List Nat) (left : Int) (hl : left ≤ 1048576) (h : ¬ szGo l left < 0) : szGo l left ≤ 1048576 ∧ ∀ x ∈ l, x ≤ 1048576 := by
  induction l generalizing left with
  | nil => exact ⟨hl, fun x hx => by cases hx⟩
  | cons y r ih =>
    rw [szGo] at h ⊢
    by_cases hc : left - y < 0
    · rw [if_pos hc] at h; omega
    · rw [if_neg hc] at h ⊢
      have := ih _ (by omega) h
      refine ⟨this.1, fun x hx => ?_⟩
      rcases List.mem_cons.1 hx with rfl | hx
      · omega
      · exact this.2 x hx
theorem szS_ok (l : List Nat) (L : Int) (hL : L ≤ 1048576) (h : ¬ szS l L < 0) : szS l L ≤ 1048576 ∧ l.length ≤ 1048576 ∧ ∀ x ∈ l, x ≤ 1048576 := by
  unfold szS at h ⊢
  by_cases hc : L - l.length < 0
  · rw [if_pos hc] at h; omega
  · rw [if_neg hc] at h ⊢
    have := szGo_ok l _ (by omega) h
    exact ⟨this.1, by omega, this.2⟩
theorem szGo_at (l : List Nat) (i : Nat) (left : Int) (h : i < l.length) : szGo (l.drop i) left = if left - l[i] < 0 then -1 else szGo (l.drop (i + 1)) (left - l[i]) := by
  rw [List.drop_eq_getElem_cons h]; rfl

set_option maxHeartbeats 400000 in
theorem szFile_any (left : Int) (a b : ByteArray) (w : World) (ha : a.size ≤ 9223372036854775807) (hb : b.size ≤ 9223372036854775807) (h0 : 0 ≤ left) (h1 : left ≤ 1048576) :
    Calls Try.prog 18 #[.agg #[.string a, .string b], .int .i64 left] w fun e w' => e = .returned (.int .i64 (if left - ((a.size + b.size : Nat) : Int) < 0 then -1 else left - ((a.size + b.size : Nat) : Int))) ∧ Below w.heap.size w w' := by
  have hsub : wrap64 (left - (a.size : Int)) = left - a.size := by unfold wrap64; omega
  by_cases hc : left - (a.size : Int) < 0
  · rw [if_pos (by omega)]
    go_enter Try.func18, Try.ntmps18
    go_wp2
    go_ret
    exact ⟨rfl, (Below.refl _ _).alloc (Nat.le_refl _) _⟩
  · have hsub2 : wrap64 (left - (a.size : Int) - (b.size : Int)) = left - a.size - b.size := by unfold wrap64; omega
    by_cases hd : left - (a.size : Int) - (b.size : Int) < 0
    · rw [if_pos (by omega)]
      go_enter Try.func18, Try.ntmps18
      go_wp2
      go_ret
      exact ⟨rfl, (Below.refl _ _).alloc (Nat.le_refl _) _⟩
    · rw [if_neg (by omega), show left - ((a.size + b.size : Nat) : Int) = left - (a.size : Int) - (b.size : Int) by omega]
      go_enter Try.func18, Try.ntmps18
      go_wp2
      go_ret
      exact ⟨rfl, (Below.refl _ _).alloc (Nat.le_refl _) _⟩

set_option maxHeartbeats 400000 in
theorem toFile_any (a b : ByteArray) (w : World) :
    Calls Try.prog 20 #[.agg #[.string a, .string b]] w fun e w' => e = .returned (.agg #[.string a, .string b]) ∧ Below w.heap.size w w' := by
  go_enter Try.func20, Try.ntmps20
  go_wp2
  refine bodyPost_ret (v := .agg #[.string a, .string b]) (by simp [results, Try.results20, go_sem]) rfl ⟨rfl, ?_⟩
  exact (((Below.refl _ _).alloc (Nat.le_refl _) _).alloc (by simp) _).alloc (by simp; omega) _

set_option maxHeartbeats 400000 in
theorem eqFile_same (a b : ByteArray) (w : World) :
    Calls Try.prog 23 #[.agg #[.string a, .string b], .agg #[.string a, .string b]] w fun e w' => e = .returned (.bool true) ∧ Below w.heap.size w w' := by
  go_enter Try.func23, Try.ntmps23
  go_wp2
  go_ret
  exact ⟨rfl, ((Below.refl _ _).alloc (Nat.le_refl _) _).alloc (by simp) _⟩

set_option maxHeartbeats 400000 in
theorem szF_nil (L : Int) (h0 : 0 ≤ L) (h1 : L ≤ 1048576) (p : Option Addr) (c : Nat) (w : World) :
    Calls Try.prog 9 #[.slice p 0 c, .int .i64 L] w fun e w' => e = .returned (.int .i64 L) ∧ Below w.heap.size w w' := by
  go_enter Try.func9, Try.ntmps9
  go_wp2
  go_loop [1, 5] (fun a t => a = .int .i64 L ∧ t = .int .i64 0) (fun _ _ => 0)
  case atStart => exact ⟨rfl, rfl⟩
  case round =>
    obtain ⟨rfl, rfl⟩ := hrel
    go_wp2
    go_ret
    exact ⟨rfl, Below.refl _ _⟩

set_option maxHeartbeats 400000 in
theorem szT_nil (L : Int) (h0 : 0 ≤ L) (h1 : L ≤ 1048576) (p : Option Addr) (c : Nat) (w : World) :
    Calls Try.prog 10 #[.slice p 0 c, .int .i64 L] w fun e w' => e = .returned (.int .i64 L) ∧ Below w.heap.size w w' := by
  go_enter Try.func10, Try.ntmps10
  go_wp2
  go_loop [1, 5] (fun a t => a = .int .i64 L ∧ t = .int .i64 0) (fun _ _ => 0)
  case atStart => exact ⟨rfl, rfl⟩
  case round =>
    obtain ⟨rfl, rfl⟩ := hrel
    go_wp2
    go_ret
    exact ⟨rfl, Below.refl _ _⟩

set_option maxRecDepth 100000 in
set_option maxHeartbeats 1000000 in
theorem szF_some (L : Int) (hL0 : 0 ≤ L) (hL1 : L ≤ 1048576) (l : List Fl) (g o c : Nat) (w : World) (hl : l.length ≤ 9223372036854775807) (hx : ∀ x ∈ l, x.name.size ≤ 9223372036854775807 ∧ x.text.size ≤ 9223372036854775807) (ht : FilesO w g o l) :
    Calls Try.prog 9 #[.slice (some ⟨g, o, none⟩) l.length c, .int .i64 L] w fun e w' => e = .returned (.int .i64 (szS (l.map Fl.wt) L)) ∧ Below w.heap.size w w' := by
  have HT := hide ht
  have HX := hide hx
  have HM : Hid ((l.map Fl.wt).length = l.length) := hide (by simp)
  clear ht hx
  have hsub : wrap64 (L - (l.length : Int)) = L - l.length := by unfold wrap64; omega
  by_cases hc : L - l.length < 0
  · have HD : Hid (szS (l.map Fl.wt) L = -1) := hide (by unfold szS; rw [HM.out, if_pos hc])
    go_enter Try.func9, Try.ntmps9
    go_wp2
    go_ret
    exact ⟨ret_int HD.out.symm, Below.refl _ _⟩
  · have HD : Hid (szS (l.map Fl.wt) L = szGo (l.map Fl.wt) (L - l.length)) := hide (by unfold szS; rw [HM.out, if_neg hc])
    go_enter Try.func9, Try.ntmps9
    go_wp2
    go_loopw [1, 5] (fun a t wr => ∃ (i : Nat) (left : Int), i ≤ l.length ∧ t = .int .i64 i ∧ a = .int .i64 left ∧ 0 ≤ left ∧ left ≤ 1048576 ∧ Below w.heap.size w wr ∧ szS (l.map Fl.wt) L = szGo ((l.map Fl.wt).drop i) left) (fun _ t _ => l.length - (intOf t).toNat)
    case atStart => exact ⟨0, _, Nat.zero_le _, rfl, rfl, by omega, by omega, Below.refl _ _, by rw [HD.out, List.drop_zero]⟩
    case round =>
      obtain ⟨i, left, hi, rfl, rfl, h0, h1, hB, he⟩ := hrel
      have HE := hide he
      clear he
      by_cases hlt : i < l.length
      · obtain ⟨c0, c1⟩ := (HT.out.below hB).2 i hlt
        have HS := hide (show szS (l.map Fl.wt) L = if left - ((l[i].name.size + l[i].text.size : Nat) : Int) < 0 then -1 else szGo ((l.map Fl.wt).drop (i + 1)) (left - ((l[i].name.size + l[i].text.size : Nat) : Int)) by rw [HE.out, szGo_at _ i left (by rw [HM.out]; exact hlt)]; simp [Fl.wt])
        have hN := szFile_any left l[i].name l[i].text wr (HX.out _ (List.getElem_mem hlt)).1 (HX.out _ (List.getElem_mem hlt)).2 h0 h1
        have HN := hide hN
        clear hN
        generalize l[i] = d at *
        generalize hdw : d.name.size + d.text.size = dw at *
        by_cases hq : left - (dw : Int) < 0
        · have HN2 := HN.out
          rw [if_pos hq] at HN2
          replace HN2 := hide HN2
          go_wp2_with fail
          refine HN2.out.mono ?_
          rintro e w1 ⟨rfl, hb1⟩
          go_wp2
          go_ret
          exact ⟨ret_int (by rw [HS.out, if_pos hq]), hB.trans (hb1.mono hB.size)⟩
        · have HN2 := HN.out
          rw [if_neg hq] at HN2
          replace HN2 := hide HN2
          go_wp2_with fail
          refine HN2.out.mono ?_
          rintro e w1 ⟨rfl, hb1⟩
          go_wp2
          go_roundw
          case rel => exact ⟨i + 1, left - dw, by omega, by go_num, rfl, by omega, by omega, hB.trans (hb1.mono hB.size), by rw [HS.out, if_neg (by omega)]⟩
          case measure => simp [intOf]; omega
      · go_wp2
        go_ret
        refine ⟨ret_int ?_, hB⟩
        rw [HE.out, List.drop_of_length_le (by rw [HM.out]; omega)]; rfl

set_option maxRecDepth 100000 in
set_option maxHeartbeats 1000000 in
theorem szT_some (L : Int) (hL0 : 0 ≤ L) (hL1 : L ≤ 1048576) (l : List ByteArray) (g o c : Nat) (w : World) (hl : l.length ≤ 9223372036854775807) (hx : ∀ x ∈ l, x.size ≤ 9223372036854775807) (ht : StrsO w g o l) :
    Calls Try.prog 10 #[.slice (some ⟨g, o, none⟩) l.length c, .int .i64 L] w fun e w' => e = .returned (.int .i64 (szS (l.map ByteArray.size) L)) ∧ Below w.heap.size w w' := by
  have HT := hide ht
  have HX := hide hx
  have HM : Hid ((l.map ByteArray.size).length = l.length) := hide (by simp)
  clear ht hx
  have hsub : wrap64 (L - (l.length : Int)) = L - l.length := by unfold wrap64; omega
  by_cases hc : L - l.length < 0
  · have HD : Hid (szS (l.map ByteArray.size) L = -1) := hide (by unfold szS; rw [HM.out, if_pos hc])
    go_enter Try.func10, Try.ntmps10
    go_wp2
    go_ret
    exact ⟨ret_int HD.out.symm, Below.refl _ _⟩
  · have HD : Hid (szS (l.map ByteArray.size) L = szGo (l.map ByteArray.size) (L - l.length)) := hide (by unfold szS; rw [HM.out, if_neg hc])
    go_enter Try.func10, Try.ntmps10
    go_wp2
    go_loopw [1, 5] (fun a t wr => ∃ (i : Nat) (left : Int), i ≤ l.length ∧ t = .int .i64 i ∧ a = .int .i64 left ∧ 0 ≤ left ∧ left ≤ 1048576 ∧ Below w.heap.size w wr ∧ szS (l.map ByteArray.size) L = szGo ((l.map ByteArray.size).drop i) left) (fun _ t _ => l.length - (intOf t).toNat)
    case atStart => exact ⟨0, _, Nat.zero_le _, rfl, rfl, by omega, by omega, Below.refl _ _, by rw [HD.out, List.drop_zero]⟩
    case round =>
      obtain ⟨i, left, hi, rfl, rfl, h0, h1, hB, he⟩ := hrel
      have HE := hide he
      clear he
      by_cases hlt : i < l.length
      · have c0 := (HT.out.below hB).2 i hlt
        have HS := hide (show szS (l.map ByteArray.size) L = if left - ((l[i].size : Nat) : Int) < 0 then -1 else szGo ((l.map ByteArray.size).drop (i + 1)) (left - ((l[i].size : Nat) : Int)) by rw [HE.out, szGo_at _ i left (by rw [HM.out]; exact hlt)]; simp)
        have hds := HX.out _ (List.getElem_mem hlt)
        generalize l[i] = d at *
        have hsub : wrap64 (left - (d.size : Int)) = left - d.size := by unfold wrap64; omega
        by_cases hq : left - (d.size : Int) < 0
        · go_wp2
          go_ret
          exact ⟨ret_int (by rw [HS.out, if_pos hq]), hB⟩
        · go_wp2
          go_roundw
          case rel => exact ⟨i + 1, left - d.size, by omega, by go_num, rfl, by omega, by omega, hB, by rw [HS.out, if_neg (by omega)]⟩
          case measure => simp [intOf]; omega
      · go_wp2
        go_ret
        refine ⟨ret_int ?_, hB⟩
        rw [HE.out, List.drop_of_length_le (by rw [HM.out]; omega)]; rfl

theorem szF_any (L : Int) (hL0 : 0 ≤ L) (hL1 : L ≤ 1048576) (l : List Fl) (v : Value) (w : World) (hl : l.length ≤ 9223372036854775807) (hx : ∀ x ∈ l, x.name.size ≤ 9223372036854775807 ∧ x.text.size ≤ 9223372036854775807) (ht : FilesV w v l) :
    Calls Try.prog 9 #[v, .int .i64 L] w fun e w' => e = .returned (.int .i64 (szS (l.map Fl.wt) L)) ∧ Below w.heap.size w w' := by
  rcases ht with ⟨p, c, rfl, rfl⟩ | ⟨g, o, c, rfl, h⟩
  · rw [show szS ([].map Fl.wt) L = L from by unfold szS; rw [if_neg (by simp; omega)]; simp [szGo]]
    exact szF_nil L hL0 hL1 p c w
  · exact szF_some L hL0 hL1 l g o c w hl hx h
theorem szT_any (L : Int) (hL0 : 0 ≤ L) (hL1 : L ≤ 1048576) (l : List ByteArray) (v : Value) (w : World) (hl : l.length ≤ 9223372036854775807) (hx : ∀ x ∈ l, x.size ≤ 9223372036854775807) (ht : StrsV w v l) :
    Calls Try.prog 10 #[v, .int .i64 L] w fun e w' => e = .returned (.int .i64 (szS (l.map ByteArray.size) L)) ∧ Below w.heap.size w w' := by
  rcases ht with ⟨p, c, rfl, rfl⟩ | ⟨g, o, c, rfl, h⟩
  · rw [show szS ([].map ByteArray.size) L = L from by unfold szS; rw [if_neg (by simp; omega)]; simp [szGo]]
    exact szT_nil L hL0 hL1 p c w
  · exact szT_some L hL0 hL1 l g o c w hl hx h

/-- How much is left behind a world; below 0: too much. -/
def szW (fs : List Fl) (ns : List ByteArray) : Int := if szS (fs.map Fl.wt) 1048576 < 0 then -1 else if szS (ns.map ByteArray.size) (szS (fs.map Fl.wt) 1048576) < 0 then -1 else szS (ns.map ByteArray.size) (szS (fs.map Fl.wt) 1048576)
theorem szW_ok (fs : List Fl) (ns : List ByteArray) (h : ¬ szW fs ns < 0) : (fs.length ≤ 1048576 ∧ ∀ x ∈ fs, x.name.size ≤ 1048576 ∧ x.text.size ≤ 1048576) ∧ ns.length ≤ 1048576 ∧ ∀ x ∈ ns, x.size ≤ 1048576 := by
  unfold szW at h
  by_cases h1 : szS (fs.map Fl.wt) 1048576 < 0
  · rw [if_pos h1] at h; omega
  · rw [if_neg h1] at h
    obtain ⟨a1, a2, a3⟩ := szS_ok _ _ (by omega) h1
    by_cases h2 : szS (ns.map ByteArray.size) (szS (fs.map Fl.wt) 1048576) < 0
    · rw [if_pos h2] at h; omega
    · obtain ⟨b1, b2, b3⟩ := szS_ok _ _ a1 h2
      refine ⟨⟨by simpa using a2, fun x hx => ?_⟩, by simpa using b2, fun x hx => b3 _ (List.mem_map.2 ⟨x, hx, rfl⟩)⟩
      have := a3 _ (List.mem_map.2 ⟨x, hx, rfl⟩)
      unfold Fl.wt at this
      omega
set_option maxRecDepth 100000 in
set_option maxHeartbeats 1000000 in
theorem szWorld_any (fs : List Fl) (ns : List ByteArray) (vf vn : Value) (w : World) (hf : fs.length ≤ 9223372036854775807) (hfx : ∀ x ∈ fs, x.name.size ≤ 9223372036854775807 ∧ x.text.size ≤ 9223372036854775807) (hn : ns.length ≤ 9223372036854775807) (hnx : ∀ x ∈ ns, x.size ≤ 9223372036854775807) (htf : FilesV w vf fs) (htn : StrsV w vn ns) :
    Calls Try.prog 4 #[.agg #[vf, vn], .int .i64 1048576] w fun e w' => e = .returned (.int .i64 (szW fs ns)) ∧ Below w.heap.size w w' := by
  have r1 : Below w.heap.size w (w.alloc (.cells #[vf, vn] 25)) := (Below.refl _ _).alloc (Nat.le_refl _) _
  have HF := hide (szF_any 1048576 (by omega) (by omega) fs vf _ hf hfx (htf.below r1))
  have HN := hide (fun L w' (hb : Below w.heap.size w w') (h0 : 0 ≤ L) (h1 : L ≤ 1048576) => szT_any L h0 h1 ns vn w' hn hnx (htn.below hb))
  have HS : Hid (¬ szS (fs.map Fl.wt) 1048576 < 0 → szS (fs.map Fl.wt) 1048576 ≤ 1048576) := hide (fun h => (szS_ok _ _ (by omega) h).1)
  have hW : szW fs ns = if szS (fs.map Fl.wt) 1048576 < 0 then -1 else if szS (ns.map ByteArray.size) (szS (fs.map Fl.wt) 1048576) < 0 then -1 else szS (ns.map ByteArray.size) (szS (fs.map Fl.wt) 1048576) := rfl
  have HW := hide hW
  clear hW htf htn hf hfx hn hnx
  generalize szS (fs.map Fl.wt) 1048576 = r at *
  by_cases hr : r < 0
  · go_enter Try.func4, Try.ntmps4
    go_wp2_with fail
    refine HF.out.mono ?_
    rintro e w1 ⟨rfl, hb1⟩
    go_wp2
    go_ret
    exact ⟨ret_int (by rw [HW.out, if_pos hr]), r1.trans (hb1.mono (by simp))⟩
  · have hr1 := HS.out hr
    have HN2 := hide (fun w' (hb : Below w.heap.size w w') => HN.out r w' hb (by omega) hr1)
    have HW2 : Hid (szW fs ns = if szS (ns.map ByteArray.size) r < 0 then -1 else szS (ns.map ByteArray.size) r) := hide (by rw [HW.out, if_neg hr])
    clear HW HN HS
    generalize szS (ns.map ByteArray.size) r = q at *
    go_enter Try.func4, Try.ntmps4
    go_wp2_with fail
    refine HF.out.mono ?_
    rintro e w1 ⟨rfl, hb1⟩
    have B1 := r1.trans (hb1.mono (by simp))
    have c1 : w1.cell? ⟨w.heap.size, 1, none⟩ = some vn := (hb1.cell (p := ⟨w.heap.size, 1, none⟩) (by simp)).trans (by simp)
    clear hb1 HF
    by_cases hq : q < 0
    · go_wp2_with fail
      refine (HN2.out _ B1).mono ?_
      rintro e w2 ⟨rfl, hb2⟩
      go_wp2
      go_ret
      exact ⟨ret_int (by rw [HW2.out, if_pos hq]), B1.trans (hb2.mono B1.size)⟩
    · go_wp2_with fail
      refine (HN2.out _ B1).mono ?_
      rintro e w2 ⟨rfl, hb2⟩
      go_wp2
      go_ret
      exact ⟨ret_int (by rw [HW2.out, if_neg (by omega)]), B1.trans (hb2.mono B1.size)⟩
end Go.Proofs.Ythlddankekghbaa.Wd
