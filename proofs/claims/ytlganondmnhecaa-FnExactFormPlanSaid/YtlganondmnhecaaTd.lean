/- Walks: targets: the law's own functions: sizes of rows, copies, comparisons. -/
import Derived.Test.YtlganondmnhecaaTc
namespace Go.Proofs.Ytlganondmnhecaa.Pl
open Go.RowKit

theorem wtT_drop (l : List Tg) (i : Nat) (h : i < l.length) : wtT (l.drop i) = (l[i]).wt + wtT (l.drop (i + 1)) := by
  unfold wtT
  rw [List.drop_eq_getElem_cons h, List.map_cons, List.sum_cons]
theorem lessW_lessW (L : Int) (a b : Nat) : lessW L (a + b) = if lessW L a < 0 then -1 else lessW (lessW L a) b := by
  unfold lessW
  by_cases h : L - a < 0
  · rw [if_pos h, if_pos (by omega), if_pos (by omega)]
  · rw [if_neg h, if_neg h]
    by_cases h2 : L - (a : Nat) - b < 0
    · rw [if_pos h2, if_pos (by omega)]
    · rw [if_neg h2, if_neg (by omega)]; omega

theorem lessW_add (L : Int) (a b : Nat) (_h : ¬ L - a < 0) : lessW L (a + b) = lessW (L - a) b := by
  unfold lessW
  by_cases h2 : L - (a : Nat) - b < 0
  · rw [if_pos h2, if_pos (by omega)]
  · rw [if_neg h2, if_neg (by omega)]; omega

set_option maxHeartbeats 400000 in
theorem szP_nil (L : Int) (h0 : 0 ≤ L) (h1 : L ≤ 1048576) (p : Option Addr) (c : Nat) (w : World) :
    Calls Try.prog 4 #[.slice p 0 c, .int .i64 L] w fun e w' => e = .returned (.int .i64 L) ∧ Below w.heap.size w w' := by
  go_enter Try.func4, Try.ntmps4
  go_wp2
  go_loop [1, 5] (fun a t => a = .int .i64 L ∧ t = .int .i64 0) (fun _ _ => 0)
  case atStart => exact ⟨rfl, rfl⟩
  case round =>
    obtain ⟨rfl, rfl⟩ := hrel
    go_wp2
    go_ret
    exact ⟨rfl, Below.refl _ _⟩

set_option maxRecDepth 100000 in
set_option maxHeartbeats 1000000 in
theorem szP_some (L : Int) (hL0 : 0 ≤ L) (hL1 : L ≤ 1048576) (l : List Tg) (g o c : Nat) (w : World) (hl : l.length ≤ 9223372036854775807) (hx : ∀ x ∈ l, x.Small) (ht : TgsO w g o l) :
    Calls Try.prog 4 #[.slice (some ⟨g, o, none⟩) l.length c, .int .i64 L] w fun e w' => e = .returned (.int .i64 (lessW L (l.length + wtT l))) ∧ Below w.heap.size w w' := by
  have HT := hide ht
  have HX := hide hx
  clear ht hx
  have hsub : wrap64 (L - (l.length : Int)) = L - l.length := by unfold wrap64; omega
  by_cases hc : L - l.length < 0
  · have HD : Hid (lessW L (l.length + wtT l) = -1) := hide (by unfold lessW; rw [if_pos (by omega)])
    go_enter Try.func4, Try.ntmps4
    go_wp2
    go_ret
    exact ⟨ret_int HD.out.symm, Below.refl _ _⟩
  · have HD : Hid (lessW L (l.length + wtT l) = lessW (L - l.length) (wtT (l.drop 0))) := hide (by rw [List.drop_zero, lessW_add _ _ _ hc])
    go_enter Try.func4, Try.ntmps4
    go_wp2
    go_loopw [1, 5] (fun a t wr => ∃ (i : Nat) (left : Int), i ≤ l.length ∧ t = .int .i64 i ∧ a = .int .i64 left ∧ 0 ≤ left ∧ left ≤ 1048576 ∧ Below w.heap.size w wr ∧ lessW L (l.length + wtT l) = lessW left (wtT (l.drop i))) (fun _ t _ => l.length - (intOf t).toNat)
    case atStart => exact ⟨0, _, Nat.zero_le _, rfl, rfl, by omega, by omega, Below.refl _ _, HD.out⟩
    case round =>
      obtain ⟨i, left, hi, rfl, rfl, h0, h1, hB, he⟩ := hrel
      have HE := hide he
      clear he
      by_cases hlt : i < l.length
      · obtain ⟨vi, vo, c0, c1, c2, c3, c4, si, so⟩ := (HT.out.below hB).2 i hlt
        have HS := hide (show lessW L (l.length + wtT l) = if lessW left (l[i]).wt < 0 then -1 else lessW (lessW left (l[i]).wt) (wtT (l.drop (i + 1))) by rw [HE.out, wtT_drop l i hlt, lessW_lessW])
        have hlw : lessW left (l[i]).wt ≤ 1048576 := by unfold lessW; split <;> omega
        have HC := hide (szTarget_any left h0 h1 l[i] vi vo wr (HX.out _ (List.getElem_mem hlt)) si so)
        clear si so
        generalize l[i] = d at *
        generalize lessW left d.wt = r at *
        go_wp2_with fail
        refine HC.out.mono ?_
        rintro e w1 ⟨rfl, hb1⟩
        by_cases hq : r < 0
        · go_wp2
          go_ret
          exact ⟨ret_int (by rw [HS.out, if_pos hq]), hB.trans (hb1.mono hB.size)⟩
        · go_wp2
          go_roundw
          case rel => exact ⟨i + 1, r, by omega, by go_num, rfl, by omega, by omega, hB.trans (hb1.mono hB.size), by rw [HS.out, if_neg (by omega)]⟩
          case measure => simp [intOf]; omega
      · go_wp2
        go_ret
        refine ⟨ret_int ?_, hB⟩
        rw [HE.out, List.drop_of_length_le (by omega)]; unfold lessW wtT; simp; omega
theorem szP_any (L : Int) (hL0 : 0 ≤ L) (hL1 : L ≤ 1048576) (l : List Tg) (v : Value) (w : World) (hl : l.length ≤ 9223372036854775807) (hx : ∀ x ∈ l, x.Small) (ht : TgsV w v l) :
    Calls Try.prog 4 #[v, .int .i64 L] w fun e w' => e = .returned (.int .i64 (lessW L (l.length + wtT l))) ∧ Below w.heap.size w w' := by
  rcases ht with ⟨p, c, rfl, rfl⟩ | ⟨g, o, c, rfl, h⟩
  · rw [show lessW L (([] : List Tg).length + wtT []) = L from by unfold lessW wtT; simp; omega]
    exact szP_nil L hL0 hL1 p c w
  · exact szP_some L hL0 hL1 l g o c w hl hx h

/-- A copy of a target: its rows of texts lie in blocks gi, go. -/
def TgC (w : World) (g o : Nat) (x : Tg) (gi go : Nat) : Prop := w.cell? ⟨g, o, none⟩ = some (.string x.name) ∧ w.cell? ⟨g, o + 1, none⟩ = some (.string x.tool) ∧ w.cell? ⟨g, o + 2, none⟩ = some (.string x.arg) ∧ w.cell? ⟨g, o + 3, none⟩ = some (.slice (some ⟨gi, 0, none⟩) x.ins.length x.ins.length) ∧ w.cell? ⟨g, o + 4, none⟩ = some (.slice (some ⟨go, 0, none⟩) x.outs.length x.outs.length) ∧ StrsO w gi 0 x.ins ∧ StrsO w go 0 x.outs
def TgsC (w : World) (g : Nat) (l : List Tg) : Prop := g < w.heap.size ∧ ∀ i (h : i < l.length), ∃ gi go, TgC w g (i * 5) l[i] gi go
theorem TgC.below {w w' : World} {g o : Nat} {x : Tg} {gi go : Nat} (h : TgC w g o x gi go) (hg : g < w.heap.size) (hb : Below w.heap.size w w') : TgC w' g o x gi go := by
  obtain ⟨h0, h1, h2, h3, h4, h5, h6⟩ := h
  exact ⟨(hb.cell (p := ⟨g, o, none⟩) hg).trans h0, (hb.cell (p := ⟨g, o + 1, none⟩) hg).trans h1, (hb.cell (p := ⟨g, o + 2, none⟩) hg).trans h2, (hb.cell (p := ⟨g, o + 3, none⟩) hg).trans h3, (hb.cell (p := ⟨g, o + 4, none⟩) hg).trans h4, h5.below hb, h6.below hb⟩
theorem TgsC.below {w w' : World} {g : Nat} {l : List Tg} (h : TgsC w g l) (hb : Below w.heap.size w w') : TgsC w' g l :=
  ⟨Nat.lt_of_lt_of_le h.1 hb.size, fun i hi => by obtain ⟨vi, vo, q⟩ := h.2 i hi; exact ⟨vi, vo, q.below h.1 hb⟩⟩

/-- toTarget's own boxes, in a later world: the argument's, the answer's, the variable's. -/
structure TB (w : World) (a x : Array Value) (W : World) : Prop where
  B : Below w.heap.size w W
  c : ∀ j, j < 5 → W.cell? ⟨w.heap.size, j, none⟩ = a[j]?
  y : ∀ j, j < 5 → W.cell? ⟨w.heap.size + 1, j, none⟩ = #[Value.string ⟨#[]⟩, .string ⟨#[]⟩, .string ⟨#[]⟩, .slice none 0 0, .slice none 0 0][j]?
  o : ∀ j, j < 5 → W.cell? ⟨w.heap.size + 1 + 1, j, none⟩ = x[j]?
  g : ∀ j, W.frozen? ⟨w.heap.size + 1, j, none⟩ = false
  f : ∀ j, W.frozen? ⟨w.heap.size + 1 + 1, j, none⟩ = false
  z : w.heap.size + 1 + 1 < W.heap.size
theorem TB.below {w W W' : World} {a x : Array Value} (h : TB w a x W) (hb : Below W.heap.size W W') : TB w a x W' := by
  have hz := h.z
  have e : ∀ b o, b ≤ w.heap.size + 1 + 1 → W'.cell? ⟨b, o, none⟩ = W.cell? ⟨b, o, none⟩ := fun b o hb' => hb.cell (p := ⟨b, o, none⟩) (by show b < _; omega)
  have f : ∀ b o, b ≤ w.heap.size + 1 + 1 → W'.frozen? ⟨b, o, none⟩ = W.frozen? ⟨b, o, none⟩ := fun b o hb' => hb.frozen (p := ⟨b, o, none⟩) (by show b < _; omega)
  exact ⟨h.B.trans (hb.mono h.B.size), fun j hj => (e _ _ (by omega)).trans (h.c j hj), fun j hj => (e _ _ (by omega)).trans (h.y j hj), fun j hj => (e _ _ (by omega)).trans (h.o j hj), fun j => (f _ _ (by omega)).trans (h.g j), fun j => (f _ _ (by omega)).trans (h.f j), Nat.lt_of_lt_of_le hz hb.size⟩
theorem TB.put {w W : World} {a x : Array Value} (h : TB w a x W) (i : Nat) (hi : i < x.size) (v : Value) : TB w a (x.setIfInBounds i v) (W.setCell ⟨w.heap.size + 1 + 1, i, none⟩ v) := by
  have hs : (W.setCell ⟨w.heap.size + 1 + 1, i, none⟩ v).heap.size = W.heap.size := by simp
  have e : ∀ a : Addr, (⟨w.heap.size + 1 + 1, i, none⟩ : Addr) ≠ a → (W.setCell ⟨w.heap.size + 1 + 1, i, none⟩ v).cell? a = W.cell? a := fun a ha => World.cell?_setCell_other _ _ _ _ ha
  refine ⟨h.B.setCell (p := ⟨w.heap.size + 1 + 1, i, none⟩) (by show w.heap.size ≤ w.heap.size + 1 + 1; omega) _, fun j hj => (e _ (by simp)).trans (h.c j hj), fun j hj => (e _ (by simp)).trans (h.y j hj), fun j hj => ?_, fun j => by simpa using h.g j, fun j => by simpa using h.f j, by rw [hs]; exact h.z⟩
  by_cases hij : i = j
  · subst hij
    rw [Array.getElem?_setIfInBounds_self_of_lt hi]
    exact World.cell?_setCell_same _ _ _ ((h.o i hj).trans (Array.getElem?_eq_getElem hi))
  · rw [Array.getElem?_setIfInBounds_ne hij]
    exact (e _ (fun h => hij (by injection h))).trans (h.o j hj)
theorem TB.start (w : World) (a0 a1 a2 a3 a4 x0 x1 x2 x3 x4 : Value) : TB w #[a0, a1, a2, a3, a4] #[x0, x1, x2, x3, x4] (((w.alloc (.cells #[a0, a1, a2, a3, a4] 32)).alloc (.cells #[.string ⟨#[]⟩, .string ⟨#[]⟩, .string ⟨#[]⟩, .slice none 0 0, .slice none 0 0] 34)).alloc (.cells #[x0, x1, x2, x3, x4] 34)) := by
  have k : ∀ (X : World) (o : Array Value) (t : TypeId) j, (X.alloc (.cells o t)).cell? ⟨X.heap.size, j, none⟩ = o[j]? := fun X o t j => by simp
  have kf : ∀ (X : World) (o : Array Value) (t : TypeId) j, (X.alloc (.cells o t)).frozen? ⟨X.heap.size, j, none⟩ = false := fun X o t j => by simp
  have n1 : ∀ (X : World) (o : Obj) (b j : Nat), b < X.heap.size → (X.alloc o).cell? ⟨b, j, none⟩ = X.cell? ⟨b, j, none⟩ := fun X o b j hb => ((Below.refl X.heap.size X).alloc (Nat.le_refl _) o).cell (p := ⟨b, j, none⟩) hb
  have n2 : ∀ (X : World) (o : Obj) (b j : Nat), b < X.heap.size → (X.alloc o).frozen? ⟨b, j, none⟩ = X.frozen? ⟨b, j, none⟩ := fun X o b j hb => ((Below.refl X.heap.size X).alloc (Nat.le_refl _) o).frozen (p := ⟨b, j, none⟩) hb
  generalize hX : w.alloc (.cells #[a0, a1, a2, a3, a4] 32) = X
  have sX : X.heap.size = w.heap.size + 1 := by rw [← hX, World.size_alloc]
  generalize hY : X.alloc (.cells #[.string ⟨#[]⟩, .string ⟨#[]⟩, .string ⟨#[]⟩, .slice none 0 0, .slice none 0 0] 34) = Y
  have sY : Y.heap.size = w.heap.size + 1 + 1 := by rw [← hY, World.size_alloc, sX]
  refine ⟨?_, fun j hj => ?_, fun j hj => ?_, fun j hj => ?_, fun j => ?_, fun j => ?_, by rw [World.size_alloc, sY]; omega⟩
  · rw [← hY, ← hX]; exact (((Below.refl _ _).alloc (Nat.le_refl _) _).alloc (by simp) _).alloc (by simp; omega) _
  · rw [n1 Y _ _ _ (by omega), ← hY, n1 X _ _ _ (by omega), ← hX]; exact k _ _ _ _
  · rw [n1 Y _ _ _ (by omega), ← hY, ← sX]; exact k _ _ _ _
  · rw [← sY]; exact k _ _ _ _
  · rw [n2 Y _ _ _ (by omega), ← hY, ← sX]; exact kf _ _ _ _
  · rw [← sY]; exact kf _ _ _ _
theorem StrsO.set {w : World} {g o : Nat} {l : List ByteArray} (h : StrsO w g o l) (a : Addr) (hg : g ≠ a.block) (v : Value) : StrsO (w.setCell a v) g o l := h.heap (Below.heap_setCell _ _ _ _ hg)

set_option maxRecDepth 100000 in
set_option maxHeartbeats 1000000 in
theorem toTarget_any (x : Tg) (vi vo : Value) (w : World) (hi : x.ins.length ≤ 1048576) (ho : x.outs.length ≤ 1048576) (hti : StrsV w vi x.ins) (hto : StrsV w vo x.outs) :
    Calls Try.prog 11 #[.agg #[.string x.name, .string x.tool, .string x.arg, vi, vo]] w fun e w' => ∃ gi go, e = .returned (.agg #[.string x.name, .string x.tool, .string x.arg, .slice (some ⟨gi, 0, none⟩) x.ins.length x.ins.length, .slice (some ⟨go, 0, none⟩) x.outs.length x.outs.length]) ∧ w.heap.size ≤ gi ∧ w.heap.size ≤ go ∧ StrsO w' gi 0 x.ins ∧ StrsO w' go 0 x.outs ∧ Below w.heap.size w w' := by
  have HI := hide (fun w' (hb : Below w.heap.size w w') => toT_any x.ins vi w' hi (hti.below hb))
  have HO := hide (fun w' (hb : Below w.heap.size w w') => toT_any x.outs vo w' ho (hto.below hb))
  have t0 := TB.start w (.string x.name) (.string x.tool) (.string x.arg) vi vo (.string x.name) (.string x.tool) (.string x.arg) (.slice none 0 0) (.slice none 0 0)
  clear hti hto
  generalize x.name = a at *
  generalize x.tool = b at *
  generalize x.arg = c at *
  generalize x.ins = li at *
  generalize x.outs = lo at *
  have HT0 := hide t0
  clear t0
  go_enter Try.func11, Try.ntmps11
  go_wp2_with fail
  refine (HI.out _ HT0.out.B).mono ?_
  rintro e w1 ⟨rfl, hI1, hb1⟩
  have t1 := HT0.out.below hb1
  have hz0 := HT0.out.z
  simp only [World.size_alloc] at hI1 hz0 ⊢
  have a3 := t1.o 3 (by omega)
  have a4 := t1.f 3
  have t2 := t1.put 3 (by simp) (.slice (some ⟨w.heap.size + 1 + 1 + 1, 0, none⟩) li.length li.length)
  have hI2 := hide (hI1.set ⟨w.heap.size + 1 + 1, 3, none⟩ (by show w.heap.size + 1 + 1 + 1 ≠ w.heap.size + 1 + 1; omega) (.slice (some ⟨w.heap.size + 1 + 1 + 1, 0, none⟩) li.length li.length))
  have a5 := t2.c 4 (by omega)
  simp at a3 a5
  have HT2 := hide t2
  clear hb1 HT0 t1 hI1 t2
  go_wp2_with fail
  refine (HO.out _ HT2.out.B).mono ?_
  rintro e w3 ⟨rfl, hO3, hb3⟩
  have t3 := HT2.out.below hb3
  have hz3 := HT2.out.z
  have hI3 := hide (hI2.out.below hb3)
  simp only [size_set] at hO3 hz3 ⊢
  have b0 := t3.o 0 (by omega)
  have b1 := t3.o 1 (by omega)
  have b2 := t3.o 2 (by omega)
  have b3 := t3.o 3 (by omega)
  have b4 := t3.o 4 (by omega)
  have f4 := t3.f 4
  have y0 := t3.y 0 (by omega)
  have y1 := t3.y 1 (by omega)
  have y2 := t3.y 2 (by omega)
  have y3 := t3.y 3 (by omega)
  have y4 := t3.y 4 (by omega)
  have g0 := t3.g 0
  have g1 := t3.g 1
  have g2 := t3.g 2
  have g3 := t3.g 3
  have g4 := t3.g 4
  simp at b0 b1 b2 b3 b4 y0 y1 y2 y3 y4
  have HO3 := hide hO3
  have HB := hide t3.B
  clear hb3 hO3 t3 a3 a4 a5 HT2 hI2
  go_wp2
  refine bodyPost_ret (v := .agg #[.string a, .string b, .string c, .slice (some ⟨w.heap.size + 1 + 1 + 1, 0, none⟩) li.length li.length, .slice (some ⟨w1.heap.size, 0, none⟩) lo.length lo.length]) (by simp [results, Try.results11, go_sem, y0, y1, y2, y3, y4]) rfl ⟨_, _, rfl, by omega, by omega, ?_, ?_, ?_⟩
  · iterate 6 (refine StrsO.set ?_ _ (by first | (show _ ≠ w.heap.size + 1 + 1; omega) | (show _ ≠ w.heap.size + 1; omega)) _)
    exact hI3.out
  · iterate 6 (refine StrsO.set ?_ _ (by first | (show _ ≠ w.heap.size + 1 + 1; omega) | (show _ ≠ w.heap.size + 1; omega)) _)
    exact HO3.out
  · iterate 6 (refine Below.setCell ?_ (by first | (show w.heap.size ≤ w.heap.size + 1 + 1; omega) | (show w.heap.size ≤ w.heap.size + 1; omega)) _)
    exact HB.out

theorem drop5 (xs : List Value) (i : Nat) (h : i * 5 + 5 ≤ xs.length) : ∃ a b c d e, xs.drop (i * 5) = a :: b :: c :: d :: e :: xs.drop ((i + 1) * 5) := by
  refine ⟨xs[i * 5], xs[i * 5 + 1], xs[i * 5 + 2], xs[i * 5 + 3], xs[i * 5 + 4], ?_⟩
  rw [List.drop_eq_getElem_cons (by omega), List.drop_eq_getElem_cons (by omega), List.drop_eq_getElem_cons (by omega), List.drop_eq_getElem_cons (by omega), List.drop_eq_getElem_cons (by omega), show i * 5 + 1 + 1 + 1 + 1 + 1 = (i + 1) * 5 from by omega]
theorem set5_0 (P R : List Value) (a b c d e v : Value) (k : Nat) (h : P.length = k) : (P ++ a :: b :: c :: d :: e :: R).set k v = P ++ v :: b :: c :: d :: e :: R := by subst h; simp
theorem set5_1 (P R : List Value) (a b c d e v : Value) (k : Nat) (h : P.length = k) : (P ++ a :: b :: c :: d :: e :: R).set (k + 1) v = P ++ a :: v :: c :: d :: e :: R := by subst h; simp
theorem set5_2 (P R : List Value) (a b c d e v : Value) (k : Nat) (h : P.length = k) : (P ++ a :: b :: c :: d :: e :: R).set (k + 2) v = P ++ a :: b :: v :: d :: e :: R := by subst h; simp
theorem set5_3 (P R : List Value) (a b c d e v : Value) (k : Nat) (h : P.length = k) : (P ++ a :: b :: c :: d :: e :: R).set (k + 3) v = P ++ a :: b :: c :: v :: e :: R := by subst h; simp
theorem set5_4 (P R : List Value) (a b c d e v : Value) (k : Nat) (h : P.length = k) : (P ++ a :: b :: c :: d :: e :: R).set (k + 4) v = P ++ a :: b :: c :: d :: v :: R := by subst h; simp
theorem Try.infoTg : (Try.prog.info? 34).map (fun i => (i.zero, i.size, i.bytes)) = some (some (.agg #[.string ⟨#[]⟩, .string ⟨#[]⟩, .string ⟨#[]⟩, .slice none 0 0, .slice none 0 0]), 5, 96) := by kernel_rfl
/-- The cells of copies, with the blocks of their rows. -/
def cellsC : List (Tg × Nat × Nat) → List Value
  | [] => []
  | (x, gi, go) :: r => .string x.name :: .string x.tool :: .string x.arg :: .slice (some ⟨gi, 0, none⟩) x.ins.length x.ins.length :: .slice (some ⟨go, 0, none⟩) x.outs.length x.outs.length :: cellsC r
theorem cellsC_len (l : List (Tg × Nat × Nat)) : (cellsC l).length = l.length * 5 := by
  induction l with
  | nil => rfl
  | cons x r ih => obtain ⟨x, gi, go⟩ := x; simp [cellsC, ih]; omega
theorem cellsC_snoc (l : List (Tg × Nat × Nat)) (x : Tg) (gi go : Nat) : cellsC (l ++ [(x, gi, go)]) = cellsC l ++ [.string x.name, .string x.tool, .string x.arg, .slice (some ⟨gi, 0, none⟩) x.ins.length x.ins.length, .slice (some ⟨go, 0, none⟩) x.outs.length x.outs.length] := by
  induction l with
  | nil => rfl
  | cons y r ih => obtain ⟨y, a, b⟩ := y; simp [cellsC, ih]
theorem cellsC_at (l : List (Tg × Nat × Nat)) (i : Nat) (h : i < l.length) : (cellsC l)[i * 5]? = some (.string (l[i]).1.name) ∧ (cellsC l)[i * 5 + 1]? = some (.string (l[i]).1.tool) ∧ (cellsC l)[i * 5 + 2]? = some (.string (l[i]).1.arg) ∧ (cellsC l)[i * 5 + 3]? = some (.slice (some ⟨(l[i]).2.1, 0, none⟩) (l[i]).1.ins.length (l[i]).1.ins.length) ∧ (cellsC l)[i * 5 + 4]? = some (.slice (some ⟨(l[i]).2.2, 0, none⟩) (l[i]).1.outs.length (l[i]).1.outs.length) := by
  induction l generalizing i with
  | nil => simp at h
  | cons y r ih =>
    obtain ⟨y, a, b⟩ := y
    match i, h with
    | 0, _ => simp [cellsC]
    | i + 1, h =>
      have := ih i (by simpa using h)
      rw [cellsC, show (i + 1) * 5 = i * 5 + 1 + 1 + 1 + 1 + 1 from by omega]
      simp only [List.getElem_cons_succ]
      exact this
end Go.Proofs.Ytlganondmnhecaa.Pl
