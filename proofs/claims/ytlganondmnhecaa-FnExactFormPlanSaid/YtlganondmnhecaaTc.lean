/- Walks: targets: the law's own functions: sizes. -/
import Derived.Test.YtlganondmnhecaaTb
namespace Go.Proofs.Ytlganondmnhecaa.Pl
open Go.RowKit

structure Tg where
  name : ByteArray
  tool : ByteArray
  arg : ByteArray
  ins : List ByteArray
  outs : List ByteArray
/-- The weight of texts. -/
def wtS (l : List ByteArray) : Nat := l.length + (l.map ByteArray.size).sum
def Tg.wt (x : Tg) : Nat := x.name.size + x.tool.size + x.arg.size + wtS x.ins + wtS x.outs
def wtT (l : List Tg) : Nat := (l.map Tg.wt).sum
/-- Texts that are no longer than any text. -/
def SmallS (l : List ByteArray) : Prop := l.length ≤ 9223372036854775807 ∧ ∀ x ∈ l, x.size ≤ 9223372036854775807
def Tg.Small (x : Tg) : Prop := x.name.size ≤ 9223372036854775807 ∧ x.tool.size ≤ 9223372036854775807 ∧ x.arg.size ≤ 9223372036854775807 ∧ SmallS x.ins ∧ SmallS x.outs

/-- What is left behind a weight; below 0: too much. -/
def lessW (L : Int) (n : Nat) : Int := if L - n < 0 then -1 else L - n
theorem szGo_eq (l : List Nat) (L : Int) (h : 0 ≤ L) : szGo l L = lessW L l.sum := by
  induction l generalizing L with
  | nil => simp [szGo, lessW]; omega
  | cons x r ih =>
    rw [szGo, List.sum_cons]
    by_cases hc : L - x < 0
    · rw [if_pos hc]; unfold lessW; rw [if_pos (by omega)]
    · rw [if_neg hc, ih _ (by omega)]; unfold lessW
      by_cases hd : L - x - (r.sum : Nat) < 0
      · rw [if_pos hd, if_pos (by omega)]
      · rw [if_neg hd, if_neg (by omega)]; omega
theorem szS_eq (l : List ByteArray) (L : Int) (_h : 0 ≤ L) : szS (l.map ByteArray.size) L = lessW L (wtS l) := by
  unfold szS wtS
  rw [List.length_map]
  by_cases hc : L - l.length < 0
  · rw [if_pos hc]; unfold lessW; rw [if_pos (by omega)]
  · rw [if_neg hc, szGo_eq _ _ (by omega)]; unfold lessW
    by_cases hd : L - l.length - ((l.map ByteArray.size).sum : Nat) < 0
    · rw [if_pos hd, if_pos (by omega)]
    · rw [if_neg hd, if_neg (by omega)]; omega
theorem szT_wt (L : Int) (hL0 : 0 ≤ L) (hL1 : L ≤ 1048576) (l : List ByteArray) (v : Value) (w : World) (hs : SmallS l) (ht : StrsV w v l) :
    Calls Try.prog 16 #[v, .int .i64 L] w fun e w' => e = .returned (.int .i64 (lessW L (wtS l))) ∧ Below w.heap.size w w' := by
  rw [← szS_eq l L hL0]
  exact szT_any L hL0 hL1 l v w hs.1 hs.2 ht

/-- A target in memory. -/
def TgAt (w : World) (g o : Nat) (x : Tg) (vi vo : Value) : Prop := w.cell? ⟨g, o, none⟩ = some (.string x.name) ∧ w.cell? ⟨g, o + 1, none⟩ = some (.string x.tool) ∧ w.cell? ⟨g, o + 2, none⟩ = some (.string x.arg) ∧ w.cell? ⟨g, o + 3, none⟩ = some vi ∧ w.cell? ⟨g, o + 4, none⟩ = some vo ∧ StrsV w vi x.ins ∧ StrsV w vo x.outs
def TgsO (w : World) (g o : Nat) (l : List Tg) : Prop := g < w.heap.size ∧ ∀ i (h : i < l.length), ∃ vi vo, TgAt w g (o + i * 5) l[i] vi vo
theorem TgAt.below {w w' : World} {g o : Nat} {x : Tg} {vi vo : Value} (h : TgAt w g o x vi vo) (hg : g < w.heap.size) (hb : Below w.heap.size w w') : TgAt w' g o x vi vo := by
  obtain ⟨h0, h1, h2, h3, h4, h5, h6⟩ := h
  exact ⟨(hb.cell (p := ⟨g, o, none⟩) hg).trans h0, (hb.cell (p := ⟨g, o + 1, none⟩) hg).trans h1, (hb.cell (p := ⟨g, o + 2, none⟩) hg).trans h2, (hb.cell (p := ⟨g, o + 3, none⟩) hg).trans h3, (hb.cell (p := ⟨g, o + 4, none⟩) hg).trans h4, h5.below hb, h6.below hb⟩
theorem TgsO.below {w w' : World} {g o : Nat} {l : List Tg} (h : TgsO w g o l) (hb : Below w.heap.size w w') : TgsO w' g o l :=
  ⟨Nat.lt_of_lt_of_le h.1 hb.size, fun i hi => by obtain ⟨vi, vo, q⟩ := h.2 i hi; exact ⟨vi, vo, q.below h.1 hb⟩⟩
def TgsV (w : World) (v : Value) (l : List Tg) : Prop := (∃ p c, v = .slice p 0 c ∧ l = []) ∨ ∃ g o c, v = .slice (some ⟨g, o, none⟩) l.length c ∧ TgsO w g o l
theorem TgsV.below {w w' : World} {v : Value} {l : List Tg} (h : TgsV w v l) (hb : Below w.heap.size w w') : TgsV w' v l := by
  rcases h with h | ⟨g, o, c, h1, h2⟩
  · exact .inl h
  · exact .inr ⟨g, o, c, h1, h2.below hb⟩

theorem box5 (w : World) (a b c d e : Value) (t : TypeId) : Below w.heap.size w (w.alloc (.cells #[a, b, c, d, e] t)) ∧ (w.alloc (.cells #[a, b, c, d, e] t)).cell? ⟨w.heap.size, 0, none⟩ = some a ∧ (w.alloc (.cells #[a, b, c, d, e] t)).cell? ⟨w.heap.size, 1, none⟩ = some b ∧ (w.alloc (.cells #[a, b, c, d, e] t)).cell? ⟨w.heap.size, 2, none⟩ = some c ∧ (w.alloc (.cells #[a, b, c, d, e] t)).cell? ⟨w.heap.size, 3, none⟩ = some d ∧ (w.alloc (.cells #[a, b, c, d, e] t)).cell? ⟨w.heap.size, 4, none⟩ = some e ∧ (w.alloc (.cells #[a, b, c, d, e] t)).heap.size = w.heap.size + 1 :=
  ⟨(Below.refl _ _).alloc (Nat.le_refl _) _, by simp, by simp, by simp, by simp, by simp, World.size_alloc _ _⟩

set_option maxRecDepth 100000 in
set_option maxHeartbeats 1000000 in
theorem szTarget_any (L : Int) (hL0 : 0 ≤ L) (hL1 : L ≤ 1048576) (x : Tg) (vi vo : Value) (w : World) (hs : x.Small) (hi : StrsV w vi x.ins) (ho : StrsV w vo x.outs) :
    Calls Try.prog 9 #[.agg #[.string x.name, .string x.tool, .string x.arg, vi, vo], .int .i64 L] w fun e w' => e = .returned (.int .i64 (lessW L x.wt)) ∧ Below w.heap.size w w' := by
  obtain ⟨s1, s2, s3, s4, s5⟩ := hs
  have m := box5 w (.string x.name) (.string x.tool) (.string x.arg) vi vo 32
  have HI := hide (fun (M : Int) (h0 : 0 ≤ M) (h1 : M ≤ 1048576) w' (hb : Below w.heap.size w w') => szT_wt M h0 h1 x.ins vi w' s4 (hi.below hb))
  have HO := hide (fun (M : Int) (h0 : 0 ≤ M) (h1 : M ≤ 1048576) w' (hb : Below w.heap.size w w') => szT_wt M h0 h1 x.outs vo w' s5 (ho.below hb))
  have HW : Hid (x.wt = x.name.size + x.tool.size + x.arg.size + wtS x.ins + wtS x.outs) := hide rfl
  clear hi ho s4 s5
  obtain ⟨m0, m1, m2, m3, m4, m5, m6⟩ := m
  generalize x.name = a at *
  generalize x.tool = b at *
  generalize x.arg = c at *
  generalize wtS x.ins = ni at *
  generalize wtS x.outs = no at *
  generalize x.wt = wt at *
  have hw := HW.out
  have e1 : wrap64 (L - (a.size : Int)) = L - a.size := by unfold wrap64; omega
  by_cases c1 : L - (a.size : Int) < 0
  · go_enter Try.func9, Try.ntmps9
    go_wp2
    go_ret
    exact ⟨ret_int (by unfold lessW; rw [if_pos (by omega)]), m0⟩
  · have e2 : wrap64 (L - (a.size : Int) - (b.size : Int)) = L - a.size - b.size := by unfold wrap64; omega
    by_cases c2 : L - (a.size : Int) - b.size < 0
    · go_enter Try.func9, Try.ntmps9
      go_wp2
      go_ret
      exact ⟨ret_int (by unfold lessW; rw [if_pos (by omega)]), m0⟩
    · have e3 : wrap64 (L - (a.size : Int) - (b.size : Int) - (c.size : Int)) = L - a.size - b.size - c.size := by unfold wrap64; omega
      by_cases c3 : L - (a.size : Int) - b.size - c.size < 0
      · go_enter Try.func9, Try.ntmps9
        go_wp2
        go_ret
        exact ⟨ret_int (by unfold lessW; rw [if_pos (by omega)]), m0⟩
      · have HI1 := hide (HI.out (L - a.size - b.size - c.size) (by omega) (by omega) _ m0)
        by_cases c4 : L - (a.size : Int) - b.size - c.size - ni < 0
        · have HI2 := HI1.out
          rw [show lessW (L - a.size - b.size - c.size) ni = -1 from by unfold lessW; rw [if_pos c4]] at HI2
          replace HI2 := hide HI2
          clear HI1 HI
          go_enter Try.func9, Try.ntmps9
          go_wp2_with fail
          refine HI2.out.mono ?_
          rintro e w1 ⟨rfl, hb1⟩
          go_wp2
          go_ret
          exact ⟨ret_int (by unfold lessW; rw [if_pos (by omega)]), m0.trans (hb1.mono (by omega))⟩
        · have HI2 := HI1.out
          rw [show lessW (L - a.size - b.size - c.size) ni = L - a.size - b.size - c.size - ni from by unfold lessW; rw [if_neg c4]] at HI2
          replace HI2 := hide HI2
          have HO1 := hide (fun w' hb => HO.out (L - a.size - b.size - c.size - ni) (by omega) (by omega) w' hb)
          clear HI1 HI HO
          by_cases c5 : L - (a.size : Int) - b.size - c.size - ni - no < 0
          all_goals
            have HO2 := HO1.out
            first
              | rw [show lessW (L - a.size - b.size - c.size - ni) no = -1 from by unfold lessW; rw [if_pos c5]] at HO2
              | rw [show lessW (L - a.size - b.size - c.size - ni) no = L - a.size - b.size - c.size - ni - no from by unfold lessW; rw [if_neg c5]] at HO2
            replace HO2 := hide HO2
            clear HO1
            go_enter Try.func9, Try.ntmps9
            go_wp2_with fail
            refine HI2.out.mono ?_
            rintro e w1 ⟨rfl, hb1⟩
            have k4 := (hb1.cell (p := ⟨w.heap.size, 4, none⟩) (by show w.heap.size < _; omega)).trans m5
            have B1 := m0.trans (hb1.mono (by omega))
            go_wp2_with fail
            refine (HO2.out _ B1).mono ?_
            rintro e w2 ⟨rfl, hb2⟩
            go_wp2
            go_ret
            exact ⟨ret_int (by unfold lessW; first | rw [if_pos (by omega)] | (rw [if_neg (by omega)]; omega)), B1.trans (hb2.mono B1.size)⟩
end Go.Proofs.Ytlganondmnhecaa.Pl
