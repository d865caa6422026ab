/- Jh, Ji. -/
import Derived.Test.YtfjoecbkagedbaaGreatDoorY37
import Derived.Test.YtfjoecbkagedbaaGreatDoorY46
import Derived.Test.YtfjoecbkagedbaaGreatDoorY13
import Derived.Deep.RegionLaw
namespace Go.Proofs.YtfjoecbkagedbaaGreatDoor
open Go.RowKit

theorem below_box {w w1 : World} {o : Obj} (h : Below (w.alloc o).heap.size (w.alloc o) w1) : Below w.heap.size w w1 := ((Below.refl _ _).alloc (Nat.le_refl _) _).trans (h.mono (by simp))
theorem Tr.fits_12 (l : List Tr.Gr) : Tr.fits 12 l = (Tr.between 1 16 (l.take (Tr.plainN l)) && Tr.between 18 18 (l.drop (Tr.plainN l)) && Tr.differ (l.drop (Tr.plainN l))) := rfl
theorem Tr.fits_fn (k : Int) (l : List Tr.Gr) (h : k = 15 ∨ k = 20) : Tr.fits k l = (Tr.between 19 19 (l.take (l.length - 1)) && Tr.between 1 16 (l.drop (l.length - 1))) := by
  rcases h with rfl | rfl <;> rfl
theorem Tr.fits_o (k : Int) (l : List Tr.Gr) (h9 : k ≠ 9) (h12 : k ≠ 12) (h15 : k ≠ 15) (h20 : k ≠ 20) (h23 : k ≠ 23) (h24 : k ≠ 24) : Tr.fits k l = Tr.between 1 16 l := by
  unfold Tr.fits
  rw [if_neg h9, if_neg h12, if_neg (by omega), if_neg h23, if_neg h24]
set_option maxRecDepth 100000 in
set_option maxHeartbeats 1000000 in
theorem kidsFit_12 (op n m : Int) (s : ByteArray) (l : List Tr.Gr) (g o c : Nat) (w : World) (hl : l.length ≤ 1048576) (h1 : 1 ≤ l.length) (hcap : l.length ≤ c) (hh : ∀ x ∈ l, x.nd.text.size ≤ 1048576) (ht : GrAt w g o l) :
    Calls Tryz.prog 41 #[.agg #[.int .i64 12, .int .i64 op, .int .i64 n, .string s, .int .i64 m], .slice (some ⟨g, o, none⟩) l.length c] w fun e w' => e = .returned (.bool (Tr.fits 12 l)) ∧ Below w.heap.size w w' := by
  have HT := hide (ht.below ((Below.refl _ _).alloc (Nat.le_refl _) (.cells #[.int .i64 12, .int .i64 op, .int .i64 n, .string s, .int .i64 m] 41)))
  have HH := hide hh
  clear hh ht
  go_enter Tryz.func41, Tryz.ntmps41
  go_wp2
  go_loop [5] (fun t => ∃ p : Nat, 1 ≤ p ∧ p ≤ l.length ∧ t = .int .i64 p ∧ Tr.plainN l = p + ((l.drop p).takeWhile fun g => g.nd.kind != 18).length) (fun t => l.length - (intOf t).toNat)
  case atStart => exact ⟨1, Nat.le_refl _, h1, rfl, rfl⟩
  case round =>
    obtain ⟨p, hp1, hp, rfl, he⟩ := hrel
    have HE := hide he
    clear he
    have HTV := hide (HT.out.takeV hp hcap)
    have HDV := hide (HT.out.dropQ (n := l.length - p) hp hcap rfl)
    have hlT : (l.take p).length ≤ 1048576 := by rw [List.length_take]; omega
    have hlD : (l.drop p).length ≤ 1048576 := by rw [List.length_drop]; omega
    have HHD : Hid (∀ x ∈ l.drop p, x.nd.text.size ≤ 1048576) := hide fun x hx => HH.out x (List.mem_of_mem_drop hx)
    have hpl : ((l.length - p : Nat) : Int) = (l.length : Int) - p := by omega
    by_cases hlt : p < l.length
    · obtain ⟨c0, c1, c2, c3, c4, c5⟩ := HT.out.2 p hlt
      have HD := hide (List.drop_eq_getElem_cons hlt)
      cases hk : (l[p].nd.kind != 18)
      · have HP := hide (show Tr.plainN l = p by rw [HE.out, HD.out, List.takeWhile_cons, hk]; simp)
        generalize l[p].nd.kind = kp at *
        clear HE HD
        cases hA : Tr.between 1 16 (l.take p)
        · go_wp2_with fail
          refine (kinds_any (l.take p) _ 1 16 _ hlT HTV.out).mono ?_
          rintro e w1 ⟨rfl, hb1⟩
          go_wp2
          go_ret
          exact ⟨ret_bool (by rw [Tr.fits_12, HP.out, hA]; rfl), below_box hb1⟩
        · cases hB : Tr.between 18 18 (l.drop p)
          · go_wp2_with fail
            refine (kinds_any (l.take p) _ 1 16 _ hlT HTV.out).mono ?_
            rintro e w1 ⟨rfl, hb1⟩
            go_wp2_with fail
            refine (kinds_any (l.drop p) _ 18 18 _ hlD ((HDV.out _ (.inl rfl)).below hb1)).mono ?_
            rintro e w2 ⟨rfl, hb2⟩
            go_wp2
            go_ret
            exact ⟨ret_bool (by rw [Tr.fits_12, HP.out, hA, hB]; rfl), (below_box hb1).trans (hb2.mono (below_box hb1).size)⟩
          · go_wp2_with fail
            refine (kinds_any (l.take p) _ 1 16 _ hlT HTV.out).mono ?_
            rintro e w1 ⟨rfl, hb1⟩
            go_wp2_with fail
            refine (kinds_any (l.drop p) _ 18 18 _ hlD ((HDV.out _ (.inl rfl)).below hb1)).mono ?_
            rintro e w2 ⟨rfl, hb2⟩
            go_wp2_with fail
            refine (texts_any (l.drop p) _ _ hlD HHD.out (((HDV.out _ (.inl rfl)).below hb1).below hb2)).mono ?_
            rintro e w3 ⟨rfl, hb3⟩
            go_wp2
            go_ret
            have q2 := (below_box hb1).trans (hb2.mono (below_box hb1).size)
            exact ⟨ret_bool (by rw [Tr.fits_12, HP.out, hA, hB]; rfl), q2.trans (hb3.mono q2.size)⟩
      · have HP := hide (show Tr.plainN l = (p + 1) + ((l.drop (p + 1)).takeWhile fun g => g.nd.kind != 18).length by rw [HE.out, HD.out, List.takeWhile_cons, hk]; simp; omega)
        generalize l[p].nd.kind = kp at *
        clear HE HD HTV HDV
        go_wp2
        go_round
        case rel => exact ⟨p + 1, by omega, by omega, by go_num, HP.out⟩
        case measure => simp [intOf]; omega
    · have HP := hide (show Tr.plainN l = p by rw [HE.out, List.drop_of_length_le (by omega)]; rfl)
      clear HE HDV HHD
      obtain rfl : p = l.length := by omega
      have HF : Hid (Tr.fits 12 l = Tr.between 1 16 l) := hide (by
        rw [Tr.fits_12, HP.out, List.take_length, List.drop_length]
        rw [show Tr.between 18 18 [] = true from rfl, show Tr.differ [] = true from rfl]; simp)
      have HLV : Hid (GrV (w.alloc (.cells #[.int .i64 12, .int .i64 op, .int .i64 n, .string s, .int .i64 m] 41)) (.slice (some ⟨g, o, none⟩) l.length c) l) := hide (by have := HTV.out; rwa [List.take_length] at this)
      clear HTV HP hpl hlT hlD
      by_cases hcp : c = l.length
      · subst hcp
        cases hA : Tr.between 1 16 l
        · go_wp2_with fail
          refine (kinds_any l _ 1 16 _ hl HLV.out).mono ?_
          rintro e w1 ⟨rfl, hb1⟩
          go_wp2
          go_ret
          exact ⟨ret_bool (by rw [HF.out, hA]), below_box hb1⟩
        · go_wp2_with fail
          refine (kinds_any l _ 1 16 _ hl HLV.out).mono ?_
          rintro e w1 ⟨rfl, hb1⟩
          go_wp2_with fail
          refine (kinds_nil _ _ 18 18 _).mono ?_
          rintro e w2 ⟨rfl, hb2⟩
          go_wp2_with fail
          refine (texts_nil _ _ _).mono ?_
          rintro e w3 ⟨rfl, hb3⟩
          go_wp2
          go_ret
          have q2 := (below_box hb1).trans (hb2.mono (below_box hb1).size)
          exact ⟨ret_bool (by rw [HF.out, hA]), q2.trans (hb3.mono q2.size)⟩
      · cases hA : Tr.between 1 16 l
        · go_wp2_with fail
          refine (kinds_any l _ 1 16 _ hl HLV.out).mono ?_
          rintro e w1 ⟨rfl, hb1⟩
          go_wp2
          go_ret
          exact ⟨ret_bool (by rw [HF.out, hA]), below_box hb1⟩
        · go_wp2_with fail
          refine (kinds_any l _ 1 16 _ hl HLV.out).mono ?_
          rintro e w1 ⟨rfl, hb1⟩
          go_wp2_with fail
          refine (kinds_nil _ _ 18 18 _).mono ?_
          rintro e w2 ⟨rfl, hb2⟩
          go_wp2_with fail
          refine (texts_nil _ _ _).mono ?_
          rintro e w3 ⟨rfl, hb3⟩
          go_wp2
          go_ret
          have q2 := (below_box hb1).trans (hb2.mono (below_box hb1).size)
          exact ⟨ret_bool (by rw [HF.out, hA]), q2.trans (hb3.mono q2.size)⟩

set_option maxRecDepth 100000 in
set_option maxHeartbeats 1000000 in
theorem kidsFit_fn (k op n m : Int) (s : ByteArray) (l : List Tr.Gr) (g o c : Nat) (w : World) (hk : k = 15 ∨ k = 20) (hl : l.length ≤ 1048576) (h1 : 1 ≤ l.length) (hcap : l.length ≤ c) (ht : GrAt w g o l) :
    Calls Tryz.prog 41 #[.agg #[.int .i64 k, .int .i64 op, .int .i64 n, .string s, .int .i64 m], .slice (some ⟨g, o, none⟩) l.length c] w fun e w' => e = .returned (.bool (Tr.fits k l)) ∧ Below w.heap.size w w' := by
  have HF := hide (Tr.fits_fn k l hk)
  have HT := hide (ht.below ((Below.refl _ _).alloc (Nat.le_refl _) (.cells #[.int .i64 k, .int .i64 op, .int .i64 n, .string s, .int .i64 m] 41)))
  obtain ⟨p, hp⟩ : ∃ p, l.length = p + 1 := ⟨l.length - 1, by omega⟩
  have HTV := hide (HT.out.takeV (c := c) (p := p) (by omega) hcap)
  have HDV := hide (HT.out.dropQ (c := c) (n := 1) (p := p) (by omega) hcap (by omega))
  have hlT : (l.take p).length ≤ 1048576 := by rw [List.length_take]; omega
  have hlD : (l.drop p).length ≤ 1048576 := by rw [List.length_drop]; omega
  rw [hp, Nat.add_sub_cancel] at HF
  clear ht HT
  rcases hk with rfl | rfl
  all_goals
    cases hA : Tr.between 19 19 (l.take p)
    · go_enter Tryz.func41, Tryz.ntmps41
      go_wp2_with fail
      refine (kinds_any (l.take p) _ 19 19 _ hlT HTV.out).mono ?_
      rintro e w1 ⟨rfl, hb1⟩
      go_wp2
      go_ret
      exact ⟨ret_bool (by rw [HF.out, hA]; rfl), below_box hb1⟩
    · go_enter Tryz.func41, Tryz.ntmps41
      go_wp2_with fail
      refine (kinds_any (l.take p) _ 19 19 _ hlT HTV.out).mono ?_
      rintro e w1 ⟨rfl, hb1⟩
      go_wp2_with fail
      refine (kinds_any (l.drop p) _ 1 16 _ hlD ((HDV.out _ (.inl rfl)).below hb1)).mono ?_
      rintro e w2 ⟨rfl, hb2⟩
      go_wp2
      go_ret
      exact ⟨ret_bool (by rw [HF.out, hA]; rfl), (below_box hb1).trans (hb2.mono (below_box hb1).size)⟩

set_option maxRecDepth 100000 in
set_option maxHeartbeats 1000000 in
theorem kidsFit_9 (op n m : Int) (s : ByteArray) (l : List Tr.Gr) (v : Value) (w : World) (hl : l.length ≤ 1048576) (hh : ∀ x ∈ l, x.nd.text.size ≤ 1048576) (ht : GrV w v l) :
    Calls Tryz.prog 41 #[.agg #[.int .i64 9, .int .i64 op, .int .i64 n, .string s, .int .i64 m], v] w fun e w' => e = .returned (.bool (Tr.fits 9 l)) ∧ Below w.heap.size w w' := by
  have HT := hide (ht.below ((Below.refl _ _).alloc (Nat.le_refl _) (.cells #[.int .i64 9, .int .i64 op, .int .i64 n, .string s, .int .i64 m] 41)))
  have HH := hide hh
  clear hh ht
  cases hA : Tr.between 17 17 l
  · go_enter Tryz.func41, Tryz.ntmps41
    go_wp2_with fail
    refine (kinds_any l _ 17 17 _ hl HT.out).mono ?_
    rintro e w1 ⟨rfl, hb1⟩
    go_wp2
    go_ret
    exact ⟨ret_bool (by rw [show Tr.fits 9 l = (Tr.between 17 17 l && Tr.differ l) from rfl, hA]; rfl), below_box hb1⟩
  · go_enter Tryz.func41, Tryz.ntmps41
    go_wp2_with fail
    refine (kinds_any l _ 17 17 _ hl HT.out).mono ?_
    rintro e w1 ⟨rfl, hb1⟩
    go_wp2_with fail
    refine (texts_any l _ _ hl HH.out (HT.out.below hb1)).mono ?_
    rintro e w2 ⟨rfl, hb2⟩
    go_wp2
    go_ret
    exact ⟨ret_bool (by rw [show Tr.fits 9 l = (Tr.between 17 17 l && Tr.differ l) from rfl, hA]; rfl), (below_box hb1).trans (hb2.mono (below_box hb1).size)⟩

set_option maxRecDepth 100000 in
set_option maxHeartbeats 1000000 in
theorem kidsFit_o (k op n m : Int) (s : ByteArray) (l : List Tr.Gr) (v : Value) (w : World) (hl : l.length ≤ 1048576) (ht : GrV w v l) (h9 : k ≠ 9) (h12 : k ≠ 12) (h15 : k ≠ 15) (h20 : k ≠ 20) :
    Calls Tryz.prog 41 #[.agg #[.int .i64 k, .int .i64 op, .int .i64 n, .string s, .int .i64 m], v] w fun e w' => e = .returned (.bool (Tr.fits k l)) ∧ Below w.heap.size w w' := by
  have HT := hide (ht.below ((Below.refl _ _).alloc (Nat.le_refl _) (.cells #[.int .i64 k, .int .i64 op, .int .i64 n, .string s, .int .i64 m] 41)))
  clear ht
  by_cases h23 : k = 23
  · subst h23
    go_enter Tryz.func41, Tryz.ntmps41
    go_wp2_with fail
    refine (kinds_any l _ 5 5 _ hl HT.out).mono ?_
    rintro e w1 ⟨rfl, hb1⟩
    go_wp2
    go_ret
    exact ⟨rfl, below_box hb1⟩
  · by_cases h24 : k = 24
    · subst h24
      go_enter Tryz.func41, Tryz.ntmps41
      go_wp2_with fail
      refine (kinds_any l _ 20 23 _ hl HT.out).mono ?_
      rintro e w1 ⟨rfl, hb1⟩
      go_wp2
      go_ret
      exact ⟨rfl, below_box hb1⟩
    · have HF := hide (Tr.fits_o k l h9 h12 h15 h20 h23 h24)
      have q9 : (k == 9) = false := by simp; omega
      have q12 : (k == 12) = false := by simp; omega
      have q15 : (k == 15) = false := by simp; omega
      have q20 : (k == 20) = false := by simp; omega
      have q23 : (k == 23) = false := by simp; omega
      have q24 : (k == 24) = false := by simp; omega
      go_enter Tryz.func41, Tryz.ntmps41
      go_wp2_with fail
      refine (kinds_any l _ 1 16 _ hl HT.out).mono ?_
      rintro e w1 ⟨rfl, hb1⟩
      go_wp2
      go_ret
      exact ⟨ret_bool HF.out.symm, below_box hb1⟩

theorem kidsFit_any (k op n m : Int) (s : ByteArray) (l : List Tr.Gr) (v : Value) (w : World) (hl : l.length ≤ 1048576) (h1 : k = 12 ∨ k = 15 ∨ k = 20 → 1 ≤ l.length) (hh : ∀ x ∈ l, x.nd.text.size ≤ 1048576) (ht : GrV w v l) :
    Calls Tryz.prog 41 #[.agg #[.int .i64 k, .int .i64 op, .int .i64 n, .string s, .int .i64 m], v] w fun e w' => e = .returned (.bool (Tr.fits k l)) ∧ Below w.heap.size w w' := by
  by_cases h9 : k = 9
  · subst h9; exact kidsFit_9 op n m s l v w hl hh ht
  by_cases hx : k = 12 ∨ k = 15 ∨ k = 20
  · have hpos := h1 hx
    rcases ht with ⟨p, c, _, rfl⟩ | ⟨g, o, c, rfl, hc, hg⟩
    · simp at hpos
    · by_cases h12 : k = 12
      · subst h12; exact kidsFit_12 op n m s l g o c w hl hpos hc hh hg
      · exact kidsFit_fn k op n m s l g o c w (by omega) hl hpos hc hg
  · exact kidsFit_o k op n m s l v w hl ht h9 (by omega) (by omega) (by omega)
end Go.Proofs.YtfjoecbkagedbaaGreatDoor
namespace Go.Proofs.YtfjoecbkagedbaaGreatDoor
open Go.RowKit

def Tr.Gr.cells (x : Tr.Gr) : List Value := [.int .i64 x.nd.kind, .int .i64 x.nd.op, .int .i64 x.nd.n, .string x.nd.text, .int .i64 x.nd.kids, .int .i64 x.high]
def Tr.grCells (l : List Tr.Gr) : List Value := l.flatMap Tr.Gr.cells
theorem Tr.grCells_len (l : List Tr.Gr) : (Tr.grCells l).length = l.length * 6 := by
  induction l with
  | nil => rfl
  | cons x r ih => rw [show Tr.grCells (x :: r) = x.cells ++ Tr.grCells r from rfl, List.length_append, ih, List.length_cons]; simp [Tr.Gr.cells]; omega
theorem Tr.grCells_take (l : List Tr.Gr) (m : Nat) : (Tr.grCells l).take (m * 6) = Tr.grCells (l.take m) := by
  induction l generalizing m with
  | nil => simp [Tr.grCells]
  | cons x r ih =>
    cases m with
    | zero => simp [Tr.grCells]
    | succ m =>
      rw [show Tr.grCells (x :: r) = x.cells ++ Tr.grCells r from rfl, List.take_succ_cons, show Tr.grCells (x :: r.take m) = x.cells ++ Tr.grCells (r.take m) from rfl, ← ih m, List.take_append, show x.cells.length = 6 from rfl, List.take_of_length_le (by rw [show x.cells.length = 6 from rfl]; omega)]
      congr 2; omega
theorem Tr.grCells_at (l : List Tr.Gr) (i : Nat) (h : i < l.length) : (Tr.grCells l)[i * 6]? = some (.int .i64 l[i].nd.kind) ∧ (Tr.grCells l)[i * 6 + 1]? = some (.int .i64 l[i].nd.op) ∧ (Tr.grCells l)[i * 6 + 2]? = some (.int .i64 l[i].nd.n) ∧ (Tr.grCells l)[i * 6 + 3]? = some (.string l[i].nd.text) ∧ (Tr.grCells l)[i * 6 + 4]? = some (.int .i64 l[i].nd.kids) ∧ (Tr.grCells l)[i * 6 + 5]? = some (.int .i64 l[i].high) := by
  induction l generalizing i with
  | nil => simp at h
  | cons x r ih =>
    rw [show Tr.grCells (x :: r) = x.cells ++ Tr.grCells r from rfl]
    match i, h with
    | 0, _ => simp [Tr.Gr.cells]
    | i + 1, h =>
      have := ih i (by simpa using h)
      have hl : x.cells.length = 6 := rfl
      refine ⟨?_, ?_, ?_, ?_, ?_, ?_⟩
      all_goals rw [List.getElem?_append_right (by omega), hl]
      · rw [show (i + 1) * 6 - 6 = i * 6 from by omega]; exact this.1
      · rw [show (i + 1) * 6 + 1 - 6 = i * 6 + 1 from by omega]; exact this.2.1
      · rw [show (i + 1) * 6 + 2 - 6 = i * 6 + 2 from by omega]; exact this.2.2.1
      · rw [show (i + 1) * 6 + 3 - 6 = i * 6 + 3 from by omega]; exact this.2.2.2.1
      · rw [show (i + 1) * 6 + 4 - 6 = i * 6 + 4 from by omega]; exact this.2.2.2.2.1
      · rw [show (i + 1) * 6 + 5 - 6 = i * 6 + 5 from by omega]; exact this.2.2.2.2.2
theorem gr_of_row {w : World} {base : Nat} {e : TypeId} {g cap : Nat} {l : List Tr.Gr} (h : w.ownsRow base e 6 (.slice (some ⟨g, 0, none⟩) l.length cap) l.length (Tr.grCells l)) : GrAt w g 0 l := by
  refine ⟨(row_room h).2.2, fun i hi => ?_⟩
  obtain ⟨p0, p1, p2, p3, p4, p5⟩ := Tr.grCells_at l i hi
  simp only [Nat.zero_add]
  exact ⟨(h.cellAt (i * 6) (by omega)).trans p0, (h.cellAt (i * 6 + 1) (by omega)).trans p1, (h.cellAt (i * 6 + 2) (by omega)).trans p2, (h.cellAt (i * 6 + 3) (by omega)).trans p3, (h.cellAt (i * 6 + 4) (by omega)).trans p4, (h.cellAt (i * 6 + 5) (by omega)).trans p5⟩
theorem row_takeS {w : World} {base size : Nat} {e : TypeId} {g n cap : Nat} {xs : List Value} (h : w.ownsRow base e size (.slice (some ⟨g, 0, none⟩) n cap) n xs) (m : Nat) (hm : m ≤ n) : w.ownsRow base e size (.slice (some ⟨g, 0, none⟩) m cap) m (xs.take (m * size)) := by
  obtain ⟨h1, h2⟩ := h
  have hms : m * size ≤ n * size := Nat.mul_le_mul_right _ hm
  refine ⟨by rw [List.length_take, h1]; omega, .inr ?_⟩
  rcases h2 with ⟨h2, _⟩ | ⟨g', cap', cur, hv, hb, hg, hn, hc, hs, ht⟩
  · cases h2
  · cases hv
    refine ⟨g, cap, cur, rfl, hb, hg, by omega, hc, hs, ?_⟩
    rw [← ht, List.take_take, Nat.min_eq_left hms]
theorem row_belowG {w w1 : World} {base : Nat} {e : TypeId} {size : Nat} {v : Value} {n : Nat} {xs : List Value} (h : w.ownsRow base e size v n xs) (hb : Below w.heap.size w w1) : w1.ownsRow base e size v n xs := by
  have hg : w.grownBy w1 none := ⟨hb.os, hb.tape, hb.output, hb.size, fun k hk _ => hb.block k hk⟩
  refine h.kept hg ?_
  cases hv : v.ownBlock with
  | none => exact .inl rfl
  | some k => exact .inr (by simp)
theorem map_below {w w1 : World} {P : Program} {k b n : Nat} {D : DataW Unit} (h : w.ownsMap P k unitElem b n D) (hb : Below w.heap.size w w1) : w1.ownsMap P k unitElem b n D := by
  obtain ⟨es, clock, h1, h2⟩ := h
  have hlt : b < w.heap.size := (Array.getElem?_eq_some_iff.1 h1).1
  exact ⟨es, clock, (hb.block b hlt).trans h1, h2⟩

/-- A call by its contract, as one step of a region that draws. -/
theorem step_call1 {P : Program} {ops : Array Oper} {o : Oper} {a : Act} {w : World} {K : Act → World → Prop} {Q : Exit → Act → World → Prop} {E : Prop}
    (hg : o.guard = none) (f : FuncId) (x : Operand) (t : TypeId) (hop : o.op = Op.call { callee := Callee.value (Operand.func f), args := #[x], argTypes := #[t] })
    (v r : Value) (hx : a.eval x = v) (fn : Func) (hfn : P.funcs[f]? = some fn) (hne : (fn.name == "runtime.NumGoroutine") = false) (hbd : fn.body.isNone = false) (R : World → Prop) (hC : Calls P f #[v] w fun e w' => e = .returned r ∧ R w') (hK : ∀ w', R w' → K (a.put o.dst r) w') :
    if Region.wanted o (yielded ops a.tmps) = true then Oper.wp P o a w K Q else E := by
  have hw : Region.wanted o (yielded ops a.tmps) = true := by simp [Region.wanted, hg]
  rw [if_pos hw]
  have h1 : (callFunc f #[v]).run P w = .ok (.enter f #[v]) w := by
    simp only [callFunc, Sem.run_bind, run_program, Result.andThen_ok, hfn, hne, hbd]; rfl
  unfold Oper.wp
  simp only [execOp, hop, resolve, invoke, List.map_toArray, List.map_cons, List.map_nil, hx, Deferred.ofValue, Sem.run_bind]
  rw [show a.eval (Operand.func f) = Value.func (Fn.func f) #[] #[] from rfl]
  simp only [Sem.run_pure, Result.andThen_ok]
  simp [h1]
  refine hC.mono fun e w2 h => ?_
  obtain ⟨rfl, h2⟩ := h
  exact hK _ h2
/-- append onto a row of the call's own, as one step of a region that draws. -/
theorem step_append_ownJ {P : Program} {ops : Array Oper} {o : Oper} {a : Act} {w : World} {K : Act → World → Prop} {Q : Exit → Act → World → Prop} {E : Prop}
    (hgd : o.guard = none) (s x : Operand) (t : TypeId) (ho : o.op = .call { callee := .builtin .append, args := #[s, x], argTypes := #[t, t] })
    (base : Nat) (e : TypeId) (i : TypeInfo) (z : Value) (size bytes : Nat) (ht : P.underlying t = some (.slice e)) (hi : P.info? e = some i) (hz : i.zero = some z)
    (hsize : i.size = size) (hby : i.bytes = bytes) (hzs : z.cells.size = size) (hsz : 0 < size)
    (v : Value) (n : Nat) (xs : List Value) (hs : a.eval s = v) (hown : w.ownsRow base e size v n xs)
    (ad : Addr) (m c : Nat) (news : List Value) (hx : a.eval x = .slice (some ad) m c) (hl : news.length = m * size) (hnews : ∀ j u, news[j]? = some u → w.cell? (ad.add j) = some u) (h1 : ∀ u ∈ news, u.oneCell' = true)
    (h63 : n + m ≤ maxLen) (hbytes : (n + m) * bytes ≤ 140737488355328) (hbase : base ≤ w.heap.size)
    (hK : ∀ v' w', w'.ownsRow base e size v' (n + m) (xs ++ news) → w.grownBy w' v.ownBlock → (v' = .slice none 0 0 ↔ v = .slice none 0 0 ∧ m = 0) → (v'.ownBlock = v.ownBlock ∨ v'.ownBlock = some w.heap.size) → K (a.put o.dst v') w') :
    if Region.wanted o (yielded ops a.tmps) = true then Oper.wp P o a w K Q else E := by
  have hw : Region.wanted o (yielded ops a.tmps) = true := by simp [Region.wanted, hgd]
  rw [if_pos hw]
  obtain ⟨v', w', hr, h2, h3, h4, h5⟩ := run_append_own_at (P := P) w base t o.type e i z size bytes ht hi hz hsize hby hzs hsz v n xs hown ad m c news hl hnews h1 h63 hbytes hbase
  unfold Oper.wp execOp
  simp only [ho, resolve, invoke, builtin, Sem.run_bind, Sem.run_pure, Result.andThen_ok, List.map_toArray, List.map_cons, List.map_nil, hs, hx, hr]
  exact hK _ _ h2 h3 h4 h5
end Go.Proofs.YtfjoecbkagedbaaGreatDoor
