/- Walks: which kids a node may have, on the program's side. -/
import Derived.Test.YtmklgiononbmmaaDoorJb
namespace Go.Proofs.YtmklgiononbmmaaDoor
open Go.RowKit

theorem below_box {w w1 : World} {o : Obj} (h : Below (w.alloc o).heap.size (w.alloc o) w1) : Below w.heap.size w w1 := ((Below.refl _ _).alloc (Nat.le_refl _) _).trans (h.mono (by simp))
theorem Tr.fits_12 (l : List Tr.Gr) : Tr.fits 12 l = (Tr.between 1 16 (l.take (Tr.plainN l)) && Tr.between 18 18 (l.drop (Tr.plainN l)) && Tr.differ (l.drop (Tr.plainN l))) := rfl
theorem Tr.fits_fn (k : Int) (l : List Tr.Gr) (h : k = 15 ∨ k = 20) : Tr.fits k l = (Tr.between 19 19 (l.take (l.length - 1)) && Tr.between 1 16 (l.drop (l.length - 1))) := by
  rcases h with rfl | rfl <;> rfl
theorem Tr.fits_o (k : Int) (l : List Tr.Gr) (h9 : k ≠ 9) (h12 : k ≠ 12) (h15 : k ≠ 15) (h20 : k ≠ 20) (h23 : k ≠ 23) (h24 : k ≠ 24) : Tr.fits k l = Tr.between 1 16 l := by
  unfold Tr.fits
  rw [if_neg h9, if_neg h12, if_neg (by omega), if_neg h23, if_neg h24]
set_option maxRecDepth 100000 in
set_option maxHeartbeats 1000000 in
theorem kidsFit_12 (op n m : Int) (s : ByteArray) (l : List Tr.Gr) (g o c : Nat) (w : World) (hl : l.length ≤ 1048576) (h1 : 1 ≤ l.length) (hcap : l.length ≤ c) (hh : ∀ x ∈ l, x.nd.text.size ≤ 1048576) (ht : GrAt w g o l) :
    Calls Tryd.prog 56 #[.agg #[.int .i64 12, .int .i64 op, .int .i64 n, .string s, .int .i64 m], .slice (some ⟨g, o, none⟩) l.length c] w fun e w' => e = .returned (.bool (Tr.fits 12 l)) ∧ Below w.heap.size w w' := by
  have HT := hide (ht.below ((Below.refl _ _).alloc (Nat.le_refl _) (.cells #[.int .i64 12, .int .i64 op, .int .i64 n, .string s, .int .i64 m] 61)))
  have HH := hide hh
  clear hh ht
  go_enter Tryd.func56, Tryd.ntmps56
  go_wp2
  go_loop [5] (fun t => ∃ p : Nat, 1 ≤ p ∧ p ≤ l.length ∧ t = .int .i64 p ∧ Tr.plainN l = p + ((l.drop p).takeWhile fun g => g.nd.kind != 18).length) (fun t => l.length - (intOf t).toNat)
  case atStart => exact ⟨1, Nat.le_refl _, h1, rfl, rfl⟩
  case round =>
    obtain ⟨p, hp1, hp, rfl, he⟩ := hrel
    have HE := hide he
    clear he
    have HTV := hide (HT.out.takeV hp hcap)
    have HDV := hide (HT.out.dropQ (n := l.length - p) hp hcap rfl)
    have hlT : (l.take p).length ≤ 1048576 := by rw [List.length_take]; omega
    have hlD : (l.drop p).length ≤ 1048576 := by rw [List.length_drop]; omega
    have HHD : Hid (∀ x ∈ l.drop p, x.nd.text.size ≤ 1048576) := hide fun x hx => HH.out x (List.mem_of_mem_drop hx)
    have hpl : ((l.length - p : Nat) : Int) = (l.length : Int) - p := by omega
    by_cases hlt : p < l.length
    · obtain ⟨c0, c1, c2, c3, c4, c5⟩ := HT.out.2 p hlt
      have HD := hide (List.drop_eq_getElem_cons hlt)
      cases hk : (l[p].nd.kind != 18)
      · have HP := hide (show Tr.plainN l = p by rw [HE.out, HD.out, List.takeWhile_cons, hk]; simp)
        generalize l[p].nd.kind = kp at *
        clear HE HD
        cases hA : Tr.between 1 16 (l.take p)
        · go_wp2_with fail
          refine (kinds_any (l.take p) _ 1 16 _ hlT HTV.out).mono ?_
          rintro e w1 ⟨rfl, hb1⟩
          go_wp2
          go_ret
          exact ⟨ret_bool (by rw [Tr.fits_12, HP.out, hA]; rfl), below_box hb1⟩
        · cases hB : Tr.between 18 18 (l.drop p)
          · go_wp2_with fail
            refine (kinds_any (l.take p) _ 1 16 _ hlT HTV.out).mono ?_
            rintro e w1 ⟨rfl, hb1⟩
            go_wp2_with fail
            refine (kinds_any (l.drop p) _ 18 18 _ hlD ((HDV.out _ (.inl rfl)).below hb1)).mono ?_
            rintro e w2 ⟨rfl, hb2⟩
            go_wp2
            go_ret
            exact ⟨ret_bool (by rw [Tr.fits_12, HP.out, hA, hB]; rfl), (below_box hb1).trans (hb2.mono (below_box hb1).size)⟩
          · go_wp2_with fail
            refine (kinds_any (l.take p) _ 1 16 _ hlT HTV.out).mono ?_
            rintro e w1 ⟨rfl, hb1⟩
            go_wp2_with fail
            refine (kinds_any (l.drop p) _ 18 18 _ hlD ((HDV.out _ (.inl rfl)).below hb1)).mono ?_
            rintro e w2 ⟨rfl, hb2⟩
            go_wp2_with fail
            refine (texts_any (l.drop p) _ _ hlD HHD.out (((HDV.out _ (.inl rfl)).below hb1).below hb2)).mono ?_
            rintro e w3 ⟨rfl, hb3⟩
            go_wp2
            go_ret
            have q2 := (below_box hb1).trans (hb2.mono (below_box hb1).size)
            exact ⟨ret_bool (by rw [Tr.fits_12, HP.out, hA, hB]; rfl), q2.trans (hb3.mono q2.size)⟩
      · have HP := hide (show Tr.plainN l = (p + 1) + ((l.drop (p + 1)).takeWhile fun g => g.nd.kind != 18).length by rw [HE.out, HD.out, List.takeWhile_cons, hk]; simp; omega)
        generalize l[p].nd.kind = kp at *
        clear HE HD HTV HDV
        go_wp2
        go_round
        case rel => exact ⟨p + 1, by omega, by omega, by go_num, HP.out⟩
        case measure => simp [intOf]; omega
    · have HP := hide (show Tr.plainN l = p by rw [HE.out, List.drop_of_length_le (by omega)]; rfl)
      clear HE HDV HHD
      obtain rfl : p = l.length := by omega
      have HF : Hid (Tr.fits 12 l = Tr.between 1 16 l) := hide (by
        rw [Tr.fits_12, HP.out, List.take_length, List.drop_length]
        rw [show Tr.between 18 18 [] = true from rfl, show Tr.differ [] = true from rfl]; simp)
      have HLV : Hid (GrV (w.alloc (.cells #[.int .i64 12, .int .i64 op, .int .i64 n, .string s, .int .i64 m] 61)) (.slice (some ⟨g, o, none⟩) l.length c) l) := hide (by have := HTV.out; rwa [List.take_length] at this)
      clear HTV HP hpl hlT hlD
      by_cases hcp : c = l.length
      · subst hcp
        cases hA : Tr.between 1 16 l
        · go_wp2_with fail
          refine (kinds_any l _ 1 16 _ hl HLV.out).mono ?_
          rintro e w1 ⟨rfl, hb1⟩
          go_wp2
          go_ret
          exact ⟨ret_bool (by rw [HF.out, hA]), below_box hb1⟩
        · go_wp2_with fail
          refine (kinds_any l _ 1 16 _ hl HLV.out).mono ?_
          rintro e w1 ⟨rfl, hb1⟩
          go_wp2_with fail
          refine (kinds_nil _ _ 18 18 _).mono ?_
          rintro e w2 ⟨rfl, hb2⟩
          go_wp2_with fail
          refine (texts_nil _ _ _).mono ?_
          rintro e w3 ⟨rfl, hb3⟩
          go_wp2
          go_ret
          have q2 := (below_box hb1).trans (hb2.mono (below_box hb1).size)
          exact ⟨ret_bool (by rw [HF.out, hA]), q2.trans (hb3.mono q2.size)⟩
      · cases hA : Tr.between 1 16 l
        · go_wp2_with fail
          refine (kinds_any l _ 1 16 _ hl HLV.out).mono ?_
          rintro e w1 ⟨rfl, hb1⟩
          go_wp2
          go_ret
          exact ⟨ret_bool (by rw [HF.out, hA]), below_box hb1⟩
        · go_wp2_with fail
          refine (kinds_any l _ 1 16 _ hl HLV.out).mono ?_
          rintro e w1 ⟨rfl, hb1⟩
          go_wp2_with fail
          refine (kinds_nil _ _ 18 18 _).mono ?_
          rintro e w2 ⟨rfl, hb2⟩
          go_wp2_with fail
          refine (texts_nil _ _ _).mono ?_
          rintro e w3 ⟨rfl, hb3⟩
          go_wp2
          go_ret
          have q2 := (below_box hb1).trans (hb2.mono (below_box hb1).size)
          exact ⟨ret_bool (by rw [HF.out, hA]), q2.trans (hb3.mono q2.size)⟩

set_option maxRecDepth 100000 in
set_option maxHeartbeats 1000000 in
theorem kidsFit_fn (k op n m : Int) (s : ByteArray) (l : List Tr.Gr) (g o c : Nat) (w : World) (hk : k = 15 ∨ k = 20) (hl : l.length ≤ 1048576) (h1 : 1 ≤ l.length) (hcap : l.length ≤ c) (ht : GrAt w g o l) :
    Calls Tryd.prog 56 #[.agg #[.int .i64 k, .int .i64 op, .int .i64 n, .string s, .int .i64 m], .slice (some ⟨g, o, none⟩) l.length c] w fun e w' => e = .returned (.bool (Tr.fits k l)) ∧ Below w.heap.size w w' := by
  have HF := hide (Tr.fits_fn k l hk)
  have HT := hide (ht.below ((Below.refl _ _).alloc (Nat.le_refl _) (.cells #[.int .i64 k, .int .i64 op, .int .i64 n, .string s, .int .i64 m] 61)))
  obtain ⟨p, hp⟩ : ∃ p, l.length = p + 1 := ⟨l.length - 1, by omega⟩
  have HTV := hide (HT.out.takeV (c := c) (p := p) (by omega) hcap)
  have HDV := hide (HT.out.dropQ (c := c) (n := 1) (p := p) (by omega) hcap (by omega))
  have hlT : (l.take p).length ≤ 1048576 := by rw [List.length_take]; omega
  have hlD : (l.drop p).length ≤ 1048576 := by rw [List.length_drop]; omega
  rw [hp, Nat.add_sub_cancel] at HF
  clear ht HT
  rcases hk with rfl | rfl
  all_goals
    cases hA : Tr.between 19 19 (l.take p)
    · go_enter Tryd.func56, Tryd.ntmps56
      go_wp2_with fail
      refine (kinds_any (l.take p) _ 19 19 _ hlT HTV.out).mono ?_
      rintro e w1 ⟨rfl, hb1⟩
      go_wp2
      go_ret
      exact ⟨ret_bool (by rw [HF.out, hA]; rfl), below_box hb1⟩
    · go_enter Tryd.func56, Tryd.ntmps56
      go_wp2_with fail
      refine (kinds_any (l.take p) _ 19 19 _ hlT HTV.out).mono ?_
      rintro e w1 ⟨rfl, hb1⟩
      go_wp2_with fail
      refine (kinds_any (l.drop p) _ 1 16 _ hlD ((HDV.out _ (.inl rfl)).below hb1)).mono ?_
      rintro e w2 ⟨rfl, hb2⟩
      go_wp2
      go_ret
      exact ⟨ret_bool (by rw [HF.out, hA]; rfl), (below_box hb1).trans (hb2.mono (below_box hb1).size)⟩

set_option maxRecDepth 100000 in
set_option maxHeartbeats 1000000 in
theorem kidsFit_9 (op n m : Int) (s : ByteArray) (l : List Tr.Gr) (v : Value) (w : World) (hl : l.length ≤ 1048576) (hh : ∀ x ∈ l, x.nd.text.size ≤ 1048576) (ht : GrV w v l) :
    Calls Tryd.prog 56 #[.agg #[.int .i64 9, .int .i64 op, .int .i64 n, .string s, .int .i64 m], v] w fun e w' => e = .returned (.bool (Tr.fits 9 l)) ∧ Below w.heap.size w w' := by
  have HT := hide (ht.below ((Below.refl _ _).alloc (Nat.le_refl _) (.cells #[.int .i64 9, .int .i64 op, .int .i64 n, .string s, .int .i64 m] 61)))
  have HH := hide hh
  clear hh ht
  cases hA : Tr.between 17 17 l
  · go_enter Tryd.func56, Tryd.ntmps56
    go_wp2_with fail
    refine (kinds_any l _ 17 17 _ hl HT.out).mono ?_
    rintro e w1 ⟨rfl, hb1⟩
    go_wp2
    go_ret
    exact ⟨ret_bool (by rw [show Tr.fits 9 l = (Tr.between 17 17 l && Tr.differ l) from rfl, hA]; rfl), below_box hb1⟩
  · go_enter Tryd.func56, Tryd.ntmps56
    go_wp2_with fail
    refine (kinds_any l _ 17 17 _ hl HT.out).mono ?_
    rintro e w1 ⟨rfl, hb1⟩
    go_wp2_with fail
    refine (texts_any l _ _ hl HH.out (HT.out.below hb1)).mono ?_
    rintro e w2 ⟨rfl, hb2⟩
    go_wp2
    go_ret
    exact ⟨ret_bool (by rw [show Tr.fits 9 l = (Tr.between 17 17 l && Tr.differ l) from rfl, hA]; rfl), (below_box hb1).trans (hb2.mono (below_box hb1).size)⟩

set_option maxRecDepth 100000 in
set_option maxHeartbeats 1000000 in
theorem kidsFit_o (k op n m : Int) (s : ByteArray) (l : List Tr.Gr) (v : Value) (w : World) (hl : l.length ≤ 1048576) (ht : GrV w v l) (h9 : k ≠ 9) (h12 : k ≠ 12) (h15 : k ≠ 15) (h20 : k ≠ 20) :
    Calls Tryd.prog 56 #[.agg #[.int .i64 k, .int .i64 op, .int .i64 n, .string s, .int .i64 m], v] w fun e w' => e = .returned (.bool (Tr.fits k l)) ∧ Below w.heap.size w w' := by
  have HT := hide (ht.below ((Below.refl _ _).alloc (Nat.le_refl _) (.cells #[.int .i64 k, .int .i64 op, .int .i64 n, .string s, .int .i64 m] 61)))
  clear ht
  by_cases h23 : k = 23
  · subst h23
    go_enter Tryd.func56, Tryd.ntmps56
    go_wp2_with fail
    refine (kinds_any l _ 5 5 _ hl HT.out).mono ?_
    rintro e w1 ⟨rfl, hb1⟩
    go_wp2
    go_ret
    exact ⟨rfl, below_box hb1⟩
  · by_cases h24 : k = 24
    · subst h24
      go_enter Tryd.func56, Tryd.ntmps56
      go_wp2_with fail
      refine (kinds_any l _ 20 23 _ hl HT.out).mono ?_
      rintro e w1 ⟨rfl, hb1⟩
      go_wp2
      go_ret
      exact ⟨rfl, below_box hb1⟩
    · have HF := hide (Tr.fits_o k l h9 h12 h15 h20 h23 h24)
      have q9 : (k == 9) = false := by simp; omega
      have q12 : (k == 12) = false := by simp; omega
      have q15 : (k == 15) = false := by simp; omega
      have q20 : (k == 20) = false := by simp; omega
      have q23 : (k == 23) = false := by simp; omega
      have q24 : (k == 24) = false := by simp; omega
      go_enter Tryd.func56, Tryd.ntmps56
      go_wp2_with fail
      refine (kinds_any l _ 1 16 _ hl HT.out).mono ?_
      rintro e w1 ⟨rfl, hb1⟩
      go_wp2
      go_ret
      exact ⟨ret_bool HF.out.symm, below_box hb1⟩

theorem kidsFit_any (k op n m : Int) (s : ByteArray) (l : List Tr.Gr) (v : Value) (w : World) (hl : l.length ≤ 1048576) (h1 : k = 12 ∨ k = 15 ∨ k = 20 → 1 ≤ l.length) (hh : ∀ x ∈ l, x.nd.text.size ≤ 1048576) (ht : GrV w v l) :
    Calls Tryd.prog 56 #[.agg #[.int .i64 k, .int .i64 op, .int .i64 n, .string s, .int .i64 m], v] w fun e w' => e = .returned (.bool (Tr.fits k l)) ∧ Below w.heap.size w w' := by
  by_cases h9 : k = 9
  · subst h9; exact kidsFit_9 op n m s l v w hl hh ht
  by_cases hx : k = 12 ∨ k = 15 ∨ k = 20
  · have hpos := h1 hx
    rcases ht with ⟨p, c, _, rfl⟩ | ⟨g, o, c, rfl, hc, hg⟩
    · simp at hpos
    · by_cases h12 : k = 12
      · subst h12; exact kidsFit_12 op n m s l g o c w hl hpos hc hh hg
      · exact kidsFit_fn k op n m s l g o c w (by omega) hl hpos hc hg
  · exact kidsFit_o k op n m s l v w hl ht h9 (by omega) (by omega) (by omega)
end Go.Proofs.YtmklgiononbmmaaDoor
