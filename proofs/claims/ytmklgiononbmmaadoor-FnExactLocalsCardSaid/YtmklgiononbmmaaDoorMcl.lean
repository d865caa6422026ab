/- Mc. -/
import Derived.Test.YtmklgiononbmmaaDoorNm
import Derived.Test.YtmklgiononbmmaaDoorMa2
namespace Go.Proofs.YtmklgiononbmmaaDoor
open Go.RowKit

/-- Numbers in a row of one's own from a block on, or none. -/
def RowI (w : World) (B : Nat) (v : Value) (n : Nat) (xs : List Value) : Prop := (v = .slice none 0 0 ∧ n = 0 ∧ xs = []) ∨ ∃ g c, v = .slice (some ⟨g, 0, none⟩) n c ∧ B ≤ g ∧ w.ownsRow 0 3 1 v n xs
theorem RowI.below {w w' : World} {B n : Nat} {v : Value} {xs : List Value} (h : RowI w B v n xs) (hb : Below w.heap.size w w') : RowI w' B v n xs := by
  rcases h with h | ⟨g, c, h1, h2, h3⟩
  · exact .inl h
  · exact .inr ⟨g, c, h1, h2, row_belowS h3 hb⟩
theorem RowI.but {w w' : World} {B n q : Nat} {v : Value} {xs : List Value} (h : RowI w B v n xs) (hq : q < B) (hb : ∀ b, b < w.heap.size → b ≠ q → w'.heap[b]? = w.heap[b]?) : RowI w' B v n xs := by
  rcases h with h | ⟨g, c, h1, h2, h3⟩
  · exact .inl h
  · subst h1
    exact .inr ⟨g, c, rfl, h2, row_same h3 (hb g (h3.lt g rfl).2 (by omega))⟩
theorem RowI.num {w : World} {B : Nat} {v : Value} {l : List Int} (h : RowI w B v l.length (l.map vi)) : NumV w v l := by
  rcases h with ⟨h1, h2, _⟩ | ⟨g, c, h1, _, h3⟩
  · exact .inl ⟨none, 0, h1, List.eq_nil_of_length_eq_zero h2⟩
  · subst h1
    exact .inr ⟨g, _, rfl, (h3.lt g rfl).2, fun j hj => by rw [h3.cellAt j (by omega)]; simp [hj, vi]⟩
theorem ibinds_v (ns : List Tr.Nd) (tg tc : Nat) (w : World) (hn : ns.length ≤ 1048576) (hx : ∀ x ∈ ns, x.text.size ≤ 1048576) (hG : GlobB w) (ht : NodesAt w tg ns) :
    Calls Tryd.prog 14 #[.agg #[.slice (some ⟨tg, 0, none⟩) ns.length tc]] w fun e w' => ∃ v, e = .returned v ∧ RowI w' w.heap.size v (Tr.bindsOf ns).length ((Tr.bindsOf ns).map vi) ∧ (Tr.bindsOf ns).length ≤ ns.length ∧ Below w.heap.size w w' := by
  refine (ibinds_any ns tg tc w hn hx hG ht).mono ?_
  rintro e w' ⟨hb, ⟨hf, rfl⟩ | ⟨hf, hl, g, rfl, h1, h2⟩⟩
  · have hb0 : Tr.bindsOf ns = [] := by unfold Tr.bindsOf; rw [hf]; rfl
    exact ⟨_, rfl, .inl ⟨rfl, by rw [hb0]; rfl, by rw [hb0]; rfl⟩, by rw [hb0]; simp, hb⟩
  · exact ⟨_, rfl, .inr ⟨g, _, rfl, h1, h2⟩, by omega, hb⟩
theorem markI_v (n B : Nat) (v : Value) (xs : List Value) (w : World) (hn : n ≤ 1048576) (h : RowI w B v n xs) :
    Calls Tryd.prog 17 #[v, .int .i64 1] w fun e w' => e = .returned (.int .i64 (1 + (n : Int))) ∧ RowI w' B v n (Tr.markI n) ∧ Below B w w' := by
  rcases h with ⟨rfl, rfl, _⟩ | ⟨g, c, rfl, h2, h3⟩
  · refine (markI_none none 0 w).mono ?_
    rintro e w' ⟨rfl, rfl⟩
    exact ⟨rfl, .inl ⟨rfl, rfl, rfl⟩, Below.refl _ _⟩
  · refine (markI_some n g c 0 xs w hn h3).mono ?_
    rintro e w' ⟨rfl, ho, hfr, hb⟩
    exact ⟨rfl, .inr ⟨g, c, rfl, h2, ho⟩, ⟨hb.os, hb.tape, hb.output, hb.size, fun b hbb => hfr b (by omega)⟩⟩
theorem heldI_v (n B : Nat) (v : Value) (w : World) (hn : n ≤ 1048576) (h : RowI w B v n (Tr.markI n)) :
    Calls Tryd.prog 18 #[v, .int .i64 1] w fun e w' => e = .returned (.int .i64 (1 + (n : Int))) ∧ w' = w := by
  rcases h with ⟨rfl, rfl, _⟩ | ⟨g, c, rfl, h2, h3⟩
  · refine (heldI_none none 0 w).mono ?_
    rintro e w' ⟨rfl, rfl⟩
    exact ⟨rfl, rfl⟩
  · exact heldI_some n g c 0 w hn h3
/-- The law's own argument, in a later world. -/
structure LB (w : World) (v : Value) (W : World) : Prop where
  B : Below w.heap.size w W
  c : W.cell? ⟨w.heap.size, 0, none⟩ = some v
  z : w.heap.size < W.heap.size
theorem LB.below {w W W' : World} {v : Value} {q : Nat} (h : LB w v W) (hb : Below q W W') (hq : w.heap.size < q) : LB w v W' :=
  ⟨h.B.trans (hb.mono (by omega)), (hb.cell (p := ⟨w.heap.size, 0, none⟩) hq).trans h.c, Nat.lt_of_lt_of_le h.z hb.size⟩

set_option maxRecDepth 100000 in
set_option maxHeartbeats 2000000 in
theorem lawB_any (l : List Tr.Nd) (v : Value) (w : World) (hl : l.length ≤ 9223372036854775807) (hx : ∀ x ∈ l, x.text.size ≤ 9223372036854775807) (hG : GlobB w) (ht : NodesV w v l) :
    Calls Tryd.prog 4 #[.agg #[v]] w fun e w' => e = .returned (.bool true) ∧ Below w.heap.size w w' := by
  have r1 : Below w.heap.size w (w.alloc (.cells #[v] 24)) := (Below.refl _ _).alloc (Nat.le_refl _) _
  have HZ := hide (szTree_any l v (w.alloc (.cells #[v] 24)) hl hx (ht.below r1))
  have HT := hide ht
  have HG := hide hG
  clear ht hG
  by_cases hr : Tr.szS l 1048576 < 0
  · have HZ2 := HZ.out
    rw [if_pos hr] at HZ2
    replace HZ2 := hide HZ2
    go_enter Tryd.func4, Tryd.ntmps4
    go_wp2_with fail
    refine HZ2.out.mono ?_
    rintro e w1 ⟨rfl, hb1⟩
    go_wp2
    go_ret
    exact ⟨rfl, r1.trans (hb1.mono (by simp))⟩
  · obtain ⟨hl2, hx2⟩ := Tr.szS_ok l hr
    have HZ2 := HZ.out
    rw [if_neg hr] at HZ2
    replace HZ2 := hide HZ2
    have HX := hide hx2
    clear HZ hx hl hx2
    generalize Tr.szS l 1048576 = r at *
    have HTT : Hid (∀ w', Below w.heap.size w w' → Calls Tryd.prog 9 #[.agg #[v]] w' fun e w'' => ∃ g, e = .returned (.agg #[.slice (some ⟨g, 0, none⟩) l.length l.length]) ∧ OwnN w'' w'.heap.size g l ∧ w'.heap.size ≤ g ∧ Below w'.heap.size w' w'') := hide fun w' hb => toTreeO_any l v w' hl2 (HT.out.below hb)
    have HBS := hide (fun tg w' (h : NodesAt w' tg l) => binds_any l tg l.length w' hl2 h)
    have HBI := hide (fun tg w' (hb : Below w.heap.size w w') (h : NodesAt w' tg l) => ibinds_v l tg l.length w' hl2 HX.out (HG.out.below hb) h)
    generalize Tr.bindsOf l = b at *
    go_enter Tryd.func4, Tryd.ntmps4
    go_wp2_with fail
    refine HZ2.out.mono ?_
    rintro e w1 ⟨rfl, hb1⟩
    have L1 : LB w v w1 := ⟨r1.trans (hb1.mono (by simp)), (hb1.cell (p := ⟨w.heap.size, 0, none⟩) (by simp)).trans (by simp), Nat.lt_of_lt_of_le (by simp) hb1.size⟩
    clear hb1
    have c1 := L1.c
    have HL1 := hide L1
    go_wp2_with fail
    refine (HTT.out _ HL1.out.B).mono ?_
    rintro e w2 ⟨ga, rfl, na, hga, hb2⟩
    have HL2 := hide (HL1.out.below hb2 HL1.out.z)
    have HNA := hide na.nodes
    clear hb2 na L1 c1 HL1
    go_wp2_with fail
    refine (HBS.out _ _ HNA.out).mono ?_
    rintro e w3 ⟨gs, rfl, hgs, ho3, hb3⟩
    have HL3 := hide (HL2.out.below hb3 HL2.out.z)
    have HO3 := hide ho3
    have c3 := HL3.out.c
    have hgs3 := (ho3.lt gs rfl).2
    clear hb3 ho3 HNA HL2 hga hgs
    go_wp2_with fail
    refine (HTT.out _ HL3.out.B).mono ?_
    rintro e w4 ⟨gb, rfl, nb, hgb, hb4⟩
    have q4 : Below w4.heap.size w4 (w4.alloc (.cells #[.slice (some ⟨gb, 0, none⟩) l.length l.length] 31)) := (Below.refl _ _).alloc (Nat.le_refl _) _
    have HL4 := hide ((HL3.out.below hb4 HL3.out.z).below q4 (Nat.lt_of_lt_of_le HL3.out.z hb4.size))
    have HO4 := hide (row_belowS (row_belowS HO3.out hb4) q4)
    have HNB := hide (nb.alloc (.cells #[.slice (some ⟨gb, 0, none⟩) l.length l.length] 31))
    have hz34 := hb4.size
    have hgb4 := (nb.lt gb rfl).2
    have s4 : (w4.alloc (.cells #[.slice (some ⟨gb, 0, none⟩) l.length l.length] 31)).cell? ⟨w4.heap.size, 0, none⟩ = some (.slice (some ⟨gb, 0, none⟩) l.length l.length) := by simp
    clear hb4 nb q4 c3 HO3
    have HB5 := hide (HBI.out gb _ HL4.out.B (OwnN.nodes HNB.out))
    go_wp2_with fail
    refine HB5.out.mono ?_
    rintro e w5 ⟨vg, rfl, hrg, hbn, hb5⟩
    rw [World.size_alloc] at hb5 hrg
    have HL5 := hide (HL4.out.below hb5 (by have := HL3.out.z; omega))
    have HO5 : Hid (w5.ownsRow 0 3 1 (.slice (some ⟨gs, 0, none⟩) b.length b.length) b.length (b.map vi)) := hide (row_same HO4.out (hb5.block gs (by omega)))
    have HNB5 : Hid (OwnN w5 w3.heap.size gb l) := hide (row_same HNB.out (hb5.block gb (by omega)))
    have s5 := (hb5.cell (p := ⟨w4.heap.size, 0, none⟩) (Nat.lt_succ_self _)).trans s4
    have hz5 : w4.heap.size + 1 ≤ w5.heap.size := by have := hb5.size; simpa using this
    have HRG := hide hrg
    clear hb5 s4 hrg HB5 HO4 HNB HL4
    have HNS := hide (fun (W : World) (h : W.ownsRow 0 3 1 (.slice (some ⟨gs, 0, none⟩) b.length b.length) b.length (b.map vi)) => RowI.num (B := 0) (.inr ⟨gs, _, rfl, Nat.zero_le _, h⟩))
    have hbl : b.length ≤ 1048576 := by omega
    go_wp2_with fail
    refine (eqI_same b _ _ w5 hbl HRG.out.num (HNS.out _ HO5.out)).mono ?_
    rintro e w6 ⟨rfl, hb6⟩
    have HL6 := hide (HL5.out.below hb6 HL5.out.z)
    have HO6 := hide (row_belowS HO5.out hb6)
    have HNB6 : Hid (OwnN w6 w3.heap.size gb l) := hide (row_belowS HNB5.out hb6)
    have HRG6 := hide (HRG.out.below hb6)
    have s6 := (hb6.cell (p := ⟨w4.heap.size, 0, none⟩) (show w4.heap.size < w5.heap.size by omega)).trans s5
    have hz6 := hb6.size
    have c6 := HL6.out.c
    have hzz6 : w4.heap.size < w6.heap.size := by omega
    clear hb6 s5 HL5 HO5 HNB5 HRG
    go_upto_region 10 with fail
    go_cut [31] from 27 to 31 (fun v31 wx => v31 = .bool false ∧ Below w6.heap.size w6 wx)
    case first =>
      go_region_with (first
        | (go_at_call 9; refine (HTT.out _ HL6.out.B.drew).mono ?_; rintro e w7 ⟨gc, rfl, nc, hgc, hb7⟩; have s7 := (hb7.cell (p := ⟨w4.heap.size, 0, none⟩) hzz6).trans s6; have nb7 := (OwnN.nodes HNB6.out).below ((Below.refl _ _).drew.trans hb7))
        | (go_at_call 12; refine (eqTree_same l gb gc l.length l.length _ hl2 nb7 nc.nodes).mono ?_; rintro e w8 ⟨rfl, hb8⟩))
      all_goals
        go_wp2_with fail
        go_meet
        case rel => exact ⟨rfl, (Below.refl _ _).drew.trans (hb7.trans (hb8.mono hb7.size))⟩
    case rest =>
      obtain ⟨rfl, hb8⟩ := hcut
      have HL8 := hide (HL6.out.below hb8 HL6.out.z)
      have HO8 := hide (row_belowS HO6.out hb8)
      have HNB8 : Hid (OwnN wc w3.heap.size gb l) := hide (row_belowS HNB6.out hb8)
      have HRG8 := hide (HRG6.out.below hb8)
      have s8 := (hb8.cell (p := ⟨w4.heap.size, 0, none⟩) hzz6).trans s6
      have hz8 := hb8.size
      clear hb8 s6 c6 HL6 HO6 HNB6 HRG6
      have HMT := hide (markTree_any l.length gb l.length w3.heap.size _ wc hl2 HNB8.out (by omega))
      go_wp2_with fail
      refine HMT.out.mono ?_
      rintro e w9 ⟨rfl, _, hfr9, hb9⟩
      have hz9 := hb9.size
      have HL9 := hide (HL8.out.below hb9 HL3.out.z)
      have HO9 : Hid (w9.ownsRow 0 3 1 (.slice (some ⟨gs, 0, none⟩) b.length b.length) b.length (b.map vi)) := hide (row_same HO8.out (hb9.block gs hgs3))
      have HRG9 := hide (HRG8.out.but (by omega) hfr9)
      clear hb9 hfr9 s8 HL8 HO8 HNB8 HRG8 HMT
      have hkp : ¬ (1 + 5 * (l.length : Int) < 0) := by omega
      have hkd : decide (1 + 5 * (l.length : Int) < 0) = false := by simp; omega
      go_wp2_with fail
      refine (eqI_same b _ _ w9 hbl HRG9.out.num (HNS.out _ HO9.out)).mono ?_
      rintro e w10 ⟨rfl, hb10⟩
      have hz10 := hb10.size
      have HL10 := hide (HL9.out.below hb10 HL9.out.z)
      have HO10 := hide (row_belowS HO9.out hb10)
      have HRG10 := hide (HRG9.out.below hb10)
      clear hb10 HL9 HO9 HRG9
      go_wp2_with fail
      refine (markI_v b.length _ _ _ w10 hbl HRG10.out).mono ?_
      rintro e w11 ⟨rfl, hrg11, hb11⟩
      have hz11 := hb11.size
      have HL11 := hide (HL10.out.below hb11 (by have := HL3.out.z; omega))
      have HO11 : Hid (w11.ownsRow 0 3 1 (.slice (some ⟨gs, 0, none⟩) b.length b.length) b.length (b.map vi)) := hide (row_same HO10.out (hb11.block gs (by omega)))
      have HRG11 := hide hrg11
      clear hb11 hrg11 HL10 HO10 HRG10
      go_wp2_with fail
      refine (heldI_v b.length _ _ w11 hbl HRG11.out).mono ?_
      rintro e w12 ⟨rfl, rfl⟩
      have hnn : ¬ (1 + (b.length : Int) < 0) := by omega
      have c11 := HL11.out.c
      go_wp2_with fail
      refine (HTT.out _ HL11.out.B).mono ?_
      rintro e w13 ⟨gd, rfl, nd, hgd, hb13⟩
      have HL13 := hide (HL11.out.below hb13 HL11.out.z)
      have HO13 := hide (row_belowS HO11.out hb13)
      have HRG13 := hide (HRG11.out.below hb13)
      have HND := hide nd.nodes
      clear hb13 nd hgd c11 HL11 HO11 HRG11
      have HB14 := hide (HBI.out gd _ HL13.out.B HND.out)
      go_wp2_with fail
      refine HB14.out.mono ?_
      rintro e w14 ⟨vh, rfl, hrh, _, hb14⟩
      have HL14 := hide (HL13.out.below hb14 HL13.out.z)
      have HO14 := hide (row_belowS HO13.out hb14)
      have HRG14 := hide (HRG13.out.below hb14)
      have HRH := hide hrh
      clear hb14 hrh HL13 HO13 HRG13 HB14 HND
      go_wp2_with fail
      refine (eqI_same b _ _ w14 hbl HRH.out.num (HNS.out _ HO14.out)).mono ?_
      rintro e w15 ⟨rfl, hb15⟩
      have HL15 := hide (HL14.out.below hb15 HL14.out.z)
      have HRG15 := hide (HRG14.out.below hb15)
      clear hb15 HL14 HO14 HRG14 HRH
      go_wp2_with fail
      refine (heldI_v b.length _ _ w15 hbl HRG15.out).mono ?_
      rintro e w16 ⟨rfl, rfl⟩
      go_wp2
      go_ret
      exact ⟨rfl, HL15.out.B⟩
end Go.Proofs.YtmklgiononbmmaaDoor
