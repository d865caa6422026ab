/- The walk of the law on Targets. -/
import Derived.Test.YtmpjdooepdicoaaGreatDoorBm
import Derived.Test.YtmpjdooepdicoaaGreatDoorAd
namespace Go.Proofs.YtmpjdooepdicoaaGreatDoor.Vl
open Go.RowKit T.atoms T.ok T.high T.good T.allPlain

/-- A box of three cells. -/
structure PX (b : Nat) (v0 v1 v2 : Value) (W : World) : Prop where
  c0 : W.cell? ⟨b, 0, none⟩ = some v0
  c1 : W.cell? ⟨b, 1, none⟩ = some v1
  c2 : W.cell? ⟨b, 2, none⟩ = some v2
  z : b < W.heap.size
theorem PX.heap {b : Nat} {v0 v1 v2 : Value} {W W' : World} (h : PX b v0 v1 v2 W) (hb : W'.heap[b]? = W.heap[b]?) (hs : W.heap.size ≤ W'.heap.size) : PX b v0 v1 v2 W' := by
  have e : ∀ j, W'.cell? ⟨b, j, none⟩ = W.cell? ⟨b, j, none⟩ := fun j => World.cell?_of_block (a := ⟨b, j, none⟩) hb
  exact ⟨(e 0).trans h.c0, (e 1).trans h.c1, (e 2).trans h.c2, Nat.lt_of_lt_of_le h.z hs⟩
theorem PX.new (W : World) (v0 v1 v2 : Value) (t : TypeId) : PX W.heap.size v0 v1 v2 (W.alloc (.cells #[v0, v1, v2] t)) := ⟨by simp, by simp, by simp, by simp⟩
/-- The specification's answer. -/
structure LW (b : Nat) (k a : Int) (v : Value) (ts : List Tg) (W : World) : Prop where
  x : PX b (.int .i64 k) (.int .i64 a) v W
  t : TgsV W v ts
theorem LW.below {b : Nat} {k a : Int} {v : Value} {ts : List Tg} {W W' : World} (h : LW b k a v ts W) (hb : Below W.heap.size W W') : LW b k a v ts W' := ⟨h.x.heap (hb.block b h.x.z) hb.size, h.t.below hb⟩
/-- The program's answer. -/
structure LG (b : Nat) (k a : Int) (v : Value) (B : Nat) (lc : List Lc) (W : World) : Prop where
  x : PX b (.int .i64 k) (.int .i64 a) v W
  g : GI B v lc W
theorem LG.below {b : Nat} {k a : Int} {v : Value} {B : Nat} {lc : List Lc} {W W' : World} (h : LG b k a v B lc W) (hb : Below W.heap.size W W') : LG b k a v B lc W' := ⟨h.x.heap (hb.block b h.x.z) hb.size, h.g.below hb⟩
theorem sum_kD (lc : List (Td × Nat)) (l : List Td) (h : lc.map (·.1) = l) : kD lc = (l.map fun d => 1 + 4 * d.at_.length).sum := by
  subst h; unfold kD; rw [List.map_map]; rfl
theorem wt_sums (l : List Td) : (l.map fun d => 1 + 4 * d.at_.length).sum ≤ 4 * (l.length + wtD l) ∧ (l.map fun d => d.at_.length).sum ≤ wtD l := by
  induction l with
  | nil => simp [wtD]
  | cons d r ih =>
    have h1 : d.at_.length ≤ d.wt := by unfold Td.wt wtA; omega
    have h2 : wtD (d :: r) = d.wt + wtD r := by unfold wtD; rw [List.map_cons, List.sum_cons]
    rw [List.map_cons, List.sum_cons, List.map_cons, List.sum_cons, h2, List.length_cons]
    omega
theorem wt_memD (l : List Td) (d : Td) (h : d ∈ l) : d.at_.length ≤ wtD l := by
  induction l with
  | nil => cases h
  | cons y r ih =>
    have h2 : wtD (y :: r) = y.wt + wtD r := by unfold wtD; rw [List.map_cons, List.sum_cons]
    have h1 : y.at_.length ≤ y.wt := by unfold Td.wt wtA; omega
    rcases List.mem_cons.1 h with rfl | h
    · omega
    · have := ih h; omega
theorem GI.lt {B : Nat} {v : Value} {lc : List Lc} {W : World} (h : GI B v lc W) : (∀ b, v.ownBlock = some b → b < W.heap.size) ∧ ∀ p ∈ lc, ∀ b, (p.vi.ownBlock = some b → b < W.heap.size) ∧ (p.vo.ownBlock = some b → b < W.heap.size) :=
  ⟨fun _ hb => (own_lt h.L hb).2, fun p hp _ => ⟨fun hb => (own_lt (h.S.own (p.vi, p.t.ins) (List.mem_flatMap.2 ⟨p, hp, List.mem_cons_self ..⟩)) hb).2, fun hb => (own_lt (h.S.own (p.vo, p.t.outs) (List.mem_flatMap.2 ⟨p, hp, List.mem_cons_of_mem _ (List.mem_cons_self ..)⟩)) hb).2⟩⟩
theorem tgs_form {W : World} {v : Value} {ts : List Tg} (h : TgsV W v ts) : ∃ p n c, v = .slice p n c := by
  rcases h with ⟨rfl, _⟩ | ⟨g, c, rfl, _⟩
  · exact ⟨_, _, _, rfl⟩
  · exact ⟨_, _, _, rfl⟩

set_option maxRecDepth 100000 in
set_option maxHeartbeats 4000000 in
theorem lawT_any (l : List Td) (v : Value) (w : World) (hl : l.length ≤ 9223372036854775807) (hx : ∀ x ∈ l, x.Small) (ht : TdsV w v l) (hE : ErrT w) :
    Calls Tryz.prog 3 #[v] w fun e w' => e = .returned (.bool true) ∧ Below w.heap.size w w' := by
  have HZ := hide (szD_any 1048576 (by omega) (by omega) l v w hl hx ht)
  have HT := hide ht
  have HE := hide hE
  clear ht hE
  by_cases hr : lessW 1048576 (l.length + wtD l) < 0
  · generalize lessW 1048576 (l.length + wtD l) = r at *
    go_enter Tryz.func3, Tryz.ntmps3
    go_wp2_with fail
    refine HZ.out.mono ?_
    rintro e w1 ⟨rfl, hb1⟩
    go_wp2
    go_ret
    exact ⟨rfl, hb1⟩
  · have hw : l.length + wtD l ≤ 1048576 := by unfold lessW at hr; split at hr <;> omega
    generalize lessW 1048576 (l.length + wtD l) = r at *
    have hl2 : l.length ≤ 1048576 := by omega
    have hx2 : ∀ x ∈ l, x.at_.length ≤ 1048576 := fun x hm => by have := wt_memD l x hm; omega
    obtain ⟨hs1, hs2⟩ := wt_sums l
    have HTT := hide (fun w' (hb : Below w.heap.size w w') => toD_any l v w' hl2 hx2 (HT.out.below hb))
    have HS := hide (fun g w' (a : TdsO w' g l) => targets9_some l g l.length w' hl2 hx2 a (plan9 l) rfl)
    have HI := hide (fun g w' (a : TdsO w' g l) (he : ErrT w') => implT_any l g l.length w' hl2 hx2 a he)
    have HQ := hide (fun ga gb w' (a : TdsO w' ga l) (b : TdsO w' gb l) => eqD_same l ga gb w' hl2 hx2 a b)
    have HKD := hide (fun (lc : List (Td × Nat)) (h : lc.map (·.1) = l) => (show kD lc ≤ 4999999 by rw [sum_kD lc l h]; omega))
    have HX2 := hide hx2
    clear hl hx hx2
    go_enter Tryz.func3, Tryz.ntmps3
    go_wp2_with fail
    refine HZ.out.mono ?_
    rintro e w1 ⟨rfl, hb1⟩
    -- the specification
    go_wp2_with fail
    refine (HTT.out _ hb1).mono ?_
    rintro e w2 ⟨rfl, ⟨la, hla, ha⟩, hb2⟩
    have A2 := hb1.trans (hb2.mono hb1.size)
    have HS2 := HS.out _ w2 (by have := ha.tds; rw [hla] at this; exact this)
    replace HS2 := hide HS2
    clear ha hla hb1 hb2
    go_wp2_with fail
    refine HS2.out.mono ?_
    rintro e w3 ⟨hb3, vw, rfl, tv⟩
    obtain ⟨pw, nw, cw, rfl⟩ := tgs_form tv
    have A3 := A2.trans (hb3.mono A2.size)
    generalize hP : plan9 l = P at *
    obtain ⟨kk, ka, ts⟩ := P
    simp only at tv
    have b4 : Below w3.heap.size w3 (w3.alloc (.cells #[.int .i64 kk, .int .i64 ka, .slice pw nw cw] 26)) := (Below.refl _ _).alloc (Nat.le_refl _) _
    have LW4 := hide (LW.mk (PX.new w3 (.int .i64 kk) (.int .i64 ka) (.slice pw nw cw) 26) (tv.below b4))
    have A4 := A3.trans (b4.mono A3.size)
    have HA4 := hide A4
    clear tv hb3 HS2 A2 A3 b4
    -- the copy, the program
    go_wp2_with fail
    refine (HTT.out _ HA4.out).mono ?_
    generalize hW4 : w3.alloc (.cells #[.int .i64 kk, .int .i64 ka, .slice pw nw cw] 26) = w4 at *
    have hz4 : w3.heap.size < w4.heap.size := by rw [← hW4, World.size_alloc]; omega
    clear hW4
    rintro e w5 ⟨rfl, ⟨lx, hlx, hxc⟩, hb5⟩
    have LW5 := hide (LW4.out.below hb5)
    have A5 := HA4.out.trans (hb5.mono HA4.out.size)
    have HA5 := hide A5
    have hlxl : lx.length = l.length := by rw [← hlx, List.length_map]
    have HXC5 := hide hxc
    have HI5 := hide (HI.out _ w5 (by have := hxc.tds; rw [hlx] at this; exact this) (HE.out.below A5))
    have HXH : Hid (w4.heap.size < w5.heap.size ∧ ∀ p ∈ lx, p.2 < w5.heap.size) := hide ⟨(hxc.row.lt _ rfl).2, fun p hp => ((hxc.own p hp).2.lt p.2 rfl).2⟩
    have C5 := hide hb5
    have hz5 := hb5.size
    have HLXL := hide hlxl
    have HLX := hide hlx
    clear hxc hb5 A5 hlx hlxl
    go_wp2_with fail
    refine HI5.out.mono ?_
    rintro e w6 ⟨hb6, lc, pg, ng, cg, rfl, hts, hlen, hkp, hbd, hG⟩
    rw [hP] at hts ⊢
    simp only at hts ⊢
    subst hts
    have b7 : Below w6.heap.size w6 (w6.alloc (.cells #[.int .i64 kk, .int .i64 ka, .slice pg ng cg] 26)) := (Below.refl _ _).alloc (Nat.le_refl _) _
    have hb67 := hb6.trans (b7.mono hb6.size)
    have LG7 := hide (LG.mk (PX.new w6 (.int .i64 kk) (.int .i64 ka) (.slice pg ng cg) 26) (hG.below b7))
    have HGL := hide hG.lt
    have LW7 := hide (LW5.out.below hb67)
    have XC7 := hide (HXC5.out.below hb67)
    have HA7 := hide (HA5.out.trans (hb67.mono HA5.out.size))
    have C7 := hide (C5.out.trans (hb67.mono hz5))
    have hz6 := hb6.size
    have hkp2 : kP lc ≤ 4999999 := by omega
    have hlcl : lc.length ≤ 1048576 := by omega
    have HBD : Hid (∀ p ∈ lc, p.t.ins.length ≤ 1048576 ∧ p.t.outs.length ≤ 1048576) := hide (fun p hp => ⟨Nat.le_trans (hbd p hp).1 (by omega), Nat.le_trans (hbd p hp).2 (by omega)⟩)
    have HBT : Hid (∀ x ∈ lc.map Lc.t, x.ins.length ≤ 1048576 ∧ x.outs.length ≤ 1048576) := hide (fun x hx => by
      obtain ⟨p, hp, rfl⟩ := List.mem_map.1 hx
      exact HBD.out p hp)
    have HEQ := hide (fun va vb w' (a : TgsV w' va (lc.map Lc.t)) (b : TgsV w' vb (lc.map Lc.t)) => eqPlan_same kk ka (lc.map Lc.t) va vb w' (by rw [List.length_map]; exact hlcl) HBT.out a b)
    clear hG hb6 b7 hb67 hkp hbd hlen HXC5 HA5 C5 LW5 HI5 HBT
    -- the answers are alike
    have HE8 := hide (HEQ.out _ _ _ LG7.out.g.tgs LW7.out.t)
    obtain ⟨g0, g1, g2, gz⟩ := LG7.out.x
    obtain ⟨t0, t1, t2, tz⟩ := LW7.out.x
    go_wp2_with fail
    refine HE8.out.mono ?_
    generalize hW7 : w6.alloc (.cells #[.int .i64 kk, .int .i64 ka, .slice pg ng cg] 26) = w7 at *
    have hz7 : w6.heap.size < w7.heap.size := by rw [← hW7, World.size_alloc]; omega
    clear hW7 g0 g1 g2 gz t0 t1 t2 tz
    rintro e w8 ⟨rfl, hb8⟩
    have LG8 := hide (LG7.out.below hb8)
    have LW8 := hide (LW7.out.below hb8)
    have XC8 := hide (XC7.out.below hb8)
    have HA8 := hide (HA7.out.trans (hb8.mono HA7.out.size))
    have C8 := hide (C7.out.trans (hb8.mono (by omega)))
    have hz8 := hb8.size
    clear hb8 LG7 LW7 XC7 HA7 C7 HE8
    -- the argument is as it was
    go_wp2_with fail
    refine (HTT.out _ HA8.out).mono ?_
    rintro e w9 ⟨rfl, ⟨ly, hly, hyc⟩, hb9⟩
    have LG9 := hide (LG8.out.below hb9)
    have LW9 := hide (LW8.out.below hb9)
    have XC9 := hide (XC8.out.below hb9)
    have HA9 := hide (HA8.out.trans (hb9.mono HA8.out.size))
    have C9 := hide (C8.out.trans (hb9.mono (by omega)))
    have hz9 := hb9.size
    have HQ9 := hide (HQ.out _ _ w9 (by have := XC9.out.tds; rw [HLX.out] at this; exact this) (by have := hyc.tds; rw [hly] at this; exact this))
    clear hb9 LG8 LW8 XC8 HA8 C8 hyc hly
    go_wp2_with fail
    refine HQ9.out.mono ?_
    rintro e w10 ⟨rfl, hb10⟩
    have LG10 := hide (LG9.out.below hb10)
    have LW10 := hide (LW9.out.below hb10)
    have XC10 := hide (XC9.out.below hb10)
    have HA10 := hide (HA9.out.trans (hb10.mono HA9.out.size))
    have C10 := hide (C9.out.trans (hb10.mono (by omega)))
    have hz10 := hb10.size
    have hm := markD_any lx w4.heap.size w4.heap.size w5.heap.size w10 (HKD.out lx HLX.out) (fun p hp => HX2.out p.1 (by rw [← HLX.out]; exact List.mem_map_of_mem hp)) (by rw [HLXL.out]; exact hl2) XC10.out (by omega) HXH.out.1 HXH.out.2
    rw [HLXL.out] at hm
    have HM := hide hm
    have hkn : ¬ (((1 + kD lx : Nat) : Int) < 0) := by omega
    clear hb10 LG9 LW9 XC9 HA9 C9 HQ9 hm
    -- marks in the argument
    go_wp2_with fail
    refine HM.out.mono ?_
    rintro e w11 ⟨rfl, hb11, hf11⟩
    generalize ((1 + kD lx : Nat) : Int) = kx at *
    have hz11 := hb11.size
    have C11 := C10.out.trans hb11
    have LW11 := hide (LW4.out.below C11)
    have LG11 : Hid (LG w6.heap.size kk ka (.slice pg ng cg) w5.heap.size lc w11) := hide ⟨LG10.out.x.heap (hf11 _ hz6 LG10.out.x.z) hz11, LG10.out.g.same hf11⟩
    have HA11 := hide (HA4.out.trans (C11.mono HA4.out.size))
    have HC11 := hide C11
    have HE11 := hide (HEQ.out _ _ _ LG11.out.g.tgs LW11.out.t)
    obtain ⟨g0, g1, g2, gz⟩ := LG11.out.x
    obtain ⟨t0, t1, t2, tz⟩ := LW11.out.x
    clear hb11 hf11 C11 LG10 LW10 XC10 HA10 C10 HM
    go_wp2_with fail
    refine HE11.out.mono ?_
    rintro e w12 ⟨rfl, hb12⟩
    clear g0 g1 g2 gz t0 t1 t2 tz
    have LG12 := hide (LG11.out.below hb12)
    have HA12 := hide (HA11.out.trans (hb12.mono HA11.out.size))
    have C12 := hide (HC11.out.trans (hb12.mono (by omega)))
    have hz12 := hb12.size
    have HMP := hide (markPlan_any kk ka lc (.slice pg ng cg) w5.heap.size w12 hkp2 hlcl HBD.out LG12.out.g (by omega) w6.heap.size HGL.out.1 HGL.out.2)
    obtain ⟨g0, g1, g2, gz⟩ := LG12.out.x
    clear hb12 LG11 LW11 HA11 HC11 HE11
    -- marks in the answer
    go_wp2_with fail
    refine HMP.out.mono ?_
    rintro e w13 ⟨rfl, hG13, hb13, hf13⟩
    have hz13 := hb13.size
    have LG13 : Hid (LG w6.heap.size kk ka (.slice pg ng cg) w5.heap.size (mkP 1 lc) w13) := hide ⟨LG12.out.x.heap (hf13 _ (Nat.le_refl _) gz) hz13, hG13⟩
    have C13 := hide (C12.out.trans (hb13.mono hz5))
    have HA13 := hide (HA4.out.trans (C13.out.mono HA4.out.size))
    clear g0 g1 g2 gz hG13 hb13 hf13 LG12 HA12 C12 HMP
    have HH13 := hide (heldPlan_any kk ka lc (.slice pg ng cg) w5.heap.size w13 hkp2 hlcl HBD.out LG13.out.g)
    have HHH := hide (fun w' (h : GI w5.heap.size (.slice pg ng cg) (mkP 1 lc) w') => heldPlan_any kk ka lc (.slice pg ng cg) w5.heap.size w' hkp2 hlcl HBD.out h)
    have hkm : ¬ (((1 + kP lc : Nat) : Int) < 0) := by omega
    generalize ((1 + kP lc : Nat) : Int) = km at *
    obtain ⟨g0, g1, g2, gz⟩ := LG13.out.x
    go_wp2_with fail
    refine HH13.out.mono ?_
    rintro e w14 ⟨rfl, hb14⟩
    clear g0 g1 g2 gz
    have LG14 := hide (LG13.out.below hb14)
    have HA14 := hide (HA13.out.trans (hb14.mono HA13.out.size))
    have C14 := hide (C13.out.trans (hb14.mono (by omega)))
    have hz14 := hb14.size
    clear hb14 LG13 HA13 C13 HH13
    -- once more
    go_wp2_with fail
    refine (HTT.out _ HA14.out).mono ?_
    rintro e w15 ⟨rfl, ⟨lz, hlz, hzc⟩, hb15⟩
    have LG15 := hide (LG14.out.below hb15)
    have HA15 := hide (HA14.out.trans (hb15.mono HA14.out.size))
    have C15 := hide (C14.out.trans (hb15.mono (by omega)))
    have hz15 := hb15.size
    have HI15 := hide (HI.out _ w15 (by have := hzc.tds; rw [hlz] at this; exact this) (HE.out.below HA15.out))
    clear hb15 LG14 HA14 C14 hzc hlz
    go_wp2_with fail
    refine HI15.out.mono ?_
    rintro e w16 ⟨hb16, lh, ph, nh, ch, rfl, hth, -, -, -, hGh⟩
    rw [hP] at hth ⊢
    simp only at hth ⊢
    have b17 : Below w16.heap.size w16 (w16.alloc (.cells #[.int .i64 kk, .int .i64 ka, .slice ph nh ch] 26)) := (Below.refl _ _).alloc (Nat.le_refl _) _
    have hb17 := hb16.trans (b17.mono hb16.size)
    have LG17 := hide (LG15.out.below hb17)
    have LH17 := hide (LG.mk (PX.new w16 (.int .i64 kk) (.int .i64 ka) (.slice ph nh ch) 26) (hGh.below b17))
    have HA17 := hide (HA15.out.trans (hb17.mono HA15.out.size))
    have C17 := C15.out.trans (hb17.mono (by omega))
    have LW17 := hide (LW4.out.below C17)
    have HE17 := hide (HEQ.out _ _ _ (by have := LH17.out.g.tgs; rw [← hth] at this; exact this) LW17.out.t)
    obtain ⟨g0, g1, g2, gz⟩ := LH17.out.x
    obtain ⟨t0, t1, t2, tz⟩ := LW17.out.x
    clear hGh hb16 b17 hb17 C17 LG15 HA15 C15 HI15 hth
    go_wp2_with fail
    refine HE17.out.mono ?_
    rintro e w18 ⟨rfl, hb18⟩
    clear g0 g1 g2 gz t0 t1 t2 tz
    have LG18 := hide (LG17.out.below hb18)
    have HA18 := hide (HA17.out.trans (hb18.mono HA17.out.size))
    clear hb18 LG17 HA17 HE17 LW17 LH17
    have HH18 := hide (HHH.out w18 LG18.out.g)
    obtain ⟨g0, g1, g2, gz⟩ := LG18.out.x
    go_wp2_with fail
    refine HH18.out.mono ?_
    rintro e w19 ⟨rfl, hb19⟩
    have HA19 := hide (HA18.out.trans (hb19.mono HA18.out.size))
    clear g0 g1 g2 gz hb19
    go_wp2
    go_ret
    exact ⟨rfl, HA19.out⟩
end Go.Proofs.YtmpjdooepdicoaaGreatDoor.Vl
