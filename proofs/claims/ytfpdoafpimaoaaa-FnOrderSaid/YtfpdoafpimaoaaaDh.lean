/- Walks: a value drawn: l5Draw with others inside. -/
import Derived.Test.YtfpdoafpimaoaaaDg
namespace Go.Proofs.Ytfpdoafpimaoaaa.Vl
open Go.RowKit T.atoms T.ok T.high T.good T.allPlain

theorem row_dr {w w' : World} {B size n : Nat} {e : TypeId} {v : Value} {xs : List Value} (h : w.ownsRow B e size v n xs) (hb : ∀ q, v.ownBlock = some q → w'.heap[q]? = w.heap[q]?) : w'.ownsRow B e size v n xs := by
  refine ⟨h.1, ?_⟩
  rcases h.2 with h1 | ⟨g, c, cur, hv, h2, h3, h4⟩
  · exact .inl h1
  · exact .inr ⟨g, c, cur, hv, h2, (hb g (by rw [hv]; rfl)).trans h3, h4⟩
theorem KRow.dr {w w' : World} {B rb : Nat} {v : Value} {ls : List (List At)} {vs : List Value} (h : KRow w B rb v ls vs) (hd : Dr rb w w') (hB : rb < B) : KRow w' B rb v ls vs := by
  have e : ∀ b, b < w.heap.size → some b ≠ some rb → w'.heap[b]? = w.heap[b]? := fun b h1 h2 => hd.block b h1 (fun q => h2 (by rw [q]))
  refine ⟨row_dr h.row (fun q hq => ?_), h.kds.heap h.kds e, h.dis.heap h.kds e⟩
  have := h.row.lt q hq
  exact hd.block q this.2 (by omega)
theorem KRow.cells {w : World} {B rb : Nat} {p : Option Addr} {c : Nat} {ls : List (List At)} {vs : List Value} {m : Nat} (h : KRow w B rb (.slice p m c) ls vs) : CellsV w p vs := by
  rcases h.row.2 with ⟨_, h2⟩ | ⟨g, c', cur, hv, h2, h3, h4⟩
  · exact .inl (List.eq_nil_of_length_eq_zero (by have := h.row.1; omega))
  · have hr := h.row
    rw [hv] at hr
    simp only [Value.slice.injEq] at hv
    refine .inr ⟨g, hv.1, (hr.lt g rfl).2, fun j u hu => ?_⟩
    have hj : j < vs.length := (List.getElem?_eq_some_iff.1 hu).1
    rw [hr.cellAt j (by have := hr.1; omega)]; exact hu
theorem DB.move {rb n q : Nat} {vb : Value} {w W W' : World} (h : DB rb vb n w q W) (hb : Below (w.heap.size + 1) W W') : DB rb vb n w q W' := by
  have hl := h.l
  exact ⟨h.R.far (fun b hb' => hb.block b (by omega)), ⟨hb.os.trans h.D.os, hb.tape.trans h.D.tape, hb.output.trans h.D.output, Nat.le_trans h.D.size hb.size, fun b h1 h2 => (hb.block b (by omega)).trans (h.D.block b h1 h2)⟩, (hb.cell (p := ⟨w.heap.size, 0, none⟩) (Nat.lt_succ_self _)).trans h.c, (hb.frozen (p := ⟨w.heap.size, 0, none⟩) (Nat.lt_succ_self _)).trans h.f, Nat.lt_of_lt_of_le h.z hb.size, hl⟩
/-- One value more in a draw's row. -/
theorem KRow.one {w W' : World} {B rb n : Nat} {v v' a : Value} {x : List At} {ls : List (List At)} {vs : List Value} (h : KRow w B rb v ls vs) (hn : n = ls.length + 1) (hg : w.grownBy W' v.ownBlock) (ho : W'.ownsRow B 25 1 v' n (vs ++ [a])) (h4 : v'.ownBlock = v.ownBlock ∨ v'.ownBlock = some w.heap.size) (a1 : El w (some rb) a x) (a2 : El w v.ownBlock a x) : KRow W' B rb v' (ls ++ [x]) (vs ++ [a]) :=
  KRow.grow (v := v) (by rw [hn]; simp) hg ho h4 (h.kds.snoc a1) (h.dis.snoc a2)

theorem Kds.dr {w w' : World} {rb : Nat} {vs : List Value} {ls : List (List At)} (h : Kds w rb vs ls) (hd : Dr rb w w') : Kds w' rb vs ls :=
  ⟨h.1, fun j hj => by obtain ⟨g, c, a, b, d, e⟩ := h.2 j hj; exact ⟨g, c, a, b, d, e.dr hd d⟩⟩
theorem CellsV.dr {w w' : World} {rb : Nat} {p : Option Addr} {vs : List Value} (h : CellsV w p vs) (hd : Dr rb w w') (hp : ∀ g, p = some ⟨g, 0, none⟩ → g ≠ rb) : CellsV w' p vs := by
  rcases h with h | ⟨g, h1, h2, h3⟩
  · exact .inl h
  · exact .inr ⟨g, h1, Nat.lt_of_lt_of_le h2 hd.size, fun j u hu => (hd.cell h2 (hp g h1)).trans (h3 j u hu)⟩
/-- A record's kids on the way, in a later world. -/
structure RK (rb : Nat) (vb : Value) (n : Nat) (w : World) (q : Nat) (pv : Option Addr) (vs : List Value) (ls : List (List At)) (W : World) : Prop where
  K : Kds W rb vs ls
  C : CellsV W pv vs
  G : ∀ g, pv = some ⟨g, 0, none⟩ → g ≠ rb
  B : DB rb vb n w q W
theorem RK.below {rb n q : Nat} {vb : Value} {w W W' : World} {pv : Option Addr} {vs : List Value} {ls : List (List At)} (h : RK rb vb n w q pv vs ls W) (hb : Below W.heap.size W W') : RK rb vb n w q pv vs ls W' := ⟨h.K.below hb, h.C.below hb, h.G, h.B.below hb⟩
theorem RK.dr {rb n q q' : Nat} {vb : Value} {w W W' : World} {pv : Option Addr} {vs : List Value} {ls : List (List At)} (h : RK rb vb n w q pv vs ls W) (hd : Dr rb W W') (hr : Rd W' rb vb n q') : RK rb vb n w q' pv vs ls W' := ⟨h.K.dr hd, h.C.dr hd h.G, h.G, h.B.dr hd hr⟩
theorem six_at (X : World) (z : Nat) (h : z < 6) : ∃ v, (X.alloc (.cells #[.string ⟨#[97]⟩, .string ⟨#[98]⟩, .string ⟨#[99, 32, 100]⟩, .string ⟨#[]⟩, .string ⟨#[108, 101, 116]⟩, .string ⟨#[95]⟩] 9)).cell? ⟨X.heap.size, z, none⟩ = some (.string v) := strs_at X [⟨#[97]⟩, ⟨#[98]⟩, ⟨#[99, 32, 100]⟩, ⟨#[]⟩, ⟨#[108, 101, 116]⟩, ⟨#[95]⟩] 9 z h

set_option maxRecDepth 100000 in
set_option maxHeartbeats 40000000 in
theorem draw_step (rb n p d kd nd kd1 nd1 M : Nat) (vb : Value) (w : World) (h : Rd w rb vb n p) (hM : M ≤ 900000000) (hp : p ≤ M) (hd : d ≤ 10) (hkd : kd1 = 4 * (kd + 20) + 20) (hnd : nd1 = 4 * (nd + 1) + 1) (hk1 : kd ≤ 1000) (hn0 : 1 ≤ nd) (hn1 : nd ≤ 1000)
    (IH : ∀ p w, Rd w rb vb n p → p ≤ M + 10000 → Calls Try.prog 41 #[.pointer (some ⟨rb, 0, none⟩), .int .i64 (d : Int)] w fun e w' => DrawPost rb vb n p kd nd w e w') :
    Calls Try.prog 41 #[.pointer (some ⟨rb, 0, none⟩), .int .i64 ((d : Int) + 1)] w fun e w' => DrawPost rb vb n p kd1 nd1 w e w' := by
  have HP := hide (fun p w (h : Rd w rb vb n p) (hp : p ≤ 1000000000) m (h1 : 1 ≤ m) (h2 : m ≤ 1000000) => pick_any rb n p vb m w h hp h1 h2)
  have HX := hide (fun p w (h : Rd w rb vb n p) (hp : p ≤ 999999000) => drawText_any rb n p vb w h hp)
  have HIH := hide IH
  have HB0 := hide (DB.start h)
  have HN1 : Hid (1 ≤ nd1) := hide (by omega)
  clear h IH
  have hd0 : ¬ (d : Int) + 1 ≤ 0 := by omega
  go_enter Try.func41, Try.ntmps41
  go_wp2_with fail
  refine (HP.out p _ HB0.out.R (by omega) 8 (by omega) (by omega)).mono ?_
  rintro e w1 ⟨z, hz, rfl, R1, D1⟩
  have HB1 := hide (HB0.out.dr D1 R1)
  have c1 := HB1.out.c
  have f1 := HB1.out.f
  clear R1 D1 HB0
  go_wp2_with fail
  -- none
  · refine (none5_any _).mono ?_
    rintro e w9 ⟨g, hg, rfl, ha, hb9⟩
    have HB8 := HB1
    have HB9 := hide (HB1.out.below hb9)
    have c9 := HB9.out.c
    have f9 := HB9.out.f
    have z9 := HB8.out.z
    have l9 := HB8.out.l
    go_wp2
    refine bodyPost_ret (v := .agg #[.slice (some ⟨g, 0, none⟩) 1 1]) (by simp [results, Try.results41, go_sem, c9]) rfl (HB9.out.fin (l := [_]) ha (by omega) (by simp) (by simp) HN1.out (by omega) _)
  -- a bool
  · refine (HP.out (p + 1) _ HB1.out.R (by omega) 2 (by omega) (by omega)).mono ?_
    rintro e w2 ⟨z2, hz2, rfl, R2, D2⟩
    have HB8 := hide (HB1.out.dr D2 R2)
    clear R2 D2
    go_wp2_with fail
    refine (bool5_any _ _).mono ?_
    rintro e w9 ⟨g, hg, rfl, ha, hb9⟩
    have HB9 := hide (HB8.out.below hb9)
    have c9 := HB9.out.c
    have f9 := HB9.out.f
    have z9 := HB8.out.z
    have l9 := HB8.out.l
    go_wp2
    refine bodyPost_ret (v := .agg #[.slice (some ⟨g, 0, none⟩) 1 1]) (by simp [results, Try.results41, go_sem, c9]) rfl (HB9.out.fin (l := [_]) ha (by omega) (by simp) (by simp) HN1.out (by omega) _)
  -- a number
  iterate 2
    · have hL : Below w1.heap.size w1 (w1.alloc (.cells ((List.map (Value.int .i64) [0, 1, -1, 2, 7, -7, 10, 9223372036854775807, -9223372036854775808, -9223372036854775807, 4611686018427387904, 3037000500]).toArray) 2)) := (Below.refl _ _).alloc (Nat.le_refl _) _
      have HBL := hide (HB1.out.below hL)
      refine (HP.out (p + 1) _ HBL.out.R (by omega) 12 (by omega) (by omega)).mono ?_
      rintro e w2 ⟨z2, hz2, rfl, R2, D2⟩
      have HB8 := hide (HBL.out.dr D2 R2)
      obtain ⟨vz, hvz⟩ := ints_at w1 [0, 1, -1, 2, 7, -7, 10, 9223372036854775807, -9223372036854775808, -9223372036854775807, 4611686018427387904, 3037000500] 2 z2 (by simp; omega)
      have hl1 := HB1.out.l
      have hz1 := HB1.out.z
      have cz : w2.cell? ⟨w1.heap.size, z2, none⟩ = some (.int .i64 vz) := (D2.cell (by rw [World.size_alloc]; exact Nat.lt_succ_self _) (by omega)).trans hvz
      have hs2 := D2.size
      rw [World.size_alloc] at hs2
      clear R2 D2 hvz hL
      go_wp2_with fail
      refine (int5_any _ _).mono ?_
      rintro e w9 ⟨g, hg, rfl, ha, hb9⟩
      have HB9 := hide (HB8.out.below hb9)
      have c9 := HB9.out.c
      have f9 := HB9.out.f
      have z9 := HB8.out.z
      have l9 := HB8.out.l
      go_wp2
      refine bodyPost_ret (v := .agg #[.slice (some ⟨g, 0, none⟩) 1 1]) (by simp [results, Try.results41, go_sem, c9]) rfl (HB9.out.fin (l := [_]) ha (by omega) (by simp) (by simp) HN1.out (by omega) _)
  -- a text
  · refine (HP.out (p + 1) _ HB1.out.R (by omega) 16 (by omega) (by omega)).mono ?_
    rintro e w2 ⟨z2, hz2, rfl, R2, D2⟩
    have HB2 := hide (HB1.out.dr D2 R2)
    have c2 := HB2.out.c
    have f2 := HB2.out.f
    clear R2 D2
    go_wp2_with fail
    · refine (HP.out (p + 1 + 1) _ HB2.out.R (by omega) 3 (by omega) (by omega)).mono ?_
      rintro e w3 ⟨z3, hz3, rfl, R3, D3⟩
      have HB8 := hide (HB2.out.dr D3 R3)
      have hm := many_any ⟨#[116]⟩ (1000 - z3) w3 (by omega) (by show 1 * (1000 - z3) ≤ 100000000; omega)
      rw [show ((1000 - z3 : Nat) : Int) = 1000 - (z3 : Int) from by omega] at hm
      have HM := hide hm
      clear R3 D3 hm
      go_wp2_with fail
      refine HM.out.mono ?_
      rintro e w4 ⟨tx, rfl, rfl⟩
      go_wp2_with fail
      refine (text5_any _ _).mono ?_
      rintro e w9 ⟨g, hg, rfl, ha, hb9⟩
      have HB9 := hide (HB8.out.below hb9)
      have c9 := HB9.out.c
      have f9 := HB9.out.f
      have z9 := HB8.out.z
      have l9 := HB8.out.l
      go_wp2
      refine bodyPost_ret (v := .agg #[.slice (some ⟨g, 0, none⟩) 1 1]) (by simp [results, Try.results41, go_sem, c9]) rfl (HB9.out.fin (l := [_]) ha (by omega) (by simp) (by simp) HN1.out (by omega) _)
    · refine (HX.out (p + 1 + 1) _ HB2.out.R (by omega)).mono ?_
      rintro e w3 ⟨tx, q3, rfl, hq3, R3, D3⟩
      have HB3 := hide (HB2.out.dr D3 R3)
      have hL : Below w3.heap.size w3 (w3.alloc (.cells ((List.map Value.string [tx, ⟨#[45, 48]⟩, ⟨#[45, 49, 50]⟩, ⟨#[57, 50, 50, 51, 51, 55, 50, 48, 51, 54, 56, 53, 52, 55, 55, 53, 56, 48, 56]⟩, ⟨#[45, 57, 50, 50, 51, 51, 55, 50, 48, 51, 54, 56, 53, 52, 55, 55, 53, 56, 48, 56]⟩, ⟨#[43, 49]⟩, ⟨#[97, 32, 98]⟩]).toArray) 9)) := (Below.refl _ _).alloc (Nat.le_refl _) _
      have HBL := hide (HB3.out.below hL)
      clear R3 D3
      go_wp2_with fail
      refine (HP.out q3 _ HBL.out.R (by omega) 7 (by omega) (by omega)).mono ?_
      rintro e w4 ⟨z4, hz4, rfl, R4, D4⟩
      have HB8 := hide (HBL.out.dr D4 R4)
      obtain ⟨vz, hvz⟩ := strs_at w3 [tx, ⟨#[45, 48]⟩, ⟨#[45, 49, 50]⟩, ⟨#[57, 50, 50, 51, 51, 55, 50, 48, 51, 54, 56, 53, 52, 55, 55, 53, 56, 48, 56]⟩, ⟨#[45, 57, 50, 50, 51, 51, 55, 50, 48, 51, 54, 56, 53, 52, 55, 55, 53, 56, 48, 56]⟩, ⟨#[43, 49]⟩, ⟨#[97, 32, 98]⟩] 9 z4 (by simp; omega)
      have hl3 := HB3.out.l
      have hz3 := HB3.out.z
      have cz : w4.cell? ⟨w3.heap.size, z4, none⟩ = some (.string vz) := (D4.cell (by rw [World.size_alloc]; exact Nat.lt_succ_self _) (by omega)).trans hvz
      have hs4 := D4.size
      rw [World.size_alloc] at hs4
      clear R4 D4 hvz hL
      go_wp2_with fail
      refine (text5_any _ _).mono ?_
      rintro e w9 ⟨g, hg, rfl, ha, hb9⟩
      have HB9 := hide (HB8.out.below hb9)
      have c9 := HB9.out.c
      have f9 := HB9.out.f
      have z9 := HB8.out.z
      have l9 := HB8.out.l
      go_wp2
      refine bodyPost_ret (v := .agg #[.slice (some ⟨g, 0, none⟩) 1 1]) (by simp [results, Try.results41, go_sem, c9]) rfl (HB9.out.fin (l := [_]) ha (by omega) (by simp) (by simp) HN1.out (by omega) _)
  have hLe : Below w1.heap.size w1 (w1.alloc (.cells #[] 25)) := (Below.refl _ _).alloc (Nat.le_refl _) _
  have HBe := hide (HB1.out.below hLe)
  refine (HP.out (p + 1) _ HBe.out.R (by omega) 5 (by omega) (by omega)).mono ?_
  rintro e w2 ⟨zn, hzn, rfl, R2, D2⟩
  have HB2 := hide (HBe.out.dr D2 R2)
  have c2 := HB2.out.c
  have f2 := HB2.out.f
  have hz1 := HB1.out.z
  have hl1 := HB1.out.l
  have KR0 : Hid (KRow w2 (w.heap.size + 1) rb (.slice (some ⟨w1.heap.size, 0, none⟩) 0 0) [] []) := hide (by
    have hr := World.ownsRow_lit (base := w.heap.size + 1) (e := 25) (size := 1) w1 #[] 0 (by omega) (Nat.zero_le _) rfl
    refine ⟨?_, ⟨rfl, fun j hj => absurd hj (Nat.not_lt_zero _)⟩, ⟨rfl, fun j hj => absurd hj (Nat.not_lt_zero _)⟩⟩
    exact row_sameZ hr (D2.block w1.heap.size (by rw [World.size_alloc]; exact Nat.lt_succ_self _) (by omega)))
  clear R2 D2 hLe HBe
  go_wp2_with fail
  · refine (HP.out (p + 1 + 1) _ HB2.out.R (by omega) 2 (by omega) (by omega)).mono ?_
    rintro e w3 ⟨zs, hzs, rfl, R3, D3⟩
    have HB3 := hide (HB2.out.dr D3 R3)
    have hl2 := HB2.out.l
    have KR3 := hide (KR0.out.dr D3 (by omega))
    clear R3 D3 KR0
    obtain ⟨iV, hV, hVz, hVs, hVb⟩ := info_parts Try.infoVal
    go_wp2_with fail
    go_loopw [6, 9] (fun kv t wr => ∃ (i q : Nat) (v : Value) (ls : List (List At)) (vs : List Value), i ≤ zn ∧ t = .int .i64 (i : Int) ∧ kv = v ∧ ls.length = i ∧ total ls ≤ i * nd ∧ q ≤ p + 3 + i * (kd + 20) ∧ KRow wr (w.heap.size + 1) rb v ls vs ∧ DB rb vb n w q wr) (fun _ t _ => zn - (intOf t).toNat)
    case atStart => exact ⟨0, p + 1 + 1 + 1, _, [], [], Nat.zero_le _, rfl, rfl, rfl, by simp [total], by omega, KR3.out, HB3.out⟩
    case round =>
      obtain ⟨i, q, v, ls, vs, hi, rfl, rfl, hln, htt, hq, hK, hB⟩ := hrel
      obtain ⟨pv, cvv, rfl⟩ := row_form hK.row
      have K4 := hide hK
      have B4 := hide hB
      have HLN := hide hln
      have HTT := hide htt
      have hll := hB.l
      have hls : ls.length ≤ 4 := by omega
      have hik : i * (kd + 20) ≤ 4 * (kd + 20) := Nat.mul_le_mul_right _ (by omega)
      have hiq : q ≤ p + 3 + 4 * (kd + 20) := by omega
      clear hK hB hln htt
      by_cases hlt : i < zn
      · have hex : (i + 1) * (kd + 20) = i * (kd + 20) + (kd + 20) := Nat.succ_mul _ _
        have hex2 : (i + 1) * nd = i * nd + nd := Nat.succ_mul _ _
        have HEX := hide hex
        have HEX2 := hide hex2
        have HQ := hide hq
        clear hex hex2 hq
        cases hzs0 : ((zs : Int) == 0)
        · have hdd : (d : Int) + 1 - 1 = (d : Int) := by omega
          have hbd := HIH.out q _ B4.out.R (by omega)
          have HBD := hide hbd
          clear hbd
          go_wp2_with fail
          refine HBD.out.mono ?_
          rintro e w5 ⟨g, cg, l5, q5, rfl, hcg, hl5, hm5, hgr, ha5, hq5, R5, D5⟩
          have K5 := hide (K4.out.dr D5 (by omega))
          have B5 := hide (B4.out.dr D5 R5)
          have E5 : Hid (El w5 (some rb) (.slice (some ⟨g, 0, none⟩) l5.length cg) l5) := hide ⟨g, cg, rfl, hcg, fun e => by cases e; have := B4.out.R.lt; omega, ha5⟩
          have E6 : Hid (El w5 (Value.slice pv ls.length cvv).ownBlock (.slice (some ⟨g, 0, none⟩) l5.length cg) l5) := hide ⟨g, cg, rfl, hcg, fun e => by have := (K4.out.row.lt g e.symm).2; omega, ha5⟩
          have HTOT : Hid (total (ls ++ [l5]) ≤ (i + 1) * nd) := hide (by
            rw [total_app, HEX2.out, show total [l5] = l5.length from by simp [total]]
            have := HTT.out
            omega)
          clear hm5 R5 D5 ha5 hcg hl5 HBD
          go_wp2_with (at_builtin; refine wpList_append_own_at _ rfl _ _ 98 rfl (w.heap.size + 1) 25 iV _ 1 24 Try.underlying98 hV hVz hVs hVb rfl (by decide) (.slice pv ls.length cvv) ls.length vs rfl (K5.out.row.alloc _) ⟨w5.heap.size, 0, none⟩ 1 1 [.slice (some ⟨g, 0, none⟩) l5.length cg] rfl rfl (cell_one _ _ _) (by simp [Value.oneCell']) (by unfold maxLen; omega) (by omega) (by have := B5.out.z; simp; omega) ?_)
          intro v6 w6 h1 h2 h3 h4
          obtain ⟨p6, c6, rfl⟩ := row_form h1
          have A5 : Below w5.heap.size w5 (w5.alloc (.cells #[.slice (some ⟨g, 0, none⟩) l5.length cg] 25)) := (Below.refl _ _).alloc (Nat.le_refl _) _
          have K6 := hide ((K5.out.below A5).one (x := l5) rfl h2 h1 (by rw [World.size_alloc]; exact h4) (E5.out.below A5) (E6.out.below A5))
          have B6 := hide ((B5.out.below A5).move ((Below.refl _ _).grown h2 (by have := B5.out.z; simp; omega) (fun q hq => (K5.out.row.lt q hq).1)))
          clear h1 h2 h3 h4
          go_wp2
          go_roundw
          case rel => exact ⟨i + 1, q5, _, _, _, by omega, by go_num, rfl, by rw [List.length_append, HLN.out]; rfl, HTOT.out, by rw [HEX.out]; have := HQ.out; omega, K6.out, B6.out⟩
          case measure => simp [intOf]; omega
        · go_wp2_with fail
          refine (HX.out q _ B4.out.R (by omega)).mono ?_
          rintro e w4 ⟨tx, q5, rfl, hq5, R5, D5⟩
          have K4b := hide (K4.out.dr D5 (by omega))
          have B4b := hide (B4.out.dr D5 R5)
          clear R5 D5
          go_wp2_with fail
          refine (text5_any _ _).mono ?_
          rintro e w5 ⟨g, hg, rfl, ha5, hb5⟩
          have K5 := hide (K4b.out.below hb5)
          have B5 := hide (B4b.out.below hb5)
          have E5 : Hid (El w5 (some rb) (.slice (some ⟨g, 0, none⟩) 1 1) [⟨4, 0, tx, 0⟩]) := hide ⟨g, 1, rfl, Nat.le_refl _, fun e => by cases e; have := B4b.out.R.lt; omega, ha5⟩
          have E6 : Hid (El w5 (Value.slice pv ls.length cvv).ownBlock (.slice (some ⟨g, 0, none⟩) 1 1) [⟨4, 0, tx, 0⟩]) := hide ⟨g, 1, rfl, Nat.le_refl _, fun e => by have := (K4b.out.row.lt g e.symm).2; omega, ha5⟩
          have HTOT : Hid (total (ls ++ [[(⟨4, 0, tx, 0⟩ : At)]]) ≤ (i + 1) * nd) := hide (by
            rw [total_app, HEX2.out, show total [[(⟨4, 0, tx, 0⟩ : At)]] = 1 from by simp [total]]
            have := HTT.out
            omega)
          clear hb5 ha5
          go_wp2_with (at_builtin; refine wpList_append_own_at _ rfl _ _ 98 rfl (w.heap.size + 1) 25 iV _ 1 24 Try.underlying98 hV hVz hVs hVb rfl (by decide) (.slice pv ls.length cvv) ls.length vs rfl (K5.out.row.alloc _) ⟨w5.heap.size, 0, none⟩ 1 1 [.slice (some ⟨g, 0, none⟩) 1 1] rfl rfl (cell_one _ _ _) (by simp [Value.oneCell']) (by unfold maxLen; omega) (by omega) (by have := B5.out.z; simp; omega) ?_)
          intro v6 w6 h1 h2 h3 h4
          obtain ⟨p6, c6, rfl⟩ := row_form h1
          have A5 : Below w5.heap.size w5 (w5.alloc (.cells #[.slice (some ⟨g, 0, none⟩) 1 1] 25)) := (Below.refl _ _).alloc (Nat.le_refl _) _
          have K6 := hide ((K5.out.below A5).one (x := [⟨4, 0, tx, 0⟩]) rfl h2 h1 (by rw [World.size_alloc]; exact h4) (E5.out.below A5) (E6.out.below A5))
          have B6 := hide ((B5.out.below A5).move ((Below.refl _ _).grown h2 (by have := B5.out.z; simp; omega) (fun q hq => (K5.out.row.lt q hq).1)))
          clear h1 h2 h3 h4
          go_wp2
          go_roundw
          case rel => exact ⟨i + 1, q5, _, _, _, by omega, by go_num, rfl, by rw [List.length_append, HLN.out]; rfl, HTOT.out, by rw [HEX.out]; have := HQ.out; omega, K6.out, B6.out⟩
          case measure => simp [intOf]; omega
      · have htl : total ls ≤ 4 * nd := by have := HTT.out; have : i * nd ≤ 4 * nd := Nat.mul_le_mul_right _ (by omega); omega
        have HMK := hide (make5_any 5 rb cvv pv vs ls wr (by omega) (by omega) K4.out.kds.kds K4.out.cells)
        go_wp2_with fail
        refine HMK.out.mono ?_
        rintro e w9 ⟨g, cg, l9, rfl, hl9, hcg, hg, ha, hb9⟩
        have HB9 := hide (B4.out.below hb9)
        have c9 := HB9.out.c
        have f9 := HB9.out.f
        have z9 := B4.out.z
        have HL9 := hide hl9
        clear hl9
        go_wp2
        refine bodyPost_ret (v := .agg #[.slice (some ⟨g, 0, none⟩) l9.length cg]) (by simp [results, Try.results41, go_sem, c9]) rfl (HB9.out.fin ha (by omega) (by have := HL9.out; omega) hcg (by have := HL9.out; omega) (by omega) _)
  · have K0 : Hid (Kds w2 rb [] [] ∧ CellsV w2 (some ⟨w1.heap.size, 0, none⟩) []) := hide ⟨⟨rfl, fun j hj => absurd hj (Nat.not_lt_zero _)⟩, .inl rfl⟩
    clear KR0
    go_loopw [6, 10] (fun kv t wr => ∃ (i q : Nat) (pv : Option Addr) (cvv : Nat) (ls : List (List At)) (vs : List Value), i ≤ zn ∧ t = .int .i64 (i : Int) ∧ kv = .slice pv ls.length cvv ∧ ls.length ≤ 2 * i ∧ ls.length % 2 = 0 ∧ total ls ≤ i * (nd + 1) ∧ (∀ x ∈ ls, 0 < x.length) ∧ q ≤ p + 3 + i * (kd + 20) ∧ Kds wr rb vs ls ∧ (CellsV wr pv vs ∧ ∀ g, pv = some ⟨g, 0, none⟩ → g ≠ rb) ∧ DB rb vb n w q wr) (fun _ t _ => zn - (intOf t).toNat)
    case atStart => exact ⟨0, p + 1 + 1, _, _, [], [], Nat.zero_le _, rfl, rfl, Nat.le_refl _, rfl, by simp [total], (fun x hx => absurd hx List.not_mem_nil), by omega, K0.out.1, ⟨K0.out.2, by intro g hg; cases hg; omega⟩, HB2.out⟩
    case round =>
      obtain ⟨i, q, pv, cvv, ls, vs, hi, rfl, rfl, hln, hev, htt, hps, hq, hK, ⟨hC, hpg⟩, hB⟩ := hrel
      have K4 := hide hK
      have C4 := hide hC
      have B4 := hide hB
      have HG := hide hpg
      have HTT := hide htt
      have HPS := hide hps
      have hll := hB.l
      have hik : i * (kd + 20) ≤ 4 * (kd + 20) := Nat.mul_le_mul_right _ (by omega)
      have hin : i * (nd + 1) ≤ 4 * (nd + 1) := Nat.mul_le_mul_right _ (by omega)
      have hiq : q ≤ p + 3 + 4 * (kd + 20) := by omega
      have htl : total ls ≤ 4 * (nd + 1) := by omega
      have hls8 : ls.length ≤ 8 := by omega
      clear hK hC hB htt hps hpg
      by_cases hlt : i < zn
      · have HEX := hide (show (i + 1) * (kd + 20) = i * (kd + 20) + (kd + 20) from Nat.succ_mul _ _)
        have HEX2 := hide (show (i + 1) * (nd + 1) = i * (nd + 1) + (nd + 1) from Nat.succ_mul _ _)
        have HQ := hide hq
        have hdd : (d : Int) + 1 - 1 = (d : Int) := by omega
        have RK4 : Hid (RK rb vb n w q pv vs ls wr) := hide ⟨K4.out, C4.out, HG.out, B4.out⟩
        have hz4 := B4.out.z
        have bX : Below wr.heap.size wr (wr.alloc (.cells #[.string ⟨#[97]⟩, .string ⟨#[98]⟩, .string ⟨#[99, 32, 100]⟩, .string ⟨#[]⟩, .string ⟨#[108, 101, 116]⟩, .string ⟨#[95]⟩] 9)) := (Below.refl _ _).alloc (Nat.le_refl _) _
        have HP1 := hide (HP.out q wr.drew (RK4.out.below (Below.refl _ _).drew).B.R (by omega) 6 (by omega) (by omega))
        have HP2 := hide (HP.out q (wr.alloc (.cells #[.string ⟨#[97]⟩, .string ⟨#[98]⟩, .string ⟨#[99, 32, 100]⟩, .string ⟨#[]⟩, .string ⟨#[108, 101, 116]⟩, .string ⟨#[95]⟩] 9)).drew (RK4.out.below bX.drew).B.R (by omega) 6 (by omega) (by omega))
        have HSET : Hid (∀ (W : World) (g cg : Nat) (l5 : List At) (sz : ByteArray), RK rb vb n w (q + 1 + kd) pv vs ls W ∨ (∃ q', RK rb vb n w q' pv vs ls W) → AtomsO W g 0 l5 → 0 < l5.length → l5.length ≤ cg → g ≠ rb → Calls Try.prog 69 #[.slice pv ls.length cvv, .string sz, .agg #[.slice (some ⟨g, 0, none⟩) l5.length cg]] W fun e w' => SetPost W rb (ls.length + 2) (total ls + 1 + l5.length) e w') := hide (by
          intro W g cg l5 sz hW ha h1 h2 h3
          have hR : ∃ q', RK rb vb n w q' pv vs ls W := by
            rcases hW with h | h
            · exact ⟨_, h⟩
            · exact h
          obtain ⟨q', hR⟩ := hR
          exact set5_any rb cvv g cg pv vs ls l5 sz W (by omega) hev HPS.out (by omega) hR.K hR.C ha h1 h2 h3 hR.B.R.lt)
        clear bX
        have hwd : IntKind.i64.wrap (d : Int) = (d : Int) := by rw [IntKind.wrap_i64]; omega
        go_wp2_with fail
        go_region_with (first
          | (go_at_call 23; (with_reducible refine (HP1.out).mono ?_); rintro e w3 ⟨z6, hz6, rfl, R3, D3⟩; have RK5 := (RK4.out.below (Below.refl _ _).drew).dr D3 R3; obtain ⟨sz, hsz⟩ := six_at w3 z6 (by omega); have pz1 := hsz)
          | (go_at_call 23; (with_reducible refine (HP2.out).mono ?_); rintro e w3 ⟨z6, hz6, rfl, R3, D3⟩; have RK5 := (RK4.out.below ((Below.refl _ _).alloc (Nat.le_refl _) (.cells #[.string ⟨#[97]⟩, .string ⟨#[98]⟩, .string ⟨#[99, 32, 100]⟩, .string ⟨#[]⟩, .string ⟨#[108, 101, 116]⟩, .string ⟨#[95]⟩] 9)).drew).dr D3 R3; obtain ⟨sz, hsz0⟩ := six_at wr z6 (by omega); have lz : w3.cell? ⟨wr.heap.size, z6, none⟩ = some (.string sz) := (D3.cell (b := wr.heap.size) (o := z6) (by show wr.heap.size < (wr.alloc _).heap.size; rw [World.size_alloc]; exact Nat.lt_succ_self _) (by omega)).trans hsz0; have hs3 : wr.heap.size < w3.heap.size := World.block_lt_of_cell? w3 ⟨wr.heap.size, z6, none⟩ lz)
          | (go_at_call 41; have _t := lz; (with_reducible refine (HIH.out (q + 1) w3 RK5.B.R (by omega)).mono ?_); rintro e w4 ⟨g, cg, l5, q5, rfl, hcg, hl5, hm5, hgr, ha5, hq5, R5, D5⟩; have RK6 := RK5.dr D5 R5; have lz4 : w4.cell? ⟨wr.heap.size, z6, none⟩ = some (.string sz) := (D5.cell (b := wr.heap.size) (o := z6) hs3 (by omega)).trans lz; have hgb : g ≠ rb := by have := RK5.B.R.lt; omega)
          | (go_at_call 41; have _t := pz1; (with_reducible refine (HIH.out (q + 1) w3 RK5.B.R (by omega)).mono ?_); rintro e w4 ⟨g, cg, l5, q5, rfl, hcg, hl5, hm5, hgr, ha5, hq5, R5, D5⟩; have RK6 := RK5.dr D5 R5; obtain ⟨sz, hsz4⟩ := six_at w4 z6 (by omega); have hgb : g ≠ rb := by have := RK5.B.R.lt; omega)
          | (go_at_call 41; have _t := pz1; (with_reducible refine (HIH.out (q + 1) (w3.alloc (.cells #[.string ⟨#[97]⟩, .string ⟨#[98]⟩, .string ⟨#[99, 32, 100]⟩, .string ⟨#[]⟩, .string ⟨#[108, 101, 116]⟩, .string ⟨#[95]⟩] 9)) (RK5.below ((Below.refl _ _).alloc (Nat.le_refl _) _)).B.R (by omega)).mono ?_); rintro e w4 ⟨g, cg, l5, q5, rfl, hcg, hl5, hm5, hgr, ha5, hq5, R5, D5⟩; have RK6 := (RK5.below ((Below.refl _ _).alloc (Nat.le_refl _) (.cells #[.string ⟨#[97]⟩, .string ⟨#[98]⟩, .string ⟨#[99, 32, 100]⟩, .string ⟨#[]⟩, .string ⟨#[108, 101, 116]⟩, .string ⟨#[95]⟩] 9))).dr D5 R5; have lz4 : w4.cell? ⟨w3.heap.size, z6, none⟩ = some (.string sz) := (D5.cell (b := w3.heap.size) (o := z6) (by rw [World.size_alloc]; exact Nat.lt_succ_self _) (by have := RK5.B.R.lt; omega)).trans pz1; have hgb : g ≠ rb := by have := RK5.B.R.lt; rw [World.size_alloc] at hgr; omega)
          | (go_at_call 69; (with_reducible refine (HSET.out w4 g cg l5 _ (.inr ⟨_, RK6⟩) ha5 hl5 hcg hgb).mono ?_); rintro e w6 ⟨v6, ls6, vs6, rfl, K6, n6, ev6, t6, ps6, hb6⟩; have RK7 := RK6.below hb6; have hz7 := RK6.B.R.lt; obtain ⟨p6, c6, rfl⟩ := row_form K6.row)
          | (go_at_call 69; (with_reducible refine (HSET.out (w4.alloc (.cells #[.string ⟨#[97]⟩, .string ⟨#[98]⟩, .string ⟨#[99, 32, 100]⟩, .string ⟨#[]⟩, .string ⟨#[108, 101, 116]⟩, .string ⟨#[95]⟩] 9)) g cg l5 _ (.inr ⟨_, RK6.below ((Below.refl _ _).alloc (Nat.le_refl _) _)⟩) (ha5.below ((Below.refl _ _).alloc (Nat.le_refl _) _)) hl5 hcg hgb).mono ?_); rintro e w6 ⟨v6, ls6, vs6, rfl, K6, n6, ev6, t6, ps6, hb6⟩; have RK7 := (RK6.below ((Below.refl _ _).alloc (Nat.le_refl _) (.cells #[.string ⟨#[97]⟩, .string ⟨#[98]⟩, .string ⟨#[99, 32, 100]⟩, .string ⟨#[]⟩, .string ⟨#[108, 101, 116]⟩, .string ⟨#[95]⟩] 9))).below hb6; have hz7 := (RK6.below ((Below.refl _ _).alloc (Nat.le_refl _) (.cells #[.string ⟨#[97]⟩, .string ⟨#[98]⟩, .string ⟨#[99, 32, 100]⟩, .string ⟨#[]⟩, .string ⟨#[108, 101, 116]⟩, .string ⟨#[95]⟩] 9))).B.R.lt; obtain ⟨p6, c6, rfl⟩ := row_form K6.row))
        all_goals
          have HFIN : Hid (∃ (i' q' : Nat) (pv' : Option Addr) (cvv' : Nat) (ls' : List (List At)) (vs' : List Value), i' ≤ zn ∧ (Value.int .i64 ((i : Int) + 1)) = .int .i64 (i' : Int) ∧ (Value.slice p6 ls6.length c6) = .slice pv' ls'.length cvv' ∧ ls'.length ≤ 2 * i' ∧ ls'.length % 2 = 0 ∧ total ls' ≤ i' * (nd + 1) ∧ (∀ x ∈ ls', 0 < x.length) ∧ q' ≤ p + 3 + i' * (kd + 20) ∧ Kds w6 rb vs' ls' ∧ (CellsV w6 pv' vs' ∧ ∀ g, pv' = some ⟨g, 0, none⟩ → g ≠ rb) ∧ DB rb vb n w q' w6) := hide (by
            refine ⟨i + 1, q5, p6, c6, ls6, vs6, by omega, by go_num, rfl, by omega, ev6, ?_, ps6, ?_, K6.kds.kds, ⟨K6.cells, fun g' hg' => ?_⟩, RK7.B⟩
            · rw [HEX2.out]; have := HTT.out; omega
            · rw [HEX.out]; have := HQ.out; omega
            · subst hg'
              have := (K6.row.lt g' rfl).1
              omega)
          clear RK5 RK6 RK7 K6 t6 ps6 R3 D3 R5 D5 hb6
          go_wp2
          go_roundw
          case rel => exact HFIN.out
          case measure => simp [intOf]; omega
      · have HMK := hide (make5_any 6 rb cvv pv vs ls wr (by omega) (by omega) K4.out C4.out)
        go_wp2_with fail
        refine HMK.out.mono ?_
        rintro e w9 ⟨g, cg, l9, rfl, hl9, hcg, hg, ha, hb9⟩
        have HB9 := hide (B4.out.below hb9)
        have c9 := HB9.out.c
        have f9 := HB9.out.f
        have z9 := B4.out.z
        have HL9 := hide hl9
        clear hl9
        go_wp2
        refine bodyPost_ret (v := .agg #[.slice (some ⟨g, 0, none⟩) l9.length cg]) (by simp [results, Try.results41, go_sem, c9]) rfl (HB9.out.fin ha (by omega) (by have := HL9.out; omega) hcg (by have := HL9.out; omega) (by omega) _)
end Go.Proofs.Ytfpdoafpimaoaaa.Vl
