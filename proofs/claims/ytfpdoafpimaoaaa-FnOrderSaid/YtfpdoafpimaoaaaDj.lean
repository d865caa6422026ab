/- Walks: a value at a limit: l5Edge. -/
import Derived.Test.YtfpdoafpimaoaaaDh
namespace Go.Proofs.Ytfpdoafpimaoaaa.Vl
open Go.RowKit T.atoms T.ok T.high T.good T.allPlain

/-- l5Edge's value in its box, in a later world. -/
structure EB (rb : Nat) (vb : Value) (n : Nat) (w : World) (q bx g c : Nat) (l : List At) (W : World) : Prop where
  D : DB rb vb n w q W
  o : W.cell? ⟨bx, 0, none⟩ = some (.slice (some ⟨g, 0, none⟩) l.length c)
  f : W.frozen? ⟨bx, 0, none⟩ = false
  a : AtomsO W g 0 l
  hl : 0 < l.length
  hc : l.length ≤ c
  hg : w.heap.size < g
  hx : g ≠ bx
  xz : w.heap.size < bx
  xl : bx < W.heap.size
theorem EB.below {rb n q bx g c : Nat} {vb : Value} {w W W' : World} {l : List At} (h : EB rb vb n w q bx g c l W) (hb : Below W.heap.size W W') : EB rb vb n w q bx g c l W' :=
  ⟨h.D.below hb, (hb.cell (p := ⟨bx, 0, none⟩) h.xl).trans h.o, (hb.frozen (p := ⟨bx, 0, none⟩) h.xl).trans h.f, h.a.below hb, h.hl, h.hc, h.hg, h.hx, h.xz, Nat.lt_of_lt_of_le h.xl hb.size⟩
theorem EB.dr {rb n q q' bx g c : Nat} {vb : Value} {w W W' : World} {l : List At} (h : EB rb vb n w q bx g c l W) (hd : Dr rb W W') (hr : Rd W' rb vb n q') : EB rb vb n w q' bx g c l W' := by
  have hl := h.D.l
  have h1 := h.xz
  have h2 := h.hg
  have hb := hd.block bx h.xl (by omega)
  exact ⟨h.D.dr hd hr, (World.cell?_of_block (a := ⟨bx, 0, none⟩) hb).trans h.o, (World.frozen?_of_block (a := ⟨bx, 0, none⟩) hb).trans h.f, h.a.dr hd (by omega), h.hl, h.hc, h2, h.hx, h1, Nat.lt_of_lt_of_le h.xl hd.size⟩
theorem EB.put {rb n q bx g c g' c' : Nat} {vb : Value} {w W : World} {l l' : List At} (h : EB rb vb n w q bx g c l W) (ha : AtomsO W g' 0 l') (hl : 0 < l'.length) (hc : l'.length ≤ c') (hg : w.heap.size < g') (hx : g' ≠ bx) : EB rb vb n w q bx g' c' l' (W.setCell ⟨bx, 0, none⟩ (.slice (some ⟨g', 0, none⟩) l'.length c')) := by
  have h1 := h.xz
  exact ⟨h.D.move ((Below.refl _ _).setCell (p := ⟨bx, 0, none⟩) (show w.heap.size + 1 ≤ bx by omega) _), World.cell?_setCell_same _ _ _ h.o, by simpa using h.f, atomsO_set ha _ (show bx ≠ g' by omega) _, hl, hc, hg, hx, h1, by simpa using h.xl⟩

theorem krow_empty (w : World) {B : Nat} (rb : Nat) (h : B ≤ w.heap.size) : KRow (w.alloc (.cells #[] 25)) B rb (.slice (some ⟨w.heap.size, 0, none⟩) 0 0) [] [] :=
  ⟨World.ownsRow_lit (base := B) (e := 25) (size := 1) w #[] 0 h (Nat.zero_le _) rfl, ⟨rfl, fun _ hj => absurd hj (Nat.not_lt_zero _)⟩, ⟨rfl, fun _ hj => absurd hj (Nat.not_lt_zero _)⟩⟩
theorem Dr.grown {rb : Nat} {w W W' : World} {row : Option Nat} (h : Dr rb w W) (hg : W.grownBy W' row) (hr : ∀ q, row = some q → w.heap.size ≤ q) : Dr rb w W' := by
  have hb : Below w.heap.size W W' := (Below.refl _ _).grown hg h.size hr
  exact ⟨hb.os.trans h.os, hb.tape.trans h.tape, hb.output.trans h.output, Nat.le_trans h.size hb.size, fun b h1 h2 => (hb.block b h1).trans (h.block b h1 h2)⟩
theorem kds_one {W : World} {rb g c : Nat} {l : List At} (ha : AtomsO W g 0 l) (hc : l.length ≤ c) (hg : g ≠ rb) : Kds W rb [.slice (some ⟨g, 0, none⟩) l.length c] [l] := by
  refine ⟨rfl, fun k hk => ?_⟩
  obtain rfl : k = 0 := by simp at hk; omega
  exact ⟨g, c, rfl, hc, hg, ha⟩
theorem cellsv_one (w : World) (v : Value) (t : TypeId) : CellsV (w.alloc (.cells #[v] t)) (some ⟨w.heap.size, 0, none⟩) [v] := by
  refine .inr ⟨w.heap.size, rfl, by simp, fun k u hu => ?_⟩
  have := cell_one w v t k u hu
  rwa [add_plain, Nat.zero_add] at this
set_option maxRecDepth 100000 in
set_option maxHeartbeats 40000000 in
theorem edge_any (rb n p : Nat) (vb : Value) (w : World) (h : Rd w rb vb n p) (hp : p ≤ 900000000) :
    Calls Try.prog 39 #[.pointer (some ⟨rb, 0, none⟩)] w fun e w' => DrawPost rb vb n p 3000 3000 w e w' := by
  have HP := hide (fun p w (h : Rd w rb vb n p) (hp : p ≤ 1000000000) m (h1 : 1 ≤ m) (h2 : m ≤ 1000000) => pick_any rb n p vb m w h hp h1 h2)
  obtain ⟨iV, hV, hVz, hVs, hVb⟩ := info_parts Try.infoVal
  have HB0 := hide (DB.start h)
  clear h
  go_enter Try.func39, Try.ntmps39
  go_wp2_with fail
  refine (none5_any _).mono ?_
  rintro e w1 ⟨g, hg, rfl, ha, hb1⟩
  have hz0 := HB0.out.z
  have HB1 := hide (HB0.out.below hb1)
  have hl1 := HB1.out.l
  have hz1 := HB1.out.z
  have hgl := ha.1
  have A1 : Below w1.heap.size w1 (w1.alloc (.cells #[.slice (some ⟨g, 0, none⟩) 1 1] 25)) := (Below.refl _ _).alloc (Nat.le_refl _) _
  have n1 := cell_new w1 (.slice (some ⟨g, 0, none⟩) 1 1) 25
  have HE1 : Hid (EB rb vb n w p w1.heap.size g 1 [⟨1, 0, ⟨#[]⟩, 0⟩] (w1.alloc (.cells #[.slice (some ⟨g, 0, none⟩) 1 1] 25))) := hide ⟨HB1.out.below A1, n1.1, n1.2, ha.below A1, by simp, by simp, by omega, by omega, hz1, by simp⟩
  clear hb1 n1 ha A1
  go_wp2_with fail
  refine (HP.out p _ HE1.out.D.R (by omega) 3 (by omega) (by omega)).mono ?_
  rintro e w2 ⟨z, hz, rfl, R2, D2⟩
  have HE2 := hide (HE1.out.dr D2 R2)
  have o2 := HE2.out.o
  have of2 := HE2.out.f
  have c2 := HE2.out.D.c
  have f2 := HE2.out.D.f
  generalize w1.heap.size = bx at *
  clear R2 D2 HE1 HB0 HB1
  go_wp2_with fail
  -- nested lists
  · refine (HP.out (p + 1) _ HE2.out.D.R (by omega) 2 (by omega) (by omega)).mono ?_
    rintro e w3 ⟨z3, hz3, rfl, R3, D3⟩
    have HE3 := hide (HE2.out.dr D3 R3)
    clear R3 D3 o2 of2 c2 f2
    go_wp2_with fail
    go_loopw [4] (fun t wr => ∃ (j g' c' : Nat) (l' : List At), t = .int .i64 (j : Int) ∧ l'.length + j ≤ 20 ∧ EB rb vb n w (p + 1 + 1) bx g' c' l' wr) (fun t _ => (intOf t).toNat)
    case atStart => exact ⟨12 + z3, g, 1, _, by congr 1, by simp; omega, HE3.out⟩
    case round =>
      obtain ⟨j, g', c', l', rfl, hj, hE⟩ := hrel
      have HE := hide hE
      have o4 := hE.o
      have of4 := hE.f
      have xl := hE.xl
      have xz := hE.xz
      have hgz := hE.hg
      have hDl := hE.D.l
      have c4 := hE.D.c
      have f4 := hE.D.f
      clear hE
      by_cases h0 : 0 < j
      · have A4 : Below wr.heap.size wr (wr.alloc (.cells #[.slice (some ⟨g', 0, none⟩) l'.length c'] 25)) := (Below.refl _ _).alloc (Nat.le_refl _) _
        have HMK := hide (make5_any 5 rb 1 (some ⟨wr.heap.size, 0, none⟩) [.slice (some ⟨g', 0, none⟩) l'.length c'] [l'] (wr.alloc (.cells #[.slice (some ⟨g', 0, none⟩) l'.length c'] 25)) (by simp) (by rw [show total [l'] = l'.length from by simp [total]]; omega) (kds_one (HE.out.a.below A4) HE.out.hc (by omega)) (cellsv_one _ _ _))
        go_wp2_with fail
        refine HMK.out.mono ?_
        rintro e w5 ⟨g5, c5, l5, rfl, hl5, hc5, hg5, ha5, hb5⟩
        have HE5 := hide ((HE.out.below A4).below hb5)
        have o5 := HE5.out.o
        have of5 := HE5.out.f
        rw [World.size_alloc] at hg5
        have hl5' : l5.length = l'.length + 1 := by rw [hl5]; simp [total]
        have HL5 := hide hl5'
        clear hb5 hl5 hl5' HMK A4 o4 of4
        go_wp2
        go_roundw
        case rel => exact ⟨j - 1, g5, c5, l5, by congr 1; omega, by have := HL5.out; omega, HE5.out.put ha5 (by have := HL5.out; omega) hc5 (by omega) (by omega)⟩
        case measure => simp [intOf]; omega
      · go_wp2
        refine bodyPost_ret (v := .agg #[.slice (some ⟨g', 0, none⟩) l'.length c']) (by simp [results, Try.results39, go_sem, c4]) rfl (HE.out.D.fin HE.out.a hgz HE.out.hl HE.out.hc (by omega) (by omega) _)
  -- many numbers
  · have A2 : Below w2.heap.size w2 (w2.alloc (.cells #[] 25)) := (Below.refl _ _).alloc (Nat.le_refl _) _
    have HE3 := hide (HE2.out.below A2)
    have hz2 := HE2.out.D.z
    refine (HP.out (p + 1) _ HE3.out.D.R (by omega) 3 (by omega) (by omega)).mono ?_
    rintro e w3 ⟨z3, hz3, rfl, R3, D3⟩
    have B3 := hide (HE3.out.D.dr D3 R3)
    have KR3 : Hid (KRow w3 (w.heap.size + 1) rb (.slice (some ⟨w2.heap.size, 0, none⟩) 0 0) [] []) := hide (by
      have hr := World.ownsRow_lit (base := w.heap.size + 1) (e := 25) (size := 1) w2 #[] 0 (by omega) (Nat.zero_le _) rfl
      refine ⟨?_, ⟨rfl, fun j hj => absurd hj (Nat.not_lt_zero _)⟩, ⟨rfl, fun j hj => absurd hj (Nat.not_lt_zero _)⟩⟩
      exact row_sameZ hr (D3.block w2.heap.size (by rw [World.size_alloc]; exact Nat.lt_succ_self _) (by omega)))
    clear R3 D3 A2 HE3 o2 of2 c2 f2 HE2
    go_wp2_with fail
    go_loopw [5, 6] (fun kv t wr => ∃ (j : Nat) (v : Value) (ls : List (List At)) (vs : List Value), t = .int .i64 (j : Int) ∧ kv = v ∧ ls.length + j ≤ 210 ∧ total ls = ls.length ∧ KRow wr (w.heap.size + 1) rb v ls vs ∧ DB rb vb n w (p + 1 + 1) wr) (fun _ t _ => (intOf t).toNat)
    case atStart => exact ⟨199 + z3, _, [], [], by congr 1, rfl, by simp; omega, rfl, KR3.out, B3.out⟩
    case round =>
      obtain ⟨j, v, ls, vs, rfl, rfl, hj, htt, hK, hB⟩ := hrel
      obtain ⟨pv, cvv, rfl⟩ := row_form hK.row
      have K4 := hide hK
      have B4 := hide hB
      have HTT := hide htt
      have c4 := hB.c
      have f4 := hB.f
      have hls : ls.length ≤ 210 := by omega
      clear hK hB htt
      by_cases h0 : 0 < j
      · go_wp2_with fail
        refine (int5_any _ _).mono ?_
        rintro e w5 ⟨g5, hg5, rfl, ha5, hb5⟩
        have K5 := hide (K4.out.below hb5)
        have B5 := hide (B4.out.below hb5)
        obtain ⟨x5, hx5⟩ : ∃ x : At, AtomsO w5 g5 0 [x] := ⟨_, ha5⟩
        have E5 : Hid (El w5 (some rb) (.slice (some ⟨g5, 0, none⟩) 1 1) [x5]) := hide ⟨g5, 1, rfl, Nat.le_refl _, fun e => by cases e; have := B4.out.R.lt; omega, hx5⟩
        have E6 : Hid (El w5 (Value.slice pv ls.length cvv).ownBlock (.slice (some ⟨g5, 0, none⟩) 1 1) [x5]) := hide ⟨g5, 1, rfl, Nat.le_refl _, fun e => by have := (K4.out.row.lt g5 e.symm).2; omega, hx5⟩
        have HTOT : Hid (total (ls ++ [[x5]]) = (ls ++ [[x5]]).length) := hide (by rw [total_app, HTT.out, List.length_append]; rfl)
        clear hb5 ha5 hx5
        go_wp2_with (at_builtin; refine wpList_append_own_at _ rfl _ _ 98 rfl (w.heap.size + 1) 25 iV _ 1 24 Try.underlying98 hV hVz hVs hVb rfl (by decide) (.slice pv ls.length cvv) ls.length vs rfl (K5.out.row.alloc _) ⟨w5.heap.size, 0, none⟩ 1 1 [.slice (some ⟨g5, 0, none⟩) 1 1] rfl rfl (cell_one _ _ _) (by simp [Value.oneCell']) (by unfold maxLen; omega) (by omega) (by have := B5.out.z; simp; omega) ?_)
        intro v6 w6 h1 h2 h3 h4
        obtain ⟨p6, c6, rfl⟩ := row_form h1
        have A5 : Below w5.heap.size w5 (w5.alloc (.cells #[.slice (some ⟨g5, 0, none⟩) 1 1] 25)) := (Below.refl _ _).alloc (Nat.le_refl _) _
        have K6 := hide ((K5.out.below A5).one (x := [x5]) rfl h2 h1 (by rw [World.size_alloc]; exact h4) (E5.out.below A5) (E6.out.below A5))
        have B6 := hide ((B5.out.below A5).move ((Below.refl _ _).grown h2 (by have := B5.out.z; simp; omega) (fun q hq => by have := (K5.out.row.lt q hq).1; omega)))
        clear h1 h2 h3 h4
        go_wp2
        go_roundw
        case rel => exact ⟨j - 1, _, _, _, by congr 1; omega, rfl, by rw [List.length_append]; simp; omega, HTOT.out, K6.out, B6.out⟩
        case measure => simp [intOf]; omega
      · have HMK := hide (make5_any 5 rb cvv pv vs ls wr (by omega) (by have := HTT.out; omega) K4.out.kds.kds K4.out.cells)
        go_wp2_with fail
        refine HMK.out.mono ?_
        rintro e w9 ⟨g9, cg, l9, rfl, hl9, hcg, hg9, ha9, hb9⟩
        have HB9 := hide (B4.out.below hb9)
        have c9 := HB9.out.c
        have f9 := HB9.out.f
        have z9 := B4.out.z
        have HL9 := hide hl9
        clear hl9
        go_wp2
        refine bodyPost_ret (v := .agg #[.slice (some ⟨g9, 0, none⟩) l9.length cg]) (by simp [results, Try.results39, go_sem, c9]) rfl (HB9.out.fin ha9 (by omega) (by have := HL9.out; omega) hcg (by have := HL9.out; have := HTT.out; omega) (by omega) _)
  -- lists of lists
  · have A2 : Below w2.heap.size w2 (w2.alloc (.cells #[] 25)) := (Below.refl _ _).alloc (Nat.le_refl _) _
    have B3 := hide (HE2.out.D.below A2)
    have hz2 := HE2.out.D.z
    have KR3 : Hid (KRow (w2.alloc (.cells #[] 25)) (w.heap.size + 1) rb (.slice (some ⟨w2.heap.size, 0, none⟩) 0 0) [] []) := hide (krow_empty w2 rb (by omega))
    clear A2 o2 of2 c2 f2 HE2
    generalize ((z : Int) == 0) = b0 at *
    obtain rfl : b0 = false := by assumption
    generalize ((z : Int) == 1) = b1 at *
    obtain rfl : b1 = false := by assumption
    go_loopw [7, 8, 9, 10] (fun kv t _ _ wr => ∃ (i q : Nat) (v : Value) (ls : List (List At)) (vs : List Value), i ≤ 5 ∧ t = .int .i64 (i : Int) ∧ kv = v ∧ ls.length = i ∧ total ls ≤ i * 201 ∧ q ≤ p + 1 + i * 210 ∧ KRow wr (w.heap.size + 1) rb v ls vs ∧ DB rb vb n w q wr) (fun _ t _ _ _ => 5 - (intOf t).toNat)
    case atStart => exact ⟨0, p + 1, _, [], [], Nat.zero_le _, rfl, rfl, rfl, by simp [total], by omega, KR3.out, B3.out⟩
    case round =>
      obtain ⟨i, q, v, ls, vs, hi, rfl, rfl, hln, htt, hq, hK, hB⟩ := hrel
      obtain ⟨pv, cvv, rfl⟩ := row_form hK.row
      have K4 := hide hK
      have B4 := hide hB
      have HLN := hide hln
      have c4 := hB.c
      have f4 := hB.f
      have hz4 := hB.z
      have hls : ls.length ≤ 5 := by omega
      clear hK hB hln
      by_cases hlt : i < 5
      · have A4 : Below wr.heap.size wr (wr.alloc (.cells #[] 25)) := (Below.refl _ _).alloc (Nat.le_refl _) _
        have KI := hide (krow_empty wr (B := wr.heap.size) rb (Nat.le_refl _))
        have DI : Hid (Dr rb wr (wr.alloc (.cells #[] 25))) := hide (Dr.of A4)
        have BI := hide (B4.out.below A4)
        have hq4 : Hid ((i : Int) / 4 = 0 ∨ (i : Int) / 4 = 1) := hide (by omega)
        clear A4 c4 f4
        generalize wr = W0 at *
        go_wp2_with fail
        go_loopw [9, 10] (fun kv t w' => ∃ (k q' : Nat) (v' : Value) (l' : List (List At)) (s' : List Value), k ≤ 200 ∧ t = .int .i64 (k : Int) ∧ kv = v' ∧ l'.length = k ∧ total l' = k ∧ q' ≤ q + k ∧ KRow w' W0.heap.size rb v' l' s' ∧ Dr rb W0 w' ∧ DB rb vb n w q' w') (fun _ t _ => 200 - (intOf t).toNat)
        case atStart => exact ⟨0, q, _, [], [], Nat.zero_le _, rfl, rfl, rfl, rfl, by omega, KI.out, DI.out, BI.out⟩
        case round =>
          obtain ⟨k, q', v', l', s', hk, rfl, rfl, hl', ht', hq', hKi, hDw, hB'⟩ := hrel
          obtain ⟨pi, ci, rfl⟩ := row_form hKi.row
          have K5 := hide hKi
          have DW5 := hide hDw
          have B5 := hide hB'
          have HL' := hide hl'
          have HT' := hide ht'
          have hl9 : l'.length ≤ 200 := by omega
          clear hKi hDw hB' hl' ht'
          go_wp2_with fail
          refine (HP.out q' _ B5.out.R (by omega) 3 (by omega) (by omega)).mono ?_
          rintro e w6 ⟨z6, hz6, rfl, R6, D6⟩
          have hrb := B5.out.l
          have hrw := B4.out.R.lt
          have K7 := hide (K5.out.dr D6 hrw)
          have DW7 := hide (DW5.out.trans D6)
          have B7 := hide (B5.out.dr D6 R6)
          have c7 := B7.out.c
          have f7 := B7.out.f
          clear R6 D6 K5 DW5 B5
          rcases hq4.out with hd | hd
          · by_cases hc : (k : Int) < 198
            · go_wp2_with fail
              refine (none5_any _).mono ?_
              rintro e w8 ⟨g8, hg8, rfl, ha8, hb8⟩
              have K8 := hide (K7.out.below hb8)
              have DW8 := hide (DW7.out.trans (Dr.of hb8))
              have B8 := hide (B7.out.below hb8)
              have E5 : Hid (El w8 (some rb) (.slice (some ⟨g8, 0, none⟩) 1 1) [⟨1, 0, ⟨#[]⟩, 0⟩]) := hide ⟨g8, 1, rfl, Nat.le_refl _, fun e => by cases e; have := B7.out.R.lt; omega, ha8⟩
              have E6 : Hid (El w8 (Value.slice pi l'.length ci).ownBlock (.slice (some ⟨g8, 0, none⟩) 1 1) [⟨1, 0, ⟨#[]⟩, 0⟩]) := hide ⟨g8, 1, rfl, Nat.le_refl _, fun e => by have := (K7.out.row.lt g8 e.symm).2; omega, ha8⟩
              clear hb8 ha8
              go_wp2_with (at_builtin; refine wpList_append_own_at _ rfl _ _ 98 rfl (W0.heap.size) 25 iV _ 1 24 Try.underlying98 hV hVz hVs hVb rfl (by decide) (.slice pi l'.length ci) l'.length s' rfl (K8.out.row.alloc _) ⟨w8.heap.size, 0, none⟩ 1 1 [.slice (some ⟨g8, 0, none⟩) 1 1] rfl rfl (cell_one _ _ _) (by simp [Value.oneCell']) (by unfold maxLen; omega) (by omega) (by have := B8.out.z; have := DW8.out.size; simp; omega) ?_)
              intro v6 w6 h1 h2 h3 h4
              obtain ⟨p6, c6, rfl⟩ := row_form h1
              have A5 : Below w8.heap.size w8 (w8.alloc (.cells #[.slice (some ⟨g8, 0, none⟩) 1 1] 25)) := (Below.refl _ _).alloc (Nat.le_refl _) _
              have K6 := hide ((K8.out.below A5).one (x := [⟨1, 0, ⟨#[]⟩, 0⟩]) rfl h2 h1 (by rw [World.size_alloc]; exact h4) (E5.out.below A5) (E6.out.below A5))
              have B6 := hide ((B8.out.below A5).move ((Below.refl _ _).grown h2 (by have := B8.out.z; simp; omega) (fun q hq => by have := (K8.out.row.lt q hq).1; omega)))
              have D6w := hide ((DW8.out.trans (Dr.of A5)).grown h2 (fun q hq => (K8.out.row.lt q hq).1))
              clear h1 h2 h3 h4
              go_wp2
              go_roundw
              case rel => exact ⟨k + 1, q' + 1, _, _, _, by omega, by go_num, rfl, by rw [List.length_append, HL'.out]; rfl, by rw [total_app, HT'.out]; rfl, by omega, K6.out, D6w.out, B6.out⟩
              case measure => simp [intOf]; omega
            · have HMK := hide (make5_any 5 rb ci pi s' l' w6 (by omega) (by have := HT'.out; omega) K7.out.kds.kds K7.out.cells)
              go_wp2_with fail
              refine HMK.out.mono ?_
              rintro e w8 ⟨g8, c8, l8, rfl, hl8, hc8, hg8, ha8, hb8⟩
              have K8 := hide (K4.out.dr (DW7.out.trans (Dr.of hb8)) (by omega))
              have B8 := hide (B7.out.below hb8)
              have E5 : Hid (El w8 (some rb) (.slice (some ⟨g8, 0, none⟩) l8.length c8) l8) := hide ⟨g8, c8, rfl, hc8, fun e => by cases e; have := B7.out.R.lt; omega, ha8⟩
              have E6 : Hid (El w8 (Value.slice pv ls.length cvv).ownBlock (.slice (some ⟨g8, 0, none⟩) l8.length c8) l8) := hide ⟨g8, c8, rfl, hc8, fun e => by have := (K4.out.row.lt g8 e.symm).2; have := DW7.out.size; omega, ha8⟩
              have HL8 := hide hl8
              have HTOT : Hid (total (ls ++ [l8]) ≤ (i + 1) * 201) := hide (by
                rw [total_app, show total [l8] = l8.length from by simp [total], HL8.out, HT'.out, Nat.succ_mul]
                omega)
              clear hb8 ha8 hl8 HMK
              go_wp2_with (at_builtin; refine wpList_append_own_at _ rfl _ _ 98 rfl (w.heap.size + 1) 25 iV _ 1 24 Try.underlying98 hV hVz hVs hVb rfl (by decide) (.slice pv ls.length cvv) ls.length vs rfl (K8.out.row.alloc _) ⟨w8.heap.size, 0, none⟩ 1 1 [.slice (some ⟨g8, 0, none⟩) l8.length c8] rfl rfl (cell_one _ _ _) (by simp [Value.oneCell']) (by unfold maxLen; omega) (by omega) (by have := B8.out.z; simp; omega) ?_)
              intro v6 w6 h1 h2 h3 h4
              obtain ⟨p6, c6, rfl⟩ := row_form h1
              have A5 : Below w8.heap.size w8 (w8.alloc (.cells #[.slice (some ⟨g8, 0, none⟩) l8.length c8] 25)) := (Below.refl _ _).alloc (Nat.le_refl _) _
              have K6 := hide ((K8.out.below A5).one (x := l8) rfl h2 h1 (by rw [World.size_alloc]; exact h4) (E5.out.below A5) (E6.out.below A5))
              have B6 := hide ((B8.out.below A5).move ((Below.refl _ _).grown h2 (by have := B8.out.z; simp; omega) (fun q hq => by have := (K8.out.row.lt q hq).1; omega)))
              clear h1 h2 h3 h4
              go_wp2
              go_roundw
              case rel => exact ⟨i + 1, q' + 1, _, _, _, by omega, by go_num, rfl, by rw [List.length_append, HLN.out]; rfl, HTOT.out, by rw [Nat.succ_mul]; omega, K6.out, B6.out⟩
              case measure => simp [intOf]; omega
          · by_cases hc : (k : Int) < 198 + (z6 : Int)
            · go_wp2_with fail
              refine (none5_any _).mono ?_
              rintro e w8 ⟨g8, hg8, rfl, ha8, hb8⟩
              have K8 := hide (K7.out.below hb8)
              have DW8 := hide (DW7.out.trans (Dr.of hb8))
              have B8 := hide (B7.out.below hb8)
              have E5 : Hid (El w8 (some rb) (.slice (some ⟨g8, 0, none⟩) 1 1) [⟨1, 0, ⟨#[]⟩, 0⟩]) := hide ⟨g8, 1, rfl, Nat.le_refl _, fun e => by cases e; have := B7.out.R.lt; omega, ha8⟩
              have E6 : Hid (El w8 (Value.slice pi l'.length ci).ownBlock (.slice (some ⟨g8, 0, none⟩) 1 1) [⟨1, 0, ⟨#[]⟩, 0⟩]) := hide ⟨g8, 1, rfl, Nat.le_refl _, fun e => by have := (K7.out.row.lt g8 e.symm).2; omega, ha8⟩
              clear hb8 ha8
              go_wp2_with (at_builtin; refine wpList_append_own_at _ rfl _ _ 98 rfl (W0.heap.size) 25 iV _ 1 24 Try.underlying98 hV hVz hVs hVb rfl (by decide) (.slice pi l'.length ci) l'.length s' rfl (K8.out.row.alloc _) ⟨w8.heap.size, 0, none⟩ 1 1 [.slice (some ⟨g8, 0, none⟩) 1 1] rfl rfl (cell_one _ _ _) (by simp [Value.oneCell']) (by unfold maxLen; omega) (by omega) (by have := B8.out.z; have := DW8.out.size; simp; omega) ?_)
              intro v6 w6 h1 h2 h3 h4
              obtain ⟨p6, c6, rfl⟩ := row_form h1
              have A5 : Below w8.heap.size w8 (w8.alloc (.cells #[.slice (some ⟨g8, 0, none⟩) 1 1] 25)) := (Below.refl _ _).alloc (Nat.le_refl _) _
              have K6 := hide ((K8.out.below A5).one (x := [⟨1, 0, ⟨#[]⟩, 0⟩]) rfl h2 h1 (by rw [World.size_alloc]; exact h4) (E5.out.below A5) (E6.out.below A5))
              have B6 := hide ((B8.out.below A5).move ((Below.refl _ _).grown h2 (by have := B8.out.z; simp; omega) (fun q hq => by have := (K8.out.row.lt q hq).1; omega)))
              have D6w := hide ((DW8.out.trans (Dr.of A5)).grown h2 (fun q hq => (K8.out.row.lt q hq).1))
              clear h1 h2 h3 h4
              go_wp2
              go_roundw
              case rel => exact ⟨k + 1, q' + 1, _, _, _, by omega, by go_num, rfl, by rw [List.length_append, HL'.out]; rfl, by rw [total_app, HT'.out]; rfl, by omega, K6.out, D6w.out, B6.out⟩
              case measure => simp [intOf]; omega
            · have HMK := hide (make5_any 5 rb ci pi s' l' w6 (by omega) (by have := HT'.out; omega) K7.out.kds.kds K7.out.cells)
              go_wp2_with fail
              refine HMK.out.mono ?_
              rintro e w8 ⟨g8, c8, l8, rfl, hl8, hc8, hg8, ha8, hb8⟩
              have K8 := hide (K4.out.dr (DW7.out.trans (Dr.of hb8)) (by omega))
              have B8 := hide (B7.out.below hb8)
              have E5 : Hid (El w8 (some rb) (.slice (some ⟨g8, 0, none⟩) l8.length c8) l8) := hide ⟨g8, c8, rfl, hc8, fun e => by cases e; have := B7.out.R.lt; omega, ha8⟩
              have E6 : Hid (El w8 (Value.slice pv ls.length cvv).ownBlock (.slice (some ⟨g8, 0, none⟩) l8.length c8) l8) := hide ⟨g8, c8, rfl, hc8, fun e => by have := (K4.out.row.lt g8 e.symm).2; have := DW7.out.size; omega, ha8⟩
              have HL8 := hide hl8
              have HTOT : Hid (total (ls ++ [l8]) ≤ (i + 1) * 201) := hide (by
                rw [total_app, show total [l8] = l8.length from by simp [total], HL8.out, HT'.out, Nat.succ_mul]
                omega)
              clear hb8 ha8 hl8 HMK
              go_wp2_with (at_builtin; refine wpList_append_own_at _ rfl _ _ 98 rfl (w.heap.size + 1) 25 iV _ 1 24 Try.underlying98 hV hVz hVs hVb rfl (by decide) (.slice pv ls.length cvv) ls.length vs rfl (K8.out.row.alloc _) ⟨w8.heap.size, 0, none⟩ 1 1 [.slice (some ⟨g8, 0, none⟩) l8.length c8] rfl rfl (cell_one _ _ _) (by simp [Value.oneCell']) (by unfold maxLen; omega) (by omega) (by have := B8.out.z; simp; omega) ?_)
              intro v6 w6 h1 h2 h3 h4
              obtain ⟨p6, c6, rfl⟩ := row_form h1
              have A5 : Below w8.heap.size w8 (w8.alloc (.cells #[.slice (some ⟨g8, 0, none⟩) l8.length c8] 25)) := (Below.refl _ _).alloc (Nat.le_refl _) _
              have K6 := hide ((K8.out.below A5).one (x := l8) rfl h2 h1 (by rw [World.size_alloc]; exact h4) (E5.out.below A5) (E6.out.below A5))
              have B6 := hide ((B8.out.below A5).move ((Below.refl _ _).grown h2 (by have := B8.out.z; simp; omega) (fun q hq => by have := (K8.out.row.lt q hq).1; omega)))
              clear h1 h2 h3 h4
              go_wp2
              go_roundw
              case rel => exact ⟨i + 1, q' + 1, _, _, _, by omega, by go_num, rfl, by rw [List.length_append, HLN.out]; rfl, HTOT.out, by rw [Nat.succ_mul]; omega, K6.out, B6.out⟩
              case measure => simp [intOf]; omega
      · have htl : total ls ≤ 5 * 201 := by have : i * 201 ≤ 5 * 201 := Nat.mul_le_mul_right _ hi; omega
        have HMK := hide (make5_any 5 rb cvv pv vs ls wr (by omega) (by omega) K4.out.kds.kds K4.out.cells)
        go_wp2_with fail
        refine HMK.out.mono ?_
        rintro e w9 ⟨g9, cg, l9, rfl, hl9, hcg, hg9, ha9, hb9⟩
        have HB9 := hide (B4.out.below hb9)
        have c9 := HB9.out.c
        have f9 := HB9.out.f
        have HL9 := hide hl9
        clear hl9
        go_wp2
        refine bodyPost_ret (v := .agg #[.slice (some ⟨g9, 0, none⟩) l9.length cg]) (by simp [results, Try.results39, go_sem, c9]) rfl (HB9.out.fin ha9 (by omega) (by have := HL9.out; omega) hcg (by have := HL9.out; omega) (by omega) _)
end Go.Proofs.Ytfpdoafpimaoaaa.Vl
