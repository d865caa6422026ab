/- Joined: Ed. -/
import Derived.Test.YtnkfbjcgkdblgaaGreatG15
namespace Go.Proofs.YtnkfbjcgkdblgaaGreat.Vl
open Go.RowKit T.atoms T.ok T.high T.good T.allPlain DatAt T.ord
theorem datText {w : World} {x : Nat} (t : T) (hk : t.kind = 4) : DatAt w x t (.iface 89 (.string t.text)) := by
  cases t with
  | mk k n s ks => exact (by unfold DatAt; exact .inr (.inr (.inr (.inl ⟨hk, rfl⟩))))
theorem apost_shape {w : World} {base x : Nat} {acc : List At} (e : Ending) (w' : World) (h : APost w base x acc e w') : ∃ r, e = .returned r ∧ ∃ g c, r = .slice (some ⟨g, 0, none⟩) acc.length c ∧ Acc w' base g (.slice (some ⟨g, 0, none⟩) acc.length c) acc ∧ Moves w w' x g ∧ Below base w w' := by
  obtain ⟨g, c, rfl, h⟩ := h
  exact ⟨_, rfl, g, c, rfl, h⟩
set_option maxRecDepth 100000 in
set_option maxHeartbeats 2000000 in
theorem atomsOf_rec (ks : List T) (v : Value) (x base : Nat) (av : Value) (acc : List At) (w : World) (hls : ks.length ≤ 1000) (hnk : ∀ j (h : 2 * j < ks.length), (ks[2 * j]).kind = 4) (hal : acc.length + (atomsL ks).length + 1 ≤ 100000) (hd : DatAt w x (.mk 6 0 ⟨#[]⟩ ks) v) (ha : Acc w base x av acc)
    (HIH : Hid (∀ i (h1 : i < ks.length) v x base av acc w, acc.length + (ks[i]).count ≤ 100000 → DatAt w x ks[i] v → Acc w base x av acc → Calls Tryz.prog 76 #[v, av] w (APost w base x (acc ++ (ks[i]).atoms)))) :
    Calls Tryz.prog 76 #[v, av] w (APost w base x (acc ++ (T.mk 6 0 ⟨#[]⟩ ks).atoms)) := by
  obtain ⟨iN, hNi, hNz, hNs, hNb⟩ := info_parts Tryz.infoAt
  have HK : Hid (Kinds v 6) := hide (kinds_of hd)
  have HA := hide ha
  have hxw := ha.lt
  obtain ⟨pv, cv, rfl⟩ := row_formE ha.own
  have n1 := tan_b
  have n2 := tan_i
  have n3 := ta_text_no
  have n4 := tan_l
  unfold DatAt at hd
  clear ha
  rcases hd with ⟨h, _⟩ | ⟨h, _⟩ | ⟨h, _⟩ | ⟨h, _⟩ | ⟨h, _⟩ | ⟨_, p, c, m, vs, hm, rfl, hpc, hdl, hrow⟩
  any_goals (exfalso; revert h; decide)
  have HT : Hid ((T.mk 6 0 ⟨#[]⟩ ks).atoms = atomsL ks ++ [⟨6, 0, ⟨#[]⟩, (2 * (m : Int))⟩]) := hide (by rw [← show (ks.length : Int) = 2 * (m : Int) by omega]; simp [T.atoms])
  have HT5 : Hid (acc ++ (T.mk 6 0 ⟨#[]⟩ ks).atoms = acc ++ atomsL ks ++ [⟨6, 0, ⟨#[]⟩, (2 * (m : Int))⟩]) := hide (by rw [HT.out, List.append_assoc])
  clear HT
  have HDL := hide hdl
  have HRW := hide hrow
  have y1 := tay_r p m c (1 + (atomsL ks).length : Nat) (highL ks : Nat)
  generalize ((1 + (atomsL ks).length : Nat) : Int) = z1 at *
  generalize ((highL ks : Nat) : Int) = z2 at *
  clear hdl hrow
  have HMM := hide hm
  have hmk : m ≤ 1000 := by omega
  clear hm
  go_enter Tryz.func76, Tryz.ntmps76
  go_wp2_with (show wpList _ _ _ ({ dst := _, op := Op.call { callee := Callee.invoke _ _, args := _, argTypes := _ }, type := _, pos := _, after := _, guard := _ } :: _) _ _; refine wpList_kind rfl (.tmp 15) rfl _ _ (by first | (simp [Act.eval]; done) | simp [Act.eval, Act.put]) HK.out ?_; intro w1 hb1)
  have hz1 := hb1.size
  have hW2 : Below w.heap.size w ((w1.alloc (.cells #[.int .i64 6, .int .i64 0, .string ⟨#[]⟩, .int .i64 (2 * (m : Int))] 44)).alloc (.cells #[.slice p m c, .int .i64 z1, .int .i64 z2] 100)) := (hb1.alloc hb1.size _).alloc (by simp; omega) _
  have HBX : Hid (BoxA ((w1.alloc (.cells #[.int .i64 6, .int .i64 0, .string ⟨#[]⟩, .int .i64 (2 * (m : Int))] 44)).alloc (.cells #[.slice p m c, .int .i64 z1, .int .i64 z2] 100)) w1.heap.size ⟨6, 0, ⟨#[]⟩, (2 * (m : Int))⟩) := hide (by
    have hb := box4 w1 (.int .i64 6) (.int .i64 0) (.string ⟨#[]⟩) (.int .i64 (2 * (m : Int)))
    have h0 : BoxA (w1.alloc (.cells #[.int .i64 6, .int .i64 0, .string ⟨#[]⟩, .int .i64 (2 * (m : Int))] 44)) w1.heap.size ⟨6, 0, ⟨#[]⟩, (2 * (m : Int))⟩ := ⟨by simp, hb.1, hb.2.1, hb.2.2.1, hb.2.2.2⟩
    exact h0.moves (x := w1.heap.size + 1) (x' := w1.heap.size + 1) (Moves.below ((Below.refl _ _).alloc (Nat.le_refl _) _)) (by omega))
  go_wp2
  go_loopw [1, 64] (fun av' q wr => ∃ (i gx : Nat) (pa : Option Addr) (ca : Nat), i ≤ m ∧ q = .int .i64 i ∧ av' = .slice pa (acc ++ atomsL (ks.take (2 * i))).length ca ∧ Acc wr base gx (.slice pa (acc ++ atomsL (ks.take (2 * i))).length ca) (acc ++ atomsL (ks.take (2 * i))) ∧ Moves w wr x gx ∧ Below base w wr ∧ BoxA wr w1.heap.size ⟨6, 0, ⟨#[]⟩, (2 * (m : Int))⟩ ∧ w1.heap.size ≠ gx) (fun _ q _ => m - (intOf q).toNat)
  case atStart => exact ⟨0, x, pv, cv, Nat.zero_le _, rfl, by simp [atomsL], by simpa [atomsL] using HA.out.below hW2, Moves.below hW2, hW2.mono HA.out.bs, HBX.out, by omega⟩
  case round =>
    obtain ⟨i, gx, pa, ca, hi, rfl, rfl, hac, hM, hB, hbx, hne⟩ := hrel
    have hm := HMM.out
    by_cases hlt : i < m
    · have h20 : 2 * i < ks.length := by omega
      have h21 : 2 * i + 1 < ks.length := by omega
      obtain ⟨vi, hv0, hvi, hdi⟩ := FldL.at (FldL.moves hM _ _ HDL.out) i h21
      have hrw := HRW.out.moves hM
      obtain ⟨y, u, rfl⟩ := hdi.isIface
      rcases hrw with h | ⟨gp, op, rfl, hg1, hg2, hcl⟩
      · rw [h] at hvi; simp at hvi
      have e0 := hcl (2 * i) _ hv0
      have e1 := hcl (2 * i + 1) _ hvi
      rw [show op + 2 * i = op + i * 2 by omega] at e0
      rw [show op + (2 * i + 1) = op + i * 2 + 1 by omega] at e1
      have hsx := atomsL_take_le ks (2 * i + 1 + 1)
      have hst := atomsL_stepE ks (2 * i) h20
      have hst2 := atomsL_stepE ks (2 * i + 1) h21
      have hsl := congrArg List.length hst
      have hsl2 := congrArg List.length hst2
      rw [List.length_append] at hsl hsl2
      have hkn := hnk i h20
      have hdn : ∀ w' x', DatAt w' x' (ks[2 * i]'h20) (.iface 89 (.string (ks[2 * i]'h20).text)) := fun w' x' => datText _ hkn
      have HC1 := hide (fun w' (hb : Below wr.heap.size wr w') => HIH.out (2 * i) h20 _ gx base _ (acc ++ atomsL (ks.take (2 * i))) w' (by rw [List.length_append]; unfold T.count; omega) (hdn w' gx) (hac.below hb))
      have HST : Hid (acc ++ atomsL (ks.take (2 * i)) ++ (ks[2 * i]'h20).atoms = acc ++ atomsL (ks.take (2 * i + 1))) := hide (by rw [hst, List.append_assoc])
      rw [HST.out] at HC1
      have HDI := hide hdi
      have HC2 := hide (fun w' g2 av2 (hb : Moves wr w' gx g2) (ha2 : Acc w' base g2 av2 (acc ++ atomsL (ks.take (2 * i + 1)))) => HIH.out (2 * i + 1) h21 _ g2 base av2 (acc ++ atomsL (ks.take (2 * i + 1))) w' (by rw [List.length_append]; unfold T.count; omega) (HDI.out.moves hb) ha2)
      have HST2 : Hid (acc ++ atomsL (ks.take (2 * i + 1)) ++ (ks[2 * i + 1]'h21).atoms = acc ++ atomsL (ks.take (2 * i + 1 + 1))) := hide (by rw [hst2, List.append_assoc])
      rw [HST2.out] at HC2
      have HM := hide hM
      have HX := hide hbx
      have HNE : Hid (w1.heap.size ≠ gx) := hide hne
      have HLX := hide hac.lt
      have HBS := hide hac.bs
      generalize (ks[2 * i]'h20).text = nm at *
      clear hdi hac hcl hsx hst hsl hst2 hsl2 hM hbx hdn hkn hvi hv0 HST HST2 hm
      have hq : Below wr.heap.size wr (wr.alloc (.cells #[.string nm, .iface y u] 131)) := (Below.refl _ _).alloc (Nat.le_refl _) _
      have f0 : (wr.alloc (.cells #[.string nm, .iface y u] 131)).cell? ⟨wr.heap.size, 0, none⟩ = some (.string nm) := by simp
      have f1 : (wr.alloc (.cells #[.string nm, .iface y u] 131)).cell? ⟨wr.heap.size, 1, none⟩ = some (.iface y u) := by simp
      have HF0 := hide f0
      have HF1 := hide f1
      have HQ := hide hq
      generalize (acc ++ atomsL (ks.take (2 * i))).length = la at *
      go_wp2_with fail
      go_region_held3 (fun w' => w'.cell? ⟨wr.heap.size, 0, none⟩ = some (.string nm) ∧ w'.cell? ⟨wr.heap.size, 1, none⟩ = some (.iface y u)) (go_keep) (first
        | (refine step_call2x rfl 76 (.tmp 72) (.tmp 73) 77 26 rfl (.iface 89 (.string nm)) (.slice pa la ca) (by simp [Act.eval]) (by simp [Act.eval]) Tryz.f76 Tryz.func76 (by kernel_rfl) (by kernel_rfl) _ ((HC1.out _ HQ.out.drew).mono apost_shape) ?_; rintro r1 w2 ⟨g2, c2, rfl, a2, m2, b2⟩; have M2 := (Moves.below (x := gx) HQ.out.drew).trans m2; have k0 := (m2.cell wr.heap.size 0 (by simp) (by have := HLX.out; omega)).trans HF0.out; have k1 := (m2.cell wr.heap.size 1 (by simp) (by have := HLX.out; omega)).trans HF1.out)
        | (refine step_call2x rfl 76 (.tmp 69) (.tmp 74) 77 26 rfl (.iface y u) (.slice (some ⟨g2, 0, none⟩) (acc ++ atomsL (ks.take (2 * i + 1))).length c2) (by simp [Act.eval]) (by simp [Act.eval]) Tryz.f76 Tryz.func76 (by kernel_rfl) (by kernel_rfl) _ ((HC2.out _ g2 _ M2 a2).mono apost_shape) ?_; rintro r2 w3 ⟨g3, c3, rfl, a3, m3, b3⟩; have l0 := (m3.cell wr.heap.size 0 (Nat.lt_of_lt_of_le (by simp) m2.size) (m2.other wr.heap.size (by simp) (by have := HLX.out; omega))).trans k0; have l1 := (m3.cell wr.heap.size 1 (Nat.lt_of_lt_of_le (by simp) m2.size) (m2.other wr.heap.size (by simp) (by have := HLX.out; omega))).trans k1))
      have HA3 := hide a3
      have HM3 := hide (M2.trans m3)
      have HB3 := hide (((HQ.out.drew.mono HBS.out).trans b2).trans b3)
      clear a2 a3 m2 m3 b2 b3 M2 k0 k1 l0 l1 HC1 HC2 HF0 HF1 f0 f1 hq HQ
      go_wp2
      go_roundw
      case rel => exact ⟨i + 1, g3, _, c3, by omega, by go_num, by simp [Nat.mul_add], HA3.out, HM.out.trans HM3.out, hB.trans HB3.out, HX.out.moves HM3.out HNE.out, HM3.out.other _ HX.out.1 HNE.out⟩
      case measure => simp [intOf]; omega
    · have him : m = i := by omega
      subst him
      rw [← hm, List.take_length] at hac
      rw [← hm, List.take_length]
      clear hm
      obtain ⟨-, x0, x1, x2, x3⟩ := hbx
      have HAC := hide hac
      have hbs := hac.bs
      have hle : (acc ++ atomsL ks).length + 1 ≤ 100000 := by rw [List.length_append]; omega
      generalize acc ++ atomsL ks = acc2 at *
      clear hac
      go_wp2_with (at_builtin; refine wpList_append_own_at _ rfl _ _ 26 rfl base 44 iN _ 4 40 Tryz.underlying26 hNi hNz hNs hNb rfl (by decide) (.slice pa acc2.length ca) acc2.length (cellsOf acc2) rfl (HAC.out.own.alloc _) ⟨wr.heap.size, 0, none⟩ 1 1 (cellsOf [⟨6, 0, ⟨#[]⟩, (2 * (m : Int))⟩]) rfl rfl (four_newE _ _ _ _ _ _) (cells_oneE _) (by unfold maxLen; omega) (by omega) (by simp; omega) ?_)
      intro v5 w5 h1 h2 h3 h4
      obtain ⟨g5, c5, rfl, r1, r2, r3⟩ := acc_next (HAC.out.below ((Below.refl _ _).alloc (Nat.le_refl _) _)) (x := gx) (w := wr) (Moves.below ((Below.refl _ _).alloc (Nat.le_refl _) _)) ((Below.refl base wr).alloc hbs _) h1 h2 (by simpa using h4)
      have HR1 := hide r1
      clear h1 h2 h3 h4 r1
      go_wp2
      go_ret
      exact ⟨g5, c5, by rw [HT5.out]; rfl, by rw [HT5.out]; exact HR1.out, hM.trans r2, hB.trans r3⟩

theorem atomsOf_any : ∀ (N : Nat) (t : T) (v : Value) (x base : Nat) (av : Value) (acc : List At) (w : World), t.count < N → t.good = true → t.count ≤ 1000 → acc.length + t.count ≤ 100000 → DatAt w x t v → Acc w base x av acc →
    Calls Tryz.prog 76 #[v, av] w (APost w base x (acc ++ t.atoms)) := by
  intro N
  induction N with
  | zero => intro t v x base av acc w h; omega
  | succ N ih =>
  intro t v x base av acc w hN hg hc1 hl hd ha
  by_cases hk : t.kind = 1 ∨ t.kind = 2 ∨ t.kind = 3 ∨ t.kind = 4
  · exact atomsOf_leaf t v x base av acc w hk hg (by omega) hd ha
  cases t with
  | mk k n s ks =>
  have hct := T.count_eq (.mk k n s ks)
  simp only [T.ks] at hct
  have hla := len_le_atomsL ks
  have HIH : Hid (∀ i (h1 : i < ks.length) v x base av acc w, acc.length + (ks[i]).count ≤ 100000 → DatAt w x ks[i] v → Acc w base x av acc → Calls Tryz.prog 76 #[v, av] w (APost w base x (acc ++ (ks[i]).atoms))) := hide (by
    intro i h1 v x base av acc w hl hd ha
    have a1 := count_mem ks i h1
    exact ih ks[i] v x base av acc w (by omega) (goodL_mem ks (good_kids hg) _ (List.getElem_mem h1)) (by omega) hl hd ha)
  have hk5 : k = 5 ∨ k = 6 := by
    unfold DatAt at hd
    rcases hd with ⟨rfl, _⟩ | ⟨rfl, _⟩ | ⟨rfl, _⟩ | ⟨rfl, _⟩ | ⟨rfl, _⟩ | ⟨rfl, _⟩
    · exact absurd (.inl rfl) hk
    · exact absurd (.inr (.inl rfl)) hk
    · exact absurd (.inr (.inr (.inl rfl))) hk
    · exact absurd (.inr (.inr (.inr rfl))) hk
    · exact .inl rfl
    · exact .inr rfl
  obtain ⟨rfl, rfl⟩ := good_listT hk5 hg
  rcases hk5 with rfl | rfl
  · exact atomsOf_list ks v x base av acc w (by omega) (by omega) hd ha HIH
  · exact atomsOf_rec ks v x base av acc w (by omega) (names_kind ks (good_names hg)) (by omega) hd ha HIH

theorem row_sameE {w w' : World} {base size : Nat} {e : TypeId} {g n cap : Nat} {xs : List Value} (h : w.ownsRow base e size (.slice (some ⟨g, 0, none⟩) n cap) n xs) (hb : w'.heap[g]? = w.heap[g]?) : w'.ownsRow base e size (.slice (some ⟨g, 0, none⟩) n cap) n xs := by
  refine ⟨h.1, ?_⟩
  rcases h.2 with ⟨h1, _⟩ | ⟨g', cap', cur, hv, h2, h3, h4⟩
  · cases h1
  · cases hv
    exact .inr ⟨g, cap, cur, rfl, h2, hb.trans h3, h4⟩
/-- A value of one's own. -/
def OwnV (w : World) (base : Nat) (v : Value) (l : List At) : Prop := ∃ g c, v = .slice (some ⟨g, 0, none⟩) l.length c ∧ w.ownsRow base 44 4 (.slice (some ⟨g, 0, none⟩) l.length c) l.length (cellsOf l)
set_option maxHeartbeats 400000 in
theorem valueOf_any (t : T) (dv : Value) (x : Nat) (w : World) (hg : t.good = true) (hc : t.count ≤ 1000) (hd : DatAt w x t dv) :
    Calls Tryz.prog 43 #[dv] w fun e w' => ∃ v, e = .returned (.agg #[v]) ∧ OwnV w' w.heap.size v t.atoms ∧ Below w.heap.size w w' := by
  have hq : Below w.heap.size w (w.alloc (.cells #[.slice none 0 0] 28)) := (Below.refl _ _).alloc (Nat.le_refl _) _
  have HA := hide (atomsOf_any (t.count + 1) t dv w.heap.size (w.heap.size + 1) (.slice none 0 0) [] (w.alloc (.cells #[.slice none 0 0] 28)) (Nat.lt_succ_self _) hg hc (by rw [List.length_nil]; omega) (hd.moves (Moves.fresh hq (Nat.le_refl _))) ⟨World.ownsRow_nil _ _ _ _, (fun q h => by cases h), by simp, by simp⟩)
  rw [List.nil_append] at HA
  have hn := cell_new w (.slice none 0 0) 28
  generalize t.atoms = l at *
  go_enter Tryz.func43, Tryz.ntmps43
  go_wp2_with fail
  refine HA.out.mono ?_
  rintro e w1 ⟨g, c, rfl, ho, hm, hb1⟩
  have hgl := (ho.own.lt g rfl).1
  have hx1 : w1.cell? ⟨w.heap.size, 0, none⟩ = some (.slice none 0 0) := (hb1.cell (p := ⟨w.heap.size, 0, none⟩) (Nat.lt_succ_self _)).trans hn.1
  have fx : w1.frozen? ⟨w.heap.size, 0, none⟩ = false := (hb1.frozen (p := ⟨w.heap.size, 0, none⟩) (Nat.lt_succ_self _)).trans hn.2
  have hB := hq.trans (hb1.mono (Nat.le_succ _))
  have HO := hide ho.own
  clear hb1 hq hn ho hm
  go_wp2
  refine bodyPost_ret (v := .agg #[.slice (some ⟨g, 0, none⟩) l.length c]) (by simp [results, Tryz.results43, go_sem, hx1]) rfl ⟨_, rfl, ⟨g, c, rfl, ?_⟩, hB.setCell (p := ⟨w.heap.size, 0, none⟩) (Nat.le_refl _) _⟩
  exact row_mono (row_sameE HO.out (Below.heap_setCell _ _ _ _ (show g ≠ w.heap.size by omega))) (by omega)
end Go.Proofs.YtnkfbjcgkdblgaaGreat.Vl
