/- Targets, the program's side: all values read. -/
import Derived.Test.YtmpjdooepdicoaaGreatDoorBi
import Derived.Test.YtmpjdooepdicoaaGreatDoorAg
import Derived.LaidEql
import Derived.Stop.Asserts
namespace Go.Proofs.YtmpjdooepdicoaaGreatDoor.Vl
open Go.RowKit T.atoms T.ok T.high T.good T.allPlain DatAt

theorem Mv.out {P : Nat → Prop} {a b : World} (h : Mv P a b) (B : Nat) (hP : ∀ q, P q → B ≤ q) (hB : B ≤ a.heap.size) : Below B a b :=
  ⟨h.os, h.tape, h.output, h.size, fun q hq => h.block q (by omega) (fun e => by have := hP q e; omega)⟩
theorem SR.join {B B' : Nat} {R R' : List (Value × List ByteArray)} {W : World} (h : SR B R W) (h' : SR B' R' W) (hB : B ≤ B') (hlt : ∀ r ∈ R, ∀ b, r.1.ownBlock = some b → b < B') : SR B (R ++ R') W := by
  refine ⟨fun r hr => ?_, List.pairwise_append.2 ⟨h.sep, h'.sep, fun a ha b hb q h1 h2 => ?_⟩⟩
  · rcases List.mem_append.1 hr with hr | hr
    · exact h.own r hr
    · exact row_mono (h'.own r hr) hB
  · have k1 := hlt a ha q h1
    have k2 := (own_lt (h'.own b hb) h2).1
    omega
theorem step_len {ns os : List ByteArray} {a : List At} {k : Int} {x : Tg} (h : step9 ns os a = (k, some x)) : k = 0 ∧ x.ins.length ≤ a.length ∧ x.outs.length ≤ a.length ∧ a.length ≤ 1000 ∧ memS x.name ns = false := by
  unfold step9 at h
  unfold readA at h
  by_cases hv : valid a = true
  · rw [if_pos hv] at h
    obtain ⟨t, ht, e, hl, m, hm⟩ := valid_tree hv
    rw [ht] at h
    simp only at h
    cases htg : target9 t with
    | none => rw [htg] at h; cases h
    | some y =>
      rw [htg] at h
      simp only at h
      have hln := target9_len htg
      have hc : t.count = a.length := by rw [e]; rfl
      cases hm1 : memS y.name ns with
      | true => rw [hm1, if_pos rfl] at h; cases h
      | false =>
        rw [hm1, if_neg (by decide)] at h
        split at h
        · cases h
        · split at h
          · cases h
          · cases h
            exact ⟨rfl, by omega, by omega, hl, hm1⟩
  · rw [if_neg hv] at h; cases h
theorem step_zero {ns os : List ByteArray} {a : List At} {k : Int} (h : step9 ns os a = (k, none)) : k ≠ 0 := by
  unfold step9 at h
  split at h
  · cases h; decide
  · cases h; decide
  · split at h
    · cases h; decide
    · split at h
      · cases h; decide
      · split at h
        · cases h; decide
        · cases h
/-- What readTargets keeps. -/
structure RT (w : World) (ns os : List ByteArray) (nn no : Nat) (v5 : Value) (lc : List Lc) (W : World) : Prop where
  B : Below w.heap.size w W
  N : SetAt W w.heap.size nn ns
  O : SetAt W (w.heap.size + 1) no os
  p0 : W.cell? ⟨w.heap.size + 1 + 1, 0, none⟩ = some (.map (some w.heap.size))
  p1 : W.cell? ⟨w.heap.size + 1 + 1, 1, none⟩ = some (.map (some (w.heap.size + 1)))
  G : GI (w.heap.size + 1 + 1 + 1) v5 lc W
  z : w.heap.size + 1 + 1 < W.heap.size
theorem RT.below {w W W' : World} {ns os : List ByteArray} {nn no : Nat} {v5 : Value} {lc : List Lc} (h : RT w ns os nn no v5 lc W) (hb : Below W.heap.size W W') : RT w ns os nn no v5 lc W' :=
  ⟨h.B.trans (hb.mono h.B.size), h.N.below hb, h.O.below hb, (hb.cell (p := ⟨w.heap.size + 1 + 1, 0, none⟩) h.z).trans h.p0, (hb.cell (p := ⟨w.heap.size + 1 + 1, 1, none⟩) h.z).trans h.p1, h.G.below hb, Nat.lt_of_lt_of_le h.z hb.size⟩
theorem RT.start (w : World) : RT w [] [] 0 0 (.slice none 0 0) [] (((w.alloc (.map #[] 0)).alloc (.map #[] 0)).alloc (.cells #[.map (some w.heap.size), .map (some (w.heap.size + 1))] 92)) := by
  have m1 : SetAt (w.alloc (.map #[] 0)) w.heap.size 0 [] := World.ownsMap_made _ _ _ _
  have s1 : (w.alloc (.map #[] 0)).heap.size = w.heap.size + 1 := World.size_alloc _ _
  have m2 : SetAt ((w.alloc (.map #[] 0)).alloc (.map #[] 0)) (w.heap.size + 1) 0 [] := by
    have h : SetAt ((w.alloc (.map #[] 0)).alloc (.map #[] 0)) (w.alloc (.map #[] 0)).heap.size 0 [] := World.ownsMap_made _ _ _ _
    rw [s1] at h
    exact h
  have b2 : Below (w.alloc (.map #[] 0)).heap.size (w.alloc (.map #[] 0)) ((w.alloc (.map #[] 0)).alloc (.map #[] 0)) := (Below.refl _ _).alloc (Nat.le_refl _) _
  have s2 : ((w.alloc (.map #[] 0)).alloc (.map #[] 0)).heap.size = w.heap.size + 1 + 1 := by rw [World.size_alloc, s1]
  generalize hX : (w.alloc (.map #[] 0)).alloc (.map #[] 0) = X at *
  have b3 : Below X.heap.size X (X.alloc (.cells #[.map (some w.heap.size), .map (some (w.heap.size + 1))] 92)) := (Below.refl _ _).alloc (Nat.le_refl _) _
  refine ⟨?_, (m1.below b2).below b3, m2.below b3, new_cellI _ _ _ _ _ s2, new_cellI _ _ _ _ _ s2, ⟨SR.nil _ _, World.ownsRow_nil _ _ _ _⟩, by rw [World.size_alloc]; omega⟩
  have b1 : Below w.heap.size w (w.alloc (.map #[] 0)) := (Below.refl _ _).alloc (Nat.le_refl _) _
  exact (b1.trans (b2.mono (by omega))).trans (b3.mono (by omega))
/-- What readTargets hands back. -/
def RdPost (w : World) (l : List Td) (e : Ending) (w' : World) : Prop := Below w.heap.size w w' ∧ ((∃ k i : Int, k ≠ 0 ∧ go9 l 0 [] [] [] = (k, i, [], []) ∧ e = .returned (.tuple #[.slice none 0 0, .iface 61 (.agg #[.int .i64 i, .iface 63 (.agg #[.int .i64 k])])])) ∨ ∃ (lc : List Lc) (p : Option Addr) (c : Nat), go9 l 0 [] [] [] = (0, 0, lc.map (fun q => q.t.name), lc.map Lc.t) ∧ (lc.map (fun q => q.t.name)).Nodup ∧ lc.length = l.length ∧ kP lc ≤ 3 * l.length + 2 * (l.map fun d => d.at_.length).sum ∧ (∀ q ∈ lc, q.t.ins.length ≤ 1000 ∧ q.t.outs.length ≤ 1000) ∧ e = .returned (.tuple #[.slice p lc.length c, .nilIface]) ∧ GI w.heap.size (.slice p lc.length c) lc w')
theorem kP_snoc (l : List Lc) (p : Lc) : kP (l ++ [p]) = kP l + kT p := by unfold kP; rw [List.map_append, List.sum_append]; simp
theorem rowsG_lt {B : Nat} {v : Value} {lc : List Lc} {W : World} (h : GI B v lc W) : ∀ r ∈ rowsG lc, ∀ b, r.1.ownBlock = some b → b < W.heap.size := fun r hr _ hb => (own_lt (h.S.own r hr) hb).2
theorem GI.mono {B B' : Nat} {v : Value} {lc : List Lc} {W : World} (h : GI B v lc W) (hB : B' ≤ B) : GI B' v lc W := ⟨h.S.mono hB, row_mono h.L hB⟩
set_option maxRecDepth 100000 in
set_option maxHeartbeats 4000000 in
theorem readAll_any (l : List Td) (g c : Nat) (w : World) (hl : l.length ≤ 1048576) (hla : ∀ d ∈ l, d.at_.length ≤ 1048576) (ht : TdsO w g l) :
    Calls Tryz.prog 20 #[.slice (some ⟨g, 0, none⟩) l.length c] w (RdPost w l) := by
  obtain ⟨iT, hT, hTz, hTs, hTb⟩ := info_parts Tryz.infoTg
  have HT := hide ht
  have HLA := hide hla
  clear ht hla
  have T0 := hide (RT.start w)
  have hmm := @run_makeMap Tryz.prog
  go_enter Tryz.func20, Tryz.ntmps20
  go_wp2
  go_loopw [5, 15] (fun u q wr => ∃ (i nn no : Nat) (ns os : List ByteArray) (p : Option Addr) (cc : Nat) (lc : List Lc), i ≤ l.length ∧ q = .int .i64 i ∧ u = .slice p lc.length cc ∧ RT w ns os nn no (.slice p lc.length cc) lc wr ∧ nn ≤ i ∧ no ≤ 1000 * i ∧ go9 l 0 [] [] [] = go9 (l.drop i) i ns os (lc.map Lc.t) ∧ ns = lc.map (fun q => q.t.name) ∧ ns.Nodup ∧ lc.length = i ∧ kP lc ≤ 3 * i + 2 * ((l.take i).map fun d => d.at_.length).sum ∧ (∀ q ∈ lc, q.t.ins.length ≤ 1000 ∧ q.t.outs.length ≤ 1000)) (fun _ q _ => l.length - (intOf q).toNat)
  case atStart => exact ⟨0, 0, 0, [], [], none, 0, [], Nat.zero_le _, rfl, rfl, T0.out, Nat.le_refl _, Nat.zero_le _, rfl, rfl, List.nodup_nil, rfl, Nat.zero_le _, fun q hq => by cases hq⟩
  case round =>
    obtain ⟨i, nn, no, ns, os, p, cc, lc, hi, rfl, rfl, hRT, hnn, hno, hgo, hns, hnd, hlc, hkP, hbd⟩ := hrel
    have HRT := hide hRT
    have HGO := hide hgo
    have HNS := hide hns
    have HND := hide hnd
    have HLC := hide hlc
    have HKP := hide hkP
    have HBD := hide hbd
    have hlcl : lc.length ≤ 1048576 := by omega
    clear hRT hgo hns hnd hlc hkP hbd
    by_cases hlt : i < l.length
    · obtain ⟨c0, gi, c1, hat⟩ := (HT.out.below HRT.out.B).2 i hlt
      have hdl := HLA.out _ (List.getElem_mem hlt)
      have HGA := hide (go9_at l i hlt ns os (lc.map Lc.t))
      have HTK : Hid (((l.take (i + 1)).map fun d => d.at_.length).sum = ((l.take i).map fun d => d.at_.length).sum + (l[i]).at_.length) := hide (by rw [List.take_succ_eq_append_getElem hlt, List.map_append, List.sum_append]; simp)
      generalize l[i] = d at *
      have b1 : Below wr.heap.size wr (wr.alloc (.cells #[.string d.fr, .slice (some ⟨gi, 0, none⟩) d.at_.length d.at_.length] 47)) := (Below.refl _ _).alloc (Nat.le_refl _) _
      have T1 := hide (HRT.out.below b1)
      have hz := HRT.out.z
      have q0 := T1.out.p0
      have q1 := T1.out.p1
      have HRD := hide (fun st h => read_any d.at_ gi d.at_.length w.heap.size (w.heap.size + 1) nn no ns os _ hdl (hat.below b1) (by rw [World.size_alloc]; omega) (by rw [World.size_alloc]; omega) (by omega) (by omega) (by omega) T1.out.N T1.out.O st h)
      have hrl := rowsG_lt HRT.out.G
      have HRL : Hid (∀ r ∈ rowsG lc, ∀ b, r.1.ownBlock = some b → b < (wr.alloc (.cells #[.string d.fr, .slice (some ⟨gi, 0, none⟩) d.at_.length d.at_.length] 47)).heap.size) := hide (fun r hr b hb => by rw [World.size_alloc]; have := hrl r hr b hb; omega)
      clear hat b1 hrl
      have hsz1 : (wr.alloc (.cells #[.string d.fr, .slice (some ⟨gi, 0, none⟩) d.at_.length d.at_.length] 47)).heap.size = wr.heap.size + 1 := World.size_alloc _ _
      obtain ⟨k, o⟩ : ∃ k o, step9 ns os d.at_ = (k, o) := ⟨_, _, rfl⟩
      obtain ⟨o, hst⟩ := o
      have HRD2 := hide (HRD.out (k, o) hst.symm)
      clear HRD
      have HST := hide hst
      clear hst
      cases o with
      | none =>
        have hk0 := step_zero HST.out
        have HGE : Hid (go9 l 0 [] [] [] = (k, (i : Int), [], [])) := hide (by rw [HGO.out, HGA.out, HST.out])
        go_wp2_with fail
        refine HRD2.out.mono ?_
        rintro e w2 ⟨hM, rfl⟩
        have HB2 := hide (T1.out.B.trans (hM.out w.heap.size (fun q e => by rcases e with e | e <;> omega) (by rw [hsz1]; omega)))
        have hw2 := hM.size
        clear hM
        go_wp2
        go_ret2
        refine ⟨?_, .inl ⟨k, i, hk0, HGE.out, rfl⟩⟩
        exact HB2.out.alloc HB2.out.size _
      | some x =>
        obtain ⟨rfl, hxi, hxo, ha1, hmem⟩ := step_len HST.out
        have HGE : Hid (go9 l 0 [] [] [] = go9 (l.drop (i + 1)) ((i + 1 : Nat) : Int) (ns ++ [x.name]) (os ++ x.outs) (lc.map Lc.t ++ [x.srt])) := hide (by rw [HGO.out, HGA.out, HST.out])
        have HMM := hide hmem
        clear hmem
        go_wp2_with fail
        refine HRD2.out.mono ?_
        rintro e w2 ⟨hM, vi, vo, rfl, hS2, hN2, hO2⟩
        have hB2 := T1.out.B.trans (hM.out w.heap.size (fun q e => by rcases e with e | e <;> omega) (by rw [hsz1]; omega))
        have hw2 := hM.size
        have p20 := (hM.cell 0 T1.out.z (by rintro (e | e) <;> omega)).trans T1.out.p0
        have p21 := (hM.cell 1 T1.out.z (by rintro (e | e) <;> omega)).trans T1.out.p1
        have G2 := T1.out.G.same (fun b hb1 hb2 => hM.block b hb2 (by rintro (e | e) <;> omega))
        have hz2 : w.heap.size + 1 + 1 < w2.heap.size := Nat.lt_of_lt_of_le T1.out.z hw2
        have SJ := hide (SR.join G2.S hS2 (by rw [hsz1]; omega) HRL.out)
        obtain ⟨⟨p8, c8, e8⟩, ⟨p9, c9, e9⟩⟩ := sr_form hS2
        simp only at e8 e9
        subst e8 e9
        have HB2 := hide hB2
        have HN2 := hide hN2
        have HO2 := hide hO2
        have P20 := hide p20
        have P21 := hide p21
        have L2 := hide G2.L
        rw [hsz1] at hw2
        clear hM hS2 hN2 hO2 hB2 p20 p21 G2 HRD2 HRL c0 c1 q0 q1
        have b3 : Below w2.heap.size w2 (w2.alloc (.cells #[.string x.name, .string x.tool, .string x.arg, .slice p8 (sortS x.ins).length c8, .slice p9 (sortS x.outs).length c9] 49)) := (Below.refl _ _).alloc (Nat.le_refl _) _
        have s3 : (w2.alloc (.cells #[.string x.name, .string x.tool, .string x.arg, .slice p8 (sortS x.ins).length c8, .slice p9 (sortS x.outs).length c9] 49)).heap.size = w2.heap.size + 1 := World.size_alloc _ _
        have L3 := hide (row_belowY L2.out b3)
        go_wp2_with (at_builtin; refine wpList_append_own_at _ rfl _ _ 24 rfl (w.heap.size + 1 + 1 + 1) 49 iT _ 5 96 Tryz.underlying24 hT hTz hTs hTb rfl (by decide) (.slice p lc.length cc) lc.length (cellsG lc) rfl (L3.out.alloc _) ⟨w2.heap.size + 1, 0, none⟩ 1 1 [.string x.name, .string x.tool, .string x.arg, .slice p8 (sortS x.ins).length c8, .slice p9 (sortS x.outs).length c9] rfl rfl (cells_five _ _ s3 _ _ _ _ _ _) (by simp [Value.oneCell']) (by unfold maxLen; omega) (by omega) (by simp; omega) ?_)
        intro v10 w10 ho10 hg10 _ hw10
        obtain ⟨p10, c10, rfl⟩ := row_form ho10
        have r4 : Below w2.heap.size w2 ((w2.alloc (.cells #[.string x.name, .string x.tool, .string x.arg, .slice p8 (sortS x.ins).length c8, .slice p9 (sortS x.outs).length c9] 49)).alloc (.cells #[.string x.name, .string x.tool, .string x.arg, .slice p8 (sortS x.ins).length c8, .slice p9 (sortS x.outs).length c9] 49)) := b3.alloc (by rw [s3]; omega) _
        have L4 := row_belowY L2.out r4
        have hrow : ∀ b, (Value.slice p lc.length cc).ownBlock = some b → w.heap.size + 1 + 1 + 1 ≤ b := fun b hb => (own_lt L4 hb).1
        have T10 : Hid (RT w (ns ++ [x.name]) (os ++ x.outs) (nn + 1) (no + x.outs.length) (.slice p10 (lc.length + 1) c10) (lc ++ [⟨x.srt, .slice p8 (sortS x.ins).length c8, .slice p9 (sortS x.outs).length c9⟩]) w10) := hide (by
          have M4 : Mv (fun q => (Value.slice p lc.length cc).ownBlock = some q) _ w10 := Mv.grown hg10 (fun q e => e)
          have hz4 : w.heap.size + 1 + 1 < ((w2.alloc (.cells #[.string x.name, .string x.tool, .string x.arg, .slice p8 (sortS x.ins).length c8, .slice p9 (sortS x.outs).length c9] 49)).alloc (.cells #[.string x.name, .string x.tool, .string x.arg, .slice p8 (sortS x.ins).length c8, .slice p9 (sortS x.outs).length c9] 49)).heap.size := Nat.lt_of_lt_of_le hz2 r4.size
          refine ⟨?_, ?_, ?_, ?_, ?_, ⟨?_, ?_⟩, Nat.lt_of_lt_of_le hz4 M4.size⟩
          · exact (HB2.out.trans (r4.mono HB2.out.size)).trans (M4.out _ (fun q e => by have := hrow q e; omega) (by omega))
          · exact (HN2.out.below r4).kept hg10 (fun e => by have := hrow _ e; omega)
          · exact (HO2.out.below r4).kept hg10 (fun e => by have := hrow _ e; omega)
          · exact (M4.cell 0 hz4 (fun e => by have := hrow _ e; omega)).trans ((r4.cell (p := ⟨w.heap.size + 1 + 1, 0, none⟩) hz2).trans P20.out)
          · exact (M4.cell 1 hz4 (fun e => by have := hrow _ e; omega)).trans ((r4.cell (p := ⟨w.heap.size + 1 + 1, 1, none⟩) hz2).trans P21.out)
          · have h := (SJ.out.below r4).other hg10 (fun b hb => own_cells L4 hb) (by decide)
            rw [show rowsG (lc ++ [⟨x.srt, .slice p8 (sortS x.ins).length c8, .slice p9 (sortS x.outs).length c9⟩]) = rowsG lc ++ [(.slice p8 (sortS x.ins).length c8, sortS x.ins), (.slice p9 (sortS x.outs).length c9, sortS x.outs)] from by simp [rowsG, Tg.srt]]
            exact h
          · rw [show cellsG (lc ++ [⟨x.srt, .slice p8 (sortS x.ins).length c8, .slice p9 (sortS x.outs).length c9⟩]) = cellsG lc ++ [.string x.name, .string x.tool, .string x.arg, .slice p8 (sortS x.ins).length c8, .slice p9 (sortS x.outs).length c9] from by simp [cellsG, Lc.cells, Tg.srt], List.length_append]
            exact ho10)
        have HLL : Hid ((lc ++ ([⟨x.srt, .slice p8 (sortS x.ins).length c8, .slice p9 (sortS x.outs).length c9⟩] : List Lc)).length = lc.length + 1) := hide (by simp)
        have hs1 := sortS_len x.ins
        have hs2 := sortS_len x.outs
        clear ho10 hg10 hw10 r4 L4 hrow b3 s3
        go_wp2
        go_roundw
        case rel =>
          refine ⟨i + 1, nn + 1, no + x.outs.length, ns ++ [x.name], os ++ x.outs, p10, c10, lc ++ [⟨x.srt, .slice p8 (sortS x.ins).length c8, .slice p9 (sortS x.outs).length c9⟩], by omega, by go_num, by rw [HLL.out], by rw [HLL.out]; exact T10.out, by omega, by omega, ?_, ?_, ?_, by rw [HLL.out, HLC.out], ?_, ?_⟩
          · rw [HGE.out, List.map_append]; rfl
          · rw [HNS.out, List.map_append]; rfl
          · rw [List.nodup_append]
            refine ⟨HND.out, by simp, fun a ha b hb e => ?_⟩
            rw [List.mem_singleton] at hb
            subst hb
            subst e
            exact memS_not.1 HMM.out ha
          · rw [kP_snoc, HTK.out]
            have := HKP.out
            have hk2 : kT ⟨x.srt, .slice p8 (sortS x.ins).length c8, .slice p9 (sortS x.outs).length c9⟩ = 3 + (sortS x.ins).length + (sortS x.outs).length := rfl
            omega
          · intro q hq
            rcases List.mem_append.1 hq with hq | hq
            · exact HBD.out q hq
            · rw [List.mem_singleton] at hq
              subst hq
              exact ⟨by show (sortS x.ins).length ≤ 1000; omega, by show (sortS x.outs).length ≤ 1000; omega⟩
        case measure => simp [intOf]; omega
    · have HGE : Hid (go9 l 0 [] [] [] = (0, 0, lc.map (fun q => q.t.name), lc.map Lc.t)) := hide (by rw [HGO.out, List.drop_of_length_le (by omega), HNS.out]; rfl)
      go_wp2
      go_ret2
      refine ⟨HRT.out.B, .inr ⟨lc, p, cc, HGE.out, by rw [← HNS.out]; exact HND.out, by rw [HLC.out]; omega, ?_, HBD.out, rfl, HRT.out.G.mono (by omega)⟩⟩
      have h := HKP.out
      rw [List.take_of_length_le (by omega)] at h
      omega
end Go.Proofs.YtmpjdooepdicoaaGreatDoor.Vl
