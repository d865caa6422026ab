/- Walks: ValidTree, on the program's side. -/
import Derived.Test.YtmklgiononbmmaaDoorJi
namespace Go.Proofs.YtmklgiononbmmaaDoor
open Go.RowKit

theorem Tr.irun_bad (ns : List Tr.Nd) (i : Nat) (h : i < ns.length) (op : List Tr.Gr) (hk : ns[i].kids < 0 ∨ (op.length : Int) < ns[i].kids) : Tr.irun (ns.drop i) op = none := by
  rw [List.drop_eq_getElem_cons h, Tr.irun, if_pos hk]
theorem Tr.irun_step (ns : List Tr.Nd) (i : Nat) (h : i < ns.length) (op : List Tr.Gr) (k m : Nat) (hk : ns[i].kids = k) (hm : op.length = m + k) :
    Tr.irun (ns.drop i) op = if Tr.nodeOk ns[i] (op.drop m) = true then Tr.irun (ns.drop (i + 1)) (op.take m ++ [⟨ns[i], Tr.over (op.drop m) 0⟩]) else none := by
  rw [List.drop_eq_getElem_cons h, Tr.irun, if_neg (by omega), show op.length - ns[i].kids.toNat = m from by omega]
theorem row_view {w : World} {B n size : Nat} {e : TypeId} {v : Value} {xs : List Value} (h : w.ownsRow B e size v n xs) : (v = .slice none 0 0 ∧ n = 0) ∨ ∃ g cap, v = .slice (some ⟨g, 0, none⟩) n cap := by
  rcases h.2 with h | ⟨g, cap, _, hv, _⟩
  · exact .inl h
  · exact .inr ⟨g, cap, hv⟩
theorem Tr.over_le (l : List Tr.Gr) (h b : Nat) (hh : ∀ x ∈ l, x.high + 1 ≤ b) (hb : h ≤ b) : Tr.over l h ≤ b := by
  induction l generalizing h with
  | nil => exact hb
  | cons x r ih =>
    rw [Tr.over]
    exact ih _ (fun y hy => hh y (by simp [hy])) (by have := hh x (by simp); split <;> omega)

theorem Tr.count_one {k n : Int} (h : Tr.count k n = true) (hk : k = 12 ∨ k = 15 ∨ k = 20) : 1 ≤ n := by
  rcases hk with rfl | rfl | rfl <;> (simp [Tr.count] at h; omega)
theorem cell_six (w : World) (x : Tr.Gr) (t : TypeId) : ∀ (j : Nat) (u : Value), x.cells[j]? = some u → (w.alloc (.cells #[.int .i64 x.nd.kind, .int .i64 x.nd.op, .int .i64 x.nd.n, .string x.nd.text, .int .i64 x.nd.kids, .int .i64 x.high] t)).cell? ((⟨w.heap.size, 0, none⟩ : Addr).add j) = some u := by
  intro j u h
  rw [add_plain, Nat.zero_add, World.cell?, heap_alloc_new']
  simpa [Tr.Gr.cells] using h
theorem one_six (x : Tr.Gr) : ∀ u ∈ x.cells, u.oneCell' = true := by
  intro u hu
  simp only [Tr.Gr.cells, List.mem_cons, List.not_mem_nil, or_false] at hu
  rcases hu with rfl | rfl | rfl | rfl | rfl | rfl <;> rfl
theorem drew_of {w w1 : World} (h : Below w.drew.heap.size w.drew w1) : Below w.heap.size w w1 := (Below.refl _ _).drew.trans h

theorem Tryd.infoGr : (Tryd.prog.info? 97).map (fun i => (i.zero, i.size, i.bytes)) = some (some (.agg #[.int .i64 0, .int .i64 0, .int .i64 0, .string ⟨#[]⟩, .int .i64 0, .int .i64 0]), 6, 56) := by kernel_rfl

set_option maxRecDepth 100000 in
set_option maxHeartbeats 4000000 in
theorem ivalid_any (ns : List Tr.Nd) (tg tc : Nat) (w : World) (hn : ns.length ≤ 1048576) (htx : ∀ x ∈ ns, x.text.size ≤ 1048576) (ht : NodesAt w tg ns) :
    Calls Tryd.prog 28 #[.agg #[.slice (some ⟨tg, 0, none⟩) ns.length tc]] w fun e w' => e = .returned (.bool (Tr.ivalid ns)) ∧ Below w.heap.size w w' := by
  obtain ⟨iG, hG, hGz, hGs, hGb⟩ := info_parts Tryd.infoGr
  have r1 : Below w.heap.size w (w.alloc (.cells #[.slice (some ⟨tg, 0, none⟩) ns.length tc] 31)) := (Below.refl _ _).alloc (Nat.le_refl _) _
  have HT := hide ht
  have HX := hide htx
  clear ht htx
  by_cases hbig : 5000 < ns.length
  · have HD : Hid (Tr.ivalid ns = false) := hide (by unfold Tr.ivalid; rw [decide_eq_false (by omega)]; rfl)
    go_enter Tryd.func28, Tryd.ntmps28
    go_wp2
    go_ret
    exact ⟨ret_bool HD.out.symm, r1⟩
  · have HD : Hid (Tr.ivalid ns = Tr.iend (Tr.irun ns [])) := hide (by unfold Tr.ivalid; rw [decide_eq_true (by omega)]; rfl)
    go_enter Tryd.func28, Tryd.ntmps28
    go_wp2_with fail
    refine (wordSet_any _).mono ?_
    rintro e w1 ⟨rfl, hmap, hb1⟩
    have HB1 : Hid (Below w.heap.size w w1) := hide (r1.trans (hb1.mono (by simp)))
    have hbox : w1.cell? ⟨w.heap.size, 0, none⟩ = some (.slice (some ⟨tg, 0, none⟩) ns.length tc) := (hb1.cell (p := ⟨w.heap.size, 0, none⟩) (by simp)).trans (by simp)
    have HMP := hide hmap
    clear hmap hb1
    rw [World.size_alloc] at *
    go_wp2
    go_loopw [4, 17] (fun v4 t wr => ∃ (i : Nat) (op : List Tr.Gr), i ≤ ns.length ∧ t = .int .i64 i ∧ op.length ≤ i ∧ (∀ x ∈ op, x.high ≤ i ∧ x.nd.text.size ≤ 1048576) ∧ wr.ownsRow w1.heap.size 97 6 v4 op.length (Tr.grCells op) ∧ Below w1.heap.size w1 wr ∧
        Tr.irun ns [] = Tr.irun (ns.drop i) op) (fun _ t _ => ns.length - (intOf t).toNat)
    case atStart => exact ⟨0, [], Nat.zero_le _, rfl, Nat.le_refl _, (fun x h => by cases h), World.ownsRow_nil _ _ _ _, Below.refl _ _, rfl⟩
    case round =>
      obtain ⟨i, op, hin, rfl, hoi, hop, ho, hB, he⟩ := hrel
      have HE := hide he
      have HOP := hide hop
      clear he hop
      by_cases hlt : i < ns.length
      · have hN := (HT.out.below (HB1.out.trans (hB.mono HB1.out.size))).2 i hlt
        obtain ⟨n0, n1, n2, n3, n4⟩ := hN
        have HSB := hide (Tr.irun_bad ns i hlt op)
        have HSS := hide (Tr.irun_step ns i hlt op)
        have htxt := HX.out ns[i] (List.getElem_mem hlt)
        generalize hdd : ns[i] = d at *
        clear hdd
        obtain ⟨dk, dop, dn, dt, dkids⟩ := d
        simp only at n0 n1 n2 n3 n4 HSB HSS htxt
        by_cases hneg : dkids < 0
        · have HF : Hid (Tr.ivalid ns = false) := hide (by rw [HD.out, HE.out, HSB.out (.inl hneg)]; rfl)
          go_wp2
          go_ret
          exact ⟨ret_bool HF.out.symm, HB1.out.trans ((hB.alloc hB.size _).mono HB1.out.size)⟩
        · by_cases hbig2 : (op.length : Int) < dkids
          · have HF : Hid (Tr.ivalid ns = false) := hide (by rw [HD.out, HE.out, HSB.out (.inr hbig2)]; rfl)
            rcases row_view ho with ⟨rfl, hz⟩ | ⟨g, cap, rfl⟩
            · rw [hz] at hbig2
              have hbig3 : 0 < dkids := by omega
              go_wp2
              go_ret
              exact ⟨ret_bool HF.out.symm, HB1.out.trans ((hB.alloc hB.size _).mono HB1.out.size)⟩
            · go_wp2
              go_ret
              exact ⟨ret_bool HF.out.symm, HB1.out.trans ((hB.alloc hB.size _).mono HB1.out.size)⟩
          obtain ⟨k, rfl⟩ : ∃ k : Nat, dkids = k := ⟨dkids.toNat, by omega⟩
          obtain ⟨m, hm⟩ : ∃ m, op.length = m + k := ⟨op.length - k, by omega⟩
          have hq : ¬ ((m : Int) + (k : Int) < (k : Int)) := by omega
          have hq2 : decide ((m : Int) + (k : Int) < (k : Int)) = false := by simp; omega
          clear hneg hbig2
          rcases row_view ho with ⟨rfl, hz⟩ | ⟨g, cap, rfl⟩
          · obtain rfl : k = 0 := by omega
            obtain rfl : m = 0 := by omega
            obtain rfl : op = [] := List.eq_nil_of_length_eq_zero hz
            have HGV : Hid (GrV (wr.alloc (.cells #[.int .i64 dk, .int .i64 dop, .int .i64 dn, .string dt, .int .i64 0] 61)) (.slice none 0 0) []) := hide (.inl ⟨_, _, rfl, rfl⟩)
            have HRW : Hid (wr.ownsRow w1.heap.size 97 6 (.slice none 0 0) 0 (Tr.grCells [])) := hide (World.ownsRow_nil _ _ _ _)
            replace HSS := hide (HSS.out 0 0 rfl rfl)
            rw [show List.drop 0 ([] : List Tr.Gr) = [] from rfl, show List.take 0 ([] : List Tr.Gr) = [] from rfl, show ((0 : Nat) : Int) = 0 from rfl] at HSS
            clear ho hq hq2 hm hz
            have HW := hide (hB.alloc hB.size (.cells #[.int .i64 dk, .int .i64 dop, .int .i64 dn, .string dt, .int .i64 0] 61))
            have HU := hide (uses_any dk dop dn 0 dt (w.heap.size + 1) (wr.alloc (.cells #[.int .i64 dk, .int .i64 dop, .int .i64 dn, .string dt, .int .i64 0] 61)) htxt (map_below HMP.out HW.out))
            have HC := hide (count_any dk dop dn 0 dt)
            cases hp : Tr.plain ⟨dk, dop, dn, dt, 0⟩
            · have HF : Hid (Tr.ivalid ns = false) := hide (by rw [HD.out, HE.out, HSS.out, if_neg (by unfold Tr.nodeOk; rw [hp]; simp)]; rfl)
              have HU2 := HU.out
              rw [hp] at HU2
              replace HU2 := hide HU2
              go_wp2_with fail
              refine HU2.out.mono ?_
              rintro e w2 ⟨rfl, hb2⟩
              obtain ⟨x0, x1, x2, x3, x4, x5⟩ := box5 hb2
              go_wp2
              go_ret
              exact ⟨ret_bool HF.out.symm, HB1.out.trans ((HW.out.trans (hb2.mono (HW.out.size))).mono HB1.out.size)⟩
            · have HU2 := HU.out
              rw [hp] at HU2
              replace HU2 := hide HU2
              cases hc : Tr.count dk 0
              · have HF : Hid (Tr.ivalid ns = false) := hide (by rw [HD.out, HE.out, HSS.out, if_neg (by unfold Tr.nodeOk; rw [hp, hc]; simp)]; rfl)
                have HC2 := HC.out
                rw [hc] at HC2
                replace HC2 := hide HC2
                go_wp2_with fail
                refine HU2.out.mono ?_
                rintro e w2 ⟨rfl, hb2⟩
                obtain ⟨x0, x1, x2, x3, x4, x5⟩ := box5 hb2
                go_wp2_with fail
                refine (HC2.out _).mono ?_
                rintro e w3 ⟨rfl, hb3⟩
                have hq3 := hb2.trans (hb3.mono hb2.size)
                obtain ⟨y0, y1, y2, y3, y4, y5⟩ := box5 hq3
                go_wp2
                go_ret
                exact ⟨ret_bool HF.out.symm, HB1.out.trans ((HW.out.trans (hq3.mono (HW.out.size))).mono HB1.out.size)⟩
              · have HC2 := HC.out
                rw [hc] at HC2
                replace HC2 := hide HC2
                have HFT : Hid (∀ w', GrV w' (.slice none 0 0) ([]) → Calls Tryd.prog 56 #[.agg #[.int .i64 dk, .int .i64 dop, .int .i64 dn, .string dt, .int .i64 0], (.slice none 0 0)] w' fun e w'' => e = .returned (.bool (Tr.fits dk ([]))) ∧ Below w'.heap.size w' w'') := hide fun w' hg => kidsFit_any dk dop dn 0 dt ([]) _ w' (Nat.zero_le _) (fun h => by have := Tr.count_one hc h; omega) (fun x hx => by cases hx) hg
                cases hf : Tr.fits dk ([])
                · have HF : Hid (Tr.ivalid ns = false) := hide (by rw [HD.out, HE.out, HSS.out, if_neg (by unfold Tr.nodeOk; rw [hp, hc, hf]; simp)]; rfl)
                  have HF2 := HFT.out
                  rw [hf] at HF2
                  replace HF2 := hide HF2
                  go_wp2_with fail
                  refine HU2.out.mono ?_
                  rintro e w2 ⟨rfl, hb2⟩
                  obtain ⟨x0, x1, x2, x3, x4, x5⟩ := box5 hb2
                  go_wp2_with fail
                  refine (HC2.out _).mono ?_
                  rintro e w3 ⟨rfl, hb3⟩
                  have hq3 := hb2.trans (hb3.mono hb2.size)
                  obtain ⟨y0, y1, y2, y3, y4, y5⟩ := box5 hq3
                  go_wp2_with fail
                  refine (HF2.out _ (HGV.out.below hq3)).mono ?_
                  rintro e w4 ⟨rfl, hb4⟩
                  have hq4 := hq3.trans (hb4.mono hq3.size)
                  obtain ⟨z0, z1, z2, z3, z4, z5⟩ := box5 hq4
                  go_wp2
                  go_ret
                  exact ⟨ret_bool HF.out.symm, HB1.out.trans ((HW.out.trans (hq4.mono (HW.out.size))).mono HB1.out.size)⟩
                · have HF : Hid (Tr.irun ns [] = Tr.irun (ns.drop (i + 1)) ([] ++ [⟨⟨dk, dop, dn, dt, 0⟩, Tr.over ([]) 0⟩])) := hide (by rw [HE.out, HSS.out, if_pos (by unfold Tr.nodeOk; rw [hp, hc, hf]; rfl)])
                  have HF2 := HFT.out
                  rw [hf] at HF2
                  replace HF2 := hide HF2
                  have hov : Tr.over ([]) 0 ≤ i + 1 := Tr.over_le _ _ _ (fun x hx => by cases hx) (by omega)
                  have HHT : Hid (∀ w', GrV w' (.slice none 0 0) ([]) → Calls Tryd.prog 57 #[(.slice none 0 0)] w' fun e w'' => e = .returned (.int .i64 (Tr.over ([]) 0 : Nat)) ∧ Below w'.heap.size w' w'') := hide fun w' hg => height_any ([]) _ w' (Nat.zero_le _) (fun x hx => by cases hx) hg
                  generalize hovv : Tr.over ([]) 0 = ov at *
                  clear hovv HU HC HFT HSB HSS
                  go_wp2_with fail
                  refine HU2.out.mono ?_
                  rintro e w2 ⟨rfl, hb2⟩
                  obtain ⟨x0, x1, x2, x3, x4, x5⟩ := box5 hb2
                  go_wp2_with fail
                  refine (HC2.out _).mono ?_
                  rintro e w3 ⟨rfl, hb3⟩
                  have hq3 := hb2.trans (hb3.mono hb2.size)
                  obtain ⟨y0, y1, y2, y3, y4, y5⟩ := box5 hq3
                  go_wp2_with fail
                  refine (HF2.out _ (HGV.out.below hq3)).mono ?_
                  rintro e w4 ⟨rfl, hb4⟩
                  have hq4 := hq3.trans (hb4.mono hq3.size)
                  obtain ⟨z0, z1, z2, z3, z4, z5⟩ := box5 hq4
                  have hW4 : Below w1.heap.size w1 w4 := HW.out.trans (hq4.mono HW.out.size)
                  have HG4 : Hid (GrV w4.drew (.slice none 0 0) ([])) := hide ((HGV.out.below hq4).below (Below.refl _ _).drew)
                  have HR4 : Hid (w4.ownsRow w1.heap.size 97 6 (.slice none 0 0) 0 (Tr.grCells ([]))) := hide (row_belowG (HRW.out.alloc _) hq4)
                  have HQ4 := hide hq4
                  clear hb2 hb3 hb4 hq3 x0 x1 x2 x3 x4 x5 y0 y1 y2 y3 y4 y5 HF2 HC2 HU2 hq4
                  go_wp2
                  go_region_law (first
                    | (refine step_call1 rfl 57 (.tmp 58) 92 rfl (.slice none 0 0) (.int .i64 (ov : Nat)) (by simp [Act.eval, Act.put]) Tryd.f57 Tryd.func57 (by kernel_rfl) (by kernel_rfl) _ (HHT.out _ HG4.out) ?_; intro w5 hb5; obtain ⟨y0, y1, y2, y3, y4, y5⟩ := box5 (HQ4.out.trans ((drew_of hb5).mono HQ4.out.size)))
                    | (refine step_append_ownJ rfl (.tmp 56) (.tmp 61) 92 rfl w1.heap.size 97 iG _ 6 56 Tryd.underlying92 hG hGz hGs hGb rfl (by decide) (.slice none 0 0) 0 (Tr.grCells ([])) (by simp [Act.eval]) ((row_belowG HR4.out (drew_of hb5)).alloc _) ⟨w5.heap.size, 0, none⟩ 1 1 (Tr.Gr.cells ⟨⟨dk, dop, dn, dt, 0⟩, ov⟩) (by simp [Act.eval]) rfl (cell_six _ _ _) (one_six _) (by unfold maxLen; omega) (by omega) (by have := hW4.size; have := hb5.size; simp at *; omega) ?_; intro v6 w6 hown6 hgrow6 hnil6 hat6))
                  all_goals
                    have hW5 : Below w1.heap.size w1 w5 := hW4.trans ((drew_of hb5).mono hW4.size)
                    have hW6 : Below w1.heap.size w1 w6 := (hW5.alloc hW5.size _).grown hgrow6 (by simp; have := hW5.size; omega) (fun q e => by simp [Value.ownBlock] at e)
                    clear hgrow6 hnil6 hat6 hb5
                    go_wp2
                    go_roundw
                    case rel =>
                      refine ⟨i + 1, [] ++ [⟨⟨dk, dop, dn, dt, 0⟩, ov⟩], by omega, by go_num, ?_, ?_, ?_, hW6, HF.out⟩
                      · simp
                      · intro x hx
                        rcases List.mem_append.1 hx with hx | hx
                        · cases hx
                        · obtain rfl : x = _ := List.mem_singleton.1 hx
                          exact ⟨hov, htxt⟩
                      · have hl2 : ([] ++ [(⟨⟨dk, dop, dn, dt, 0⟩, ov⟩ : Tr.Gr)]).length = 0 + 1 := rfl
                        have hmap : Tr.grCells ([] ++ [(⟨⟨dk, dop, dn, dt, 0⟩, ov⟩ : Tr.Gr)]) = Tr.grCells ([]) ++ Tr.Gr.cells ⟨⟨dk, dop, dn, dt, 0⟩, ov⟩ := by simp [Tr.grCells]
                        rw [hl2, hmap]; exact hown6
                    case measure => simp [intOf]; omega

          · obtain ⟨hcap, hgb, hgl⟩ := row_room ho
            by_cases hcm : cap = m
            · have hcm' : m = cap := hcm.symm
              subst hcm'
              have HGV : Hid (GrV (wr.alloc (.cells #[.int .i64 dk, .int .i64 dop, .int .i64 dn, .string dt, .int .i64 (k : Int)] 61)) (.slice (some ⟨g, 0, none⟩) k 0) (op.drop m)) := hide (by
                have hk0 : k = 0 := by omega
                rw [hk0]
                exact .inl ⟨_, _, rfl, List.drop_of_length_le (by omega)⟩)
              have HRW : Hid (wr.ownsRow w1.heap.size 97 6 (.slice (some ⟨g, 0, none⟩) m m) m (Tr.grCells (op.take m))) := hide (by rw [← Tr.grCells_take]; exact row_takeS ho m (by omega))
              clear ho
              have HW := hide (hB.alloc hB.size (.cells #[.int .i64 dk, .int .i64 dop, .int .i64 dn, .string dt, .int .i64 (k : Int)] 61))
              have HU := hide (uses_any dk dop dn (k : Int) dt (w.heap.size + 1) (wr.alloc (.cells #[.int .i64 dk, .int .i64 dop, .int .i64 dn, .string dt, .int .i64 (k : Int)] 61)) htxt (map_below HMP.out HW.out))
              have HC := hide (count_any dk dop dn (k : Int) dt)
              cases hp : Tr.plain ⟨dk, dop, dn, dt, (k : Int)⟩
              · have HF : Hid (Tr.ivalid ns = false) := hide (by rw [HD.out, HE.out, HSS.out k m rfl hm, if_neg (by unfold Tr.nodeOk; rw [hp]; simp)]; rfl)
                have HU2 := HU.out
                rw [hp] at HU2
                replace HU2 := hide HU2
                go_wp2_with fail
                refine HU2.out.mono ?_
                rintro e w2 ⟨rfl, hb2⟩
                obtain ⟨x0, x1, x2, x3, x4, x5⟩ := box5 hb2
                go_wp2
                go_ret
                exact ⟨ret_bool HF.out.symm, HB1.out.trans ((HW.out.trans (hb2.mono (HW.out.size))).mono HB1.out.size)⟩
              · have HU2 := HU.out
                rw [hp] at HU2
                replace HU2 := hide HU2
                cases hc : Tr.count dk (k : Int)
                · have HF : Hid (Tr.ivalid ns = false) := hide (by rw [HD.out, HE.out, HSS.out k m rfl hm, if_neg (by unfold Tr.nodeOk; rw [hp, hc]; simp)]; rfl)
                  have HC2 := HC.out
                  rw [hc] at HC2
                  replace HC2 := hide HC2
                  go_wp2_with fail
                  refine HU2.out.mono ?_
                  rintro e w2 ⟨rfl, hb2⟩
                  obtain ⟨x0, x1, x2, x3, x4, x5⟩ := box5 hb2
                  go_wp2_with fail
                  refine (HC2.out _).mono ?_
                  rintro e w3 ⟨rfl, hb3⟩
                  have hq3 := hb2.trans (hb3.mono hb2.size)
                  obtain ⟨y0, y1, y2, y3, y4, y5⟩ := box5 hq3
                  go_wp2
                  go_ret
                  exact ⟨ret_bool HF.out.symm, HB1.out.trans ((HW.out.trans (hq3.mono (HW.out.size))).mono HB1.out.size)⟩
                · have HC2 := HC.out
                  rw [hc] at HC2
                  replace HC2 := hide HC2
                  have HFT : Hid (∀ w', GrV w' (.slice (some ⟨g, 0, none⟩) k 0) (op.drop m) → Calls Tryd.prog 56 #[.agg #[.int .i64 dk, .int .i64 dop, .int .i64 dn, .string dt, .int .i64 (k : Int)], (.slice (some ⟨g, 0, none⟩) k 0)] w' fun e w'' => e = .returned (.bool (Tr.fits dk (op.drop m))) ∧ Below w'.heap.size w' w'') := hide fun w' hg => kidsFit_any dk dop dn (k : Int) dt (op.drop m) _ w' (by rw [List.length_drop]; omega) (fun h => by rw [List.length_drop]; have := Tr.count_one hc h; omega) (fun x hx => (HOP.out x (List.mem_of_mem_drop hx)).2) hg
                  cases hf : Tr.fits dk (op.drop m)
                  · have HF : Hid (Tr.ivalid ns = false) := hide (by rw [HD.out, HE.out, HSS.out k m rfl hm, if_neg (by unfold Tr.nodeOk; rw [hp, hc, hf]; simp)]; rfl)
                    have HF2 := HFT.out
                    rw [hf] at HF2
                    replace HF2 := hide HF2
                    go_wp2_with fail
                    refine HU2.out.mono ?_
                    rintro e w2 ⟨rfl, hb2⟩
                    obtain ⟨x0, x1, x2, x3, x4, x5⟩ := box5 hb2
                    go_wp2_with fail
                    refine (HC2.out _).mono ?_
                    rintro e w3 ⟨rfl, hb3⟩
                    have hq3 := hb2.trans (hb3.mono hb2.size)
                    obtain ⟨y0, y1, y2, y3, y4, y5⟩ := box5 hq3
                    go_wp2_with fail
                    refine (HF2.out _ (HGV.out.below hq3)).mono ?_
                    rintro e w4 ⟨rfl, hb4⟩
                    have hq4 := hq3.trans (hb4.mono hq3.size)
                    obtain ⟨z0, z1, z2, z3, z4, z5⟩ := box5 hq4
                    go_wp2
                    go_ret
                    exact ⟨ret_bool HF.out.symm, HB1.out.trans ((HW.out.trans (hq4.mono (HW.out.size))).mono HB1.out.size)⟩
                  · have HF : Hid (Tr.irun ns [] = Tr.irun (ns.drop (i + 1)) (op.take m ++ [⟨⟨dk, dop, dn, dt, (k : Int)⟩, Tr.over (op.drop m) 0⟩])) := hide (by rw [HE.out, HSS.out k m rfl hm, if_pos (by unfold Tr.nodeOk; rw [hp, hc, hf]; rfl)])
                    have HF2 := HFT.out
                    rw [hf] at HF2
                    replace HF2 := hide HF2
                    have hov : Tr.over (op.drop m) 0 ≤ i + 1 := Tr.over_le _ _ _ (fun x hx => by have := (HOP.out x (List.mem_of_mem_drop hx)).1; omega) (by omega)
                    have HHT : Hid (∀ w', GrV w' (.slice (some ⟨g, 0, none⟩) k 0) (op.drop m) → Calls Tryd.prog 57 #[(.slice (some ⟨g, 0, none⟩) k 0)] w' fun e w'' => e = .returned (.int .i64 (Tr.over (op.drop m) 0 : Nat)) ∧ Below w'.heap.size w' w'') := hide fun w' hg => height_any (op.drop m) _ w' (by rw [List.length_drop]; omega) (fun x hx => by have := (HOP.out x (List.mem_of_mem_drop hx)).1; omega) hg
                    generalize hovv : Tr.over (op.drop m) 0 = ov at *
                    clear hovv HU HC HFT HSB HSS
                    go_wp2_with fail
                    refine HU2.out.mono ?_
                    rintro e w2 ⟨rfl, hb2⟩
                    obtain ⟨x0, x1, x2, x3, x4, x5⟩ := box5 hb2
                    go_wp2_with fail
                    refine (HC2.out _).mono ?_
                    rintro e w3 ⟨rfl, hb3⟩
                    have hq3 := hb2.trans (hb3.mono hb2.size)
                    obtain ⟨y0, y1, y2, y3, y4, y5⟩ := box5 hq3
                    go_wp2_with fail
                    refine (HF2.out _ (HGV.out.below hq3)).mono ?_
                    rintro e w4 ⟨rfl, hb4⟩
                    have hq4 := hq3.trans (hb4.mono hq3.size)
                    obtain ⟨z0, z1, z2, z3, z4, z5⟩ := box5 hq4
                    have hW4 : Below w1.heap.size w1 w4 := HW.out.trans (hq4.mono HW.out.size)
                    have HG4 : Hid (GrV w4.drew (.slice (some ⟨g, 0, none⟩) k 0) (op.drop m)) := hide ((HGV.out.below hq4).below (Below.refl _ _).drew)
                    have HR4 : Hid (w4.ownsRow w1.heap.size 97 6 (.slice (some ⟨g, 0, none⟩) m m) m (Tr.grCells (op.take m))) := hide (row_belowG (HRW.out.alloc _) hq4)
                    have HQ4 := hide hq4
                    clear hb2 hb3 hb4 hq3 x0 x1 x2 x3 x4 x5 y0 y1 y2 y3 y4 y5 HF2 HC2 HU2 hq4
                    go_wp2
                    go_region_law (first
                      | (refine step_call1 rfl 57 (.tmp 58) 92 rfl (.slice (some ⟨g, 0, none⟩) k 0) (.int .i64 (ov : Nat)) (by simp [Act.eval, Act.put]) Tryd.f57 Tryd.func57 (by kernel_rfl) (by kernel_rfl) _ (HHT.out _ HG4.out) ?_; intro w5 hb5; obtain ⟨y0, y1, y2, y3, y4, y5⟩ := box5 (HQ4.out.trans ((drew_of hb5).mono HQ4.out.size)))
                      | (refine step_append_ownJ rfl (.tmp 56) (.tmp 61) 92 rfl w1.heap.size 97 iG _ 6 56 Tryd.underlying92 hG hGz hGs hGb rfl (by decide) (.slice (some ⟨g, 0, none⟩) m m) m (Tr.grCells (op.take m)) (by simp [Act.eval]) ((row_belowG HR4.out (drew_of hb5)).alloc _) ⟨w5.heap.size, 0, none⟩ 1 1 (Tr.Gr.cells ⟨⟨dk, dop, dn, dt, (k : Int)⟩, ov⟩) (by simp [Act.eval]) rfl (cell_six _ _ _) (one_six _) (by unfold maxLen; omega) (by omega) (by have := hW4.size; have := hb5.size; simp at *; omega) ?_; intro v6 w6 hown6 hgrow6 hnil6 hat6))
                    all_goals
                      have hW5 : Below w1.heap.size w1 w5 := hW4.trans ((drew_of hb5).mono hW4.size)
                      have hW6 : Below w1.heap.size w1 w6 := (hW5.alloc hW5.size _).grown hgrow6 (by simp; have := hW5.size; omega) (fun q e => by simp [Value.ownBlock] at e; omega)
                      clear hgrow6 hnil6 hat6 hb5
                      go_wp2
                      go_roundw
                      case rel =>
                        refine ⟨i + 1, op.take m ++ [⟨⟨dk, dop, dn, dt, (k : Int)⟩, ov⟩], by omega, by go_num, ?_, ?_, ?_, hW6, HF.out⟩
                        · simp; omega
                        · intro x hx
                          rcases List.mem_append.1 hx with hx | hx
                          · have := HOP.out x (List.mem_of_mem_take hx)
                            exact ⟨by omega, this.2⟩
                          · obtain rfl : x = _ := List.mem_singleton.1 hx
                            exact ⟨hov, htxt⟩
                        · have hl2 : (op.take m ++ [(⟨⟨dk, dop, dn, dt, (k : Int)⟩, ov⟩ : Tr.Gr)]).length = m + 1 := by rw [List.length_append, List.length_take, Nat.min_eq_left (by omega)]; rfl
                          have hmap : Tr.grCells (op.take m ++ [(⟨⟨dk, dop, dn, dt, (k : Int)⟩, ov⟩ : Tr.Gr)]) = Tr.grCells (op.take m) ++ Tr.Gr.cells ⟨⟨dk, dop, dn, dt, (k : Int)⟩, ov⟩ := by simp [Tr.grCells]
                          rw [hl2, hmap]; exact hown6
                      case measure => simp [intOf]; omega

            · have HGV := hide (((gr_of_row ho).below ((Below.refl _ _).alloc (Nat.le_refl _) (.cells #[.int .i64 dk, .int .i64 dop, .int .i64 dn, .string dt, .int .i64 (k : Int)] 61))).dropQ (n := k) (p := m) (c := cap) (by omega) hcap (by omega) (some ⟨g, m * 6, none⟩) (.inl (by rw [Nat.zero_add])))
              have HRW : Hid (wr.ownsRow w1.heap.size 97 6 (.slice (some ⟨g, 0, none⟩) m cap) m (Tr.grCells (op.take m))) := hide (by rw [← Tr.grCells_take]; exact row_takeS ho m (by omega))
              clear ho
              have hmc : m ≤ cap := by omega
              have HW := hide (hB.alloc hB.size (.cells #[.int .i64 dk, .int .i64 dop, .int .i64 dn, .string dt, .int .i64 (k : Int)] 61))
              have HU := hide (uses_any dk dop dn (k : Int) dt (w.heap.size + 1) (wr.alloc (.cells #[.int .i64 dk, .int .i64 dop, .int .i64 dn, .string dt, .int .i64 (k : Int)] 61)) htxt (map_below HMP.out HW.out))
              have HC := hide (count_any dk dop dn (k : Int) dt)
              cases hp : Tr.plain ⟨dk, dop, dn, dt, (k : Int)⟩
              · have HF : Hid (Tr.ivalid ns = false) := hide (by rw [HD.out, HE.out, HSS.out k m rfl hm, if_neg (by unfold Tr.nodeOk; rw [hp]; simp)]; rfl)
                have HU2 := HU.out
                rw [hp] at HU2
                replace HU2 := hide HU2
                go_wp2_with fail
                refine HU2.out.mono ?_
                rintro e w2 ⟨rfl, hb2⟩
                obtain ⟨x0, x1, x2, x3, x4, x5⟩ := box5 hb2
                go_wp2
                go_ret
                exact ⟨ret_bool HF.out.symm, HB1.out.trans ((HW.out.trans (hb2.mono (HW.out.size))).mono HB1.out.size)⟩
              · have HU2 := HU.out
                rw [hp] at HU2
                replace HU2 := hide HU2
                cases hc : Tr.count dk (k : Int)
                · have HF : Hid (Tr.ivalid ns = false) := hide (by rw [HD.out, HE.out, HSS.out k m rfl hm, if_neg (by unfold Tr.nodeOk; rw [hp, hc]; simp)]; rfl)
                  have HC2 := HC.out
                  rw [hc] at HC2
                  replace HC2 := hide HC2
                  go_wp2_with fail
                  refine HU2.out.mono ?_
                  rintro e w2 ⟨rfl, hb2⟩
                  obtain ⟨x0, x1, x2, x3, x4, x5⟩ := box5 hb2
                  go_wp2_with fail
                  refine (HC2.out _).mono ?_
                  rintro e w3 ⟨rfl, hb3⟩
                  have hq3 := hb2.trans (hb3.mono hb2.size)
                  obtain ⟨y0, y1, y2, y3, y4, y5⟩ := box5 hq3
                  go_wp2
                  go_ret
                  exact ⟨ret_bool HF.out.symm, HB1.out.trans ((HW.out.trans (hq3.mono (HW.out.size))).mono HB1.out.size)⟩
                · have HC2 := HC.out
                  rw [hc] at HC2
                  replace HC2 := hide HC2
                  have HFT : Hid (∀ w', GrV w' (.slice (some ⟨g, m * 6, none⟩) k (cap - m)) (op.drop m) → Calls Tryd.prog 56 #[.agg #[.int .i64 dk, .int .i64 dop, .int .i64 dn, .string dt, .int .i64 (k : Int)], (.slice (some ⟨g, m * 6, none⟩) k (cap - m))] w' fun e w'' => e = .returned (.bool (Tr.fits dk (op.drop m))) ∧ Below w'.heap.size w' w'') := hide fun w' hg => kidsFit_any dk dop dn (k : Int) dt (op.drop m) _ w' (by rw [List.length_drop]; omega) (fun h => by rw [List.length_drop]; have := Tr.count_one hc h; omega) (fun x hx => (HOP.out x (List.mem_of_mem_drop hx)).2) hg
                  cases hf : Tr.fits dk (op.drop m)
                  · have HF : Hid (Tr.ivalid ns = false) := hide (by rw [HD.out, HE.out, HSS.out k m rfl hm, if_neg (by unfold Tr.nodeOk; rw [hp, hc, hf]; simp)]; rfl)
                    have HF2 := HFT.out
                    rw [hf] at HF2
                    replace HF2 := hide HF2
                    go_wp2_with fail
                    refine HU2.out.mono ?_
                    rintro e w2 ⟨rfl, hb2⟩
                    obtain ⟨x0, x1, x2, x3, x4, x5⟩ := box5 hb2
                    go_wp2_with fail
                    refine (HC2.out _).mono ?_
                    rintro e w3 ⟨rfl, hb3⟩
                    have hq3 := hb2.trans (hb3.mono hb2.size)
                    obtain ⟨y0, y1, y2, y3, y4, y5⟩ := box5 hq3
                    go_wp2_with fail
                    refine (HF2.out _ (HGV.out.below hq3)).mono ?_
                    rintro e w4 ⟨rfl, hb4⟩
                    have hq4 := hq3.trans (hb4.mono hq3.size)
                    obtain ⟨z0, z1, z2, z3, z4, z5⟩ := box5 hq4
                    go_wp2
                    go_ret
                    exact ⟨ret_bool HF.out.symm, HB1.out.trans ((HW.out.trans (hq4.mono (HW.out.size))).mono HB1.out.size)⟩
                  · have HF : Hid (Tr.irun ns [] = Tr.irun (ns.drop (i + 1)) (op.take m ++ [⟨⟨dk, dop, dn, dt, (k : Int)⟩, Tr.over (op.drop m) 0⟩])) := hide (by rw [HE.out, HSS.out k m rfl hm, if_pos (by unfold Tr.nodeOk; rw [hp, hc, hf]; rfl)])
                    have HF2 := HFT.out
                    rw [hf] at HF2
                    replace HF2 := hide HF2
                    have hov : Tr.over (op.drop m) 0 ≤ i + 1 := Tr.over_le _ _ _ (fun x hx => by have := (HOP.out x (List.mem_of_mem_drop hx)).1; omega) (by omega)
                    have HHT : Hid (∀ w', GrV w' (.slice (some ⟨g, m * 6, none⟩) k (cap - m)) (op.drop m) → Calls Tryd.prog 57 #[(.slice (some ⟨g, m * 6, none⟩) k (cap - m))] w' fun e w'' => e = .returned (.int .i64 (Tr.over (op.drop m) 0 : Nat)) ∧ Below w'.heap.size w' w'') := hide fun w' hg => height_any (op.drop m) _ w' (by rw [List.length_drop]; omega) (fun x hx => by have := (HOP.out x (List.mem_of_mem_drop hx)).1; omega) hg
                    generalize hovv : Tr.over (op.drop m) 0 = ov at *
                    clear hovv HU HC HFT HSB HSS
                    go_wp2_with fail
                    refine HU2.out.mono ?_
                    rintro e w2 ⟨rfl, hb2⟩
                    obtain ⟨x0, x1, x2, x3, x4, x5⟩ := box5 hb2
                    go_wp2_with fail
                    refine (HC2.out _).mono ?_
                    rintro e w3 ⟨rfl, hb3⟩
                    have hq3 := hb2.trans (hb3.mono hb2.size)
                    obtain ⟨y0, y1, y2, y3, y4, y5⟩ := box5 hq3
                    go_wp2_with fail
                    refine (HF2.out _ (HGV.out.below hq3)).mono ?_
                    rintro e w4 ⟨rfl, hb4⟩
                    have hq4 := hq3.trans (hb4.mono hq3.size)
                    obtain ⟨z0, z1, z2, z3, z4, z5⟩ := box5 hq4
                    have hW4 : Below w1.heap.size w1 w4 := HW.out.trans (hq4.mono HW.out.size)
                    have HG4 : Hid (GrV w4.drew (.slice (some ⟨g, m * 6, none⟩) k (cap - m)) (op.drop m)) := hide ((HGV.out.below hq4).below (Below.refl _ _).drew)
                    have HR4 : Hid (w4.ownsRow w1.heap.size 97 6 (.slice (some ⟨g, 0, none⟩) m cap) m (Tr.grCells (op.take m))) := hide (row_belowG (HRW.out.alloc _) hq4)
                    have HQ4 := hide hq4
                    clear hb2 hb3 hb4 hq3 x0 x1 x2 x3 x4 x5 y0 y1 y2 y3 y4 y5 HF2 HC2 HU2 hq4
                    go_wp2
                    go_region_law (first
                      | (refine step_call1 rfl 57 (.tmp 58) 92 rfl (.slice (some ⟨g, m * 6, none⟩) k (cap - m)) (.int .i64 (ov : Nat)) (by simp [Act.eval, Act.put]) Tryd.f57 Tryd.func57 (by kernel_rfl) (by kernel_rfl) _ (HHT.out _ HG4.out) ?_; intro w5 hb5; obtain ⟨y0, y1, y2, y3, y4, y5⟩ := box5 (HQ4.out.trans ((drew_of hb5).mono HQ4.out.size)))
                      | (refine step_append_ownJ rfl (.tmp 56) (.tmp 61) 92 rfl w1.heap.size 97 iG _ 6 56 Tryd.underlying92 hG hGz hGs hGb rfl (by decide) (.slice (some ⟨g, 0, none⟩) m cap) m (Tr.grCells (op.take m)) (by simp [Act.eval]) ((row_belowG HR4.out (drew_of hb5)).alloc _) ⟨w5.heap.size, 0, none⟩ 1 1 (Tr.Gr.cells ⟨⟨dk, dop, dn, dt, (k : Int)⟩, ov⟩) (by simp [Act.eval]) rfl (cell_six _ _ _) (one_six _) (by unfold maxLen; omega) (by omega) (by have := hW4.size; have := hb5.size; simp at *; omega) ?_; intro v6 w6 hown6 hgrow6 hnil6 hat6))
                    all_goals
                      have hW5 : Below w1.heap.size w1 w5 := hW4.trans ((drew_of hb5).mono hW4.size)
                      have hW6 : Below w1.heap.size w1 w6 := (hW5.alloc hW5.size _).grown hgrow6 (by simp; have := hW5.size; omega) (fun q e => by simp [Value.ownBlock] at e; omega)
                      clear hgrow6 hnil6 hat6 hb5
                      go_wp2
                      go_roundw
                      case rel =>
                        refine ⟨i + 1, op.take m ++ [⟨⟨dk, dop, dn, dt, (k : Int)⟩, ov⟩], by omega, by go_num, ?_, ?_, ?_, hW6, HF.out⟩
                        · simp; omega
                        · intro x hx
                          rcases List.mem_append.1 hx with hx | hx
                          · have := HOP.out x (List.mem_of_mem_take hx)
                            exact ⟨by omega, this.2⟩
                          · obtain rfl : x = _ := List.mem_singleton.1 hx
                            exact ⟨hov, htxt⟩
                        · have hl2 : (op.take m ++ [(⟨⟨dk, dop, dn, dt, (k : Int)⟩, ov⟩ : Tr.Gr)]).length = m + 1 := by rw [List.length_append, List.length_take, Nat.min_eq_left (by omega)]; rfl
                          have hmap : Tr.grCells (op.take m ++ [(⟨⟨dk, dop, dn, dt, (k : Int)⟩, ov⟩ : Tr.Gr)]) = Tr.grCells (op.take m) ++ Tr.Gr.cells ⟨⟨dk, dop, dn, dt, (k : Int)⟩, ov⟩ := by simp [Tr.grCells]
                          rw [hl2, hmap]; exact hown6
                      case measure => simp [intOf]; omega

      · have HF : Hid (Tr.ivalid ns = Tr.iend (some op)) := hide (by rw [HD.out, HE.out, List.drop_of_length_le (by omega)]; rfl)
        have hBf := HB1.out.trans (hB.mono HB1.out.size)
        by_cases h1 : op.length = 1
        · rcases row_view ho with ⟨rfl, hz⟩ | ⟨g, cap, rfl⟩
          · omega
          · obtain ⟨c0, _, _, _, _, c5⟩ := (gr_of_row ho).2 0 (by omega)
            obtain ⟨x, rfl⟩ : ∃ x, op = [x] := List.length_eq_one_iff.1 h1
            have HX1 : Hid (Tr.ivalid ns = ((x.nd.kind == 24) && decide ((x.high : Int) ≤ 50))) := hide (by rw [HF.out]; simp only [Tr.iend]; congr 1; rw [decide_eq_decide]; omega)
            simp only [List.getElem_cons_zero, Nat.zero_add, Nat.zero_mul, List.length_singleton] at c0 c5 ⊢
            cases hk : (x.nd.kind == 24)
            · go_wp2
              go_ret
              exact ⟨ret_bool (by rw [HX1.out, hk]; rfl), hBf⟩
            · go_wp2
              go_ret
              exact ⟨ret_bool (by rw [HX1.out, hk]; rfl), hBf⟩
        · have HX1 : Hid (Tr.ivalid ns = false) := hide (by
            rw [HF.out]
            match op, h1 with
            | [], _ => rfl
            | [x], h1 => exact absurd rfl h1
            | _ :: _ :: _, _ => rfl)
          have h2 : ((op.length : Int) == 1) = false := by simp; omega
          rcases row_view ho with ⟨rfl, hz⟩ | ⟨g, cap, rfl⟩
          · go_wp2
            go_ret
            exact ⟨ret_bool HX1.out.symm, hBf⟩
          · go_wp2
            go_ret
            exact ⟨ret_bool HX1.out.symm, hBf⟩
end Go.Proofs.YtmklgiononbmmaaDoor
