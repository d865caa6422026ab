/- Walks: l5Order and Order, on the specification's side. -/
import Derived.Test.YtfpdoafpimaoaaaOa
namespace Go.Proofs.Ytfpdoafpimaoaaa.Vl
open Go.RowKit T.atoms T.ok T.high T.good T.allPlain DatAt T.ord

theorem cell_four (X : World) (u v y z : Value) (t : TypeId) : (X.alloc (.cells #[u, v, y, z] t)).cell? ⟨X.heap.size, 0, none⟩ = some u ∧ (X.alloc (.cells #[u, v, y, z] t)).cell? ⟨X.heap.size, 1, none⟩ = some v ∧ (X.alloc (.cells #[u, v, y, z] t)).cell? ⟨X.heap.size, 2, none⟩ = some y := by simp
theorem cmpB_int (p q : Nat) : cmpB (decide (p < q)) (p == q) = cmpB (decide (p < q)) ((p : Int) == (q : Int)) := by
  congr 1
  rw [Bool.eq_iff_iff]; simp; omega
theorem count_mem (ks : List T) (i : Nat) (h : i < ks.length) : (ks[i]).count ≤ (atomsL ks).length := by
  have e : ks = ks.take i ++ [ks[i]] ++ ks.drop (i + 1) := by rw [← List.take_succ_eq_append_getElem h, List.take_append_drop]
  have h := congrArg (fun x => (atomsL x).length) e
  simp only [atomsL_append, List.length_append, atomsL, List.append_nil] at h
  unfold T.count; omega

set_option maxRecDepth 100000 in
set_option maxHeartbeats 2000000 in
theorem order5_any : ∀ (N : Nat) (a b : T) (ga oa ca gb ob cb ma mb : Nat) (w : World), a.count < N → a.count = ma + 1 → b.count = mb + 1 → ma < 1000 → mb < 1000 → ma + 1 ≤ ca → mb + 1 ≤ cb → AtomsO w ga oa a.atoms → AtomsO w gb ob b.atoms →
    Calls Try.prog 26 #[.agg #[.slice (some ⟨ga, oa, none⟩) (ma + 1) ca], .agg #[.slice (some ⟨gb, ob, none⟩) (mb + 1) cb]] w fun e w' => e = .returned (.int .i64 (a.ord b)) ∧ Below w.heap.size w w' := by
  intro N
  induction N with
  | zero => intro a b ga oa ca gb ob cb ma mb w h; omega
  | succ N ih =>
  intro a b ga oa ca gb ob cb ma mb w hN hma hmb hma1 hmb1 hca hcb hta htb
  have IH := hide ih
  have HMA := hide hma
  have HMB := hide hmb
  have HN := hide hN
  have HO := hide (T.ord_eq a b)
  have HTA := hide hta
  have HTB := hide htb
  have hEA := hide (T.count_eq a)
  have hEB := hide (T.count_eq b)
  have r1 : Below w.heap.size w ((w.alloc (.cells #[.slice (some ⟨ga, oa, none⟩) (ma + 1) ca] 25)).alloc (.cells #[.slice (some ⟨gb, ob, none⟩) (mb + 1) cb] 25)) := ((Below.refl _ _).alloc (Nat.le_refl _) _).alloc (by simp) _
  have b0 : ((w.alloc (.cells #[.slice (some ⟨ga, oa, none⟩) (ma + 1) ca] 25)).alloc (.cells #[.slice (some ⟨gb, ob, none⟩) (mb + 1) cb] 25)).cell? ⟨w.heap.size, 0, none⟩ = some (.slice (some ⟨ga, oa, none⟩) (ma + 1) ca) := by
    have r2 : Below (w.heap.size + 1) (w.alloc (.cells #[.slice (some ⟨ga, oa, none⟩) (ma + 1) ca] 25)) ((w.alloc (.cells #[.slice (some ⟨ga, oa, none⟩) (ma + 1) ca] 25)).alloc (.cells #[.slice (some ⟨gb, ob, none⟩) (mb + 1) cb] 25)) := (Below.refl _ _).alloc (by simp) _
    exact (r2.cell (p := ⟨w.heap.size, 0, none⟩) (Nat.lt_succ_self _)).trans (by simp)
  have b1 : ((w.alloc (.cells #[.slice (some ⟨ga, oa, none⟩) (ma + 1) ca] 25)).alloc (.cells #[.slice (some ⟨gb, ob, none⟩) (mb + 1) cb] 25)).cell? ⟨w.heap.size + 1, 0, none⟩ = some (.slice (some ⟨gb, ob, none⟩) (mb + 1) cb) := by
    have := (cell_new (w.alloc (.cells #[.slice (some ⟨ga, oa, none⟩) (ma + 1) ca] 25)) (.slice (some ⟨gb, ob, none⟩) (mb + 1) cb) 25).1
    rwa [World.size_alloc] at this
  have HL1 := hide (last_any ⟨a.kind, a.num, a.text, a.ks.length⟩ a.atoms ga oa ca ma ((w.alloc (.cells #[.slice (some ⟨ga, oa, none⟩) (ma + 1) ca] 25)).alloc (.cells #[.slice (some ⟨gb, ob, none⟩) (mb + 1) cb] 25)) HMA.out (by omega) (atoms_last a ma HMA.out) (HTA.out.below r1))
  clear ih hma hmb hN hta htb
  go_enter Try.func26, Try.ntmps26
  go_wp2_with fail
  refine HL1.out.mono ?_
  rintro e w1 ⟨rfl, hb1⟩
  rw [World.size_alloc, World.size_alloc] at hb1
  have hz1 : w.heap.size + 1 + 1 ≤ w1.heap.size := by have := hb1.size; simp at this; omega
  have B1 : Below w.heap.size w w1 := r1.trans (hb1.mono (by omega))
  have c0 := (hb1.cell (p := ⟨w.heap.size, 0, none⟩) (by show w.heap.size < _; omega)).trans b0
  have c1 := (hb1.cell (p := ⟨w.heap.size + 1, 0, none⟩) (by show w.heap.size + 1 < _; omega)).trans b1
  clear b0 b1 hb1
  generalize hak : a.kind = ka at *
  generalize han : a.num = na at *
  generalize hat : a.text = sa at *
  obtain ⟨la, hla⟩ : ∃ la, a.ks.length = la := ⟨_, rfl⟩
  rw [hla]
  have HLA := hide hla
  clear hla hak han hat
  have q1 : Below w1.heap.size w1 (w1.alloc (.cells #[.int .i64 ka, .int .i64 na, .string sa, .int .i64 (la : Int)] 55)) := (Below.refl _ _).alloc (Nat.le_refl _) _
  have HL2 := hide (last_any ⟨b.kind, b.num, b.text, b.ks.length⟩ b.atoms gb ob cb mb _ HMB.out (by omega) (atoms_last b mb HMB.out) ((HTB.out.below B1).below q1))
  have c0' := (q1.cell (p := ⟨w.heap.size, 0, none⟩) (by show w.heap.size < _; omega)).trans c0
  have c1' := (q1.cell (p := ⟨w.heap.size + 1, 0, none⟩) (by show w.heap.size + 1 < _; omega)).trans c1
  go_wp2_with fail
  refine HL2.out.mono ?_
  rintro e w2 ⟨rfl, hb2⟩
  have hz2 : w1.heap.size + 1 ≤ w2.heap.size := by have := hb2.size; simp at this; omega
  have hn4 := cell_four w1 (.int .i64 ka) (.int .i64 na) (.string sa) (.int .i64 (la : Int)) 55
  rw [World.size_alloc] at hb2
  have B2 : Below w.heap.size w w2 := (B1.alloc B1.size _).trans (hb2.mono (by omega))
  have d0 := (hb2.cell (p := ⟨w1.heap.size, 0, none⟩) (Nat.lt_succ_self _)).trans hn4.1
  have d1 := (hb2.cell (p := ⟨w1.heap.size, 1, none⟩) (Nat.lt_succ_self _)).trans hn4.2.1
  have d2 := (hb2.cell (p := ⟨w1.heap.size, 2, none⟩) (Nat.lt_succ_self _)).trans hn4.2.2
  have e0 := (hb2.cell (p := ⟨w.heap.size, 0, none⟩) (by show w.heap.size < _; omega)).trans ((q1.cell (p := ⟨w.heap.size, 0, none⟩) (by show w.heap.size < _; omega)).trans c0)
  have e1 := (hb2.cell (p := ⟨w.heap.size + 1, 0, none⟩) (by show w.heap.size + 1 < _; omega)).trans ((q1.cell (p := ⟨w.heap.size + 1, 0, none⟩) (by show w.heap.size + 1 < _; omega)).trans c1)
  clear c0 c1 c0' c1' hb2 hn4 HL1 HL2 q1
  generalize hbk : b.kind = kb at *
  generalize hbn : b.num = nb at *
  generalize hbt : b.text = sb at *
  obtain ⟨lb, hlb⟩ : ∃ lb, b.ks.length = lb := ⟨_, rfl⟩
  rw [hlb]
  have HLB := hide hlb
  clear hlb hbk hbn hbt
  have q2 : Below w2.heap.size w2 (w2.alloc (.cells #[.int .i64 kb, .int .i64 nb, .string sb, .int .i64 (lb : Int)] 55)) := (Below.refl _ _).alloc (Nat.le_refl _) _
  have x0 := (q2.cell (p := ⟨w1.heap.size, 0, none⟩) (by show w1.heap.size < _; omega)).trans d0
  have x1 := (q2.cell (p := ⟨w1.heap.size, 1, none⟩) (by show w1.heap.size < _; omega)).trans d1
  have x2 := (q2.cell (p := ⟨w1.heap.size, 2, none⟩) (by show w1.heap.size < _; omega)).trans d2
  have y0 := (q2.cell (p := ⟨w.heap.size, 0, none⟩) (by show w.heap.size < _; omega)).trans e0
  have y1 := (q2.cell (p := ⟨w.heap.size + 1, 0, none⟩) (by show w.heap.size + 1 < _; omega)).trans e1
  clear d0 d1 d2 e0 e1
  have HB3 : Hid (∀ o, Below w.heap.size w (w2.alloc o)) := hide (fun o => B2.alloc B2.size o)
  by_cases hk : ka = kb
  · subst hk
    by_cases h23 : ka = 2 ∨ ka = 3
    · have HR : Hid (a.ord b = cmpI na nb) := hide (by rw [HO.out, if_neg (by simp), if_pos h23])
      rcases h23 with rfl | rfl
      all_goals
        go_wp2_with (go_at_call 51; refine (cmp5_any _ _ _).mono ?_; rintro e w3 ⟨rfl, rfl⟩)
        go_ret
        exact ⟨ret_int HR.out.symm, HB3.out _⟩
    · by_cases h4 : ka = 4
      · subst h4
        have HR : Hid (a.ord b = cmpS sa sb) := hide (by rw [HO.out, if_neg (by simp), if_neg (by omega), if_pos rfl])
        go_wp2_with (go_at_call 51; refine (cmp5_any _ _ _).mono ?_; rintro e w3 ⟨rfl, rfl⟩)
        go_ret
        exact ⟨ret_int HR.out.symm, HB3.out _⟩
      · have HR : Hid (a.ord b = ordL a.ks b.ks) := hide (by rw [HO.out, if_neg (by simp), if_neg h23, if_neg h4])
        have h2 : ¬ ka = 2 := fun h => h23 (.inl h)
        have h3 : ¬ ka = 3 := fun h => h23 (.inr h)
        have HW3 := hide (HB3.out (.cells #[.int .i64 ka, .int .i64 nb, .string sb, .int .i64 (lb : Int)] 55))
        have HKA := hide (kids5_any a.atoms ga oa ca ma _ HMA.out (by omega) (HTA.out.below HW3.out) hca)
        clear h23
        go_wp2_with fail
        refine HKA.out.mono ?_
        rintro e w3 ⟨g7, c7, nk, vs, ok, rfl, ⟨hyes, -⟩, hb3⟩
        obtain ⟨rfl, rfl, hown, hkids⟩ := hyes a (treeOf_atoms a)
        rw [World.size_alloc] at hb3 hown
        have hz3 : w2.heap.size + 1 ≤ w3.heap.size := by have := hb3.size; simp at this; omega
        have B3 : Below w.heap.size w w3 := HW3.out.trans (hb3.mono (by omega))
        have y1' := (hb3.cell (p := ⟨w.heap.size + 1, 0, none⟩) (by show w.heap.size + 1 < _; omega)).trans y1
        have HOA := hide hown
        have HKD := hide hkids
        have HKB := hide (kids5_any b.atoms gb ob cb mb _ HMB.out (by omega) (HTB.out.below B3) hcb)
        clear hyes hown hkids x0 x1 x2 y0 y1 hb3 HKA
        go_wp2_with fail
        refine HKB.out.mono ?_
        rintro e w4 ⟨g9, c9, nk, vt, ok, rfl, ⟨hyes, -⟩, hb4⟩
        obtain ⟨rfl, rfl, hown, hkids⟩ := hyes b (treeOf_atoms b)
        have B4 : Below w.heap.size w w4 := B3.trans (hb4.mono B3.size)
        have HOB := hide hown
        have HKE := hide hkids
        have HOA4 := hide (row_below HOA.out hb4)
        have HKD4 := hide (HKD.out.below hb4)
        have hla2 : a.ks.length ≤ 1000 := by have := len_le_atomsL a.ks; have := hEA.out; have := HMA.out; omega
        have hlb2 : b.ks.length ≤ 1000 := by have := len_le_atomsL b.ks; have := hEB.out; have := HMB.out; omega
        clear hyes hown hkids y1' hb4 HKB HOA HKD
        go_wp2
        go_loopw [11] (fun t wr => ∃ i : Nat, i ≤ a.ks.length ∧ i ≤ b.ks.length ∧ t = .int .i64 i ∧ Below w4.heap.size w4 wr ∧ ordL a.ks b.ks = ordL (a.ks.drop i) (b.ks.drop i)) (fun t _ => a.ks.length - (intOf t).toNat)
        case atStart => exact ⟨0, by omega, by omega, rfl, Below.refl _ _, by rw [List.drop_zero, List.drop_zero]⟩
        case round =>
          obtain ⟨i, hia, hib, rfl, hB, he⟩ := hrel
          have HE := hide he
          have HBW := hide (B4.trans (hB.mono B4.size))
          clear he
          have fin : ¬ (i < a.ks.length ∧ i < b.ks.length) → a.ord b = cmpB (decide (a.ks.length < b.ks.length)) ((a.ks.length : Int) == (b.ks.length : Int)) := by
            intro h
            rw [HR.out, HE.out, ordL_end a.ks b.ks i (by omega) hia hib, cmpB_int]
          have HFIN := hide fin
          clear fin
          by_cases hlta : i < a.ks.length
          · by_cases hltb : i < b.ks.length
            · obtain ⟨gx, ox, cx, hvx, hatx, hcx⟩ := HKD4.out.2 i hlta
              obtain ⟨gy, oy, cy, hvy, haty, hcy⟩ := HKE.out.2 i hltb
              obtain ⟨mx, hmx⟩ : ∃ mx, (a.ks[i]).count = mx + 1 := ⟨(a.ks[i]).count - 1, by have := atoms_pos a.ks[i]; unfold T.count; omega⟩
              obtain ⟨my, hmy⟩ : ∃ my, (b.ks[i]).count = my + 1 := ⟨(b.ks[i]).count - 1, by have := atoms_pos b.ks[i]; unfold T.count; omega⟩
              have hsx := count_mem a.ks i hlta
              have hsy := count_mem b.ks i hltb
              rw [hmx] at hvx hcx hsx
              rw [hmy] at hvy hcy hsy
              have hmx1 : mx < ma := by have := hEA.out; have := HMA.out; omega
              have hmy1 : my < 1000 := by have := hEB.out; have := HMB.out; omega
              have HMX := hide hmx
              have HMY := hide hmy
              have fx := fun q : KB wr => ((hB.trans (q.below.mono hB.size)).cell (p := ⟨g7, i, none⟩) (row_room HOA4.out).2.2).trans ((HOA4.out.cellAt i (by omega)).trans hvx)
              have fy := fun q : KB wr => ((hB.trans (q.below.mono hB.size)).cell (p := ⟨g9, i, none⟩) (row_room HOB.out).2.2).trans ((HOB.out.cellAt i (by omega)).trans hvy)
              have HI := hide (fun w' (hb : Below wr.heap.size wr w') => IH.out a.ks[i] b.ks[i] gx ox cx gy oy cy mx my w' (by have := HMX.out; have := HN.out; have := HMA.out; omega) HMX.out HMY.out (by omega) hmy1 hcx hcy ((hatx.below hB).below hb) ((haty.below hB).below hb))
              have HST := hide (ordL_step a.ks b.ks i hlta hltb)
              generalize (a.ks[i]).ord b.ks[i] = od at *
              haveI hne : Nonempty (KB wr) := ⟨⟨_, Below.refl _ _⟩⟩
              clear hvx hvy hatx haty hmx hmy
              go_wp2
              refine region_class (KB.w (w := wr)) (by kernel_rfl) (by kernel_rfl) ⟨⟨_, below_drewN (Below.refl _ _) _⟩, rfl⟩ ?_
              repeat (go_big_quiet_step ((go_at_call 26; exact kb_call HI.out _)))
              refine wpQuiet_nil ?_
              rintro _ ⟨q, rfl⟩
              have hBq := q.below
              by_cases hod : od = 0
              · have HGO : Hid (ordL a.ks b.ks = ordL (a.ks.drop (i + 1)) (b.ks.drop (i + 1))) := hide (by rw [HE.out, HST.out, if_neg (by simpa using hod)])
                go_wp2
                go_roundw
                case rel => exact ⟨i + 1, by omega, by omega, by go_num, hB.trans (hBq.mono hB.size), HGO.out⟩
                case measure => simp [intOf]; omega
              · have HGO : Hid (a.ord b = od) := hide (by rw [HR.out, HE.out, HST.out, if_pos hod])
                go_wp2
                go_ret
                exact ⟨ret_int HGO.out.symm, HBW.out.trans (hBq.mono HBW.out.size)⟩
            · have HZ := hide (HFIN.out (fun h => hltb h.2))
              go_wp2_with (go_at_call 51; refine (cmp5_any _ _ _).mono ?_; rintro e w5 ⟨rfl, rfl⟩)
              go_ret
              exact ⟨ret_int HZ.out.symm, HBW.out⟩
          · have HZ := hide (HFIN.out (fun h => hlta h.1))
            go_wp2_with (go_at_call 51; refine (cmp5_any _ _ _).mono ?_; rintro e w5 ⟨rfl, rfl⟩)
            go_ret
            exact ⟨ret_int HZ.out.symm, HBW.out⟩
  · have HR : Hid (a.ord b = cmpB (decide (ka < kb)) false) := hide (by rw [HO.out, if_pos hk])
    go_wp2_with (go_at_call 51; refine (cmp5_any _ _ _).mono ?_; rintro e w3 ⟨rfl, rfl⟩)
    go_ret
    exact ⟨ret_int HR.out.symm, HB3.out _⟩

def ordOf (l l' : List At) : Int := match valid l && valid l', treeOf l, treeOf l' with
  | true, some t, some t' => t.ord t'
  | _, _, _ => 0
theorem valid_tree {l : List At} (h : valid l = true) : ∃ t, treeOf l = some t ∧ t.good = true ∧ l.length ≤ 1000 := by
  unfold valid at h
  rw [Bool.and_eq_true] at h
  cases ht : treeOf l with
  | none => rw [ht] at h; cases h.2
  | some t => rw [ht] at h; exact ⟨t, rfl, by rw [← ok_good]; exact h.2, by simpa using h.1⟩
theorem ordOf_no {l l' : List At} (h : (valid l && valid l') = false) : ordOf l l' = 0 := by unfold ordOf; rw [h]
theorem ordOf_yes {l l' : List At} {t t' : T} (h1 : valid l = true) (h2 : valid l' = true) (h3 : treeOf l = some t) (h4 : treeOf l' = some t') : ordOf l l' = t.ord t' := by unfold ordOf; rw [h1, h2, h3, h4]; rfl

set_option maxRecDepth 100000 in
set_option maxHeartbeats 1000000 in
theorem specOrder_any (l l' : List At) (g g' c c' : Nat) (w : World) (ht : AtomsO w g 0 l) (ht' : AtomsO w g' 0 l') (hc : l.length ≤ c) (hc' : l'.length ≤ c') (hl : l.length ≤ 1048576) (hl' : l'.length ≤ 1048576) :
    Calls Try.prog 9 #[.agg #[.slice (some ⟨g, 0, none⟩) l.length c], .agg #[.slice (some ⟨g', 0, none⟩) l'.length c']] w fun e w' => e = .returned (.int .i64 (ordOf l l')) ∧ Below w.heap.size w w' := by
  have r1 : Below w.heap.size w ((w.alloc (.cells #[.slice (some ⟨g, 0, none⟩) l.length c] 25)).alloc (.cells #[.slice (some ⟨g', 0, none⟩) l'.length c'] 25)) := ((Below.refl _ _).alloc (Nat.le_refl _) _).alloc (by simp) _
  have b0 : ((w.alloc (.cells #[.slice (some ⟨g, 0, none⟩) l.length c] 25)).alloc (.cells #[.slice (some ⟨g', 0, none⟩) l'.length c'] 25)).cell? ⟨w.heap.size, 0, none⟩ = some (.slice (some ⟨g, 0, none⟩) l.length c) := by
    have r2 : Below (w.heap.size + 1) (w.alloc (.cells #[.slice (some ⟨g, 0, none⟩) l.length c] 25)) ((w.alloc (.cells #[.slice (some ⟨g, 0, none⟩) l.length c] 25)).alloc (.cells #[.slice (some ⟨g', 0, none⟩) l'.length c'] 25)) := (Below.refl _ _).alloc (by simp) _
    exact (r2.cell (p := ⟨w.heap.size, 0, none⟩) (Nat.lt_succ_self _)).trans (by simp)
  have b1 : ((w.alloc (.cells #[.slice (some ⟨g, 0, none⟩) l.length c] 25)).alloc (.cells #[.slice (some ⟨g', 0, none⟩) l'.length c'] 25)).cell? ⟨w.heap.size + 1, 0, none⟩ = some (.slice (some ⟨g', 0, none⟩) l'.length c') := by
    have := (cell_new (w.alloc (.cells #[.slice (some ⟨g, 0, none⟩) l.length c] 25)) (.slice (some ⟨g', 0, none⟩) l'.length c') 25).1
    rwa [World.size_alloc] at this
  have HV1 := hide (fun w1 (hb : Below w.heap.size w w1) => specValid_any l g 0 c w1 (fun _ => rfl) (ht.below hb) hc hl)
  have HV2 := hide (fun w1 (hb : Below w.heap.size w w1) => specValid_any l' g' 0 c' w1 (fun _ => rfl) (ht'.below hb) hc' hl')
  have HT := hide ht
  have HT' := hide ht'
  clear ht ht'
  cases hv : valid l
  · have HZ : Hid (ordOf l l' = 0) := hide (ordOf_no (by rw [hv]; rfl))
    rw [hv] at HV1
    go_enter Try.func9, Try.ntmps9
    go_wp2_with fail
    refine (HV1.out _ r1).mono ?_
    rintro e w1 ⟨rfl, hb1⟩
    go_wp2
    go_ret
    exact ⟨ret_int HZ.out.symm, r1.trans (hb1.mono r1.size)⟩
  · rw [hv] at HV1
    cases hv' : valid l'
    · have HZ : Hid (ordOf l l' = 0) := hide (ordOf_no (by rw [hv']; simp))
      rw [hv'] at HV2
      go_enter Try.func9, Try.ntmps9
      go_wp2_with fail
      refine (HV1.out _ r1).mono ?_
      rintro e w1 ⟨rfl, hb1⟩
      have B1 := r1.trans (hb1.mono r1.size)
      have y1 := (hb1.cell (p := ⟨w.heap.size + 1, 0, none⟩) (by show w.heap.size + 1 < _; simp)).trans b1
      go_wp2_with fail
      refine (HV2.out _ B1).mono ?_
      rintro e w2 ⟨rfl, hb2⟩
      go_wp2
      go_ret
      exact ⟨ret_int HZ.out.symm, B1.trans (hb2.mono B1.size)⟩
    · rw [hv'] at HV2
      obtain ⟨t, htr, hgd, hln⟩ := valid_tree hv
      obtain ⟨t', htr', hgd', hln'⟩ := valid_tree hv'
      have HZ : Hid (ordOf l l' = t.ord t') := hide (ordOf_yes hv hv' htr htr')
      obtain rfl := treeOf_some htr
      obtain rfl := treeOf_some htr'
      obtain ⟨m, hm⟩ : ∃ m, t.atoms.length = m + 1 := ⟨t.atoms.length - 1, by have := atoms_pos t; omega⟩
      obtain ⟨m', hm'⟩ : ∃ m', t'.atoms.length = m' + 1 := ⟨t'.atoms.length - 1, by have := atoms_pos t'; omega⟩
      have HO := hide (fun w1 (hb : Below w.heap.size w w1) => order5_any (t.count + 1) t t' g 0 c g' 0 c' m m' w1 (Nat.lt_succ_self _) hm hm' (by omega) (by omega) (by omega) (by omega) (HT.out.below hb) (HT'.out.below hb))
      rw [hm] at HV1 r1 b0 b1
      rw [hm'] at HV2 r1 b0 b1
      rw [hm, hm']
      clear hv hv' htr htr' hgd hgd' hm hm'
      go_enter Try.func9, Try.ntmps9
      go_wp2_with fail
      refine (HV1.out _ r1).mono ?_
      rintro e w1 ⟨rfl, hb1⟩
      have B1 := r1.trans (hb1.mono r1.size)
      have y0 := (hb1.cell (p := ⟨w.heap.size, 0, none⟩) (by show w.heap.size < _; simp; omega)).trans b0
      have y1 := (hb1.cell (p := ⟨w.heap.size + 1, 0, none⟩) (by show w.heap.size + 1 < _; simp)).trans b1
      have hz1 : w.heap.size + 1 < w1.heap.size := Nat.lt_of_lt_of_le (by simp) hb1.size
      go_wp2_with fail
      refine (HV2.out _ B1).mono ?_
      rintro e w2 ⟨rfl, hb2⟩
      have B2 := B1.trans (hb2.mono B1.size)
      have z0 := (hb2.cell (p := ⟨w.heap.size, 0, none⟩) (by show w.heap.size < _; omega)).trans y0
      have z1 := (hb2.cell (p := ⟨w.heap.size + 1, 0, none⟩) (by show w.heap.size + 1 < _; omega)).trans y1
      clear hb1 hb2 y0 y1
      go_wp2_with fail
      refine (HO.out _ B2).mono ?_
      rintro e w3 ⟨rfl, hb3⟩
      go_wp2
      go_ret
      exact ⟨ret_int HZ.out.symm, B2.trans (hb3.mono B2.size)⟩
end Go.Proofs.Ytfpdoafpimaoaaa.Vl
