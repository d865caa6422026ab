/- Rk, Rj. -/
import Derived.Test.YtmklgiononbmmaaDoorRa2
import Derived.Test.YtmklgiononbmmaaDoorNm
import Derived.Test.YtmklgiononbmmaaDoorMe3
import Derived.Test.YtmklgiononbmmaaDoorJe
import Derived.Deep.RegionHeld3
import Derived.Maps.RangeWalk
import Derived.Test.YtmklgiononbmmaaDoorRf2
import Derived.Test.YtmklgiononbmmaaDoorNp
namespace Go.Proofs.YtmklgiononbmmaaDoor
open Go.RowKit

theorem eql_nil (a : Addr) (l c : Nat) (W : World) : (binOp .eql 29 (.slice (some a) l c) (.slice none 0 0)).run Tryd.prog W = .ok (.bool false) W := by
  simp only [binOp]
  simp [run_equal_slice_nil W 29 61 (some a) l c Tryd.underlying29]

set_option maxRecDepth 100000 in
set_option maxHeartbeats 400000 in
theorem clone_any (ns : List Tr.Nd) (tg tc : Nat) (w : World) (hn1 : 1 ≤ ns.length) (hn : ns.length ≤ 1048576) (ht : NodesAt w tg ns) :
    Calls Tryd.prog 40 #[.slice (some ⟨tg, 0, none⟩) ns.length tc] w fun e w' => ∃ g c, e = .returned (.slice (some ⟨g, 0, none⟩) ns.length c) ∧ w.heap.size ≤ g ∧ w'.ownsRow 0 61 5 (.slice (some ⟨g, 0, none⟩) ns.length c) ns.length (Tr.cellsOf ns) ∧ Below w.heap.size w w' := by
  obtain ⟨iN, hN, hNz, hNs, hNb⟩ := info_parts Tryd.infoNd
  have HNW : Hid (∀ (o : Obj) (j : Nat) (u : Value), (Tr.cellsOf ns)[j]? = some u → (w.alloc o).cell? ((⟨tg, 0, none⟩ : Addr).add j) = some u) := hide (by
    intro o j u hu
    have hj : j < ns.length * 5 := by have := (List.getElem?_eq_some_iff.1 hu).1; rwa [Tr.cellsOf_len] at this
    obtain ⟨i, r, hr, hj2⟩ : ∃ i r, r < 5 ∧ j = i * 5 + r := ⟨j / 5, j % 5, by omega, by omega⟩
    obtain ⟨p0, p1, p2, p3, p4⟩ := Tr.cellsOf_at ns i (by omega)
    obtain ⟨q0, q1, q2, q3, q4⟩ := (ht.below ((Below.refl _ _).alloc (Nat.le_refl _) o)).2 i (by omega)
    rw [add_plain, Nat.zero_add]
    subst hj2
    match r, hr, hu with
    | 0, _, hu => exact q0.trans (p0.symm.trans hu)
    | 1, _, hu => exact q1.trans (p1.symm.trans hu)
    | 2, _, hu => exact q2.trans (p2.symm.trans hu)
    | 3, _, hu => exact q3.trans (p3.symm.trans hu)
    | 4, _, hu => exact q4.trans (p4.symm.trans hu))
  have HO : Hid (∀ u ∈ Tr.cellsOf ns, u.oneCell' = true) := hide (by
    intro u hu
    unfold Tr.cellsOf at hu
    obtain ⟨d, _, hd⟩ := List.mem_flatMap.1 hu
    exact Tr.nd_one d u hd)
  have hnn : ∀ W, (binOp .eql 29 (.slice (some ⟨tg, 0, none⟩) ns.length tc) (.slice none 0 0)).run Tryd.prog W = .ok (.bool false) W := eql_nil _ _ _
  clear ht
  go_enter Tryd.func40, Tryd.ntmps40
  go_wp2_with (at_builtin; refine wpList_append_own_at _ rfl _ _ 29 rfl w.heap.size 61 iN _ 5 48 Tryd.underlying29 hN hNz hNs hNb rfl (by decide) (.slice (some ⟨w.heap.size, 0, none⟩) 0 0) 0 [] rfl (World.ownsRow_lit (base := w.heap.size) w #[] 0 (Nat.le_refl _) (Nat.zero_le _) rfl) ⟨tg, 0, none⟩ ns.length tc (Tr.cellsOf ns) rfl (Tr.cellsOf_len ns) (HNW.out _) HO.out (by unfold maxLen; omega) (by omega) (by simp) ?_)
  intro v w1 hown1 hgrow1 hnil1 hat1
  obtain ⟨g, c, hv⟩ := row_pos hown1 (by omega)
  subst hv
  have hb : Below w.heap.size w w1 := ((Below.refl _ _).alloc (Nat.le_refl _) _).grown hgrow1 (by simp) (fun q e => by simp [Value.ownBlock] at e; omega)
  have hg := (hown1.lt g rfl).1
  clear hgrow1 hnil1 hat1
  go_wp2
  go_ret
  exact ⟨g, c, rfl, hg, row_mono hown1 (Nat.zero_le _), hb⟩

def Tr.boundAt (a : Int) : List Int → Nat → List Nat
  | [], _ => []
  | x :: r, i => (if x = a then [i] else []) ++ Tr.boundAt a r (i + 1)
theorem Tr.boundAt_snoc (a : Int) (l : List Int) (x : Int) (k : Nat) : Tr.boundAt a (l ++ [x]) k = Tr.boundAt a l k ++ (if x = a then [k + l.length] else []) := by
  induction l generalizing k with
  | nil => simp [Tr.boundAt]
  | cons y r ih => rw [List.cons_append, Tr.boundAt, ih, Tr.boundAt, List.append_assoc, List.length_cons, show k + 1 + r.length = k + (r.length + 1) from by omega]
theorem Tr.mem_boundAt (a : Int) (l : List Int) (k j : Nat) : j ∈ Tr.boundAt a l k ↔ k ≤ j ∧ j < k + l.length ∧ l[j - k]?.getD 0 = a ∧ (j - k) < l.length := by
  induction l generalizing k with
  | nil => simp [Tr.boundAt]
  | cons x r ih =>
    rw [Tr.boundAt, List.mem_append, ih, List.length_cons]
    constructor
    · rintro (h | ⟨h1, h2, h3, h4⟩)
      · split at h
        · rename_i e
          have : j = k := by simpa using h
          subst this
          exact ⟨Nat.le_refl _, by omega, by simp [e], by omega⟩
        · cases h
      · refine ⟨by omega, by omega, ?_, by omega⟩
        rw [show j - k = (j - (k + 1)) + 1 from by omega, List.getElem?_cons_succ]; exact h3
    · rintro ⟨h1, h2, h3, h4⟩
      by_cases e : j = k
      · subst e
        left
        rw [Nat.sub_self, List.getElem?_cons_zero, Option.getD_some] at h3
        rw [if_pos h3]; simp
      · right
        rw [show j - k = (j - (k + 1)) + 1 from by omega, List.getElem?_cons_succ] at h3
        exact ⟨by omega, by omega, h3, by omega⟩

set_option maxRecDepth 100000 in
set_option maxHeartbeats 1000000 in
theorem placesNaming_any (a : Nat) (b : List Int) (gs : Nat) (c : Nat) (w : World) (hb : b.length ≤ 5000) (ha : a ≤ 5000) (hgs : gs < w.heap.size) (hbs : ∀ j (h : j < b.length), w.cell? ⟨gs, j, none⟩ = some (.int .i64 b[j])) :
    Calls Tryd.prog 41 #[.int .i64 (a : Int), .slice (some ⟨gs, 0, none⟩) b.length c] w fun e w' => e = .returned (.map (some w.heap.size)) ∧ w'.ownsMap (H := Unit) Tryd.prog 3 unitElem w.heap.size (b.length + 1) (Maps.setOf (.agg []) (Tr.keysI (a :: Tr.boundAt (a : Int) b 0))) ∧ Below w.heap.size w w' := by
  have hmm := @run_makeMap Tryd.prog
  have hm0 := World.ownsMap_made (H := Unit) w Tryd.prog 3 unitElem
  have hb0 : Below w.heap.size w (w.alloc (.map #[] 0)) := (Below.refl _ _).alloc (Nat.le_refl _) _
  have HYA : Hid (keyOf Tryd.prog 3 (.int .i64 (a : Int)) = some (.int .i64 (a : Int))) := hide (Maps.keyOf_int_mk Tryd.underlying3 (wfI a (by omega)))
  have HM := hide hm0
  have HBS := hide hbs
  clear hm0 hbs
  go_enter Tryd.func41, Tryd.ntmps41
  go_wp2_with (show wpList _ _ _ ({ dst := _, op := Op.insert _ _ _ _, type := _, pos := _, after := _, guard := _ } :: _) _ _; go_must (refine wpList_insert_own _ rfl _ _ _ 68 rfl 3 66 lawI Tryd.underlying68 _ w.heap.size 0 _ rfl HM.out (by unfold maxLen; omega) _ _ _ rfl rfl HYA.out _ [] unitElem_mk ?_))
  intro w0 hown0 hgrow0
  have hB0 : Below w.heap.size w w0 := hb0.grown hgrow0 (by simp) (fun k e => by cases e; exact Nat.le_refl _)
  have hz0 : w.heap.size < w0.heap.size := by have := hgrow0.size; simp at this; omega
  have HO0 := hide hown0
  clear hown0 hgrow0
  go_wp2
  go_loopw [14] (fun t wr => ∃ i : Nat, i ≤ b.length ∧ t = .int .i64 i ∧ Below w.heap.size w wr ∧ w.heap.size < wr.heap.size ∧ wr.ownsMap (H := Unit) Tryd.prog 3 unitElem w.heap.size (i + 1) (Maps.setOf (.agg []) (Tr.keysI (a :: Tr.boundAt (a : Int) (b.take i) 0)))) (fun t _ => b.length - (intOf t).toNat)
  case atStart => exact ⟨0, Nat.zero_le _, rfl, hB0, hz0, HO0.out⟩
  case round =>
    obtain ⟨i, hi, rfl, hB, hz, hown⟩ := hrel
    have HO := hide hown
    clear hown
    by_cases hlt : i < b.length
    · have hc := (hB.cell (p := ⟨gs, i, none⟩) hgs).trans (HBS.out i hlt)
      have HK := hide (show Tr.boundAt (a : Int) (b.take (i + 1)) 0 = Tr.boundAt (a : Int) (b.take i) 0 ++ (if b[i] = (a : Int) then [i] else []) by
        rw [List.take_succ_eq_append_getElem hlt, Tr.boundAt_snoc, List.length_take, Nat.min_eq_left hi, Nat.zero_add])
      have HY : Hid (keyOf Tryd.prog 3 (.int .i64 (i : Int)) = some (.int .i64 (i : Int))) := hide (Maps.keyOf_int_mk Tryd.underlying3 (wfI i (by omega)))
      cases hq : (b[i] == (a : Int))
      · have HK2 : Hid (Tr.boundAt (a : Int) (b.take (i + 1)) 0 = Tr.boundAt (a : Int) (b.take i) 0) := hide (by rw [HK.out, if_neg (by simpa using hq), List.append_nil])
        generalize b[i] = bi at *
        clear HK
        go_wp2
        go_roundw
        case rel => exact ⟨i + 1, by omega, by go_num, hB, hz, by rw [HK2.out]; exact HO.out.mono (by omega)⟩
        case measure => simp [intOf]; omega
      · have HK2 : Hid (Maps.setOf (H := Unit) (.agg []) (Tr.keysI (a :: Tr.boundAt (a : Int) (b.take (i + 1)) 0)) = (Maps.setOf (.agg []) (Tr.keysI (a :: Tr.boundAt (a : Int) (b.take i) 0))).put (.int .i64 (i : Int)) (.agg [])) := hide (by
          rw [HK.out, if_pos (by simpa using hq), ← Maps.setOf_snoc]; congr 1; simp [Tr.keysI])
        generalize b[i] = bi at *
        clear HK
        go_wp2_with (at_mapUpdate; refine wpList_mapUpdate_own _ rfl _ _ _ 68 rfl 3 66 lawI Tryd.underlying68 _ w.heap.size (i + 1) _ rfl HO.out (by unfold maxLen; omega) _ _ _ rfl rfl HY.out _ [] unitElem_mk ?_)
        intro w1 hown1 hgrow1
        have hB1 : Below w.heap.size w w1 := hB.grown hgrow1 (by omega) (fun k e => by cases e; exact Nat.le_refl _)
        have hz1 : w.heap.size < w1.heap.size := by have := hgrow1.size; omega
        rw [← HK2.out] at hown1
        go_wp2
        go_roundw
        case rel => exact ⟨i + 1, by omega, by go_num, hB1, hz1, hown1⟩
        case measure => simp [intOf]; omega
    · go_wp2
      go_ret
      obtain rfl : i = b.length := by omega
      have := HO.out
      rw [List.take_length] at this
      exact ⟨rfl, this, hB⟩
end Go.Proofs.YtmklgiononbmmaaDoor
namespace Go.Proofs.YtmklgiononbmmaaDoor
open Go.RowKit

set_option maxHeartbeats 400000 in
theorem isNew1_any (d : Tr.Nd) (cb : Nat) (nm : ByteArray) (w : World) (hcb : w.cell? ⟨cb, 0, none⟩ = some (.string nm)) :
    Calls Tryd.prog 69 #[.agg #[.int .i64 d.kind, .int .i64 d.op, .int .i64 d.n, .string d.text, .int .i64 d.kids], .pointer (some ⟨cb, 0, none⟩)] w fun e w' => e = .returned (.bool (d.text.toList == nm.toList)) ∧ Below w.heap.size w w' := by
  have hcl := World.block_lt_of_cell? w ⟨cb, 0, none⟩ hcb
  have hB : Below w.heap.size w (w.alloc (.cells #[.int .i64 d.kind, .int .i64 d.op, .int .i64 d.n, .string d.text, .int .i64 d.kids] 61)) := (Below.refl _ _).alloc (Nat.le_refl _) _
  have hc := (hB.cell (p := ⟨cb, 0, none⟩) hcl).trans hcb
  clear hcb
  go_enter Tryd.func69, Tryd.ntmps69
  go_wp2
  go_ret
  exact ⟨rfl, hB⟩

set_option maxRecDepth 100000 in
set_option maxHeartbeats 400000 in
theorem indexFunc_any (ns : List Tr.Nd) (tg tc cb : Nat) (nm : ByteArray) (w : World) (hn : ns.length ≤ 1048576) (ht : NodesAt w tg ns) (hcb : w.cell? ⟨cb, 0, none⟩ = some (.string nm)) :
    Calls Tryd.prog 90 #[.slice (some ⟨tg, 0, none⟩) ns.length tc, .func (.func 69) #[] #[.pointer (some ⟨cb, 0, none⟩)]] w fun e w' => ∃ k : Int, e = .returned (.int .i64 k) ∧ (decide (0 ≤ k) = ns.any (fun d => decide (d.text = nm))) ∧ Below w.heap.size w w' := by
  have HT := hide ht
  have hcl := World.block_lt_of_cell? w ⟨cb, 0, none⟩ hcb
  have HCB := hide hcb
  clear ht hcb
  go_enter Tryd.func90, Tryd.ntmps90
  go_wp2
  go_loopw [8] (fun t wr => ∃ i : Nat, i ≤ ns.length ∧ t = .int .i64 i ∧ Below w.heap.size w wr ∧ (ns.take i).any (fun d => decide (d.text = nm)) = false) (fun t _ => ns.length - (intOf t).toNat)
  case atStart => exact ⟨0, Nat.zero_le _, rfl, Below.refl _ _, rfl⟩
  case round =>
    obtain ⟨i, hi, rfl, hB, hno⟩ := hrel
    have HNO := hide hno
    clear hno
    by_cases hlt : i < ns.length
    · obtain ⟨n0, n1, n2, n3, n4⟩ := (HT.out.below hB).2 i hlt
      have HI1 := hide (isNew1_any ns[i] cb nm wr ((hB.cell (p := ⟨cb, 0, none⟩) hcl).trans HCB.out))
      have hba := ba_eq ns[i].text nm
      have HST := hide (show (ns.take (i + 1)).any (fun d => decide (d.text = nm)) = ((ns.take i).any (fun d => decide (d.text = nm)) || decide (ns[i].text = nm)) by rw [List.take_succ_eq_append_getElem hlt, List.any_append]; simp)
      have HANY := hide (fun h : ns[i].text = nm => show ns.any (fun d => decide (d.text = nm)) = true from List.any_eq_true.2 ⟨_, List.getElem_mem hlt, decide_eq_true h⟩)
      generalize ns[i] = d at *
      cases hq : (d.text.toList == nm.toList)
      · have hne : d.text ≠ nm := fun e => by rw [hba.2 e] at hq; cases hq
        rw [hq] at HI1
        have HST2 : Hid ((ns.take (i + 1)).any (fun d => decide (d.text = nm)) = false) := hide (by rw [HST.out, HNO.out, decide_eq_false hne]; rfl)
        clear HANY HST hba
        go_wp2_with fail
        refine HI1.out.mono ?_
        rintro e w2 ⟨rfl, hb2⟩
        have hB2 := hB.trans (hb2.mono hB.size)
        clear hb2
        go_wp2
        go_roundw
        case rel => exact ⟨i + 1, by omega, by go_num, hB2, HST2.out⟩
        case measure => simp [intOf]; omega
      · have HA := hide (HANY.out (hba.1 hq))
        rw [hq] at HI1
        clear HANY HST hba
        go_wp2_with fail
        refine HI1.out.mono ?_
        rintro e w2 ⟨rfl, hb2⟩
        have hB2 := hB.trans (hb2.mono hB.size)
        clear hb2
        go_wp2
        go_ret
        exact ⟨_, rfl, by rw [HA.out]; exact decide_eq_true (by omega), hB2⟩
    · go_wp2
      go_ret
      have := HNO.out
      rw [List.take_of_length_le (by omega)] at this
      exact ⟨_, rfl, by rw [this]; decide, hB⟩
set_option maxHeartbeats 400000 in
theorem containsFunc_any (ns : List Tr.Nd) (tg tc cb : Nat) (nm : ByteArray) (w : World) (hn : ns.length ≤ 1048576) (ht : NodesAt w tg ns) (hcb : w.cell? ⟨cb, 0, none⟩ = some (.string nm)) :
    Calls Tryd.prog 68 #[.slice (some ⟨tg, 0, none⟩) ns.length tc, .func (.func 69) #[] #[.pointer (some ⟨cb, 0, none⟩)]] w fun e w' => e = .returned (.bool (ns.any (fun d => decide (d.text = nm)))) ∧ Below w.heap.size w w' := by
  have HI := hide (indexFunc_any ns tg tc cb nm w hn ht hcb)
  clear ht hcb
  go_enter Tryd.func68, Tryd.ntmps68
  go_wp2_with fail
  refine HI.out.mono ?_
  rintro e w1 ⟨k, rfl, hk, hb⟩
  have HK := hide hk
  clear hk
  go_wp2
  all_goals
    go_ret
    refine ⟨ret_bool ?_, hb⟩
    rw [← HK.out]
    try simp
    try omega

theorem Tr.cget_built (x : ByteArray) : (Tr.cget x [Tr.builtSp]).isSome = decide (x.data.toList ∈ Tr.builts) := by
  rw [Tr.cget_cons, Tr.builtSp_get]
  by_cases h : x.data.toList ∈ Tr.builts
  · simp [h]
  · simp [h, Tr.cget]

set_option maxRecDepth 100000 in
set_option maxHeartbeats 1000000 in
theorem isNew_any (ns : List Tr.Nd) (tg tc : Nat) (nm : ByteArray) (w : World) (hn : ns.length ≤ 1048576) (hnm : nm.size ≤ 1048576) (hG : GlobB w) (ht : NodesAt w tg ns) :
    Calls Tryd.prog 39 #[.string nm, .slice (some ⟨tg, 0, none⟩) ns.length tc] w fun e w' => e = .returned (.bool (Tr.newOk ns nm)) ∧ Below w.heap.size w w' := by
  have r1 : Below w.heap.size w (w.alloc (.cells #[.string nm] 9)) := (Below.refl _ _).alloc (Nat.le_refl _) _
  have hx1 : (w.alloc (.cells #[.string nm] 9)).cell? ⟨w.heap.size, 0, none⟩ = some (.string nm) := by simp
  have HBS : Hid (∀ (W : World) (z : Nat), Below w.heap.size w W → W.heap.size = z → Calls Tryd.prog 60 #[] W fun e w' => e = .returned (.pointer (some ⟨z + 1, 0, none⟩)) ∧ Below z W w' ∧ Chain 0 0 w' w'.heap.size (some ⟨z + 1, 0, none⟩) [Tr.builtSp]) := hide (by
    rintro W z hb rfl
    exact builtScope_any 0 0 W (hG.below hb) (by have := hG.1; have := hb.size; omega) (by have := hG.1; have := hb.size; omega))
  have HSZ : Hid ((w.alloc (.cells #[.string nm] 9)).drew.heap.size = w.heap.size + 1) := hide (by show (w.alloc _).heap.size = _; simp)
  have HNK := hide (show Tr.newOk ns nm = (Tr.nameOk nm && !decide (nm.data.toList ∈ Tr.builts) && !ns.any (fun d => decide (d.text = nm))) from rfl)
  have HT := hide ht
  have HCG := hide (Tr.cget_built nm)
  clear ht hG
  go_enter Tryd.func39, Tryd.ntmps39
  go_upto_region 1 with fail
  go_cut [6] from 7 to 12 (fun v6 wx => v6 = .bool (decide (nm.data.toList ∈ Tr.builts)) ∧ Below (w.heap.size + 1) (w.alloc (.cells #[.string nm] 9)) wx)
  case first =>
    go_region_with (first
      | (go_at_call 60; refine (HBS.out _ (w.heap.size + 1) r1.drew HSZ.out).mono ?_; rintro e w2 ⟨rfl, hb2, hch2⟩; have hx2 : w2.cell? ⟨w.heap.size, 0, none⟩ = some (.string nm) := (hb2.cell (p := ⟨w.heap.size, 0, none⟩) (show w.heap.size < w.heap.size + 1 by omega)).trans hx1)
      | (go_at_call 66; refine (find_any 0 0 w2.heap.size nm hnm [Tr.builtSp] (some ⟨w.heap.size + 1 + 1, 0, none⟩) w2 hch2).mono ?_; rintro e w3 ⟨rfl, hw3⟩; rw [HCG.out]))
    all_goals
      go_wp2_with fail
      go_meet
      case rel => exact ⟨rfl, undrew hb2⟩
  case rest =>
    obtain ⟨rfl, hbc⟩ := hcut
    have hBc : Below w.heap.size w wc := r1.trans (hbc.mono (by omega))
    have hxc := (hbc.cell (p := ⟨w.heap.size, 0, none⟩) (show w.heap.size < w.heap.size + 1 by omega)).trans hx1
    have hzc : w.heap.size < wc.heap.size := by have := hbc.size; simp at this; omega
    have HCF := hide (fun W (hb : Below w.heap.size w W) (h : W.cell? ⟨w.heap.size, 0, none⟩ = some (.string nm)) => containsFunc_any ns tg tc w.heap.size nm W hn (HT.out.below hb) h)
    clear hbc hx1 HBS HCG
    cases hbt : decide (nm.data.toList ∈ Tr.builts)
    · rw [hbt] at HNK
      go_upto_region 2 with fail
      go_cut [19] from 13 to 19 (fun v19 wx => v19 = .bool (!Tr.nameOk nm) ∧ Below wc.heap.size wc wx)
      case first =>
        have HWS : Hid (∀ (W : World) (z : Nat), W.heap.size = z → Calls Tryd.prog 53 #[] W fun e w' => e = .returned (.map (some z)) ∧ w'.ownsMap (H := Unit) Tryd.prog 9 unitElem z 17 Sc.wordMap ∧ Below z W w') := hide (by
          rintro W z rfl
          exact wordSet_any W)
        go_region_with (first
          | (go_at_call 53; refine (HWS.out wc.drew wc.heap.size rfl).mono ?_; rintro e w2 ⟨rfl, hm2, hb2⟩; have hx2 : w2.cell? ⟨w.heap.size, 0, none⟩ = some (.string nm) := (hb2.cell (p := ⟨w.heap.size, 0, none⟩) hzc).trans hxc)
          | (go_at_call 67; refine (isName_any nm wc.heap.size w2 hnm hm2).mono ?_; rintro e w3 ⟨rfl, hb3⟩))
        all_goals
          go_wp2_with fail
          go_meet
          case rel => exact ⟨rfl, (undrew hb2).trans (hb3.mono hb2.size)⟩
      case rest =>
        obtain ⟨rfl, hbd⟩ := hcut
        have hBd : Below w.heap.size w wc := hBc.trans (hbd.mono hBc.size)
        have hxd := (hbd.cell (p := ⟨w.heap.size, 0, none⟩) hzc).trans hxc
        clear hbd
        cases hnk : Tr.nameOk nm
        · rw [hnk] at HNK
          go_wp2
          go_ret
          exact ⟨ret_bool (by rw [HNK.out]; rfl), hBd⟩
        · rw [hnk] at HNK
          go_wp2_with fail
          refine (HCF.out _ hBd hxd).mono ?_
          rintro e w4 ⟨rfl, hb4⟩
          have hB4 := hBd.trans (hb4.mono hBd.size)
          clear hb4
          go_wp2
          go_ret
          exact ⟨ret_bool (by rw [HNK.out]; simp), hB4⟩
    · rw [hbt] at HNK
      go_wp2
      go_quiet (fail)
      go_wp2
      go_ret
      exact ⟨ret_bool (by rw [HNK.out]; simp), below_drewN hBc _⟩
end Go.Proofs.YtmklgiononbmmaaDoor
namespace Go.Proofs.YtmklgiononbmmaaDoor
open Go.RowKit

def Tr.renBy (f : Nat → Bool) (nm : ByteArray) : List Tr.Nd → Nat → List Tr.Nd
  | [], _ => []
  | d :: r, i => (if f i = true then { d with text := nm } else d) :: Tr.renBy f nm r (i + 1)
theorem Tr.renBy_len (f : Nat → Bool) (nm : ByteArray) (l : List Tr.Nd) (i : Nat) : (Tr.renBy f nm l i).length = l.length := by
  induction l generalizing i with
  | nil => rfl
  | cons d r ih => rw [Tr.renBy, List.length_cons, List.length_cons, ih]
theorem Tr.renBy_none (f : Nat → Bool) (nm : ByteArray) (l : List Tr.Nd) (i : Nat) (h : ∀ j, i ≤ j → j < i + l.length → f j = false) : Tr.renBy f nm l i = l := by
  induction l generalizing i with
  | nil => rfl
  | cons d r ih =>
    rw [Tr.renBy, h i (Nat.le_refl _) (by simp), ih (i + 1) (fun j h1 h2 => h j (by omega) (by simp; omega))]; rfl
theorem Tr.renBy_congr (f g : Nat → Bool) (nm : ByteArray) (l : List Tr.Nd) (i : Nat) (h : ∀ j, i ≤ j → j < i + l.length → f j = g j) : Tr.renBy f nm l i = Tr.renBy g nm l i := by
  induction l generalizing i with
  | nil => rfl
  | cons d r ih =>
    rw [Tr.renBy, Tr.renBy, h i (Nat.le_refl _) (by simp), ih (i + 1) (fun j h1 h2 => h j (by omega) (by simp; omega))]
theorem Tr.renBy_set (f : Nat → Bool) (nm : ByteArray) (l : List Tr.Nd) (i k : Nat) (hk : k < l.length) : (Tr.cellsOf (Tr.renBy f nm l i)).set (k * 5 + 3) (.string nm) = Tr.cellsOf (Tr.renBy (fun j => f j || decide (j = i + k)) nm l i) := by
  induction l generalizing i k with
  | nil => simp at hk
  | cons d r ih =>
    rw [Tr.renBy, Tr.renBy]
    have hc : ∀ (x : Tr.Nd) (t : List Tr.Nd), Tr.cellsOf (x :: t) = x.cells ++ Tr.cellsOf t := fun _ _ => rfl
    rw [hc, hc]
    cases k with
    | zero =>
      have e1 : Tr.renBy (fun j => f j || decide (j = i + 0)) nm r (i + 1) = Tr.renBy f nm r (i + 1) := Tr.renBy_congr _ _ _ _ _ (fun j h1 h2 => by rw [decide_eq_false (by omega), Bool.or_false])
      rw [e1, Nat.zero_mul, Nat.zero_add]
      simp only [Nat.add_zero, decide_true, Bool.or_true, if_true]
      cases f i <;> rfl
    | succ k =>
      have e2 : Tr.renBy (fun j => f j || decide (j = i + (k + 1))) nm r (i + 1) = Tr.renBy (fun j => f j || decide (j = i + 1 + k)) nm r (i + 1) := Tr.renBy_congr _ _ _ _ _ (fun j _ _ => by rw [show i + (k + 1) = i + 1 + k from by omega])
      have hl : (if f i = true then { d with text := nm } else d : Tr.Nd).cells.length = 5 := rfl
      rw [List.set_append_right (h := by omega), hl, show (k + 1) * 5 + 3 - 5 = k * 5 + 3 from by omega, ih (i + 1) k (by simpa using hk), e2]
      rw [show (f i || decide (i = i + (k + 1))) = f i from by rw [decide_eq_false (by omega), Bool.or_false]]
theorem Tr.renBy_go (a : Nat) (b : List Int) (nm : ByteArray) (ns : List Tr.Nd) (hb : b.length = ns.length) : Tr.renBy (fun j => decide (j ∈ a :: Tr.boundAt (a : Int) b 0)) nm ns 0 = Tr.renGo a b nm ns 0 := by
  have : ∀ (l : List Tr.Nd) (i : Nat), i + l.length = ns.length → Tr.renBy (fun j => decide (j ∈ a :: Tr.boundAt (a : Int) b 0)) nm l i = Tr.renGo a b nm l i := by
    intro l
    induction l with
    | nil => intro i _; rfl
    | cons d r ih =>
      intro i hi
      rw [List.length_cons] at hi
      rw [Tr.renBy, Tr.renGo, ih (i + 1) (by omega)]
      congr 1
      unfold Tr.renIf
      have : (decide (i ∈ a :: Tr.boundAt (a : Int) b 0) = true) ↔ (i = a ∨ b[i]?.getD 0 = (a : Int)) := by
        rw [decide_eq_true_iff, List.mem_cons, Tr.mem_boundAt]
        constructor
        · rintro (h | ⟨_, _, h, _⟩)
          · exact .inl h
          · exact .inr (by simpa using h)
        · rintro (h | h)
          · exact .inl h
          · exact .inr ⟨Nat.zero_le _, by omega, by simpa using h, by omega⟩
      by_cases h : i = a ∨ b[i]?.getD 0 = (a : Int)
      · rw [if_pos h, if_pos (this.2 h)]
      · rw [if_neg h, if_neg (fun q => h (this.1 q))]
  exact this ns 0 (by omega)
theorem Tr.has_keysI (L : List Nat) (x : Int) : Maps.has (Maps.setOf (H := Unit) (.agg []) (Tr.keysI L)) (.int .i64 x) = true ↔ ∃ k ∈ L, (k : Int) = x := by
  rw [Maps.has_setOf _ _ _ (Tr.keysI_ok L), List.any_eq_true]
  simp only [List.mem_map, Tr.keysI]
  constructor
  · rintro ⟨_, ⟨k, hk, rfl⟩, hs⟩
    refine ⟨k, hk, ?_⟩
    by_cases e : (k : Int) = x
    · exact e
    · rw [Maps.sameKey_ne (fun h => e (by injection h))] at hs; cases hs
  · rintro ⟨k, hk, rfl⟩
    exact ⟨_, ⟨k, hk, rfl⟩, WideAt.sameKey_self trivial⟩
end Go.Proofs.YtmklgiononbmmaaDoor
namespace Go.Proofs.YtmklgiononbmmaaDoor
open Go.RowKit

theorem Tr.mem_localsGo (ns : List Tr.Nd) (i k : Nat) : k ∈ Tr.localsGo ns i ↔ i ≤ k ∧ k < i + ns.length ∧ Tr.isLocal (Tr.kindOf ns (k - i)) = true := by
  induction ns generalizing i with
  | nil => simp [Tr.localsGo]; omega
  | cons d r ih =>
    rw [Tr.localsGo, List.mem_append, ih, List.length_cons]
    constructor
    · rintro (h | ⟨h1, h2, h3⟩)
      · split at h
        · rename_i e
          have : k = i := by simpa using h
          subst this
          exact ⟨Nat.le_refl _, by omega, by rw [Nat.sub_self]; exact e⟩
        · cases h
      · refine ⟨by omega, by omega, ?_⟩
        rw [show k - i = (k - (i + 1)) + 1 from by omega]
        exact h3
    · rintro ⟨h1, h2, h3⟩
      by_cases e : k = i
      · subst e
        left
        rw [Nat.sub_self] at h3
        rw [if_pos (show Tr.isLocal d.kind = true from h3)]; simp
      · right
        rw [show k - i = (k - (i + 1)) + 1 from by omega] at h3
        exact ⟨by omega, by omega, h3⟩
theorem Tr.place_has (ns : List Tr.Nd) (at_ : Int) : Maps.has (Maps.setOf (H := Unit) (.agg []) (Tr.keysI (Tr.localsGo ns 0))) (.int .i64 at_) = Tr.placeOk ns at_ := by
  rw [Bool.eq_iff_iff, Tr.has_keysI]
  unfold Tr.placeOk
  simp only [Bool.and_eq_true, decide_eq_true_eq]
  constructor
  · rintro ⟨k, hk, rfl⟩
    rw [Tr.mem_localsGo] at hk
    exact ⟨⟨by omega, by omega⟩, by rw [Int.toNat_natCast]; simpa using hk.2.2⟩
  · rintro ⟨⟨h1, h2⟩, h3⟩
    exact ⟨at_.toNat, (Tr.mem_localsGo _ _ _).2 ⟨Nat.zero_le _, by omega, by simpa using h3⟩, by omega⟩

set_option maxRecDepth 100000 in
set_option maxHeartbeats 1000000 in
theorem irename_any (ns : List Tr.Nd) (tg tc : Nat) (at_ : Int) (nm : ByteArray) (w : World) (hn : ns.length ≤ 1048576) (hx : ∀ x ∈ ns, x.text.size ≤ 1048576) (hnm : nm.size ≤ 1048576) (hwf : (Lit.int .i64 at_).wf = true) (hG : GlobB w) (ht : NodesAt w tg ns) :
    Calls Tryd.prog 20 #[.agg #[.slice (some ⟨tg, 0, none⟩) ns.length tc], .int .i64 at_, .string nm] w fun e w' => ∃ v, e = .returned (.tuple #[.agg #[v], .int .i64 (Tr.renameOf ns at_ nm).2]) ∧ RowN w' w.heap.size v (Tr.renameOf ns at_ nm).1 ∧ Below w.heap.size w w' := by
  have r2 : Below w.heap.size w ((w.alloc (.cells #[.slice (some ⟨tg, 0, none⟩) ns.length tc] 31)).alloc (.cells #[.slice none 0 0] 31)) := ((Below.refl _ _).alloc (Nat.le_refl _) _).alloc (by simp) _
  obtain ⟨x0, x1, x2⟩ := two_box w (.slice (some ⟨tg, 0, none⟩) ns.length tc)
  have HCK := hide (icheck_any ns tg tc _ hn hx (hG.below r2) (ht.below r2))
  have HT := hide ht
  have HG := hide hG
  have HX := hide hx
  have HFC := hide (Tr.fits_codes (ns := ns))
  have HX0 := hide x0
  have HX1 := hide x1
  have HX2 := hide x2
  clear ht hG hx x0 x1 x2
  go_enter Tryd.func20, Tryd.ntmps20
  go_wp2_with fail
  refine HCK.out.mono ?_
  rintro e w1 ⟨rfl, hb1⟩
  rw [World.size_alloc, World.size_alloc] at hb1
  have hB1 := r2.trans (hb1.mono (by omega))
  have hz1 : w.heap.size + 1 + 1 ≤ w1.heap.size := by have := hb1.size; simpa using this
  have y0 := (hb1.cell (p := ⟨w.heap.size, 0, none⟩) (show w.heap.size < w.heap.size + 1 + 1 by omega)).trans HX0.out
  have y1 := (hb1.cell (p := ⟨w.heap.size + 1, 0, none⟩) (show w.heap.size + 1 < w.heap.size + 1 + 1 by omega)).trans HX1.out
  have y2 := (hb1.frozen (p := ⟨w.heap.size + 1, 0, none⟩) (show w.heap.size + 1 < w.heap.size + 1 + 1 by omega)).trans HX2.out
  clear hb1 HCK HX0 HX1 HX2
  cases hf : Tr.fitsOf ns
  · have HR1 : Hid (Tr.renameOf ns at_ nm = ([], 1)) := hide (by unfold Tr.renameOf; rw [hf]; rfl)
    have hco : ¬ ((Tr.checkOf ns).1 = 0 ∧ (Tr.checkOf ns).2 = 0) := fun h => by
      have := HFC.out.2 (Prod.ext h.1 h.2)
      rw [hf] at this; cases this
    clear HFC hf
    by_cases h0 : (Tr.checkOf ns).1 = 0
    · have h1 : ¬ ((Tr.checkOf ns).2 : Int) = 0 := fun h => hco ⟨h0, by omega⟩
      clear hco
      rw [h0]
      go_wp2
      all_goals
        refine bodyPost_ret (v := .tuple #[.agg #[.slice none 0 0], .int .i64 1]) (by simp [results, Tryd.results20, go_sem, y1]) rfl ⟨_, by rw [HR1.out], by rw [HR1.out]; exact .inl ⟨rfl, rfl⟩, ?_⟩
        exact hB1.setCell (p := ⟨w.heap.size + 1, 0, none⟩) (by simp) _
    · clear hco
      go_wp2
      all_goals
        refine bodyPost_ret (v := .tuple #[.agg #[.slice none 0 0], .int .i64 1]) (by simp [results, Tryd.results20, go_sem, y1]) rfl ⟨_, by rw [HR1.out], by rw [HR1.out]; exact .inl ⟨rfl, rfl⟩, ?_⟩
        exact hB1.setCell (p := ⟨w.heap.size + 1, 0, none⟩) (by simp) _
  · have hco := HFC.out.1 hf
    have h0 : (Tr.checkOf ns).1 = 0 := by rw [hco]
    have h1 : (Tr.checkOf ns).2 = 0 := by rw [hco]
    have hn1 := (Tr.valid_facts (Tr.fits_valid hf)).1
    have hn5 := (Tr.valid_facts (Tr.fits_valid hf)).2.1
    have HRN := hide (show Tr.renameOf ns at_ nm = (if Tr.placeOk ns at_ = false then ([], 2) else if Tr.newOk ns nm = false then ([], 3) else (Tr.renGo at_.toNat (Tr.bindsOf ns) nm ns 0, 0)) by unfold Tr.renameOf; rw [hf]; rfl)
    have HPH := hide (Tr.place_has ns at_)
    have HBL := hide (Tr.bindsOf_len hf)
    clear HFC hco
    rw [h0, h1]
    have HLP := hide (localPlaces_any ns tg tc w1 hn5 (HT.out.below hB1))
    have HYA : Hid (keyOf Tryd.prog 3 (.int .i64 at_) = some (.int .i64 at_)) := hide (Maps.keyOf_int_mk Tryd.underlying3 hwf)
    go_wp2_with fail
    refine HLP.out.mono ?_
    rintro e w2 ⟨rfl, hown, hb2⟩
    have hB2 := hB1.trans (hb2.mono hB1.size)
    have hz2 : w.heap.size + 1 + 1 ≤ w2.heap.size := Nat.le_trans hz1 hb2.size
    have z0 := (hb2.cell (p := ⟨w.heap.size, 0, none⟩) (show w.heap.size < w1.heap.size by omega)).trans y0
    have z1 := (hb2.cell (p := ⟨w.heap.size + 1, 0, none⟩) (show w.heap.size + 1 < w1.heap.size by omega)).trans y1
    have z2 := (hb2.frozen (p := ⟨w.heap.size + 1, 0, none⟩) (show w.heap.size + 1 < w1.heap.size by omega)).trans y2
    have HOW := hide hown
    clear hb2 y0 y1 y2 hown HLP
    have q2 : Below w2.heap.size w2 (w2.alloc (.cells #[] 66)) := (Below.refl _ _).alloc (Nat.le_refl _) _
    have a0 := (q2.cell (p := ⟨w.heap.size, 0, none⟩) (show w.heap.size < w2.heap.size by omega)).trans z0
    have a1 := (q2.cell (p := ⟨w.heap.size + 1, 0, none⟩) (show w.heap.size + 1 < w2.heap.size by omega)).trans z1
    have a2 := (q2.frozen (p := ⟨w.heap.size + 1, 0, none⟩) (show w.heap.size + 1 < w2.heap.size by omega)).trans z2
    have hB2' := hB2.trans (q2.mono hB2.size)
    cases hpl : Tr.placeOk ns at_
    · have HR1 : Hid (Tr.renameOf ns at_ nm = ([], 2)) := hide (by rw [HRN.out, hpl]; rfl)
      rw [hpl] at HPH
      have hph := HPH.out
      go_wp2_with (at_lookup; refine wpList_lookup_own_unit _ rfl _ _ 68 rfl 3 66 lawI Tryd.underlying68 (zeroUI _) w1.heap.size _ _ rfl HOW.out _ _ rfl HYA.out ?_)
      try rw [hph]
      go_wp2
      refine bodyPost_ret (v := .tuple #[.agg #[.slice none 0 0], .int .i64 2]) (by simp [results, Tryd.results20, go_sem, a1]) rfl ⟨_, by rw [HR1.out], by rw [HR1.out]; exact .inl ⟨rfl, rfl⟩, ?_⟩
      exact hB2'.setCell (p := ⟨w.heap.size + 1, 0, none⟩) (by simp) _
    · rw [hpl] at HPH HRN
      have hph := HPH.out
      obtain ⟨a, ha⟩ : ∃ a : Nat, at_ = a := by
        unfold Tr.placeOk at hpl
        simp only [Bool.and_eq_true, decide_eq_true_eq] at hpl
        exact ⟨at_.toNat, by omega⟩
      have han : a < ns.length := by
        unfold Tr.placeOk at hpl
        simp only [Bool.and_eq_true, decide_eq_true_eq] at hpl
        omega
      subst ha
      rw [Int.toNat_natCast] at HRN
      have HIN := hide (isNew_any ns tg tc nm _ hn hnm (HG.out.below hB2') (HT.out.below hB2'))
      go_wp2_with (at_lookup; refine wpList_lookup_own_unit _ rfl _ _ 68 rfl 3 66 lawI Tryd.underlying68 (zeroUI _) w1.heap.size _ _ rfl HOW.out _ _ rfl HYA.out ?_)
      try rw [hph]
      clear HOW HPH hph z0 z1 z2 HYA
      cases hnk : Tr.newOk ns nm
      · have HR1 : Hid (Tr.renameOf ns (a : Int) nm = ([], 3)) := hide (by rw [HRN.out, hnk]; rfl)
        rw [hnk] at HIN
        go_wp2_with fail
        refine HIN.out.mono ?_
        rintro e w3 ⟨rfl, hb3⟩
        rw [World.size_alloc] at hb3
        have hB3 := hB2'.trans (hb3.mono (by omega))
        have c1 := (hb3.cell (p := ⟨w.heap.size + 1, 0, none⟩) (show w.heap.size + 1 < w2.heap.size + 1 by omega)).trans a1
        have c2 := (hb3.frozen (p := ⟨w.heap.size + 1, 0, none⟩) (show w.heap.size + 1 < w2.heap.size + 1 by omega)).trans a2
        clear hb3
        go_wp2
        refine bodyPost_ret (v := .tuple #[.agg #[.slice none 0 0], .int .i64 3]) (by simp [results, Tryd.results20, go_sem, c1]) rfl ⟨_, by rw [HR1.out], by rw [HR1.out]; exact .inl ⟨rfl, rfl⟩, ?_⟩
        exact hB3.setCell (p := ⟨w.heap.size + 1, 0, none⟩) (by simp) _
      · have HR1 : Hid (Tr.renameOf ns (a : Int) nm = (Tr.renGo a (Tr.bindsOf ns) nm ns 0, 0)) := hide (by rw [HRN.out, hnk]; rfl)
        rw [hnk] at HIN
        go_wp2_with fail
        refine HIN.out.mono ?_
        rintro e w3 ⟨rfl, hb3⟩
        rw [World.size_alloc] at hb3
        have hB3 := hB2'.trans (hb3.mono (by omega))
        have hz3 : w.heap.size + 1 + 1 ≤ w3.heap.size := by have := hb3.size; rw [World.size_alloc] at this; omega
        have c0 := (hb3.cell (p := ⟨w.heap.size, 0, none⟩) (show w.heap.size < w2.heap.size + 1 by omega)).trans a0
        have c1 := (hb3.cell (p := ⟨w.heap.size + 1, 0, none⟩) (show w.heap.size + 1 < w2.heap.size + 1 by omega)).trans a1
        have c2 := (hb3.frozen (p := ⟨w.heap.size + 1, 0, none⟩) (show w.heap.size + 1 < w2.heap.size + 1 by omega)).trans a2
        clear hb3 a0 a1 a2 q2 HIN HRN
        go_wp2_with fail
        refine (clone_any ns tg tc w3 hn1 hn (HT.out.below hB3)).mono ?_
        rintro e w4 ⟨g4, c4, rfl, hg4, ho4, hb4⟩
        have hB4 := hB3.trans (hb4.mono hB3.size)
        have hz4 := hb4.size
        have d0 := (hb4.cell (p := ⟨w.heap.size, 0, none⟩) (show w.heap.size < w3.heap.size by omega)).trans c0
        have d1 := (hb4.cell (p := ⟨w.heap.size + 1, 0, none⟩) (show w.heap.size + 1 < w3.heap.size by omega)).trans c1
        have d2 := (hb4.frozen (p := ⟨w.heap.size + 1, 0, none⟩) (show w.heap.size + 1 < w3.heap.size by omega)).trans c2
        have HO4 := hide ho4
        have hg44 := (ho4.lt g4 rfl).2
        clear hb4 c0 c1 c2 ho4
        have HIB := hide (ibinds_any ns tg tc w4 hn HX.out (HG.out.below hB4) (HT.out.below hB4))
        go_wp2_with fail
        refine HIB.out.mono ?_
        rintro e w5 ⟨hb5, hcase⟩
        rcases hcase with ⟨hff, -⟩ | ⟨-, -, g5, rfl, hg5, ho5⟩
        · rw [hf] at hff; cases hff
        have hB5 := hB4.trans (hb5.mono hB4.size)
        have hz5 := hb5.size
        have e0 := (hb5.cell (p := ⟨w.heap.size + 1, 0, none⟩) (show w.heap.size + 1 < w4.heap.size by omega)).trans d1
        have e2 := (hb5.frozen (p := ⟨w.heap.size + 1, 0, none⟩) (show w.heap.size + 1 < w4.heap.size by omega)).trans d2
        have HO5 : Hid (w5.ownsRow 0 61 5 (.slice (some ⟨g4, 0, none⟩) ns.length c4) ns.length (Tr.cellsOf ns)) := hide (row_same HO4.out (hb5.block g4 hg44))
        have hg55 := (ho5.lt g5 rfl).2
        have HPN := hide (placesNaming_any a (Tr.bindsOf ns) g5 (Tr.bindsOf ns).length w5 (by rw [HBL.out]; omega) (by omega) hg55 (fun j hj => by rw [ho5.cellAt j (by omega)]; simp [hj, vi]))
        have HRB := hide (Tr.renBy_go a (Tr.bindsOf ns) nm ns HBL.out)
        clear hb5 d0 d1 d2 ho5 HO4 HIB
        go_wp2_with fail
        refine HPN.out.mono ?_
        rintro e w6 ⟨rfl, hown6, hb6⟩
        have hB6 := hB5.trans (hb6.mono hB5.size)
        have hz6 := hb6.size
        have f1 := (hb6.cell (p := ⟨w.heap.size + 1, 0, none⟩) (show w.heap.size + 1 < w5.heap.size by omega)).trans e0
        have f2 := (hb6.frozen (p := ⟨w.heap.size + 1, 0, none⟩) (show w.heap.size + 1 < w5.heap.size by omega)).trans e2
        have HO6 : Hid (w6.ownsRow 0 61 5 (.slice (some ⟨g4, 0, none⟩) ns.length c4) ns.length (Tr.cellsOf ns)) := hide (row_same HO5.out (hb6.block g4 (by omega)))
        have HOW := hide hown6
        have HHK := hide (fun x => Tr.has_keysI (a :: Tr.boundAt (a : Int) (Tr.bindsOf ns) 0) x)
        have HLT : Hid (∀ k ∈ a :: Tr.boundAt (a : Int) (Tr.bindsOf ns) 0, k < ns.length) := hide (by
          intro k hk
          rcases List.mem_cons.1 hk with rfl | hk
          · exact han
          · have := (Tr.mem_boundAt _ _ _ _).1 hk; have := HBL.out; omega)
        clear hb6 e0 e2 hown6 HO5 HPN
        generalize a :: Tr.boundAt (a : Int) (Tr.bindsOf ns) 0 = L at *
        generalize hbb : Tr.bindsOf ns = b at *
        generalize hDD : Maps.setOf (H := Unit) (.agg []) (Tr.keysI L) = D at *
        clear hDD
        go_wp2_with (at_range; refine wpList_range_own _ rfl _ 68 rfl 3 66 lawI Tryd.underlying68 _ w5.heap.size _ D rfl HOW.out ?_)
        intro w7 hrg7 hg7 hs7
        have hB7 : Below w.heap.size w w7 := hB6.grown hg7 hB6.size (fun q e => by cases e)
        have h1' := (World.cell?_of_block (hg7.block (w.heap.size + 1) (by omega) (by simp))).trans f1
        have h2' := (World.frozen?_of_block (hg7.block (w.heap.size + 1) (by omega) (by simp))).trans f2
        have HO7 : Hid (w7.ownsRow 0 61 5 (.slice (some ⟨g4, 0, none⟩) ns.length c4) ns.length (Tr.cellsOf ns)) := hide (row_same HO6.out (hg7.block g4 (by omega) (by simp)))
        have HRG := hide hrg7
        clear hg7 f1 f2 HO6 HOW hrg7
        go_wp2
        have hg4m : g4 < w5.heap.size := by omega
        have hr7 := HRG.out.lt
        have HEND : Hid (∀ left : Lit → Bool, (∀ kl, left kl = false) → Tr.renBy (fun j => Maps.has D (.int .i64 (j : Int)) && !left (.int .i64 (j : Int))) nm ns 0 = Tr.renGo a b nm ns 0) := hide (by
          intro left hl
          rw [← HRB.out]
          refine Tr.renBy_congr _ _ _ _ _ (fun j _ _ => ?_)
          rw [hl, Bool.not_false, Bool.and_true, Bool.eq_iff_iff, decide_eq_true_iff]
          rw [HHK.out]
          exact ⟨fun ⟨k, hk, e⟩ => (show k = j by omega) ▸ hk, fun h => ⟨j, h, rfl⟩⟩)
        have HBEG : Hid (Tr.renBy (fun j => Maps.has D (.int .i64 (j : Int)) && !Maps.has D (.int .i64 (j : Int))) nm ns 0 = ns) := hide (Tr.renBy_none _ _ _ _ (fun j _ _ => by cases Maps.has D (.int .i64 (j : Int)) <;> rfl))
        go_loopw [11] (fun _ wr => ∃ (left : Lit → Bool) (cnt : Nat), wr.ranges Tryd.prog 3 unitElem w5.heap.size w6.heap.size (b.length + 1) D left cnt ∧ (∀ kl, left kl = true → Maps.has D kl = true) ∧ Below w.heap.size w wr ∧ wr.cell? ⟨w.heap.size + 1, 0, none⟩ = some (.slice none 0 0) ∧ wr.frozen? ⟨w.heap.size + 1, 0, none⟩ = false ∧
          wr.ownsRow 0 61 5 (.slice (some ⟨g4, 0, none⟩) ns.length c4) ns.length (Tr.cellsOf (Tr.renBy (fun j => Maps.has D (.int .i64 (j : Int)) && !left (.int .i64 (j : Int))) nm ns 0))) (fun _ wr => wr.rangeLeft w5.heap.size w6.heap.size)
        case atStart => exact ⟨_, _, HRG.out, fun _ h => h, hB7, h1', h2', by rw [HBEG.out]; exact HO7.out⟩
        case round =>
          obtain ⟨left, cnt, hrg, hsub, hB, s1, s2, hrow⟩ := hrel
          have HSUB := hide hsub
          have HROW := hide hrow
          have HRGr := hide hrg
          have hrl := hrg.lt
          clear hsub hrow HRG HO7 hrg
          go_wp2_with (at_next; refine wpList_next_ranges (α := Int) (β := Unit) _ rfl _ rfl 3 lawI unitElem (fun x => .int .i64 x) (fun _ => .agg #[]) (fun key kl h => by obtain ⟨x, hx, _⟩ := Maps.keyOf_int_inv Tryd.underlying3 h; exact ⟨x, hx⟩) (fun v y h => ⟨(), (unitElem_inv h).1⟩) w5.heap.size w6.heap.size _ D left cnt rfl HRGr.out ?_ ?_)
          · intro hc0 hl0
            have HRW : Hid (RowN (wr.setCell ⟨w.heap.size + 1, 0, none⟩ (.slice (some ⟨g4, 0, none⟩) ns.length c4)) w.heap.size (.slice (some ⟨g4, 0, none⟩) ns.length c4) (Tr.renGo a b nm ns 0)) := hide (by
              have hlr : (Tr.renGo a b nm ns 0).length = ns.length := Tr.renGo_len _ _ _ _ _
              have hro := HROW.out
              rw [HEND.out left hl0] at hro
              refine .inr ⟨g4, c4, by rw [hlr], by omega, ?_⟩
              rw [hlr]
              exact row_same hro (Below.heap_setCell _ _ _ _ (show g4 ≠ w.heap.size + 1 by omega)))
            clear HROW HRGr HSUB HEND HBEG
            go_wp2
            refine bodyPost_ret (v := .tuple #[.agg #[.slice (some ⟨g4, 0, none⟩) ns.length c4], .int .i64 0]) (by simp [results, Tryd.results20, go_sem, s1]) rfl ⟨_, by rw [HR1.out], by rw [HR1.out]; exact HRW.out, ?_⟩
            exact hB.setCell (p := ⟨w.heap.size + 1, 0, none⟩) (by simp) _
          · intro x c kl y w8 cnt8 hkey hlk hv hat hrg8 hlt8 hg8 hs8 hen
            obtain ⟨x', hxx, hkl, _⟩ := Maps.keyOf_int_inv Tryd.underlying3 hkey
            have hxe : x' = x := by injection hxx with _ h; exact h.symm
            subst hxe
            subst hkl
            obtain ⟨k, hkL, hkx⟩ := (HHK.out x').1 (HSUB.out _ hlk)
            have hkn := HLT.out k hkL
            subst hkx
            have hrow8 : w8.ownsRow 0 61 5 (.slice (some ⟨g4, 0, none⟩) ns.length c4) ns.length (Tr.cellsOf (Tr.renBy (fun j => Maps.has D (.int .i64 (j : Int)) && !left (.int .i64 (j : Int))) nm ns 0)) := row_same HROW.out (hg8.block g4 (by omega) (by simp; omega))
            have hlen : (Tr.renBy (fun j => Maps.has D (.int .i64 (j : Int)) && !left (.int .i64 (j : Int))) nm ns 0).length = ns.length := Tr.renBy_len _ _ _ _
            obtain ⟨-, -, -, p3, -⟩ := Tr.cellsOf_at (Tr.renBy (fun j => Maps.has D (.int .i64 (j : Int)) && !left (.int .i64 (j : Int))) nm ns 0) k (by omega)
            have k3 := (hrow8.cellAt (k * 5 + 3) (by omega)).trans p3
            have f3 := hrow8.frozenAt (k * 5 + 3)
            have HST := hide (hrow8.stored (k * 5 + 3) (.string nm)).1
            rw [Tr.renBy_set _ _ _ _ _ hkn] at HST
            have HEQ : Hid (Tr.renBy (fun j => (Maps.has D (.int .i64 (j : Int)) && !left (.int .i64 (j : Int))) || decide (j = 0 + k)) nm ns 0 = Tr.renBy (fun j => Maps.has D (.int .i64 (j : Int)) && !(left (.int .i64 (j : Int)) && !(Lit.int .i64 (j : Int)).sameKey (.int .i64 (k : Int)))) nm ns 0) := hide (Tr.renBy_congr _ _ _ _ _ (fun j _ _ => by
              by_cases e : j = k
              · subst e
                rw [WideAt.sameKey_self (show WideAt.IsKeyLit (Lit.int .i64 (j : Int)) from trivial), HSUB.out _ hlk]
                simp
              · rw [Maps.sameKey_ne (fun h => e (by injection h with _ h; omega)), decide_eq_false (by omega)]
                simp))
            rw [HEQ.out] at HST
            have hB8 : Below w.heap.size w w8 := hB.grown hg8 (by have := hB.size; omega) (fun q e => by cases e; have := hB6.size; omega)
            have s18 := (World.cell?_of_block (hg8.block (w.heap.size + 1) (by omega) (by simp; omega))).trans s1
            have s28 := (World.frozen?_of_block (hg8.block (w.heap.size + 1) (by omega) (by simp; omega))).trans s2
            have HS1 : Hid ((w8.setCell ⟨g4, k * 5 + 3, none⟩ (.string nm)).cell? ⟨w.heap.size + 1, 0, none⟩ = some (.slice none 0 0)) := hide ((World.cell?_of_block (a := ⟨w.heap.size + 1, 0, none⟩) (Below.heap_setCell _ _ _ _ (show w.heap.size + 1 ≠ g4 by omega))).trans s18)
            have HS2 : Hid ((w8.setCell ⟨g4, k * 5 + 3, none⟩ (.string nm)).frozen? ⟨w.heap.size + 1, 0, none⟩ = false) := hide ((World.frozen?_of_block (a := ⟨w.heap.size + 1, 0, none⟩) (Below.heap_setCell _ _ _ _ (show w.heap.size + 1 ≠ g4 by omega))).trans s28)
            have HRN : Hid ((w8.setCell ⟨g4, k * 5 + 3, none⟩ (.string nm)).ranges Tryd.prog 3 unitElem w5.heap.size w6.heap.size (b.length + 1) D (fun z => left z && !z.sameKey (.int .i64 (k : Int))) cnt8) := hide (hrg8.kept (row := some g4) ⟨rfl, rfl, rfl, by rw [size_set5]; exact Nat.le_refl _, fun q _ hq => Below.heap_setCell _ _ _ _ (fun e => hq (by rw [e]))⟩ (by simp; omega) (by simp; omega))
            have HSUB8 : Hid (∀ kl, (left kl && !kl.sameKey (.int .i64 (k : Int))) = true → Maps.has D kl = true) := hide (fun kl h => HSUB.out kl (by rw [Bool.and_eq_true] at h; exact h.1))
            have HME : Hid (cnt8 < cnt) := hide hlt8
            clear HROW HSUB HEND HBEG hrow8 p3 hrg8 hg8 hlt8 hkey hlk hv hat hxx HEQ s1 s2 s18 s28
            try simp only at hen
            go_wp2
            go_roundw
            case rel => exact ⟨_, _, HRN.out, HSUB8.out, hB8.setCell (p := ⟨g4, k * 5 + 3, none⟩) (by show w.heap.size ≤ g4; omega) _, HS1.out, HS2.out, HST.out⟩
            case measure => rw [HRN.out.left_eq, HRGr.out.left_eq]; exact HME.out
end Go.Proofs.YtmklgiononbmmaaDoor
namespace Go.Proofs.YtmklgiononbmmaaDoor
open Go.RowKit

set_option maxRecDepth 100000 in
set_option maxHeartbeats 2000000 in
theorem lawR_any (l : List Tr.Nd) (v : Value) (at_ : Int) (nm : ByteArray) (w : World) (hl : l.length ≤ 9223372036854775807) (hx : ∀ x ∈ l, x.text.size ≤ 9223372036854775807) (hwf : (Lit.int .i64 at_).wf = true) (hG : GlobB w) (ht : NodesV w v l) :
    Calls Tryd.prog 5 #[.agg #[v], .int .i64 at_, .string nm] w fun e w' => e = .returned (.bool true) ∧ Below w.heap.size w w' := by
  have r1 : Below w.heap.size w (w.alloc (.cells #[v] 24)) := (Below.refl _ _).alloc (Nat.le_refl _) _
  have HZ := hide (szTree_any l v (w.alloc (.cells #[v] 24)) hl hx (ht.below r1))
  have HT := hide ht
  have HG := hide hG
  clear ht hG
  by_cases hnz : (1048576 : Int) < (nm.size : Int)
  · clear HZ HT HG
    go_enter Tryd.func5, Tryd.ntmps5
    go_wp2
    go_ret
    exact ⟨rfl, r1⟩
  by_cases hr : Tr.szS l 1048576 < 0
  · have HZ2 := HZ.out
    rw [if_pos hr] at HZ2
    replace HZ2 := hide HZ2
    go_enter Tryd.func5, Tryd.ntmps5
    go_wp2_with fail
    refine HZ2.out.mono ?_
    rintro e w1 ⟨rfl, hb1⟩
    go_wp2
    go_ret
    exact ⟨rfl, r1.trans (hb1.mono (by simp))⟩
  · obtain ⟨hl2, hx2⟩ := Tr.szS_ok l hr
    have HZ2 := HZ.out
    rw [if_neg hr] at HZ2
    replace HZ2 := hide HZ2
    have HX := hide hx2
    clear HZ hx hl hx2
    generalize Tr.szS l 1048576 = r at *
    have HTT : Hid (∀ w', Below w.heap.size w w' → Calls Tryd.prog 9 #[.agg #[v]] w' fun e w'' => ∃ g, e = .returned (.agg #[.slice (some ⟨g, 0, none⟩) l.length l.length]) ∧ OwnN w'' w'.heap.size g l ∧ w'.heap.size ≤ g ∧ Below w'.heap.size w' w'') := hide fun w' hb => toTreeO_any l v w' hl2 (HT.out.below hb)
    have HRS := hide (fun tg w' (h : NodesAt w' tg l) => rename_any l tg l.length at_ nm w' hl2 h)
    have HRI := hide (fun tg w' (hb : Below w.heap.size w w') (h : NodesAt w' tg l) => irename_any l tg l.length at_ nm w' hl2 HX.out (by omega) hwf (HG.out.below hb) h)
    have HLN : (Tr.renameOf l at_ nm).1.length ≤ 1048576 := by
      unfold Tr.renameOf
      split <;> try simp
      split <;> try simp
      split <;> try simp
      rw [Tr.renGo_len]; exact hl2
    generalize Tr.renameOf l at_ nm = R at *
    obtain ⟨b, k⟩ := R
    simp only at HRS HRI HLN
    go_enter Tryd.func5, Tryd.ntmps5
    go_wp2_with fail
    refine HZ2.out.mono ?_
    rintro e w1 ⟨rfl, hb1⟩
    have L1 : LB5 w v w1 := ⟨r1.trans (hb1.mono (by simp)), (hb1.cell (p := ⟨w.heap.size, 0, none⟩) (by simp)).trans (by simp), Nat.lt_of_lt_of_le (by simp) hb1.size⟩
    clear hb1
    have c1 := L1.c
    have HL1 := hide L1
    go_wp2_with fail
    refine (HTT.out _ HL1.out.B).mono ?_
    rintro e w2 ⟨ga, rfl, na, hga, hb2⟩
    have HL2 := hide (HL1.out.below hb2 HL1.out.z)
    have HNA := hide na.nodes
    clear hb2 na L1 c1 HL1
    go_wp2_with fail
    refine (HRS.out _ _ HNA.out).mono ?_
    rintro e w3 ⟨vs, rfl, hs3, hb3⟩
    obtain ⟨ps, ms, cs, rfl⟩ := hs3.slice
    obtain ⟨t3, u3, z3⟩ := box_in w3 (.slice ps ms cs)
    have HL3' := hide (HL2.out.below hb3 HL2.out.z)
    have HR3 : Hid (LR w v (.slice ps ms cs) w2.heap.size w3.heap.size b (w3.alloc (.cells #[.slice ps ms cs] 31))) := hide ⟨HL3'.out.below t3 HL3'.out.z, u3, hs3.upto.below t3 (Nat.le_refl _), HL3'.out.z, by rw [z3]; exact Nat.lt_succ_self _⟩
    have c3 := HR3.out.L.c
    clear hb3 hs3 HNA HL2 hga u3 t3 HL3'
    go_wp2_with fail
    refine (HTT.out _ HR3.out.L.B).mono ?_
    rintro e w4 ⟨gb, rfl, nb, hgb, hb4⟩
    rw [z3] at hb4 hgb
    obtain ⟨t4, u4, z4⟩ := box_in w4 (.slice (some ⟨gb, 0, none⟩) l.length l.length)
    have hz4 := hb4.size
    rw [z3] at hz4
    have HR4 := hide ((HR3.out.below hb4 (Nat.lt_succ_self _)).below t4 (by omega))
    have HX4 : Hid (LX (w3.heap.size + 1) w4.heap.size gb l (w4.alloc (.cells #[.slice (some ⟨gb, 0, none⟩) l.length l.length] 31))) := hide ⟨u4, by rw [← z3]; exact nb.alloc (.cells #[.slice (some ⟨gb, 0, none⟩) l.length l.length] 31), (nb.lt gb rfl).2, by rw [z4]; exact Nat.lt_succ_self _⟩
    clear hb4 nb t4 c3 HR3
    have HB5 := hide (HRI.out gb _ HR4.out.L.B (OwnN.nodes HX4.out.N))
    go_wp2_with fail
    refine HB5.out.mono ?_
    rintro e w5 ⟨vg, rfl, hg5, hb5⟩
    rw [z4] at hb5 hg5
    obtain ⟨pg, mg, cg, rfl⟩ := hg5.slice
    obtain ⟨t5, u5, z5⟩ := box_in w5 (.slice pg mg cg)
    have hz5 := hb5.size
    rw [z4] at hz5
    have HR5 := hide ((HR4.out.below hb5 (by omega)).below t5 (by omega))
    have HX5 := hide ((HX4.out.below hb5 (Nat.lt_succ_self _)).below t5 (by omega))
    have HG5 : Hid (LG (.slice pg mg cg) (w4.heap.size + 1) w5.heap.size b.length (Tr.cellsOf b) (w5.alloc (.cells #[.slice pg mg cg] 31))) := hide ⟨u5, hg5.upto.below t5 (Nat.le_refl _), by rw [z5]; exact Nat.lt_succ_self _⟩
    have d5 := HR5.out.U
    clear hb5 hg5 t5 HB5 HR4 HX4 u4
    go_wp2_with fail
    refine (eqTree_v b _ _ _ HLN HG5.out.R.nod HR5.out.S.nod).mono ?_
    rintro e w6 ⟨rfl, hb6⟩
    have hz6 := hb6.size
    rw [z5] at hz6 hb6
    have HR6 := hide (HR5.out.below hb6 (by omega))
    have HX6 := hide (HX5.out.below hb6 (by omega))
    have HG6 := hide (HG5.out.below hb6 (by omega))
    have x6 := HX6.out.X
    have c6 := HR6.out.L.c
    have hzz6 : w4.heap.size < w6.heap.size := by omega
    clear hb6 d5 u5 HR5 HX5 HG5
    go_upto_region 10 with fail
    go_cut [56] from 52 to 56 (fun v56 wx => v56 = .bool false ∧ Below w6.heap.size w6 wx)
    case first =>
      go_region_with (first
        | (go_at_call 9; refine (HTT.out _ HR6.out.L.B.drew).mono ?_; rintro e w7 ⟨gc, rfl, nc, hgc, hb7⟩; have s7 := (hb7.cell (p := ⟨w4.heap.size, 0, none⟩) hzz6).trans x6; have nb7 := (OwnN.nodes HX6.out.N).below ((Below.refl _ _).drew.trans hb7))
        | (go_at_call 12; refine (eqTree_same l gb gc l.length l.length _ hl2 nb7 nc.nodes).mono ?_; rintro e w8 ⟨rfl, hb8⟩))
      all_goals
        go_wp2_with fail
        go_meet
        case rel => exact ⟨rfl, (Below.refl _ _).drew.trans (hb7.trans (hb8.mono hb7.size))⟩
    case rest =>
      obtain ⟨rfl, hb8⟩ := hcut
      have hz8 := hb8.size
      have HR8 := hide (HR6.out.below hb8 (by omega))
      have HX8 := hide (HX6.out.below hb8 (by omega))
      have HG8 := hide (HG6.out.below hb8 (by omega))
      have x8 := HX8.out.X
      have hgb4 := HX8.out.o
      clear hb8 x6 c6 HR6 HX6 HG6
      have HMT := hide (markTree_any l.length gb l.length (w3.heap.size + 1) _ wc hl2 HX8.out.N (by omega))
      go_wp2_with fail
      refine HMT.out.mono ?_
      rintro e w9 ⟨rfl, _, hfr9, hb9⟩
      have hz9 := hb9.size
      have HR9 := hide (HR8.out.below hb9 (Nat.lt_succ_self _))
      have HG9 := hide (HG8.out.but hb9.size hfr9 (by omega) (by omega))
      have g9 := HG9.out.G
      have d9 := HR9.out.U
      clear hb9 hfr9 x8 HR8 HX8 HG8 HMT
      have hkp : ¬ (1 + 5 * (l.length : Int) < 0) := by omega
      have hkd : decide (1 + 5 * (l.length : Int) < 0) = false := by simp; omega
      go_wp2_with fail
      refine (eqTree_v b _ _ _ HLN HG9.out.R.nod HR9.out.S.nod).mono ?_
      rintro e w10 ⟨rfl, hb10⟩
      have hz10 := hb10.size
      have HR10 := hide (HR9.out.below hb10 (by omega))
      have HG10 := hide (HG9.out.below hb10 (by omega))
      have g10 := HG10.out.G
      clear hb10 HR9 HG9 g9 d9
      go_wp2_with fail
      refine (markT_t b.length _ _ _ _ w10 HLN (by omega) HG10.out.R).mono ?_
      rintro e w11 ⟨rfl, hr11, hfr11, hb11⟩
      have hz11 := hb11.size
      have HR11 := hide (HR10.out.below hb11 (by omega))
      have HG11 : Hid (LG (.slice pg mg cg) (w4.heap.size + 1) w5.heap.size b.length (Tr.marked5 b.length) w11) := hide ⟨(World.cell?_of_block (a := ⟨w5.heap.size, 0, none⟩) (hfr11 _ (by show w5.heap.size < w10.heap.size; omega) (Nat.le_refl _))).trans g10, hr11, by omega⟩
      have g11 := HG11.out.G
      clear hb11 hfr11 hr11 HR10 HG10 g10
      go_wp2_with fail
      refine (heldT_t b.length _ _ _ w11 HLN HG11.out.R).mono ?_
      rintro e w12 ⟨rfl, hb12⟩
      have hz12 := hb12.size
      have HR12 := hide (HR11.out.below hb12 (by omega))
      have HG12 := hide (HG11.out.below hb12 (by omega))
      have c12 := HR12.out.L.c
      clear hb12 HR11 HG11 g11
      have hnn : ¬ (1 + 5 * (b.length : Int) < 0) := by omega
      go_wp2_with fail
      refine (HTT.out _ HR12.out.L.B).mono ?_
      rintro e w13 ⟨gd, rfl, nd, hgd, hb13⟩
      have hz13 := hb13.size
      have HR13 := hide (HR12.out.below hb13 (by omega))
      have HG13 := hide (HG12.out.below hb13 (by omega))
      have HND := hide nd.nodes
      clear hb13 nd hgd c12 HR12 HG12
      have HB14 := hide (HRI.out gd _ HR13.out.L.B HND.out)
      go_wp2_with fail
      refine HB14.out.mono ?_
      rintro e w14 ⟨vh, rfl, hrh, hb14⟩
      have hz14 := hb14.size
      obtain ⟨ph, mh, ch, rfl⟩ := hrh.slice
      obtain ⟨t14, u14, z14⟩ := box_in w14 (.slice ph mh ch)
      have HR14 := hide ((HR13.out.below hb14 (by omega)).below t14 (by omega))
      have HG14 := hide ((HG13.out.below hb14 (by omega)).below t14 (by omega))
      have HRH := hide (hrh.upto.below t14 (Nat.le_refl _))
      have d14 := HR14.out.U
      clear hb14 hrh t14 HR13 HG13 HB14 HND
      go_wp2_with fail
      refine (eqTree_v b _ _ _ HLN HRH.out.nod HR14.out.S.nod).mono ?_
      rintro e w15 ⟨rfl, hb15⟩
      have hz15 := hb15.size
      rw [z14] at hb15 hz15
      have HR15 := hide (HR14.out.below hb15 (by omega))
      have HG15 := hide (HG14.out.below hb15 (by omega))
      have g15 := HG15.out.G
      clear hb15 u14 d14 HR14 HG14 HRH
      go_wp2_with fail
      refine (heldT_t b.length _ _ _ w15 HLN HG15.out.R).mono ?_
      rintro e w16 ⟨rfl, hb16⟩
      have HR16 := hide (HR15.out.below hb16 (by omega))
      clear hb16 g15 HR15 HG15
      go_wp2
      go_ret
      exact ⟨rfl, HR16.out.L.B⟩
end Go.Proofs.YtmklgiononbmmaaDoor
namespace Go.Proofs.YtmklgiononbmmaaDoor
open Go.ChangeShapes Go.WideShapes Go.ChangeAt Go.RowKit Go.ChangeMaps

theorem door_metR (os : Os) (args : Array Value) : laidMetH Tryd.prog Rows.fnExactRenameRow.laid ((World.doorLaid Tryd.prog 136 os).forCall (fun _ _ => 0) ⟨#[], args, []⟩).memory :=
  laidMetH_of_parts3 (fuel := 8) (laidMet_of_run' 8 (by kernel_rfl) (by kernel_rfl)) (by kernel_rfl) (by kernel_rfl)

set_option maxRecDepth 100000 in
set_option maxHeartbeats 1000000 in
theorem liftedR (os : Os) (started : os.Started) (H : Type) (enc : TypeId × Value → H) :
    ReturnsInHanded {} Tryd.checked os 5 .any (fun w args => (Rows.fnExactRenameSpec.pre enc Tryd.prog Tryd.f5 [] false w args ∧ laidMetH Tryd.prog Rows.fnExactRenameRow.laid w) ∧ sizedMet enc Tryd.prog Tryd.f5 (OpenSpec.ofChange Rows.fnExactRenameSpec) false w args)
      (Rows.fnExactRenameSpec.post enc Tryd.prog Tryd.f5 false true false false) := by
  refine returnsInHanded_of_change_and (C := Tryd.checked) (X := fun w _ => laidMetH Tryd.prog Rows.fnExactRenameRow.laid w) (fun _ _ _ hh h => h.of_heap hh) own started (by kernel_rfl) Tryd.func5
    (ChangeSpec.witness_shaped (enc := enc) (C := Tryd.checked) (os := os) (X := fun w _ => laidMetH Tryd.prog Rows.fnExactRenameRow.laid w) false (World.doorLaid Tryd.prog 136 os) #[.agg #[.slice none 0 0], .int .i64 0, .string ⟨#[]⟩] 8 rfl (World.shaped_of_RefB (by kernel_rfl) (by kernel_rfl)) (by kernel_rfl) (by kernel_rfl) (by kernel_rfl) (door_metR os _)) ?_
  intro W base args ds gs before hval0 hW _ _ hL _
  have hval : ∀ (j : Nat) t v, Tryd.f5.params[j]? = some t → args[j]? = some v → Value.okWide Tryd.prog W .any base t v := hval0
  have hW' := hW
  obtain ⟨p, q, hA0, hV, rfl, hfz, hnd⟩ := hW
  have hA : DataW.TrodAll enc Tryd.prog W 0 (fun _ => true) true Tryd.f5.params.toList args.toList ds p := hA0
  rw [Tryd.params5] at hA hval
  obtain ⟨v0, v1, v2, d0, d1, d2, p0, p1, p2, rfl, rfl, rfl, h0, h1, h2⟩ := trodAll_three hA
  have hVk : DataW.TrodVars enc Tryd.prog W (fun _ => true) ["loop.example/kilnclay/impl.builtNames"] gs q := hV
  obtain ⟨_, _, _, _, dg, _, rfl, _⟩ := trodVars_one hVk
  have h0k := h0
  obtain ⟨at_, rfl, rfl, rfl, hwf⟩ := open_int Tryd.underlying3 (hval 1 3 v1 rfl rfl) h1
  obtain ⟨nm, rfl, rfl, rfl, hnm⟩ := open_string Tryd.underlying9 (hval 2 9 v2 rfl rfl) h2
  simp only [List.append_nil] at hW' hA
  have hlt : ∀ x ∈ p0, x.block < W.heap.size := fun x hx => by simpa using hW'.lt x (by simp [hx])
  obtain ⟨v, l, rfl, hN, hl, hx⟩ := open_tree (hval 0 24 v0 rfl rfl) h0
  have hG := glob_of hL
  clear hA0 hval0 hL
  refine (lawR_any l v at_ nm W hl hx hwf hG hN).mono fun e W' ⟨he, hb⟩ => ?_
  subst he
  have hfin : DataW.TrodAll enc Tryd.prog W' 0 (fun b => decide (b < W.heap.size)) true [24, 3, 9] [.agg #[v], .int .i64 at_, .string nm] [d0, .lit (.int .i64 at_), .lit (.string nm.data.toList)] p0 := by simpa using trodAll_mk3 (Below.trod laidOut (by kernel_rfl) (of_decide_eq_true (by kernel_rfl)) h0k hb hlt) (shut_int Tryd.underlying3 hwf) (shut_string Tryd.underlying9 hnm)
  exact ⟨_, rfl, [d0, .lit (.int .i64 at_), .lit (.string nm.data.toList)], [dg], _, [], p0, q, hW', trodAll_mk1 (shut_bool Tryd.underlying4 _), hfin, Below.trodVars laidOut hb (by kernel_rfl) hVk, hb.frame _, fun h => by cases h⟩

theorem saidR : Rows.FnExactRenameSaid :=
  OpenClaim.holds_of_wide 5 Tryd.f5 rfl rfl rfl rfl rfl rfl rfl ⟨rfl, rfl, rfl, rfl, rfl⟩ rfl rfl rfl rfl rfl (by kernel_rfl) Tryd.func5 (by kernel_rfl)
    (of_decide_eq_true (by kernel_rfl)) (by unfold Func.isWrapper; first | (rw [if_pos (by decide +kernel)]; kernel_rfl) | (rw [if_neg (by decide +kernel)]; exact ⟨rfl, rfl⟩))
    (fun os started H enc _ => liftedR os started H enc)

theorem plainR (f : FuncId) (fn : Func) (hf : Tryd.pinned.checked.prog.funcNamed Rows.fnExactRenameRow.func = some f) (hfn : Tryd.pinned.checked.prog.funcs[f]? = some fn) :
    false = Tryd.pinned.checked.prog.looks [] ∧ ∀ (j : Nat) t, fn.params[j]? = some t → Tryd.pinned.checked.prog.wantsStandIn t = false := by
  obtain rfl : f = 5 := Option.some.inj ((show Tryd.prog.funcNamed Rows.fnExactRenameRow.func = some 5 by kernel_rfl).symm.trans hf) |>.symm
  obtain rfl : fn = Tryd.f5 := (Option.some.inj (Tryd.func5.symm.trans hfn)).symm
  refine ⟨by kernel_rfl, fun j t ht => ?_⟩
  rw [Tryd.params5] at ht
  have h3 : t = 24 ∨ t = 3 ∨ t = 9 := by simpa using Array.mem_of_getElem? ht
  rcases h3 with rfl | rfl | rfl
  · exact (show Tryd.prog.wantsStandIn 24 = false by kernel_rfl)
  · exact (show Tryd.prog.wantsStandIn 3 = false by kernel_rfl)
  · exact (show Tryd.prog.wantsStandIn 9 = false by kernel_rfl)

theorem cardR : Rows.FnExactRenameCardSaid :=
  Claim7.holds_tied_plain_at .later [] _ _ _ _ saidR (fun _ h => by cases h) (by kernel_rfl) (fun _ h => by cases h) fnExactRename_row_tie rfl ⟨rfl, rfl⟩ (by kernel_rfl) rfl plainR (by kernel_rfl)
#print axioms cardR
end Go.Proofs.YtmklgiononbmmaaDoor
