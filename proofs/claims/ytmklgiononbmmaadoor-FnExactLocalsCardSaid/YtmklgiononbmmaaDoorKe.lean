/- Walks: the nodes that make a file's names, on the specification's side. -/
import Derived.Test.YtmklgiononbmmaaDoorKd
namespace Go.Proofs.YtmklgiononbmmaaDoor
open Go.RowKit

def Tr.mk1 (ns : List Tr.Nd) (ks : List (List Nat)) (x : Nat) : List Nat := if Tr.kindOf ns x = 20 ∨ Tr.kindOf ns x = 21 then [x] else if Tr.kindOf ns x = 23 then Tr.kidsOf ks x else []
def Tr.makesOf (ns : List Tr.Nd) (ks : List (List Nat)) (fl : List Nat) : List Nat := fl.flatMap (Tr.mk1 ns ks)
theorem Tr.makesOf_at (ns : List Tr.Nd) (ks : List (List Nat)) (fl : List Nat) (i : Nat) (h : i < fl.length) : Tr.makesOf ns ks (fl.take (i + 1)) = Tr.makesOf ns ks (fl.take i) ++ Tr.mk1 ns ks fl[i] := by
  unfold Tr.makesOf
  rw [List.take_succ_eq_append_getElem h, List.flatMap_append, List.flatMap_cons, List.flatMap_nil, List.append_nil]
/-- The kids of each node lie in memory. -/
structure KidsAt (ks : List (List Nat)) (kg : Nat) (w : World) : Prop where
  klt : kg < w.heap.size
  kids : ∀ k (h : k < ks.length), ∃ g c, w.cell? ⟨kg, k, none⟩ = some (.slice (some ⟨g, 0, none⟩) (ks[k]).length c) ∧ IntsAt w g 0 ks[k]
theorem KidsAt.below {ks : List (List Nat)} {kg : Nat} {w w' : World} (h : KidsAt ks kg w) (hb : Below w.heap.size w w') : KidsAt ks kg w' := by
  refine ⟨Nat.lt_of_lt_of_le h.klt hb.size, fun k hk => ?_⟩
  obtain ⟨g, c, h1, h2⟩ := h.kids k hk
  exact ⟨g, c, (hb.cell (p := ⟨kg, k, none⟩) h.klt).trans h1, h2.below hb⟩

set_option maxRecDepth 100000 in
set_option maxHeartbeats 2000000 in
theorem makes_any (ns : List Tr.Nd) (ks : List (List Nat)) (tg tc kg kc m : Nat) (w : World) (hn : ns.length = m + 1) (hn5 : ns.length ≤ 5000) (hkl : ks.length = ns.length) (hks : ∀ k (h : k < ks.length), ∀ x ∈ ks[k], x < ns.length) (hlen : ∀ k (h : k < ks.length), (ks[k]).length ≤ 5000)
    (ht : NodesAt w tg ns) (hK : KidsAt ks kg w) :
    Calls Tryd.prog 49 #[.agg #[.slice (some ⟨tg, 0, none⟩) ns.length tc], .slice (some ⟨kg, 0, none⟩) ns.length kc] w fun e w' => ∃ g5 c5, e = .returned (.slice (some ⟨g5, 0, none⟩) (Tr.makesOf ns ks (Tr.kidsOf ks m)).length c5) ∧ w.heap.size ≤ g5 ∧ IntsAt w' g5 0 (Tr.makesOf ns ks (Tr.kidsOf ks m)) ∧ (Tr.makesOf ns ks (Tr.kidsOf ks m)).length ≤ 25000000 ∧ Below w.heap.size w w' := by
  obtain ⟨iI, hI, hIz, hIs, hIb⟩ := info_parts Tryd.infoInt
  have r1 : Below w.heap.size w (w.alloc (.cells #[.slice (some ⟨tg, 0, none⟩) ns.length tc] 31)) := (Below.refl _ _).alloc (Nat.le_refl _) _
  have hm : m < ks.length := by omega
  obtain ⟨fg, fc, hf1, hf2⟩ := hK.kids m hm
  have hko : Tr.kidsOf ks m = ks[m] := by simp [Tr.kidsOf, hm]
  rw [hko]
  have hfl := hlen m hm
  have HFX := hide (hks m hm)
  have hklt := hK.klt
  have HT := hide ht
  have HK := hide hK
  have HLN := hide hlen
  have HF2 := hide hf2
  have k0 := (((Below.refl _ _).alloc (Nat.le_refl _) (.cells #[.slice (some ⟨tg, 0, none⟩) ns.length tc] 31)).cell (p := ⟨kg, m, none⟩) hklt).trans hf1
  have k1 := ((((Below.refl _ _).alloc (Nat.le_refl _) (.cells #[.slice (some ⟨tg, 0, none⟩) ns.length tc] 31)).alloc (by simp) (.cells #[] 3)).cell (p := ⟨kg, m, none⟩) hklt).trans hf1
  clear ht hK hlen hf2 hks
  generalize ks[m] = fl at *
  rw [hn] at r1 k0 k1 ⊢
  go_enter Tryd.func49, Tryd.ntmps49
  go_wp2
  go_loopw [5, 7] (fun v5 t wr => ∃ (i g5 c5 : Nat), i ≤ fl.length ∧ t = .int .i64 i ∧ v5 = .slice (some ⟨g5, 0, none⟩) (Tr.makesOf ns ks (fl.take i)).length c5 ∧ wr.ownsRow (w.heap.size + 1) 3 1 (.slice (some ⟨g5, 0, none⟩) (Tr.makesOf ns ks (fl.take i)).length c5) (Tr.makesOf ns ks (fl.take i)).length ((Tr.makesOf ns ks (fl.take i)).map vint) ∧ (Tr.makesOf ns ks (fl.take i)).length ≤ i * 5000 ∧
      Below w.heap.size w wr ∧ w.heap.size < wr.heap.size ∧ wr.cell? ⟨w.heap.size, 0, none⟩ = some (.slice (some ⟨tg, 0, none⟩) (m + 1) tc)) (fun _ t _ => fl.length - (intOf t).toNat)
  case atStart =>
    refine ⟨0, w.heap.size + 1, 0, Nat.zero_le _, rfl, rfl, ?_, Nat.zero_le _, ?_, by rw [World.size_alloc, World.size_alloc]; omega, ?_⟩
    · have := World.ownsRow_lit (base := w.heap.size + 1) (e := 3) (size := 1) (w.alloc (.cells #[.slice (some ⟨tg, 0, none⟩) (m + 1) tc] 31)) #[] 0 (by simp) (Nat.zero_le _) rfl
      rw [World.size_alloc] at this
      exact this
    · exact r1.alloc (by simp) _
    · have h1 : Below (w.heap.size + 1) (w.alloc (.cells #[.slice (some ⟨tg, 0, none⟩) (m + 1) tc] 31)) ((w.alloc (.cells #[.slice (some ⟨tg, 0, none⟩) (m + 1) tc] 31)).alloc (.cells #[] 3)) := (Below.refl _ _).alloc (by simp) _
      exact (h1.cell (p := ⟨w.heap.size, 0, none⟩) (Nat.lt_succ_self _)).trans (by simp)
  case round =>
    obtain ⟨i, g5, c5, hi, rfl, rfl, ho, hol, hB, hlt0, hc0⟩ := hrel
    have HO := hide ho
    clear ho
    by_cases hlt : i < fl.length
    · have hx := (HF2.out.below hB).2 i hlt
      rw [Nat.zero_add] at hx
      have hxn : fl[i] < ns.length := HFX.out _ (List.getElem_mem hlt)
      have hxk : fl[i] < ks.length := by omega
      obtain ⟨a0, _⟩ := (HT.out.below hB).2 fl[i] hxn
      have HM := hide (Tr.makesOf_at ns ks fl i hlt)
      have HM1 := hide (show Tr.mk1 ns ks fl[i] = if ns[fl[i]].kind = 20 ∨ ns[fl[i]].kind = 21 then [fl[i]] else if ns[fl[i]].kind = 23 then ks[fl[i]] else [] by
        unfold Tr.mk1; rw [Tr.kindOf_at hxn, show Tr.kidsOf ks fl[i] = ks[fl[i]] from by simp [Tr.kidsOf, hxk]])
      obtain ⟨rg, rc, hr, hri⟩ := (HK.out.below hB).kids fl[i] hxk
      have hrl := HLN.out fl[i] hxk
      generalize ns[fl[i]].kind = kx at *
      generalize ks[fl[i]] = kp at *
      generalize fl[i] = x at *
      generalize Tr.makesOf ns ks (fl.take i) = mo at *
      have HRI := hide hri
      clear hri
      by_cases h20 : kx = 20 ∨ kx = 21
      · have HM2 : Hid (Tr.makesOf ns ks (fl.take (i + 1)) = mo ++ [x]) := hide (by rw [HM.out, HM1.out, if_pos h20])
        rcases h20 with rfl | rfl
        all_goals
          go_wp2
          go_quiet (fail)
          go_wp2_with (at_builtin; refine wpList_append_own_at _ rfl _ _ 36 rfl (w.heap.size + 1) 3 iI (.int .i64 0) 1 8 Tryd.underlying36 hI hIz hIs hIb rfl (by decide) (.slice (some ⟨g5, 0, none⟩) mo.length c5) mo.length (mo.map vint) rfl ((row_same HO.out rfl).alloc _) ⟨wr.heap.size, 0, none⟩ 1 1 [.int .i64 x] rfl rfl (cell_one _ _ _) (by simp [Value.oneCell']) (by unfold maxLen; omega) (by omega) (by simp; omega) ?_)
          intro v2 w2 hown2 hgrow2 hnil2 hat2
          obtain ⟨g6, c6, rfl, hg6⟩ := lies_formS hown2 hnil2 (by simpa [Value.ownBlock] using hat2)
          have hgo := HO.out.lt g5 rfl
          have hB2 : Below w.heap.size w w2 := ((below_drewN hB _).alloc hB.size _).grown hgrow2 (by have := hB.size; simp; omega) (fun q e => by simp [Value.ownBlock] at e; omega)
          have hc2 : w2.cell? ⟨w.heap.size, 0, none⟩ = some (.slice (some ⟨tg, 0, none⟩) (m + 1) tc) := (World.cell?_of_block (grown_block hgrow2 w.heap.size hlt0 (by simp [Value.ownBlock]; omega))).trans hc0
          have hs2 : w.heap.size < w2.heap.size := Nat.lt_of_lt_of_le (by have := hB.size; simp; omega) hgrow2.size
          clear hgrow2 hnil2 hat2
          go_wp2
          go_roundw
          case rel =>
            refine ⟨i + 1, g6, c6, by omega, by go_num, ?_, ?_, ?_, hB2, hs2, hc2⟩
            · rw [HM2.out]; simp
            · rw [HM2.out, List.map_append, List.length_append]; exact hown2
            · rw [HM2.out, List.length_append]; simp; omega
          case measure => simp [intOf]; omega
      · have q20 : (kx == 20) = false := by simp; omega
        have q21 : (kx == 21) = false := by simp; omega
        by_cases h23 : kx = 23
        · have HM2 : Hid (Tr.makesOf ns ks (fl.take (i + 1)) = mo ++ kp) := hide (by rw [HM.out, HM1.out, if_neg h20, if_pos h23])
          subst h23
          have hnews : ∀ j u, (kp.map vint)[j]? = some u → wr.cell? ((⟨rg, 0, none⟩ : Addr).add j) = some u := by
            intro j u hu
            have hj : j < kp.length := by have := (List.getElem?_eq_some_iff.1 hu).1; simpa using this
            rw [add_plain, HRI.out.2 j hj, ← hu]; simp [hj, vint]
          have HNW := hide hnews
          clear hnews
          go_wp2
          go_quiet (fail)
          go_wp2_with (at_builtin; refine wpList_append_own_at _ rfl _ _ 36 rfl (w.heap.size + 1) 3 iI (.int .i64 0) 1 8 Tryd.underlying36 hI hIz hIs hIb rfl (by decide) (.slice (some ⟨g5, 0, none⟩) mo.length c5) mo.length (mo.map vint) rfl (row_same HO.out rfl) ⟨rg, 0, none⟩ kp.length rc (kp.map vint) rfl (by simp) HNW.out (vint_one _) (by unfold maxLen; omega) (by omega) (by simp; omega) ?_)
          intro v2 w2 hown2 hgrow2 hnil2 hat2
          obtain ⟨g6, c6, rfl, hg6⟩ := lies_formS hown2 (by simpa using hnil2) (by simpa [Value.ownBlock] using hat2)
          have hgo := HO.out.lt g5 rfl
          have hB2 : Below w.heap.size w w2 := (below_drewN hB _).grown hgrow2 (by have := hB.size; simp; omega) (fun q e => by simp [Value.ownBlock] at e; omega)
          have hc2 : w2.cell? ⟨w.heap.size, 0, none⟩ = some (.slice (some ⟨tg, 0, none⟩) (m + 1) tc) := (World.cell?_of_block (hgrow2.block w.heap.size (by simp; omega) (by simp [Value.ownBlock]; omega))).trans hc0
          have hs2 : w.heap.size < w2.heap.size := Nat.lt_of_lt_of_le (by have := hB.size; simp; omega) hgrow2.size
          clear hgrow2 hnil2 hat2
          go_wp2
          go_roundw
          case rel =>
            refine ⟨i + 1, g6, c6, by omega, by go_num, ?_, ?_, ?_, hB2, hs2, hc2⟩
            · rw [HM2.out]; simp
            · rw [HM2.out, List.map_append, List.length_append]; exact hown2
            · rw [HM2.out, List.length_append]; omega
          case measure => simp [intOf]; omega
        · have HM2 : Hid (Tr.makesOf ns ks (fl.take (i + 1)) = mo) := hide (by rw [HM.out, HM1.out, if_neg h20, if_neg h23, List.append_nil])
          have q23 : (kx == 23) = false := by simpa using h23
          go_wp2
          go_quiet (fail)
          go_wp2
          go_roundw
          case rel =>
            refine ⟨i + 1, g5, c5, by omega, by go_num, by rw [HM2.out], by rw [HM2.out]; exact row_same HO.out rfl, by rw [HM2.out]; omega, below_drewN hB _, hlt0, hc0⟩
          case measure => simp [intOf]; omega
    · go_wp2
      go_ret
      have e : fl.take i = fl := List.take_of_length_le (by omega)
      have ho := HO.out
      rw [e] at ho hol ⊢
      exact ⟨g5, c5, rfl, by have := (ho.lt g5 rfl).1; omega, ints_of_row ho, by omega, hB⟩
end Go.Proofs.YtmklgiononbmmaaDoor
