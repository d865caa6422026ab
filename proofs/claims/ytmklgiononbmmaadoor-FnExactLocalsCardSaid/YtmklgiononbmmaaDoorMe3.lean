/- Ki, Me. -/
import Derived.Test.YtmklgiononbmmaaDoorKj
import Derived.Test.YtmklgiononbmmaaDoorJd
import Derived.Maps.OwnSet
namespace Go.Proofs.YtmklgiononbmmaaDoor
open Go.RowKit

set_option maxRecDepth 100000 in
set_option maxHeartbeats 2000000 in
theorem locals_any (ns : List Tr.Nd) (tg tc : Nat) (w : World) (hn : ns.length ≤ 1048576) (ht : NodesAt w tg ns) :
    Calls Tryd.prog 22 #[.agg #[.slice (some ⟨tg, 0, none⟩) ns.length tc]] w fun e w' => ∃ g c, e = .returned (.slice (some ⟨g, 0, none⟩) (Tr.localsOf ns).length c) ∧ w.heap.size ≤ g ∧ w'.ownsRow w.heap.size 3 1 (.slice (some ⟨g, 0, none⟩) (Tr.localsOf ns).length c) (Tr.localsOf ns).length ((Tr.localsOf ns).map vint) ∧ Below w.heap.size w w' := by
  obtain ⟨iI, hI, hIz, hIs, hIb⟩ := info_parts Tryd.infoInt
  have r2 : Below w.heap.size w ((w.alloc (.cells #[.slice (some ⟨tg, 0, none⟩) ns.length tc] 31)).alloc (.cells #[] 3)) := ((Below.refl _ _).alloc (Nat.le_refl _) _).alloc (by simp) _
  have hrow0 : ((w.alloc (.cells #[.slice (some ⟨tg, 0, none⟩) ns.length tc] 31)).alloc (.cells #[] 3)).ownsRow (w.heap.size + 1) 3 1 (.slice (some ⟨w.heap.size + 1, 0, none⟩) 0 0) 0 [] := by
    have := World.ownsRow_lit (base := w.heap.size + 1) (e := 3) (size := 1) (w.alloc (.cells #[.slice (some ⟨tg, 0, none⟩) ns.length tc] 31)) #[] 0 (by simp) (Nat.zero_le _) rfl
    rwa [World.size_alloc] at this
  have bx : ((w.alloc (.cells #[.slice (some ⟨tg, 0, none⟩) ns.length tc] 31)).alloc (.cells #[] 3)).cell? ⟨w.heap.size, 0, none⟩ = some (.slice (some ⟨tg, 0, none⟩) ns.length tc) := by
    have h1 := (below_al (w.alloc (.cells #[.slice (some ⟨tg, 0, none⟩) ns.length tc] 31)) (.cells #[] 3)).cell (p := ⟨w.heap.size, 0, none⟩) (by simp)
    rw [h1]; simp
  have HFT := hide (fits_any ns tg tc _ hn (ht.below r2))
  have HT := hide ht
  clear ht
  cases hf : Tr.fitsOf ns
  · have HFT2 := HFT.out
    rw [show ((Tr.checkOf ns).1 == 0) = false from hf] at HFT2
    replace HFT2 := hide HFT2
    have HB : Hid (Tr.localsOf ns = []) := hide (by unfold Tr.localsOf; rw [hf]; rfl)
    go_enter Tryd.func22, Tryd.ntmps22
    go_wp2_with fail
    refine HFT2.out.mono ?_
    rintro e w1 ⟨rfl, hb1⟩
    have hB1 := r2.trans (hb1.mono r2.size)
    go_wp2
    go_ret
    refine ⟨w.heap.size + 1, 0, by rw [HB.out]; rfl, by omega, ?_, hB1⟩
    rw [HB.out]
    exact row_mono (row_same hrow0 (hb1.block _ (by simp))) (by omega)
  · have HFT2 := HFT.out
    rw [show ((Tr.checkOf ns).1 == 0) = true from hf] at HFT2
    replace HFT2 := hide HFT2
    have HB : Hid (Tr.localsOf ns = Tr.localsGo ns 0) := hide (by unfold Tr.localsOf; rw [hf]; rfl)
    go_enter Tryd.func22, Tryd.ntmps22
    go_wp2_with fail
    refine HFT2.out.mono ?_
    rintro e w1 ⟨rfl, hb1⟩
    have hB1 := r2.trans (hb1.mono r2.size)
    have hrow1 := row_same hrow0 (hb1.block (w.heap.size + 1) (by simp))
    have bx1 := (hb1.cell (p := ⟨w.heap.size, 0, none⟩) (by simp; omega)).trans bx
    have HR1 := hide hrow1
    have hz1 : w.heap.size + 1 + 1 ≤ w1.heap.size := by have := hb1.size; simpa using this
    clear hb1 hrow0 hrow1 bx
    go_wp2
    go_loopw [3, 4] (fun v3 t wr => ∃ (i g c : Nat) (out : List Nat), i ≤ ns.length ∧ t = .int .i64 i ∧ v3 = .slice (some ⟨g, 0, none⟩) out.length c ∧ w.heap.size < g ∧ out.length ≤ i ∧ wr.ownsRow (w.heap.size + 1) 3 1 (.slice (some ⟨g, 0, none⟩) out.length c) out.length (out.map vint) ∧ Below w.heap.size w wr ∧ w.heap.size < wr.heap.size ∧ wr.cell? ⟨w.heap.size, 0, none⟩ = some (.slice (some ⟨tg, 0, none⟩) ns.length tc) ∧ Tr.localsGo ns 0 = out ++ Tr.localsGo (ns.drop i) i) (fun _ t _ => ns.length - (intOf t).toNat)
    case atStart => exact ⟨0, w.heap.size + 1, 0, [], Nat.zero_le _, rfl, rfl, by omega, Nat.le_refl _, HR1.out, hB1, by omega, bx1, rfl⟩
    case round =>
      obtain ⟨i, g, c, out, hi, rfl, rfl, hg, hol, ho, hB, hzr, bxr, he⟩ := hrel
      have HO := hide ho
      have HE := hide he
      clear ho he
      by_cases hlt : i < ns.length
      · obtain ⟨n0, _⟩ := (HT.out.below hB).2 i hlt
        have HS := hide (Tr.localsGo_at ns i hlt)
        generalize ns[i].kind = kd at *
        by_cases hk : kd = 14 ∨ kd = 16
        · have HS2 : Hid (Tr.localsGo ns 0 = (out ++ [i]) ++ Tr.localsGo (ns.drop (i + 1)) (i + 1)) := hide (by rw [HE.out, HS.out, if_pos (by rcases hk with rfl | rfl <;> rfl)]; simp)
          rcases hk with rfl | rfl
          all_goals
            go_wp2_with (at_builtin; refine wpList_append_own_at _ rfl _ _ 36 rfl (w.heap.size + 1) 3 iI (.int .i64 0) 1 8 Tryd.underlying36 hI hIz hIs hIb rfl (by decide) (.slice (some ⟨g, 0, none⟩) out.length c) out.length (out.map vint) rfl (HO.out.alloc _) ⟨wr.heap.size, 0, none⟩ 1 1 [.int .i64 i] rfl rfl (cell_one _ _ _) (by simp [Value.oneCell']) (by unfold maxLen; omega) (by omega) (by simp; omega) ?_)
            intro v2 w2 hown2 hgrow2 hnil2 hat2
            obtain ⟨g2, c2, rfl, hg2⟩ := lies_formS hown2 hnil2 (by simpa [Value.ownBlock] using hat2)
            have hB2 : Below w.heap.size w w2 := (hB.alloc hB.size _).grown hgrow2 (by have := hB.size; simp; omega) (fun q e => by simp [Value.ownBlock] at e; omega)
            have bx2 := (World.cell?_of_block (a := ⟨w.heap.size, 0, none⟩) (grown_block hgrow2 w.heap.size hzr (by simp [Value.ownBlock]; omega))).trans bxr
            have hz2 : w.heap.size < w2.heap.size := Nat.lt_of_lt_of_le (by simp; omega) hgrow2.size
            have hg2' : w.heap.size < g2 := by rcases hg2 with h | h <;> omega
            clear hgrow2 hnil2 hat2
            go_wp2
            go_roundw
            case rel =>
              refine ⟨i + 1, g2, c2, out ++ [i], by omega, by go_num, by simp, hg2', by simp; omega, ?_, hB2, hz2, bx2, HS2.out⟩
              rw [List.map_append, List.length_append]; exact hown2
            case measure => simp [intOf]; omega
        · have HS2 : Hid (Tr.localsGo ns 0 = out ++ Tr.localsGo (ns.drop (i + 1)) (i + 1)) := hide (by rw [HE.out, HS.out, if_neg (by simp [Tr.isLocal]; omega)]; rfl)
          have q14 : (kd == 14) = false := by simp; omega
          have q16 : (kd == 16) = false := by simp; omega
          go_wp2
          go_roundw
          case rel => exact ⟨i + 1, g, c, out, by omega, by go_num, rfl, hg, by omega, HO.out, hB, hzr, bxr, HS2.out⟩
          case measure => simp [intOf]; omega
      · go_wp2
        go_ret
        have e : Tr.localsOf ns = out := by rw [HB.out, HE.out, List.drop_of_length_le (by omega)]; simp [Tr.localsGo]
        rw [e]
        exact ⟨g, c, rfl, by omega, row_mono HO.out (by omega), hB⟩
end Go.Proofs.YtmklgiononbmmaaDoor
namespace Go.Proofs.YtmklgiononbmmaaDoor
open Go.RowKit

theorem Tr.localsGo_snoc (a : List Tr.Nd) (d : Tr.Nd) (k : Nat) : Tr.localsGo (a ++ [d]) k = Tr.localsGo a k ++ (if Tr.isLocal d.kind = true then [k + a.length] else []) := by
  induction a generalizing k with
  | nil => simp [Tr.localsGo]
  | cons x r ih => rw [List.cons_append, Tr.localsGo, ih, Tr.localsGo, List.append_assoc, List.length_cons, show k + 1 + r.length = k + (r.length + 1) from by omega]
def Tr.keysI (l : List Nat) : List Lit := l.map fun (k : Nat) => Lit.int .i64 (k : Int)
theorem Tr.keysI_ok (l : List Nat) : ∀ x ∈ Tr.keysI l, WideAt.IsKeyLit x := by
  intro x hx
  simp only [Tr.keysI, List.mem_map] at hx
  obtain ⟨y, _, rfl⟩ := hx
  trivial
theorem lawI : Maps.Keyed Tryd.prog 3 := Maps.int_keyed Tryd.underlying3
theorem wfI (k : Nat) (h : k ≤ 1048576) : (Lit.int .i64 (k : Int)).wf = true := by
  have h1 : IntKind.i64.min = -9223372036854775808 := by decide
  have h2 : IntKind.i64.max = 9223372036854775807 := by decide
  simp [Lit.wf, h1, h2]
  omega
theorem zeroUI (w : World) : (zeroValue 66).run Tryd.prog w = .ok (.agg #[]) w := by kernel_rfl

set_option maxRecDepth 100000 in
set_option maxHeartbeats 1000000 in
theorem localPlaces_any (ns : List Tr.Nd) (tg tc : Nat) (w : World) (hn : ns.length ≤ 5000) (ht : NodesAt w tg ns) :
    Calls Tryd.prog 38 #[.slice (some ⟨tg, 0, none⟩) ns.length tc] w fun e w' => e = .returned (.map (some w.heap.size)) ∧ w'.ownsMap (H := Unit) Tryd.prog 3 unitElem w.heap.size ns.length (Maps.setOf (.agg []) (Tr.keysI (Tr.localsGo ns 0))) ∧ Below w.heap.size w w' := by
  have hmm := @run_makeMap Tryd.prog
  have hm0 := World.ownsMap_made (H := Unit) w Tryd.prog 3 unitElem
  have hb0 : Below w.heap.size w (w.alloc (.map #[] 0)) := (Below.refl _ _).alloc (Nat.le_refl _) _
  have HT := hide ht
  have HM := hide hm0
  clear ht hm0
  go_enter Tryd.func38, Tryd.ntmps38
  go_wp2
  go_loopw [9] (fun t wr => ∃ i : Nat, i ≤ ns.length ∧ t = .int .i64 i ∧ Below w.heap.size w wr ∧ w.heap.size < wr.heap.size ∧ wr.ownsMap (H := Unit) Tryd.prog 3 unitElem w.heap.size i (Maps.setOf (.agg []) (Tr.keysI (Tr.localsGo (ns.take i) 0)))) (fun t _ => ns.length - (intOf t).toNat)
  case atStart => exact ⟨0, Nat.zero_le _, rfl, hb0, by simp, HM.out⟩
  case round =>
    obtain ⟨i, hi, rfl, hB, hz, hown⟩ := hrel
    have HO := hide hown
    clear hown
    by_cases hlt : i < ns.length
    · obtain ⟨c0, c1, c2, c3, c4⟩ := (HT.out.below hB).2 i hlt
      have HK := hide (show Tr.localsGo (ns.take (i + 1)) 0 = Tr.localsGo (ns.take i) 0 ++ (if Tr.isLocal ns[i].kind = true then [i] else []) by
        rw [List.take_succ_eq_append_getElem hlt, Tr.localsGo_snoc, List.length_take, Nat.min_eq_left hi, Nat.zero_add])
      have HY : Hid (keyOf Tryd.prog 3 (.int .i64 (i : Int)) = some (.int .i64 (i : Int))) := hide (Maps.keyOf_int_mk Tryd.underlying3 (wfI i (by omega)))
      by_cases hloc : ns[i].kind = 14 ∨ ns[i].kind = 16
      · have hK2 : Maps.setOf (H := Unit) (.agg []) (Tr.keysI (Tr.localsGo (ns.take (i + 1)) 0)) = (Maps.setOf (.agg []) (Tr.keysI (Tr.localsGo (ns.take i) 0))).put (.int .i64 (i : Int)) (.agg []) := by
          rw [HK.out, if_pos (by rcases hloc with e | e <;> (rw [e]; rfl)), ← Maps.setOf_snoc]; congr 1; simp [Tr.keysI]
        have HK2 := hide hK2
        clear hK2 HK
        generalize ns[i].kind = kd at *
        generalize Tr.localsGo (ns.take i) 0 = L at *
        rcases hloc with rfl | rfl
        all_goals
          go_wp2_with (at_mapUpdate; refine wpList_mapUpdate_own _ rfl _ _ _ 68 rfl 3 66 lawI Tryd.underlying68 _ w.heap.size i _ rfl (HO.out.alloc _) (by unfold maxLen; omega) _ _ _ rfl rfl HY.out _ [] unitElem_mk ?_)
          intro w1 hown1 hgrow1
          have hB1 : Below w.heap.size w w1 := (hB.alloc hB.size _).grown hgrow1 (by simp; omega) (fun k e => by cases e; exact Nat.le_refl _)
          have hz1 : w.heap.size < w1.heap.size := by have := hgrow1.size; simp at this; omega
          rw [← HK2.out] at hown1
          go_wp2
          go_roundw
          case rel => exact ⟨i + 1, by omega, by go_num, hB1, hz1, hown1⟩
          case measure => simp [intOf]; omega
      · have HK2 : Hid (Tr.localsGo (ns.take (i + 1)) 0 = Tr.localsGo (ns.take i) 0) := hide (by
          rw [HK.out, if_neg (by intro h; apply hloc; simpa [Tr.isLocal] using h), List.append_nil])
        have q14 : (ns[i].kind == 14) = false := by simp; omega
        have q16 : (ns[i].kind == 16) = false := by simp; omega
        clear HK
        go_wp2
        go_roundw
        case rel => exact ⟨i + 1, by omega, by go_num, hB.alloc hB.size _, by rw [World.size_alloc]; omega, by rw [HK2.out]; exact (HO.out.alloc _).mono (by omega)⟩
        case measure => simp [intOf]; omega
    · go_wp2
      go_ret
      obtain rfl : i = ns.length := by omega
      have := HO.out
      rw [List.take_length] at this
      exact ⟨rfl, this, hB⟩

/-! ### what is sorted -/
theorem Tr.localsGo_ge (ns : List Tr.Nd) (i : Nat) : ∀ x ∈ Tr.localsGo ns i, i ≤ x ∧ x < i + ns.length := by
  induction ns generalizing i with
  | nil => intro x hx; cases hx
  | cons d r ih =>
    intro x hx
    rw [Tr.localsGo, List.mem_append] at hx
    rw [List.length_cons]
    rcases hx with hx | hx
    · split at hx
      · have : x = i := by simpa using hx
        omega
      · cases hx
    · have := ih (i + 1) x hx; omega
theorem Tr.localsGo_asc (ns : List Tr.Nd) (i : Nat) : (Tr.localsGo ns i).Pairwise (· < ·) := by
  induction ns generalizing i with
  | nil => exact List.Pairwise.nil
  | cons d r ih =>
    rw [Tr.localsGo]
    split
    · rw [List.singleton_append, List.pairwise_cons]
      exact ⟨fun x hx => by have := Tr.localsGo_ge r (i + 1) x hx; omega, ih _⟩
    · exact ih _
theorem Tr.sortI_eq {ss : List Int} {L : List Nat} (hL : L.Pairwise (· < ·)) (hp : ss.Perm (L.map fun (k : Nat) => (k : Int))) : ss.mergeSort (fun x y => decide (x ≤ y)) = L.map fun (k : Nat) => (k : Int) := by
  have h1 : (ss.mergeSort (fun x y => decide (x ≤ y))).Pairwise (fun x y => decide (x ≤ y) = true) := List.pairwise_mergeSort (fun a b c h1 h2 => by rw [decide_eq_true_iff] at *; omega) (fun a b => by rw [Bool.or_eq_true, decide_eq_true_iff, decide_eq_true_iff]; omega) ss
  have h2 : (L.map fun (k : Nat) => (k : Int)).Pairwise (fun x y => decide (x ≤ y) = true) := by
    rw [List.pairwise_map]
    exact hL.imp fun h => by rw [decide_eq_true_iff]; omega
  exact List.Perm.eq_of_pairwise (fun a b _ _ h1 h2 => by rw [decide_eq_true_iff] at h1 h2; omega) h1 h2 ((List.mergeSort_perm ss _).trans hp)
end Go.Proofs.YtmklgiononbmmaaDoor
