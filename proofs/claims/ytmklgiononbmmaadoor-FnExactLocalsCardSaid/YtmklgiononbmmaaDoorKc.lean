/- Walks: a function's params and its last E, on the specification's side. -/
import Derived.Test.YtmklgiononbmmaaDoorKb
namespace Go.Proofs.YtmklgiononbmmaaDoor
open Go.RowKit

theorem Tryd.infoKn : (Tryd.prog.info? 86).map (fun i => (i.zero, i.size, i.bytes)) = some (some (.agg #[.string ⟨#[]⟩, .int .i64 0]), 2, 24) := by kernel_rfl
theorem cell_two (w : World) (x : ByteArray) (a : Nat) (t : TypeId) : ∀ (j : Nat) (u : Value), (Tr.knCells [(x, a)])[j]? = some u → (w.alloc (.cells #[.string x, .int .i64 a] t)).cell? ((⟨w.heap.size, 0, none⟩ : Addr).add j) = some u := by
  intro j u h
  rw [add_plain, Nat.zero_add, World.cell?, heap_alloc_new']
  simpa [Tr.knCells] using h
theorem Tr.knCells_snoc (kn : List Tr.Kn) (p : Tr.Kn) : Tr.knCells (kn ++ [p]) = Tr.knCells kn ++ Tr.knCells [p] := by simp [Tr.knCells]
theorem row_kept {cg bg : Nat} {w w' : World} {base size : Nat} {e : TypeId} {g n cap : Nat} {xs : List Value} (h : w.ownsRow base e size (.slice (some ⟨g, 0, none⟩) n cap) n xs) (hk : Kp cg bg w w') (h1 : g ≠ cg) (h2 : g ≠ bg) : w'.ownsRow base e size (.slice (some ⟨g, 0, none⟩) n cap) n xs :=
  row_same h (hk.block g (h.lt g rfl).2 h1 h2)
theorem Kp.grown {cg bg : Nat} {w w1 w2 : World} {row : Option Nat} (h : Kp cg bg w w1) (hg : w1.grownBy w2 row) (hr : ∀ q, row = some q → w.heap.size ≤ q) : Kp cg bg w w2 :=
  ⟨hg.os.trans h.os, hg.tape.trans h.tape, hg.output.trans h.output, Nat.le_trans h.size hg.size, fun b hb h1 h2 => (hg.block b (Nat.lt_of_lt_of_le hb h.size) (fun e => by have := hr b e.symm; omega)).trans (h.block b hb h1 h2)⟩
theorem Dy.grown {n cg bg : Nat} {s : Tr.St} {w w' : World} {row : Option Nat} (h : Dy n cg bg s w) (hg : w.grownBy w' row) (h1 : row ≠ some cg) (h2 : row ≠ some bg) : Dy n cg bg s w' :=
  ⟨h.ne, row_same h.c (hg.block cg (h.c.lt cg rfl).2 (fun e => h1 e.symm)), row_same h.b (hg.block bg (h.b.lt bg rfl).2 (fun e => h2 e.symm))⟩
theorem Tr.dupS_at (ns : List Tr.Nd) (p : Nat) (ls : List Nat) (j : Nat) (s : Tr.St) (h : j < ls.length) : Tr.dupS ns p (ls.take (j + 1)) s = if Tr.textOf ns ls[j] = Tr.textOf ns p then Tr.faultS p 8 (Tr.dupS ns p (ls.take j) s) else Tr.dupS ns p (ls.take j) s := by
  unfold Tr.dupS
  rw [List.take_succ_eq_append_getElem h, List.foldl_append]; rfl
theorem Tr.fnS_at (G : Nat → List Tr.Kn → Tr.St → Tr.St) (ns : List Tr.Nd) (ks : List (List Nat)) (ls : List Nat) (i : Nat) (kn : List Tr.Kn) (df : Bool) (s : Tr.St) (h : i + 1 < ls.length) :
    Tr.fnS G ns ks (ls.drop i) (ls.take i) kn df s = Tr.fnS G ns ks (ls.drop (i + 1)) (ls.take (i + 1)) (kn ++ [(Tr.textOf ns (ls[i]'(by omega)), ls[i]'(by omega))]) (df || !decide ((Tr.kidsOf ks (ls[i]'(by omega))).length = 0))
      (Tr.parS G ns ks (ls[i]'(by omega)) (ls.take i) kn df s) := by
  rw [List.drop_eq_getElem_cons (by omega : i < ls.length), List.drop_eq_getElem_cons h, Tr.fnS, List.take_succ_eq_append_getElem (by omega : i < ls.length)]
theorem Tr.fnS_last (G : Nat → List Tr.Kn → Tr.St → Tr.St) (ns : List Tr.Nd) (ks : List (List Nat)) (ls : List Nat) (i : Nat) (kn : List Tr.Kn) (df : Bool) (s : Tr.St) (h : i + 1 = ls.length) :
    Tr.fnS G ns ks (ls.drop i) (ls.take i) kn df s = G (ls[i]'(by omega)) kn s := by
  rw [List.drop_eq_getElem_cons (by omega : i < ls.length), List.drop_of_length_le (by omega), Tr.fnS]
theorem lies_formS {w2 : World} {b size : Nat} {e : TypeId} {v2 : Value} {n g H : Nat} {xs : List Value} (hown : w2.ownsRow b e size v2 n xs) (hnil : ¬ v2 = .slice none 0 0)
    (hat : v2.ownBlock = some g ∨ v2.ownBlock = some H) : ∃ g2 c2, v2 = .slice (some ⟨g2, 0, none⟩) n c2 ∧ (g2 = g ∨ g2 = H) := by
  rcases hown.2 with ⟨h, _⟩ | ⟨g2, c2, _, h, _⟩
  · exact absurd h hnil
  · subst h
    refine ⟨g2, c2, rfl, ?_⟩
    simpa [Value.ownBlock] using hat
/-- What go1 does, up to a place. -/
def GoOk (ns : List Tr.Nd) (ks : List (List Nat)) (wb tg tc kg kc cg bg f : Nat) (G : Nat → List Tr.Kn → Tr.St → Tr.St) : Prop :=
  ∀ (k kng knc : Nat) (kn : List Tr.Kn) (s : Tr.St) (w : World), k < f → k < ns.length → kn.length + 5001 * f ≤ 100000000 → Fx ns ks wb tg tc kg kc cg bg w → Dy ns.length cg bg s w → KnAt w kng kn → kng ≠ cg → kng ≠ bg →
    Calls Tryd.prog 51 #[.pointer (some ⟨wb, 0, none⟩), .int .i64 k, .slice (some ⟨kng, 0, none⟩) kn.length knc] w fun e w' => e = .returned (.tuple #[]) ∧ Kp cg bg w w' ∧ Dy ns.length cg bg (G k kn s) w'

set_option maxRecDepth 100000 in
set_option maxHeartbeats 4000000 in
theorem function_any (ns : List Tr.Nd) (ks : List (List Nat)) (wb tg tc kg kc cg bg f : Nat) (G : Nat → List Tr.Kn → Tr.St → Tr.St) (hG : GoOk ns ks wb tg tc kg kc cg bg f G) (hn : ns.length ≤ 5000)
    (hkid : ∀ k (h : k < ks.length), ∀ x ∈ ks[k], x < k) (ls : List Nat) (rg rc kng knc : Nat) (kn : List Tr.Kn) (s : Tr.St) (w : World)
    (hls : ∀ x ∈ ls, x < f ∧ x < ns.length) (hl1 : 1 ≤ ls.length) (hl2 : ls.length ≤ 5000) (hb : kn.length + 5001 * f + 5001 ≤ 100000000)
    (hF : Fx ns ks wb tg tc kg kc cg bg w) (hD : Dy ns.length cg bg s w) (hK : KnAt w kng kn) (hI : IntsAt w rg 0 ls) (hr1 : rg ≠ cg) (hr2 : rg ≠ bg) (hc1 : cg < w.heap.size) (hc2 : bg < w.heap.size) :
    Calls Tryd.prog 77 #[.pointer (some ⟨wb, 0, none⟩), .slice (some ⟨rg, 0, none⟩) ls.length rc, .slice (some ⟨kng, 0, none⟩) kn.length knc] w fun e w' => e = .returned (.tuple #[]) ∧ Kp cg bg w w' ∧ Dy ns.length cg bg (Tr.fnS G ns ks ls [] kn false s) w' := by
  obtain ⟨iK, hKi, hKz, hKs, hKb⟩ := info_parts Tryd.infoKn
  have HG := hide hG
  have HF := hide hF
  have HD := hide hD
  have HK := hide hK
  have HI := hide hI
  have HLS := hide hls
  have HKD := hide hkid
  clear hG hF hD hK hI hls hkid
  go_enter Tryd.func77, Tryd.ntmps77
  go_wp2_with (at_builtin; refine wpList_append_own_at _ rfl _ _ 83 rfl w.heap.size 86 iK _ 2 24 Tryd.underlying83 hKi hKz hKs hKb rfl (by decide) (.slice (some ⟨w.heap.size, 0, none⟩) 0 0) 0 [] rfl (World.ownsRow_lit (base := w.heap.size) w #[] 0 (Nat.le_refl _) (Nat.zero_le _) rfl) ⟨kng, 0, none⟩ kn.length knc (Tr.knCells kn) rfl (Tr.knCells_len kn) (kn_news (HK.out.kept (cg := w.heap.size) (bg := w.heap.size) (Kp.of_below ((Below.refl _ _).alloc (Nat.le_refl _) _)) (Nat.ne_of_lt HK.out.1) (Nat.ne_of_lt HK.out.1))) (Tr.knCells_one kn) (by unfold maxLen; omega) (by omega) (by simp) ?_)
  intro v6 w1 hown1 hgrow1 hnil1 hat1
  obtain ⟨g6, c6, rfl, hg6⟩ := lies_formS hown1 hnil1 (by simpa [Value.ownBlock] using hat1)
  have hg6b : w.heap.size ≤ g6 := by rcases hg6 with h | h <;> (try simp at h) <;> omega
  have hK1 : Kp cg bg w w1 := ((Kp.refl _ _ _).alloc _).grown hgrow1 (fun q e => by simp [Value.ownBlock] at e; omega)
  have hD1 : Dy ns.length cg bg s w1 := (HD.out.below ((Below.refl _ _).alloc (Nat.le_refl _) _)).grown hgrow1 (by simp [Value.ownBlock]; omega) (by simp [Value.ownBlock]; omega)
  have HO1 := hide hown1
  clear hgrow1 hnil1 hat1 hown1
  go_wp2
  go_loopw [6, 7, 8] (fun v6 v7 t wr => ∃ (i g6 c6 : Nat) (kni : List Tr.Kn) (df : Bool) (si : Tr.St), i + 1 ≤ ls.length ∧ t = .int .i64 i ∧ v7 = .bool df ∧ v6 = .slice (some ⟨g6, 0, none⟩) kni.length c6 ∧ w.heap.size ≤ g6 ∧ kni.length = kn.length + i ∧
      wr.ownsRow w.heap.size 86 2 (.slice (some ⟨g6, 0, none⟩) kni.length c6) kni.length (Tr.knCells kni) ∧ Kp cg bg w wr ∧ Dy ns.length cg bg si wr ∧ Tr.fnS G ns ks ls [] kn false s = Tr.fnS G ns ks (ls.drop i) (ls.take i) kni df si) (fun _ _ t _ => ls.length - (intOf t).toNat)
  case atStart => exact ⟨0, g6, c6, kn, false, s, hl1, rfl, rfl, rfl, hg6b, rfl, HO1.out, hK1, hD1, rfl⟩
  case round =>
    obtain ⟨i, g6, c6, kni, df, si, hi, rfl, rfl, rfl, hg6b, hkl, ho, hKr, hDr, he⟩ := hrel
    have HE := hide he
    have HO := hide ho
    have HDr := hide hDr
    have HKLN := hide hkl
    have hkb : kni.length ≤ kn.length + i := Nat.le_of_eq hkl
    clear he ho hDr hkl
    have hFr := HF.out.kept hKr
    have hIr : IntsAt wr rg 0 ls := ⟨Nat.lt_of_lt_of_le HI.out.1 hKr.size, fun j hj => (hKr.cell (p := ⟨rg, 0 + j, none⟩) HI.out.1 hr1 hr2).trans (HI.out.2 j hj)⟩
    have hx := hIr.2 i (by omega)
    rw [Nat.zero_add] at hx
    have hxl := HLS.out _ (List.getElem_mem (by omega : i < ls.length))
    have HFr := hide hFr
    have HIr := hide hIr
    clear hFr hIr
    by_cases hlt : i + 1 < ls.length
    · have HS := hide (Tr.fnS_at G ns ks ls i kni df si hlt)
      have hlti : (i : Int) + 1 < (ls.length : Int) := by omega
      have hlp : ls[i] < ks.length := by rw [HFr.out.len]; exact hxl.2
      obtain ⟨kg2, kc2, hkc, hkg1, hkg2, hki⟩ := HFr.out.kids ls[i] hlp
      have HKO := hide (show Tr.kidsOf ks ls[i] = ks[ls[i]] by simp [Tr.kidsOf, hlp])
      have HKL := hide (HKD.out ls[i] hlp)
      have HDU := hide (fun j (hj : j < ls.length) => Tr.dupS_at ns ls[i] ls j si hj)
      have htx := (HFr.out.nodes.2 ls[i] hxl.2).2.2.2.1
      have HTX := hide (Tr.textOf_at hxl.2)
      generalize hpp : ls[i] = p at *
      generalize ks[p] = kp at *
      generalize hnt : ns[p].text = tp at *
      have HNT := hide hnt
      clear hnt
      go_wp2
      go_loopw [10] (fun t wq => ∃ (j : Nat), j ≤ i ∧ t = .int .i64 j ∧ Kp cg bg wr wq ∧ Dy ns.length cg bg (Tr.dupS ns p (ls.take j) si) wq) (fun t _ => i - (intOf t).toNat)
      case atStart => exact ⟨0, Nat.zero_le _, rfl, Kp.refl _ _ _, HDr.out⟩
      case round =>
        obtain ⟨j, hj, rfl, hKq, hDq⟩ := hrel
        have hFq := HFr.out.kept hKq
        have HFq := hide hFq
        have HDq := hide hDq
        have f0 := hFq.f0
        have f1 := hFq.f1
        have htq := (hFq.nodes.2 p hxl.2).2.2.2.1
        rw [HNT.out] at htq
        clear hFq hDq
        by_cases hji : j < i
        · have hj1 := HIr.out.2 j (by omega)
          rw [Nat.zero_add] at hj1
          have hj2 := (hKq.cell (p := ⟨rg, j, none⟩) HIr.out.1 hr1 hr2).trans hj1
          have hxj := HLS.out ls[j] (List.getElem_mem (by omega : j < ls.length))
          have htj := (HFq.out.nodes.2 ls[j] hxj.2).2.2.2.1
          have HDJ := hide (HDU.out j (by omega))
          have HTJ := hide (Tr.textOf_at hxj.2)
          have hba := ba_eq ns[ls[j]].text tp
          generalize ns[ls[j]].text = tj at *
          generalize ls[j] = xj at *
          cases hqq : (tj.toList == tp.toList)
          · have HD2 : Hid (Tr.dupS ns p (ls.take (j + 1)) si = Tr.dupS ns p (ls.take j) si) := hide (by rw [HDJ.out, HTJ.out, HTX.out, if_neg (fun h => by rw [hba.2 h] at hqq; cases hqq)])
            go_wp2
            go_quiet (fail)
            go_wp2
            go_roundw
            case rel => exact ⟨j + 1, by omega, by go_num, hKq.below (below_drewN (Below.refl _ _) _), by rw [HD2.out]; exact HDq.out.below (below_drewN (Below.refl _ _) _)⟩
            case measure => simp [intOf]; omega
          · have HD2 : Hid (Tr.dupS ns p (ls.take (j + 1)) si = Tr.faultS p 8 (Tr.dupS ns p (ls.take j) si)) := hide (by rw [HDJ.out, HTJ.out, HTX.out, if_pos (hba.1 hqq)])
            go_wp2
            go_quiet (fail)
            go_wp2_with fail
            refine (fault_any ns ks wb tg tc kg kc cg bg p 8 _ _ hxl.2 (HFq.out.kept (Kp.of_below (below_drewN (Below.refl _ _) _))) (HDq.out.below (below_drewN (Below.refl _ _) _))).mono ?_
            rintro e w2 ⟨rfl, hk2, hd2⟩
            go_wp2
            go_roundw
            case rel => exact ⟨j + 1, by omega, by go_num, (hKq.below (below_drewN (Below.refl _ _) _)).trans hk2, by rw [HD2.out]; exact hd2⟩
            case measure => simp [intOf]; omega
        · obtain rfl : j = i := by omega
          have hkq := (hKq.cell (p := ⟨kg, p, none⟩) HFr.out.klt HFr.out.kg1 HFr.out.kg2).trans hkc
          have HKQ := hide hkq
          cases kp with
          | nil =>
            cases df with
            | false =>
              have HPAR : Hid (Tr.parS G ns ks p (ls.take j) kni false si = Tr.dupS ns p (ls.take j) si) := hide (by unfold Tr.parS; rw [HKO.out]; rfl)
              have hKW := hKq
              have hDW := HDq.out
              have hFW := HFr.out.kept hKW
              have fW0 := hFW.f0
              have fWt := (hFW.nodes.2 p hxl.2).2.2.2.1
              rw [HNT.out] at fWt
              have hoW := row_kept HO.out hKW (by omega) (by omega)
              have hsW := hKW.size
              have hsR := hKr.size
              have HDW := hide hDW
              clear hFW hDW
              go_wp2_with (at_builtin; refine wpList_append_own_at _ rfl _ _ 83 rfl w.heap.size 86 iK _ 2 24 Tryd.underlying83 hKi hKz hKs hKb rfl (by decide) (.slice (some ⟨g6, 0, none⟩) kni.length c6) kni.length (Tr.knCells kni) rfl (hoW.alloc _) ⟨wr.heap.size, 0, none⟩ 1 1 (Tr.knCells [(tp, p)]) rfl rfl (cell_two _ _ _ _) (Tr.knCells_one _) (by unfold maxLen; omega) (by omega) (by simp; omega) ?_)
              intro v7 w7 hown7 hgrow7 hnil7 hat7
              obtain ⟨g7, c7, rfl, hg7⟩ := lies_formS hown7 hnil7 (by simpa [Value.ownBlock] using hat7)
              have hg7b : w.heap.size ≤ g7 := by rcases hg7 with h | h <;> (try simp at h) <;> omega
              have hK7 : Kp cg bg w w7 := ((hKr.trans hKW).alloc _).grown hgrow7 (fun q e => by simp [Value.ownBlock] at e; omega)
              have hD7 := (HDW.out.below ((Below.refl _ _).alloc (Nat.le_refl _) _)).grown hgrow7 (by simp [Value.ownBlock]; omega) (by simp [Value.ownBlock]; omega)
              clear hgrow7 hnil7 hat7
              go_wp2
              go_roundw
              case rel =>
                refine ⟨j + 1, g7, c7, kni ++ [(tp, p)], false, Tr.dupS ns p (ls.take j) si, by omega, by go_num, rfl, by simp, hg7b, by have := HKLN.out; simp; omega, ?_, hK7, hD7, ?_⟩
                · rw [List.length_append, List.length_singleton, Tr.knCells_snoc]; exact hown7
                · rw [HE.out, HS.out, HTX.out, HKO.out, HPAR.out]; rfl
              case measure => simp [intOf]; omega
            | true =>
              have HPAR : Hid (Tr.parS G ns ks p (ls.take j) kni true si = Tr.faultS p 10 (Tr.dupS ns p (ls.take j) si)) := hide (by unfold Tr.parS; rw [HKO.out]; rfl)
              go_wp2_with fail
              refine (fault_any ns ks wb tg tc kg kc cg bg p 10 _ _ hxl.2 HFq.out HDq.out).mono ?_
              rintro e w2 ⟨rfl, hk2, hd2⟩
              have hKW := hKq.trans hk2
              have hDW := hd2
              have f1W := (HFr.out.kept hKW).f1
              have hkW := (hKW.cell (p := ⟨kg, p, none⟩) HFr.out.klt HFr.out.kg1 HFr.out.kg2).trans hkc
              have hFW := HFr.out.kept hKW
              have fW0 := hFW.f0
              have fWt := (hFW.nodes.2 p hxl.2).2.2.2.1
              rw [HNT.out] at fWt
              have hoW := row_kept HO.out hKW (by omega) (by omega)
              have hsW := hKW.size
              have hsR := hKr.size
              have HDW := hide hDW
              clear hFW hDW
              go_wp2_with (at_builtin; refine wpList_append_own_at _ rfl _ _ 83 rfl w.heap.size 86 iK _ 2 24 Tryd.underlying83 hKi hKz hKs hKb rfl (by decide) (.slice (some ⟨g6, 0, none⟩) kni.length c6) kni.length (Tr.knCells kni) rfl (hoW.alloc _) ⟨w2.heap.size, 0, none⟩ 1 1 (Tr.knCells [(tp, p)]) rfl rfl (cell_two _ _ _ _) (Tr.knCells_one _) (by unfold maxLen; omega) (by omega) (by simp; omega) ?_)
              intro v7 w7 hown7 hgrow7 hnil7 hat7
              obtain ⟨g7, c7, rfl, hg7⟩ := lies_formS hown7 hnil7 (by simpa [Value.ownBlock] using hat7)
              have hg7b : w.heap.size ≤ g7 := by rcases hg7 with h | h <;> (try simp at h) <;> omega
              have hK7 : Kp cg bg w w7 := ((hKr.trans hKW).alloc _).grown hgrow7 (fun q e => by simp [Value.ownBlock] at e; omega)
              have hD7 := (HDW.out.below ((Below.refl _ _).alloc (Nat.le_refl _) _)).grown hgrow7 (by simp [Value.ownBlock]; omega) (by simp [Value.ownBlock]; omega)
              clear hgrow7 hnil7 hat7
              go_wp2
              go_roundw
              case rel =>
                refine ⟨j + 1, g7, c7, kni ++ [(tp, p)], true, Tr.faultS p 10 (Tr.dupS ns p (ls.take j) si), by omega, by go_num, rfl, by simp, hg7b, by have := HKLN.out; simp; omega, ?_, hK7, hD7, ?_⟩
                · rw [List.length_append, List.length_singleton, Tr.knCells_snoc]; exact hown7
                · rw [HE.out, HS.out, HTX.out, HKO.out, HPAR.out]; rfl
              case measure => simp [intOf]; omega
          | cons x xr =>
            have HPAR : Hid (Tr.parS G ns ks p (ls.take j) kni df si = G x kni (Tr.dupS ns p (ls.take j) si)) := hide (by unfold Tr.parS; rw [HKO.out])
            have hx00 := hki.2 0 (by simp)
            simp only [Nat.zero_add, List.getElem_cons_zero] at hx00
            have hx0 := (hKq.cell (p := ⟨kg2, 0, none⟩) hki.1 hkg1 hkg2).trans hx00
            have hxp := HKL.out x (by simp)
            have HGO := hide (HG.out x g6 c6 kni (Tr.dupS ns p (ls.take j) si) _ (by omega) (by omega) (by omega) HFq.out HDq.out (kn_of_row (row_kept HO.out hKq (by omega) (by omega))) (by omega) (by omega))
            have hxl1 : ((x :: xr).length : Int) = (xr.length : Int) + 1 := by simp
            cases df
            all_goals
              go_wp2_with fail
              refine HGO.out.mono ?_
              rintro e w2 ⟨rfl, hk2, hd2⟩
              have hKW := hKq.trans hk2
              have hDW := hd2
              have hFW := HFr.out.kept hKW
              have fW0 := hFW.f0
              have fWt := (hFW.nodes.2 p hxl.2).2.2.2.1
              rw [HNT.out] at fWt
              have hoW := row_kept HO.out hKW (by omega) (by omega)
              have hsW := hKW.size
              have hsR := hKr.size
              have HDW := hide hDW
              clear hFW hDW
              go_wp2_with (at_builtin; refine wpList_append_own_at _ rfl _ _ 83 rfl w.heap.size 86 iK _ 2 24 Tryd.underlying83 hKi hKz hKs hKb rfl (by decide) (.slice (some ⟨g6, 0, none⟩) kni.length c6) kni.length (Tr.knCells kni) rfl (hoW.alloc _) ⟨w2.heap.size, 0, none⟩ 1 1 (Tr.knCells [(tp, p)]) rfl rfl (cell_two _ _ _ _) (Tr.knCells_one _) (by unfold maxLen; omega) (by omega) (by simp; omega) ?_)
              intro v7 w7 hown7 hgrow7 hnil7 hat7
              obtain ⟨g7, c7, rfl, hg7⟩ := lies_formS hown7 hnil7 (by simpa [Value.ownBlock] using hat7)
              have hg7b : w.heap.size ≤ g7 := by rcases hg7 with h | h <;> (try simp at h) <;> omega
              have hK7 : Kp cg bg w w7 := ((hKr.trans hKW).alloc _).grown hgrow7 (fun q e => by simp [Value.ownBlock] at e; omega)
              have hD7 := (HDW.out.below ((Below.refl _ _).alloc (Nat.le_refl _) _)).grown hgrow7 (by simp [Value.ownBlock]; omega) (by simp [Value.ownBlock]; omega)
              clear hgrow7 hnil7 hat7
              go_wp2
              go_roundw
              case rel =>
                refine ⟨j + 1, g7, c7, kni ++ [(tp, p)], true, G x kni (Tr.dupS ns p (ls.take j) si), by omega, by go_num, rfl, by simp, hg7b, by have := HKLN.out; simp; omega, ?_, hK7, hD7, ?_⟩
                · rw [List.length_append, List.length_singleton, Tr.knCells_snoc]; exact hown7
                · rw [HE.out, HS.out, HTX.out, HKO.out, HPAR.out]; rfl
              case measure => simp [intOf]; omega
    · have HS := hide (Tr.fnS_last G ns ks ls i kni df si (by omega))
      have HGO := hide (HG.out ls[i] g6 c6 kni si wr hxl.1 hxl.2 (by omega) HFr.out HDr.out (kn_of_row HO.out) (by omega) (by omega))
      obtain ⟨m, hm⟩ : ∃ m, ls.length = m + 1 := ⟨ls.length - 1, by omega⟩
      obtain rfl : i = m := by omega
      generalize ls[i] = p at *
      go_wp2_with fail
      refine HGO.out.mono ?_
      rintro e w2 ⟨rfl, hk2, hd2⟩
      go_wp2
      (first | go_end0 | refine bodyPost_ret (results_none rfl _ _ _) rfl ?_)
      exact ⟨rfl, hKr.trans hk2, by rw [HE.out, HS.out]; exact hd2⟩
end Go.Proofs.YtmklgiononbmmaaDoor
