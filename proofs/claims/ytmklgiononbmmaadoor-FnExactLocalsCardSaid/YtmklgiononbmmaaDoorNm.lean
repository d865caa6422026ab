/- Walks: Check and Binds, on the program's side. -/
import Derived.Test.YtmklgiononbmmaaDoorNk
import Derived.Test.YtmklgiononbmmaaDoorNl
import Derived.Test.YtmklgiononbmmaaDoorJj
import Derived.Test.YtmklgiononbmmaaDoorJf
namespace Go.Proofs.YtmklgiononbmmaaDoor
open Go.RowKit

set_option maxRecDepth 100000 in
set_option maxHeartbeats 1000000 in
theorem icheck_any (ns : List Tr.Nd) (tg tc : Nat) (w : World) (hn : ns.length ≤ 1048576) (hx : ∀ x ∈ ns, x.text.size ≤ 1048576) (hG : GlobB w) (ht : NodesAt w tg ns) :
    Calls Tryd.prog 10 #[.agg #[.slice (some ⟨tg, 0, none⟩) ns.length tc]] w fun e w' => e = .returned (.agg #[.int .i64 (Tr.checkOf ns).1, .int .i64 (Tr.checkOf ns).2]) ∧ Below w.heap.size w w' := by
  have r2 : Below w.heap.size w ((w.alloc (.cells #[.slice (some ⟨tg, 0, none⟩) ns.length tc] 31)).alloc (.cells #[.int .i64 0, .int .i64 0] 27)) := ((Below.refl _ _).alloc (Nat.le_refl _) _).alloc (by simp) _
  have HV := hide (ivalid_any ns tg tc _ hn hx (ht.below r2))
  rw [Tr.ivalid_eq ns] at HV
  have HT := hide ht
  have HG := hide hG
  have HX := hide hx
  clear ht hG hx
  cases hv : Tr.valid ns
  · have HC : Hid (Tr.checkOf ns = (11, 0)) := hide (by unfold Tr.checkOf; rw [hv]; rfl)
    rw [hv] at HV
    rw [HC.out]
    go_enter Tryd.func10, Tryd.ntmps10
    go_wp2_with fail
    refine HV.out.mono ?_
    rintro e w1 ⟨rfl, hb1⟩
    rw [World.size_alloc, World.size_alloc] at hb1
    obtain ⟨b0, b1, b2, b3, b4⟩ := boxes hb1
    have hB1 := r2.trans (hb1.mono (by omega))
    clear hb1
    go_wp2
    refine bodyPost_ret (v := .agg #[.int .i64 11, .int .i64 0]) (by simp [results, Tryd.results10, go_sem, b1, b2]) rfl ⟨rfl, ?_⟩
    exact (hB1.setCell (p := ⟨w.heap.size + 1, 0, none⟩) (by simp) _).setCell (p := ⟨w.heap.size + 1, 1, none⟩) (by simp) _
  · obtain ⟨hn1, hn5, hgood, hlen⟩ := Tr.valid_facts hv
    have HC := hide (Tr.ilook_eq hv).1
    rw [hv] at HV
    have HLK := hide (fun w' (hb : Below w.heap.size w w') => bindTree_any ns tg tc w' hn1 hn5 hgood hlen HX.out (HG.out.below hb) (HT.out.below hb))
    clear hlen
    go_enter Tryd.func10, Tryd.ntmps10
    go_wp2_with fail
    refine HV.out.mono ?_
    rintro e w1 ⟨rfl, hb1⟩
    rw [World.size_alloc, World.size_alloc] at hb1
    obtain ⟨b0, _⟩ := boxes hb1
    have hB1 := r2.trans (hb1.mono (by omega))
    have hz1 : w.heap.size + 1 + 1 ≤ w1.heap.size := by have := hb1.size; simpa using this
    go_wp2_with fail
    refine (HLK.out _ hB1).mono ?_
    rintro e w2 ⟨wb, kg, kc, cg, bg, rfl, hF, hD, hcg, hbg, hb2⟩
    have hb12 := hb1.trans (hb2.mono hz1)
    have hB2 := hB1.trans (hb2.mono hB1.size)
    have hz2 : w.heap.size + 1 + 1 ≤ w2.heap.size := Nat.le_trans hz1 hb2.size
    have HFF := hide (firstFault_any ns _ wb tg tc kg kc cg bg _ w2 hn5 hF hD)
    rw [show Tr.firstC (Tr.iwalk ns (Tr.kids ns) ns.length (ns.length - 1) [Tr.builtSp] (Tr.st0 ns.length)).codes 0 = Tr.checkOf ns from HC.out] at HFF
    clear hF hD hb2 HV HLK
    go_wp2_with fail
    refine HFF.out.mono ?_
    rintro e w3 ⟨rfl, hb3⟩
    have hb13 := hb12.trans (hb3.mono hz2)
    obtain ⟨b0', b1, b2, b3, b4⟩ := boxes hb13
    have hB3 := hB2.trans (hb3.mono hB2.size)
    clear hb1 hb12 hb13 hb3 HFF b0
    go_wp2
    refine bodyPost_ret (v := .agg #[.int .i64 (Tr.checkOf ns).1, .int .i64 (Tr.checkOf ns).2]) (by simp [results, Tryd.results10, go_sem, b1, b2]) rfl ⟨rfl, ?_⟩
    exact (hB3.setCell (p := ⟨w.heap.size + 1, 0, none⟩) (by simp) _).setCell (p := ⟨w.heap.size + 1, 1, none⟩) (by simp) _

set_option maxRecDepth 100000 in
set_option maxHeartbeats 1000000 in
theorem ibinds_any (ns : List Tr.Nd) (tg tc : Nat) (w : World) (hn : ns.length ≤ 1048576) (hx : ∀ x ∈ ns, x.text.size ≤ 1048576) (hG : GlobB w) (ht : NodesAt w tg ns) :
    Calls Tryd.prog 14 #[.agg #[.slice (some ⟨tg, 0, none⟩) ns.length tc]] w fun e w' => Below w.heap.size w w' ∧ ((Tr.fitsOf ns = false ∧ e = .returned (.slice none 0 0)) ∨ Tr.fitsOf ns = true ∧ (Tr.bindsOf ns).length = ns.length ∧ ∃ g, e = .returned (.slice (some ⟨g, 0, none⟩) (Tr.bindsOf ns).length (Tr.bindsOf ns).length) ∧ w.heap.size ≤ g ∧ w'.ownsRow 0 3 1 (.slice (some ⟨g, 0, none⟩) (Tr.bindsOf ns).length (Tr.bindsOf ns).length) (Tr.bindsOf ns).length ((Tr.bindsOf ns).map vi)) := by
  have r1 : Below w.heap.size w (w.alloc (.cells #[.slice (some ⟨tg, 0, none⟩) ns.length tc] 31)) := (Below.refl _ _).alloc (Nat.le_refl _) _
  have HV := hide (ivalid_any ns tg tc _ hn hx (ht.below r1))
  rw [Tr.ivalid_eq ns] at HV
  have HT := hide ht
  have HG := hide hG
  have HX := hide hx
  clear ht hG hx
  cases hv : Tr.valid ns
  · have HC : Hid (Tr.fitsOf ns = false) := hide (by
      cases hf : Tr.fitsOf ns
      · rfl
      · rw [Tr.fits_valid hf] at hv; cases hv)
    rw [hv] at HV
    go_enter Tryd.func14, Tryd.ntmps14
    go_wp2_with fail
    refine HV.out.mono ?_
    rintro e w1 ⟨rfl, hb1⟩
    have hB1 := r1.trans (hb1.mono (by simp))
    clear hb1
    go_wp2
    go_ret
    exact ⟨hB1, .inl ⟨HC.out, rfl⟩⟩
  · obtain ⟨hn1, hn5, hgood, hlen⟩ := Tr.valid_facts hv
    have HC := hide (Tr.ilook_eq hv)
    rw [hv] at HV
    have HLK := hide (fun w' (hb : Below w.heap.size w w') => bindTree_any ns tg tc w' hn1 hn5 hgood hlen HX.out (HG.out.below hb) (HT.out.below hb))
    have HFC := hide (Tr.fits_codes (ns := ns))
    clear hlen
    go_enter Tryd.func14, Tryd.ntmps14
    go_wp2_with fail
    refine HV.out.mono ?_
    rintro e w1 ⟨rfl, hb1⟩
    have b0 : w1.cell? ⟨w.heap.size, 0, none⟩ = some (.slice (some ⟨tg, 0, none⟩) ns.length tc) := (hb1.cell (p := ⟨w.heap.size, 0, none⟩) (by simp)).trans (by simp)
    have hB1 := r1.trans (hb1.mono (by simp))
    clear hb1
    go_wp2_with fail
    refine (HLK.out _ hB1).mono ?_
    rintro e w2 ⟨wb, kg, kc, cg, bg, rfl, hF, hD, hcg, hbg, hb2⟩
    have hB2 := hB1.trans (hb2.mono hB1.size)
    have HFF := hide (firstFault_any ns _ wb tg tc kg kc cg bg _ w2 hn5 hF hD)
    rw [show Tr.firstC (Tr.iwalk ns (Tr.kids ns) ns.length (ns.length - 1) [Tr.builtSp] (Tr.st0 ns.length)).codes 0 = Tr.checkOf ns from HC.out.1] at HFF
    have HFX := hide hF
    have HDX := hide hD
    have hz1 := hB1.size
    clear hF hD hb2 HV HLK b0
    go_wp2_with fail
    refine HFF.out.mono ?_
    rintro e w3 ⟨rfl, hb3⟩
    have hB3 := hB2.trans (hb3.mono hB2.size)
    have HF3 := hide (HFX.out.kept (Kp.of_below hb3))
    have HD3 := hide (HDX.out.below hb3)
    have f2 := HF3.out.f2
    have hne := Tr.fits_codes (ns := ns)
    clear hb3 HFF HFX HDX
    cases hf : Tr.fitsOf ns
    · have hco : ¬ ((Tr.checkOf ns).1 = 0 ∧ (Tr.checkOf ns).2 = 0) := fun h => by
        have := HFC.out.2 (Prod.ext h.1 h.2)
        rw [hf] at this; cases this
      have HFN : Hid (Tr.fitsOf ns = false) := hide hf
      clear hne HFC HC hf
      by_cases h0 : (Tr.checkOf ns).1 = 0
      · have h1 : ¬ ((Tr.checkOf ns).2 : Int) = 0 := fun h => hco ⟨h0, by omega⟩
        clear hco
        rw [h0]
        go_wp2
        all_goals
          go_ret
          exact ⟨hB3, .inl ⟨HFN.out, rfl⟩⟩
      · clear hco
        go_wp2
        all_goals
          go_ret
          exact ⟨hB3, .inl ⟨HFN.out, rfl⟩⟩
    · have hco := HFC.out.1 hf
      have HBI := hide (HC.out.2 hf)
      have HFN : Hid (Tr.fitsOf ns = true) := hide hf
      have h0 : (Tr.checkOf ns).1 = 0 := by rw [hco]
      have h1 : (Tr.checkOf ns).2 = 0 := by rw [hco]
      have HLN := hide HD3.out.lens.2
      clear hne HFC HC hf hco
      rw [h0, h1]
      go_wp2
      go_ret
      have hbl : (Tr.bindsOf ns).length = ns.length := by rw [← HBI.out]; exact HLN.out
      refine ⟨hB3, .inr ⟨HFN.out, hbl, bg, by rw [hbl]; rfl, by omega, ?_⟩⟩
      rw [hbl, ← HBI.out]
      exact HD3.out.b
end Go.Proofs.YtmklgiononbmmaaDoor
