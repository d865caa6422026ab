/- The walk of the law on ValidWorld. -/
import Derived.Test.YthlddankekghbaaZe
import Derived.Deep.CutRange
namespace Go.Proofs.Ythlddankekghbaa.Wd
open Go.RowKit

theorem box2 (w : World) (a b : Value) (t : TypeId) : Below w.heap.size w (w.alloc (.cells #[a, b] t)) ∧ (w.alloc (.cells #[a, b] t)).cell? ⟨w.heap.size, 0, none⟩ = some a ∧ (w.alloc (.cells #[a, b] t)).cell? ⟨w.heap.size, 1, none⟩ = some b ∧ (w.alloc (.cells #[a, b] t)).heap.size = w.heap.size + 1 ∧ (w.alloc (.cells #[a, b] t)).frozen? ⟨w.heap.size, 0, none⟩ = false ∧ (w.alloc (.cells #[a, b] t)).frozen? ⟨w.heap.size, 1, none⟩ = false :=
  ⟨(Below.refl _ _).alloc (Nat.le_refl _) _, by simp, by simp, World.size_alloc _ _, by simp, by simp⟩
/-- toWorld's own boxes, in a later world. -/
structure TB (w : World) (vn xf xn : Value) (W : World) : Prop where
  B : Below w.heap.size w W
  n : W.cell? ⟨w.heap.size, 1, none⟩ = some vn
  yf : W.cell? ⟨w.heap.size + 1, 0, none⟩ = some (.slice none 0 0)
  yn : W.cell? ⟨w.heap.size + 1, 1, none⟩ = some (.slice none 0 0)
  of : W.cell? ⟨w.heap.size + 1 + 1, 0, none⟩ = some xf
  on : W.cell? ⟨w.heap.size + 1 + 1, 1, none⟩ = some xn
  g0 : W.frozen? ⟨w.heap.size + 1, 0, none⟩ = false
  g1 : W.frozen? ⟨w.heap.size + 1, 1, none⟩ = false
  f0 : W.frozen? ⟨w.heap.size + 1 + 1, 0, none⟩ = false
  f1 : W.frozen? ⟨w.heap.size + 1 + 1, 1, none⟩ = false
  z : w.heap.size + 1 + 1 < W.heap.size
theorem TB.below {w W W' : World} {vn xf xn : Value} (h : TB w vn xf xn W) (hb : Below W.heap.size W W') : TB w vn xf xn W' := by
  have hz := h.z
  have e : ∀ b o, b ≤ w.heap.size + 1 + 1 → W'.cell? ⟨b, o, none⟩ = W.cell? ⟨b, o, none⟩ := fun b o hb' => hb.cell (p := ⟨b, o, none⟩) (by show b < _; omega)
  have f : ∀ b o, b ≤ w.heap.size + 1 + 1 → W'.frozen? ⟨b, o, none⟩ = W.frozen? ⟨b, o, none⟩ := fun b o hb' => hb.frozen (p := ⟨b, o, none⟩) (by show b < _; omega)
  exact ⟨h.B.trans (hb.mono h.B.size), (e _ _ (by omega)).trans h.n, (e _ _ (by omega)).trans h.yf, (e _ _ (by omega)).trans h.yn, (e _ _ (by omega)).trans h.of, (e _ _ (by omega)).trans h.on, (f _ _ (by omega)).trans h.g0, (f _ _ (by omega)).trans h.g1, (f _ _ (by omega)).trans h.f0, (f _ _ (by omega)).trans h.f1, Nat.lt_of_lt_of_le hz hb.size⟩
theorem TB.start (w : World) (vf vn : Value) : TB w vn (.slice none 0 0) (.slice none 0 0) (((w.alloc (.cells #[vf, vn] 25)).alloc (.cells #[.slice none 0 0, .slice none 0 0] 30)).alloc (.cells #[.slice none 0 0, .slice none 0 0] 30)) := by
  have k1 : Below (w.heap.size + 1) (w.alloc (.cells #[vf, vn] 25)) (((w.alloc (.cells #[vf, vn] 25)).alloc (.cells #[.slice none 0 0, .slice none 0 0] 30)).alloc (.cells #[.slice none 0 0, .slice none 0 0] 30)) := ((Below.refl _ _).alloc (by simp) _).alloc (by simp) _
  have k2 : Below (w.heap.size + 1 + 1) ((w.alloc (.cells #[vf, vn] 25)).alloc (.cells #[.slice none 0 0, .slice none 0 0] 30)) (((w.alloc (.cells #[vf, vn] 25)).alloc (.cells #[.slice none 0 0, .slice none 0 0] 30)).alloc (.cells #[.slice none 0 0, .slice none 0 0] 30)) := (Below.refl _ _).alloc (by simp) _
  have m2 := box2 (w.alloc (.cells #[vf, vn] 25)) (.slice none 0 0) (.slice none 0 0) 30
  have m3 := box2 ((w.alloc (.cells #[vf, vn] 25)).alloc (.cells #[.slice none 0 0, .slice none 0 0] 30)) (.slice none 0 0) (.slice none 0 0) 30
  simp only [World.size_alloc] at m2 m3
  refine ⟨(((Below.refl _ _).alloc (Nat.le_refl _) _).alloc (by simp) _).alloc (by simp; omega) _, (k1.cell (p := ⟨w.heap.size, 1, none⟩) (Nat.lt_succ_self _)).trans (by simp), (k2.cell (p := ⟨w.heap.size + 1, 0, none⟩) (Nat.lt_succ_self _)).trans m2.2.1, (k2.cell (p := ⟨w.heap.size + 1, 1, none⟩) (Nat.lt_succ_self _)).trans m2.2.2.1, m3.2.1, m3.2.2.1, ?_, ?_, ?_, ?_, by simp⟩
  · exact (k2.frozen (p := ⟨w.heap.size + 1, 0, none⟩) (Nat.lt_succ_self _)).trans m2.2.2.2.2.1
  · exact (k2.frozen (p := ⟨w.heap.size + 1, 1, none⟩) (Nat.lt_succ_self _)).trans m2.2.2.2.2.2
  · exact m3.2.2.2.2.1
  · exact m3.2.2.2.2.2
theorem TB.put {w W : World} {vn xf xn : Value} (h : TB w vn xf xn W) (v : Value) : TB w vn v xn (W.setCell ⟨w.heap.size + 1 + 1, 0, none⟩ v) := by
  have hs : (W.setCell ⟨w.heap.size + 1 + 1, 0, none⟩ v).heap.size = W.heap.size := by simp
  have e : ∀ a : Addr, (⟨w.heap.size + 1 + 1, 0, none⟩ : Addr) ≠ a → (W.setCell ⟨w.heap.size + 1 + 1, 0, none⟩ v).cell? a = W.cell? a := fun a ha => World.cell?_setCell_other _ _ _ _ ha
  refine ⟨h.B.setCell (p := ⟨w.heap.size + 1 + 1, 0, none⟩) (by show w.heap.size ≤ w.heap.size + 1 + 1; omega) _, (e _ (by simp)).trans h.n, (e _ (by simp)).trans h.yf, (e _ (by simp)).trans h.yn, World.cell?_setCell_same _ _ _ h.of, (e _ (by simp)).trans h.on, ?_, ?_, ?_, ?_, by rw [hs]; exact h.z⟩
  · simpa using h.g0
  · simpa using h.g1
  · simpa using h.f0
  · simpa using h.f1
theorem FilesO.set {w : World} {g o : Nat} {l : List Fl} (h : FilesO w g o l) (a : Addr) (hg : g ≠ a.block) (v : Value) : FilesO (w.setCell a v) g o l := h.heap (Below.heap_setCell _ _ _ _ hg)
theorem StrsO.set {w : World} {g o : Nat} {l : List ByteArray} (h : StrsO w g o l) (a : Addr) (hg : g ≠ a.block) (v : Value) : StrsO (w.setCell a v) g o l := h.heap (Below.heap_setCell _ _ _ _ hg)

set_option maxRecDepth 100000 in
set_option maxHeartbeats 1000000 in
theorem toWorld_any (fs : List Fl) (ns : List ByteArray) (vf vn : Value) (w : World) (hf : fs.length ≤ 1048576) (hn : ns.length ≤ 1048576) (htf : FilesV w vf fs) (htn : StrsV w vn ns) :
    Calls Try.prog 6 #[.agg #[vf, vn]] w fun e w' => ∃ g h, e = .returned (.agg #[.slice (some ⟨g, 0, none⟩) fs.length fs.length, .slice (some ⟨h, 0, none⟩) ns.length ns.length]) ∧ FilesO w' g 0 fs ∧ StrsO w' h 0 ns ∧ Below w.heap.size w w' := by
  have HF := hide (fun w' (hb : Below w.heap.size w w') => toF_any fs vf w' hf (htf.below hb))
  have HN := hide (fun w' (hb : Below w.heap.size w w') => toT_any ns vn w' hn (htn.below hb))
  have t0 := TB.start w vf vn
  clear htf htn
  go_enter Try.func6, Try.ntmps6
  go_wp2_with fail
  refine (HF.out _ t0.B).mono ?_
  rintro e w1 ⟨rfl, hF1, hb1⟩
  have t1 := t0.below hb1
  have hz0 := t0.z
  simp only [World.size_alloc] at hF1 hz0 ⊢
  have a0 := t1.of
  have a1 := t1.f0
  have a2 := t1.n
  have t2 := t1.put (.slice (some ⟨w.heap.size + 1 + 1 + 1, 0, none⟩) fs.length fs.length)
  have hF2 := hide (hF1.set ⟨w.heap.size + 1 + 1, 0, none⟩ (by show w.heap.size + 1 + 1 + 1 ≠ w.heap.size + 1 + 1; omega) (.slice (some ⟨w.heap.size + 1 + 1 + 1, 0, none⟩) fs.length fs.length))
  have a3 := t2.n
  have HT2 := hide t2
  clear hb1 t0 t1 hF1 t2
  go_wp2_with fail
  refine (HN.out _ HT2.out.B).mono ?_
  rintro e w3 ⟨rfl, hN3, hb3⟩
  have t3 := HT2.out.below hb3
  have hz3 := HT2.out.z
  have hF3 := hide (hF2.out.below hb3)
  simp only [size_set] at hN3 hz3 ⊢
  have b0 := t3.of
  have b1 := t3.on
  have b2 := t3.f1
  have b3 := t3.yf
  have b4 := t3.yn
  have b5 := t3.g0
  have b6 := t3.g1
  have HN3 := hide hN3
  have HB := hide t3.B
  clear hb3 hN3 t3 a0 a1 a2 a3 HT2 hF2
  go_wp2
  refine bodyPost_ret (v := .agg #[.slice (some ⟨w.heap.size + 1 + 1 + 1, 0, none⟩) fs.length fs.length, .slice (some ⟨w1.heap.size, 0, none⟩) ns.length ns.length]) (by simp [results, Try.results6, go_sem, b3, b4]) rfl ⟨_, _, rfl, ?_, ?_, ?_⟩
  · exact ((hF3.out.set ⟨w.heap.size + 1 + 1, 1, none⟩ (show w.heap.size + 1 + 1 + 1 ≠ w.heap.size + 1 + 1 by omega) _).set ⟨w.heap.size + 1, 0, none⟩ (show w.heap.size + 1 + 1 + 1 ≠ w.heap.size + 1 by omega) _).set ⟨w.heap.size + 1, 1, none⟩ (show w.heap.size + 1 + 1 + 1 ≠ w.heap.size + 1 by omega) _
  · exact ((HN3.out.set ⟨w.heap.size + 1 + 1, 1, none⟩ (show w1.heap.size ≠ w.heap.size + 1 + 1 by omega) _).set ⟨w.heap.size + 1, 0, none⟩ (show w1.heap.size ≠ w.heap.size + 1 by omega) _).set ⟨w.heap.size + 1, 1, none⟩ (show w1.heap.size ≠ w.heap.size + 1 by omega) _
  · exact ((HB.out.setCell (p := ⟨w.heap.size + 1 + 1, 1, none⟩) (show w.heap.size ≤ w.heap.size + 1 + 1 by omega) _).setCell (p := ⟨w.heap.size + 1, 0, none⟩) (show w.heap.size ≤ w.heap.size + 1 by omega) _).setCell (p := ⟨w.heap.size + 1, 1, none⟩) (show w.heap.size ≤ w.heap.size + 1 by omega) _
set_option maxRecDepth 100000 in
set_option maxHeartbeats 2000000 in
theorem lawW_any (fs : List Fl) (ns : List ByteArray) (vf vn : Value) (w : World) (hf : fs.length ≤ 9223372036854775807) (hfx : ∀ x ∈ fs, x.name.size ≤ 9223372036854775807 ∧ x.text.size ≤ 9223372036854775807) (hn : ns.length ≤ 9223372036854775807) (hnx : ∀ x ∈ ns, x.size ≤ 9223372036854775807) (htf : FilesV w vf fs) (htn : StrsV w vn ns) :
    Calls Try.prog 3 #[.agg #[vf, vn]] w fun e w' => e = .returned (.bool true) ∧ Below w.heap.size w w' := by
  have r1 : Below w.heap.size w (w.alloc (.cells #[vf, vn] 25)) := (Below.refl _ _).alloc (Nat.le_refl _) _
  have HZ := hide (szWorld_any fs ns vf vn (w.alloc (.cells #[vf, vn] 25)) hf hfx hn hnx (htf.below r1) (htn.below r1))
  have HF := hide htf
  have HN := hide htn
  clear htf htn
  by_cases hr : szW fs ns < 0
  · go_enter Try.func3, Try.ntmps3
    go_wp2_with fail
    refine HZ.out.mono ?_
    rintro e w1 ⟨rfl, hb1⟩
    go_wp2
    go_ret
    exact ⟨rfl, r1.trans (hb1.mono (by simp))⟩
  · obtain ⟨⟨hf2, hfx2⟩, hn2, hnx2⟩ := szW_ok fs ns hr
    clear hf hfx hn hnx
    generalize szW fs ns = r at *
    have HTT : Hid (∀ w', Below w.heap.size w w' → Calls Try.prog 6 #[.agg #[vf, vn]] w' fun e w'' => ∃ g h, e = .returned (.agg #[.slice (some ⟨g, 0, none⟩) fs.length fs.length, .slice (some ⟨h, 0, none⟩) ns.length ns.length]) ∧ FilesO w'' g 0 fs ∧ StrsO w'' h 0 ns ∧ Below w'.heap.size w' w'') := hide fun w' hb => toWorld_any fs ns vf vn w' hf2 hn2 (HF.out.below hb) (HN.out.below hb)
    have HS := hide (fun g h w' (a : FilesO w' g 0 fs) (b : StrsO w' h 0 ns) => specW_any fs ns g h fs.length ns.length w' hf2 hn2 a b)
    have HI := hide (fun g h w' (a : FilesO w' g 0 fs) (b : StrsO w' h 0 ns) => implW_any fs ns g h fs.length ns.length w' hf2 (fun x hx => (hfx2 x hx).1) hn2 a b)
    have HQ := hide (fun ga gb na nb w' (a : FilesO w' ga 0 fs) (b : FilesO w' gb 0 fs) (c : StrsO w' na 0 ns) (d : StrsO w' nb 0 ns) => eqWorld_same fs ns ga gb na nb fs.length fs.length ns.length ns.length w' hf2 hn2 a b c d)
    clear hfx2 hnx2
    generalize worldOk fs ns = ok at *
    go_enter Try.func3, Try.ntmps3
    go_wp2_with fail
    refine HZ.out.mono ?_
    rintro e w1 ⟨rfl, hb1⟩
    have B1 := r1.trans (hb1.mono (by simp))
    have c0 : w1.cell? ⟨w.heap.size, 0, none⟩ = some vf := (hb1.cell (p := ⟨w.heap.size, 0, none⟩) (by simp)).trans (by simp)
    have c1 : w1.cell? ⟨w.heap.size, 1, none⟩ = some vn := (hb1.cell (p := ⟨w.heap.size, 1, none⟩) (by simp)).trans (by simp)
    have z1 : w.heap.size < w1.heap.size := Nat.lt_of_lt_of_le (by simp) hb1.size
    clear hb1 HZ
    have HC : Hid (∀ W, Below w1.heap.size w1 W → W.cell? ⟨w.heap.size, 0, none⟩ = some vf ∧ W.cell? ⟨w.heap.size, 1, none⟩ = some vn) := hide fun W hb => ⟨(hb.cell (p := ⟨w.heap.size, 0, none⟩) z1).trans c0, (hb.cell (p := ⟨w.heap.size, 1, none⟩) z1).trans c1⟩
    go_wp2_with fail
    refine (HTT.out _ B1).mono ?_
    rintro e w2 ⟨ga, ha, rfl, fa, sa, hb2⟩
    have HA2 := hide (HS.out ga ha w2 fa sa)
    clear fa sa c0 c1
    go_wp2_with fail
    refine HA2.out.mono ?_
    rintro e w3 ⟨rfl, hb3⟩
    have b3 := hb2.trans (hb3.mono hb2.size)
    have B3 := B1.trans (b3.mono B1.size)
    obtain ⟨c0, c1⟩ := HC.out _ b3
    clear hb2 hb3 HA2
    go_wp2_with fail
    refine (HTT.out _ B3).mono ?_
    rintro e w4 ⟨gb, hb, rfl, fb, sb, hb4⟩
    have b4 := b3.trans (hb4.mono b3.size)
    have m5 := box2 w4 (.slice (some ⟨gb, 0, none⟩) fs.length fs.length) (.slice (some ⟨hb, 0, none⟩) ns.length ns.length) 30
    have b5 := b4.trans (m5.1.mono b4.size)
    have HFB := hide (fb.below m5.1)
    have HSB := hide (sb.below m5.1)
    have HI5 := hide (HI.out gb hb _ HFB.out HSB.out)
    clear hb4 fb sb c0 c1
    go_wp2_with fail
    refine HI5.out.mono ?_
    rintro e w6 ⟨rfl, hb6⟩
    have b6 := b5.trans (hb6.mono b5.size)
    have B6 := B1.trans (b6.mono B1.size)
    have x0 : w6.cell? ⟨w4.heap.size, 0, none⟩ = some (.slice (some ⟨gb, 0, none⟩) fs.length fs.length) := (hb6.cell (p := ⟨w4.heap.size, 0, none⟩) (by rw [m5.2.2.2.1]; exact Nat.lt_succ_self _)).trans m5.2.1
    have x1 : w6.cell? ⟨w4.heap.size, 1, none⟩ = some (.slice (some ⟨hb, 0, none⟩) ns.length ns.length) := (hb6.cell (p := ⟨w4.heap.size, 1, none⟩) (by rw [m5.2.2.2.1]; exact Nat.lt_succ_self _)).trans m5.2.2.1
    have z6 : w4.heap.size < w6.heap.size := Nat.lt_of_lt_of_le (by rw [m5.2.2.2.1]; exact Nat.lt_succ_self _) hb6.size
    have HF6 := hide (HFB.out.below hb6)
    have HS6 := hide (HSB.out.below hb6)
    obtain ⟨c0, c1⟩ := HC.out _ b6
    clear hb6 HI5 HFB HSB m5
    go_wp2
    go_region_with (first
      | (go_at_call 6; refine (HTT.out _ B6.drew).mono ?_; rintro e w7 ⟨gc, hc, rfl, fc, sc, hb7⟩; have s0 := (hb7.cell (p := ⟨w4.heap.size, 0, none⟩) z6).trans x0; have s1 := (hb7.cell (p := ⟨w4.heap.size, 1, none⟩) z6).trans x1; have f7 := HF6.out.below ((Below.refl _ _).drew.trans hb7); have n7 := HS6.out.below ((Below.refl _ _).drew.trans hb7))
      | (go_at_call 8; refine (HQ.out gb gc hb hc _ f7 fc n7 sc).mono ?_; rintro e w8 ⟨rfl, hb8⟩))
    all_goals
      have hB7 := B6.drew.trans (hb7.mono B6.size)
      have hB8 := hB7.trans (hb8.mono hB7.size)
      go_wp2
      go_ret
      exact ⟨rfl, hB8⟩
end Go.Proofs.Ythlddankekghbaa.Wd
