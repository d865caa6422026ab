/- Walks: any value drawn: l5Any; wValue. -/
import Derived.Test.YtfpdoafpimaoaaaDk
import Derived.Test.YtfpdoafpimaoaaaDi
namespace Go.Proofs.Ytfpdoafpimaoaaa.Vl
open Go.RowKit T.atoms T.ok T.high T.good T.allPlain

theorem SpoilPost.box {rb n p k m : Nat} {vb : Value} {w : World} {e : Ending} {w' : World} (h : SpoilPost rb vb n p k m w e w') : ∃ g c l q, e = .returned (.agg #[.slice (some ⟨g, 0, none⟩) l.length c]) ∧ l.length ≤ c ∧ l.length ≤ m ∧ w.heap.size ≤ g ∧ AtomsO w' g 0 l ∧ q ≤ p + k ∧ Rd w' rb vb n q ∧ Dr rb w w' := h
/-- l5Any's answer laid into its box. -/
theorem DB.any {rb n p q k m g c : Nat} {vb : Value} {w W : World} {l : List At} (h : DB rb vb n w q W) (ha : AtomsO W g 0 l) (hg : w.heap.size < g) (hc : l.length ≤ c) (hm : l.length ≤ m) (hq : q ≤ p + k) (v : Value) : SpoilPost rb vb n p k m w (.returned (.agg #[.slice (some ⟨g, 0, none⟩) l.length c])) (W.setCell ⟨w.heap.size, 0, none⟩ v) := by
  have hl2 := h.l
  have hz := h.z
  have e : ∀ b, b ≠ w.heap.size → (W.setCell ⟨w.heap.size, 0, none⟩ v).heap[b]? = W.heap[b]? := fun b hb => Below.heap_setCell _ _ _ _ hb
  have hs : (W.setCell ⟨w.heap.size, 0, none⟩ v).heap.size = W.heap.size := by simp
  exact ⟨g, c, l, q, rfl, hc, hm, by omega, atomsO_set ha _ (by show w.heap.size ≠ g; omega) _, hq, h.R.far (fun b hb => e b (by omega)), ⟨h.D.os, h.D.tape, h.D.output, by rw [hs]; exact h.D.size, fun b hb hbr => (e b (by omega)).trans (h.D.block b hb hbr)⟩⟩
set_option maxRecDepth 100000 in
set_option maxHeartbeats 4000000 in
theorem any5_any (rb n p : Nat) (vb : Value) (w : World) (h : Rd w rb vb n p) (hp : p ≤ 800000000) :
    Calls Try.prog 21 #[.pointer (some ⟨rb, 0, none⟩)] w fun e w' => SpoilPost rb vb n p 4000 3001 w e w' := by
  have HP := hide (fun p w (h : Rd w rb vb n p) (hp : p ≤ 1000000000) m (h1 : 1 ≤ m) (h2 : m ≤ 1000000) => pick_any rb n p vb m w h hp h1 h2)
  have HB0 := hide (DB.start h)
  clear h
  go_enter Try.func21, Try.ntmps21
  go_wp2_with fail
  refine (HP.out p _ HB0.out.R (by omega) 24 (by omega) (by omega)).mono ?_
  rintro e w1 ⟨z, hz, rfl, R1, D1⟩
  have HB1 := hide (HB0.out.dr D1 R1)
  have z1 := HB1.out.z
  clear R1 D1 HB0
  go_wp2_with fail
  · refine (edge_any rb n (p + 1) vb w1 HB1.out.R (by omega)).mono ?_
    rintro e w2 ⟨g, c, l, q, rfl, hc, hl, hm, hg, ha, hq, R2, D2⟩
    have HB2 := hide (HB1.out.dr D2 R2)
    have c2 := HB2.out.c
    have f2 := HB2.out.f
    clear R2 D2
    go_wp2
    refine bodyPost_ret (v := .agg #[.slice (some ⟨g, 0, none⟩) l.length c]) (by simp [results, Try.results21, go_sem, c2]) rfl (HB2.out.any ha (by omega) hc (by omega) (by omega) _)
  · refine (draw3 rb n (p + 1) vb w1 HB1.out.R (by omega)).mono ?_
    rintro e w2 ⟨g, c, l, q, rfl, hc, hl, hm, hg, ha, hq, R2, D2⟩
    have HB2 := hide (HB1.out.dr D2 R2)
    have z2 := HB2.out.z
    have HS := hide (spoil_any rb n q g c vb l w2 R2 (by omega) ha hl (by omega))
    clear R2 D2
    go_wp2_with fail
    refine HS.out.mono ?_
    rintro e w3 ⟨g3, c3, l3, q3, rfl, hc3, hm3, hg3, ha3, hq3, R3, D3⟩
    have HB3 := hide (HB2.out.dr D3 R3)
    have c9 := HB3.out.c
    have f9 := HB3.out.f
    clear R3 D3
    go_wp2
    refine bodyPost_ret (v := .agg #[.slice (some ⟨g3, 0, none⟩) l3.length c3]) (by simp [results, Try.results21, go_sem, c9]) rfl (HB3.out.any ha3 (by omega) hc3 (by omega) (by omega) _)
  · refine (draw3 rb n (p + 1) vb w1 HB1.out.R (by omega)).mono ?_
    rintro e w2 ⟨g, c, l, q, rfl, hc, hl, hm, hg, ha, hq, R2, D2⟩
    have HB2 := hide (HB1.out.dr D2 R2)
    have c2 := HB2.out.c
    have f2 := HB2.out.f
    clear R2 D2
    go_wp2
    refine bodyPost_ret (v := .agg #[.slice (some ⟨g, 0, none⟩) l.length c]) (by simp [results, Try.results21, go_sem, c2]) rfl (HB2.out.any ha (by omega) hc (by omega) (by omega) _)
end Go.Proofs.Ytfpdoafpimaoaaa.Vl
