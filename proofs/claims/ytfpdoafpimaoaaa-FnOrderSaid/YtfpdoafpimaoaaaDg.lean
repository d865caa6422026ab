/- Walks: a value drawn: l5Draw. -/
import Derived.Test.YtfpdoafpimaoaaaDf
namespace Go.Proofs.Ytfpdoafpimaoaaa.Vl
open Go.RowKit T.atoms T.ok T.high T.good T.allPlain

def KD : Nat → Nat
  | 0 => 20
  | d + 1 => 4 * (KD d + 20) + 20
def ND : Nat → Nat
  | 0 => 1
  | d + 1 => 4 * (ND d + 1) + 1
/-- What a draw of a value does. -/
def DrawPost (rb : Nat) (vb : Value) (n p k m : Nat) (w : World) (e : Ending) (w' : World) : Prop := ∃ g c l q, e = .returned (.agg #[.slice (some ⟨g, 0, none⟩) l.length c]) ∧ l.length ≤ c ∧ 0 < l.length ∧ l.length ≤ m ∧ w.heap.size ≤ g ∧ AtomsO w' g 0 l ∧ q ≤ p + k ∧ Rd w' rb vb n q ∧ Dr rb w w'
theorem AtomsO.dr {rb : Nat} {w w' : World} {g o : Nat} {l : List At} (h : AtomsO w g o l) (hd : Dr rb w w') (hg : g ≠ rb) : AtomsO w' g o l := AtomsO.heap h (hd.block g h.1 hg)
theorem Dr.heapsize {rb : Nat} {w w' : World} (h : Dr rb w w') : w.heap.size ≤ w'.heap.size := h.size
theorem Rd.far {w : World} {rb : Nat} {vb : Value} {n p : Nat} (h : Rd w rb vb n p) {w' : World} (hb : ∀ b, b ≤ rb → w'.heap[b]? = w.heap[b]?) : Rd w' rb vb n p := by
  refine ⟨(World.cell?_of_block (a := ⟨rb, 0, none⟩) (hb rb (Nat.le_refl _))).trans h.c0, (World.cell?_of_block (a := ⟨rb, 1, none⟩) (hb rb (Nat.le_refl _))).trans h.c1, (World.frozen?_of_block (a := ⟨rb, 1, none⟩) (hb rb (Nat.le_refl _))).trans h.f1, ?_⟩
  rcases h.by_ with h | ⟨g, o, c, h1, h2, h3, h4, h6⟩
  · exact .inl h
  · refine .inr ⟨g, o, c, h1, h2, h3, h4, fun i hi => ?_⟩
    obtain ⟨k, hk, hc⟩ := h6 i hi
    exact ⟨k, hk, (World.cell?_of_block (a := ⟨g, o + i, none⟩) (hb g (by omega))).trans hc⟩
/-- A draw's own box for its answer, in a later world. -/
structure DB (rb : Nat) (vb : Value) (n : Nat) (w : World) (q : Nat) (W : World) : Prop where
  R : Rd W rb vb n q
  D : Dr rb w W
  c : W.cell? ⟨w.heap.size, 0, none⟩ = some (.slice none 0 0)
  f : W.frozen? ⟨w.heap.size, 0, none⟩ = false
  z : w.heap.size < W.heap.size
  l : rb < w.heap.size
theorem DB.start {rb n q : Nat} {vb : Value} {w : World} (h : Rd w rb vb n q) : DB rb vb n w q (w.alloc (.cells #[.slice none 0 0] 25)) := by
  have b1 : Below w.heap.size w (w.alloc (.cells #[.slice none 0 0] 25)) := (Below.refl _ _).alloc (Nat.le_refl _) _
  have n1 := cell_new w (.slice none 0 0) 25
  exact ⟨h.keep b1, Dr.of b1, n1.1, n1.2, by simp, h.lt⟩
theorem DB.below {rb n q : Nat} {vb : Value} {w W W' : World} (h : DB rb vb n w q W) (hb : Below W.heap.size W W') : DB rb vb n w q W' :=
  ⟨h.R.keep hb, h.D.trans (Dr.of hb), (hb.cell (p := ⟨w.heap.size, 0, none⟩) h.z).trans h.c, (hb.frozen (p := ⟨w.heap.size, 0, none⟩) h.z).trans h.f, Nat.lt_of_lt_of_le h.z hb.size, h.l⟩
theorem DB.dr {rb n q q' : Nat} {vb : Value} {w W W' : World} (h : DB rb vb n w q W) (hd : Dr rb W W') (hr : Rd W' rb vb n q') : DB rb vb n w q' W' := by
  have hl := h.l
  have hb := hd.block w.heap.size h.z (by omega)
  exact ⟨hr, h.D.trans hd, (World.cell?_of_block (a := ⟨w.heap.size, 0, none⟩) hb).trans h.c, (World.frozen?_of_block (a := ⟨w.heap.size, 0, none⟩) hb).trans h.f, Nat.lt_of_lt_of_le h.z hd.size, hl⟩
theorem DB.fin {rb n p q k m g c : Nat} {vb : Value} {w W : World} {l : List At} (h : DB rb vb n w q W) (ha : AtomsO W g 0 l) (hg : w.heap.size < g) (hl : 0 < l.length) (hc : l.length ≤ c) (hm : l.length ≤ m) (hq : q ≤ p + k) (v : Value) : DrawPost rb vb n p k m w (.returned (.agg #[.slice (some ⟨g, 0, none⟩) l.length c])) (W.setCell ⟨w.heap.size, 0, none⟩ v) := by
  have hl2 := h.l
  have hz := h.z
  have e : ∀ b, b ≠ w.heap.size → (W.setCell ⟨w.heap.size, 0, none⟩ v).heap[b]? = W.heap[b]? := fun b hb => Below.heap_setCell _ _ _ _ hb
  have hs : (W.setCell ⟨w.heap.size, 0, none⟩ v).heap.size = W.heap.size := by simp
  refine ⟨g, c, l, q, rfl, hc, hl, hm, by omega, atomsO_set ha _ (by show w.heap.size ≠ g; omega) _, hq, h.R.far (fun b hb => e b (by omega)), ⟨?_, ?_, ?_, by rw [hs]; exact h.D.size, fun b hb hbr => (e b (by omega)).trans (h.D.block b hb hbr)⟩⟩
  · exact h.D.os
  · exact h.D.tape
  · exact h.D.output

theorem ints_at (X : World) (L : List Int) (t : TypeId) (z : Nat) (h : z < L.length) : ∃ v, (X.alloc (.cells ((L.map (Value.int .i64)).toArray) t)).cell? ⟨X.heap.size, z, none⟩ = some (.int .i64 v) := by
  refine ⟨L[z], ?_⟩
  rw [World.cell?, heap_alloc_new]
  simp [h]
theorem strs_at (X : World) (L : List ByteArray) (t : TypeId) (z : Nat) (h : z < L.length) : ∃ v, (X.alloc (.cells ((L.map Value.string).toArray) t)).cell? ⟨X.heap.size, z, none⟩ = some (.string v) := by
  refine ⟨L[z], ?_⟩
  rw [World.cell?, heap_alloc_new]
  simp [h]

set_option maxRecDepth 100000 in
set_option maxHeartbeats 20000000 in
theorem draw_low (rb n p : Nat) (vb : Value) (w : World) (h : Rd w rb vb n p) (hp : p ≤ 900000000) :
    Calls Try.prog 41 #[.pointer (some ⟨rb, 0, none⟩), .int .i64 0] w fun e w' => DrawPost rb vb n p 20 1 w e w' := by
  have HP := hide (fun p w (h : Rd w rb vb n p) (hp : p ≤ 1000000000) m (h1 : 1 ≤ m) (h2 : m ≤ 1000000) => pick_any rb n p vb m w h hp h1 h2)
  have HX := hide (fun p w (h : Rd w rb vb n p) (hp : p ≤ 999999000) => drawText_any rb n p vb w h hp)
  have HB0 := hide (DB.start h)
  clear h
  go_enter Try.func41, Try.ntmps41
  go_wp2_with fail
  refine (HP.out p _ HB0.out.R (by omega) 8 (by omega) (by omega)).mono ?_
  rintro e w1 ⟨z, hz, rfl, R1, D1⟩
  have HB1 := hide (HB0.out.dr D1 R1)
  have c1 := HB1.out.c
  have f1 := HB1.out.f
  clear R1 D1 HB0
  go_wp2_with fail
  -- none
  · refine (none5_any _).mono ?_
    rintro e w9 ⟨g, hg, rfl, ha, hb9⟩
    have HB8 := HB1
    have HB9 := hide (HB1.out.below hb9)
    have c9 := HB9.out.c
    have f9 := HB9.out.f
    have z9 := HB8.out.z
    have l9 := HB8.out.l
    go_wp2
    refine bodyPost_ret (v := .agg #[.slice (some ⟨g, 0, none⟩) 1 1]) (by simp [results, Try.results41, go_sem, c9]) rfl (HB9.out.fin (l := [_]) ha (by omega) (by simp) (by simp) (by simp) (by omega) _)
  -- a bool
  · refine (HP.out (p + 1) _ HB1.out.R (by omega) 2 (by omega) (by omega)).mono ?_
    rintro e w2 ⟨z2, hz2, rfl, R2, D2⟩
    have HB8 := hide (HB1.out.dr D2 R2)
    clear R2 D2
    go_wp2_with fail
    refine (bool5_any _ _).mono ?_
    rintro e w9 ⟨g, hg, rfl, ha, hb9⟩
    have HB9 := hide (HB8.out.below hb9)
    have c9 := HB9.out.c
    have f9 := HB9.out.f
    have z9 := HB8.out.z
    have l9 := HB8.out.l
    go_wp2
    refine bodyPost_ret (v := .agg #[.slice (some ⟨g, 0, none⟩) 1 1]) (by simp [results, Try.results41, go_sem, c9]) rfl (HB9.out.fin (l := [_]) ha (by omega) (by simp) (by simp) (by simp) (by omega) _)
  -- a number
  iterate 2
    · have hL : Below w1.heap.size w1 (w1.alloc (.cells ((List.map (Value.int .i64) [0, 1, -1, 2, 7, -7, 10, 9223372036854775807, -9223372036854775808, -9223372036854775807, 4611686018427387904, 3037000500]).toArray) 2)) := (Below.refl _ _).alloc (Nat.le_refl _) _
      have HBL := hide (HB1.out.below hL)
      refine (HP.out (p + 1) _ HBL.out.R (by omega) 12 (by omega) (by omega)).mono ?_
      rintro e w2 ⟨z2, hz2, rfl, R2, D2⟩
      have HB8 := hide (HBL.out.dr D2 R2)
      obtain ⟨vz, hvz⟩ := ints_at w1 [0, 1, -1, 2, 7, -7, 10, 9223372036854775807, -9223372036854775808, -9223372036854775807, 4611686018427387904, 3037000500] 2 z2 (by simp; omega)
      have hl1 := HB1.out.l
      have hz1 := HB1.out.z
      have cz : w2.cell? ⟨w1.heap.size, z2, none⟩ = some (.int .i64 vz) := (D2.cell (by rw [World.size_alloc]; exact Nat.lt_succ_self _) (by omega)).trans hvz
      have hs2 := D2.size
      rw [World.size_alloc] at hs2
      clear R2 D2 hvz hL
      go_wp2_with fail
      refine (int5_any _ _).mono ?_
      rintro e w9 ⟨g, hg, rfl, ha, hb9⟩
      have HB9 := hide (HB8.out.below hb9)
      have c9 := HB9.out.c
      have f9 := HB9.out.f
      have z9 := HB8.out.z
      have l9 := HB8.out.l
      go_wp2
      refine bodyPost_ret (v := .agg #[.slice (some ⟨g, 0, none⟩) 1 1]) (by simp [results, Try.results41, go_sem, c9]) rfl (HB9.out.fin (l := [_]) ha (by omega) (by simp) (by simp) (by simp) (by omega) _)
  -- a text
  · refine (HP.out (p + 1) _ HB1.out.R (by omega) 16 (by omega) (by omega)).mono ?_
    rintro e w2 ⟨z2, hz2, rfl, R2, D2⟩
    have HB2 := hide (HB1.out.dr D2 R2)
    have c2 := HB2.out.c
    have f2 := HB2.out.f
    clear R2 D2
    go_wp2_with fail
    · refine (HP.out (p + 1 + 1) _ HB2.out.R (by omega) 3 (by omega) (by omega)).mono ?_
      rintro e w3 ⟨z3, hz3, rfl, R3, D3⟩
      have HB8 := hide (HB2.out.dr D3 R3)
      have hm := many_any ⟨#[116]⟩ (1000 - z3) w3 (by omega) (by show 1 * (1000 - z3) ≤ 100000000; omega)
      rw [show ((1000 - z3 : Nat) : Int) = 1000 - (z3 : Int) from by omega] at hm
      have HM := hide hm
      clear R3 D3 hm
      go_wp2_with fail
      refine HM.out.mono ?_
      rintro e w4 ⟨tx, rfl, rfl⟩
      go_wp2_with fail
      refine (text5_any _ _).mono ?_
      rintro e w9 ⟨g, hg, rfl, ha, hb9⟩
      have HB9 := hide (HB8.out.below hb9)
      have c9 := HB9.out.c
      have f9 := HB9.out.f
      have z9 := HB8.out.z
      have l9 := HB8.out.l
      go_wp2
      refine bodyPost_ret (v := .agg #[.slice (some ⟨g, 0, none⟩) 1 1]) (by simp [results, Try.results41, go_sem, c9]) rfl (HB9.out.fin (l := [_]) ha (by omega) (by simp) (by simp) (by simp) (by omega) _)
    · refine (HX.out (p + 1 + 1) _ HB2.out.R (by omega)).mono ?_
      rintro e w3 ⟨tx, q3, rfl, hq3, R3, D3⟩
      have HB3 := hide (HB2.out.dr D3 R3)
      have hL : Below w3.heap.size w3 (w3.alloc (.cells ((List.map Value.string [tx, ⟨#[45, 48]⟩, ⟨#[45, 49, 50]⟩, ⟨#[57, 50, 50, 51, 51, 55, 50, 48, 51, 54, 56, 53, 52, 55, 55, 53, 56, 48, 56]⟩, ⟨#[45, 57, 50, 50, 51, 51, 55, 50, 48, 51, 54, 56, 53, 52, 55, 55, 53, 56, 48, 56]⟩, ⟨#[43, 49]⟩, ⟨#[97, 32, 98]⟩]).toArray) 9)) := (Below.refl _ _).alloc (Nat.le_refl _) _
      have HBL := hide (HB3.out.below hL)
      clear R3 D3
      go_wp2_with fail
      refine (HP.out q3 _ HBL.out.R (by omega) 7 (by omega) (by omega)).mono ?_
      rintro e w4 ⟨z4, hz4, rfl, R4, D4⟩
      have HB8 := hide (HBL.out.dr D4 R4)
      obtain ⟨vz, hvz⟩ := strs_at w3 [tx, ⟨#[45, 48]⟩, ⟨#[45, 49, 50]⟩, ⟨#[57, 50, 50, 51, 51, 55, 50, 48, 51, 54, 56, 53, 52, 55, 55, 53, 56, 48, 56]⟩, ⟨#[45, 57, 50, 50, 51, 51, 55, 50, 48, 51, 54, 56, 53, 52, 55, 55, 53, 56, 48, 56]⟩, ⟨#[43, 49]⟩, ⟨#[97, 32, 98]⟩] 9 z4 (by simp; omega)
      have hl3 := HB3.out.l
      have hz3 := HB3.out.z
      have cz : w4.cell? ⟨w3.heap.size, z4, none⟩ = some (.string vz) := (D4.cell (by rw [World.size_alloc]; exact Nat.lt_succ_self _) (by omega)).trans hvz
      have hs4 := D4.size
      rw [World.size_alloc] at hs4
      clear R4 D4 hvz hL
      go_wp2_with fail
      refine (text5_any _ _).mono ?_
      rintro e w9 ⟨g, hg, rfl, ha, hb9⟩
      have HB9 := hide (HB8.out.below hb9)
      have c9 := HB9.out.c
      have f9 := HB9.out.f
      have z9 := HB8.out.z
      have l9 := HB8.out.l
      go_wp2
      refine bodyPost_ret (v := .agg #[.slice (some ⟨g, 0, none⟩) 1 1]) (by simp [results, Try.results41, go_sem, c9]) rfl (HB9.out.fin (l := [_]) ha (by omega) (by simp) (by simp) (by simp) (by omega) _)
  all_goals (exfalso; simp only [beq_eq_false_iff_ne, ne_eq] at *; omega)
end Go.Proofs.Ytfpdoafpimaoaaa.Vl
