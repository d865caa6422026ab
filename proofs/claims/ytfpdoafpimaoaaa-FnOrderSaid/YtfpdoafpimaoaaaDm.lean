/- Walks: two values drawn: DrawOrder. -/
import Derived.Test.YtfpdoafpimaoaaaDl
import Derived.Deep.QuietTactic
namespace Go.Proofs.Ytfpdoafpimaoaaa.Vl
open Go.RowKit T.atoms T.ok T.high T.good T.allPlain

set_option maxHeartbeats 400000 in
theorem kind6_at (a : At) (l : List At) (g o c m : Nat) (w : World) (hm : l.length = m + 1) (hn : m < 1048576) (ha : l[m]? = some a) (ht : AtomsO w g o l) :
    Calls Try.prog 22 #[.agg #[.slice (some ⟨g, o, none⟩) (m + 1) c]] w fun e w' => e = .returned (.int .i64 a.kind) ∧ Below w.heap.size w w' := by
  have HL := hide (fun w' (hb : Below w.heap.size w w') => last_any a l g o c m w' hm hn ha (ht.below hb))
  clear ht hm hn ha
  go_enter Try.func22, Try.ntmps22
  go_wp2_with fail
  have hq : Below w.heap.size w (w.alloc (.cells #[.slice (some ⟨g, o, none⟩) (m + 1) c] 25)) := (Below.refl _ _).alloc (Nat.le_refl _) _
  refine (HL.out _ hq).mono ?_
  rintro e w1 ⟨rfl, hb1⟩
  have HF := fun w => fld0 a.kind a.n a.kids a.text w
  go_wp2
  go_ret
  exact ⟨rfl, hq.trans (hb1.mono hq.size)⟩

/-- DrawOrder's boxes, in a later world. -/
structure OB (w : World) (rb : Nat) (vb : Value) (n q xa xb ga gb ca cb : Nat) (la lb : List At) (W : World) : Prop where
  R : Rd W rb vb n q
  D : Below w.heap.size w W
  c0 : W.cell? ⟨w.heap.size, 0, none⟩ = some (.slice none 0 0)
  f0 : W.frozen? ⟨w.heap.size, 0, none⟩ = false
  c1 : W.cell? ⟨w.heap.size + 1, 0, none⟩ = some (.slice none 0 0)
  f1 : W.frozen? ⟨w.heap.size + 1, 0, none⟩ = false
  ac : W.cell? ⟨xa, 0, none⟩ = some (.slice (some ⟨ga, 0, none⟩) la.length ca)
  bc : W.cell? ⟨xb, 0, none⟩ = some (.slice (some ⟨gb, 0, none⟩) lb.length cb)
  bf : W.frozen? ⟨xb, 0, none⟩ = false
  A : AtomsO W ga 0 la
  B : AtomsO W gb 0 lb
  l : w.heap.size + 1 < rb
  x1 : rb < xa
  x2 : xa < xb
  g1 : rb < ga
  g2 : ga < xb
  g3 : rb < gb
  g4 : gb ≠ xb
theorem OB.lt {w W : World} {rb n q xa xb ga gb ca cb : Nat} {vb : Value} {la lb : List At} (h : OB w rb vb n q xa xb ga gb ca cb la lb W) : xb < W.heap.size := World.block_lt_of_cell? W ⟨xb, 0, none⟩ h.bc
theorem atomsO_same {w w' : World} {g o : Nat} {l : List At} (h : AtomsO w g o l) (hs : w.heap.size ≤ w'.heap.size) (hb : w'.heap[g]? = w.heap[g]?) : AtomsO w' g o l := by
  have e : ∀ j, w'.cell? ⟨g, j, none⟩ = w.cell? ⟨g, j, none⟩ := fun j => World.cell?_of_block (a := ⟨g, j, none⟩) hb
  refine ⟨Nat.lt_of_lt_of_le h.1 hs, fun i hi => ?_⟩
  obtain ⟨a, b, c, d⟩ := h.2 i hi
  exact ⟨(e _).trans a, (e _).trans b, (e _).trans c, (e _).trans d⟩
theorem OB.dr {w W W' : World} {rb n q q' xa xb ga gb ca cb : Nat} {vb : Value} {la lb : List At} (h : OB w rb vb n q xa xb ga gb ca cb la lb W) (hd : Dr rb W W') (hr : Rd W' rb vb n q') : OB w rb vb n q' xa xb ga gb ca cb la lb W' := by
  have hlt := h.lt
  have hl := h.l
  have h1 := h.x1
  have h2 := h.x2
  have h3 := h.g1
  have h4 := h.g2
  have h5 := h.g3
  have h6 := h.B.1
  have e : ∀ b, b < W.heap.size → b ≠ rb → W'.heap[b]? = W.heap[b]? := hd.block
  have k0 := e w.heap.size (by omega) (by omega)
  have k1 := e (w.heap.size + 1) (by omega) (by omega)
  have k2 := e xa (by omega) (by omega)
  have k3 := e xb (by omega) (by omega)
  exact ⟨hr, h.D.trans (hd.below (by omega) (by omega)), (World.cell?_of_block (a := ⟨w.heap.size, 0, none⟩) k0).trans h.c0, (World.frozen?_of_block (a := ⟨w.heap.size, 0, none⟩) k0).trans h.f0, (World.cell?_of_block (a := ⟨w.heap.size + 1, 0, none⟩) k1).trans h.c1, (World.frozen?_of_block (a := ⟨w.heap.size + 1, 0, none⟩) k1).trans h.f1, (World.cell?_of_block (a := ⟨xa, 0, none⟩) k2).trans h.ac, (World.cell?_of_block (a := ⟨xb, 0, none⟩) k3).trans h.bc, (World.frozen?_of_block (a := ⟨xb, 0, none⟩) k3).trans h.bf, atomsO_same h.A hd.size (e _ (by omega) (by omega)), atomsO_same h.B hd.size (e _ (by omega) (by omega)), h.l, h.x1, h.x2, h.g1, h.g2, h.g3, h.g4⟩
theorem OB.below {w W W' : World} {rb n q xa xb ga gb ca cb : Nat} {vb : Value} {la lb : List At} (h : OB w rb vb n q xa xb ga gb ca cb la lb W) (hb : Below W.heap.size W W') : OB w rb vb n q xa xb ga gb ca cb la lb W' := h.dr (Dr.of hb) (h.R.keep hb)
theorem OB.drew {w W : World} {rb n q xa xb ga gb ca cb : Nat} {vb : Value} {la lb : List At} (h : OB w rb vb n q xa xb ga gb ca cb la lb W) : OB w rb vb n q xa xb ga gb ca cb la lb W.drew := h.below (Below.refl _ _).drew
/-- Another value in the second box. -/
theorem OB.put {w W : World} {rb n q xa xb ga gb ca cb g' c' : Nat} {vb : Value} {la lb l' : List At} (h : OB w rb vb n q xa xb ga gb ca cb la lb W) (ha : AtomsO W g' 0 l') (hg : rb < g') (hx : g' ≠ xb) : OB w rb vb n q xa xb ga g' ca c' la l' (W.setCell ⟨xb, 0, none⟩ (.slice (some ⟨g', 0, none⟩) l'.length c')) := by
  have hlt := h.lt
  have hl := h.l
  have h1 := h.x1
  have h2 := h.x2
  have h4 := h.g2
  have e : ∀ b, b ≠ xb → (W.setCell ⟨xb, 0, none⟩ (.slice (some ⟨g', 0, none⟩) l'.length c')).heap[b]? = W.heap[b]? := fun b hb => Below.heap_setCell _ _ _ _ hb
  have k0 := e w.heap.size (by omega)
  have k1 := e (w.heap.size + 1) (by omega)
  have k2 := e xa (by omega)
  exact ⟨h.R.far (fun b hb => e b (by omega)), h.D.setCell (p := ⟨xb, 0, none⟩) (by show w.heap.size ≤ xb; omega) _, (World.cell?_of_block (a := ⟨w.heap.size, 0, none⟩) k0).trans h.c0, (World.frozen?_of_block (a := ⟨w.heap.size, 0, none⟩) k0).trans h.f0, (World.cell?_of_block (a := ⟨w.heap.size + 1, 0, none⟩) k1).trans h.c1, (World.frozen?_of_block (a := ⟨w.heap.size + 1, 0, none⟩) k1).trans h.f1, (World.cell?_of_block (a := ⟨xa, 0, none⟩) k2).trans h.ac, World.cell?_setCell_same _ _ _ h.bc, by simpa using h.bf, atomsO_set h.A _ (by show xb ≠ ga; omega) _, atomsO_set ha _ (by show xb ≠ g'; omega) _, h.l, h.x1, h.x2, h.g1, h.g2, hg, hx⟩

/-- The worlds in which the boxes stand so. -/
def KO (w : World) (rb : Nat) (vb : Value) (n q xa xb ga gb ca cb : Nat) (la lb : List At) : Type := { W : World // OB w rb vb n q xa xb ga gb ca cb la lb W }
def KO.w {w : World} {rb : Nat} {vb : Value} {n q xa xb ga gb ca cb : Nat} {la lb : List At} (x : KO w rb vb n q xa xb ga gb ca cb la lb) : World := x.1
theorem ko_call {P : Program} {f : FuncId} {args : Array Value} {r : Value} {w : World} {rb : Nat} {vb : Value} {n q xa xb ga gb ca cb : Nat} {la lb : List At} (h : ∀ W, OB w rb vb n q xa xb ga gb ca cb la lb W → Calls P f args W fun e w' => e = .returned r ∧ Below W.heap.size W w') (x : KO w rb vb n q xa xb ga gb ca cb la lb) :
    Calls P f args x.w fun e w'' => e = .returned r ∧ ∃ y : KO w rb vb n q xa xb ga gb ca cb la lb, w'' = y.w :=
  (h x.w x.2).mono fun _ w2 hw => ⟨hw.1, ⟨⟨w2, x.2.below hw.2⟩, rfl⟩⟩

/-- What DrawOrder does. -/
def OrderPost (w : World) (e : Ending) (w' : World) : Prop := ∃ ga ca la gb cb lb, e = .returned (.tuple #[.agg #[.slice (some ⟨ga, 0, none⟩) la.length ca], .agg #[.slice (some ⟨gb, 0, none⟩) lb.length cb]]) ∧ la.length ≤ 3001 ∧ lb.length ≤ 3001 ∧ la.length ≤ ca ∧ lb.length ≤ cb ∧ w.heap.size ≤ ga ∧ w.heap.size ≤ gb ∧ AtomsO w' ga 0 la ∧ AtomsO w' gb 0 lb ∧ Below w.heap.size w w'
theorem OB.fin {w W : World} {rb n q xa xb ga gb ca cb g' c' x y : Nat} {vb : Value} {la lb l' : List At} (h : OB w rb vb n q xa xb ga gb ca cb la lb W) (ha : AtomsO W g' 0 l') (hg : rb < g') (hx : x = la.length) (hy : y = l'.length) (hla : la.length ≤ 3001) (hlb : l'.length ≤ 3001) (hca : la.length ≤ ca) (hcb : l'.length ≤ c') (u v : Value) : OrderPost w (.returned (.tuple #[.agg #[.slice (some ⟨ga, 0, none⟩) x ca], .agg #[.slice (some ⟨g', 0, none⟩) y c']])) ((W.setCell ⟨w.heap.size, 0, none⟩ u).setCell ⟨w.heap.size + 1, 0, none⟩ v).drew := by
  subst hx hy
  have hl := h.l
  have h3 := h.g1
  have d : ∀ X : World, Below X.heap.size X X.drew := fun X => (Below.refl _ _).drew
  exact ⟨ga, ca, la, g', c', l', rfl, hla, hlb, hca, hcb, by omega, by omega, (atomsO_set (atomsO_set h.A _ (by show w.heap.size ≠ ga; omega) _) _ (by show w.heap.size + 1 ≠ ga; omega) _).below (d _), (atomsO_set (atomsO_set ha _ (by show w.heap.size ≠ g'; omega) _) _ (by show w.heap.size + 1 ≠ g'; omega) _).below (d _), ((h.D.setCell (p := ⟨w.heap.size, 0, none⟩) (Nat.le_refl _) _).setCell (p := ⟨w.heap.size + 1, 0, none⟩) (Nat.le_succ _) _).drew⟩

set_option maxRecDepth 100000 in
set_option maxHeartbeats 4000000 in
theorem drawOrder_any (n : Nat) (v : Value) (w : World) (h : ByV w v n) :
    Calls Try.prog 7 #[v] w fun e w' => OrderPost w e w' := by
  have HO := hide (fun w' (hb : Below w.heap.size w w') => open_any n v w' (by
    rcases h with h | ⟨g, o, c, h1, h2, h3, h4, h5⟩
    · exact .inl h
    · exact .inr ⟨g, o, c, h1, h2, h3, Nat.lt_of_lt_of_le h4 hb.size, fun i hi => by
        obtain ⟨k, hk, hc⟩ := h5 i hi
        exact ⟨k, hk, (hb.cell (p := ⟨g, o + i, none⟩) h4).trans hc⟩⟩))
  clear h
  go_enter Try.func7, Try.ntmps7
  go_wp2_with fail
  have b2 : Below w.heap.size w ((w.alloc (.cells #[.slice none 0 0] 25)).alloc (.cells #[.slice none 0 0] 25)) := ((Below.refl _ _).alloc (Nat.le_refl _) _).alloc (by simp) _
  have X0 : Hid (((w.alloc (.cells #[.slice none 0 0] 25)).alloc (.cells #[.slice none 0 0] 25)).cell? ⟨w.heap.size, 0, none⟩ = some (.slice none 0 0) ∧ ((w.alloc (.cells #[.slice none 0 0] 25)).alloc (.cells #[.slice none 0 0] 25)).frozen? ⟨w.heap.size, 0, none⟩ = false ∧ ((w.alloc (.cells #[.slice none 0 0] 25)).alloc (.cells #[.slice none 0 0] 25)).cell? ⟨w.heap.size + 1, 0, none⟩ = some (.slice none 0 0) ∧ ((w.alloc (.cells #[.slice none 0 0] 25)).alloc (.cells #[.slice none 0 0] 25)).frozen? ⟨w.heap.size + 1, 0, none⟩ = false) := hide (by
    have n1 := cell_new w (.slice none 0 0) 25
    have n2 := cell_new (w.alloc (.cells #[.slice none 0 0] 25)) (.slice none 0 0) 25
    have k2 : Below (w.heap.size + 1) (w.alloc (.cells #[.slice none 0 0] 25)) ((w.alloc (.cells #[.slice none 0 0] 25)).alloc (.cells #[.slice none 0 0] 25)) := (Below.refl _ _).alloc (by simp) _
    simp only [World.size_alloc] at n2
    exact ⟨(k2.cell (p := ⟨w.heap.size, 0, none⟩) (Nat.lt_succ_self _)).trans n1.1, (k2.frozen (p := ⟨w.heap.size, 0, none⟩) (Nat.lt_succ_self _)).trans n1.2, n2.1, n2.2⟩)
  have H2 : Hid (((w.alloc (.cells #[.slice none 0 0] 25)).alloc (.cells #[.slice none 0 0] 25)).heap.size = w.heap.size + 1 + 1) := hide (by simp)
  have HO2 := HO.out _ b2
  clear HO
  generalize ((w.alloc (.cells #[.slice none 0 0] 25)).alloc (.cells #[.slice none 0 0] 25)) = W0 at *
  refine HO2.mono ?_
  rintro e w1 ⟨rb, vb, m, rfl, hrb, R1, hb1⟩
  have hs2 := H2.out
  have hrb1 := R1.lt
  go_wp2_with fail
  refine (any5_any rb m 0 vb w1 R1 (by omega)).mono ?_
  rintro e w2 ⟨ga, ca, la, qa, rfl, hca, hma, hga, haa, hqa, R2, D2⟩
  have A2 : Below w2.heap.size w2 (w2.alloc (.cells #[.slice (some ⟨ga, 0, none⟩) la.length ca] 25)) := (Below.refl _ _).alloc (Nat.le_refl _) _
  go_wp2_with fail
  refine (any5_any rb m qa vb _ (R2.keep A2) (by omega)).mono ?_
  rintro e w3 ⟨gb, cb, lb, qb, rfl, hcb, hmb, hgb, hab, hqb, R3, D3⟩
  have A3 : Below w3.heap.size w3 (w3.alloc (.cells #[.slice (some ⟨gb, 0, none⟩) lb.length cb] 25)) := (Below.refl _ _).alloc (Nat.le_refl _) _
  have HOB : Hid (OB w rb vb m qb w2.heap.size w3.heap.size ga gb ca cb la lb (w3.alloc (.cells #[.slice (some ⟨gb, 0, none⟩) lb.length cb] 25))) := hide (by
    have n2 := cell_new w2 (.slice (some ⟨ga, 0, none⟩) la.length ca) 25
    have n3 := cell_new w3 (.slice (some ⟨gb, 0, none⟩) lb.length cb) 25
    have s1 := hb1.size
    have s2 := D2.size
    have s3 := D3.size
    simp only [World.size_alloc] at s3 hgb
    have ga2 := haa.1
    have gb2 := hab.1
    have DA : Dr rb w1 w3 := (D2.trans (Dr.of A2)).trans D3
    have e1 : ∀ b, b < W0.heap.size → (w3.alloc (.cells #[.slice (some ⟨gb, 0, none⟩) lb.length cb] 25)).heap[b]? = W0.heap[b]? := fun b hb => ((A3.block b (by omega)).trans (DA.block b (by omega) (by omega))).trans (hb1.block b hb)
    have k0 := e1 w.heap.size (by omega)
    have k1 := e1 (w.heap.size + 1) (by omega)
    have e2 : (w3.alloc (.cells #[.slice (some ⟨gb, 0, none⟩) lb.length cb] 25)).heap[w2.heap.size]? = (w2.alloc (.cells #[.slice (some ⟨ga, 0, none⟩) la.length ca] 25)).heap[w2.heap.size]? := (A3.block _ (by omega)).trans (D3.block _ (by simp) (by omega))
    have e3 : (w3.alloc (.cells #[.slice (some ⟨gb, 0, none⟩) lb.length cb] 25)).heap[ga]? = w2.heap[ga]? := ((A3.block _ (by omega)).trans (D3.block _ (by simp; omega) (by omega))).trans (A2.block _ ga2)
    exact ⟨R3.keep A3, (b2.trans ((hb1.mono (by omega)).trans (DA.below (by omega) (by omega)))).trans (A3.mono (by omega)), (World.cell?_of_block (a := ⟨w.heap.size, 0, none⟩) k0).trans X0.out.1, (World.frozen?_of_block (a := ⟨w.heap.size, 0, none⟩) k0).trans X0.out.2.1, (World.cell?_of_block (a := ⟨w.heap.size + 1, 0, none⟩) k1).trans X0.out.2.2.1, (World.frozen?_of_block (a := ⟨w.heap.size + 1, 0, none⟩) k1).trans X0.out.2.2.2, (World.cell?_of_block (a := ⟨w2.heap.size, 0, none⟩) e2).trans n2.1, n3.1, n3.2, atomsO_same haa (by simp; omega) e3, hab.below A3, by omega, by omega, by omega, by omega, by omega, by omega, by omega⟩)
  have HQB : Hid (qb ≤ 8000) := hide (by omega)
  clear R1 R2 R3 D2 D3 A2 A3 hb1 b2 X0 H2 HO2 hs2 hrb1 hrb haa hab hga hgb hqa hqb
  generalize w2.heap.size = xa at *
  go_wp2_with fail
  generalize w3.heap.size = xb at *
  go_loopw [7] (fun t wr => ∃ (i q gb cb : Nat) (lb : List At), i ≤ 4 ∧ t = .int .i64 (i : Int) ∧ OB w rb vb m q xa xb ga gb ca cb la lb wr ∧ lb.length ≤ 3001 ∧ lb.length ≤ cb ∧ q ≤ 8000 + i * 4001) (fun t _ => 4 - (intOf t).toNat)
  case atStart => exact ⟨0, qb, gb, cb, lb, by omega, rfl, HOB.out, hmb, hcb, by have := HQB.out; omega⟩
  case round =>
    clear HOB HQB hmb hcb
    obtain ⟨i, qc, gc, cc, lc, hi, rfl, hOB, hmb, hcb, hq⟩ := hrel
    have HOB := hide hOB
    have ac := hOB.ac
    have bc := hOB.bc
    clear hOB
    have HP := hide (fun p w (h : Rd w rb vb m p) (hp : p ≤ 1000000000) k (h1 : 1 ≤ k) (h2 : k ≤ 1000000) => pick_any rb m p vb k w h hp h1 h2)
    have HQC : Hid (qc ≤ 1000000000) := hide (by omega)
    by_cases hi4 : (i : Int) < 4
    · by_cases hla : la.length = 0
      · rw [hla] at ac
        go_wp2_with fail
        go_quiet (fail)
        go_wp2_with fail
        refine (HP.out (qc) _ (HOB.out.below (below_drewN (Below.refl _ _) _)).R (by omega) 8 (by omega) (by omega)).mono ?_
        rintro e w9 ⟨z9, hz9, rfl, R9, D9⟩
        have H9 := hide ((HOB.out.below (below_drewN (Below.refl _ _) _)).dr D9 R9)
        clear R9 D9
        have a9 := H9.out.ac
        have b9 := H9.out.bc
        have c09 := H9.out.c0
        have f09 := H9.out.f0
        have c19 := H9.out.c1
        have f19 := H9.out.f1
        have y1 : ¬ xa = w.heap.size := by have := H9.out.l; have := H9.out.x1; omega
        have y2 : ¬ xa = w.heap.size + 1 := by have := H9.out.l; have := H9.out.x1; omega
        have y3 : ¬ xb = w.heap.size := by have := H9.out.l; have := H9.out.x1; have := H9.out.x2; omega
        have y4 : ¬ xb = w.heap.size + 1 := by have := H9.out.l; have := H9.out.x1; have := H9.out.x2; omega
        go_wp2_with fail
        · go_region
          all_goals
            go_wp2
            refine bodyPost_ret (v := .tuple #[.agg #[.slice (some ⟨ga, 0, none⟩) (0) ca], .agg #[.slice (some ⟨ga, 0, none⟩) (0) ca]]) (by simp [results, Try.results7, go_sem, c09, c19]) rfl (H9.out.fin H9.out.A H9.out.g1 (by first | omega | exact HMA.out.symm) (by first | omega | exact HMA.out.symm) hma hma hca hca _ _)
        · go_region
          all_goals
            go_wp2
            refine bodyPost_ret (v := .tuple #[.agg #[.slice (some ⟨ga, 0, none⟩) (0) ca], .agg #[.slice (some ⟨gc, 0, none⟩) (lc.length) cc]]) (by simp [results, Try.results7, go_sem, c09, c19]) rfl (H9.out.fin H9.out.B H9.out.g3 (by first | omega | exact HMA.out.symm) (by first | omega | exact HMB.out.symm) hma hmb hca hcb _ _)

      · by_cases hlb : lc.length = 0
        · rw [hlb] at bc
          obtain ⟨mk, hmk⟩ : ∃ mk, la.length = mk + 1 := ⟨la.length - 1, by omega⟩
          rw [hmk] at ac
          have da : decide ((0 : Int) < (mk : Int) + 1) = true := decide_eq_true (by omega)
          go_wp2_with fail
          go_quiet (fail)
          go_wp2_with fail
          refine (HP.out (qc) _ (HOB.out.below (below_drewN (Below.refl _ _) _)).R (by omega) 8 (by omega) (by omega)).mono ?_
          rintro e w9 ⟨z9, hz9, rfl, R9, D9⟩
          have H9 := hide ((HOB.out.below (below_drewN (Below.refl _ _) _)).dr D9 R9)
          clear R9 D9
          have a9 := H9.out.ac
          have b9 := H9.out.bc
          have c09 := H9.out.c0
          have f09 := H9.out.f0
          have c19 := H9.out.c1
          have f19 := H9.out.f1
          have y1 : ¬ xa = w.heap.size := by have := H9.out.l; have := H9.out.x1; omega
          have y2 : ¬ xa = w.heap.size + 1 := by have := H9.out.l; have := H9.out.x1; omega
          have y3 : ¬ xb = w.heap.size := by have := H9.out.l; have := H9.out.x1; have := H9.out.x2; omega
          have y4 : ¬ xb = w.heap.size + 1 := by have := H9.out.l; have := H9.out.x1; have := H9.out.x2; omega
          go_wp2_with fail
          · go_region
            all_goals
              go_wp2
              refine bodyPost_ret (v := .tuple #[.agg #[.slice (some ⟨ga, 0, none⟩) (mk + 1) ca], .agg #[.slice (some ⟨ga, 0, none⟩) (mk + 1) ca]]) (by simp [results, Try.results7, go_sem, c09, c19]) rfl (H9.out.fin H9.out.A H9.out.g1 (by first | omega | exact HMA.out.symm) (by first | omega | exact HMA.out.symm) hma hma hca hca _ _)
          · go_region
            all_goals
              go_wp2
              refine bodyPost_ret (v := .tuple #[.agg #[.slice (some ⟨ga, 0, none⟩) (mk + 1) ca], .agg #[.slice (some ⟨gc, 0, none⟩) (0) cc]]) (by simp [results, Try.results7, go_sem, c09, c19]) rfl (H9.out.fin H9.out.B H9.out.g3 (by first | omega | exact HMA.out.symm) (by first | omega | exact HMB.out.symm) hma hmb hca hcb _ _)

        · obtain ⟨mk, hmk⟩ : ∃ mk, la.length = mk + 1 := ⟨la.length - 1, by omega⟩
          obtain ⟨mj, hmj⟩ : ∃ mj, lc.length = mj + 1 := ⟨lc.length - 1, by omega⟩
          obtain ⟨ta, hta⟩ : ∃ ta, la[mk]? = some ta := ⟨la[mk], List.getElem?_eq_getElem (by omega)⟩
          obtain ⟨tb, htb⟩ : ∃ tb, lc[mj]? = some tb := ⟨lc[mj], List.getElem?_eq_getElem (by omega)⟩
          have HMA := hide hmk
          have HMB := hide hmj
          have HKA := hide (fun W (hW : OB w rb vb m qc xa xb ga gc ca cc la lc W) => kind6_at ta la ga 0 ca mk W hmk (by omega) hta hW.A)
          have HKB := hide (fun W (hW : OB w rb vb m qc xa xb ga gc ca cc la lc W) => kind6_at tb lc gc 0 cc mj W hmj (by omega) htb hW.B)
          rw [hmk] at ac
          rw [hmj] at bc
          have hma2 : mk ≤ 3000 := by omega
          have hmj2 : mj ≤ 3000 := by omega
          have da : decide ((0 : Int) < (mk : Int) + 1) = true := decide_eq_true (by omega)
          have db : decide ((0 : Int) < (mj : Int) + 1) = true := decide_eq_true (by omega)
          clear hta htb hla hlb hmk hmj
          generalize ta.kind = ka at *
          generalize tb.kind = kb at *
          by_cases hkk : ka = kb
          · have hkn : (ka != kb) = false := by simp [hkk]
            have HKA2 := hide (fun q : KO w rb vb m qc xa xb ga gc ca cc la lc => ko_call HKA.out q)
            have HKB2 := hide (fun q : KO w rb vb m qc xa xb ga gc ca cc la lc => ko_call HKB.out q)
            haveI hne : Nonempty (KO w rb vb m qc xa xb ga gc ca cc la lc) := ⟨⟨_, HOB.out⟩⟩
            have fa : ∀ q : KO w rb vb m qc xa xb ga gc ca cc la lc, q.w.cell? ⟨xa, 0, none⟩ = some (.slice (some ⟨ga, 0, none⟩) (mk + 1) ca) := fun q => by rw [← HMA.out]; exact q.2.ac
            have fb : ∀ q : KO w rb vb m qc xa xb ga gc ca cc la lc, q.w.cell? ⟨xb, 0, none⟩ = some (.slice (some ⟨gc, 0, none⟩) (mj + 1) cc) := fun q => by rw [← HMB.out]; exact q.2.bc
            clear hkk
            go_wp2_with fail
            refine region_class (KO.w (w := w) (rb := rb) (vb := vb) (n := m) (q := qc) (xa := xa) (xb := xb) (ga := ga) (gb := gc) (ca := ca) (cb := cc) (la := la) (lb := lc)) (by kernel_rfl) (by kernel_rfl) ⟨⟨_, HOB.out.drew⟩, rfl⟩ ?_
            repeat (go_big_quiet_step (first
              | (go_at_call 22; exact HKA2.out _)
              | (go_at_call 22; exact HKB2.out _)))
            refine wpQuiet_nil ?_
            rintro _ ⟨q, rfl⟩
            have hOq := q.2
            go_wp2_with fail
            refine (HP.out (qc) _ hOq.R (by omega) 8 (by omega) (by omega)).mono ?_
            rintro e w9 ⟨z9, hz9, rfl, R9, D9⟩
            have H9 := hide (hOq.dr D9 R9)
            clear R9 D9
            have a9 := H9.out.ac
            have b9 := H9.out.bc
            have c09 := H9.out.c0
            have f09 := H9.out.f0
            have c19 := H9.out.c1
            have f19 := H9.out.f1
            have y1 : ¬ xa = w.heap.size := by have := H9.out.l; have := H9.out.x1; omega
            have y2 : ¬ xa = w.heap.size + 1 := by have := H9.out.l; have := H9.out.x1; omega
            have y3 : ¬ xb = w.heap.size := by have := H9.out.l; have := H9.out.x1; have := H9.out.x2; omega
            have y4 : ¬ xb = w.heap.size + 1 := by have := H9.out.l; have := H9.out.x1; have := H9.out.x2; omega
            go_wp2_with fail
            · go_region
              all_goals
                go_wp2
                refine bodyPost_ret (v := .tuple #[.agg #[.slice (some ⟨ga, 0, none⟩) (la.length) ca], .agg #[.slice (some ⟨ga, 0, none⟩) (la.length) ca]]) (by simp [results, Try.results7, go_sem, c09, c19]) rfl (H9.out.fin H9.out.A H9.out.g1 (by first | omega | exact HMA.out.symm) (by first | omega | exact HMA.out.symm) hma hma hca hca _ _)
            · go_region
              all_goals
                go_wp2
                refine bodyPost_ret (v := .tuple #[.agg #[.slice (some ⟨ga, 0, none⟩) (la.length) ca], .agg #[.slice (some ⟨gc, 0, none⟩) (lc.length) cc]]) (by simp [results, Try.results7, go_sem, c09, c19]) rfl (H9.out.fin H9.out.B H9.out.g3 (by first | omega | exact HMA.out.symm) (by first | omega | exact HMB.out.symm) hma hmb hca hcb _ _)

          · have hkn : (ka != kb) = true := by simp [hkk]
            clear hkk
            go_wp2_with fail
            go_region_with (first
            | (go_at_call 22; (with_reducible refine (HKA.out _ HOB.out).mono ?_); rintro e w1 ⟨rfl, hb1⟩; have O1 := HOB.out.below hb1; have ac1 := O1.ac; have bc1 := O1.bc; rw [HMB.out] at bc1)
            | (go_at_call 22; (with_reducible refine (HKA.out _ HOB.out.drew).mono ?_); rintro e w1 ⟨rfl, hb1⟩; have O1 := HOB.out.drew.below hb1; have ac1 := O1.ac; have bc1 := O1.bc; rw [HMB.out] at bc1)
            | (go_at_call 22; (with_reducible refine (HKA.out _ HOB.out.drew.drew).mono ?_); rintro e w1 ⟨rfl, hb1⟩; have O1 := HOB.out.drew.drew.below hb1; have ac1 := O1.ac; have bc1 := O1.bc; rw [HMB.out] at bc1)
            | (go_at_call 22; (with_reducible refine (HKB.out _ O1).mono ?_); rintro e w4 ⟨rfl, hb4⟩; have O4 := O1.below hb4)
            | (go_at_call 22; (with_reducible refine (HKB.out _ O1.drew).mono ?_); rintro e w4 ⟨rfl, hb4⟩; have O4 := O1.drew.below hb4)
            | (go_at_call 22; (with_reducible refine (HKB.out _ O1.drew.drew).mono ?_); rintro e w4 ⟨rfl, hb4⟩; have O4 := O1.drew.drew.below hb4)
            | (go_at_call 23; (with_reducible refine (HP.out qc _ O4.R (HQC.out) 4 (by omega) (by omega)).mono ?_); rintro e w5 ⟨z5, hz5, rfl, R5, D5⟩; have O5 := O4.dr D5 R5)
            | (go_at_call 23; (with_reducible refine (HP.out qc _ O4.drew.R (HQC.out) 4 (by omega) (by omega)).mono ?_); rintro e w5 ⟨z5, hz5, rfl, R5, D5⟩; have O5 := O4.drew.dr D5 R5))
            all_goals
              by_cases hz0 : (0 : Int) < (z5 : Int)
              · have hz1 : decide ((0 : Int) < (z5 : Int)) = true := decide_eq_true hz0
                go_wp2_with fail
                refine (any5_any rb m (qc + 1) vb _ O5.R (by omega)).mono ?_
                rintro e w6 ⟨g6, c6, l6, q6, rfl, hc6, hm6, hg6, ha6, hq6, R6, D6⟩
                have O6 := hide (O5.dr D6 R6)
                have bc6 := O6.out.bc
                have bf6 := O6.out.bf
                have t1 := O5.lt
                have t2 := O5.x1
                have t3 := O5.x2
                clear R6 D6
                go_wp2
                go_roundw
                case rel => exact ⟨i + 1, q6, g6, c6, l6, by omega, by go_num, O6.out.put ha6 (by omega) (by omega), hm6, hc6, by omega⟩
                case measure => simp [intOf]; omega
              · have hz1 : decide ((0 : Int) < (z5 : Int)) = false := decide_eq_false hz0
                go_wp2_with fail
                refine (HP.out (qc + 1) _ O5.R (by omega) 8 (by omega) (by omega)).mono ?_
                rintro e w9 ⟨z9, hz9, rfl, R9, D9⟩
                have H9 := hide (O5.dr D9 R9)
                clear R9 D9
                have a9 := H9.out.ac
                have b9 := H9.out.bc
                have c09 := H9.out.c0
                have f09 := H9.out.f0
                have c19 := H9.out.c1
                have f19 := H9.out.f1
                have y1 : ¬ xa = w.heap.size := by have := H9.out.l; have := H9.out.x1; omega
                have y2 : ¬ xa = w.heap.size + 1 := by have := H9.out.l; have := H9.out.x1; omega
                have y3 : ¬ xb = w.heap.size := by have := H9.out.l; have := H9.out.x1; have := H9.out.x2; omega
                have y4 : ¬ xb = w.heap.size + 1 := by have := H9.out.l; have := H9.out.x1; have := H9.out.x2; omega
                go_wp2_with fail
                · go_region
                  all_goals
                    go_wp2
                    refine bodyPost_ret (v := .tuple #[.agg #[.slice (some ⟨ga, 0, none⟩) (la.length) ca], .agg #[.slice (some ⟨ga, 0, none⟩) (la.length) ca]]) (by simp [results, Try.results7, go_sem, c09, c19]) rfl (H9.out.fin H9.out.A H9.out.g1 (by first | omega | exact HMA.out.symm) (by first | omega | exact HMA.out.symm) hma hma hca hca _ _)
                · go_region
                  all_goals
                    go_wp2
                    refine bodyPost_ret (v := .tuple #[.agg #[.slice (some ⟨ga, 0, none⟩) (la.length) ca], .agg #[.slice (some ⟨gc, 0, none⟩) (lc.length) cc]]) (by simp [results, Try.results7, go_sem, c09, c19]) rfl (H9.out.fin H9.out.B H9.out.g3 (by first | omega | exact HMA.out.symm) (by first | omega | exact HMB.out.symm) hma hmb hca hcb _ _)

    · have hi5 : decide ((i : Int) < 4) = false := decide_eq_false hi4
      go_wp2_with fail
      go_quiet (fail)
      go_wp2_with fail
      refine (HP.out (qc) _ (HOB.out.below (below_drewN (Below.refl _ _) _)).R (by omega) 8 (by omega) (by omega)).mono ?_
      rintro e w9 ⟨z9, hz9, rfl, R9, D9⟩
      have H9 := hide ((HOB.out.below (below_drewN (Below.refl _ _) _)).dr D9 R9)
      clear R9 D9
      have a9 := H9.out.ac
      have b9 := H9.out.bc
      have c09 := H9.out.c0
      have f09 := H9.out.f0
      have c19 := H9.out.c1
      have f19 := H9.out.f1
      have y1 : ¬ xa = w.heap.size := by have := H9.out.l; have := H9.out.x1; omega
      have y2 : ¬ xa = w.heap.size + 1 := by have := H9.out.l; have := H9.out.x1; omega
      have y3 : ¬ xb = w.heap.size := by have := H9.out.l; have := H9.out.x1; have := H9.out.x2; omega
      have y4 : ¬ xb = w.heap.size + 1 := by have := H9.out.l; have := H9.out.x1; have := H9.out.x2; omega
      go_wp2_with fail
      · go_region
        all_goals
          go_wp2
          refine bodyPost_ret (v := .tuple #[.agg #[.slice (some ⟨ga, 0, none⟩) (la.length) ca], .agg #[.slice (some ⟨ga, 0, none⟩) (la.length) ca]]) (by simp [results, Try.results7, go_sem, c09, c19]) rfl (H9.out.fin H9.out.A H9.out.g1 (by first | omega | exact HMA.out.symm) (by first | omega | exact HMA.out.symm) hma hma hca hca _ _)
      · go_region
        all_goals
          go_wp2
          refine bodyPost_ret (v := .tuple #[.agg #[.slice (some ⟨ga, 0, none⟩) (la.length) ca], .agg #[.slice (some ⟨gc, 0, none⟩) (lc.length) cc]]) (by simp [results, Try.results7, go_sem, c09, c19]) rfl (H9.out.fin H9.out.B H9.out.g3 (by first | omega | exact HMA.out.symm) (by first | omega | exact HMB.out.symm) hma hmb hca hcb _ _)

end Go.Proofs.Ytfpdoafpimaoaaa.Vl
