/- Targets, the program's side: the whole of it. -/
import Derived.Test.YtmpjdooepdicoaaGreatDoorBl
import Derived.Test.YtmpjdooepdicoaaGreatDoorBk
namespace Go.Proofs.YtmpjdooepdicoaaGreatDoor.Vl
open Go.RowKit T.atoms T.ok T.high T.good T.allPlain DatAt

theorem lc_form {B : Nat} {v : Value} {W : World} : ∀ {lc : List Lc}, (∀ r ∈ rowsG lc, W.ownsRow B 9 1 r.1 r.2.length (cellsT r.2)) → ∃ d : List Le, lc = d.map Le.lc
  | [], _ => ⟨[], rfl⟩
  | p :: r, h => by
    obtain ⟨d, hd⟩ := lc_form (v := v) (lc := r) (fun q hq => h q (by rw [show rowsG (p :: r) = (p.vi, p.t.ins) :: (p.vo, p.t.outs) :: rowsG r from rfl]; exact List.mem_cons_of_mem _ (List.mem_cons_of_mem _ hq)))
    obtain ⟨p1, c1, e1⟩ := row_form (h (p.vi, p.t.ins) (by rw [show rowsG (p :: r) = (p.vi, p.t.ins) :: (p.vo, p.t.outs) :: rowsG r from rfl]; exact List.mem_cons_self ..))
    obtain ⟨p2, c2, e2⟩ := row_form (h (p.vo, p.t.outs) (by rw [show rowsG (p :: r) = (p.vi, p.t.ins) :: (p.vo, p.t.outs) :: rowsG r from rfl]; exact List.mem_cons_of_mem _ (List.mem_cons_self ..)))
    refine ⟨(p.t, (p1, p.t.ins.length, c1), (p2, p.t.outs.length, c2)) :: d, ?_⟩
    rw [List.map_cons, hd]
    congr 1
    obtain ⟨t, vi, vo⟩ := p
    simp only at e1 e2
    subst e1 e2
    rfl
theorem cellsG_le (d : List Le) : cellsG (d.map Le.lc) = d.flatMap encL := by unfold cellsG; rw [List.flatMap_map]; rfl
theorem GI.sorted {B : Nat} {v : Value} {d d' : List Le} {W W' : World} (h : GI B v (d.map Le.lc) W) (hp : d'.Perm d) (ho : W'.ownsRow B 49 5 v d.length (d'.flatMap encL)) (hg : W.grownBy W' v.ownBlock) : GI B v (d'.map Le.lc) W' := by
  refine ⟨?_, ?_⟩
  · have h1 := h.S.other hg (fun b hb => own_cells h.L hb) (by decide)
    exact h1.perm (List.Perm.flatMap_right _ (hp.symm.map Le.lc))
  · rw [List.length_map, hp.length_eq, cellsG_le]
    exact ho
/-- What Targets hands back. -/
def IPost (w : World) (l : List Td) (e : Ending) (w' : World) : Prop := Below w.heap.size w w' ∧ ∃ (lc : List Lc) (p : Option Addr) (n c : Nat), e = .returned (.agg #[.int .i64 (plan9 l).1, .int .i64 (plan9 l).2.1, .slice p n c]) ∧ (plan9 l).2.2 = lc.map Lc.t ∧ lc.length ≤ l.length ∧ kP lc ≤ 3 * l.length + 2 * (l.map fun d => d.at_.length).sum ∧ (∀ q ∈ lc, q.t.ins.length ≤ 1000 ∧ q.t.outs.length ≤ 1000) ∧ GI w.heap.size (.slice p n c) lc w'
theorem kP_perm {a b : List Lc} (h : a.Perm b) : kP a = kP b := by unfold kP; exact (h.map kT).sum_nat
theorem boxPl (w : World) (a b c : Value) (t : TypeId) : Below w.heap.size w (w.alloc (.cells #[a, b, c] t)) ∧ ∀ W, Below (w.heap.size + 1) (w.alloc (.cells #[a, b, c] t)) W → (W.cell? ⟨w.heap.size, 0, none⟩ = some a ∧ W.cell? ⟨w.heap.size, 1, none⟩ = some b ∧ W.cell? ⟨w.heap.size, 2, none⟩ = some c) ∧ (W.frozen? ⟨w.heap.size, 0, none⟩ = false ∧ W.frozen? ⟨w.heap.size, 1, none⟩ = false ∧ W.frozen? ⟨w.heap.size, 2, none⟩ = false) := by
  refine ⟨(Below.refl _ _).alloc (Nat.le_refl _) _, fun W h => ?_⟩
  have k : ∀ j, W.cell? ⟨w.heap.size, j, none⟩ = (w.alloc (.cells #[a, b, c] t)).cell? ⟨w.heap.size, j, none⟩ := fun j => h.cell (p := ⟨w.heap.size, j, none⟩) (Nat.lt_succ_self _)
  have f : ∀ j, W.frozen? ⟨w.heap.size, j, none⟩ = (w.alloc (.cells #[a, b, c] t)).frozen? ⟨w.heap.size, j, none⟩ := fun j => h.frozen (p := ⟨w.heap.size, j, none⟩) (Nat.lt_succ_self _)
  refine ⟨⟨?_, ?_, ?_⟩, ?_, ?_, ?_⟩
  · rw [k]; simp
  · rw [k]; simp
  · rw [k]; simp
  · rw [f]; simp
  · rw [f]; simp
  · rw [f]; simp

set_option maxRecDepth 100000 in
set_option maxHeartbeats 4000000 in
theorem implT_any (l : List Td) (g c : Nat) (w : World) (hl : l.length ≤ 1048576) (hla : ∀ d ∈ l, d.at_.length ≤ 1048576) (ht : TdsO w g l) (hE : ErrT w) :
    Calls Tryz.prog 7 #[.slice (some ⟨g, 0, none⟩) l.length c] w (IPost w l) := by
  obtain ⟨b0, bx⟩ := boxPl w (.int .i64 0) (.int .i64 0) (.slice none 0 0) 26
  have HRA := hide (readAll_any l g c _ hl hla (ht.below b0))
  have BX := hide bx
  have HE0 := hide (hE.below b0)
  clear ht hE bx
  have s0 : (w.alloc (.cells #[.int .i64 0, .int .i64 0, .slice none 0 0] 26)).heap.size = w.heap.size + 1 := World.size_alloc _ _
  go_enter Tryz.func7, Tryz.ntmps7
  go_wp2_with fail
  refine HRA.out.mono ?_
  rintro e w1 ⟨hb1, h⟩
  have HE1 := hide (HE0.out.below hb1)
  have hz1 := hb1.size
  rw [s0] at hb1 hz1
  have HB1 := hide hb1
  have b2 : Below w1.heap.size w1 ((w1.alloc (.cells #[.int .i64 0, .nilIface] 61)).alloc (.cells #[.int .i64 0] 63)) := ((Below.refl _ _).alloc (Nat.le_refl _) _).alloc (by simp) _
  have sA : (w1.alloc (.cells #[.int .i64 0, .nilIface] 61)).heap.size = w1.heap.size + 1 := World.size_alloc _ _
  have sB : ((w1.alloc (.cells #[.int .i64 0, .nilIface] 61)).alloc (.cells #[.int .i64 0] 63)).heap.size = w1.heap.size + 1 + 1 := by rw [World.size_alloc, sA]
  rcases h with ⟨k, i, hk, hgo, rfl⟩ | ⟨lc, p, cc, hgo, hnd, hlen, hkp, hbd, rfl, hG⟩
  · have HP : Hid (plan9 l = (k, i, [])) := hide (by unfold plan9; rw [hgo]; rfl)
    have t0 : ((w1.alloc (.cells #[.int .i64 0, .nilIface] 61)).alloc (.cells #[.int .i64 0] 63)).cell? ⟨w1.heap.size, 0, none⟩ = some (.int .i64 0) := old_cell _ _ _ _ (by simp)
    have t1 : ((w1.alloc (.cells #[.int .i64 0, .nilIface] 61)).alloc (.cells #[.int .i64 0] 63)).cell? ⟨w1.heap.size, 1, none⟩ = some .nilIface := old_cell _ _ _ _ (by simp)
    have f0 : ((w1.alloc (.cells #[.int .i64 0, .nilIface] 61)).alloc (.cells #[.int .i64 0] 63)).frozen? ⟨w1.heap.size, 0, none⟩ = false := old_froz _ _ _ (by rw [sA]; show w1.heap.size < _; omega) (by simp)
    have f1 : ((w1.alloc (.cells #[.int .i64 0, .nilIface] 61)).alloc (.cells #[.int .i64 0] 63)).frozen? ⟨w1.heap.size, 1, none⟩ = false := old_froz _ _ _ (by rw [sA]; show w1.heap.size < _; omega) (by simp)
    have u0 : ((w1.alloc (.cells #[.int .i64 0, .nilIface] 61)).alloc (.cells #[.int .i64 0] 63)).cell? ⟨w1.heap.size + 1, 0, none⟩ = some (.int .i64 0) := new_cell _ _ _ _ _ sA
    have v0 : ((w1.alloc (.cells #[.int .i64 0, .nilIface] 61)).alloc (.cells #[.int .i64 0] 63)).frozen? ⟨w1.heap.size + 1, 0, none⟩ = false := by rw [← sA]; exact (cell_new _ _ _).2
    have HA1 := hide (as_place i k w1.heap.size _ _ _ (HE1.out.below b2) t0 t1 f0 f1)
    have HE2 := hide (HE1.out.below b2)
    clear t1 f1 hgo
    go_wp2_with fail
    refine HA1.out.mono ?_
    rintro e w2 ⟨rfl, W, hW, rfl⟩
    rw [sB] at hW
    have wt0 := (hW.cell (p := ⟨w1.heap.size, 0, none⟩) (by show w1.heap.size < _; omega)).trans t0
    have wu0 := (hW.cell (p := ⟨w1.heap.size + 1, 0, none⟩) (by show w1.heap.size + 1 < _; omega)).trans u0
    have wv0 := (hW.frozen (p := ⟨w1.heap.size + 1, 0, none⟩) (by show w1.heap.size + 1 < _; omega)).trans v0
    have HEW : Hid (ErrT ((W.setCell ⟨w1.heap.size, 0, none⟩ (.int .i64 i)).setCell ⟨w1.heap.size, 1, none⟩ (.iface 63 (.agg #[.int .i64 k])))) := hide (by
      have h0 : ErrT W := HE2.out.below (by rw [sB]; exact hW)
      unfold ErrT at h0 ⊢
      rw [World.cell?_setCell_other _ _ _ _ (by simp), World.cell?_setCell_other _ _ _ _ (by simp)]
      exact h0)
    have zu0 : ((W.setCell ⟨w1.heap.size, 0, none⟩ (.int .i64 i)).setCell ⟨w1.heap.size, 1, none⟩ (.iface 63 (.agg #[.int .i64 k]))).cell? ⟨w1.heap.size + 1, 0, none⟩ = some (.int .i64 0) := by
      rw [World.cell?_setCell_other _ _ _ _ (by simp), World.cell?_setCell_other _ _ _ _ (by simp)]; exact wu0
    have zv0 : ((W.setCell ⟨w1.heap.size, 0, none⟩ (.int .i64 i)).setCell ⟨w1.heap.size, 1, none⟩ (.iface 63 (.agg #[.int .i64 k]))).frozen? ⟨w1.heap.size + 1, 0, none⟩ = false := by simpa using wv0
    have zt0 : ((W.setCell ⟨w1.heap.size, 0, none⟩ (.int .i64 i)).setCell ⟨w1.heap.size, 1, none⟩ (.iface 63 (.agg #[.int .i64 k]))).cell? ⟨w1.heap.size, 0, none⟩ = some (.int .i64 i) := by
      rw [World.cell?_setCell_other _ _ _ _ (by simp)]; exact World.cell?_setCell_same _ _ _ wt0
    have BW : Below (w.heap.size + 1) w1 ((W.setCell ⟨w1.heap.size, 0, none⟩ (.int .i64 i)).setCell ⟨w1.heap.size, 1, none⟩ (.iface 63 (.agg #[.int .i64 k]))) := (((b2.mono hz1).trans (hW.mono (by omega))).setCell (p := ⟨w1.heap.size, 0, none⟩) hz1 _).setCell (p := ⟨w1.heap.size, 1, none⟩) hz1 _
    have sW : w1.heap.size + 1 + 1 ≤ ((W.setCell ⟨w1.heap.size, 0, none⟩ (.int .i64 i)).setCell ⟨w1.heap.size, 1, none⟩ (.iface 63 (.agg #[.int .i64 k]))).heap.size := by
      have := hW.size
      rw [sB] at this
      simpa using this
    have HA2 := hide (as_why i k (w1.heap.size + 1) _ _ HEW.out zu0 zv0)
    have HBW := hide BW
    clear t0 f0 u0 v0 wt0 wu0 wv0 zv0 hW BW HEW HE2 HA1
    generalize hZ : (W.setCell ⟨w1.heap.size, 0, none⟩ (.int .i64 i)).setCell ⟨w1.heap.size, 1, none⟩ (.iface 63 (.agg #[.int .i64 k])) = Z at *
    clear hZ
    go_wp2_with fail
    refine HA2.out.mono ?_
    rintro e w3 ⟨rfl, Y, hY, rfl⟩
    have y0 := (hY.cell (p := ⟨w1.heap.size, 0, none⟩) (by show w1.heap.size < _; omega)).trans zt0
    have y1 := (hY.cell (p := ⟨w1.heap.size + 1, 0, none⟩) (by show w1.heap.size + 1 < _; omega)).trans zu0
    have q0 : (Y.setCell ⟨w1.heap.size + 1, 0, none⟩ (.int .i64 k)).cell? ⟨w1.heap.size + 1, 0, none⟩ = some (.int .i64 k) := World.cell?_setCell_same _ _ _ y1
    have q1 : (Y.setCell ⟨w1.heap.size + 1, 0, none⟩ (.int .i64 k)).cell? ⟨w1.heap.size, 0, none⟩ = some (.int .i64 i) := by
      rw [World.cell?_setCell_other _ _ _ _ (by simp)]; exact y0
    have BY : Below (w.heap.size + 1) (w.alloc (.cells #[.int .i64 0, .int .i64 0, .slice none 0 0] 26)) (Y.setCell ⟨w1.heap.size + 1, 0, none⟩ (.int .i64 k)) := ((HB1.out.trans HBW.out).trans (hY.mono (by omega))).setCell (p := ⟨w1.heap.size + 1, 0, none⟩) (by show w.heap.size + 1 ≤ w1.heap.size + 1; omega) _
    obtain ⟨⟨r0, r1, r2⟩, ⟨s0', s1', s2'⟩⟩ := BX.out _ BY
    have HBY := hide BY
    clear y0 y1 hY BY zt0 zu0 HA2
    generalize hZ : Y.setCell ⟨w1.heap.size + 1, 0, none⟩ (.int .i64 k) = Z2 at *
    clear hZ
    go_wp2
    refine bodyPost_ret (v := .agg #[.int .i64 k, .int .i64 i, .slice none 0 0]) (by simp [results, Tryz.results7, go_sem, r0, r1, r2]) rfl ?_
    refine ⟨?_, [], none, 0, 0, by rw [HP.out], by rw [HP.out]; rfl, Nat.zero_le _, Nat.zero_le _, (fun q hq => by cases hq), ⟨SR.nil _ _, World.ownsRow_nil _ _ _ _⟩⟩
    iterate 3 (refine Below.setCell ?_ (by show w.heap.size ≤ w.heap.size; exact Nat.le_refl _) _)
    exact b0.trans (HBY.out.mono (by omega))
  · obtain ⟨d, hd⟩ := lc_form (v := .nilIface) hG.S.own
    subst hd
    rw [List.length_map] at *
    have G2 := hide (hG.below b2)
    have B2 := hide (HB1.out.trans (b2.mono hz1))
    have hdl : d.length ≤ 1048576 := by omega
    have hL2 := G2.out.L
    rw [List.length_map, cellsG_le] at hL2
    have HSL := hide (sortL_any d _ d.length (.slice p d.length cc) _ rfl hdl hL2)
    have HND := hide hnd
    have HGO := hide hgo
    have HKP := hide hkp
    have HBD := hide hbd
    have HLN := hide hlen
    clear hG hL2 hgo hnd hkp hbd hlen
    go_wp2_with fail
    refine (as_nil _ _).mono ?_
    rintro e w2 ⟨rfl, rfl⟩
    go_wp2_with fail
    refine HSL.out.mono ?_
    rintro e w3 ⟨rfl, d', hp, hs, ho, hg⟩
    have G3 := hide (G2.out.sorted hp ho hg)
    have BY : Below (w.heap.size + 1) (w.alloc (.cells #[.int .i64 0, .int .i64 0, .slice none 0 0] 26)) w3 := B2.out.grown hg (by rw [sB]; omega) (fun q e => by have := (own_lt G2.out.L e).1; omega)
    obtain ⟨⟨r0, r1, r2⟩, ⟨s0', s1', s2'⟩⟩ := BX.out _ BY
    have HBY := hide BY
    have HP : Hid ((plan9 l).1 = 0 ∧ (plan9 l).2.1 = 0 ∧ (plan9 l).2.2 = (d'.map Le.lc).map Lc.t) := hide (by
      unfold plan9
      rw [HGO.out]
      refine ⟨rfl, rfl, ?_⟩
      show picked ((d.map Le.lc).map (fun q => q.t.name)) ((d.map Le.lc).map Lc.t) = _
      have e : (d.map Le.lc).map (fun q => q.t.name) = ((d.map Le.lc).map Lc.t).map Tg.name := by rw [List.map_map, List.map_map, List.map_map]; rfl
      have hn := HND.out
      rw [e] at hn ⊢
      refine (picked_eq _ _ hn ((hp.map Le.lc).map Lc.t) ?_).symm
      rw [List.map_map, List.pairwise_map]
      exact hs)
    have HK2 : Hid (kP (d'.map Le.lc) ≤ 3 * l.length + 2 * (l.map fun d => d.at_.length).sum) := hide (by rw [kP_perm (hp.map Le.lc)]; exact HKP.out)
    have HB2 : Hid (∀ q ∈ d'.map Le.lc, q.t.ins.length ≤ 1000 ∧ q.t.outs.length ≤ 1000) := hide (fun q hq => HBD.out q ((hp.map Le.lc).mem_iff.1 hq))
    have HL2 : Hid ((d'.map Le.lc).length ≤ l.length) := hide (by rw [List.length_map, hp.length_eq]; have := HLN.out; omega)
    have hB1 := hz1
    clear ho hg hp hs BY HSL
    go_wp2
    refine bodyPost_ret (v := .agg #[.int .i64 0, .int .i64 0, .slice p d.length cc]) (by simp [results, Tryz.results7, go_sem, r0, r1, r2]) rfl ?_
    refine ⟨?_, d'.map Le.lc, p, d.length, cc, by rw [HP.out.1, HP.out.2.1], HP.out.2.2, HL2.out, HK2.out, HB2.out, ?_⟩
    · iterate 3 (refine Below.setCell ?_ (by show w.heap.size ≤ w.heap.size; exact Nat.le_refl _) _)
      exact b0.trans (HBY.out.mono (by omega))
    · have h := G3.out.mono (show w.heap.size + 1 ≤ _ by rw [s0]; omega)
      refine GI.mono (B := w.heap.size + 1) ?_ (by omega)
      iterate 3 (refine GI.same ?_ (fun b hb1 hb2 => Below.heap_setCell _ _ _ _ (by show b ≠ w.heap.size; omega)))
      exact h
end Go.Proofs.YtmpjdooepdicoaaGreatDoor.Vl
