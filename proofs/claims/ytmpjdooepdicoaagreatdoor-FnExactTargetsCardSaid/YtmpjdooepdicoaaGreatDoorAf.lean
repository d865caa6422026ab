/- Targets: the law's marks in targets. -/
import Derived.Test.YtmpjdooepdicoaaGreatDoorAe
import Derived.Test.YtmpjdooepdicoaaGreatDoorYi
namespace Go.Proofs.YtmpjdooepdicoaaGreatDoor.Vl
open Go.RowKit T.atoms T.ok T.high T.good T.allPlain

/-- Targets in rows of their own. -/
structure GI (B : Nat) (v : Value) (lc : List Lc) (W : World) : Prop where
  S : SR B (rowsG lc) W
  L : W.ownsRow B 49 5 v lc.length (cellsG lc)
theorem GI.below {B : Nat} {v : Value} {lc : List Lc} {W W' : World} (h : GI B v lc W) (hb : Below W.heap.size W W') : GI B v lc W' := ⟨h.S.below hb, row_belowY h.L hb⟩
def kT (p : Lc) : Nat := 3 + p.t.ins.length + p.t.outs.length
def kP (l : List Lc) : Nat := (l.map kT).sum
theorem kP_cons (p : Lc) (l : List Lc) : kP (p :: l) = kT p + kP l := by unfold kP; rw [List.map_cons, List.sum_cons]
def mkT (k : Nat) (p : Lc) : Lc := ⟨⟨mkS k, mkS (k + 1), mkS (k + 2), mks (k + 3) p.t.ins.length, mks (k + 3 + p.t.ins.length) p.t.outs.length⟩, p.vi, p.vo⟩
def mkP : Nat → List Lc → List Lc
  | _, [] => []
  | k, p :: r => mkT k p :: mkP (k + kT p) r
theorem mkP_len (k : Nat) (l : List Lc) : (mkP k l).length = l.length := by
  induction l generalizing k with
  | nil => rfl
  | cons p r ih => rw [mkP, List.length_cons, List.length_cons, ih]
theorem cellsG_len (l : List Lc) : (cellsG l).length = l.length * 5 := by
  induction l with
  | nil => rfl
  | cons x r ih => unfold cellsG at ih ⊢; rw [List.flatMap_cons, List.length_append, ih]; simp [Lc.cells]; omega
theorem cellsG_mid (a r : List Lc) (p : Lc) : cellsG (a ++ p :: r) = cellsG a ++ .string p.t.name :: .string p.t.tool :: .string p.t.arg :: p.vi :: p.vo :: cellsG r := by
  unfold cellsG; rw [List.flatMap_append, List.flatMap_cons]; rfl
theorem rowsG_mid (a r : List Lc) (p : Lc) : rowsG (a ++ p :: r) = rowsG a ++ (p.vi, p.t.ins) :: (p.vo, p.t.outs) :: rowsG r := by
  unfold rowsG; rw [List.flatMap_append, List.flatMap_cons]; rfl
theorem rows_front (a r : List (Value × List ByteArray)) (x y : Value × List ByteArray) : (a ++ x :: y :: r).Perm (x :: y :: (a ++ r)) :=
  List.perm_middle.trans (List.Perm.cons _ List.perm_middle)
theorem set5_0 (P R : List Value) (a b c d e v : Value) (k : Nat) (h : P.length = k) : (P ++ a :: b :: c :: d :: e :: R).set k v = P ++ v :: b :: c :: d :: e :: R := by subst h; simp
theorem set5_1 (P R : List Value) (a b c d e v : Value) (k : Nat) (h : P.length = k) : (P ++ a :: b :: c :: d :: e :: R).set (k + 1) v = P ++ a :: v :: c :: d :: e :: R := by subst h; simp
theorem set5_2 (P R : List Value) (a b c d e v : Value) (k : Nat) (h : P.length = k) : (P ++ a :: b :: c :: d :: e :: R).set (k + 2) v = P ++ a :: b :: v :: d :: e :: R := by subst h; simp
/-- The world inside a round of the marks. -/
structure RM (B H g n cap k : Nat) (P R : List Value) (Q : List (Value × List ByteArray)) (x0 x1 x2 x3 x4 : Value) (w W : World) : Prop where
  L : W.ownsRow B 49 5 (.slice (some ⟨g, 0, none⟩) n cap) n (P ++ x0 :: x1 :: x2 :: x3 :: x4 :: R)
  S : SR B Q W
  b : Below B w W
  z : B ≤ W.heap.size
  h : ∀ q, H ≤ q → q < w.heap.size → W.heap[q]? = w.heap[q]?
  s : w.heap.size ≤ W.heap.size
section
variable {B H g n cap k : Nat} {P R : List Value} {Q : List (Value × List ByteArray)} {x0 x1 x2 x3 x4 : Value} {w W : World}
theorem RM.below (h : RM B H g n cap k P R Q x0 x1 x2 x3 x4 w W) {W' : World} (hb : Below W.heap.size W W') : RM B H g n cap k P R Q x0 x1 x2 x3 x4 w W' :=
  ⟨row_belowY h.L hb, h.S.below hb, h.b.trans (hb.mono h.z), Nat.le_trans h.z hb.size, fun q h1 h2 => (hb.block q (Nat.lt_of_lt_of_le h2 h.s)).trans (h.h q h1 h2), Nat.le_trans h.s hb.size⟩
theorem RM.at (h : RM B H g n cap k P R Q x0 x1 x2 x3 x4 w W) (hP : P.length = k) (hk : k + 5 ≤ n * 5) (j : Nat) (hj : j < 5) : W.cell? ⟨g, k + j, none⟩ = (x0 :: x1 :: x2 :: x3 :: x4 :: R)[j]? :=
  (h.L.cellAt _ (by omega)).trans (get4 _ _ _ j hP)
theorem RM.gB (h : RM B H g n cap k P R Q x0 x1 x2 x3 x4 w W) : B ≤ g := (h.L.lt g rfl).1
theorem RM.cells (h : RM B H g n cap k P R Q x0 x1 x2 x3 x4 w W) : ∀ b, some g = some b → ∃ cs fr, W.heap[b]? = some (.cells cs 49 fr) := fun b hb => own_cells h.L (by rw [← hb]; rfl)
theorem RM.srt (h : RM B H g n cap k P R Q x0 x1 x2 x3 x4 w W) (j : Nat) (v : Value) : SR B Q (W.setCell ⟨g, j, none⟩ v) := h.S.other (grown_set W g j v) h.cells (by decide)
theorem RM.put0 (h : RM B H g n cap k P R Q x0 x1 x2 x3 x4 w W) (hP : P.length = k) (hgH : g < H) (v : Value) : RM B H g n cap k P R Q v x1 x2 x3 x4 w (W.setCell ⟨g, k, none⟩ v) := by
  have s := (h.L.stored k v).1
  rw [set5_0 _ _ _ _ _ _ _ _ _ hP] at s
  exact ⟨s, h.srt _ _, h.b.setCell (p := ⟨g, k, none⟩) h.gB _, by rw [size_set4]; exact h.z, fun q h1 h2 => (Below.heap_setCell _ _ _ _ (show q ≠ g by omega)).trans (h.h q h1 h2), by rw [size_set4]; exact h.s⟩
theorem RM.put1 (h : RM B H g n cap k P R Q x0 x1 x2 x3 x4 w W) (hP : P.length = k) (hgH : g < H) (v : Value) : RM B H g n cap k P R Q x0 v x2 x3 x4 w (W.setCell ⟨g, k + 1, none⟩ v) := by
  have s := (h.L.stored (k + 1) v).1
  rw [set5_1 _ _ _ _ _ _ _ _ _ hP] at s
  exact ⟨s, h.srt _ _, h.b.setCell (p := ⟨g, k + 1, none⟩) h.gB _, by rw [size_set4]; exact h.z, fun q h1 h2 => (Below.heap_setCell _ _ _ _ (show q ≠ g by omega)).trans (h.h q h1 h2), by rw [size_set4]; exact h.s⟩
theorem RM.put2 (h : RM B H g n cap k P R Q x0 x1 x2 x3 x4 w W) (hP : P.length = k) (hgH : g < H) (v : Value) : RM B H g n cap k P R Q x0 x1 v x3 x4 w (W.setCell ⟨g, k + 2, none⟩ v) := by
  have s := (h.L.stored (k + 2) v).1
  rw [set5_2 _ _ _ _ _ _ _ _ _ hP] at s
  exact ⟨s, h.srt _ _, h.b.setCell (p := ⟨g, k + 2, none⟩) h.gB _, by rw [size_set4]; exact h.z, fun q h1 h2 => (Below.heap_setCell _ _ _ _ (show q ≠ g by omega)).trans (h.h q h1 h2), by rw [size_set4]; exact h.s⟩
theorem RM.mark {v : Value} {l l' : List ByteArray} (h : RM B H g n cap k P R ((v, l) :: Q) x0 x1 x2 x3 x4 w W) {W' : World} (hg : W.grownBy W' v.ownBlock) (ho : W'.ownsRow B 9 1 v l'.length (cellsT l')) (hb : Below B W W') (hvH : ∀ b, v.ownBlock = some b → b < H) : RM B H g n cap k P R ((v, l') :: Q) x0 x1 x2 x3 x4 w W' :=
  ⟨row_keptY h.L hg (fun b hb1 hb2 => by
      obtain ⟨cs, fr, e1⟩ := own_cells h.L hb1
      obtain ⟨cs', fr', e2⟩ := own_cells (h.S.own (v, l) (List.mem_cons_self ..)) hb2
      rw [e1] at e2
      injection e2 with e2
      injection e2 with _ e3 _
      exact absurd e3 (by decide)), h.S.grow hg ho (.inl rfl), h.b.trans hb, Nat.le_trans h.z hb.size, fun q h1 h2 => (hg.block q (Nat.lt_of_lt_of_le h2 h.s) (fun e => by have := hvH q e.symm; omega)).trans (h.h q h1 h2), Nat.le_trans h.s hb.size⟩
theorem RM.perm (h : RM B H g n cap k P R Q x0 x1 x2 x3 x4 w W) {Q' : List (Value × List ByteArray)} (hp : Q.Perm Q') : RM B H g n cap k P R Q' x0 x1 x2 x3 x4 w W := ⟨h.L, h.S.perm hp, h.b, h.z, h.h, h.s⟩
end

set_option maxRecDepth 100000 in
set_option maxHeartbeats 2000000 in
theorem markP_some (lc : List Lc) (g cap B H : Nat) (w : World) (hk : kP lc ≤ 4999999) (hl : lc.length ≤ 1048576) (hn : ∀ p ∈ lc, p.t.ins.length ≤ 1048576 ∧ p.t.outs.length ≤ 1048576) (hG : GI B (.slice (some ⟨g, 0, none⟩) lc.length cap) lc w) (hBs : B ≤ w.heap.size) (hgH : g < H) (hH : ∀ p ∈ lc, ∀ b, (p.vi.ownBlock = some b → b < H) ∧ (p.vo.ownBlock = some b → b < H)) :
    Calls Tryz.prog 29 #[.slice (some ⟨g, 0, none⟩) lc.length cap, .int .i64 1] w fun e w' => e = .returned (.int .i64 ((1 + kP lc : Nat) : Int)) ∧ GI B (.slice (some ⟨g, 0, none⟩) lc.length cap) (mkP 1 lc) w' ∧ Below B w w' ∧ ∀ q, H ≤ q → q < w.heap.size → w'.heap[q]? = w.heap[q]? := by
  have HHB := hide hH
  clear hH
  have HN := hide hn
  have HG := hide hG
  clear hn hG
  go_enter Tryz.func29, Tryz.ntmps29
  go_wp2
  go_loopw [1, 5] (fun t u wr => ∃ (i K : Nat) (done : List Lc), i ≤ lc.length ∧ u = .int .i64 i ∧ t = .int .i64 (K : Int) ∧ 1 ≤ K ∧ 1 + kP lc = K + kP (lc.drop i) ∧ done.length = i ∧ mkP 1 lc = done ++ mkP K (lc.drop i) ∧ wr.ownsRow B 49 5 (.slice (some ⟨g, 0, none⟩) lc.length cap) lc.length (cellsG (done ++ lc.drop i)) ∧ SR B (rowsG (done ++ lc.drop i)) wr ∧ Below B w wr ∧ B ≤ wr.heap.size ∧ (∀ q, H ≤ q → q < w.heap.size → wr.heap[q]? = w.heap[q]?) ∧ w.heap.size ≤ wr.heap.size) (fun _ u _ => lc.length - (intOf u).toNat)
  case atStart => exact ⟨0, 1, [], Nat.zero_le _, rfl, rfl, Nat.le_refl _, rfl, rfl, rfl, HG.out.L, HG.out.S, Below.refl _ _, hBs, fun _ _ _ => rfl, Nat.le_refl _⟩
  case round =>
    obtain ⟨i, K, done, hi, rfl, rfl, hK1, hKe, hdl, hme, ho, hs, hB, hsz, hfr, hws⟩ := hrel
    have HFR := hide hfr
    clear hfr
    by_cases hlt : i < lc.length
    · have hdr := List.drop_eq_getElem_cons hlt
      have hni := HN.out _ (List.getElem_mem hlt)
      have hpH := HHB.out _ (List.getElem_mem hlt)
      rw [hdr] at ho hs hKe hme
      rw [kP_cons] at hKe
      rw [cellsG_mid] at ho
      rw [rowsG_mid] at hs
      rw [mkP] at hme
      have HDL := hide hdl
      clear hdr hdl
      generalize lc[i] = p at *
      have hkT : kT p = 3 + p.t.ins.length + p.t.outs.length := rfl
      have hPl : (cellsG done).length = i * 5 := by rw [cellsG_len, HDL.out]
      have hi5 : i * 5 + 5 ≤ lc.length * 5 := by omega
      have hKb : K + kT p ≤ 5000000 := by omega
      have R0 : RM B H g lc.length cap (i * 5) (cellsG done) (cellsG (lc.drop (i + 1))) ((p.vi, p.t.ins) :: (p.vo, p.t.outs) :: (rowsG done ++ rowsG (lc.drop (i + 1)))) (.string p.t.name) (.string p.t.tool) (.string p.t.arg) p.vi p.vo w wr := ⟨ho, hs.perm (rows_front _ _ _ _), hB, hsz, HFR.out, hws⟩
      have HPH := hide hpH
      clear hpH
      have HR0 := hide R0
      have c0 := R0.at hPl hi5 0 (by omega)
      have f0 := R0.L.frozenAt (i * 5)
      simp at c0
      have HKE := hide hKe
      have HME := hide hme
      rw [hkT] at hKb
      have hni1 := hni.1
      have hni2 := hni.2
      clear ho hs R0 hKe hme hkT hni
      go_wp2_with fail
      refine (markText_any K _ _ (by omega) (by omega) rfl).mono ?_
      rintro e w1 ⟨rfl, hb1⟩
      have R1 := HR0.out.below hb1
      have c1 := R1.at hPl hi5 0 (by omega)
      have f1 := R1.L.frozenAt (i * 5)
      simp at c1
      have R2 := R1.put0 hPl hgH (.string ⟨(Mk.mt K).toArray⟩)
      have c2 := R2.at hPl hi5 1 (by omega)
      have f2 := R2.L.frozenAt (i * 5 + 1)
      simp at c2
      have HR2 := hide R2
      clear R1 R2 HR0 c0 f0 hb1
      go_wp2_with fail
      refine (markText_any (K + 1) _ _ (by omega) (by omega) (by omega)).mono ?_
      rintro e w2 ⟨rfl, hb2⟩
      have R3 := HR2.out.below hb2
      have c3 := R3.at hPl hi5 1 (by omega)
      have f3 := R3.L.frozenAt (i * 5 + 1)
      simp at c3
      have R4 := R3.put1 hPl hgH (.string ⟨(Mk.mt (K + 1)).toArray⟩)
      have c4 := R4.at hPl hi5 2 (by omega)
      have f4 := R4.L.frozenAt (i * 5 + 2)
      simp at c4
      have HR4 := hide R4
      clear R3 R4 HR2 c1 f1 c2 f2 hb2
      go_wp2_with fail
      refine (markText_any (K + 2) _ _ (by omega) (by omega) (by omega)).mono ?_
      rintro e w3 ⟨rfl, hb3⟩
      have R5 := HR4.out.below hb3
      have c5 := R5.at hPl hi5 2 (by omega)
      have f5 := R5.L.frozenAt (i * 5 + 2)
      simp at c5
      have R6 := R5.put2 hPl hgH (.string ⟨(Mk.mt (K + 2)).toArray⟩)
      have c6 := R6.at hPl hi5 3 (by omega)
      simp at c6
      have m1 := markS_any (K + 3) p.t.ins.length B p.vi (cellsT p.t.ins) _ (by omega) (by omega) hni1 (R6.S.own (p.vi, p.t.ins) (List.mem_cons_self ..)) R6.z
      rw [show ((K + 3 : Nat) : Int) = (K : Int) + 1 + 1 + 1 from by omega] at m1
      have HR6 := hide R6
      have HM1 := hide m1
      clear R5 R6 HR4 c3 f3 c4 f4 hb3 m1
      go_wp2_with fail
      refine HM1.out.mono ?_
      rintro e w4 ⟨rfl, ho4, hg4, hb4⟩
      have R7 := (HR6.out.mark (l' := mks (K + 3) p.t.ins.length) hg4 (by rw [mks_len]; exact ho4) hb4 (fun b => (HPH.out b).1)).perm (List.Perm.swap _ _ _)
      have c7 := R7.at hPl hi5 4 (by omega)
      simp at c7
      have m2 := markS_any (K + 3 + p.t.ins.length) p.t.outs.length B p.vo (cellsT p.t.outs) _ (by omega) (by omega) hni2 (R7.S.own (p.vo, p.t.outs) (List.mem_cons_self ..)) R7.z
      rw [show ((K + 3 + p.t.ins.length : Nat) : Int) = (K : Int) + 1 + 1 + 1 + (p.t.ins.length : Int) from by omega] at m2
      have HR7 := hide R7
      have HM2 := hide m2
      clear R7 HR6 c5 f5 c6 ho4 hg4 hb4 m2 HM1
      go_wp2_with fail
      refine HM2.out.mono ?_
      rintro e w5 ⟨rfl, ho5, hg5, hb5⟩
      have R8 := HR7.out.mark (l' := mks (K + 3 + p.t.ins.length) p.t.outs.length) hg5 (by rw [mks_len]; exact ho5) hb5 (fun b => (HPH.out b).2)
      have HR8 := hide R8
      clear R8 HR7 c7 ho5 hg5 hb5 HM2
      go_wp2
      go_roundw
      case rel =>
        have R8 := HR8.out
        have e1 := HKE.out
        refine ⟨i + 1, K + kT p, done ++ [mkT K p], by omega, by go_num, congrArg (Value.int IntKind.i64) (by unfold kT; omega), by omega, by omega, by rw [List.length_append, HDL.out]; rfl, by rw [HME.out, List.append_assoc]; rfl, ?_, ?_, R8.b, R8.z, R8.h, R8.s⟩
        · rw [List.append_assoc, List.singleton_append, cellsG_mid]
          exact R8.L
        · rw [List.append_assoc, List.singleton_append, rowsG_mid]
          exact R8.S.perm ((List.Perm.swap _ _ _).trans (rows_front _ _ _ _).symm)
      case measure => simp [intOf]; omega
    · obtain rfl : i = lc.length := by omega
      rw [List.drop_of_length_le (Nat.le_refl _)] at hKe hme ho hs
      have HKE := hide (show K = 1 + kP lc by rw [hKe]; rfl)
      have HMD := hide (show mkP 1 lc = done by rw [hme]; simp [mkP])
      rw [List.append_nil] at ho hs
      clear hKe hme
      go_wp2
      go_ret
      refine ⟨ret_int (by rw [HKE.out]), ?_, hB, HFR.out⟩
      rw [HMD.out]
      exact ⟨hs, by rw [hdl]; exact ho⟩

set_option maxHeartbeats 400000 in
theorem markP_none (w : World) : Calls Tryz.prog 29 #[.slice none 0 0, .int .i64 1] w fun e w' => e = .returned (.int .i64 1) ∧ w' = w := by
  go_enter Tryz.func29, Tryz.ntmps29
  go_wp2
  go_loopw [1, 5] (fun t u wr => t = .int .i64 1 ∧ u = .int .i64 0 ∧ wr = w) (fun _ _ _ => 0)
  case atStart => exact ⟨rfl, rfl, rfl⟩
  case round =>
    obtain ⟨rfl, rfl, rfl⟩ := hrel
    go_wp2
    go_ret
    exact ⟨rfl, rfl⟩
theorem markP_any (lc : List Lc) (v : Value) (B : Nat) (w : World) (hk : kP lc ≤ 4999999) (hl : lc.length ≤ 1048576) (hn : ∀ p ∈ lc, p.t.ins.length ≤ 1048576 ∧ p.t.outs.length ≤ 1048576) (hG : GI B v lc w) (hBs : B ≤ w.heap.size) (H : Nat) (hvH : ∀ b, v.ownBlock = some b → b < H) (hH : ∀ p ∈ lc, ∀ b, (p.vi.ownBlock = some b → b < H) ∧ (p.vo.ownBlock = some b → b < H)) :
    Calls Tryz.prog 29 #[v, .int .i64 1] w fun e w' => e = .returned (.int .i64 ((1 + kP lc : Nat) : Int)) ∧ GI B v (mkP 1 lc) w' ∧ Below B w w' ∧ ∀ q, H ≤ q → q < w.heap.size → w'.heap[q]? = w.heap[q]? := by
  rcases hG.L.2 with ⟨rfl, h0⟩ | ⟨g, cap, _, rfl, _⟩
  · obtain rfl := List.eq_nil_of_length_eq_zero h0
    refine (markP_none w).mono ?_
    rintro e w1 ⟨rfl, rfl⟩
    exact ⟨rfl, hG, Below.refl _ _, fun _ _ _ => rfl⟩
  · exact markP_some lc g cap B H w hk hl hn hG hBs (hvH g rfl) hH

set_option maxRecDepth 100000 in
set_option maxHeartbeats 2000000 in
theorem heldP_some (lc : List Lc) (g cap B : Nat) (w : World) (hk : kP lc ≤ 4999999) (hl : lc.length ≤ 1048576) (hn : ∀ p ∈ lc, p.t.ins.length ≤ 1048576 ∧ p.t.outs.length ≤ 1048576) (hG : GI B (.slice (some ⟨g, 0, none⟩) lc.length cap) (mkP 1 lc) w) :
    Calls Tryz.prog 30 #[.slice (some ⟨g, 0, none⟩) lc.length cap, .int .i64 1] w fun e w' => e = .returned (.int .i64 ((1 + kP lc : Nat) : Int)) ∧ Below w.heap.size w w' := by
  have HN := hide hn
  have HG := hide hG
  clear hn hG
  go_enter Tryz.func30, Tryz.ntmps30
  go_wp2
  go_loopw [1, 5] (fun t u wr => ∃ (i K : Nat) (done : List Lc), i ≤ lc.length ∧ u = .int .i64 i ∧ t = .int .i64 (K : Int) ∧ 1 ≤ K ∧ 1 + kP lc = K + kP (lc.drop i) ∧ done.length = i ∧ mkP 1 lc = done ++ mkP K (lc.drop i) ∧ Below w.heap.size w wr) (fun _ u _ => lc.length - (intOf u).toNat)
  case atStart => exact ⟨0, 1, [], Nat.zero_le _, rfl, rfl, Nat.le_refl _, rfl, rfl, rfl, Below.refl _ _⟩
  case round =>
    obtain ⟨i, K, done, hi, rfl, rfl, hK1, hKe, hdl, hme, hB⟩ := hrel
    by_cases hlt : i < lc.length
    · have hdr := List.drop_eq_getElem_cons hlt
      have hni := HN.out _ (List.getElem_mem hlt)
      rw [hdr] at hKe hme
      rw [kP_cons] at hKe
      rw [mkP] at hme
      have hG2 := HG.out.below hB
      rw [hme] at hG2
      have hL := hG2.L
      have hS := hG2.S
      rw [cellsG_mid, ← hme, mkP_len] at hL
      rw [rowsG_mid] at hS
      have HDL := hide hdl
      clear hdr hdl hG2
      generalize lc[i] = p at *
      have hkT : kT p = 3 + p.t.ins.length + p.t.outs.length := rfl
      have hPl : (cellsG done).length = i * 5 := by rw [cellsG_len, HDL.out]
      have hKb : K + kT p ≤ 5000000 := by omega
      rw [hkT] at hKb
      have hg : g < wr.heap.size := (hL.lt g rfl).2
      have ca : ∀ j, j < 5 → wr.cell? ⟨g, i * 5 + j, none⟩ = [Value.string ⟨(Mk.mt K).toArray⟩, .string ⟨(Mk.mt (K + 1)).toArray⟩, .string ⟨(Mk.mt (K + 2)).toArray⟩, p.vi, p.vo][j]? := by
        intro j hj
        rw [hL.cellAt _ (by omega), get4 _ _ _ j hPl]
        match j, hj with
        | 0, _ => rfl
        | 1, _ => rfl
        | 2, _ => rfl
        | 3, _ => rfl
        | 4, _ => rfl
      have si := hS.own (p.vi, mks (K + 3) p.t.ins.length) (List.mem_append_right _ (List.mem_cons_self ..))
      have so := hS.own (p.vo, mks (K + 3 + p.t.ins.length) p.t.outs.length) (List.mem_append_right _ (List.mem_cons_of_mem _ (List.mem_cons_self ..)))
      simp only [mks_len] at si so
      have SI := hide si
      have SO := hide so
      have HKE := hide hKe
      have HME := hide hme
      have hni1 := hni.1
      have hni2 := hni.2
      have a0 : ∀ q : KB wr, q.w.cell? ⟨g, i * 5, none⟩ = some (.string ⟨(Mk.mt K).toArray⟩) := fun q => (q.below.cell (p := ⟨g, i * 5, none⟩) hg).trans (ca 0 (by omega))
      have a1 : ∀ q : KB wr, q.w.cell? ⟨g, i * 5 + 1, none⟩ = some (.string ⟨(Mk.mt (K + 1)).toArray⟩) := fun q => (q.below.cell (p := ⟨g, i * 5 + 1, none⟩) hg).trans (ca 1 (by omega))
      have a2 : ∀ q : KB wr, q.w.cell? ⟨g, i * 5 + 2, none⟩ = some (.string ⟨(Mk.mt (K + 2)).toArray⟩) := fun q => (q.below.cell (p := ⟨g, i * 5 + 2, none⟩) hg).trans (ca 2 (by omega))
      have A3 : Hid (∀ q : KB wr, q.w.cell? ⟨g, i * 5 + 3, none⟩ = some p.vi) := hide (fun q => (q.below.cell (p := ⟨g, i * 5 + 3, none⟩) hg).trans (ca 3 (by omega)))
      have A4 : Hid (∀ q : KB wr, q.w.cell? ⟨g, i * 5 + 4, none⟩ = some p.vo) := hide (fun q => (q.below.cell (p := ⟨g, i * 5 + 4, none⟩) hg).trans (ca 4 (by omega)))
      have hm0 := hide (fun w1 (_ : Below wr.heap.size wr w1) => markText_any K (K : Int) w1 (by omega) (by omega) rfl)
      have hm1 := hide (fun w1 (_ : Below wr.heap.size wr w1) => markText_any (K + 1) ((K : Int) + 1) w1 (by omega) (by omega) (by omega))
      have hm2 := hide (fun w1 (_ : Below wr.heap.size wr w1) => markText_any (K + 2) ((K : Int) + 1 + 1) w1 (by omega) (by omega) (by omega))
      have HM0 := hide (fun q : KB wr => kb_call hm0.out q)
      have HM1 := hide (fun q : KB wr => kb_call hm1.out q)
      have HM2 := hide (fun q : KB wr => kb_call hm2.out q)
      haveI hne : Nonempty (KB wr) := ⟨⟨_, Below.refl _ _⟩⟩
      clear hL hS si so ca hKe hme hni hm0 hm1 hm2 hkT
      have HB := hide hB
      clear hB
      go_wp2_with fail
      refine region_class (KB.w (w := wr)) (by kernel_rfl) (by kernel_rfl) ⟨⟨_, (Below.refl _ _).drew⟩, rfl⟩ ?_
      repeat (go_big_quiet_step (first | (go_at_call 27; exact HM0.out _)))
      refine wpQuiet_nil ?_
      rintro _ ⟨q0, rfl⟩
      go_wp2_with fail
      refine region_class (KB.w (w := wr)) (by kernel_rfl) (by kernel_rfl) ⟨⟨_, q0.2.drew⟩, rfl⟩ ?_
      repeat (go_big_quiet_step (first | (go_at_call 27; exact HM1.out _)))
      refine wpQuiet_nil ?_
      rintro _ ⟨q1, rfl⟩
      go_wp2_with fail
      refine region_class (KB.w (w := wr)) (by kernel_rfl) (by kernel_rfl) ⟨⟨_, q1.2.drew⟩, rfl⟩ ?_
      repeat (go_big_quiet_step (first | (go_at_call 27; exact HM2.out _)))
      refine wpQuiet_nil ?_
      rintro _ ⟨q2, rfl⟩
      have a3 := A3.out q2
      have n1 := heldS_any (K + 3) p.t.ins.length B p.vi q2.w (by omega) (by omega) hni1 (row_belowY SI.out q2.below)
      rw [show ((K + 3 : Nat) : Int) = (K : Int) + 1 + 1 + 1 from by omega] at n1
      have HN1 := hide n1
      clear n1 a0 a1 a2 HM0 HM1 HM2
      go_wp2_with fail
      refine HN1.out.mono ?_
      rintro e w4 ⟨rfl, hb4⟩
      have q4b : Below wr.heap.size wr w4 := q2.below.trans (hb4.mono q2.below.size)
      have a4 := A4.out ⟨w4, q4b⟩
      have a4' : w4.cell? ⟨g, i * 5 + 4, none⟩ = some p.vo := a4
      have n2 := heldS_any (K + 3 + p.t.ins.length) p.t.outs.length B p.vo w4 (by omega) (by omega) hni2 (row_belowY SO.out q4b)
      rw [show ((K + 3 + p.t.ins.length : Nat) : Int) = (K : Int) + 1 + 1 + 1 + (p.t.ins.length : Int) from by omega] at n2
      have HN2 := hide n2
      clear n2 a4 a3 hb4
      go_wp2_with fail
      refine HN2.out.mono ?_
      rintro e w5 ⟨rfl, hb5⟩
      have HB5 := hide (HB.out.trans ((q4b.trans (hb5.mono q4b.size)).mono HB.out.size))
      clear hb5 a4'
      go_wp2
      go_roundw
      case rel =>
        have e1 := HKE.out
        exact ⟨i + 1, K + kT p, done ++ [mkT K p], by omega, by go_num, congrArg (Value.int IntKind.i64) (by unfold kT; omega), by omega, by omega, by rw [List.length_append, HDL.out]; rfl, by rw [HME.out, List.append_assoc]; rfl, HB5.out⟩
      case measure => simp [intOf]; omega
    · obtain rfl : i = lc.length := by omega
      rw [List.drop_of_length_le (Nat.le_refl _)] at hKe
      have HKE := hide (show K = 1 + kP lc by rw [hKe]; rfl)
      clear hKe hme
      go_wp2
      go_ret
      exact ⟨ret_int (by rw [HKE.out]), hB⟩

set_option maxHeartbeats 400000 in
theorem heldP_none (w : World) : Calls Tryz.prog 30 #[.slice none 0 0, .int .i64 1] w fun e w' => e = .returned (.int .i64 1) ∧ w' = w := by
  go_enter Tryz.func30, Tryz.ntmps30
  go_wp2
  go_loopw [1, 5] (fun t u wr => t = .int .i64 1 ∧ u = .int .i64 0 ∧ wr = w) (fun _ _ _ => 0)
  case atStart => exact ⟨rfl, rfl, rfl⟩
  case round =>
    obtain ⟨rfl, rfl, rfl⟩ := hrel
    go_wp2
    go_ret
    exact ⟨rfl, rfl⟩
theorem heldP_any (lc : List Lc) (v : Value) (B : Nat) (w : World) (hk : kP lc ≤ 4999999) (hl : lc.length ≤ 1048576) (hn : ∀ p ∈ lc, p.t.ins.length ≤ 1048576 ∧ p.t.outs.length ≤ 1048576) (hG : GI B v (mkP 1 lc) w) :
    Calls Tryz.prog 30 #[v, .int .i64 1] w fun e w' => e = .returned (.int .i64 ((1 + kP lc : Nat) : Int)) ∧ Below w.heap.size w w' := by
  rcases hG.L.2 with ⟨rfl, h0⟩ | ⟨g, cap, _, hv, _⟩
  · rw [mkP_len] at h0
    obtain rfl := List.eq_nil_of_length_eq_zero h0
    refine (heldP_none w).mono ?_
    rintro e w1 ⟨rfl, rfl⟩
    exact ⟨rfl, Below.refl _ _⟩
  · rw [mkP_len] at hv
    subst hv
    exact heldP_some lc g cap B w hk hl hn hG
end Go.Proofs.YtmpjdooepdicoaaGreatDoor.Vl
