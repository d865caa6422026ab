/- Targets: the law's own functions: copies and comparisons of what is told. -/
import Derived.Test.YtmpjdooepdicoaaGreatDoorAa
namespace Go.Proofs.YtmpjdooepdicoaaGreatDoor.Vl
open Go.RowKit T.atoms T.ok T.high T.good T.allPlain

/-- toTold's own boxes, in a later world: the argument's, the answer's, the variable's. -/
structure DB (w : World) (a x : Array Value) (W : World) : Prop where
  B : Below w.heap.size w W
  c : ∀ j, j < 2 → W.cell? ⟨w.heap.size, j, none⟩ = a[j]?
  y : ∀ j, j < 2 → W.cell? ⟨w.heap.size + 1, j, none⟩ = #[Value.string ⟨#[]⟩, .slice none 0 0][j]?
  o : ∀ j, j < 2 → W.cell? ⟨w.heap.size + 1 + 1, j, none⟩ = x[j]?
  g : ∀ j, W.frozen? ⟨w.heap.size + 1, j, none⟩ = false
  f : ∀ j, W.frozen? ⟨w.heap.size + 1 + 1, j, none⟩ = false
  z : w.heap.size + 1 + 1 < W.heap.size
theorem DB.below {w W W' : World} {a x : Array Value} (h : DB w a x W) (hb : Below W.heap.size W W') : DB w a x W' := by
  have hz := h.z
  have e : ∀ b o, b ≤ w.heap.size + 1 + 1 → W'.cell? ⟨b, o, none⟩ = W.cell? ⟨b, o, none⟩ := fun b o hb' => hb.cell (p := ⟨b, o, none⟩) (by show b < _; omega)
  have f : ∀ b o, b ≤ w.heap.size + 1 + 1 → W'.frozen? ⟨b, o, none⟩ = W.frozen? ⟨b, o, none⟩ := fun b o hb' => hb.frozen (p := ⟨b, o, none⟩) (by show b < _; omega)
  exact ⟨h.B.trans (hb.mono h.B.size), fun j hj => (e _ _ (by omega)).trans (h.c j hj), fun j hj => (e _ _ (by omega)).trans (h.y j hj), fun j hj => (e _ _ (by omega)).trans (h.o j hj), fun j => (f _ _ (by omega)).trans (h.g j), fun j => (f _ _ (by omega)).trans (h.f j), Nat.lt_of_lt_of_le hz hb.size⟩
theorem DB.start (w : World) (a0 a1 x0 x1 : Value) : DB w #[a0, a1] #[x0, x1] (((w.alloc (.cells #[a0, a1] 40)).alloc (.cells #[.string ⟨#[]⟩, .slice none 0 0] 47)).alloc (.cells #[x0, x1] 47)) := by
  have k : ∀ (X : World) (o : Array Value) (t : TypeId) j, (X.alloc (.cells o t)).cell? ⟨X.heap.size, j, none⟩ = o[j]? := fun X o t j => by simp
  have kf : ∀ (X : World) (o : Array Value) (t : TypeId) j, (X.alloc (.cells o t)).frozen? ⟨X.heap.size, j, none⟩ = false := fun X o t j => by simp
  have n1 : ∀ (X : World) (o : Obj) (b j : Nat), b < X.heap.size → (X.alloc o).cell? ⟨b, j, none⟩ = X.cell? ⟨b, j, none⟩ := fun X o b j hb => ((Below.refl X.heap.size X).alloc (Nat.le_refl _) o).cell (p := ⟨b, j, none⟩) hb
  have n2 : ∀ (X : World) (o : Obj) (b j : Nat), b < X.heap.size → (X.alloc o).frozen? ⟨b, j, none⟩ = X.frozen? ⟨b, j, none⟩ := fun X o b j hb => ((Below.refl X.heap.size X).alloc (Nat.le_refl _) o).frozen (p := ⟨b, j, none⟩) hb
  generalize hX : w.alloc (.cells #[a0, a1] 40) = X
  have sX : X.heap.size = w.heap.size + 1 := by rw [← hX, World.size_alloc]
  generalize hY : X.alloc (.cells #[.string ⟨#[]⟩, .slice none 0 0] 47) = Y
  have sY : Y.heap.size = w.heap.size + 1 + 1 := by rw [← hY, World.size_alloc, sX]
  refine ⟨?_, fun j hj => ?_, fun j hj => ?_, fun j hj => ?_, fun j => ?_, fun j => ?_, by rw [World.size_alloc, sY]; omega⟩
  · rw [← hY, ← hX]; exact (((Below.refl _ _).alloc (Nat.le_refl _) _).alloc (by simp) _).alloc (by simp; omega) _
  · rw [n1 Y _ _ _ (by omega), ← hY, n1 X _ _ _ (by omega), ← hX]; exact k _ _ _ _
  · rw [n1 Y _ _ _ (by omega), ← hY, ← sX]; exact k _ _ _ _
  · rw [← sY]; exact k _ _ _ _
  · rw [n2 Y _ _ _ (by omega), ← hY, ← sX]; exact kf _ _ _ _
  · rw [← sY]; exact kf _ _ _ _
theorem OwnA.set {w : World} {base g : Nat} {l : List At} (h : OwnA w base g l) (a : Addr) (hg : g ≠ a.block) (v : Value) : OwnA (w.setCell a v) base g l := row_same h (Below.heap_setCell _ _ _ _ hg)
theorem OwnA.below {w w' : World} {base g : Nat} {l : List At} (h : OwnA w base g l) (hb : Below w.heap.size w w') : OwnA w' base g l := row_same h (hb.block g (h.lt g rfl).2)

set_option maxRecDepth 100000 in
set_option maxHeartbeats 1000000 in
theorem toTold_any (d : Td) (v : Value) (w : World) (hi : d.at_.length ≤ 1048576) (hv : AtomsV w v d.at_) :
    Calls Tryz.prog 19 #[.agg #[.string d.fr, v]] w fun e w' => ∃ g, e = .returned (.agg #[.string d.fr, .slice (some ⟨g, 0, none⟩) d.at_.length d.at_.length]) ∧ w.heap.size ≤ g ∧ OwnA w' w.heap.size g d.at_ ∧ Below w.heap.size w w' := by
  have HI := hide (fun w' (hb : Below w.heap.size w w') => toValueO_any d.at_ v w' hi (hv.below hb))
  have t0 := DB.start w (.string d.fr) v (.string d.fr) (.slice none 0 0)
  clear hv
  generalize d.fr = a at *
  generalize d.at_ = li at *
  have HT0 := hide t0
  clear t0
  go_enter Tryz.func19, Tryz.ntmps19
  go_wp2_with fail
  refine (HI.out _ HT0.out.B).mono ?_
  rintro e w1 ⟨g, rfl, hI1, hg, hb1⟩
  have t1 := HT0.out.below hb1
  have hz0 := HT0.out.z
  simp only [World.size_alloc] at hI1 hz0 hg ⊢
  have b0 := t1.o 0 (by omega)
  have b1 := t1.o 1 (by omega)
  have f1 := t1.f 1
  have y0 := t1.y 0 (by omega)
  have y1 := t1.y 1 (by omega)
  have g0 := t1.g 0
  have g1 := t1.g 1
  simp at b0 b1 y0 y1
  have HO := hide (row_mono hI1 (show w.heap.size ≤ w.heap.size + 1 + 1 + 1 by omega))
  have HB := hide t1.B
  clear hb1 hI1 t1 HT0
  go_wp2
  refine bodyPost_ret (v := .agg #[.string a, .slice (some ⟨g, 0, none⟩) li.length li.length]) (by simp [results, Tryz.results19, go_sem, y0, y1]) rfl ⟨_, rfl, by omega, ?_, ?_⟩
  · iterate 3 (refine OwnA.set ?_ _ (by first | (show _ ≠ w.heap.size + 1 + 1; omega) | (show _ ≠ w.heap.size + 1; omega)) _)
    exact HO.out
  · iterate 3 (refine Below.setCell ?_ (by first | (show w.heap.size ≤ w.heap.size + 1 + 1; omega) | (show w.heap.size ≤ w.heap.size + 1; omega)) _)
    exact HB.out

def cellsD (l : List (Td × Nat)) : List Value := l.flatMap fun p => [.string p.1.fr, .slice (some ⟨p.2, 0, none⟩) p.1.at_.length p.1.at_.length]
theorem cellsD_len (l : List (Td × Nat)) : (cellsD l).length = l.length * 2 := by
  induction l with
  | nil => rfl
  | cons x r ih => unfold cellsD at ih ⊢; rw [List.flatMap_cons, List.length_append, ih]; simp; omega
theorem cellsD_snoc (l : List (Td × Nat)) (x : Td) (g : Nat) : cellsD (l ++ [(x, g)]) = cellsD l ++ [.string x.fr, .slice (some ⟨g, 0, none⟩) x.at_.length x.at_.length] := by
  unfold cellsD; rw [List.flatMap_append]; rfl
theorem cellsD_at (l : List (Td × Nat)) (i : Nat) (h : i < l.length) : (cellsD l)[i * 2]? = some (.string (l[i]).1.fr) ∧ (cellsD l)[i * 2 + 1]? = some (.slice (some ⟨(l[i]).2, 0, none⟩) (l[i]).1.at_.length (l[i]).1.at_.length) := by
  induction l generalizing i with
  | nil => simp at h
  | cons y r ih =>
    unfold cellsD at ih ⊢
    match i, h with
    | 0, _ => simp
    | i + 1, h =>
      have := ih i (by simpa using h)
      rw [List.flatMap_cons, show (i + 1) * 2 = i * 2 + 1 + 1 from by omega]
      simp only [List.getElem_cons_succ]
      exact this
/-- A copy of what is told, in rows of its own. -/
structure TdsC (W : World) (B g : Nat) (lc : List (Td × Nat)) : Prop where
  row : W.ownsRow B 47 2 (.slice (some ⟨g, 0, none⟩) lc.length lc.length) lc.length (cellsD lc)
  own : ∀ p ∈ lc, g < p.2 ∧ OwnA W B p.2 p.1.at_
  dis : lc.Pairwise fun p q => p.2 ≠ q.2
theorem TdsC.below {W W' : World} {B g : Nat} {lc : List (Td × Nat)} (h : TdsC W B g lc) (hb : Below W.heap.size W W') : TdsC W' B g lc :=
  ⟨row_belowY h.row hb, fun p hp => ⟨(h.own p hp).1, (h.own p hp).2.below hb⟩, h.dis⟩
theorem TdsC.tds {W : World} {B g : Nat} {lc : List (Td × Nat)} (h : TdsC W B g lc) : TdsO W g (lc.map (·.1)) := by
  refine ⟨(h.row.lt g rfl).2, fun i hi => ?_⟩
  rw [List.length_map] at hi
  obtain ⟨p0, p1⟩ := cellsD_at lc i hi
  have hp := (h.own _ (List.getElem_mem hi)).2
  have e : (lc.map (·.1))[i]'(by rw [List.length_map]; exact hi) = (lc[i]).1 := by simp
  rw [e]
  exact ⟨(h.row.cellAt (i * 2) (by omega)).trans p0, (lc[i]).2, (h.row.cellAt (i * 2 + 1) (by omega)).trans p1, hp.atoms⟩
theorem drop2 (xs : List Value) (i : Nat) (h : i * 2 + 2 ≤ xs.length) : ∃ a b, xs.drop (i * 2) = a :: b :: xs.drop ((i + 1) * 2) := by
  refine ⟨xs[i * 2], xs[i * 2 + 1], ?_⟩
  rw [List.drop_eq_getElem_cons (by omega), List.drop_eq_getElem_cons (by omega), show i * 2 + 1 + 1 = (i + 1) * 2 from by omega]
theorem set2_0 (P R : List Value) (a b v : Value) (k : Nat) (h : P.length = k) : (P ++ a :: b :: R).set k v = P ++ v :: b :: R := by subst h; simp
theorem set2_1 (P R : List Value) (a b v : Value) (k : Nat) (h : P.length = k) : (P ++ a :: b :: R).set (k + 1) v = P ++ a :: v :: R := by subst h; simp
theorem Tryz.infoTd : (Tryz.prog.info? 47).map (fun i => (i.zero, i.size, i.bytes)) = some (some (.agg #[.string ⟨#[]⟩, .slice none 0 0]), 2, 40) := by kernel_rfl
theorem own_set {W : World} {B b g : Nat} {l : List At} (h : OwnA W B g l) (hg : b < g) (j : Nat) (v : Value) : OwnA (W.setCell ⟨b, j, none⟩ v) B g l := h.set ⟨b, j, none⟩ (by show g ≠ b; omega) v

set_option maxRecDepth 100000 in
set_option maxHeartbeats 1000000 in
theorem toD_some (l : List Td) (g o c : Nat) (w : World) (hl : l.length ≤ 1048576) (hx : ∀ x ∈ l, x.at_.length ≤ 1048576) (ht : TdsI w g o l) :
    Calls Tryz.prog 6 #[.slice (some ⟨g, o, none⟩) l.length c] w fun e w' => e = .returned (.slice (some ⟨w.heap.size, 0, none⟩) l.length l.length) ∧ (∃ lc, lc.map (·.1) = l ∧ TdsC w' w.heap.size w.heap.size lc) ∧ Below w.heap.size w w' := by
  obtain ⟨iN, hN, hNz, hNs, hNb⟩ := info_parts Tryz.infoTd
  have HT := hide ht
  have HX := hide hx
  clear ht hx
  go_enter Tryz.func6, Tryz.ntmps6
  go_wp2_with (at_make; refine wpList_make_full _ rfl _ _ 28 rfl w.heap.size 47 iN _ 2 Tryz.underlying28 hN hNz hNs _ _ _ _ l.length rfl rfl rfl rfl (by rw [hNb]; omega) (by unfold maxLen; omega) (Nat.le_refl _) ?_)
  intro w1 hown hgrow
  have hb1 : Below w.heap.size w w1 := (Below.refl _ _).grown hgrow (Nat.le_refl _) (fun q e => by cases e)
  have hz1 : w.heap.size < w1.heap.size := (hown.lt _ rfl).2
  replace hown : ∃ xs, w1.ownsRow w.heap.size 47 2 (.slice (some ⟨w.heap.size, 0, none⟩) l.length l.length) l.length xs := ⟨_, hown⟩
  obtain ⟨xs, hown⟩ := hown
  have hxl : xs.length = l.length * 2 := hown.1
  have HO := hide hown
  clear hown hgrow
  go_wp2
  go_loopw [4] (fun t wr => ∃ (i : Nat) (lc : List (Td × Nat)), i ≤ l.length ∧ lc.length = i ∧ lc.map (·.1) = l.take i ∧ t = .int .i64 i ∧ wr.ownsRow w.heap.size 47 2 (.slice (some ⟨w.heap.size, 0, none⟩) l.length l.length) l.length (cellsD lc ++ xs.drop (i * 2)) ∧ (∀ p ∈ lc, w.heap.size < p.2 ∧ OwnA wr w.heap.size p.2 p.1.at_) ∧ (lc.Pairwise fun p q => p.2 ≠ q.2) ∧ Below w.heap.size w wr ∧ w.heap.size < wr.heap.size) (fun t _ => l.length - (intOf t).toNat)
  case atStart => exact ⟨0, [], Nat.zero_le _, rfl, rfl, rfl, by simpa [cellsD] using HO.out, (fun p hp => absurd hp (by simp)), List.Pairwise.nil, hb1, hz1⟩
  case round =>
    obtain ⟨i, lc, hi, hlc, hmp, rfl, ho, hcp, hds, hB, hsz⟩ := hrel
    have HMP := hide hmp
    have HCP := hide hcp
    have HDS := hide hds
    clear hmp hcp hds
    by_cases hlt : i < l.length
    · obtain ⟨v, c0, c1, si⟩ := (HT.out.below hB).2 i hlt
      have hml : (cellsD lc).length = i * 2 := by rw [cellsD_len, hlc]
      obtain ⟨a0, a1, hd5⟩ := drop2 xs i (by omega)
      rw [hd5] at ho
      have HO2 := hide ho
      have hxi := HX.out _ (List.getElem_mem hlt)
      have HTN := hide (toTold_any l[i] v wr hxi si)
      have HTK : Hid (l.take (i + 1) = l.take i ++ [l[i]]) := hide (List.take_succ_eq_append_getElem hlt)
      clear hd5 ho si hxi
      generalize l[i] = d at *
      go_wp2_with fail
      refine HTN.out.mono ?_
      rintro e w2 ⟨gi, rfl, hgi, si, hb2⟩
      have ho2 : w2.ownsRow w.heap.size 47 2 (.slice (some ⟨w.heap.size, 0, none⟩) l.length l.length) l.length (cellsD lc ++ a0 :: a1 :: xs.drop ((i + 1) * 2)) := row_belowY HO2.out hb2
      have hB2 := hB.trans (hb2.mono hB.size)
      have hsz2 : w.heap.size < w2.heap.size := Nat.lt_of_lt_of_le hsz hb2.size
      have q : ∀ j v, (a0 :: a1 :: xs.drop ((i + 1) * 2))[j]? = some v → j < 2 → w2.cell? ⟨w.heap.size, i * 2 + j, none⟩ = some v := by
        intro j v hv hj
        rw [ho2.cellAt (i * 2 + j) (by omega), List.getElem?_append_right (by omega), hml, show i * 2 + j - i * 2 = j from by omega]; exact hv
      have q0 := q 0 a0 rfl (by omega)
      have q1 := q 1 a1 rfl (by omega)
      rw [Nat.add_zero] at q0
      have z0 := ho2.frozenAt (i * 2)
      have z1 := ho2.frozenAt (i * 2 + 1)
      have HO3 := hide ho2
      have HCN : Hid (∀ p ∈ lc ++ [(d, gi)], w.heap.size < p.2 ∧ OwnA w2 w.heap.size p.2 p.1.at_) := hide (by
        intro p hp
        rcases List.mem_append.1 hp with hp | hp
        · exact ⟨(HCP.out p hp).1, (HCP.out p hp).2.below hb2⟩
        · obtain rfl := List.mem_singleton.1 hp
          exact ⟨by show w.heap.size < gi; omega, row_mono si (by omega)⟩)
      have HDN : Hid ((lc ++ [(d, gi)]).Pairwise fun p q => p.2 ≠ q.2) := hide (by
        refine List.pairwise_append.2 ⟨HDS.out, List.pairwise_singleton _ _, fun p hp q hq => ?_⟩
        obtain rfl := List.mem_singleton.1 hq
        have := ((HCP.out p hp).2.lt p.2 rfl).2
        show p.2 ≠ gi
        omega)
      clear ho2 q c0 c1 si
      go_wp2
      go_roundw
      case rel =>
        have t0 := (HO3.out.stored (i * 2) (.string d.fr)).1
        rw [set2_0 _ _ _ _ _ _ hml] at t0
        have t1 := (t0.stored (i * 2 + 1) (.slice (some ⟨gi, 0, none⟩) d.at_.length d.at_.length)).1
        rw [set2_1 _ _ _ _ _ _ hml] at t1
        refine ⟨i + 1, lc ++ [(d, gi)], by omega, by simp [hlc], by rw [List.map_append, HMP.out, HTK.out]; rfl, by go_num, ?_, fun p hp => ⟨(HCN.out p hp).1, own_set (own_set (HCN.out p hp).2 (HCN.out p hp).1 _ _) (HCN.out p hp).1 _ _⟩, HDN.out, ?_, by simp only [size_set4]; exact hsz2⟩
        · rw [cellsD_snoc, List.append_assoc]
          exact t1
        · iterate 2 (refine Below.setCell ?_ (by show w.heap.size ≤ w.heap.size; exact Nat.le_refl _) _)
          exact hB2
      case measure => simp [intOf]; omega
    · go_wp2
      go_ret
      obtain rfl : i = l.length := by omega
      rw [List.drop_of_length_le (by omega), List.append_nil] at ho
      have hm := HMP.out
      rw [List.take_length] at hm
      refine ⟨rfl, ⟨lc, hm, ?_, HCP.out, HDS.out⟩, hB⟩
      rw [hlc]
      exact ho

set_option maxRecDepth 100000 in
set_option maxHeartbeats 1000000 in
theorem toD_nil (p : Option Addr) (c : Nat) (w : World) :
    Calls Tryz.prog 6 #[.slice p 0 c] w fun e w' => e = .returned (.slice (some ⟨w.heap.size, 0, none⟩) 0 0) ∧ (∃ lc, lc.map (·.1) = [] ∧ TdsC w' w.heap.size w.heap.size lc) ∧ Below w.heap.size w w' := by
  obtain ⟨iN, hN, hNz, hNs, hNb⟩ := info_parts Tryz.infoTd
  go_enter Tryz.func6, Tryz.ntmps6
  go_wp2_with (at_make; refine wpList_make_full _ rfl _ _ 28 rfl w.heap.size 47 iN _ 2 Tryz.underlying28 hN hNz hNs _ _ _ _ 0 rfl rfl rfl rfl (by omega) (by unfold maxLen; omega) (Nat.le_refl _) ?_)
  intro w1 hown hgrow
  have hb1 : Below w.heap.size w w1 := (Below.refl _ _).grown hgrow (Nat.le_refl _) (fun q e => by cases e)
  have HW := hide (Exists.intro _ hown)
  clear hown hgrow
  go_wp2
  go_loopw [4] (fun t wr => t = .int .i64 0 ∧ wr = w1) (fun _ _ => 0)
  case atStart => exact ⟨rfl, rfl⟩
  case round =>
    obtain ⟨rfl, rfl⟩ := hrel
    go_wp2
    go_ret
    obtain ⟨xs, hxs⟩ := HW.out
    have hx0 : xs = [] := List.eq_nil_of_length_eq_zero (by have := hxs.1; omega)
    subst hx0
    exact ⟨rfl, ⟨[], rfl, hxs, (fun p hp => absurd hp (by simp)), List.Pairwise.nil⟩, hb1⟩
theorem toD_any (l : List Td) (v : Value) (w : World) (hl : l.length ≤ 1048576) (hx : ∀ x ∈ l, x.at_.length ≤ 1048576) (ht : TdsV w v l) :
    Calls Tryz.prog 6 #[v] w fun e w' => e = .returned (.slice (some ⟨w.heap.size, 0, none⟩) l.length l.length) ∧ (∃ lc, lc.map (·.1) = l ∧ TdsC w' w.heap.size w.heap.size lc) ∧ Below w.heap.size w w' := by
  rcases ht with ⟨p, c, rfl, rfl⟩ | ⟨g, o, c, rfl, h⟩
  · exact toD_nil p c w
  · exact toD_some l g o c w hl hx h

set_option maxRecDepth 100000 in
set_option maxHeartbeats 1000000 in
theorem eqTold_same (x : Td) (a b : Nat) (w : World) (hi : x.at_.length ≤ 1048576) (h1 : AtomsAt w a x.at_) (h2 : AtomsAt w b x.at_) :
    Calls Tryz.prog 26 #[.agg #[.string x.fr, .slice (some ⟨a, 0, none⟩) x.at_.length x.at_.length], .agg #[.string x.fr, .slice (some ⟨b, 0, none⟩) x.at_.length x.at_.length]] w fun e w' => e = .returned (.bool true) ∧ Below w.heap.size w w' := by
  have HF := hide (fun w' (hq : Below w.heap.size w w') => eqValue_same x.at_ a b x.at_.length x.at_.length w' hi (h1.below hq) (h2.below hq))
  clear h1 h2
  generalize x.fr = n at *
  generalize x.at_.length = li at *
  have m1 := box2 w (.string n) (.slice (some ⟨a, 0, none⟩) li li) 47
  have m2 := box2 (w.alloc (.cells #[.string n, .slice (some ⟨a, 0, none⟩) li li] 47)) (.string n) (.slice (some ⟨b, 0, none⟩) li li) 47
  rw [World.size_alloc] at m2
  obtain ⟨p0, -, p5, p6⟩ := m1
  obtain ⟨q0, -, q5, q6⟩ := m2
  have hq := p0.trans (q0.mono (by omega))
  clear p0 q0 p5 p6
  go_enter Tryz.func26, Tryz.ntmps26
  go_wp2_with fail
  refine (HF.out _ hq).mono ?_
  rintro e w1 ⟨rfl, hb1⟩
  have B1 := hq.trans (hb1.mono (by omega))
  go_wp2
  go_ret
  exact ⟨rfl, B1⟩

set_option maxRecDepth 100000 in
set_option maxHeartbeats 1000000 in
theorem eqD_same (l : List Td) (ga gb : Nat) (w : World) (hl : l.length ≤ 1048576) (hx : ∀ x ∈ l, x.at_.length ≤ 1048576) (ha : TdsO w ga l) (hb : TdsO w gb l) :
    Calls Tryz.prog 9 #[.slice (some ⟨ga, 0, none⟩) l.length l.length, .slice (some ⟨gb, 0, none⟩) l.length l.length] w fun e w' => e = .returned (.bool true) ∧ Below w.heap.size w w' := by
  have HA := hide ha
  have HB := hide hb
  have HX := hide hx
  clear ha hb hx
  go_enter Tryz.func9, Tryz.ntmps9
  go_wp2
  go_loopw [5] (fun t wr => ∃ i : Nat, i ≤ l.length ∧ t = .int .i64 i ∧ Below w.heap.size w wr) (fun t _ => l.length - (intOf t).toNat)
  case atStart => exact ⟨0, Nat.zero_le _, rfl, Below.refl _ _⟩
  case round =>
    obtain ⟨i, hi, rfl, hB⟩ := hrel
    by_cases hlt : i < l.length
    · obtain ⟨a0, a, a1, a5⟩ := (HA.out.below hB).2 i hlt
      obtain ⟨b0, b, b1, b5⟩ := (HB.out.below hB).2 i hlt
      have hxi := HX.out _ (List.getElem_mem hlt)
      have HE := hide (fun w' (hq : Below wr.heap.size wr w') => eqTold_same l[i] a b w' hxi (a5.below hq) (b5.below hq))
      clear a5 b5 hxi
      generalize l[i] = x at *
      go_wp2
      go_region_with (go_at_call 26; refine (HE.out _ (by first | exact Below.refl _ _ | exact (Below.refl _ _).drew | exact (Below.refl _ _).drew.drew)).mono ?_; rintro e w1 ⟨rfl, hb1⟩)
      all_goals go_wp2
      all_goals
        have hfin : Below w.heap.size w w1 := by first | exact hB.trans (hb1.mono hB.size) | exact hB.drew.trans (hb1.mono hB.size) | exact hB.drew.drew.trans (hb1.mono hB.size)
        go_roundw
        case rel => exact ⟨i + 1, by omega, by go_num, hfin⟩
        case measure => simp [intOf]; omega
    · go_wp2
      go_ret
      exact ⟨rfl, hB⟩
end Go.Proofs.YtmpjdooepdicoaaGreatDoor.Vl
