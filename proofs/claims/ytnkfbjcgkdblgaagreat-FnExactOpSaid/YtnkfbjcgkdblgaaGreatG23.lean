/- Joined: Ej, Ek. -/
import Derived.Test.YtnkfbjcgkdblgaaGreatG21
import Derived.Test.YtnkfbjcgkdblgaaGreatG22
namespace Go.Proofs.YtnkfbjcgkdblgaaGreat.Vl
open Go.RowKit T.atoms T.ok T.high T.good T.allPlain DatAt T.ord

set_option maxHeartbeats 400000 in
theorem eitherMk (n d : Nat) (hn : 0 < n) (w : World) (hd : d < w.heap.size) (h0 : w.cell? ⟨d, 0, none⟩ = some (.int .i64 2)) : Calls Tryz.prog 55 #[.slice (some ⟨d, 0, none⟩) n n] w fun e w' => e = .returned (deedV 2 85 w.heap.size) ∧ w'.cell? ⟨w.heap.size, 0, none⟩ = some (.slice (some ⟨d, 0, none⟩) n n) ∧ Below w.heap.size w w' ∧ w.heap.size < w'.heap.size := by
  have hsf := run_store_func Tryz.prog
  have hB : Below w.heap.size w ((w.alloc (.cells #[.slice (some ⟨d, 0, none⟩) n n] 118)).alloc (.cells #[.int .i64 0, .nilFunc] 51)) := ((Below.refl _ _).alloc (Nat.le_refl _) _).alloc (by simp) _
  have h0' := (hB.cell (p := ⟨d, 0, none⟩) hd).trans h0
  go_enter Tryz.func55, Tryz.ntmps55
  go_wp2
  refine bodyPost_ret (v := deedV 2 85 w.heap.size) (by simp [results, Tryz.results55, go_sem, deedV]) rfl ⟨rfl, ?_, ?_, by simp; omega⟩
  · exact (((Below.refl (w.heap.size + 1) (w.alloc (.cells #[.slice (some ⟨d, 0, none⟩) n n] 118))).alloc (by simp) _).cell (p := ⟨w.heap.size, 0, none⟩) (Nat.lt_succ_self _)).trans (by simp)
  · exact ((Below.refl _ _).alloc (Nat.le_refl _) _).alloc (by simp) _

/-- The first of some deeds. -/
theorem deedE {lo hi : Nat} {w : World} (ds : List (Nat × Nat)) (Rs : List (T → T → Out)) (hl : Rs.length = ds.length) (hl9 : ds.length ≤ 100) (d b : Nat) (hd1 : lo ≤ d) (hd2 : d < hi) (hb1 : lo ≤ b) (hb2 : b < hi) (hz : hi ≤ w.heap.size) (hbc : w.cell? ⟨b, 0, none⟩ = some (.slice (some ⟨d, 0, none⟩) ds.length ds.length))
    (hcs : ∀ i (h : i < ds.length), w.cell? ⟨d, i * 2, none⟩ = some (.int .i64 2) ∧ w.cell? ⟨d, i * 2 + 1, none⟩ = some (.func (.func (ds[i]).1) #[] #[.pointer (some ⟨(ds[i]).2, 0, none⟩)]))
    (hD : ∀ i (h : i < ds.length) (h' : i < Rs.length), DeedAt lo hi w (ds[i]).1 (ds[i]).2 Rs[i]) : DeedAt lo hi w 85 b (fun t u => eitherOut (Rs.map fun R => R t u)) := by
  refine ⟨hz, en_of Tryz.func85 (by kernel_rfl) (by kernel_rfl), fun W hs hG t u hg hg' hc hc' hi1 hi2 gg x y xa xb h1 h2 h3 h4 h5 => ?_⟩
  refine either1_any ds (Rs.map fun R => R t u) (by simpa using hl) hl9 d b gg W (Nat.lt_of_lt_of_le hd2 hs.1) ((hs.cell b 0 hb1 hb2).trans hbc) (fun i h => ?_) (fun i h => (hD i h (by omega)).en) (fun i h ho W' hB => ?_)
  · obtain ⟨a1, a2⟩ := hcs i h
    exact ⟨(hs.cell d (i * 2) hd1 hd2).trans a1, (hs.cell d (i * 2 + 1) hd1 hd2).trans a2⟩
  · have h' : i < Rs.length := by omega
    have := (hD i h h').does W' (hs.below hB) (hG.below hB) t u hg hg' hc hc' hi1 hi2 gg x y xa xb (Nat.lt_of_lt_of_le h1 hB.size) ((hB.cell (p := ⟨gg, 0, none⟩) h1).trans h2) ((hB.cell (p := ⟨gg, 1, none⟩) h1).trans h3) (h4.moves (Moves.below hB)) (h5.moves (Moves.below hB))
    simpa using this

def alike (hb : Int → Bool) (t u : T) : Out := eitherOut ([cmpsB hb, cmpsI hb, cmpsT hb, cmpsL hb].map fun R => R t u)
theorem eight_new (W : World) (l : List Value) (t : TypeId) : ∀ j v, l[j]? = some v → (W.alloc (.cells l.toArray t)).cell? ⟨W.heap.size, j, none⟩ = some v := by
  intro j v h
  rw [World.cell?, heap_alloc_new]
  simpa using h
def AlikePost (hb : Int → Bool) (w : World) (e : Ending) (w' : World) : Prop := ∃ b, e = .returned (deedV 2 85 b) ∧ DeedAt w.heap.size w'.heap.size w' 85 b (alike hb) ∧ Below w.heap.size w w'
theorem Same.set {lo hi : Nat} {w W : World} (h : Same lo hi w W) (p : Addr) (hp : p.block < lo) (v : Value) : Same lo hi w (W.setCell p v) := ⟨by simpa using h.1, fun q a b => (Below.heap_setCell _ _ _ _ (by omega)).trans (h.2 q a b)⟩

set_option maxRecDepth 100000 in
set_option maxHeartbeats 1000000 in
theorem alike_any (h : FuncId) (hb : Int → Bool) (w : World) (hen : ∀ args w, (callFunc h args).run Tryz.prog w = .ok (.enter h args) w) (HH : Holds h hb) : Calls Tryz.prog 50 #[.func (.func h) #[] #[]] w (AlikePost hb w) := by
  have hsf := run_store_func Tryz.prog
  have hq : Below w.heap.size w (w.alloc (.cells #[.int .i64 0, .nilFunc] 51)) := (Below.refl _ _).alloc (Nat.le_refl _) _
  have D0 := hide (two_new w (.int .i64 0) .nilFunc 51)
  have FZ := hide (frozen_new2 w (.int .i64 0) .nilFunc 51)
  have HQ := hide hq
  clear hq
  go_enter Tryz.func50, Tryz.ntmps50
  go_wp2_with fail
  refine (cmpsB_any h _).mono ?_
  rintro e w1 ⟨rfl, c0, c1, b1, z1⟩
  have dB := hide (deedCB hen HH c0 c1 z1)
  have B1 := HQ.out.trans (b1.mono (by simp))
  have K1 := hide b1
  clear c0 c1 b1
  unfold deedV
  go_wp2_with fail
  refine (cmpsI_any h _).mono ?_
  rintro e w2 ⟨rfl, c0, c1, b2, z2⟩
  have dI := hide (deedCI hen HH c0 c1 z2)
  have B2 := B1.trans (b2.mono B1.size)
  have K2 := hide b2
  clear c0 c1 b2
  unfold deedV
  go_wp2_with fail
  refine (cmpsT_any h _).mono ?_
  rintro e w3 ⟨rfl, c0, c1, b3, z3⟩
  have dT := hide (deedCT hen HH c0 c1 z3)
  have B3 := B2.trans (b3.mono B2.size)
  have K3 := hide b3
  clear c0 c1 b3
  unfold deedV
  go_wp2_with fail
  refine (cmpsL_any h _).mono ?_
  rintro e w4 ⟨rfl, c0, c1, b4, z4⟩
  have dL := hide (deedCL hen HH c0 c1 z4)
  have B4 := B3.trans (b4.mono B3.size)
  have K4 := hide b4
  clear c0 c1 b4
  unfold deedV
  have hz4 := B4.size
  have hd4 : w4.heap.size < (w4.alloc (.cells #[.int .i64 2, .func (.func 77) #[] #[.pointer (some ⟨w.heap.size + 1 + 1 + 1, 0, none⟩)], .int .i64 2, .func (.func 92) #[] #[.pointer (some ⟨w1.heap.size + 1 + 1, 0, none⟩)], .int .i64 2, .func (.func 86) #[] #[.pointer (some ⟨w2.heap.size + 1 + 1, 0, none⟩)], .int .i64 2, .func (.func 95) #[] #[.pointer (some ⟨w3.heap.size + 1 + 1, 0, none⟩)]] 51)).heap.size := by simp
  have E8 := hide (eight_new w4 [.int .i64 2, .func (.func 77) #[] #[.pointer (some ⟨w.heap.size + 1 + 1 + 1, 0, none⟩)], .int .i64 2, .func (.func 92) #[] #[.pointer (some ⟨w1.heap.size + 1 + 1, 0, none⟩)], .int .i64 2, .func (.func 86) #[] #[.pointer (some ⟨w2.heap.size + 1 + 1, 0, none⟩)], .int .i64 2, .func (.func 95) #[] #[.pointer (some ⟨w3.heap.size + 1 + 1, 0, none⟩)]] 51)
  go_wp2_with fail
  refine (eitherMk 4 w4.heap.size (by omega) _ hd4 (E8.out 0 _ rfl)).mono ?_
  rintro e w5 ⟨rfl, cb, b5, z5⟩
  simp only [World.size_alloc] at cb b5 z5
  have b45 : Below w4.heap.size w4 w5 := ((Below.refl _ _).alloc (Nat.le_refl _) _).trans (b5.mono (Nat.le_succ _))
  have e8 : ∀ j v, ([.int .i64 2, .func (.func 77) #[] #[.pointer (some ⟨w.heap.size + 1 + 1 + 1, 0, none⟩)], .int .i64 2, .func (.func 92) #[] #[.pointer (some ⟨w1.heap.size + 1 + 1, 0, none⟩)], .int .i64 2, .func (.func 86) #[] #[.pointer (some ⟨w2.heap.size + 1 + 1, 0, none⟩)], .int .i64 2, .func (.func 95) #[] #[.pointer (some ⟨w3.heap.size + 1 + 1, 0, none⟩)]] : List Value)[j]? = some v → w5.cell? ⟨w4.heap.size, j, none⟩ = some v := fun j v hj => (b5.cell (p := ⟨w4.heap.size, j, none⟩) (Nat.lt_succ_self _)).trans (E8.out j v hj)
  have HE8 := hide e8
  have hs1 := K2.out.size
  have hs2 := K3.out.size
  have hs3 := K4.out.size
  have hs4 := b45.size
  simp only [World.size_alloc] at z1
  have B5 := B4.trans (b45.mono B4.size)
  have S1 : Same (w.heap.size + 1) (w.heap.size + 1 + 1 + 1 + 1) w1 w5 := ((((Same.refl (by omega)).below K2.out).below K3.out).below K4.out).below b45
  have S2 : Same w1.heap.size (w1.heap.size + 1 + 1 + 1) w2 w5 := (((Same.refl (by omega)).below K3.out).below K4.out).below b45
  have S3 : Same w2.heap.size (w2.heap.size + 1 + 1 + 1) w3 w5 := ((Same.refl (by omega)).below K4.out).below b45
  have S4 : Same w3.heap.size (w3.heap.size + 1 + 1 + 1) w4 w5 := (Same.refl (by omega)).below b45
  have HS := hide (And.intro S1 (And.intro S2 (And.intro S3 S4)))
  have hsz0 : w.heap.size < w1.heap.size := by omega
  have q0 := (K1.out.cell (p := ⟨w.heap.size, 0, none⟩) (by simp)).trans (D0.out 0 _ rfl)
  have q1 := (K1.out.cell (p := ⟨w.heap.size, 1, none⟩) (by simp)).trans (D0.out 1 _ rfl)
  have p0 := (K1.out.frozen (p := ⟨w.heap.size, 0, none⟩) (by simp)).trans (FZ.out 0)
  have p1 := (K1.out.frozen (p := ⟨w.heap.size, 1, none⟩) (by simp)).trans (FZ.out 1)
  have b15 : Below w1.heap.size w1 w5 := ((K2.out.trans (K3.out.mono hs1)).trans (K4.out.mono (by omega))).trans (b45.mono (by omega))
  have r0 := (b15.cell (p := ⟨w.heap.size, 0, none⟩) hsz0).trans q0
  have r1 := (b15.cell (p := ⟨w.heap.size, 1, none⟩) hsz0).trans q1
  have f0 := (b15.frozen (p := ⟨w.heap.size, 0, none⟩) hsz0).trans p0
  have f1 := (b15.frozen (p := ⟨w.heap.size, 1, none⟩) hsz0).trans p1
  have HCB := hide cb
  clear cb b5 e8 S1 S2 S3 S4 q0 q1 p0 p1 b15 E8 hd4
  unfold deedV
  go_wp2
  obtain ⟨t0, t1⟩ := two_cells (x := .int .i64 2) (y := .func (.func 85) #[] #[.pointer (some ⟨w4.heap.size + 1, 0, none⟩)]) r0 r1
  have hk : ∀ b, b ≠ w.heap.size → ((w5.setCell ⟨w.heap.size, 0, none⟩ (.int .i64 2)).setCell ⟨w.heap.size, 1, none⟩ (.func (.func 85) #[] #[.pointer (some ⟨w4.heap.size + 1, 0, none⟩)])).heap[b]? = w5.heap[b]? := fun b hb => (Below.heap_setCell _ _ _ _ hb).trans (Below.heap_setCell _ _ _ _ hb)
  obtain ⟨S1, S2, S3, S4⟩ := HS.out
  have hzf : ((w5.setCell ⟨w.heap.size, 0, none⟩ (.int .i64 2)).setCell ⟨w.heap.size, 1, none⟩ (.func (.func 85) #[] #[.pointer (some ⟨w4.heap.size + 1, 0, none⟩)])).heap.size = w5.heap.size := by simp
  refine bodyPost_ret (v := deedV 2 85 (w4.heap.size + 1)) (by simp [results, Tryz.results50, go_sem, deedV, t0, t1]) rfl ⟨_, rfl, ?_, (B5.setCell (p := ⟨w.heap.size, 0, none⟩) (Nat.le_refl _) _).setCell (p := ⟨w.heap.size, 1, none⟩) (Nat.le_refl _) _⟩
  have ce : ∀ b o, b ≠ w.heap.size → ((w5.setCell ⟨w.heap.size, 0, none⟩ (.int .i64 2)).setCell ⟨w.heap.size, 1, none⟩ (.func (.func 85) #[] #[.pointer (some ⟨w4.heap.size + 1, 0, none⟩)])).cell? ⟨b, o, none⟩ = w5.cell? ⟨b, o, none⟩ := fun b o hb => World.cell?_of_block (a := ⟨b, o, none⟩) (hk b hb)
  rw [hzf]
  refine deedE [(77, w.heap.size + 1 + 1 + 1), (92, w1.heap.size + 1 + 1), (86, w2.heap.size + 1 + 1), (95, w3.heap.size + 1 + 1)] [cmpsB hb, cmpsI hb, cmpsT hb, cmpsL hb] rfl (by simp) w4.heap.size (w4.heap.size + 1) (by omega) (by omega) (by omega) z5 (by rw [hzf]; omega) ((ce _ _ (by omega)).trans HCB.out) ?_ ?_
  · intro i hi
    match i, hi with
    | 0, _ => exact ⟨(ce _ _ (by omega)).trans (HE8.out 0 _ rfl), (ce _ _ (by omega)).trans (HE8.out 1 _ rfl)⟩
    | 1, _ => exact ⟨(ce _ _ (by omega)).trans (HE8.out 2 _ rfl), (ce _ _ (by omega)).trans (HE8.out 3 _ rfl)⟩
    | 2, _ => exact ⟨(ce _ _ (by omega)).trans (HE8.out 4 _ rfl), (ce _ _ (by omega)).trans (HE8.out 5 _ rfl)⟩
    | 3, _ => exact ⟨(ce _ _ (by omega)).trans (HE8.out 6 _ rfl), (ce _ _ (by omega)).trans (HE8.out 7 _ rfl)⟩
  · have hdB := dB.out
    simp only [World.size_alloc] at hdB
    intro i hi hi'
    match i, hi, hi' with
    | 0, _, _ => exact (hdB.same ((S1.set ⟨w.heap.size, 0, none⟩ (Nat.lt_succ_self _) _).set ⟨w.heap.size, 1, none⟩ (Nat.lt_succ_self _) _)).wide (by omega) (by omega) (by rw [hzf]; omega)
    | 1, _, _ => exact (dI.out.same ((S2.set ⟨w.heap.size, 0, none⟩ hsz0 _).set ⟨w.heap.size, 1, none⟩ hsz0 _)).wide (by omega) (by omega) (by rw [hzf]; omega)
    | 2, _, _ => exact (dT.out.same ((S3.set ⟨w.heap.size, 0, none⟩ (by show w.heap.size < _; omega) _).set ⟨w.heap.size, 1, none⟩ (by show w.heap.size < _; omega) _)).wide (by omega) (by omega) (by rw [hzf]; omega)
    | 3, _, _ => exact (dL.out.same ((S4.set ⟨w.heap.size, 0, none⟩ (by show w.heap.size < _; omega) _).set ⟨w.heap.size, 1, none⟩ (by show w.heap.size < _; omega) _)).wide (by omega) (by omega) (by rw [hzf]; omega)
end Go.Proofs.YtnkfbjcgkdblgaaGreat.Vl
namespace Go.Proofs.YtnkfbjcgkdblgaaGreat.Vl
open Go.RowKit T.atoms T.ok T.high T.good T.allPlain DatAt T.ord

theorem bool_of {w : World} {x : Nat} {t : T} {b : Bool} (h : DatAt w x t (.iface 83 (.bool b))) : b = (t.num == 1) := by
  cases t with
  | mk k n s ks =>
    rw [DatAt] at h
    rcases h with ⟨_, e⟩ | ⟨_, e⟩ | ⟨_, e⟩ | ⟨_, e⟩ | ⟨_, p, c, vs, e, _⟩ | ⟨_, p, c, m, vs, _, e, _⟩ <;> first | (cases e; rfl) | cases e
theorem int_of {w : World} {x : Nat} {t : T} {n : Int} (h : DatAt w x t (.iface 103 (.int .i64 n))) : n = t.num := by
  cases t with
  | mk k n s ks =>
    rw [DatAt] at h
    rcases h with ⟨_, e⟩ | ⟨_, e⟩ | ⟨_, e⟩ | ⟨_, e⟩ | ⟨_, p, c, vs, e, _⟩ | ⟨_, p, c, m, vs, _, e, _⟩ <;> first | (cases e; rfl) | cases e
theorem text_of {w : World} {x : Nat} {t : T} {s : ByteArray} (h : DatAt w x t (.iface 89 (.string s))) : s = t.text := by
  cases t with
  | mk k n s ks =>
    rw [DatAt] at h
    rcases h with ⟨_, e⟩ | ⟨_, e⟩ | ⟨_, e⟩ | ⟨_, e⟩ | ⟨_, p, c, vs, e, _⟩ | ⟨_, p, c, m, vs, _, e, _⟩ <;> first | (cases e; rfl) | cases e

set_option maxHeartbeats 400000 in
theorem or_do (a b : Bool) (w : World) : Calls Tryz.prog 45 #[.bool a, .bool b] w (TupPost fun dv s w' => dv = .iface 83 (.bool (a || b)) ∧ s = ⟨#[]⟩ ∧ Below w.heap.size w w') := by
  cases a
  all_goals
    go_enter Tryz.func45, Tryz.ntmps45
    go_wp2
    go_ret2
    exact ⟨_, _, rfl, rfl, rfl, Below.refl _ _⟩
set_option maxHeartbeats 400000 in
theorem and_do (a b : Bool) (w : World) : Calls Tryz.prog 46 #[.bool a, .bool b] w (TupPost fun dv s w' => dv = .iface 83 (.bool (a && b)) ∧ s = ⟨#[]⟩ ∧ Below w.heap.size w w') := by
  cases a
  all_goals
    go_enter Tryz.func46, Tryz.ntmps46
    go_wp2
    go_ret2
    exact ⟨_, _, rfl, rfl, rfl, Below.refl _ _⟩
def orR (t u : T) : Out := .inr (boolT ((t.num == 1) || (u.num == 1)))
def andR (t u : T) : Out := .inr (boolT ((t.num == 1) && (u.num == 1)))
theorem leaf_or : LeafBB 45 orR := fun W t u x y a b _ _ _ _ _ _ _ h4 h5 => by
  have e1 := bool_of h4
  have e2 := bool_of h5
  subst e1 e2
  exact (or_do _ _ W).mono tup_bool
theorem leaf_and : LeafBB 46 andR := fun W t u x y a b _ _ _ _ _ _ _ h4 h5 => by
  have e1 := bool_of h4
  have e2 := bool_of h5
  subst e1 e2
  exact (and_do _ _ W).mono tup_bool
set_option maxHeartbeats 400000 in
theorem holds3 : Holds 48 (fun n => decide (n = 0)) := fun n w => by
  by_cases h : n = 0
  all_goals
    have hh := h
    go_enter Tryz.func48, Tryz.ntmps48
    go_wp2
    go_ret
    exact ⟨ret_bool (by simp [h]), rfl⟩
set_option maxHeartbeats 400000 in
theorem holds4 : Holds 49 (fun n => decide (n ≠ 0)) := fun n w => by
  by_cases h : n = 0
  all_goals
    have hh := h
    go_enter Tryz.func49, Tryz.ntmps49
    go_wp2
    go_ret
    exact ⟨ret_bool (by simp [h]), rfl⟩
set_option maxHeartbeats 400000 in
theorem holds5 : Holds 51 (fun n => decide (n < 0)) := fun n w => by
  by_cases h : n < 0
  all_goals
    have hh := h
    go_enter Tryz.func51, Tryz.ntmps51
    go_wp2
    go_ret
    exact ⟨ret_bool (by simp [h]), rfl⟩
set_option maxHeartbeats 400000 in
theorem holds6 : Holds 52 (fun n => decide (n ≤ 0)) := fun n w => by
  by_cases h : n ≤ 0
  all_goals
    have hh := h
    go_enter Tryz.func52, Tryz.ntmps52
    go_wp2
    go_ret
    exact ⟨ret_bool (by simp [h]), rfl⟩
set_option maxHeartbeats 400000 in
theorem holds7 : Holds 53 (fun n => decide (0 < n)) := fun n w => by
  by_cases h : 0 < n
  all_goals
    have hh := h
    go_enter Tryz.func53, Tryz.ntmps53
    go_wp2
    go_ret
    exact ⟨ret_bool (by simp [h]), rfl⟩
set_option maxHeartbeats 400000 in
theorem holds8 : Holds 54 (fun n => decide (0 ≤ n)) := fun n w => by
  by_cases h : 0 ≤ n
  all_goals
    have hh := h
    go_enter Tryz.func54, Tryz.ntmps54
    go_wp2
    go_ret
    exact ⟨ret_bool (by simp [h]), rfl⟩
/-- A number, or a word. -/
def intT (z : Int) : T := .mk 3 z ⟨#[]⟩ []
theorem intT_good (z : Int) : (intT z).good = true := by
  rw [T.good_eq]; simp [intT, plain, T.kind, T.num, T.text, T.ks, highL, goodL]; rfl
theorem intT_count (z : Int) : (intT z).count = 1 := by simp [intT, T.count, T.atoms, atomsL]
theorem intT_dat (w : World) (x : Nat) (z : Int) : DatAt w x (intT z) (.iface 103 (.int .i64 z)) := by
  unfold intT DatAt
  exact .inr (.inr (.inl ⟨rfl, rfl⟩))
def numOut (r : Option Int) (l : List UInt8) : Out := match r with
  | some z => .inr (intT z)
  | none => .inl l
theorem tup_num {W : World} {r : Option Int} {l : List UInt8} (e : Ending) (w' : World) (h : e = .returned (numV r l) ∧ w' = W) : TupPost (DoK W (numOut r l)) e w' := by
  obtain ⟨rfl, rfl⟩ := h
  cases r with
  | some z => exact ⟨_, _, rfl, Below.refl _ _, rfl, intT_good z, by rw [intT_count]; omega, 0, intT_dat _ _ _⟩
  | none => exact ⟨_, _, rfl, Below.refl _ _, rfl, rfl⟩
def addR (t u : T) : Out := numOut (fit64 (t.num + u.num)) [114, 97, 110, 103, 101]
def subR (t u : T) : Out := numOut (fit64 (t.num - u.num)) [114, 97, 110, 103, 101]
def mulR (t u : T) : Out := numOut (fit64 (t.num * u.num)) [114, 97, 110, 103, 101]
def quoR (t u : T) : Out := if u.num = 0 then .inl [100, 105, 118, 105, 100, 101] else if t.num = -9223372036854775808 ∧ u.num = -1 then .inl [114, 97, 110, 103, 101] else .inr (intT (quoV t.num u.num))
def remR (t u : T) : Out := if u.num = 0 then .inl [100, 105, 118, 105, 100, 101] else .inr (intT (remV t.num u.num))
theorem leaf_add : LeafII 63 addR := fun W t u x y a b _ _ _ _ _ hi hi' h4 h5 => by
  have e1 := int_of h4
  have e2 := int_of h5
  subst e1 e2
  exact (addNumbers_any _ _ W hi hi').mono tup_num
theorem leaf_sub : LeafII 69 subR := fun W t u x y a b _ _ _ _ _ hi hi' h4 h5 => by
  have e1 := int_of h4
  have e2 := int_of h5
  subst e1 e2
  exact (subtract_any _ _ W hi hi').mono tup_num
theorem leaf_mul : LeafII 70 mulR := fun W t u x y a b _ _ _ _ _ hi hi' h4 h5 => by
  have e1 := int_of h4
  have e2 := int_of h5
  subst e1 e2
  exact (multiply_any _ _ W hi hi').mono tup_num
theorem leaf_quo : LeafII 71 quoR := fun W t u x y a b _ _ _ _ _ hi hi' h4 h5 => by
  have e1 := int_of h4
  have e2 := int_of h5
  subst e1 e2
  refine (quotient_any _ _ W hi hi').mono ?_
  intro e w' h
  unfold quoR
  by_cases h0 : u.num = 0
  · rw [if_pos h0] at h ⊢; exact tup_num (r := none) e w' h
  · rw [if_neg h0] at h ⊢
    by_cases h1 : t.num = -9223372036854775808 ∧ u.num = -1
    · rw [if_pos h1] at h ⊢; exact tup_num (r := none) e w' h
    · rw [if_neg h1] at h ⊢; exact tup_num (r := some _) (l := []) e w' h
theorem leaf_rem : LeafII 72 remR := fun W t u x y a b _ _ _ _ _ _ hi' h4 h5 => by
  have e1 := int_of h4
  have e2 := int_of h5
  subst e1 e2
  refine (remainder_any _ _ W hi').mono ?_
  intro e w' h
  unfold remR
  by_cases h0 : u.num = 0
  · rw [if_pos h0] at h ⊢; exact tup_num (r := none) e w' h
  · rw [if_neg h0] at h ⊢; exact tup_num (r := some _) (l := []) e w' h

set_option maxHeartbeats 400000 in
theorem unless_yes (y : TypeId) (v : Value) (w : World) : Calls Tryz.prog 93 #[.iface y v, .bool true] w fun e w' => e = .returned (.tuple #[.iface y v, .string ⟨#[]⟩]) ∧ w' = w := by
  go_enter Tryz.func93, Tryz.ntmps93
  go_wp2
  go_ret2
  exact ⟨rfl, rfl⟩
set_option maxHeartbeats 400000 in
theorem unless_no (v : Value) (w : World) : Calls Tryz.prog 93 #[v, .bool false] w fun e w' => e = .returned (.tuple #[.nilIface, .string ⟨#[108, 97, 114, 103, 101]⟩]) ∧ w' = w := by
  go_enter Tryz.func93, Tryz.ntmps93
  go_wp2
  go_ret2
  exact ⟨rfl, rfl⟩
def lgW : List UInt8 := [108, 97, 114, 103, 101]
def catT (t u : T) : T := .mk 4 0 (t.text ++ u.text) []
def catR (t u : T) : Out := if (t.text ++ u.text).size ≤ 1000 then .inr (catT t u) else .inl lgW
theorem textT_good {s : ByteArray} (h : s.size ≤ 1000) : (T.mk 4 0 s []).good = true := by
  rw [T.good_eq]
  simp [plain, T.kind, T.num, T.text, T.ks, highL, goodL, h]
theorem catT_good {t u : T} (h : (t.text ++ u.text).size ≤ 1000) : (catT t u).good = true := textT_good h
theorem catT_count (t u : T) : (catT t u).count = 1 := by simp [catT, T.count, T.atoms, atomsL]
theorem text_size {t : T} (hk : t.kind = 4) (hg : t.good = true) : t.text.size ≤ 1000 := by
  cases t with
  | mk k n s ks =>
    obtain rfl : k = 4 := hk
    rw [T.good_eq] at hg
    simp only [Bool.and_eq_true] at hg
    have h := hg.1.1
    unfold plain at h
    simp only [Bool.and_eq_true, T.kind, T.num, T.text, T.ks] at h
    have h := h.2
    simp at h
    exact of_decide_eq_true h
set_option maxRecDepth 100000 in
set_option maxHeartbeats 1000000 in
theorem leaf_cat : LeafTT 64 catR := fun W t u x y a b _ hg hg' _ _ _ _ h4 h5 => by
  have e1 := text_of h4
  have e2 := text_of h5
  subst e1 e2
  have k1 : t.kind = 4 := by
    apply Classical.byContradiction
    intro h
    obtain ⟨y1, u1, e, hy⟩ := (formT h4).2 h
    cases e; exact hy rfl
  have k2 : u.kind = 4 := by
    apply Classical.byContradiction
    intro h
    obtain ⟨y1, u1, e, hy⟩ := (formT h5).2 h
    cases e; exact hy rfl
  have s1 := text_size k1 hg
  have s2 := text_size k2 hg'
  have hsum : (t.text ++ u.text).size = t.text.size + u.text.size := ByteArray.size_append
  have hlen : ¬ 9223372036854775807 < t.text.size + u.text.size := by omega
  have HN := hide (fun w => newText_any (t.text ++ u.text) w)
  unfold catR
  by_cases h : (t.text ++ u.text).size ≤ 1000
  · rw [if_pos h]
    rw [decide_eq_true (show (((t.text ++ u.text).size : Nat) : Int) ≤ 1000 by omega)] at HN
    have HG := hide (catT_good h)
    have HD := hide (show ∀ w, DatAt w 0 (catT t u) (.iface 89 (.string (t.text ++ u.text))) from fun w => datText (catT t u) rfl)
    have HC := hide (catT_count t u)
    generalize catT t u = ct at *
    clear h hsum s1 s2 k1 k2 h4 h5 hg hg'
    generalize t.text = ta at *
    generalize u.text = tb at *
    go_enter Tryz.func64, Tryz.ntmps64
    go_wp2_with fail
    refine (HN.out _).mono ?_
    rintro e w1 ⟨rfl, rfl⟩
    go_wp2_with fail
    refine (unless_yes _ _ _).mono ?_
    rintro e w2 ⟨rfl, rfl⟩
    go_wp2
    go_ret2
    exact ⟨_, _, rfl, Below.refl _ _, rfl, HG.out, by rw [HC.out]; omega, 0, HD.out _⟩
  · rw [if_neg h]
    rw [decide_eq_false (show ¬ (((t.text ++ u.text).size : Nat) : Int) ≤ 1000 by omega)] at HN
    clear h hsum s1 s2 k1 k2 h4 h5 hg hg'
    generalize t.text = ta at *
    generalize u.text = tb at *
    go_enter Tryz.func64, Tryz.ntmps64
    go_wp2_with fail
    refine (HN.out _).mono ?_
    rintro e w1 ⟨rfl, rfl⟩
    go_wp2_with fail
    refine (unless_no _ _).mono ?_
    rintro e w2 ⟨rfl, rfl⟩
    go_wp2
    go_ret2
    exact ⟨_, _, rfl, Below.refl _ _, rfl, rfl⟩
end Go.Proofs.YtnkfbjcgkdblgaaGreat.Vl
