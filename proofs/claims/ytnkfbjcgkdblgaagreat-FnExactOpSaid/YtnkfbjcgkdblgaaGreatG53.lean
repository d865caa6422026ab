/- Joined: We. -/
import Derived.Test.YtnkfbjcgkdblgaaGreatRows
import Derived.Test.YtnkfbjcgkdblgaaGreatG51
import Derived.Test.YtnkfbjcgkdblgaaGreatG52
import Derived.HandedShaped
import Derived.Shelf.Vars
import Derived.OpenVars
import Derived.Deep.Slices
import Derived.ProofKit
import Derived.OpenShut
namespace Go.Proofs.YtnkfbjcgkdblgaaGreat
open Vl
open Go.ChangeShapes Go.WideShapes Go.ChangeAt Go.RowKit

theorem own : ownKnob Tryz.prog.godebug = none := by kernel_rfl
theorem laidOut : laidOutB Tryz.prog = true := by kernel_rfl
theorem cellsAt : Tryz.prog.cellsOf 57 = 4 := by kernel_rfl
theorem cellsInt : Tryz.prog.cellsOf 3 = 1 := by kernel_rfl
theorem cellsInt64 : Tryz.prog.cellsOf 2 = 1 := by kernel_rfl
theorem cellsStr : Tryz.prog.cellsOf 9 = 1 := by kernel_rfl
theorem cellsSl : Tryz.prog.cellsOf 22 = 1 := by kernel_rfl
theorem cellsTr : Tryz.prog.cellsOf 24 = 1 := by kernel_rfl


theorem wf64 {n : Int} (h : (Lit.int .i64 n).wf = true) : -9223372036854775808 ≤ n ∧ n ≤ 9223372036854775807 := by
  have h2 : (decide (IntKind.i64.min ≤ n) && decide (n ≤ IntKind.i64.max)) = true := h
  simp only [Bool.and_eq_true, decide_eq_true_eq] at h2
  rw [show IntKind.i64.min = -9223372036854775808 from by decide, show IntKind.i64.max = 9223372036854775807 from by decide] at h2
  exact h2

section
variable {H : Type} {enc : TypeId × Value → H} {W : World} {sp : Nat → Bool}

set_option maxRecDepth 100000 in
theorem one_atom {n : Nat} {cs : List Value} {x : DataW H × List MemPlace} (h : DataW.trod enc Tryz.prog W 0 sp true n 57 cs = some x) :
    ∃ d : At, cs = d.cells ∧ d.text.size ≤ maxLen ∧ (Lit.int .i64 d.n).wf = true := by
  obtain ⟨xs, m, _, _, hl, hxl, hf⟩ := DataW.trod_struct Tryz.underlying57 h
  rw [cellsAt] at hl
  match cs, hl with
  | [c0, c1, c2, c3], _ =>
    match xs, hxl with
    | [y0, y1, y2, y3], _ =>
      have g0 := hf 0 _ rfl
      have g1 := hf 1 _ rfl
      have g2 := hf 2 _ rfl
      have g3 := hf 3 _ rfl
      simp [cellsInt, cellsInt64, cellsStr] at g0 g1 g2 g3
      obtain ⟨k0, e0, _⟩ := DataW.trod_int Tryz.underlying3 g0
      obtain ⟨k1, e1, _, hw⟩ := DataW.trod_int Tryz.underlying2 g1
      obtain ⟨s, e2, _, hs⟩ := DataW.trod_string Tryz.underlying9 g2
      obtain ⟨k3, e3, _⟩ := DataW.trod_int Tryz.underlying3 g3
      cases e0; cases e1; cases e2; cases e3
      exact ⟨⟨k0, k1, s, k3⟩, rfl, hs, hw⟩

set_option maxRecDepth 100000 in
theorem open_atoms {n : Nat} {v : Value} {x : DataW H × List MemPlace} (h : DataW.trod enc Tryz.prog W 0 (fun _ => true) true n 22 [v] = some x) :
    ∃ l, AtomsV W v l ∧ l.length ≤ maxLen ∧ ∀ d ∈ l, d.text.size ≤ maxLen ∧ (Lit.int .i64 d.n).wf = true := by
  rcases Deep.open_slice Tryz.underlying22 h with ⟨hc, _⟩ | ⟨a, len, cap, m, k, D, Pl, hc, _, hlc, hcm, hm, _, hx⟩
  · cases hc
    exact ⟨[], .inl ⟨none, 0, rfl, rfl⟩, by simp, fun d hd => by cases hd⟩
  · cases hc
    have hm2 : m = cap := by simpa using hm
    rw [cellsAt] at hx
    have each : ∀ i, i < len → ∃ d : At, (∀ j, j < 4 → W.cell? ((a.add (i * 4)).add j) = d.cells[j]?) ∧ d.text.size ≤ maxLen ∧ (Lit.int .i64 d.n).wf = true := by
      intro i hi
      obtain ⟨cs, h1, h2⟩ := hx i (by omega)
      obtain ⟨d, rfl, hs⟩ := one_atom h2
      exact ⟨d, (World.cells?_some h1).2.2, hs⟩
    haveI : Inhabited At := ⟨⟨0, 0, ⟨#[]⟩, 0⟩⟩
    obtain ⟨f, hf⟩ := Deep.choose_lt each
    have hlen : ((List.range len).map f).length = len := by simp
    refine ⟨(List.range len).map f, ?_, by rw [hlen]; omega, fun d hd => ?_⟩
    · by_cases h0 : len = 0
      · subst h0; exact .inl ⟨_, _, rfl, rfl⟩
      · have hc0 := (hf 0 (by omega)).1 0 (by omega)
        rw [Deep.add_add, Nat.zero_mul, Nat.zero_add] at hc0
        obtain ⟨b, o, s⟩ := a
        have hs : s = none := by
          cases s with
          | none => rfl
          | some q =>
            simp only [Addr.add, if_true, World.cell?, At.cells] at hc0
            split at hc0 <;> simp at hc0
        subst hs
        refine .inr ⟨b, o, cap, by rw [hlen], ⟨?_, fun i hi => ?_⟩, by rw [hlen]; omega⟩
        · exact World.block_lt_of_cell? W ⟨b, o, none⟩ (show W.cell? ⟨b, o, none⟩ = some (.int .i64 (f 0).kind) from by simpa [Addr.add, At.cells] using hc0)
        · have hi2 : i < len := by rwa [hlen] at hi
          have q := (hf i hi2).1
          have e : ((List.range len).map f)[i] = f i := by simp
          rw [e]
          have q0 := q 0 (by omega)
          have q1 := q 1 (by omega)
          have q2 := q 2 (by omega)
          have q3 := q 3 (by omega)
          rw [Deep.add_add, Vl.add_plain] at q0 q1 q2 q3
          simp only [Nat.add_zero, ← Nat.add_assoc] at q0 q1 q2 q3
          exact ⟨q0, q1, q2, q3⟩
    · obtain ⟨i, hi, rfl⟩ := List.mem_map.1 hd
      exact (hf i (List.mem_range.1 hi)).2

theorem one_cell {cs : Array Value} (h : cs.size = 1) : ∃ v, cs = #[v] := by
  obtain ⟨l⟩ := cs
  match l, h with
  | [v], _ => exact ⟨v, rfl⟩
set_option maxRecDepth 100000 in
theorem open_value {base : Nat} {v0 : Value} {d0 : DataW H} {p : List MemPlace} (hval : Value.okWide Tryz.prog W .any base 24 v0) (h0 : DataW.Trod enc Tryz.prog W 0 (fun _ => true) true 24 v0 d0 p) :
    ∃ v l, v0 = .agg #[v] ∧ AtomsV W v l ∧ l.length ≤ 9223372036854775807 ∧ (∀ d ∈ l, d.text.size ≤ 9223372036854775807) ∧ ∀ d ∈ l, -9223372036854775808 ≤ d.n ∧ d.n ≤ 9223372036854775807 := by
  obtain ⟨cs, rfl, hcs⟩ := okWide_struct Tryz.underlying24 hval
  obtain ⟨fuel, hf⟩ := h0
  obtain ⟨y0, n, _, _, hy⟩ := trod_struct1 Tryz.underlying24 hf
  rw [cellsTr] at hcs
  obtain ⟨v, rfl⟩ := one_cell hcs
  have hy2 : DataW.trod enc Tryz.prog W 0 (fun _ => true) true n 22 [v] = some y0 := by simpa [Value.cells, cellsSl] using hy
  obtain ⟨l, hN, hl, hx⟩ := open_atoms hy2
  unfold maxLen at hl hx
  exact ⟨v, l, rfl, hN, hl, fun d hd => (hx d hd).1, fun d hd => wf64 (hx d hd).2⟩
end

theorem lawOp_any (op : Int) (l l' : List At) (v v' : Value) (w : World) (hop : (Lit.int .i64 op).wf = true) (hl : l.length ≤ 9223372036854775807) (hx : ∀ x ∈ l, x.text.size ≤ 9223372036854775807) (hn : ∀ x ∈ l, -9223372036854775808 ≤ x.n ∧ x.n ≤ 9223372036854775807) (ht : AtomsV w v l) (hl' : l'.length ≤ 9223372036854775807) (hx' : ∀ x ∈ l', x.text.size ≤ 9223372036854775807) (hn' : ∀ x ∈ l', -9223372036854775808 ≤ x.n ∧ x.n ≤ 9223372036854775807) (ht' : AtomsV w v' l') (hGI : GI w) :
    Calls Tryz.prog 3 #[.int .i64 op, .agg #[v], .agg #[v']] w fun e w' => e = .returned (.bool true) ∧ Below w.heap.size w w' :=
  lawOp_of op l l' v v' w hl hx hn ht hl' hx' hn' ht' (opRes Rs0 op l l').1 (opRes Rs0 op l l').2 (opRes_len op l l')
    (fun hl2 hl2' h3 h3' ga gb w' h h' => (specOp_any op l l' ga l.length gb l'.length w' hl2 hl2' h3 h3' (Nat.le_refl _) (Nat.le_refl _) h h').mono fun _ _ h => OPost.row h)
    (fun hl2 hl2' h3 h3' ga gb w' h h' hB => (implOp_any hard0 fine0 op l l' ga l.length gb l'.length w' hop hl2 hl2' h3 h3' h h' (hGI.below hB)).mono fun _ _ h => PPost2.row h)

set_option maxRecDepth 100000 in
set_option maxHeartbeats 1000000 in
theorem liftedOp (os : Os) (started : os.Started) (H : Type) (enc : TypeId × Value → H) :
    ReturnsInHanded {} Tryz.checked os 3 .any (Rows.fnExactOpSpec.pre6 enc Tryz.prog Tryz.f3 Rows.fnExactOpRow.domain false)
      (Rows.fnExactOpSpec.post enc Tryz.prog Tryz.f3 false true false false) := by
  refine returnsInHanded_of_change_shaped (C := Tryz.checked) own started (by kernel_rfl) Tryz.func3
    (ChangeSpec.witness6 (enc := enc) (C := Tryz.checked) false ⟨#[], #[.int .i64 0, .agg #[.slice none 0 0], .agg #[.slice none 0 0]], []⟩ 8 (by kernel_rfl) (by kernel_rfl) (by kernel_rfl) (by kernel_rfl)) ?_
  intro W base args ds gs before hval0 hW _ _ hsh _
  have hGI : GI W := Go.Proofs.cell_of_shapedOpen_int (zero := #[.int .i64 0]) (t := 3) hsh (of_decide_eq_true (by kernel_rfl)) (by kernel_rfl) rfl (by kernel_rfl) (by kernel_rfl) Tryz.underlying3
  have hval : ∀ (j : Nat) t v, Tryz.f3.params[j]? = some t → args[j]? = some v → Value.okWide Tryz.prog W .any base t v := hval0
  have hW' := hW
  obtain ⟨p, q, hA0, hV, rfl, hfz, hnd⟩ := hW
  have hA : DataW.TrodAll enc Tryz.prog W 0 (fun _ => true) true Tryz.f3.params.toList args.toList ds p := hA0
  rw [Tryz.params3] at hA hval
  obtain ⟨v0, v1, v2, d0, d1, d2, p0, p1, p2, rfl, rfl, rfl, h0, h1, h2⟩ := trodAll_three hA
  obtain ⟨rfl, rfl⟩ := trodVars_none hV
  have h1k := h1
  have h2k := h2
  obtain ⟨op, rfl, rfl, rfl, hwf⟩ := open_int Tryz.underlying3 (hval 0 3 v0 rfl rfl) h0
  simp only [List.nil_append] at hW' hA
  have hlt1 : ∀ x ∈ p1, x.block < W.heap.size := fun x hx => by simpa using hW'.lt x (by simp [hx])
  have hlt2 : ∀ x ∈ p2, x.block < W.heap.size := fun x hx => by simpa using hW'.lt x (by simp [hx])
  obtain ⟨v, l, rfl, hN, hl, hx, hn⟩ := open_value (hval 1 24 v1 rfl rfl) h1
  obtain ⟨v', l', rfl, hN', hl', hx', hn'⟩ := open_value (hval 2 24 v2 rfl rfl) h2
  clear hA0 hval0
  refine (lawOp_any op l l' v v' W hwf hl hx hn hN hl' hx' hn' hN' hGI).mono fun e W' ⟨he, hb⟩ => ?_
  subst he
  have hfin : DataW.TrodAll enc Tryz.prog W' 0 (fun b => decide (b < W.heap.size)) true [3, 24, 24] [.int .i64 op, .agg #[v], .agg #[v']] [.lit (.int .i64 op), d1, d2] (p1 ++ p2) := by simpa using trodAll_mk3 (shut_int Tryz.underlying3 hwf) (Below.trod laidOut (by kernel_rfl) (of_decide_eq_true (by kernel_rfl)) h1k hb hlt1) (Below.trod laidOut (by kernel_rfl) (of_decide_eq_true (by kernel_rfl)) h2k hb hlt2)
  exact ⟨_, rfl, [.lit (.int .i64 op), d1, d2], [], _, [], p1 ++ p2, [], hW', trodAll_mk1 (shut_bool Tryz.underlying4 _), hfin, rfl, hb.frame _, fun h => by cases h⟩

theorem saidOp : Rows.FnExactOpSaid :=
  OpenClaim.holds_of_wide 3 Tryz.f3 rfl rfl rfl rfl rfl rfl rfl ⟨rfl, rfl, rfl, rfl, rfl⟩ rfl rfl rfl rfl rfl (by kernel_rfl) Tryz.func3 (by kernel_rfl)
    (of_decide_eq_true (by kernel_rfl)) (by unfold Func.isWrapper; first | (rw [if_pos (by decide +kernel)]; kernel_rfl) | (rw [if_neg (by decide +kernel)]; exact ⟨rfl, rfl⟩))
    (fun os started H enc _ => liftedOp os started H enc)
#print axioms saidOp
end Go.Proofs.YtnkfbjcgkdblgaaGreat
