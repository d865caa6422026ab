/- The statement of FnExactOrder: its row. -/
import Derived.Test.YtfpdoafpimaoaaaRows
import Derived.Test.YtfpdoafpimaoaaaOh
import Derived.Deep.Slices
import Derived.ProofKit
import Derived.OpenShut
namespace Go.Proofs.Ytfpdoafpimaoaaa
open Vl
open Go.ChangeShapes Go.WideShapes Go.ChangeAt Go.RowKit

theorem own : ownKnob Try.prog.godebug = none := by kernel_rfl
theorem laidOut : laidOutB Try.prog = true := by kernel_rfl
theorem cellsAt : Try.prog.cellsOf 102 = 4 := by kernel_rfl
theorem cellsInt : Try.prog.cellsOf 3 = 1 := by kernel_rfl
theorem cellsInt64 : Try.prog.cellsOf 2 = 1 := by kernel_rfl
theorem cellsStr : Try.prog.cellsOf 9 = 1 := by kernel_rfl
theorem cellsSl : Try.prog.cellsOf 32 = 1 := by kernel_rfl
theorem cellsTr : Try.prog.cellsOf 34 = 1 := by kernel_rfl


section
variable {H : Type} {enc : TypeId × Value → H} {W : World} {sp : Nat → Bool}

set_option maxRecDepth 100000 in
theorem one_atom {n : Nat} {cs : List Value} {x : DataW H × List MemPlace} (h : DataW.trod enc Try.prog W 0 sp true n 102 cs = some x) :
    ∃ d : At, cs = d.cells ∧ d.text.size ≤ maxLen := by
  obtain ⟨xs, m, _, _, hl, hxl, hf⟩ := DataW.trod_struct Try.underlying102 h
  rw [cellsAt] at hl
  match cs, hl with
  | [c0, c1, c2, c3], _ =>
    match xs, hxl with
    | [y0, y1, y2, y3], _ =>
      have g0 := hf 0 _ rfl
      have g1 := hf 1 _ rfl
      have g2 := hf 2 _ rfl
      have g3 := hf 3 _ rfl
      simp [cellsInt, cellsInt64, cellsStr] at g0 g1 g2 g3
      obtain ⟨k0, e0, _⟩ := DataW.trod_int Try.underlying3 g0
      obtain ⟨k1, e1, _⟩ := DataW.trod_int Try.underlying2 g1
      obtain ⟨s, e2, _, hs⟩ := DataW.trod_string Try.underlying9 g2
      obtain ⟨k3, e3, _⟩ := DataW.trod_int Try.underlying3 g3
      cases e0; cases e1; cases e2; cases e3
      exact ⟨⟨k0, k1, s, k3⟩, rfl, hs⟩

set_option maxRecDepth 100000 in
theorem open_atoms {n : Nat} {v : Value} {x : DataW H × List MemPlace} (h : DataW.trod enc Try.prog W 0 (fun _ => true) true n 32 [v] = some x) :
    ∃ l, AtomsV W v l ∧ l.length ≤ maxLen ∧ ∀ d ∈ l, d.text.size ≤ maxLen := by
  rcases Deep.open_slice Try.underlying32 h with ⟨hc, _⟩ | ⟨a, len, cap, m, k, D, Pl, hc, _, hlc, hcm, hm, _, hx⟩
  · cases hc
    exact ⟨[], .inl ⟨none, 0, rfl, rfl⟩, by simp, fun d hd => by cases hd⟩
  · cases hc
    have hm2 : m = cap := by simpa using hm
    rw [cellsAt] at hx
    have each : ∀ i, i < len → ∃ d : At, (∀ j, j < 4 → W.cell? ((a.add (i * 4)).add j) = d.cells[j]?) ∧ d.text.size ≤ maxLen := by
      intro i hi
      obtain ⟨cs, h1, h2⟩ := hx i (by omega)
      obtain ⟨d, rfl, hs⟩ := one_atom h2
      exact ⟨d, (World.cells?_some h1).2.2, hs⟩
    haveI : Inhabited At := ⟨⟨0, 0, ⟨#[]⟩, 0⟩⟩
    obtain ⟨f, hf⟩ := Deep.choose_lt each
    have hlen : ((List.range len).map f).length = len := by simp
    refine ⟨(List.range len).map f, ?_, by rw [hlen]; omega, fun d hd => ?_⟩
    · by_cases h0 : len = 0
      · subst h0; exact .inl ⟨_, _, rfl, rfl⟩
      · have hc0 := (hf 0 (by omega)).1 0 (by omega)
        rw [Deep.add_add, Nat.zero_mul, Nat.zero_add] at hc0
        obtain ⟨b, o, s⟩ := a
        have hs : s = none := by
          cases s with
          | none => rfl
          | some q =>
            simp only [Addr.add, if_true, World.cell?, At.cells] at hc0
            split at hc0 <;> simp at hc0
        subst hs
        refine .inr ⟨b, o, cap, by rw [hlen], ⟨?_, fun i hi => ?_⟩, by rw [hlen]; omega⟩
        · exact World.block_lt_of_cell? W ⟨b, o, none⟩ (show W.cell? ⟨b, o, none⟩ = some (.int .i64 (f 0).kind) from by simpa [Addr.add, At.cells] using hc0)
        · have hi2 : i < len := by rwa [hlen] at hi
          have q := (hf i hi2).1
          have e : ((List.range len).map f)[i] = f i := by simp
          rw [e]
          have q0 := q 0 (by omega)
          have q1 := q 1 (by omega)
          have q2 := q 2 (by omega)
          have q3 := q 3 (by omega)
          rw [Deep.add_add, Vl.add_plain] at q0 q1 q2 q3
          simp only [Nat.add_zero, ← Nat.add_assoc] at q0 q1 q2 q3
          exact ⟨q0, q1, q2, q3⟩
    · obtain ⟨i, hi, rfl⟩ := List.mem_map.1 hd
      exact (hf i (List.mem_range.1 hi)).2

theorem one_cell {cs : Array Value} (h : cs.size = 1) : ∃ v, cs = #[v] := by
  obtain ⟨l⟩ := cs
  match l, h with
  | [v], _ => exact ⟨v, rfl⟩
set_option maxRecDepth 100000 in
theorem open_value {base : Nat} {v0 : Value} {d0 : DataW H} {p : List MemPlace} (hval : Value.okWide Try.prog W .any base 34 v0) (h0 : DataW.Trod enc Try.prog W 0 (fun _ => true) true 34 v0 d0 p) :
    ∃ v l, v0 = .agg #[v] ∧ AtomsV W v l ∧ l.length ≤ 9223372036854775807 ∧ ∀ d ∈ l, d.text.size ≤ 9223372036854775807 := by
  obtain ⟨cs, rfl, hcs⟩ := okWide_struct Try.underlying34 hval
  obtain ⟨fuel, hf⟩ := h0
  obtain ⟨y0, n, _, _, hy⟩ := trod_struct1 Try.underlying34 hf
  rw [cellsTr] at hcs
  obtain ⟨v, rfl⟩ := one_cell hcs
  have hy2 : DataW.trod enc Try.prog W 0 (fun _ => true) true n 32 [v] = some y0 := by simpa [Value.cells, cellsSl] using hy
  obtain ⟨l, hN, hl, hx⟩ := open_atoms hy2
  unfold maxLen at hl hx
  exact ⟨v, l, rfl, hN, hl, hx⟩
end

set_option maxRecDepth 100000 in
set_option maxHeartbeats 1000000 in
theorem liftedO (os : Os) (started : os.Started) (H : Type) (enc : TypeId × Value → H) :
    ReturnsInHanded {} Try.checked os 5 .any (Rows.fnExactOrderSpec.pre6 enc Try.prog Try.f5 Rows.fnExactOrderRow.domain false)
      (Rows.fnExactOrderSpec.post enc Try.prog Try.f5 false true false false) := by
  refine returnsInHanded_of_change (C := Try.checked) own started (by kernel_rfl) Try.func5
    (ChangeSpec.witness6 (enc := enc) (C := Try.checked) false ⟨#[], #[.agg #[.slice none 0 0], .agg #[.slice none 0 0]], []⟩ 8 (by kernel_rfl) (by kernel_rfl) (by kernel_rfl) (by kernel_rfl)) ?_
  intro W base args ds gs before hval0 hW _ _
  have hval : ∀ (j : Nat) t v, Try.f5.params[j]? = some t → args[j]? = some v → Value.okWide Try.prog W .any base t v := hval0
  have hW' := hW
  obtain ⟨p, q, hA0, hV, rfl, hfz, hnd⟩ := hW
  have hA : DataW.TrodAll enc Try.prog W 0 (fun _ => true) true Try.f5.params.toList args.toList ds p := hA0
  rw [Try.params5] at hA hval
  obtain ⟨v0, v1, d0, d1, p0, p1, rfl, rfl, rfl, h0, h1⟩ := trodAll_two hA
  obtain ⟨rfl, rfl⟩ := trodVars_none hV
  have h0k := h0
  have h1k := h1
  have hlt0 : ∀ x ∈ p0, x.block < W.heap.size := fun x hx => by simpa using hW'.lt x (by simp [hx])
  have hlt1 : ∀ x ∈ p1, x.block < W.heap.size := fun x hx => by simpa using hW'.lt x (by simp [hx])
  obtain ⟨v, l, rfl, hN, hl, hx⟩ := open_value (hval 0 34 v0 rfl rfl) h0
  obtain ⟨v', l', rfl, hN', hl', hx'⟩ := open_value (hval 1 34 v1 rfl rfl) h1
  clear hA0 hval0
  refine (lawO_any l l' v v' W hl hx hN hl' hx' hN').mono fun e W' ⟨he, hb⟩ => ?_
  subst he
  exact ⟨_, rfl, [d0, d1], [], _, [], p0 ++ p1, [], hW', trodAll_mk1 (shut_bool Try.underlying4 _), trodAll_mk2 (Below.trod laidOut (by kernel_rfl) (of_decide_eq_true (by kernel_rfl)) h0k hb hlt0) (Below.trod laidOut (by kernel_rfl) (of_decide_eq_true (by kernel_rfl)) h1k hb hlt1), rfl, hb.frame _, fun h => by cases h⟩

theorem saidO : Rows.FnExactOrderSaid :=
  OpenClaim.holds_of_wide 5 Try.f5 rfl rfl rfl rfl rfl rfl rfl ⟨rfl, rfl, rfl, rfl, rfl⟩ rfl rfl rfl rfl rfl (by kernel_rfl) Try.func5 (by kernel_rfl)
    (of_decide_eq_true (by kernel_rfl)) (by unfold Func.isWrapper; first | (rw [if_pos (by decide +kernel)]; kernel_rfl) | (rw [if_neg (by decide +kernel)]; exact ⟨rfl, rfl⟩))
    (fun os started H enc _ => liftedO os started H enc)
#print axioms saidO
end Go.Proofs.Ytfpdoafpimaoaaa
