/- The statement of FnExactFormPlan: its row. -/
import Derived.Test.YtlganondmnhecaaRows
import Derived.Test.YtlganondmnhecaaTg
import Derived.Deep.Slices
import Derived.ProofKit
import Derived.OpenShut
namespace Go.Proofs.Ytlganondmnhecaa
open Pl
open Go.ChangeShapes Go.WideShapes Go.ChangeAt Go.RowKit

theorem own : ownKnob Try.prog.godebug = none := by kernel_rfl
theorem laidOut : laidOutB Try.prog = true := by kernel_rfl
theorem cellsTg : Try.prog.cellsOf 32 = 5 := by kernel_rfl
theorem cellsStr : Try.prog.cellsOf 9 = 1 := by kernel_rfl
theorem cellsSlS : Try.prog.cellsOf 30 = 1 := by kernel_rfl

theorem add_plain (g o j : Nat) : ((⟨g, o, none⟩ : Addr).add j) = ⟨g, o + j, none⟩ := by unfold Addr.add; split <;> simp_all

section
variable {H : Type} {enc : TypeId × Value → H} {W : World}

set_option maxRecDepth 100000 in
theorem open_strs {n : Nat} {v : Value} {x : DataW H × List MemPlace} (h : DataW.trod enc Try.prog W 0 (fun _ => true) true n 30 [v] = some x) :
    ∃ l, StrsV W v l ∧ l.length ≤ maxLen ∧ ∀ d ∈ l, d.size ≤ maxLen := by
  rcases Deep.open_slice Try.underlying30 h with ⟨hc, _⟩ | ⟨a, len, cap, m, k, D, Pl, hc, _, hlc, hcm, hm, _, hx⟩
  · cases hc
    exact ⟨[], .inl ⟨none, 0, rfl, rfl⟩, by simp, fun d hd => by cases hd⟩
  · cases hc
    have hm2 : m = cap := by simpa using hm
    rw [cellsStr] at hx
    have each : ∀ i, i < len → ∃ d : ByteArray, W.cell? (a.add i) = some (.string d) ∧ d.size ≤ maxLen := by
      intro i hi
      obtain ⟨cs, h1, h2⟩ := hx i (by omega)
      obtain ⟨s, e0, _, hs⟩ := DataW.trod_string Try.underlying9 h2
      subst e0
      have := (World.cells?_some h1).2.2 0 (by simp)
      rw [Deep.add_add, Nat.mul_one, Nat.add_zero] at this
      exact ⟨s, this, hs⟩
    haveI : Inhabited Tg := ⟨⟨⟨#[]⟩, ⟨#[]⟩, ⟨#[]⟩, [], []⟩⟩
    obtain ⟨f, hf⟩ := Deep.choose_lt each
    have hlen : ((List.range len).map f).length = len := by simp
    refine ⟨(List.range len).map f, ?_, by rw [hlen]; omega, fun d hd => ?_⟩
    · by_cases h0 : len = 0
      · subst h0; exact .inl ⟨_, _, rfl, rfl⟩
      · have hc0 := (hf 0 (by omega)).1
        obtain ⟨b, o, s⟩ := a
        have hs : s = none := by
          cases s with
          | none => rfl
          | some q =>
            simp only [Addr.add, if_true, World.cell?] at hc0
            split at hc0 <;> simp at hc0
        subst hs
        refine .inr ⟨b, o, cap, by rw [hlen], ?_, fun i hi => ?_⟩
        · exact World.block_lt_of_cell? W ⟨b, o, none⟩ (show W.cell? ⟨b, o, none⟩ = some (.string (f 0)) from by simpa [Addr.add] using hc0)
        · have hi2 : i < len := by rwa [hlen] at hi
          have q := (hf i hi2).1
          have e : ((List.range len).map f)[i] = f i := by simp
          rw [e]
          rw [add_plain] at q
          exact q
    · obtain ⟨i, hi, rfl⟩ := List.mem_map.1 hd
      exact (hf i (List.mem_range.1 hi)).2


set_option maxRecDepth 100000 in
theorem one_target {n : Nat} {cs : List Value} {x : DataW H × List MemPlace} (h : DataW.trod enc Try.prog W 0 (fun _ => true) true n 32 cs = some x) :
    ∃ (d : Tg) (vi vo : Value), cs = [.string d.name, .string d.tool, .string d.arg, vi, vo] ∧ StrsV W vi d.ins ∧ StrsV W vo d.outs ∧ d.Small := by
  obtain ⟨xs, m, _, _, hl, hxl, hf⟩ := DataW.trod_struct Try.underlying32 h
  rw [cellsTg] at hl
  match cs, hl with
  | [c0, c1, c2, c3, c4], _ =>
    match xs, hxl with
    | [y0, y1, y2, y3, y4], _ =>
      have g0 := hf 0 _ rfl
      have g1 := hf 1 _ rfl
      have g2 := hf 2 _ rfl
      have g3 := hf 3 _ rfl
      have g4 := hf 4 _ rfl
      simp [cellsStr, cellsSlS] at g0 g1 g2 g3 g4
      obtain ⟨s, e0, _, hs⟩ := DataW.trod_string Try.underlying9 g0
      obtain ⟨u, e1, _, hu⟩ := DataW.trod_string Try.underlying9 g1
      obtain ⟨r, e2, _, hr⟩ := DataW.trod_string Try.underlying9 g2
      obtain ⟨li, vi, li1, li2⟩ := open_strs g3
      obtain ⟨lo, vo, lo1, lo2⟩ := open_strs g4
      cases e0; cases e1; cases e2
      unfold maxLen at hs hu hr li1 li2 lo1 lo2
      exact ⟨⟨s, u, r, li, lo⟩, c3, c4, rfl, vi, vo, hs, hu, hr, ⟨li1, li2⟩, lo1, lo2⟩

set_option maxRecDepth 100000 in
theorem open_targets {n : Nat} {v : Value} {x : DataW H × List MemPlace} (h : DataW.trod enc Try.prog W 0 (fun _ => true) true n 22 [v] = some x) :
    ∃ l, TgsV W v l ∧ l.length ≤ maxLen ∧ ∀ d ∈ l, d.Small := by
  rcases Deep.open_slice Try.underlying22 h with ⟨hc, _⟩ | ⟨a, len, cap, m, k, D, Pl, hc, _, hlc, hcm, hm, _, hx⟩
  · cases hc
    exact ⟨[], .inl ⟨none, 0, rfl, rfl⟩, by simp, fun d hd => by cases hd⟩
  · cases hc
    have hm2 : m = cap := by simpa using hm
    rw [cellsTg] at hx
    have each : ∀ i, i < len → ∃ d : Tg, (∃ vi vo, (∀ j, j < 5 → W.cell? ((a.add (i * 5)).add j) = [Value.string d.name, .string d.tool, .string d.arg, vi, vo][j]?) ∧ StrsV W vi d.ins ∧ StrsV W vo d.outs) ∧ d.Small := by
      intro i hi
      obtain ⟨cs, h1, h2⟩ := hx i (by omega)
      obtain ⟨d, vi, vo, rfl, h3, h4, hs⟩ := one_target h2
      exact ⟨d, ⟨vi, vo, (World.cells?_some h1).2.2, h3, h4⟩, hs⟩
    haveI : Inhabited Tg := ⟨⟨⟨#[]⟩, ⟨#[]⟩, ⟨#[]⟩, [], []⟩⟩
    obtain ⟨f, hf⟩ := Deep.choose_lt each
    have hlen : ((List.range len).map f).length = len := by simp
    refine ⟨(List.range len).map f, ?_, by rw [hlen]; omega, fun d hd => ?_⟩
    · by_cases h0 : len = 0
      · subst h0; exact .inl ⟨_, _, rfl, rfl⟩
      · obtain ⟨vi0, vo0, hc00, _, _⟩ := (hf 0 (by omega)).1
        have hc0 := hc00 0 (by omega)
        rw [Deep.add_add, Nat.zero_mul, Nat.zero_add] at hc0
        obtain ⟨b, o, s⟩ := a
        have hs : s = none := by
          cases s with
          | none => rfl
          | some q =>
            simp only [Addr.add, if_true, World.cell?] at hc0
            split at hc0 <;> simp at hc0
        subst hs
        refine .inr ⟨b, o, cap, by rw [hlen], ?_, fun i hi => ?_⟩
        · exact World.block_lt_of_cell? W ⟨b, o, none⟩ (show W.cell? ⟨b, o, none⟩ = some (.string (f 0).name) from by simpa [Addr.add] using hc0)
        · have hi2 : i < len := by rwa [hlen] at hi
          obtain ⟨vi, vo, q, h3, h4⟩ := (hf i hi2).1
          have e : ((List.range len).map f)[i] = f i := by simp
          rw [e]
          have q0 := q 0 (by omega)
          have q1 := q 1 (by omega)
          have q2 := q 2 (by omega)
          have q3 := q 3 (by omega)
          have q4 := q 4 (by omega)
          rw [Deep.add_add, add_plain] at q0 q1 q2 q3 q4
          simp only [Nat.add_zero, ← Nat.add_assoc] at q0 q1 q2 q3 q4
          exact ⟨vi, vo, q0, q1, q2, q3, q4, h3, h4⟩
    · obtain ⟨i, hi, rfl⟩ := List.mem_map.1 hd
      exact (hf i (List.mem_range.1 hi)).2

theorem open_plan {v0 : Value} {d0 : DataW H} {p : List MemPlace} (hv : v0.cells = #[v0]) (h0 : DataW.Trod enc Try.prog W 0 (fun _ => true) true 22 v0 d0 p) :
    ∃ l, TgsV W v0 l ∧ l.length ≤ 9223372036854775807 ∧ ∀ d ∈ l, d.Small := by
  obtain ⟨fuel, hf⟩ := h0
  rw [hv] at hf
  obtain ⟨l, hF, hl, hx⟩ := open_targets hf
  unfold maxLen at hl
  exact ⟨l, hF, hl, hx⟩
end

set_option maxRecDepth 100000 in
set_option maxHeartbeats 1000000 in
theorem lifted (himp : ImplPlan) (os : Os) (started : os.Started) (H : Type) (enc : TypeId × Value → H) :
    ReturnsInHanded {} Try.checked os 3 .any (Rows.fnExactFormPlanSpec.pre6 enc Try.prog Try.f3 Rows.fnExactFormPlanRow.domain false)
      (Rows.fnExactFormPlanSpec.post enc Try.prog Try.f3 false true false false) := by
  refine returnsInHanded_of_change (C := Try.checked) own started (by kernel_rfl) Try.func3
    (ChangeSpec.witness6 (enc := enc) (C := Try.checked) false ⟨#[], #[.slice none 0 0], []⟩ 8 (by kernel_rfl) (by kernel_rfl) (by kernel_rfl) (by kernel_rfl)) ?_
  intro W base args ds gs before hval0 hW _ _
  have hval : ∀ (j : Nat) t v, Try.f3.params[j]? = some t → args[j]? = some v → Value.okWide Try.prog W .any base t v := hval0
  have hW' := hW
  obtain ⟨p, q, hA0, hV, rfl, hfz, hnd⟩ := hW
  have hA : DataW.TrodAll enc Try.prog W 0 (fun _ => true) true Try.f3.params.toList args.toList ds p := hA0
  rw [Try.params3] at hA hval
  obtain ⟨v0, d0, rfl, rfl, h0⟩ := trodAll_one hA
  obtain ⟨rfl, rfl⟩ := trodVars_none hV
  have h0k := h0
  have hlt : ∀ x ∈ p, x.block < W.heap.size := fun x hx => by simpa using hW'.lt x (by simp [hx])
  obtain ⟨a0, l0, c0, rfl⟩ := okWide_slice Try.underlying22 (hval 0 22 v0 rfl rfl)
  obtain ⟨l, hF, hl, hx⟩ := open_plan rfl h0
  clear hA0 hval0
  refine (lawP_any himp l _ W hl hx hF).mono fun e W' ⟨he, hb⟩ => ?_
  subst he
  exact ⟨_, rfl, [d0], [], _, [], p, [], hW', trodAll_mk1 (shut_bool Try.underlying4 _), trodAll_mk1 (Below.trod laidOut (by kernel_rfl) (of_decide_eq_true (by kernel_rfl)) h0k hb hlt), rfl, hb.frame _, fun h => by cases h⟩

theorem said_of (himp : ImplPlan) : Rows.FnExactFormPlanSaid :=
  OpenClaim.holds_of_wide 3 Try.f3 rfl rfl rfl rfl rfl rfl rfl ⟨rfl, rfl, rfl, rfl, rfl⟩ rfl rfl rfl rfl rfl (by kernel_rfl) Try.func3 (by kernel_rfl)
    (of_decide_eq_true (by kernel_rfl)) (by unfold Func.isWrapper; first | (rw [if_pos (by decide +kernel)]; kernel_rfl) | (rw [if_neg (by decide +kernel)]; exact ⟨rfl, rfl⟩))
    (fun os started H enc _ => lifted himp os started H enc)
end Go.Proofs.Ytlganondmnhecaa
