/- The statement of FnExactValidWorld: its row. -/
import Derived.Test.YthlddankekghbaaRows
import Derived.Test.YthlddankekghbaaZf
import Derived.Deep.Slices
import Derived.ProofKit
import Derived.OpenShut
namespace Go.Proofs.Ythlddankekghbaa
open Wd
open Go.ChangeShapes Go.WideShapes Go.ChangeAt Go.RowKit

theorem own : ownKnob Try.prog.godebug = none := by kernel_rfl
theorem laidOut : laidOutB Try.prog = true := by kernel_rfl
theorem cellsFl : Try.prog.cellsOf 45 = 2 := by kernel_rfl
theorem cellsStr : Try.prog.cellsOf 9 = 1 := by kernel_rfl
theorem cellsSlF : Try.prog.cellsOf 22 = 1 := by kernel_rfl
theorem cellsSlS : Try.prog.cellsOf 23 = 1 := by kernel_rfl
theorem cellsWd : Try.prog.cellsOf 25 = 2 := by kernel_rfl

theorem add_plain (g o j : Nat) : ((⟨g, o, none⟩ : Addr).add j) = ⟨g, o + j, none⟩ := by unfold Addr.add; split <;> simp_all

section
variable {H : Type} {enc : TypeId × Value → H} {W : World} {sp : Nat → Bool}

set_option maxRecDepth 100000 in
theorem one_file {n : Nat} {cs : List Value} {x : DataW H × List MemPlace} (h : DataW.trod enc Try.prog W 0 sp true n 45 cs = some x) :
    ∃ d : Fl, cs = d.cells ∧ d.name.size ≤ maxLen ∧ d.text.size ≤ maxLen := by
  obtain ⟨xs, m, _, _, hl, hxl, hf⟩ := DataW.trod_struct Try.underlying45 h
  rw [cellsFl] at hl
  match cs, hl with
  | [c0, c1], _ =>
    match xs, hxl with
    | [y0, y1], _ =>
      have g0 := hf 0 _ rfl
      have g1 := hf 1 _ rfl
      simp [cellsStr] at g0 g1
      obtain ⟨s, e0, _, hs⟩ := DataW.trod_string Try.underlying9 g0
      obtain ⟨u, e1, _, hu⟩ := DataW.trod_string Try.underlying9 g1
      cases e0; cases e1
      exact ⟨⟨s, u⟩, rfl, hs, hu⟩

set_option maxRecDepth 100000 in
theorem open_files {n : Nat} {v : Value} {x : DataW H × List MemPlace} (h : DataW.trod enc Try.prog W 0 (fun _ => true) true n 22 [v] = some x) :
    ∃ l, FilesV W v l ∧ l.length ≤ maxLen ∧ ∀ d ∈ l, d.name.size ≤ maxLen ∧ d.text.size ≤ maxLen := by
  rcases Deep.open_slice Try.underlying22 h with ⟨hc, _⟩ | ⟨a, len, cap, m, k, D, Pl, hc, _, hlc, hcm, hm, _, hx⟩
  · cases hc
    exact ⟨[], .inl ⟨none, 0, rfl, rfl⟩, by simp, fun d hd => by cases hd⟩
  · cases hc
    have hm2 : m = cap := by simpa using hm
    rw [cellsFl] at hx
    have each : ∀ i, i < len → ∃ d : Fl, (∀ j, j < 2 → W.cell? ((a.add (i * 2)).add j) = d.cells[j]?) ∧ d.name.size ≤ maxLen ∧ d.text.size ≤ maxLen := by
      intro i hi
      obtain ⟨cs, h1, h2⟩ := hx i (by omega)
      obtain ⟨d, rfl, hs⟩ := one_file h2
      exact ⟨d, (World.cells?_some h1).2.2, hs⟩
    haveI : Inhabited Fl := ⟨⟨⟨#[]⟩, ⟨#[]⟩⟩⟩
    obtain ⟨f, hf⟩ := Deep.choose_lt each
    have hlen : ((List.range len).map f).length = len := by simp
    refine ⟨(List.range len).map f, ?_, by rw [hlen]; omega, fun d hd => ?_⟩
    · by_cases h0 : len = 0
      · subst h0; exact .inl ⟨_, _, rfl, rfl⟩
      · have hc0 := (hf 0 (by omega)).1 0 (by omega)
        rw [Deep.add_add, Nat.zero_mul, Nat.zero_add] at hc0
        obtain ⟨b, o, s⟩ := a
        have hs : s = none := by
          cases s with
          | none => rfl
          | some q =>
            simp only [Addr.add, if_true, World.cell?, Fl.cells] at hc0
            split at hc0 <;> simp at hc0
        subst hs
        refine .inr ⟨b, o, cap, by rw [hlen], ?_, fun i hi => ?_⟩
        · exact World.block_lt_of_cell? W ⟨b, o, none⟩ (show W.cell? ⟨b, o, none⟩ = some (.string (f 0).name) from by simpa [Addr.add, Fl.cells] using hc0)
        · have hi2 : i < len := by rwa [hlen] at hi
          have q := (hf i hi2).1
          have e : ((List.range len).map f)[i] = f i := by simp
          rw [e]
          have q0 := q 0 (by omega)
          have q1 := q 1 (by omega)
          rw [Deep.add_add, add_plain] at q0 q1
          simp only [Nat.add_zero, ← Nat.add_assoc] at q0 q1
          exact ⟨q0, q1⟩
    · obtain ⟨i, hi, rfl⟩ := List.mem_map.1 hd
      exact (hf i (List.mem_range.1 hi)).2

set_option maxRecDepth 100000 in
theorem open_strs {n : Nat} {v : Value} {x : DataW H × List MemPlace} (h : DataW.trod enc Try.prog W 0 (fun _ => true) true n 23 [v] = some x) :
    ∃ l, StrsV W v l ∧ l.length ≤ maxLen ∧ ∀ d ∈ l, d.size ≤ maxLen := by
  rcases Deep.open_slice Try.underlying23 h with ⟨hc, _⟩ | ⟨a, len, cap, m, k, D, Pl, hc, _, hlc, hcm, hm, _, hx⟩
  · cases hc
    exact ⟨[], .inl ⟨none, 0, rfl, rfl⟩, by simp, fun d hd => by cases hd⟩
  · cases hc
    have hm2 : m = cap := by simpa using hm
    rw [cellsStr] at hx
    have each : ∀ i, i < len → ∃ d : ByteArray, W.cell? (a.add i) = some (.string d) ∧ d.size ≤ maxLen := by
      intro i hi
      obtain ⟨cs, h1, h2⟩ := hx i (by omega)
      obtain ⟨s, e0, _, hs⟩ := DataW.trod_string Try.underlying9 h2
      subst e0
      have := (World.cells?_some h1).2.2 0 (by simp)
      rw [Deep.add_add, Nat.mul_one, Nat.add_zero] at this
      exact ⟨s, this, hs⟩
    haveI : Inhabited Fl := ⟨⟨⟨#[]⟩, ⟨#[]⟩⟩⟩
    obtain ⟨f, hf⟩ := Deep.choose_lt each
    have hlen : ((List.range len).map f).length = len := by simp
    refine ⟨(List.range len).map f, ?_, by rw [hlen]; omega, fun d hd => ?_⟩
    · by_cases h0 : len = 0
      · subst h0; exact .inl ⟨_, _, rfl, rfl⟩
      · have hc0 := (hf 0 (by omega)).1
        obtain ⟨b, o, s⟩ := a
        have hs : s = none := by
          cases s with
          | none => rfl
          | some q =>
            simp only [Addr.add, if_true, World.cell?] at hc0
            split at hc0 <;> simp at hc0
        subst hs
        refine .inr ⟨b, o, cap, by rw [hlen], ?_, fun i hi => ?_⟩
        · exact World.block_lt_of_cell? W ⟨b, o, none⟩ (show W.cell? ⟨b, o, none⟩ = some (.string (f 0)) from by simpa [Addr.add] using hc0)
        · have hi2 : i < len := by rwa [hlen] at hi
          have q := (hf i hi2).1
          have e : ((List.range len).map f)[i] = f i := by simp
          rw [e]
          rw [add_plain] at q
          exact q
    · obtain ⟨i, hi, rfl⟩ := List.mem_map.1 hd
      exact (hf i (List.mem_range.1 hi)).2

theorem two_cells {cs : Array Value} (h : cs.size = 2) : ∃ v u, cs = #[v, u] := by
  obtain ⟨l⟩ := cs
  match l, h with
  | [v, u], _ => exact ⟨v, u, rfl⟩
set_option maxRecDepth 100000 in
theorem open_world {base : Nat} {v0 : Value} {d0 : DataW H} {p : List MemPlace} (hval : Value.okWide Try.prog W .any base 25 v0) (h0 : DataW.Trod enc Try.prog W 0 (fun _ => true) true 25 v0 d0 p) :
    ∃ vf vn fs ns, v0 = .agg #[vf, vn] ∧ FilesV W vf fs ∧ StrsV W vn ns ∧ fs.length ≤ 9223372036854775807 ∧ (∀ d ∈ fs, d.name.size ≤ 9223372036854775807 ∧ d.text.size ≤ 9223372036854775807) ∧ ns.length ≤ 9223372036854775807 ∧ ∀ d ∈ ns, d.size ≤ 9223372036854775807 := by
  obtain ⟨cs, rfl, hcs⟩ := okWide_struct Try.underlying25 hval
  obtain ⟨fuel, hf⟩ := h0
  obtain ⟨y0, y1, n, _, _, hy0, hy1⟩ := trod_struct2 Try.underlying25 hf
  rw [cellsWd] at hcs
  obtain ⟨vf, vn, rfl⟩ := two_cells hcs
  have k0 : DataW.trod enc Try.prog W 0 (fun _ => true) true n 22 [vf] = some y0 := by simpa [Value.cells, cellsSlF] using hy0
  have k1 : DataW.trod enc Try.prog W 0 (fun _ => true) true n 23 [vn] = some y1 := by simpa [Value.cells, cellsSlS] using hy1
  obtain ⟨fs, hF, hl, hx⟩ := open_files k0
  obtain ⟨ns, hN, hk, hz⟩ := open_strs k1
  unfold maxLen at hl hx hk hz
  exact ⟨vf, vn, fs, ns, rfl, hF, hN, hl, hx, hk, hz⟩
end

set_option maxRecDepth 100000 in
set_option maxHeartbeats 1000000 in
theorem lifted (os : Os) (started : os.Started) (H : Type) (enc : TypeId × Value → H) :
    ReturnsInHanded {} Try.checked os 3 .any (Rows.fnExactValidWorldSpec.pre6 enc Try.prog Try.f3 Rows.fnExactValidWorldRow.domain false)
      (Rows.fnExactValidWorldSpec.post enc Try.prog Try.f3 false true false false) := by
  refine returnsInHanded_of_change (C := Try.checked) own started (by kernel_rfl) Try.func3
    (ChangeSpec.witness6 (enc := enc) (C := Try.checked) false ⟨#[], #[.agg #[.slice none 0 0, .slice none 0 0]], []⟩ 8 (by kernel_rfl) (by kernel_rfl) (by kernel_rfl) (by kernel_rfl)) ?_
  intro W base args ds gs before hval0 hW _ _
  have hval : ∀ (j : Nat) t v, Try.f3.params[j]? = some t → args[j]? = some v → Value.okWide Try.prog W .any base t v := hval0
  have hW' := hW
  obtain ⟨p, q, hA0, hV, rfl, hfz, hnd⟩ := hW
  have hA : DataW.TrodAll enc Try.prog W 0 (fun _ => true) true Try.f3.params.toList args.toList ds p := hA0
  rw [Try.params3] at hA hval
  obtain ⟨v0, d0, rfl, rfl, h0⟩ := trodAll_one hA
  obtain ⟨rfl, rfl⟩ := trodVars_none hV
  have h0k := h0
  have hlt : ∀ x ∈ p, x.block < W.heap.size := fun x hx => by simpa using hW'.lt x (by simp [hx])
  obtain ⟨vf, vn, fs, ns, rfl, hF, hN, hl, hx, hk, hz⟩ := open_world (hval 0 25 v0 rfl rfl) h0
  clear hA0 hval0
  refine (lawW_any fs ns vf vn W hl hx hk hz hF hN).mono fun e W' ⟨he, hb⟩ => ?_
  subst he
  exact ⟨_, rfl, [d0], [], _, [], p, [], hW', trodAll_mk1 (shut_bool Try.underlying4 _), trodAll_mk1 (Below.trod laidOut (by kernel_rfl) (of_decide_eq_true (by kernel_rfl)) h0k hb hlt), rfl, hb.frame _, fun h => by cases h⟩

theorem said : Rows.FnExactValidWorldSaid :=
  OpenClaim.holds_of_wide 3 Try.f3 rfl rfl rfl rfl rfl rfl rfl ⟨rfl, rfl, rfl, rfl, rfl⟩ rfl rfl rfl rfl rfl (by kernel_rfl) Try.func3 (by kernel_rfl)
    (of_decide_eq_true (by kernel_rfl)) (by unfold Func.isWrapper; first | (rw [if_pos (by decide +kernel)]; kernel_rfl) | (rw [if_neg (by decide +kernel)]; exact ⟨rfl, rfl⟩))
    (fun os started H enc _ => lifted os started H enc)
#print axioms said
end Go.Proofs.Ythlddankekghbaa
