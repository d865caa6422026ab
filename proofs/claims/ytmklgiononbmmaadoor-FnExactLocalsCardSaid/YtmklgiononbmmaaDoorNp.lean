/- What a tree reads as; what the laid variable holds. -/
import Derived.Test.YtmklgiononbmmaaDoorCards
import Derived.Test.YtmklgiononbmmaaDoorTie
import Derived.Test.YtmklgiononbmmaaDoorJk
import Derived.Test.YtmklgiononbmmaaDoorVk
import Derived.Test.YtmklgiononbmmaaDoorNj
import Derived.Deep.Slices
import Derived.ProofKit
import Derived.LaidMore
import Derived.OpenShut
import Derived.OpenVars
import Derived.Stop.Joined
import Derived.Stop.LaidErr
namespace Go.Proofs.YtmklgiononbmmaaDoor
open Go.ChangeShapes Go.WideShapes Go.ChangeAt Go.RowKit Go.ChangeMaps

theorem own : ownKnob Tryd.prog.godebug = none := by kernel_rfl
theorem laidOut : laidOutB Tryd.prog = true := by kernel_rfl
theorem cellsNd : Tryd.prog.cellsOf 78 = 5 := by kernel_rfl
theorem cellsInt : Tryd.prog.cellsOf 3 = 1 := by kernel_rfl
theorem cellsInt64 : Tryd.prog.cellsOf 2 = 1 := by kernel_rfl
theorem cellsStr : Tryd.prog.cellsOf 9 = 1 := by kernel_rfl
theorem cellsSl : Tryd.prog.cellsOf 22 = 1 := by kernel_rfl
theorem cellsTr : Tryd.prog.cellsOf 24 = 1 := by kernel_rfl


section
variable {H : Type} {enc : TypeId × Value → H} {W : World} {sp : Nat → Bool}

set_option maxRecDepth 100000 in
theorem one_node {n : Nat} {cs : List Value} {x : DataW H × List MemPlace} (h : DataW.trod enc Tryd.prog W 0 sp true n 78 cs = some x) :
    ∃ d : Tr.Nd, cs = d.cells ∧ d.text.size ≤ maxLen := by
  obtain ⟨xs, m, _, _, hl, hxl, hf⟩ := DataW.trod_struct Tryd.underlying78 h
  rw [cellsNd] at hl
  match cs, hl with
  | [c0, c1, c2, c3, c4], _ =>
    match xs, hxl with
    | [y0, y1, y2, y3, y4], _ =>
      have g0 := hf 0 _ rfl
      have g1 := hf 1 _ rfl
      have g2 := hf 2 _ rfl
      have g3 := hf 3 _ rfl
      have g4 := hf 4 _ rfl
      simp [cellsInt, cellsInt64, cellsStr] at g0 g1 g2 g3 g4
      obtain ⟨k0, e0, _⟩ := DataW.trod_int Tryd.underlying3 g0
      obtain ⟨k1, e1, _⟩ := DataW.trod_int Tryd.underlying3 g1
      obtain ⟨k2, e2, _⟩ := DataW.trod_int Tryd.underlying2 g2
      obtain ⟨s, e3, _, hs⟩ := DataW.trod_string Tryd.underlying9 g3
      obtain ⟨k4, e4, _⟩ := DataW.trod_int Tryd.underlying3 g4
      cases e0; cases e1; cases e2; cases e3; cases e4
      exact ⟨⟨k0, k1, k2, s, k4⟩, rfl, hs⟩

theorem open_nodes {n : Nat} {v : Value} {x : DataW H × List MemPlace} (h : DataW.trod enc Tryd.prog W 0 (fun _ => true) true n 22 [v] = some x) :
    ∃ l, NodesV W v l ∧ l.length ≤ maxLen ∧ ∀ d ∈ l, d.text.size ≤ maxLen := by
  rcases Deep.open_slice Tryd.underlying22 h with ⟨hc, _⟩ | ⟨a, len, cap, m, k, D, Pl, hc, _, hlc, hcm, hm, _, hx⟩
  · cases hc
    exact ⟨[], .inl ⟨none, 0, rfl, rfl⟩, by simp, fun d hd => by cases hd⟩
  · cases hc
    have hm2 : m = cap := by simpa using hm
    rw [cellsNd] at hx
    have each : ∀ i, i < len → ∃ d : Tr.Nd, (∀ j, j < 5 → W.cell? ((a.add (i * 5)).add j) = d.cells[j]?) ∧ d.text.size ≤ maxLen := by
      intro i hi
      obtain ⟨cs, h1, h2⟩ := hx i (by omega)
      obtain ⟨d, rfl, hs⟩ := one_node h2
      exact ⟨d, (World.cells?_some h1).2.2, hs⟩
    haveI : Inhabited Tr.Nd := ⟨⟨0, 0, 0, ⟨#[]⟩, 0⟩⟩
    obtain ⟨f, hf⟩ := Deep.choose_lt each
    have hlen : ((List.range len).map f).length = len := by simp
    refine ⟨(List.range len).map f, ?_, by rw [hlen]; omega, fun d hd => ?_⟩
    · by_cases h0 : len = 0
      · subst h0; exact .inl ⟨_, _, rfl, rfl⟩
      · have hc0 := (hf 0 (by omega)).1 0 (by omega)
        rw [Deep.add_add, Nat.zero_mul, Nat.zero_add] at hc0
        obtain ⟨b, o, s⟩ := a
        have hs : s = none := by
          cases s with
          | none => rfl
          | some q =>
            simp only [Addr.add, if_true, World.cell?, Tr.Nd.cells] at hc0
            split at hc0 <;> simp at hc0
        subst hs
        refine .inr ⟨b, o, cap, by rw [hlen], ?_, fun i hi => ?_⟩
        · exact World.block_lt_of_cell? W ⟨b, o, none⟩ (show W.cell? ⟨b, o, none⟩ = some (.int .i64 (f 0).kind) from by simpa [Addr.add, Tr.Nd.cells] using hc0)
        · have hi2 : i < len := by rwa [hlen] at hi
          have q := (hf i hi2).1
          have e : ((List.range len).map f)[i] = f i := by simp
          rw [e]
          have q0 := q 0 (by omega)
          have q1 := q 1 (by omega)
          have q2 := q 2 (by omega)
          have q3 := q 3 (by omega)
          have q4 := q 4 (by omega)
          rw [Deep.add_add, add_plain] at q0 q1 q2 q3 q4
          simp only [Nat.add_zero, ← Nat.add_assoc] at q0 q1 q2 q3 q4
          exact ⟨q0, q1, q2, q3, q4⟩
    · obtain ⟨i, hi, rfl⟩ := List.mem_map.1 hd
      exact (hf i (List.mem_range.1 hi)).2

theorem one_cell {cs : Array Value} (h : cs.size = 1) : ∃ v, cs = #[v] := by
  obtain ⟨l⟩ := cs
  match l, h with
  | [v], _ => exact ⟨v, rfl⟩
set_option maxRecDepth 100000 in
theorem open_tree {base : Nat} {v0 : Value} {d0 : DataW H} {p : List MemPlace} (hval : Value.okWide Tryd.prog W .any base 24 v0) (h0 : DataW.Trod enc Tryd.prog W 0 (fun _ => true) true 24 v0 d0 p) :
    ∃ v l, v0 = .agg #[v] ∧ NodesV W v l ∧ l.length ≤ 9223372036854775807 ∧ ∀ d ∈ l, d.text.size ≤ 9223372036854775807 := by
  obtain ⟨cs, rfl, hcs⟩ := okWide_struct Tryd.underlying24 hval
  obtain ⟨fuel, hf⟩ := h0
  obtain ⟨y0, n, _, _, hy⟩ := trod_struct1 Tryd.underlying24 hf
  rw [cellsTr] at hcs
  obtain ⟨v, rfl⟩ := one_cell hcs
  have hy2 : DataW.trod enc Tryd.prog W 0 (fun _ => true) true n 22 [v] = some y0 := by simpa [Value.cells, cellsSl] using hy
  obtain ⟨l, hN, hl, hx⟩ := open_nodes hy2
  unfold maxLen at hl hx
  exact ⟨v, l, rfl, hN, hl, hx⟩
end


theorem gBuilt : Tryd.prog.globalNamed "loop.example/kilnclay/impl.builtNames" = some 0 := by kernel_rfl
theorem tBuilt : (Tryd.prog.globals[0]?).map (·.type) = some 119 := by kernel_rfl
theorem lit_built : Rows.laid_loop_example_kilnclay_impl_builtNames = DataW.agg (H := Unit) (builtBA.map fun b => .lit (.string b.data.toList)) := rfl
theorem glob_of {W : World} (h : laidMetH Tryd.prog [("loop.example/kilnclay/impl.builtNames", Rows.laid_loop_example_kilnclay_impl_builtNames)] W) : GlobB W := by
  rw [MakeChecks.laidMetH_plain _ _ _ (by kernel_rfl)] at h
  obtain ⟨ps, ⟨g0, t0, cs0, f0, p0, q0, hg0, ht0, hv0, hd0, _, e0⟩, _, hrows⟩ := h
  obtain rfl := Option.some.inj (gBuilt.symm.trans hg0)
  obtain rfl := Option.some.inj (tBuilt.symm.trans ht0)
  rw [lit_built] at hd0
  obtain ⟨xs, m, _, hx, hl, hxl, hall⟩ := DataW.trod_array Tryd.underlying119 hd0
  have hmap : builtBA.map (fun b => (DataW.lit (.string b.data.toList) : DataW Unit)) = xs.map (·.1) := by
    have := congrArg Prod.fst hx
    injection this
  have hcell : ∀ j (h : j < builtBA.length), W.cell? ⟨0, j, none⟩ = some (.string builtBA[j]) := by
    intro j hj
    have hj15 : j < 15 := hj
    have hq := hall j hj15
    rw [cellsStr, Nat.mul_one, List.getElem?_eq_getElem (by omega)] at hq
    obtain ⟨s, hs, hxs, _⟩ := DataW.trod_string Tryd.underlying9 hq
    have hm : (builtBA.map (fun b => (DataW.lit (.string b.data.toList) : DataW Unit)))[j]? = (xs.map (·.1))[j]? := by rw [hmap]
    rw [List.getElem?_map, List.getElem?_map, List.getElem?_eq_getElem hj, List.getElem?_eq_getElem (by omega), hxs] at hm
    have hb : builtBA[j]'hj = s := by
      simp only [Option.map_some, Option.some.injEq, DataW.lit.injEq, Lit.string.injEq] at hm
      exact ByteArray.ext (Array.toList_inj.1 hm)
    rw [World.var?_cell gBuilt hv0 j, hb]
    have h1 : ((cs0.toList.drop j).take 1)[0]? = some (.string s) := by rw [hs]; rfl
    rw [List.getElem?_take, if_pos (by omega), List.getElem?_drop, Nat.add_zero] at h1
    simpa using h1
  exact ⟨World.block_lt_of_cell? W ⟨0, 0, none⟩ (hcell 0 (by decide)), hcell⟩
end Go.Proofs.YtmklgiononbmmaaDoor
