/- The statement of FnExactTargets: what its argument reads as, the row, the card. -/
import Derived.Test.YtmpjdooepdicoaaGreatDoorCards
import Derived.Test.YtmpjdooepdicoaaGreatDoorTie
import Derived.Test.YtmpjdooepdicoaaGreatDoorBn
import Derived.Deep.Slices
import Derived.ProofKit
import Derived.LaidMore
import Derived.LaidHandle
import Derived.OpenShut
import Derived.OpenVars
import Derived.Stop.Joined
import Derived.Stop.LaidErr
namespace Go.Proofs.YtmpjdooepdicoaaGreatDoor
open Vl
open Go.ChangeShapes Go.WideShapes Go.ChangeAt Go.RowKit Go.ChangeMaps

theorem own : ownKnob Tryz.prog.godebug = none := by kernel_rfl
theorem laidOut : laidOutB Tryz.prog = true := by kernel_rfl
theorem cellsAt : Tryz.prog.cellsOf 156 = 4 := by kernel_rfl
theorem cellsInt : Tryz.prog.cellsOf 3 = 1 := by kernel_rfl
theorem cellsInt64 : Tryz.prog.cellsOf 2 = 1 := by kernel_rfl
theorem cellsStr : Tryz.prog.cellsOf 9 = 1 := by kernel_rfl
theorem cellsSl : Tryz.prog.cellsOf 36 = 1 := by kernel_rfl
theorem cellsTr : Tryz.prog.cellsOf 38 = 1 := by kernel_rfl
theorem cellsTd : Tryz.prog.cellsOf 40 = 2 := by kernel_rfl

section
variable {H : Type} {enc : TypeId × Value → H} {W : World} {sp : Nat → Bool}

set_option maxRecDepth 100000 in
theorem one_atom {n : Nat} {cs : List Value} {x : DataW H × List MemPlace} (h : DataW.trod enc Tryz.prog W 0 sp true n 156 cs = some x) :
    ∃ d : At, cs = d.cells ∧ d.text.size ≤ maxLen := by
  obtain ⟨xs, m, _, _, hl, hxl, hf⟩ := DataW.trod_struct Tryz.underlying156 h
  rw [cellsAt] at hl
  match cs, hl with
  | [c0, c1, c2, c3], _ =>
    match xs, hxl with
    | [y0, y1, y2, y3], _ =>
      have g0 := hf 0 _ rfl
      have g1 := hf 1 _ rfl
      have g2 := hf 2 _ rfl
      have g3 := hf 3 _ rfl
      simp [cellsInt, cellsInt64, cellsStr] at g0 g1 g2 g3
      obtain ⟨k0, e0, _⟩ := DataW.trod_int Tryz.underlying3 g0
      obtain ⟨k1, e1, _⟩ := DataW.trod_int Tryz.underlying2 g1
      obtain ⟨s, e2, _, hs⟩ := DataW.trod_string Tryz.underlying9 g2
      obtain ⟨k3, e3, _⟩ := DataW.trod_int Tryz.underlying3 g3
      cases e0; cases e1; cases e2; cases e3
      exact ⟨⟨k0, k1, s, k3⟩, rfl, hs⟩

set_option maxRecDepth 100000 in
theorem open_atoms {n : Nat} {v : Value} {x : DataW H × List MemPlace} (h : DataW.trod enc Tryz.prog W 0 (fun _ => true) true n 36 [v] = some x) :
    ∃ l, AtomsV W v l ∧ l.length ≤ maxLen ∧ ∀ d ∈ l, d.text.size ≤ maxLen := by
  rcases Deep.open_slice Tryz.underlying36 h with ⟨hc, _⟩ | ⟨a, len, cap, m, k, D, Pl, hc, _, hlc, hcm, hm, _, hx⟩
  · cases hc
    exact ⟨[], .inl ⟨none, 0, rfl, rfl⟩, by simp, fun d hd => by cases hd⟩
  · cases hc
    have hm2 : m = cap := by simpa using hm
    rw [cellsAt] at hx
    have each : ∀ i, i < len → ∃ d : At, (∀ j, j < 4 → W.cell? ((a.add (i * 4)).add j) = d.cells[j]?) ∧ d.text.size ≤ maxLen := by
      intro i hi
      obtain ⟨cs, h1, h2⟩ := hx i (by omega)
      obtain ⟨d, rfl, hs⟩ := one_atom h2
      exact ⟨d, (World.cells?_some h1).2.2, hs⟩
    haveI : Inhabited At := ⟨⟨0, 0, ⟨#[]⟩, 0⟩⟩
    haveI : Inhabited Td := ⟨⟨⟨#[]⟩, []⟩⟩
    obtain ⟨f, hf⟩ := Deep.choose_lt each
    have hlen : ((List.range len).map f).length = len := by simp
    refine ⟨(List.range len).map f, ?_, by rw [hlen]; omega, fun d hd => ?_⟩
    · by_cases h0 : len = 0
      · subst h0; exact .inl ⟨_, _, rfl, rfl⟩
      · have hc0 := (hf 0 (by omega)).1 0 (by omega)
        rw [Deep.add_add, Nat.zero_mul, Nat.zero_add] at hc0
        obtain ⟨b, o, s⟩ := a
        have hs : s = none := by
          cases s with
          | none => rfl
          | some q =>
            simp only [Addr.add, if_true, World.cell?, At.cells] at hc0
            split at hc0 <;> simp at hc0
        subst hs
        refine .inr ⟨b, o, cap, by rw [hlen], ⟨?_, fun i hi => ?_⟩, by rw [hlen]; omega⟩
        · exact World.block_lt_of_cell? W ⟨b, o, none⟩ (show W.cell? ⟨b, o, none⟩ = some (.int .i64 (f 0).kind) from by simpa [Addr.add, At.cells] using hc0)
        · have hi2 : i < len := by rwa [hlen] at hi
          have q := (hf i hi2).1
          have e : ((List.range len).map f)[i] = f i := by simp
          rw [e]
          have q0 := q 0 (by omega)
          have q1 := q 1 (by omega)
          have q2 := q 2 (by omega)
          have q3 := q 3 (by omega)
          rw [Deep.add_add, Vl.add_plain] at q0 q1 q2 q3
          simp only [Nat.add_zero, ← Nat.add_assoc] at q0 q1 q2 q3
          exact ⟨q0, q1, q2, q3⟩
    · obtain ⟨i, hi, rfl⟩ := List.mem_map.1 hd
      exact (hf i (List.mem_range.1 hi)).2

set_option maxRecDepth 100000 in
theorem one_told {n : Nat} {cs : List Value} {x : DataW H × List MemPlace} (h : DataW.trod enc Tryz.prog W 0 (fun _ => true) true n 40 cs = some x) :
    ∃ (d : Td) (v : Value), cs = [.string d.fr, v] ∧ AtomsV W v d.at_ ∧ d.Small := by
  obtain ⟨xs, m, _, _, hl, hxl, hf⟩ := DataW.trod_struct Tryz.underlying40 h
  rw [cellsTd] at hl
  match cs, hl with
  | [c0, c1], _ =>
    match xs, hxl with
    | [y0, y1], _ =>
      have g0 := hf 0 _ rfl
      have g1 := hf 1 _ rfl
      simp [cellsStr, cellsTr] at g0 g1
      obtain ⟨s, e0, _, hs⟩ := DataW.trod_string Tryz.underlying9 g0
      obtain ⟨zs, m2, _, _, hl2, hzl, hf2⟩ := DataW.trod_struct Tryz.underlying38 g1
      match zs, hzl with
      | [z0], _ =>
        have k0 := hf2 0 _ rfl
        simp [cellsSl] at k0
        obtain ⟨l, hN, hll, hx⟩ := open_atoms k0
        cases e0
        unfold maxLen at hs hll hx
        exact ⟨⟨s, l⟩, c1, rfl, hN, hs, hll, hx⟩
set_option maxRecDepth 100000 in
theorem open_tolds {n : Nat} {v : Value} {x : DataW H × List MemPlace} (h : DataW.trod enc Tryz.prog W 0 (fun _ => true) true n 22 [v] = some x) :
    ∃ l, TdsV W v l ∧ l.length ≤ maxLen ∧ ∀ d ∈ l, d.Small := by
  rcases Deep.open_slice Tryz.underlying22 h with ⟨hc, _⟩ | ⟨a, len, cap, m, k, D, Pl, hc, _, hlc, hcm, hm, _, hx⟩
  · cases hc
    exact ⟨[], .inl ⟨none, 0, rfl, rfl⟩, by simp, fun d hd => by cases hd⟩
  · cases hc
    have hm2 : m = cap := by simpa using hm
    rw [cellsTd] at hx
    have each : ∀ i, i < len → ∃ d : Td, (∃ v, (∀ j, j < 2 → W.cell? ((a.add (i * 2)).add j) = [Value.string d.fr, v][j]?) ∧ AtomsV W v d.at_) ∧ d.Small := by
      intro i hi
      obtain ⟨cs, h1, h2⟩ := hx i (by omega)
      obtain ⟨d, v, rfl, h3, hs⟩ := one_told h2
      exact ⟨d, ⟨v, (World.cells?_some h1).2.2, h3⟩, hs⟩
    haveI : Inhabited At := ⟨⟨0, 0, ⟨#[]⟩, 0⟩⟩
    haveI : Inhabited Td := ⟨⟨⟨#[]⟩, []⟩⟩
    obtain ⟨f, hf⟩ := Deep.choose_lt each
    have hlen : ((List.range len).map f).length = len := by simp
    refine ⟨(List.range len).map f, ?_, by rw [hlen]; omega, fun d hd => ?_⟩
    · by_cases h0 : len = 0
      · subst h0; exact .inl ⟨_, _, rfl, rfl⟩
      · obtain ⟨v0, hc00, _⟩ := (hf 0 (by omega)).1
        have hc0 := hc00 0 (by omega)
        rw [Deep.add_add, Nat.zero_mul, Nat.zero_add] at hc0
        obtain ⟨b, o, s⟩ := a
        have hs : s = none := by
          cases s with
          | none => rfl
          | some q =>
            simp only [Addr.add, if_true, World.cell?] at hc0
            split at hc0 <;> simp at hc0
        subst hs
        refine .inr ⟨b, o, cap, by rw [hlen], ?_, fun i hi => ?_⟩
        · exact World.block_lt_of_cell? W ⟨b, o, none⟩ (show W.cell? ⟨b, o, none⟩ = some (.string (f 0).fr) from by simpa [Addr.add] using hc0)
        · have hi2 : i < len := by rwa [hlen] at hi
          obtain ⟨v, q, h3⟩ := (hf i hi2).1
          have e : ((List.range len).map f)[i] = f i := by simp
          rw [e]
          have q0 := q 0 (by omega)
          have q1 := q 1 (by omega)
          rw [Deep.add_add, Vl.add_plain] at q0 q1
          simp only [Nat.add_zero, ← Nat.add_assoc] at q0 q1
          exact ⟨v, q0, q1, h3⟩
    · obtain ⟨i, hi, rfl⟩ := List.mem_map.1 hd
      exact (hf i (List.mem_range.1 hi)).2
theorem open_told {v0 : Value} {d0 : DataW H} {p : List MemPlace} (hv : v0.cells = #[v0]) (h0 : DataW.Trod enc Tryz.prog W 0 (fun _ => true) true 22 v0 d0 p) :
    ∃ l, TdsV W v0 l ∧ l.length ≤ 9223372036854775807 ∧ ∀ d ∈ l, d.Small := by
  obtain ⟨fuel, hf⟩ := h0
  rw [hv] at hf
  obtain ⟨l, hF, hl, hx⟩ := open_tolds hf
  unfold maxLen at hl
  exact ⟨l, hF, hl, hx⟩
end
theorem et : Tryz.prog.globalNamed "errors.errorType" = some 0 := by kernel_rfl
theorem rtF : (Tryz.prog.cutTypes.find? (·.1 == "internal/reflectlite.rtype")).map (·.2) = some 128 := by kernel_rfl
theorem oneRow : ((List.range 241).filter fun t => Tryz.prog.rowNamed t [101, 114, 114, 111, 114]) = [57] := by kernel_rfl
theorem tsize : Tryz.prog.types.size = 241 := by kernel_rfl
/-- What the condition gives a walk: the variable's one cell. -/
theorem handle_of_laid {W : World} (h : laidMetH Tryz.prog Rows.fnExactTargetsRow.laid W) : ErrT W := by
  have h' : laidMet Tryz.prog [] W ∧ handlesMet Tryz.prog Rows.fnExactTargetsRow.laid W := h
  obtain ⟨name, u, ty, e1, e2, e3, e4, e5⟩ := h'.2 _ (List.mem_singleton.2 rfl)
  have en : name = [101, 114, 114, 111, 114] := (Option.some.inj e1).symm
  subst en
  obtain rfl := Option.some.inj (rtF.symm.trans e2)
  have hm : ty ∈ (List.range 241).filter fun t => Tryz.prog.rowNamed t [101, 114, 114, 111, 114] := List.mem_filter.2 ⟨List.mem_range.2 (by rw [← tsize]; exact e3), e4⟩
  rw [oneRow] at hm
  obtain rfl := List.mem_singleton.1 hm
  have hh : typeHandle Tryz.prog 57 = .pointer (some ⟨2, 57, none⟩) := by kernel_rfl
  rw [hh] at e5
  unfold ErrT
  simpa using World.var?_cell et e5 0
theorem door_metT (os : Os) (args : Array Value) : laidMetH Tryz.prog Rows.fnExactTargetsRow.laid ((World.doorLaid Tryz.prog 400 os).forCall (fun _ _ => 0) ⟨#[], args, []⟩).memory :=
  laidMetH_of_parts (laidMet_nil _ _) (by kernel_rfl)

set_option maxRecDepth 100000 in
set_option maxHeartbeats 1000000 in
theorem liftedT (os : Os) (started : os.Started) (H : Type) (enc : TypeId × Value → H) :
    ReturnsInHanded {} Tryz.checked os 3 .any (fun w args => (Rows.fnExactTargetsSpec.pre enc Tryz.prog Tryz.f3 [] false w args ∧ laidMetH Tryz.prog Rows.fnExactTargetsRow.laid w) ∧ sizedMet enc Tryz.prog Tryz.f3 (OpenSpec.ofChange Rows.fnExactTargetsSpec) false w args)
      (Rows.fnExactTargetsSpec.post enc Tryz.prog Tryz.f3 false true false false) := by
  refine returnsInHanded_of_change_and (C := Tryz.checked) (X := fun w _ => laidMetH Tryz.prog Rows.fnExactTargetsRow.laid w) (fun _ _ _ hh h => h.of_heap hh) own started (by kernel_rfl) Tryz.func3
    (ChangeSpec.witness_shaped (enc := enc) (C := Tryz.checked) (os := os) (X := fun w _ => laidMetH Tryz.prog Rows.fnExactTargetsRow.laid w) false (World.doorLaid Tryz.prog 400 os) #[.slice none 0 0] 8 rfl (World.shaped_of_RefB (by kernel_rfl) (by kernel_rfl)) (by kernel_rfl) (by kernel_rfl) (by kernel_rfl) (door_metT os _)) ?_
  intro W base args ds gs before hval0 hW _ _ hL _
  have hval : ∀ (j : Nat) t v, Tryz.f3.params[j]? = some t → args[j]? = some v → Value.okWide Tryz.prog W .any base t v := hval0
  have hW' := hW
  obtain ⟨p, q, hA0, hV, rfl, hfz, hnd⟩ := hW
  have hA : DataW.TrodAll enc Tryz.prog W 0 (fun _ => true) true Tryz.f3.params.toList args.toList ds p := hA0
  rw [Tryz.params3] at hA hval
  obtain ⟨v0, d0, rfl, rfl, h0⟩ := trodAll_one hA
  obtain ⟨rfl, rfl⟩ := trodVars_none hV
  have h0k := h0
  have hlt : ∀ x ∈ p, x.block < W.heap.size := fun x hx => by simpa using hW'.lt x (by simp [hx])
  obtain ⟨a0, l0, c0, rfl⟩ := okWide_slice Tryz.underlying22 (hval 0 22 v0 rfl rfl)
  obtain ⟨l, hF, hl, hx⟩ := open_told rfl h0
  have hG := handle_of_laid hL
  clear hA0 hval0 hL
  refine (lawT_any l _ W hl hx hF hG).mono fun e W' ⟨he, hb⟩ => ?_
  subst he
  exact ⟨_, rfl, [d0], [], _, [], p, [], hW', trodAll_mk1 (shut_bool Tryz.underlying4 _), trodAll_mk1 (Below.trod laidOut (by kernel_rfl) (of_decide_eq_true (by kernel_rfl)) h0k hb hlt), rfl, hb.frame _, fun h => by cases h⟩

theorem saidT : Rows.FnExactTargetsSaid :=
  OpenClaim.holds_of_wide 3 Tryz.f3 rfl rfl rfl rfl rfl rfl rfl ⟨rfl, rfl, rfl, rfl, rfl⟩ rfl rfl rfl rfl rfl (by kernel_rfl) Tryz.func3 (by kernel_rfl)
    (of_decide_eq_true (by kernel_rfl)) (by unfold Func.isWrapper; first | (rw [if_pos (by decide +kernel)]; kernel_rfl) | (rw [if_neg (by decide +kernel)]; exact ⟨rfl, rfl⟩))
    (fun os started H enc _ => liftedT os started H enc)
theorem plainT (f : FuncId) (fn : Func) (hf : Tryz.pinned.checked.prog.funcNamed Rows.fnExactTargetsRow.func = some f) (hfn : Tryz.pinned.checked.prog.funcs[f]? = some fn) :
    true = Tryz.pinned.checked.prog.looks [] ∧ ∀ (j : Nat) t, fn.params[j]? = some t → Tryz.pinned.checked.prog.wantsStandIn t = false := by
  obtain rfl : f = 3 := Option.some.inj ((show Tryz.prog.funcNamed Rows.fnExactTargetsRow.func = some 3 by kernel_rfl).symm.trans hf) |>.symm
  obtain rfl : fn = Tryz.f3 := (Option.some.inj (Tryz.func3.symm.trans hfn)).symm
  refine ⟨by kernel_rfl, fun j t ht => ?_⟩
  rw [Tryz.params3] at ht
  obtain rfl : t = 22 := by simpa using Array.mem_of_getElem? ht
  exact (show Tryz.prog.wantsStandIn 22 = false by kernel_rfl)
theorem cardT : Rows.FnExactTargetsCardSaid :=
  Claim7.holds_tied_plain_at .later [] _ _ _ _ saidT (fun _ h => by cases h) (by kernel_rfl) (fun _ h => by cases h) fnExactTargets_row_tie rfl ⟨rfl, rfl⟩ (by kernel_rfl) rfl plainT (by kernel_rfl)
#print axioms cardT
end Go.Proofs.YtmpjdooepdicoaaGreatDoor
