/- The statement of FnOrder: its row. -/
import Derived.Test.YtfpdoafpimaoaaaRows
import Derived.Test.YtfpdoafpimaoaaaDo
import Derived.Test.YtfpdoafpimaoaaaDm
import Derived.Deep.Slices
import Derived.ProofKit
import Derived.OpenShut
namespace Go.Proofs.Ytfpdoafpimaoaaa
open Vl
open Go.ChangeShapes Go.WideShapes Go.ChangeAt Go.RowKit

theorem own : ownKnob Try.prog.godebug = none := by kernel_rfl
theorem laidOut : laidOutB Try.prog = true := by kernel_rfl
theorem cellsByte : Try.prog.cellsOf 5 = 1 := by kernel_rfl

section
variable {H : Type} {enc : TypeId × Value → H} {W : World} {sp : Nat → Bool}

set_option maxRecDepth 100000 in
theorem open_bytes {n : Nat} {v : Value} {x : DataW H × List MemPlace} (h : DataW.trod enc Try.prog W 0 (fun _ => true) true n 22 [v] = some x) :
    ∃ m, ByV W v m := by
  rcases Deep.open_slice1 Try.underlying22 cellsByte h with ⟨hc, _⟩ | ⟨a, len, cap, m, k, V, D, Pl, hc, _, hlc, hcm, hm, _, hx⟩
  · cases hc
    exact ⟨0, .inl ⟨none, 0, rfl, rfl⟩⟩
  · cases hc
    have hm2 : m = cap := by simpa using hm
    by_cases h0 : len = 0
    · subst h0; exact ⟨0, .inl ⟨_, _, rfl, rfl⟩⟩
    · have each : ∀ i, i < len → ∃ b : Nat, b < 256 ∧ W.cell? (a.add i) = some (.int .u8 (b : Int)) := by
        intro i hi
        obtain ⟨h1, h2⟩ := hx i (by omega)
        obtain ⟨z, e, _, hw⟩ := DataW.trod_int Try.underlying5 h2
        have e2 : V i = .int .u8 z := by simpa using e
        simp [Lit.wf] at hw
        have q1 : (0 : Int) ≤ z := hw.1
        have q2 : z ≤ 255 := hw.2
        exact ⟨z.toNat, by omega, by rw [h1, e2, Int.toNat_of_nonneg q1]⟩
      obtain ⟨b0, _, hc0⟩ := each 0 (by omega)
      obtain ⟨b, o, s⟩ := a
      have hs : s = none := by
        cases s with
        | none => rfl
        | some q =>
          simp only [Addr.add, World.cell?] at hc0
          split at hc0 <;> simp at hc0
      subst hs
      refine ⟨len, .inr ⟨b, o, cap, rfl, by omega, by omega, ?_, fun i hi => ?_⟩⟩
      · exact World.block_lt_of_cell? W ⟨b, o, none⟩ (show W.cell? ⟨b, o, none⟩ = some (.int .u8 (b0 : Int)) from by simpa [Addr.add] using hc0)
      · obtain ⟨k, hk, hc⟩ := each i hi
        rw [Vl.add_plain] at hc
        exact ⟨k, hk, hc⟩
theorem open_byteArg {v0 : Value} {d0 : DataW H} {p : List MemPlace} (hv : v0.cells = #[v0]) (h0 : DataW.Trod enc Try.prog W 0 (fun _ => true) true 22 v0 d0 p) :
    ∃ m, ByV W v0 m := by
  obtain ⟨fuel, hf⟩ := h0
  rw [hv] at hf
  exact open_bytes hf
end

set_option maxRecDepth 100000 in
set_option maxHeartbeats 1000000 in
theorem liftedF (os : Os) (started : os.Started) (H : Type) (enc : TypeId × Value → H) :
    ReturnsInHanded {} Try.checked os 3 .any (Rows.fnOrderSpec.pre6 enc Try.prog Try.f3 Rows.fnOrderRow.domain false)
      (Rows.fnOrderSpec.post enc Try.prog Try.f3 false true false false) := by
  refine returnsInHanded_of_change (C := Try.checked) own started (by kernel_rfl) Try.func3
    (ChangeSpec.witness6 (enc := enc) (C := Try.checked) false ⟨#[], #[.slice none 0 0, .slice none 0 0], []⟩ 8 (by kernel_rfl) (by kernel_rfl) (by kernel_rfl) (by kernel_rfl)) ?_
  intro W base args ds gs before hval0 hW _ _
  have hval : ∀ (j : Nat) t v, Try.f3.params[j]? = some t → args[j]? = some v → Value.okWide Try.prog W .any base t v := hval0
  have hW' := hW
  obtain ⟨p, q, hA0, hV, rfl, hfz, hnd⟩ := hW
  have hA : DataW.TrodAll enc Try.prog W 0 (fun _ => true) true Try.f3.params.toList args.toList ds p := hA0
  rw [Try.params3] at hA hval
  obtain ⟨v0, v1, d0, d1, p0, p1, rfl, rfl, rfl, h0, h1⟩ := trodAll_two hA
  obtain ⟨rfl, rfl⟩ := trodVars_none hV
  have h0k := h0
  have h1k := h1
  have hlt0 : ∀ x ∈ p0, x.block < W.heap.size := fun x hx => by simpa using hW'.lt x (by simp [hx])
  have hlt1 : ∀ x ∈ p1, x.block < W.heap.size := fun x hx => by simpa using hW'.lt x (by simp [hx])
  obtain ⟨a0, l0, c0, rfl⟩ := okWide_slice Try.underlying22 (hval 0 22 v0 rfl rfl)
  obtain ⟨a1, l1, c1, rfl⟩ := okWide_slice Try.underlying22 (hval 1 22 v1 rfl rfl)
  obtain ⟨n, hN⟩ := open_byteArg rfl h0
  obtain ⟨n', hN'⟩ := open_byteArg rfl h1
  clear hA0 hval0
  refine (lawFO_any (fun n v w h => drawOrder_any n v w h) n n' _ _ W hN hN').mono fun e W' ⟨he, hb⟩ => ?_
  subst he
  exact ⟨_, rfl, [d0, d1], [], _, [], p0 ++ p1, [], hW', trodAll_mk1 (shut_bool Try.underlying4 _), trodAll_mk2 (Below.trod laidOut (by kernel_rfl) (of_decide_eq_true (by kernel_rfl)) h0k hb hlt0) (Below.trod laidOut (by kernel_rfl) (of_decide_eq_true (by kernel_rfl)) h1k hb hlt1), rfl, hb.frame _, fun h => by cases h⟩

theorem saidF : Rows.FnOrderSaid :=
  OpenClaim.holds_of_wide 3 Try.f3 rfl rfl rfl rfl rfl rfl rfl ⟨rfl, rfl, rfl, rfl, rfl⟩ rfl rfl rfl rfl rfl (by kernel_rfl) Try.func3 (by kernel_rfl)
    (of_decide_eq_true (by kernel_rfl)) (by unfold Func.isWrapper; first | (rw [if_pos (by decide +kernel)]; kernel_rfl) | (rw [if_neg (by decide +kernel)]; exact ⟨rfl, rfl⟩))
    (fun os started H enc _ => liftedF os started H enc)
#print axioms saidF
end Go.Proofs.Ytfpdoafpimaoaaa
