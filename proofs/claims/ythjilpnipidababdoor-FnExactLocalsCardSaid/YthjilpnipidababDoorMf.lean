/- The keys of a set of places. -/
import Derived.Test.YthjilpnipidababDoorMe
import Derived.Lib.SlKeysI
namespace Go.Proofs.YthjilpnipidababDoor
open Go.RowKit

theorem Tr.put_keys (es : List (Lit × DataW Unit)) (x : Int) (h : ∀ p ∈ es, ∃ y, p.1 = Lit.int .i64 y) : ∃ es', (DataW.map es).put (.int .i64 x) (.agg []) = .map es' ∧ ∀ p ∈ es', ∃ y, p.1 = Lit.int .i64 y := by
  refine ⟨_, rfl, fun p hp => ?_⟩
  have hp2 := (WideShapes.insert_perm _ _).subset hp
  rcases List.mem_cons.1 hp2 with rfl | hp3
  · exact ⟨x, rfl⟩
  · exact h p (List.mem_filter.1 hp3).1
theorem Tr.set_keys (L : List Nat) : ∃ es, Maps.setOf (H := Unit) (.agg []) (Tr.keysI L) = .map es ∧ ∀ p ∈ es, ∃ y, p.1 = Lit.int .i64 y := by
  have : ∀ (xs : List Lit) (es : List (Lit × DataW Unit)), (∀ x ∈ xs, ∃ y, x = Lit.int .i64 y) → (∀ p ∈ es, ∃ y, p.1 = Lit.int .i64 y) → ∃ es', xs.foldl (fun m x => m.put x (.agg [])) (DataW.map es) = .map es' ∧ ∀ p ∈ es', ∃ y, p.1 = Lit.int .i64 y := by
    intro xs
    induction xs with
    | nil => intro es _ h; exact ⟨es, rfl, h⟩
    | cons x r ih =>
      intro es hx h
      obtain ⟨y, rfl⟩ := hx x (by simp)
      obtain ⟨es', e, h'⟩ := Tr.put_keys es y h
      rw [List.foldl_cons, e]
      exact ih es' (fun z hz => hx z (by simp [hz])) h'
  exact this (Tr.keysI L) [] (fun x hx => by simp only [Tr.keysI, List.mem_map] at hx; obtain ⟨y, _, rfl⟩ := hx; exact ⟨_, rfl⟩) (fun p hp => by cases hp)
theorem Tr.perm_locals {L : List Nat} (hL : L.Pairwise (· < ·)) : (L.map fun (k : Nat) => (k : Int)).Perm (intKeys (Maps.setOf (H := Unit) (.agg []) (Tr.keysI L))) := by
  obtain ⟨es, he, hk⟩ := Tr.set_keys L
  have ht := Maps.tidy_setOf (H := Unit) (.agg []) (Tr.keysI L) (Tr.keysI_ok L)
  have hh := fun x : Int => Maps.has_setOf (H := Unit) (.agg []) (.int .i64 x) (Tr.keysI L) (Tr.keysI_ok L)
  rw [he] at ht ⊢
  obtain ⟨es', e', hp⟩ := ht
  cases e'
  refine perm_intKeys hp hk ?_ fun x => ?_
  · rw [List.nodup_iff_pairwise_ne, List.pairwise_map]
    exact hL.imp fun h => by omega
  · rw [← he, hh x, List.any_eq_true]
    simp only [List.mem_map, Tr.keysI]
    constructor
    · rintro ⟨k, hk, rfl⟩
      exact ⟨_, ⟨k, hk, rfl⟩, WideAt.sameKey_self trivial⟩
    · rintro ⟨_, ⟨k, hk, rfl⟩, hs⟩
      refine ⟨k, hk, ?_⟩
      by_cases e : (k : Int) = x
      · exact e
      · rw [Maps.sameKey_ne (fun h => e (by injection h))] at hs; cases hs
theorem Tr.sorted_locals {L : List Nat} (hL : L.Pairwise (· < ·)) {ss : List Int} (hp : ss.Perm (intKeys (Maps.setOf (H := Unit) (.agg []) (Tr.keysI L)))) : ss.mergeSort (fun x y => decide (x ≤ y)) = L.map fun (k : Nat) => (k : Int) :=
  Tr.sortI_eq hL (hp.trans (Tr.perm_locals hL).symm)
end Go.Proofs.YthjilpnipidababDoor
