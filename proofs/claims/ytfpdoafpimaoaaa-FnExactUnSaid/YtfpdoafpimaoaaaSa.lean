/- Walks: leaves, kinds and words, on the specification's side. -/
import Derived.Test.YtfpdoafpimaoaaaUb
import Derived.Test.YtfpdoafpimaoaaaQo
namespace Go.Proofs.Ytfpdoafpimaoaaa.Vl
open Go.RowKit T.atoms T.ok T.high T.good T.allPlain

set_option maxHeartbeats 400000 in
theorem no6_any (s : ByteArray) (w : World) : Calls Try.prog 33 #[.string s] w fun e w' => e = .returned (.tuple #[.agg #[.slice none 0 0], .string s]) ∧ Below w.heap.size w w' := by
  go_enter Try.func33, Try.ntmps33
  go_wp2
  refine bodyPost_ret (v := .tuple #[.agg #[.slice none 0 0], .string s]) (by simp [results, Try.results33, go_sem]) rfl ⟨rfl, ?_⟩
  exact (Below.refl _ _).alloc (Nat.le_refl _) _

set_option maxHeartbeats 400000 in
theorem kind6_any (a : At) (l : List At) (g o c m : Nat) (w : World) (hm : l.length = m + 1) (hn : m < 1048576) (ha : l[m]? = some a) (ht : AtomsO w g o l) :
    Calls Try.prog 22 #[.agg #[.slice (some ⟨g, o, none⟩) (m + 1) c]] w fun e w' => e = .returned (.int .i64 a.kind) ∧ Below w.heap.size w w' := by
  have HL := hide (fun w' (hb : Below w.heap.size w w') => last_any a l g o c m w' hm hn ha (ht.below hb))
  clear ht hm hn ha
  go_enter Try.func22, Try.ntmps22
  go_wp2_with fail
  have hq : Below w.heap.size w (w.alloc (.cells #[.slice (some ⟨g, o, none⟩) (m + 1) c] 25)) := (Below.refl _ _).alloc (Nat.le_refl _) _
  refine (HL.out _ hq).mono ?_
  rintro e w1 ⟨rfl, hb1⟩
  have HF := fun w => fld0 a.kind a.n a.kids a.text w
  go_wp2
  go_ret
  exact ⟨rfl, hq.trans (hb1.mono hq.size)⟩

theorem atoms_new (X : World) (a : At) (t : TypeId) : AtomsO (X.alloc (.cells #[.int .i64 a.kind, .int .i64 a.n, .string a.text, .int .i64 a.kids] t)) X.heap.size 0 [a] := by
  refine ⟨by simp, fun i hi => ?_⟩
  obtain rfl : i = 0 := by simp at hi; omega
  simp
set_option maxHeartbeats 400000 in
theorem one5_any (a : At) (w : World) : Calls Try.prog 56 #[.agg #[.int .i64 a.kind, .int .i64 a.n, .string a.text, .int .i64 a.kids]] w fun e w' => ∃ g, w.heap.size ≤ g ∧ e = .returned (.agg #[.slice (some ⟨g, 0, none⟩) 1 1]) ∧ AtomsO w' g 0 [a] ∧ Below w.heap.size w w' := by
  go_enter Try.func56, Try.ntmps56
  go_wp2
  refine bodyPost_ret (v := .agg #[.slice (some ⟨w.heap.size + 1 + 1, 0, none⟩) 1 1]) (by simp [results, Try.results56, go_sem]) rfl ⟨_, by omega, rfl, ?_, ?_⟩
  · have h := atoms_new (((w.alloc (.cells #[.int .i64 a.kind, .int .i64 a.n, .string a.text, .int .i64 a.kids] 55)).alloc (.cells #[.slice (some ⟨w.heap.size + 1 + 1, 0, none⟩) 1 1] 25))) a 55
    simp only [World.size_alloc] at h
    exact h
  · exact (((Below.refl _ _).alloc (Nat.le_refl _) _).alloc (by simp) _).alloc (by simp; omega) _
theorem atomsO_set {w : World} {g o : Nat} {l : List At} (h : AtomsO w g o l) (a : Addr) (hg : a.block ≠ g) (v : Value) : AtomsO (w.setCell a v) g o l := by
  refine ⟨by simpa using h.1, fun i hi => ?_⟩
  obtain ⟨c0, c1, c2, c3⟩ := h.2 i hi
  have e : ∀ j, (w.setCell a v).cell? ⟨g, j, none⟩ = w.cell? ⟨g, j, none⟩ := fun j => World.cell?_of_block (a := ⟨g, j, none⟩) (Below.heap_setCell _ _ _ _ (fun q => hg q.symm))
  exact ⟨(e _).trans c0, (e _).trans c1, (e _).trans c2, (e _).trans c3⟩
set_option maxHeartbeats 400000 in
theorem int5_any (n : Int) (w : World) : Calls Try.prog 34 #[.int .i64 n] w fun e w' => ∃ g, w.heap.size ≤ g ∧ e = .returned (.agg #[.slice (some ⟨g, 0, none⟩) 1 1]) ∧ AtomsO w' g 0 [⟨3, n, ⟨#[]⟩, 0⟩] ∧ Below w.heap.size w w' := by
  have HO := hide (fun w => one5_any ⟨3, n, ⟨#[]⟩, 0⟩ w)
  go_enter Try.func34, Try.ntmps34
  go_wp2_with fail
  have hq : Below w.heap.size w (w.alloc (.cells #[.slice none 0 0] 25)) := (Below.refl _ _).alloc (Nat.le_refl _) _
  refine (HO.out _).mono ?_
  rintro e w1 ⟨g, hg, rfl, ha, hb1⟩
  simp only [World.size_alloc] at hg
  have hn := cell_new w (.slice none 0 0) 25
  have hx : w1.cell? ⟨w.heap.size, 0, none⟩ = some (.slice none 0 0) := (hb1.cell (p := ⟨w.heap.size, 0, none⟩) (by simp)).trans hn.1
  have fx : w1.frozen? ⟨w.heap.size, 0, none⟩ = false := (hb1.frozen (p := ⟨w.heap.size, 0, none⟩) (by simp)).trans hn.2
  have hB := hq.trans (hb1.mono hq.size)
  clear hb1 hq hn
  go_wp2
  refine bodyPost_ret (v := .agg #[.slice (some ⟨g, 0, none⟩) 1 1]) (by simp [results, Try.results34, go_sem, hx]) rfl ⟨g, by omega, rfl, atomsO_set ha _ (by simp; omega) _, hB.setCell (p := ⟨w.heap.size, 0, none⟩) (Nat.le_refl _) _⟩
set_option maxHeartbeats 400000 in
theorem bool5_any (b : Bool) (w : World) : Calls Try.prog 31 #[.bool b] w fun e w' => ∃ g, w.heap.size ≤ g ∧ e = .returned (.agg #[.slice (some ⟨g, 0, none⟩) 1 1]) ∧ AtomsO w' g 0 [⟨2, if b then 1 else 0, ⟨#[]⟩, 0⟩] ∧ Below w.heap.size w w' := by
  have HO := hide (fun z w => one5_any ⟨2, z, ⟨#[]⟩, 0⟩ w)
  cases b
  · go_enter Try.func31, Try.ntmps31
    go_wp2_with fail
    have hq : Below w.heap.size w (w.alloc (.cells #[.slice none 0 0] 25)) := (Below.refl _ _).alloc (Nat.le_refl _) _
    refine (HO.out 0 _).mono ?_
    rintro e w1 ⟨g, hg, rfl, ha, hb1⟩
    simp only [World.size_alloc] at hg
    have hn := cell_new w (.slice none 0 0) 25
    have hx : w1.cell? ⟨w.heap.size, 0, none⟩ = some (.slice none 0 0) := (hb1.cell (p := ⟨w.heap.size, 0, none⟩) (by simp)).trans hn.1
    have fx : w1.frozen? ⟨w.heap.size, 0, none⟩ = false := (hb1.frozen (p := ⟨w.heap.size, 0, none⟩) (by simp)).trans hn.2
    have hB := hq.trans (hb1.mono hq.size)
    clear hb1 hq hn
    go_wp2
    refine bodyPost_ret (v := .agg #[.slice (some ⟨g, 0, none⟩) 1 1]) (by simp [results, Try.results31, go_sem, hx]) rfl ⟨g, by omega, rfl, atomsO_set ha _ (by simp; omega) _, hB.setCell (p := ⟨w.heap.size, 0, none⟩) (Nat.le_refl _) _⟩
  · go_enter Try.func31, Try.ntmps31
    go_wp2_with fail
    have hq : Below w.heap.size w (w.alloc (.cells #[.slice none 0 0] 25)) := (Below.refl _ _).alloc (Nat.le_refl _) _
    refine (HO.out 1 _).mono ?_
    rintro e w1 ⟨g, hg, rfl, ha, hb1⟩
    simp only [World.size_alloc] at hg
    have hn := cell_new w (.slice none 0 0) 25
    have hx : w1.cell? ⟨w.heap.size, 0, none⟩ = some (.slice none 0 0) := (hb1.cell (p := ⟨w.heap.size, 0, none⟩) (by simp)).trans hn.1
    have fx : w1.frozen? ⟨w.heap.size, 0, none⟩ = false := (hb1.frozen (p := ⟨w.heap.size, 0, none⟩) (by simp)).trans hn.2
    have hB := hq.trans (hb1.mono hq.size)
    clear hb1 hq hn
    go_wp2
    refine bodyPost_ret (v := .agg #[.slice (some ⟨g, 0, none⟩) 1 1]) (by simp [results, Try.results31, go_sem, hx]) rfl ⟨g, by omega, rfl, atomsO_set ha _ (by simp; omega) _, hB.setCell (p := ⟨w.heap.size, 0, none⟩) (Nat.le_refl _) _⟩
end Go.Proofs.Ytfpdoafpimaoaaa.Vl
