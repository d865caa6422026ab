/- Joined: Dz, Lc. -/
import Derived.Test.YtnkfbjcgkdblgaaGreatG11
import Derived.Test.YtnkfbjcgkdblgaaGreatG20
namespace Go.Proofs.YtnkfbjcgkdblgaaGreat.Vl
open Go.RowKit T.atoms T.ok T.high T.good T.allPlain

theorem row_sameZ {w w' : World} {base size : Nat} {e : TypeId} {g n cap : Nat} {xs : List Value} (h : w.ownsRow base e size (.slice (some ⟨g, 0, none⟩) n cap) n xs) (hb : w'.heap[g]? = w.heap[g]?) : w'.ownsRow base e size (.slice (some ⟨g, 0, none⟩) n cap) n xs := by
  refine ⟨h.1, ?_⟩
  rcases h.2 with ⟨h1, _⟩ | ⟨g', cap', cur, hv, h2, h3, h4⟩
  · cases h1
  · cases hv
    exact .inr ⟨g, cap, cur, rfl, h2, hb.trans h3, h4⟩
theorem row_belowZ {w w1 : World} {base : Nat} {e : TypeId} {size : Nat} {v : Value} {n : Nat} {xs : List Value} (h : w.ownsRow base e size v n xs) (hb : Below w.heap.size w w1) : w1.ownsRow base e size v n xs :=
  h.kept (row := none) ⟨hb.os, hb.tape, hb.output, hb.size, fun k hk _ => hb.block k hk⟩ (by
    cases e : v.ownBlock with
    | none => exact .inl rfl
    | some q => exact .inr (by simp))
theorem atoms_new (X : World) (a : At) (t : TypeId) : AtomsO (X.alloc (.cells #[.int .i64 a.kind, .int .i64 a.n, .string a.text, .int .i64 a.kids] t)) X.heap.size 0 [a] := by
  refine ⟨by simp, fun i hi => ?_⟩
  obtain rfl : i = 0 := by simp at hi; omega
  simp
set_option maxHeartbeats 400000 in
theorem one5_any (a : At) (w : World) : Calls Tryz.prog 32 #[.agg #[.int .i64 a.kind, .int .i64 a.n, .string a.text, .int .i64 a.kids]] w fun e w' => ∃ g, w.heap.size ≤ g ∧ e = .returned (.agg #[.slice (some ⟨g, 0, none⟩) 1 1]) ∧ AtomsO w' g 0 [a] ∧ Below w.heap.size w w' := by
  go_enter Tryz.func32, Tryz.ntmps32
  go_wp2
  refine bodyPost_ret (v := .agg #[.slice (some ⟨w.heap.size + 1 + 1, 0, none⟩) 1 1]) (by simp [results, Tryz.results32, go_sem]) rfl ⟨_, by omega, rfl, ?_, ?_⟩
  · have h := atoms_new (((w.alloc (.cells #[.int .i64 a.kind, .int .i64 a.n, .string a.text, .int .i64 a.kids] 44)).alloc (.cells #[.slice (some ⟨w.heap.size + 1 + 1, 0, none⟩) 1 1] 28))) a 44
    simp only [World.size_alloc] at h
    exact h
  · exact (((Below.refl _ _).alloc (Nat.le_refl _) _).alloc (by simp) _).alloc (by simp; omega) _
theorem atomsO_set {w : World} {g o : Nat} {l : List At} (h : AtomsO w g o l) (a : Addr) (hg : a.block ≠ g) (v : Value) : AtomsO (w.setCell a v) g o l := by
  refine ⟨by simpa using h.1, fun i hi => ?_⟩
  obtain ⟨c0, c1, c2, c3⟩ := h.2 i hi
  have e : ∀ j, (w.setCell a v).cell? ⟨g, j, none⟩ = w.cell? ⟨g, j, none⟩ := fun j => World.cell?_of_block (a := ⟨g, j, none⟩) (Below.heap_setCell _ _ _ _ (fun q => hg q.symm))
  exact ⟨(e _).trans c0, (e _).trans c1, (e _).trans c2, (e _).trans c3⟩
set_option maxHeartbeats 400000 in
theorem int5_any (n : Int) (w : World) : Calls Tryz.prog 35 #[.int .i64 n] w fun e w' => ∃ g, w.heap.size ≤ g ∧ e = .returned (.agg #[.slice (some ⟨g, 0, none⟩) 1 1]) ∧ AtomsO w' g 0 [⟨3, n, ⟨#[]⟩, 0⟩] ∧ Below w.heap.size w w' := by
  have HO := hide (fun w => one5_any ⟨3, n, ⟨#[]⟩, 0⟩ w)
  go_enter Tryz.func35, Tryz.ntmps35
  go_wp2_with fail
  have hq : Below w.heap.size w (w.alloc (.cells #[.slice none 0 0] 28)) := (Below.refl _ _).alloc (Nat.le_refl _) _
  refine (HO.out _).mono ?_
  rintro e w1 ⟨g, hg, rfl, ha, hb1⟩
  simp only [World.size_alloc] at hg
  have hn := cell_new w (.slice none 0 0) 28
  have hx : w1.cell? ⟨w.heap.size, 0, none⟩ = some (.slice none 0 0) := (hb1.cell (p := ⟨w.heap.size, 0, none⟩) (by simp)).trans hn.1
  have fx : w1.frozen? ⟨w.heap.size, 0, none⟩ = false := (hb1.frozen (p := ⟨w.heap.size, 0, none⟩) (by simp)).trans hn.2
  have hB := hq.trans (hb1.mono hq.size)
  clear hb1 hq hn
  go_wp2
  refine bodyPost_ret (v := .agg #[.slice (some ⟨g, 0, none⟩) 1 1]) (by simp [results, Tryz.results35, go_sem, hx]) rfl ⟨g, by omega, rfl, atomsO_set ha _ (by simp; omega) _, hB.setCell (p := ⟨w.heap.size, 0, none⟩) (Nat.le_refl _) _⟩
set_option maxHeartbeats 400000 in
theorem bool5_any (b : Bool) (w : World) : Calls Tryz.prog 17 #[.bool b] w fun e w' => ∃ g, w.heap.size ≤ g ∧ e = .returned (.agg #[.slice (some ⟨g, 0, none⟩) 1 1]) ∧ AtomsO w' g 0 [⟨2, if b then 1 else 0, ⟨#[]⟩, 0⟩] ∧ Below w.heap.size w w' := by
  have HO := hide (fun z w => one5_any ⟨2, z, ⟨#[]⟩, 0⟩ w)
  cases b
  · go_enter Tryz.func17, Tryz.ntmps17
    go_wp2_with fail
    have hq : Below w.heap.size w (w.alloc (.cells #[.slice none 0 0] 28)) := (Below.refl _ _).alloc (Nat.le_refl _) _
    refine (HO.out 0 _).mono ?_
    rintro e w1 ⟨g, hg, rfl, ha, hb1⟩
    simp only [World.size_alloc] at hg
    have hn := cell_new w (.slice none 0 0) 28
    have hx : w1.cell? ⟨w.heap.size, 0, none⟩ = some (.slice none 0 0) := (hb1.cell (p := ⟨w.heap.size, 0, none⟩) (by simp)).trans hn.1
    have fx : w1.frozen? ⟨w.heap.size, 0, none⟩ = false := (hb1.frozen (p := ⟨w.heap.size, 0, none⟩) (by simp)).trans hn.2
    have hB := hq.trans (hb1.mono hq.size)
    clear hb1 hq hn
    go_wp2
    refine bodyPost_ret (v := .agg #[.slice (some ⟨g, 0, none⟩) 1 1]) (by simp [results, Tryz.results17, go_sem, hx]) rfl ⟨g, by omega, rfl, atomsO_set ha _ (by simp; omega) _, hB.setCell (p := ⟨w.heap.size, 0, none⟩) (Nat.le_refl _) _⟩
  · go_enter Tryz.func17, Tryz.ntmps17
    go_wp2_with fail
    have hq : Below w.heap.size w (w.alloc (.cells #[.slice none 0 0] 28)) := (Below.refl _ _).alloc (Nat.le_refl _) _
    refine (HO.out 1 _).mono ?_
    rintro e w1 ⟨g, hg, rfl, ha, hb1⟩
    simp only [World.size_alloc] at hg
    have hn := cell_new w (.slice none 0 0) 28
    have hx : w1.cell? ⟨w.heap.size, 0, none⟩ = some (.slice none 0 0) := (hb1.cell (p := ⟨w.heap.size, 0, none⟩) (by simp)).trans hn.1
    have fx : w1.frozen? ⟨w.heap.size, 0, none⟩ = false := (hb1.frozen (p := ⟨w.heap.size, 0, none⟩) (by simp)).trans hn.2
    have hB := hq.trans (hb1.mono hq.size)
    clear hb1 hq hn
    go_wp2
    refine bodyPost_ret (v := .agg #[.slice (some ⟨g, 0, none⟩) 1 1]) (by simp [results, Tryz.results17, go_sem, hx]) rfl ⟨g, by omega, rfl, atomsO_set ha _ (by simp; omega) _, hB.setCell (p := ⟨w.heap.size, 0, none⟩) (Nat.le_refl _) _⟩
end Go.Proofs.YtnkfbjcgkdblgaaGreat.Vl
namespace Go.Proofs.YtnkfbjcgkdblgaaGreat.Vl
open Go.RowKit

theorem fits_bool (x y : Int) [Decidable (in64 (x * y))] (hx : in64 x) (hy : in64 y) (hy0 : y ≠ 0) : decide (in64 (x * y)) = ((wrap64 ((wrap64 (x * y)).tdiv y) == x) && !((x == -1) && (y == -9223372036854775808)) && !((y == -1) && (x == -9223372036854775808))) := by
  have hm := mul_fits x y hx hy hy0
  by_cases hf : in64 (x * y)
  · obtain ⟨h1, h2⟩ := hm.2 hf
    have h3 : ¬ (x = -1 ∧ y = -9223372036854775808) := by
      rintro ⟨rfl, rfl⟩
      unfold in64 at hf
      omega
    rw [decide_eq_true hf, h1]
    symm
    simp only [Bool.and_eq_true, Bool.not_eq_true', beq_self_eq_true, true_and]
    constructor
    · cases h : (x == -1 && y == -9223372036854775808) with
      | false => rfl
      | true => simp at h; exact (h3 h).elim
    · cases h : (y == -1 && x == -9223372036854775808) with
      | false => rfl
      | true => simp at h; exact (h2 h).elim
  · rw [decide_eq_false hf]
    symm
    cases h : ((wrap64 ((wrap64 (x * y)).tdiv y) == x) && !((x == -1) && (y == -9223372036854775808)) && !((y == -1) && (x == -9223372036854775808))) with
    | false => rfl
    | true =>
      exfalso
      simp at h
      exact hf (hm.1 ⟨h.1.1, fun q => h.2.elim (fun a => a q.1) (fun a => a q.2)⟩)

set_option maxHeartbeats 1000000 in
theorem times6_any (x y : Int) (w : World) (hx : in64 x) (hy : in64 y) : Calls Tryz.prog 40 #[.int .i64 x, .int .i64 y] w fun e w' => (∃ z ok, e = .returned (.tuple #[.int .i64 z, .bool ok]) ∧ ok = (fit64 (x * y)).isSome ∧ (ok = true → z = x * y)) ∧ w' = w := by
  by_cases h0 : x = 0
  · subst h0
    go_enter Tryz.func40, Tryz.ntmps40
    go_wp2
    go_ret2
    exact ⟨⟨0, true, rfl, by simp [fit64], by simp⟩, rfl⟩
  · by_cases h1 : y = 0
    · subst h1
      have h0b : (x == 0) = false := by simpa using h0
      go_enter Tryz.func40, Tryz.ntmps40
      go_wp2
      go_ret2
      exact ⟨⟨0, true, rfl, by simp [fit64], by simp⟩, rfl⟩
    · have h0b : (x == 0) = false := by simpa using h0
      have h1b : (y == 0) = false := by simpa using h1
      haveI hdec : Decidable (in64 (x * y)) := instDecidableAnd
      have hfb := fits_bool x y hx hy h1
      have hzz : in64 (x * y) → wrap64 (x * y) = x * y := fun h => wrap_id h
      obtain ⟨z, hz⟩ : ∃ z, wrap64 (x * y) = z := ⟨_, rfl⟩
      rw [hz] at hfb hzz
      obtain ⟨u, hu⟩ : ∃ u, wrap64 (z.tdiv y) = u := ⟨_, rfl⟩
      rw [hu] at hfb
      have HFB : Hid (decide (in64 (x * y)) = ((u == x) && !((x == -1) && (y == -9223372036854775808)) && !((y == -1) && (x == -9223372036854775808)))) := hfb
      have HZZ : Hid (in64 (x * y) → z = x * y) := hzz
      have hfs : decide (in64 (x * y)) = (fit64 (x * y)).isSome := by
        by_cases h : in64 (x * y)
        · rw [decide_eq_true h, show fit64 (x * y) = some (x * y) from if_pos h]; rfl
        · rw [decide_eq_false h, show fit64 (x * y) = none from if_neg h]; rfl
      have HFS : Hid (decide (in64 (x * y)) = (fit64 (x * y)).isSome) := hfs
      clear hfs
      clear hfb hzz
      generalize (fit64 (x * y)).isSome = fs at *
      have fin : ∀ ok : Bool, ((u == x) && !((x == -1) && (y == -9223372036854775808)) && !((y == -1) && (x == -9223372036854775808))) = ok → ok = fs ∧ (ok = true → z = x * y) := fun ok h => by
        rw [← HFB.out] at h
        exact ⟨h.symm.trans HFS.out, fun ht => HZZ.out (by rw [ht] at h; exact of_decide_eq_true h)⟩
      have FIN : Hid (∀ ok : Bool, ((u == x) && !((x == -1) && (y == -9223372036854775808)) && !((y == -1) && (x == -9223372036854775808))) = ok → ok = fs ∧ (ok = true → z = x * y)) := fin
      clear fin HFB HZZ HFS hdec
      cases b1 : (u == x)
      all_goals cases b2 : (x == -1)
      all_goals cases b3 : (y == -9223372036854775808)
      all_goals cases b4 : (y == -1)
      all_goals cases b5 : (x == -9223372036854775808)
      all_goals
        have FI := FIN.out _ rfl
        rw [b1, b2, b3, b4, b5] at FI
        have HFI : Hid (_ ∧ _) := FI
        clear FI FIN
        go_enter Tryz.func40, Tryz.ntmps40
        go_wp2
        go_ret2
        first
          | exact ⟨⟨z, _, rfl, HFI.out.1, HFI.out.2⟩, rfl⟩
          | exact ⟨⟨wrap64 (x * y), _, rfl, HFI.out.1, fun h => hz.trans (HFI.out.2 h)⟩, rfl⟩

def wDiv : List UInt8 := [100, 105, 118, 105, 100, 101]
def wRng : List UInt8 := [114, 97, 110, 103, 101]
/-- What an op of two numbers comes to: a number, or a word. -/
def numOp (op x y : Int) : Option Int × List UInt8 :=
  if op = 11 then (fit64 (x - y), if (fit64 (x - y)).isSome then [] else wRng)
  else if op = 12 then (fit64 (x * y), if (fit64 (x * y)).isSome then [] else wRng)
  else if y = 0 then (none, wDiv)
  else if op = 13 then (if x = -9223372036854775808 ∧ y = -1 then (none, wRng) else (some (quoV x y), []))
  else (some (remV x y), [])
/-- What the specification hands back for it. -/
def NumPost (w : World) (r : Option Int × List UInt8) (e : Ending) (w' : World) : Prop := Below w.heap.size w w' ∧ match r with
  | (some n, _) => ∃ g, w.heap.size ≤ g ∧ e = .returned (.tuple #[.agg #[.slice (some ⟨g, 0, none⟩) 1 1], .string ⟨#[]⟩]) ∧ AtomsO w' g 0 [⟨3, n, ⟨#[]⟩, 0⟩]
  | (none, s) => e = .returned (.tuple #[.agg #[.slice none 0 0], .string ⟨s.toArray⟩])
set_option maxHeartbeats 400000 in
theorem no6_any (s : ByteArray) (w : World) : Calls Tryz.prog 14 #[.string s] w fun e w' => e = .returned (.tuple #[.agg #[.slice none 0 0], .string s]) ∧ Below w.heap.size w w' := by
  go_enter Tryz.func14, Tryz.ntmps14
  go_wp2
  refine bodyPost_ret (v := .tuple #[.agg #[.slice none 0 0], .string s]) (by simp [results, Tryz.results14, go_sem]) rfl ⟨rfl, ?_⟩
  exact (Below.refl _ _).alloc (Nat.le_refl _) _
end Go.Proofs.YtnkfbjcgkdblgaaGreat.Vl
