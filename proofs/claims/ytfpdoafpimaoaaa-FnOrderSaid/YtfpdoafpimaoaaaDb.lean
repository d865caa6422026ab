/- Walks: the reader that a draw goes by. -/
import Derived.Test.YtfpdoafpimaoaaaQb
import Derived.Laws.Bits64
namespace Go.Proofs.Ytfpdoafpimaoaaa.Vl
open Go.RowKit T.atoms T.ok T.high T.good T.allPlain

/-- All but one block is as it was. -/
structure Dr (rb : Nat) (w w' : World) : Prop where
  os : w'.os = w.os
  tape : w'.tape = w.tape
  output : w'.output = w.output
  size : w.heap.size ≤ w'.heap.size
  block : ∀ b, b < w.heap.size → b ≠ rb → w'.heap[b]? = w.heap[b]?
theorem Dr.refl (rb : Nat) (w : World) : Dr rb w w := ⟨rfl, rfl, rfl, Nat.le_refl _, fun _ _ _ => rfl⟩
theorem Dr.trans {rb : Nat} {w w1 w2 : World} (a : Dr rb w w1) (b : Dr rb w1 w2) : Dr rb w w2 :=
  ⟨b.os.trans a.os, b.tape.trans a.tape, b.output.trans a.output, Nat.le_trans a.size b.size, fun q h1 h2 => (b.block q (Nat.lt_of_lt_of_le h1 a.size) h2).trans (a.block q h1 h2)⟩
theorem Dr.of {rb : Nat} {w w' : World} (h : Below w.heap.size w w') : Dr rb w w' := ⟨h.os, h.tape, h.output, h.size, fun b hb _ => h.block b hb⟩
theorem Dr.set (rb : Nat) (w : World) (o : Nat) (v : Value) : Dr rb w (w.setCell ⟨rb, o, none⟩ v) := by
  have h := (Below.refl 0 w).setCell (p := ⟨rb, o, none⟩) (Nat.zero_le _) v
  exact ⟨h.os, h.tape, h.output, h.size, fun b _ hb => Below.heap_setCell _ _ _ _ hb⟩
theorem Dr.below {rb B : Nat} {w w' : World} (h : Dr rb w w') (hB : B ≤ rb) (hs : B ≤ w.heap.size) : Below B w w' := ⟨h.os, h.tape, h.output, h.size, fun b hb => h.block b (by omega) (by omega)⟩
theorem Dr.cell {rb : Nat} {w w' : World} (h : Dr rb w w') {b o : Nat} (h1 : b < w.heap.size) (h2 : b ≠ rb) : w'.cell? ⟨b, o, none⟩ = w.cell? ⟨b, o, none⟩ := World.cell?_of_block (a := ⟨b, o, none⟩) (h.block b h1 h2)

/-- A reader, and how far it has come. -/
structure Rd (w : World) (rb : Nat) (vb : Value) (n p : Nat) : Prop where
  c0 : w.cell? ⟨rb, 0, none⟩ = some vb
  c1 : w.cell? ⟨rb, 1, none⟩ = some (.int .i64 (p : Int))
  f1 : w.frozen? ⟨rb, 1, none⟩ = false
  by_ : (∃ q c, vb = .slice q 0 c ∧ n = 0) ∨ ∃ g o c, vb = .slice (some ⟨g, o, none⟩) n c ∧ 0 < n ∧ n ≤ 2000 ∧ g < rb ∧ ∀ i, i < n → ∃ k : Nat, k < 256 ∧ w.cell? ⟨g, o + i, none⟩ = some (.int .u8 (k : Int))
theorem Rd.lt {w : World} {rb : Nat} {vb : Value} {n p : Nat} (h : Rd w rb vb n p) : rb < w.heap.size := World.block_lt_of_cell? w ⟨rb, 0, none⟩ h.c0
theorem Rd.set {w : World} {rb : Nat} {vb : Value} {n p : Nat} (h : Rd w rb vb n p) (q : Nat) : Rd (w.setCell ⟨rb, 1, none⟩ (.int .i64 (q : Int))) rb vb n q := by
  refine ⟨(World.cell?_setCell_other _ _ _ _ (by simp)).trans h.c0, World.cell?_setCell_same _ _ _ h.c1, by simpa using h.f1, ?_⟩
  rcases h.by_ with h | ⟨g, o, c, h1, h2, h3, h4, h6⟩
  · exact .inl h
  · refine .inr ⟨g, o, c, h1, h2, h3, h4, fun i hi => ?_⟩
    obtain ⟨k, hk, hc⟩ := h6 i hi
    exact ⟨k, hk, (World.cell?_setCell_other _ _ _ _ (fun e => Nat.ne_of_lt h4 (congrArg Addr.block e).symm)).trans hc⟩
theorem Rd.keep {w w' : World} {rb : Nat} {vb : Value} {n p : Nat} (h : Rd w rb vb n p) (hb : Below w.heap.size w w') : Rd w' rb vb n p := by
  have hl := h.lt
  refine ⟨(hb.cell (p := ⟨rb, 0, none⟩) hl).trans h.c0, (hb.cell (p := ⟨rb, 1, none⟩) hl).trans h.c1, (hb.frozen (p := ⟨rb, 1, none⟩) hl).trans h.f1, ?_⟩
  rcases h.by_ with h | ⟨g, o, c, h1, h2, h3, h4, h6⟩
  · exact .inl h
  · refine .inr ⟨g, o, c, h1, h2, h3, h4, fun i hi => ?_⟩
    obtain ⟨k, hk, hc⟩ := h6 i hi
    exact ⟨k, hk, (hb.cell (p := ⟨g, o + i, none⟩) (by show g < _; omega)).trans hc⟩

theorem bits_xor_i64_nat (a b : Nat) (ha : a < 4611686018427387904) (hb : b < 4611686018427387904) : bits .xor .i64 (a : Int) (b : Int) = ((a ^^^ b : Nat) : Int) := by
  have hx : a ^^^ b < 2 ^ 62 := Nat.xor_lt_two_pow (by omega) (by omega)
  have h1 : (BitVec.ofInt 64 (a : Int)).toNat = a := by
    rw [BitVec.ofInt_natCast, BitVec.toNat_ofNat]; exact Nat.mod_eq_of_lt (by omega)
  have h2 : (BitVec.ofInt 64 (b : Int)).toNat = b := by
    rw [BitVec.ofInt_natCast, BitVec.toNat_ofNat]; exact Nat.mod_eq_of_lt (by omega)
  show IntKind.i64.wrap ((BitVec.ofInt 64 (a : Int) ^^^ BitVec.ofInt 64 (b : Int)).toNat : Int) = _
  rw [BitVec.toNat_xor, h1, h2]
  generalize a ^^^ b = x at *
  rw [IntKind.wrap_i64]
  omega

/-- What pick does. -/
def PickPost (rb : Nat) (vb : Value) (n p : Nat) (m : Int) (w : World) (e : Ending) (w' : World) : Prop := ∃ z : Nat, (z : Int) < m ∧ e = .returned (.int .i64 (z : Int)) ∧ Rd w' rb vb n (p + 1) ∧ Dr rb w w'

set_option maxRecDepth 100000 in
set_option maxHeartbeats 2000000 in
theorem pick_any (rb n p : Nat) (vb : Value) (m : Int) (w : World) (h : Rd w rb vb n p) (hp : p ≤ 1000000000) (hm : 1 ≤ m) (hm2 : m ≤ 1000000) :
    Calls Try.prog 23 #[.pointer (some ⟨rb, 0, none⟩), .int .i64 m] w fun e w' => PickPost rb vb n p m w e w' := by
  have c0 := h.c0
  have c1 := h.c1
  have f1 := h.f1
  have hm1 : ¬ m < 1 := by omega
  rcases h.by_ with ⟨q, c, rfl, hn⟩ | ⟨g, o, c, rfl, hn1, hn2, hg, hB⟩
  · subst hn
    go_enter Try.func23, Try.ntmps23
    go_wp2
    go_ret
    exact ⟨0, by omega, rfl, h.set (p + 1), Dr.set _ _ _ _⟩
  · have HB := hide hB
    clear hB
    by_cases hk : p < n
    · obtain ⟨k, hk1, hk2⟩ := HB.out p hk
      go_enter Try.func23, Try.ntmps23
      go_wp2
      go_ret
      have z0 : 0 ≤ (k : Int) % m := Int.emod_nonneg _ (by omega)
      have z1 : (k : Int) % m < m := Int.emod_lt_of_pos _ (by omega)
      exact ⟨((k : Int) % m).toNat, by omega, by rw [Int.toNat_of_nonneg z0]; rfl, h.set (p + 1), Dr.set _ _ _ _⟩
    · have hi1 : p % n < n := Nat.mod_lt _ hn1
      have hi2 : (p * 7 + 3) % n < n := Nat.mod_lt _ hn1
      obtain ⟨k1, hk1, hb1⟩ := HB.out _ hi1
      obtain ⟨k2, hk2, hb2⟩ := HB.out _ hi2
      have e1 : (p : Int) % (n : Int) = ((p % n : Nat) : Int) := by simp
      have e2 : ((p : Int) * 7 + 3) % (n : Int) = (((p * 7 + 3) % n : Nat) : Int) := by simp
      have e3 : (p : Int) / (n : Int) = ((p / n : Nat) : Int) := by simp
      have hi3 : p / n ≤ p := Nat.div_le_self _ _
      generalize p % n = i1 at *
      generalize (p * 7 + 3) % n = i2 at *
      generalize p / n = i3 at *
      have d0 : (w.setCell ⟨rb, 1, none⟩ (.int .i64 ((p : Int) + 1))).cell? ⟨rb, 0, none⟩ = some (.slice (some ⟨g, o, none⟩) n c) := (World.cell?_setCell_other _ _ _ _ (by simp)).trans c0
      have d1 : (w.setCell ⟨rb, 1, none⟩ (.int .i64 ((p : Int) + 1))).cell? ⟨g, o + i1, none⟩ = some (.int .u8 (k1 : Int)) := (World.cell?_setCell_other _ _ _ _ (fun e => Nat.ne_of_lt hg (congrArg Addr.block e).symm)).trans hb1
      have d2 : (w.setCell ⟨rb, 1, none⟩ (.int .i64 ((p : Int) + 1))).cell? ⟨g, o + i2, none⟩ = some (.int .u8 (k2 : Int)) := (World.cell?_setCell_other _ _ _ _ (fun e => Nat.ne_of_lt hg (congrArg Addr.block e).symm)).trans hb2
      have eX : ((k1 : Int) * 131 + (k2 : Int) * 1117 + (p : Int) * 29 + (i3 : Int) * 53) = ((k1 * 131 + k2 * 1117 + p * 29 + i3 * 53 : Nat) : Int) := by omega
      have e4 : bits .xor .i64 ((k1 : Int) * 131 + (k2 : Int) * 1117 + (p : Int) * 29 + (i3 : Int) * 53) (((k1 : Int) * 131 + (k2 : Int) * 1117 + (p : Int) * 29 + (i3 : Int) * 53) / 64) = (((k1 * 131 + k2 * 1117 + p * 29 + i3 * 53) ^^^ (k1 * 131 + k2 * 1117 + p * 29 + i3 * 53) / 64 : Nat) : Int) := by
        rw [eX]
        have := bits_xor_i64_nat (k1 * 131 + k2 * 1117 + p * 29 + i3 * 53) ((k1 * 131 + k2 * 1117 + p * 29 + i3 * 53) / 64) (by omega) (by omega)
        rw [← this]
        congr 1
      generalize ((k1 * 131 + k2 * 1117 + p * 29 + i3 * 53) ^^^ (k1 * 131 + k2 * 1117 + p * 29 + i3 * 53) / 64) = y at *
      clear eX
      have hR := hide (h.set (p + 1))
      clear h
      go_enter Try.func23, Try.ntmps23
      go_wp2
      go_quiet (fail)
      go_wp2
      go_ret
      have z0 : 0 ≤ (y : Int) % m := Int.emod_nonneg _ (by omega)
      have z1 : (y : Int) % m < m := Int.emod_lt_of_pos _ (by omega)
      exact ⟨((y : Int) % m).toNat, by omega, by rw [Int.toNat_of_nonneg z0]; rfl, hR.out.keep (below_drewN (Below.refl _ _) _), (Dr.set _ _ _ _).trans (Dr.of (below_drewN (Below.refl _ _) _))⟩
end Go.Proofs.Ytfpdoafpimaoaaa.Vl
