/- Joined: Ea, Eb. -/
import Derived.Test.YtnkfbjcgkdblgaaGreatG14
namespace Go.Proofs.YtnkfbjcgkdblgaaGreat.Vl
open Go.RowKit T.atoms T.ok T.high T.good T.allPlain DatAt T.ord

theorem row_formE {w : World} {base : Nat} {e : TypeId} {size n : Nat} {v : Value} {xs : List Value} (h : w.ownsRow base e size v n xs) : ∃ p c, v = .slice p n c := by
  rcases h.2 with ⟨h1, h2⟩ | ⟨g, c, _, h1, _⟩
  · refine ⟨none, 0, ?_⟩
    first | (rw [h1, h2.1]; done) | (rw [h1, h2]; done) | (simp_all; done)
  · exact ⟨_, _, h1⟩
theorem cells_oneE (l : List At) : ∀ u ∈ cellsOf l, u.oneCell' = true := by
  intro u hu
  unfold cellsOf at hu
  obtain ⟨x, _, hx⟩ := List.mem_flatMap.1 hu
  simp [At.cells] at hx
  rcases hx with rfl | rfl | rfl | rfl <;> rfl
theorem cells_appE (a b : List At) : cellsOf a ++ cellsOf b = cellsOf (a ++ b) := by unfold cellsOf; rw [List.flatMap_append]
theorem four_newE (w : World) (a b d : Int) (c : ByteArray) (t : TypeId) : ∀ j u, (cellsOf [⟨a, b, c, d⟩])[j]? = some u → (w.alloc (.cells #[.int .i64 a, .int .i64 b, .string c, .int .i64 d] t)).cell? ((⟨w.heap.size, 0, none⟩ : Addr).add j) = some u := by
  intro j u h
  rw [add_plain, Nat.zero_add, World.cell?, heap_alloc_new]
  simpa [cellsOf, At.cells] using h
theorem row_posDE {w : World} {base : Nat} {e : TypeId} {size n : Nat} {v : Value} {xs : List Value} (h : w.ownsRow base e size v n xs) (hn : 0 < n) : ∃ g c, v = .slice (some ⟨g, 0, none⟩) n c := by
  rcases h.2 with ⟨h1, h2⟩ | ⟨g, c, _, h1, _⟩
  · first | omega | (simp_all; done)
  · exact ⟨_, _, h1⟩
theorem atomsL_stepE (ks : List T) (i : Nat) (h : i < ks.length) : atomsL (ks.take (i + 1)) = atomsL (ks.take i) ++ (ks[i]).atoms := by
  rw [List.take_succ_eq_append_getElem h, atomsL_append]
  simp [atomsL]
theorem Moves.cell {w w' : World} {x x' : Nat} (h : Moves w w' x x') (q o : Nat) (hq : q < w.heap.size) (hx : q ≠ x) : w'.cell? ⟨q, o, none⟩ = w.cell? ⟨q, o, none⟩ := World.cell?_of_block (a := ⟨q, o, none⟩) (h.block q hq hx)
theorem Moves.frozen {w w' : World} {x x' : Nat} (h : Moves w w' x x') (q o : Nat) (hq : q < w.heap.size) (hx : q ≠ x) : w'.frozen? ⟨q, o, none⟩ = w.frozen? ⟨q, o, none⟩ := World.frozen?_of_block (a := ⟨q, o, none⟩) (h.block q hq hx)
/-- A row of atoms of one's own, in block x if it has one. -/
structure Acc (w : World) (base x : Nat) (av : Value) (acc : List At) : Prop where
  own : w.ownsRow base 44 4 av acc.length (cellsOf acc)
  at' : ∀ q, av.ownBlock = some q → q = x
  lt : x < w.heap.size
  bs : base ≤ w.heap.size
theorem Acc.below {w w' : World} {base x : Nat} {av : Value} {acc : List At} (h : Acc w base x av acc) (hb : Below w.heap.size w w') : Acc w' base x av acc :=
  ⟨row_below h.own hb, h.at', Nat.lt_of_lt_of_le h.lt hb.size, Nat.le_trans h.bs hb.size⟩
/-- What atomsOf hands back. -/
def APost (w : World) (base x : Nat) (acc : List At) (e : Ending) (w' : World) : Prop := ∃ g c, e = .returned (.slice (some ⟨g, 0, none⟩) acc.length c) ∧ Acc w' base g (.slice (some ⟨g, 0, none⟩) acc.length c) acc ∧ Moves w w' x g ∧ Below base w w'
theorem own_block_some {g o n c : Nat} : (Value.slice (some ⟨g, o, none⟩) n c).ownBlock = some g := rfl
theorem atoms_one (k n : Int) (s : ByteArray) (l : Int) : [(⟨k, n, s, l⟩ : At)].flatMap At.cells = [.int .i64 k, .int .i64 n, .string s, .int .i64 l] := by simp [At.cells]
/-- The row with one atom more. -/
theorem acc_next {w W W' : World} {base x : Nat} {av v' : Value} {acc : List At} {a : At} (h : Acc W base x av acc) (hM : Moves w W x x) (hb : Below base w W)
    (ho : W'.ownsRow base 44 4 v' (acc.length + 1) (cellsOf acc ++ cellsOf [a])) (hg : W.grownBy W' av.ownBlock) (h5 : v'.ownBlock = av.ownBlock ∨ v'.ownBlock = some W.heap.size) :
    ∃ g c, v' = .slice (some ⟨g, 0, none⟩) (acc ++ [a]).length c ∧ Acc W' base g (.slice (some ⟨g, 0, none⟩) (acc ++ [a]).length c) (acc ++ [a]) ∧ Moves w W' x g ∧ Below base w W' := by
  obtain ⟨g, c, rfl⟩ := row_posDE ho (by omega)
  rw [cells_appE] at ho
  have e1 : acc.length + 1 = (acc ++ [a]).length := by simp
  rw [e1] at ho
  have hlt := ho.lt g rfl
  refine ⟨g, c, by simp, ⟨ho, fun q hq => by cases hq; rfl, hlt.2, Nat.le_trans h.bs hg.size⟩, ?_, ?_⟩
  · have hm2 : Moves W W' x g := by
      refine ⟨fun q hq hx => hg.block q hq (fun e => hx (h.at' q e.symm)), hg.size, fun q hq hx => ?_⟩
      rcases h5 with e | e
      · rw [own_block_some] at e; have := h.at' g e.symm; omega
      · rw [own_block_some] at e; cases e; omega
    exact hM.trans hm2
  · exact hb.grown hg h.bs (fun k hk => (h.own.lt k hk).1)
theorem moves_alloc {w W : World} {x : Nat} (h : Below w.heap.size w W) : Moves w W x x := Moves.below h
theorem box4 (w1 : World) (a b c d : Value) : (w1.alloc (.cells #[a, b, c, d] 44)).cell? ⟨w1.heap.size, 0, none⟩ = some a ∧ (w1.alloc (.cells #[a, b, c, d] 44)).cell? ⟨w1.heap.size, 1, none⟩ = some b ∧ (w1.alloc (.cells #[a, b, c, d] 44)).cell? ⟨w1.heap.size, 2, none⟩ = some c ∧ (w1.alloc (.cells #[a, b, c, d] 44)).cell? ⟨w1.heap.size, 3, none⟩ = some d := by
  refine ⟨?_, ?_, ?_, ?_⟩ <;> simp
theorem empty_of {s : ByteArray} (h : s.size = 0) : s = ⟨#[]⟩ := by
  cases s with
  | mk d => have : d.size = 0 := h; rw [Array.size_eq_zero_iff] at this; rw [this]
theorem good_parts {k n : Int} {s : ByteArray} {ks : List T} (h : (T.mk k n s ks).good = true) : (k = 2 ∨ k = 3 ∨ n = 0) ∧ (k = 4 ∨ s = ⟨#[]⟩) ∧ (k = 5 ∨ k = 6 ∨ ks = []) := by
  rw [T.good_eq] at h
  simp only [Bool.and_eq_true] at h
  have h := h.1.1
  unfold plain at h
  simp only [Bool.and_eq_true, T.kind, T.num, T.text, T.ks] at h
  obtain ⟨⟨⟨h1, h2⟩, h3⟩, -⟩ := h
  simp only [Bool.or_eq_true, beq_iff_eq] at h1 h2 h3
  refine ⟨by omega, ?_, ?_⟩
  · rcases h2 with h | h
    · exact .inl h
    · exact .inr (empty_of h)
  · rcases h3 with (h | h) | h
    · exact .inl h
    · exact .inr (.inl h)
    · exact .inr (.inr (List.eq_nil_of_length_eq_zero h))
theorem leaf_parts {k n : Int} {s : ByteArray} {ks : List T} (hk : k = 1 ∨ k = 2 ∨ k = 3 ∨ k = 4) (h : (T.mk k n s ks).good = true) : (k = 2 ∨ k = 3 ∨ n = 0) ∧ (k = 4 ∨ s = ⟨#[]⟩) ∧ ks = [] := by
  obtain ⟨h1, h2, h3⟩ := good_parts h
  refine ⟨h1, h2, ?_⟩
  rcases h3 with h | h | h
  · omega
  · omega
  · exact h
theorem four_new2 (w1 : World) (A : Obj) (a b d : Int) (c : ByteArray) (t : TypeId) : ∀ (j : Nat) (y : Value), (cellsOf [⟨a, b, c, d⟩])[j]? = some y → ((w1.alloc A).alloc (.cells #[.int .i64 a, .int .i64 b, .string c, .int .i64 d] t)).cell? ((⟨w1.heap.size + 1, 0, none⟩ : Addr).add j) = some y := by
  intro j y h
  have := four_newE (w1.alloc A) a b d c t j y h
  rwa [World.size_alloc] at this

def textT (s : ByteArray) : T := .mk 4 0 s []
theorem atoms_leaf (k n : Int) (s : ByteArray) : (T.mk k n s []).atoms = [⟨k, n, s, 0⟩] := by simp [T.atoms, atomsL]
/-- The box of an atom. -/
def BoxA (W : World) (b : Nat) (a : At) : Prop := b < W.heap.size ∧ W.cell? ⟨b, 0, none⟩ = some (.int .i64 a.kind) ∧ W.cell? ⟨b, 1, none⟩ = some (.int .i64 a.n) ∧ W.cell? ⟨b, 2, none⟩ = some (.string a.text) ∧ W.cell? ⟨b, 3, none⟩ = some (.int .i64 a.kids)
theorem BoxA.moves {W W' : World} {b x x' : Nat} {a : At} (h : BoxA W b a) (hm : Moves W W' x x') (hx : b ≠ x) : BoxA W' b a :=
  ⟨Nat.lt_of_lt_of_le h.1 hm.size, (hm.cell b 0 h.1 hx).trans h.2.1, (hm.cell b 1 h.1 hx).trans h.2.2.1, (hm.cell b 2 h.1 hx).trans h.2.2.2.1, (hm.cell b 3 h.1 hx).trans h.2.2.2.2⟩

set_option maxRecDepth 100000 in
set_option maxHeartbeats 4000000 in
theorem atomsOf_leaf (t : T) (v : Value) (x base : Nat) (av : Value) (acc : List At) (w : World) (hk : t.kind = 1 ∨ t.kind = 2 ∨ t.kind = 3 ∨ t.kind = 4) (hg : t.good = true) (hl : acc.length ≤ 100000) (hd : DatAt w x t v) (ha : Acc w base x av acc) :
    Calls Tryz.prog 76 #[v, av] w (APost w base x (acc ++ t.atoms)) := by
  obtain ⟨iN, hN, hNz, hNs, hNb⟩ := info_parts Tryz.infoAt
  have HK := hide (kinds_of hd)
  have HA := hide ha
  obtain ⟨pv, cv, rfl⟩ := row_formE ha.own
  have n1 := tan_b
  have n2 := tan_i
  have n3 := ta_text_no
  have n4 := tan_l
  have n5 := tan_r
  cases t with
  | mk k n s ks =>
  have HK : Hid (Kinds v k) := HK
  have HG := hide hg
  unfold DatAt at hd
  clear hg ha
  rcases hd with ⟨rfl, rfl⟩ | ⟨rfl, rfl⟩ | ⟨rfl, rfl⟩ | ⟨rfl, rfl⟩ | ⟨rfl, _⟩ | ⟨rfl, _⟩
  · have HT : Hid ((T.mk 1 n s ks).atoms = [⟨1, 0, ⟨#[]⟩, 0⟩]) := hide (by
      obtain ⟨h1, h2, h3⟩ := leaf_parts (.inl rfl) HG.out
      have e1 : n = 0 := by omega
      have e2 : s = ⟨#[]⟩ := h2.resolve_left (by decide)
      rw [h3, atoms_leaf, e1, e2])
    rw [HT.out]
    go_enter Tryz.func76, Tryz.ntmps76
    go_wp2_with (first | (show wpList _ _ _ ({ dst := _, op := Op.call { callee := Callee.invoke _ _, args := _, argTypes := _ }, type := _, pos := _, after := _, guard := _ } :: _) _ _; refine wpList_kind rfl (.tmp 15) rfl _ _ (by first | (simp [Act.eval]; done) | simp [Act.eval, Act.put]) HK.out ?_; intro w1 hb1) | (at_builtin; refine wpList_append_own_at _ rfl _ _ 26 rfl base 44 iN _ 4 40 Tryz.underlying26 hN hNz hNs hNb rfl (by decide) (.slice pv acc.length cv) acc.length (cellsOf acc) rfl (((HA.out.below hb1).own.alloc _).alloc _) ⟨w1.heap.size + 1, 0, none⟩ 1 1 (cellsOf [⟨1, 0, ⟨#[]⟩, 0⟩]) rfl rfl (four_new2 _ _ _ _ _ _ _) (cells_oneE _) (by unfold maxLen; omega) (by omega) (by have := (HA.out.below hb1).bs; simp; omega) ?_))
    intro v5 w5 h1 h2 h3 h4
    have hz := hb1.size
    obtain ⟨g5, c5, rfl, r1, r2, r3⟩ := acc_next (((HA.out.below hb1).below ((Below.refl _ _).alloc (Nat.le_refl _) _)).below ((Below.refl _ _).alloc (Nat.le_refl _) _)) (Moves.below ((hb1.alloc hb1.size _).alloc (by simp; omega) _)) (((hb1.alloc hb1.size _).alloc (by simp; omega) _).mono HA.out.bs) h1 h2 (by simpa using h4)
    have HR1 := hide r1
    clear h1 h2 h3 h4 r1
    go_wp2
    go_ret
    exact ⟨g5, c5, rfl, HR1.out, r2, r3⟩
  · have hn01 := good_num HG.out
    have HT : Hid ((T.mk 2 n s ks).atoms = [⟨2, n, ⟨#[]⟩, 0⟩]) := hide (by
      obtain ⟨-, h2, h3⟩ := leaf_parts (.inr (.inl rfl)) HG.out
      rw [h3, atoms_leaf, h2.resolve_left (by decide)])
    rw [HT.out]
    have HB := hide (bit_any (n == 1))
    have hz : (if (n == 1) = true then (1 : Int) else 0) = n := by rcases hn01 with rfl | rfl <;> rfl
    rw [hz] at HB
    have y1 := tay_b (n == 1)
    clear hz
    generalize (n == 1) = bb at *
    go_enter Tryz.func76, Tryz.ntmps76
    go_wp2_with (show wpList _ _ _ ({ dst := _, op := Op.call { callee := Callee.invoke _ _, args := _, argTypes := _ }, type := _, pos := _, after := _, guard := _ } :: _) _ _; refine wpList_kind rfl (.tmp 15) rfl _ _ (by first | (simp [Act.eval]; done) | simp [Act.eval, Act.put]) HK.out ?_; intro w1 hb1)
    refine (HB.out _).mono ?_
    rintro e w2 ⟨rfl, rfl⟩
    go_wp2_with (at_builtin; refine wpList_append_own_at _ rfl _ _ 26 rfl base 44 iN _ 4 40 Tryz.underlying26 hN hNz hNs hNb rfl (by decide) (.slice pv acc.length cv) acc.length (cellsOf acc) rfl (((HA.out.below hb1).own.alloc _).alloc _) ⟨w1.heap.size + 1, 0, none⟩ 1 1 (cellsOf [⟨2, n, ⟨#[]⟩, 0⟩]) rfl rfl (four_new2 _ _ _ _ _ _ _) (cells_oneE _) (by unfold maxLen; omega) (by omega) (by have := (HA.out.below hb1).bs; simp; omega) ?_)
    intro v5 w5 h1 h2 h3 h4
    have hz := hb1.size
    obtain ⟨g5, c5, rfl, r1, r2, r3⟩ := acc_next (((HA.out.below hb1).below ((Below.refl _ _).alloc (Nat.le_refl _) _)).below ((Below.refl _ _).alloc (Nat.le_refl _) _)) (Moves.below ((hb1.alloc hb1.size _).alloc (by simp; omega) _)) (((hb1.alloc hb1.size _).alloc (by simp; omega) _).mono HA.out.bs) h1 h2 (by simpa using h4)
    have HR1 := hide r1
    clear h1 h2 h3 h4 r1
    go_wp2
    go_ret
    exact ⟨g5, c5, rfl, HR1.out, r2, r3⟩
  · have HT : Hid ((T.mk 3 n s ks).atoms = [⟨3, n, ⟨#[]⟩, 0⟩]) := hide (by
      obtain ⟨-, h2, h3⟩ := leaf_parts (.inr (.inr (.inl rfl))) HG.out
      rw [h3, atoms_leaf, h2.resolve_left (by decide)])
    rw [HT.out]
    have y1 := tay_i n
    go_enter Tryz.func76, Tryz.ntmps76
    go_wp2_with (first | (show wpList _ _ _ ({ dst := _, op := Op.call { callee := Callee.invoke _ _, args := _, argTypes := _ }, type := _, pos := _, after := _, guard := _ } :: _) _ _; refine wpList_kind rfl (.tmp 15) rfl _ _ (by first | (simp [Act.eval]; done) | simp [Act.eval, Act.put]) HK.out ?_; intro w1 hb1) | (at_builtin; refine wpList_append_own_at _ rfl _ _ 26 rfl base 44 iN _ 4 40 Tryz.underlying26 hN hNz hNs hNb rfl (by decide) (.slice pv acc.length cv) acc.length (cellsOf acc) rfl (((HA.out.below hb1).own.alloc _).alloc _) ⟨w1.heap.size + 1, 0, none⟩ 1 1 (cellsOf [⟨3, n, ⟨#[]⟩, 0⟩]) rfl rfl (four_new2 _ _ _ _ _ _ _) (cells_oneE _) (by unfold maxLen; omega) (by omega) (by have := (HA.out.below hb1).bs; simp; omega) ?_))
    intro v5 w5 h1 h2 h3 h4
    have hz := hb1.size
    obtain ⟨g5, c5, rfl, r1, r2, r3⟩ := acc_next (((HA.out.below hb1).below ((Below.refl _ _).alloc (Nat.le_refl _) _)).below ((Below.refl _ _).alloc (Nat.le_refl _) _)) (Moves.below ((hb1.alloc hb1.size _).alloc (by simp; omega) _)) (((hb1.alloc hb1.size _).alloc (by simp; omega) _).mono HA.out.bs) h1 h2 (by simpa using h4)
    have HR1 := hide r1
    clear h1 h2 h3 h4 r1
    go_wp2
    go_ret
    exact ⟨g5, c5, rfl, HR1.out, r2, r3⟩
  · have HT : Hid ((T.mk 4 n s ks).atoms = [⟨4, 0, s, 0⟩]) := hide (by
      obtain ⟨h1, -, h3⟩ := leaf_parts (.inr (.inr (.inr rfl))) HG.out
      have e1 : n = 0 := by omega
      rw [h3, atoms_leaf, e1])
    rw [HT.out]
    have y1 := tay_t s
    go_enter Tryz.func76, Tryz.ntmps76
    go_wp2_with (first | (show wpList _ _ _ ({ dst := _, op := Op.call { callee := Callee.invoke _ _, args := _, argTypes := _ }, type := _, pos := _, after := _, guard := _ } :: _) _ _; refine wpList_kind rfl (.tmp 15) rfl _ _ (by first | (simp [Act.eval]; done) | simp [Act.eval, Act.put]) HK.out ?_; intro w1 hb1) | (at_builtin; refine wpList_append_own_at _ rfl _ _ 26 rfl base 44 iN _ 4 40 Tryz.underlying26 hN hNz hNs hNb rfl (by decide) (.slice pv acc.length cv) acc.length (cellsOf acc) rfl (((HA.out.below hb1).own.alloc _).alloc _) ⟨w1.heap.size + 1, 0, none⟩ 1 1 (cellsOf [⟨4, 0, s, 0⟩]) rfl rfl (four_new2 _ _ _ _ _ _ _) (cells_oneE _) (by unfold maxLen; omega) (by omega) (by have := (HA.out.below hb1).bs; simp; omega) ?_))
    intro v5 w5 h1 h2 h3 h4
    have hz := hb1.size
    obtain ⟨g5, c5, rfl, r1, r2, r3⟩ := acc_next (((HA.out.below hb1).below ((Below.refl _ _).alloc (Nat.le_refl _) _)).below ((Below.refl _ _).alloc (Nat.le_refl _) _)) (Moves.below ((hb1.alloc hb1.size _).alloc (by simp; omega) _)) (((hb1.alloc hb1.size _).alloc (by simp; omega) _).mono HA.out.bs) h1 h2 (by simpa using h4)
    have HR1 := hide r1
    clear h1 h2 h3 h4 r1
    go_wp2
    go_ret
    exact ⟨g5, c5, rfl, HR1.out, r2, r3⟩
  · exfalso; rcases hk with h | h | h | h <;> revert h <;> simp [T.kind]
  · exfalso; rcases hk with h | h | h | h <;> revert h <;> simp [T.kind]
end Go.Proofs.YtnkfbjcgkdblgaaGreat.Vl
namespace Go.Proofs.YtnkfbjcgkdblgaaGreat.Vl
open Go.RowKit T.atoms T.ok T.high T.good T.allPlain DatAt T.ord

theorem good_listT {n : Int} {s : ByteArray} {ks : List T} {k : Int} (hk : k = 5 ∨ k = 6) (h : (T.mk k n s ks).good = true) : n = 0 ∧ s = ⟨#[]⟩ := by
  obtain ⟨h1, h2, -⟩ := good_parts h
  exact ⟨by omega, h2.resolve_left (by omega)⟩
theorem three_new (W : World) (a b c : Value) (t : TypeId) : (W.alloc (.cells #[a, b, c] t)).cell? ⟨W.heap.size, 0, none⟩ = some a := by simp
/-- The row from one call of atomsOf to the next, and the box of the atom that comes last. -/
structure AL (w : World) (base x b : Nat) (a : At) (acc : List At) (av : Value) (wr : World) : Prop where
  ex : ∃ gx, Acc wr base gx av acc ∧ Moves w wr x gx ∧ gx ≠ b
  B : Below base w wr
  box : BoxA wr b a

set_option maxRecDepth 100000 in
set_option maxHeartbeats 2000000 in
theorem atomsOf_list (ks : List T) (v : Value) (x base : Nat) (av : Value) (acc : List At) (w : World) (hls : ks.length ≤ 1000) (hal : acc.length + (atomsL ks).length + 1 ≤ 100000) (hd : DatAt w x (.mk 5 0 ⟨#[]⟩ ks) v) (ha : Acc w base x av acc)
    (HIH : Hid (∀ i (h1 : i < ks.length) v x base av acc w, acc.length + (ks[i]).count ≤ 100000 → DatAt w x ks[i] v → Acc w base x av acc → Calls Tryz.prog 76 #[v, av] w (APost w base x (acc ++ (ks[i]).atoms)))) :
    Calls Tryz.prog 76 #[v, av] w (APost w base x (acc ++ (T.mk 5 0 ⟨#[]⟩ ks).atoms)) := by
  obtain ⟨iN, hNi, hNz, hNs, hNb⟩ := info_parts Tryz.infoAt
  have HK : Hid (Kinds v 5) := hide (kinds_of hd)
  have HA := hide ha
  have hxw := ha.lt
  obtain ⟨pv, cv, rfl⟩ := row_formE ha.own
  have n1 := tan_b
  have n2 := tan_i
  have n3 := ta_text_no
  unfold DatAt at hd
  clear ha
  rcases hd with ⟨h, _⟩ | ⟨h, _⟩ | ⟨h, _⟩ | ⟨h, _⟩ | ⟨_, p, c, vs, rfl, hpc, hdl, hrow⟩ | ⟨h, _⟩
  any_goals (exfalso; revert h; decide)
  have HT : Hid ((T.mk 5 0 ⟨#[]⟩ ks).atoms = atomsL ks ++ [⟨5, 0, ⟨#[]⟩, (ks.length : Int)⟩]) := hide (by simp [T.atoms])
  have HT5 : Hid (acc ++ (T.mk 5 0 ⟨#[]⟩ ks).atoms = acc ++ atomsL ks ++ [⟨5, 0, ⟨#[]⟩, (ks.length : Int)⟩]) := hide (by rw [HT.out, List.append_assoc])
  clear HT
  have HDL := hide hdl
  have HRW := hide hrow
  have y1 := tay_l p ks.length c (1 + (atomsL ks).length : Nat) (highL ks : Nat)
  generalize ((1 + (atomsL ks).length : Nat) : Int) = z1 at *
  generalize ((highL ks : Nat) : Int) = z2 at *
  clear hdl hrow
  go_enter Tryz.func76, Tryz.ntmps76
  go_wp2_with (show wpList _ _ _ ({ dst := _, op := Op.call { callee := Callee.invoke _ _, args := _, argTypes := _ }, type := _, pos := _, after := _, guard := _ } :: _) _ _; refine wpList_kind rfl (.tmp 15) rfl _ _ (by first | (simp [Act.eval]; done) | simp [Act.eval, Act.put]) HK.out ?_; intro w1 hb1)
  have hz1 := hb1.size
  have hW2 : Below w.heap.size w ((w1.alloc (.cells #[.int .i64 5, .int .i64 0, .string ⟨#[]⟩, .int .i64 (ks.length : Int)] 44)).alloc (.cells #[.slice p ks.length c, .int .i64 z1, .int .i64 z2] 95)) := (hb1.alloc hb1.size _).alloc (by simp; omega) _
  have HBX : Hid (BoxA ((w1.alloc (.cells #[.int .i64 5, .int .i64 0, .string ⟨#[]⟩, .int .i64 (ks.length : Int)] 44)).alloc (.cells #[.slice p ks.length c, .int .i64 z1, .int .i64 z2] 95)) w1.heap.size ⟨5, 0, ⟨#[]⟩, (ks.length : Int)⟩) := hide (by
    have hb := box4 w1 (.int .i64 5) (.int .i64 0) (.string ⟨#[]⟩) (.int .i64 (ks.length : Int))
    have h0 : BoxA (w1.alloc (.cells #[.int .i64 5, .int .i64 0, .string ⟨#[]⟩, .int .i64 (ks.length : Int)] 44)) w1.heap.size ⟨5, 0, ⟨#[]⟩, (ks.length : Int)⟩ := ⟨by simp, hb.1, hb.2.1, hb.2.2.1, hb.2.2.2⟩
    exact h0.moves (x := w1.heap.size + 1) (x' := w1.heap.size + 1) (Moves.below ((Below.refl _ _).alloc (Nat.le_refl _) _)) (by omega))
  go_wp2
  go_loopw [1, 45] (fun av' q wr => ∃ (i gx : Nat) (pa : Option Addr) (ca : Nat), i ≤ ks.length ∧ q = .int .i64 i ∧ av' = .slice pa (acc ++ atomsL (ks.take i)).length ca ∧ Acc wr base gx (.slice pa (acc ++ atomsL (ks.take i)).length ca) (acc ++ atomsL (ks.take i)) ∧ Moves w wr x gx ∧ Below base w wr ∧ BoxA wr w1.heap.size ⟨5, 0, ⟨#[]⟩, (ks.length : Int)⟩ ∧ w1.heap.size ≠ gx) (fun _ q _ => ks.length - (intOf q).toNat)
  case atStart => exact ⟨0, x, pv, cv, Nat.zero_le _, rfl, by simp [atomsL], by simpa [atomsL] using HA.out.below hW2, Moves.below hW2, hW2.mono HA.out.bs, HBX.out, by omega⟩
  case round =>
    obtain ⟨i, gx, pa, ca, hi, rfl, rfl, hac, hM, hB, hbx, hne⟩ := hrel
    by_cases hlt : i < ks.length
    · obtain ⟨vi, hvi, hdi⟩ := DatL.at (DatL.moves hM _ _ HDL.out) i hlt
      have hrw := HRW.out.moves hM
      obtain ⟨y, u, rfl⟩ := hdi.isIface
      rcases hrw with h | ⟨gp, op, rfl, hg1, hg2, hcl⟩
      · rw [h] at hvi; simp at hvi
      have e0 := hcl i _ hvi
      have hsx := atomsL_take_le ks (i + 1)
      have hst := atomsL_stepE ks i hlt
      have hsl := congrArg List.length hst
      rw [List.length_append] at hsl
      have HC := hide (HIH.out i hlt _ gx base _ (acc ++ atomsL (ks.take i)) wr (by rw [List.length_append]; unfold T.count; omega) hdi hac)
      have HST : Hid (acc ++ atomsL (ks.take i) ++ (ks[i]).atoms = acc ++ atomsL (ks.take (i + 1))) := hide (by rw [hst, List.append_assoc])
      rw [HST.out] at HC
      have HM := hide hM
      have HX := hide hbx
      clear hdi hac hcl hsx hst hsl hM hbx
      generalize (acc ++ atomsL (ks.take i)).length = la at *
      go_wp2_with fail
      refine HC.out.mono ?_
      rintro e w2 ⟨g2, c2, rfl, a2, m2, b2⟩
      have HA2 := hide a2
      clear a2
      go_wp2
      go_roundw
      case rel => exact ⟨i + 1, g2, _, c2, by omega, by go_num, by simp, HA2.out, HM.out.trans m2, hB.trans b2, HX.out.moves m2 hne, m2.other _ HX.out.1 hne⟩
      case measure => simp [intOf]; omega
    · obtain rfl : i = ks.length := by omega
      rw [List.take_length] at hac ⊢
      obtain ⟨-, x0, x1, x2, x3⟩ := hbx
      have HAC := hide hac
      have hbs := hac.bs
      have hle : (acc ++ atomsL ks).length + 1 ≤ 100000 := by rw [List.length_append]; omega
      generalize acc ++ atomsL ks = acc2 at *
      clear hac
      go_wp2_with (at_builtin; refine wpList_append_own_at _ rfl _ _ 26 rfl base 44 iN _ 4 40 Tryz.underlying26 hNi hNz hNs hNb rfl (by decide) (.slice pa acc2.length ca) acc2.length (cellsOf acc2) rfl (HAC.out.own.alloc _) ⟨wr.heap.size, 0, none⟩ 1 1 (cellsOf [⟨5, 0, ⟨#[]⟩, (ks.length : Int)⟩]) rfl rfl (four_newE _ _ _ _ _ _) (cells_oneE _) (by unfold maxLen; omega) (by omega) (by simp; omega) ?_)
      intro v5 w5 h1 h2 h3 h4
      obtain ⟨g5, c5, rfl, r1, r2, r3⟩ := acc_next (HAC.out.below ((Below.refl _ _).alloc (Nat.le_refl _) _)) (x := gx) (w := wr) (Moves.below ((Below.refl _ _).alloc (Nat.le_refl _) _)) ((Below.refl base wr).alloc hbs _) h1 h2 (by simpa using h4)
      have HR1 := hide r1
      clear h1 h2 h3 h4 r1
      go_wp2
      go_ret
      exact ⟨g5, c5, by rw [HT5.out]; rfl, by rw [HT5.out]; exact HR1.out, hM.trans r2, hB.trans r3⟩
end Go.Proofs.YtnkfbjcgkdblgaaGreat.Vl
