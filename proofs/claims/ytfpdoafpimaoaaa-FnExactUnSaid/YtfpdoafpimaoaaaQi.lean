/- Walks: copies, the fields of a record, on the program's side. -/
import Derived.Test.YtfpdoafpimaoaaaQh
import Derived.Test.YtfpdoafpimaoaaaQe
import Derived.Lib.SliceRun
namespace Go.Proofs.Ytfpdoafpimaoaaa.Vl
open Go.RowKit T.atoms T.ok T.high T.good T.allPlain DatAt

theorem Try.infoDat : (Try.prog.info? 49).map (fun i => (i.zero, i.size, i.bytes)) = some (some .nilIface, 1, 16) := by kernel_rfl
theorem Try.infoFld : (Try.prog.info? 95).map (fun i => (i.zero, i.size, i.bytes)) = some (some (.agg #[.string ⟨#[]⟩, .nilIface]), 2, 32) := by kernel_rfl

/-- A slice's cells, in whatever block. -/
def RowC (w : World) (p : Option Addr) (vs : List Value) : Prop := vs = [] ∨ ∃ g o, p = some ⟨g, o, none⟩ ∧ g < w.heap.size ∧ CellsAt w g o vs
theorem RowC.below {w w' : World} {p : Option Addr} {vs : List Value} (h : RowC w p vs) (hb : Below w.heap.size w w') : RowC w' p vs := by
  rcases h with h | ⟨g, o, h1, h2, h3⟩
  · exact .inl h
  · exact .inr ⟨g, o, h1, Nat.lt_of_lt_of_le h2 hb.size, h3.heap (hb.block g h2)⟩
theorem row_cells {w : World} {base : Nat} {e : TypeId} {size g n cap : Nat} {xs : List Value} (h : w.ownsRow base e size (.slice (some ⟨g, 0, none⟩) n cap) n xs) : CellsAt w g 0 xs := by
  intro j u hu
  have hj : j < n * size := by have := (List.getElem?_eq_some_iff.1 hu).1; rw [h.1] at this; exact this
  rw [Nat.zero_add, h.cellAt j hj]
  exact hu

set_option maxRecDepth 100000 in
set_option maxHeartbeats 400000 in
theorem cloneD_any (vs : List Value) (p : Option Addr) (c x : Nat) (w : World) (hn : vs.length ≤ 1048576) (h1 : ∀ u ∈ vs, u.oneCell' = true) (hr : RowC w p vs) (hx : x < w.heap.size) :
    Calls Try.prog 72 #[.slice p vs.length c] w fun e w' => ∃ p' c', e = .returned (.slice p' vs.length c') ∧ RowAt w' x p' vs ∧ vs.length ≤ c' ∧ Below w.heap.size w w' := by
  obtain ⟨iN, hN, hNz, hNs, hNb⟩ := info_parts Try.infoDat
  have q22 : ∀ (w : World) (a : Option Addr) (n c n' c' : Nat), (binOp .eql 74 (.slice a n c) (.slice none n' c')).run Try.prog w = .ok (.bool a.isNone) w := fun w a n c n' c' => Lib.run_eql_slice_nil w _ _ a n c n' c' Try.underlying74
  have HR := hide hr
  have H1 := hide h1
  clear hr h1
  cases p with
  | none =>
    have hv : vs = [] := by
      rcases HR.out with h | ⟨g, o, h, _⟩
      · exact h
      · cases h
    subst hv
    go_enter Try.func72, Try.ntmps72
    go_wp2
    go_ret
    exact ⟨none, 0, rfl, .inl rfl, Nat.le_refl _, Below.refl _ _⟩
  | some ad =>
    obtain ⟨g, o, sp⟩ := ad
    have HN : Hid (∀ (ob : Obj) (j : Nat) (u : Value), vs[j]? = some u → (w.alloc ob).cell? ((⟨g, o, sp⟩ : Addr).add j) = some u) := hide (by
      intro ob j u hu
      rcases HR.out with h | ⟨g', o', h, hg, hc⟩
      · subst h; simp at hu
      · cases h
        rw [add_plain]
        exact (((Below.refl w.heap.size w).alloc (Nat.le_refl _) ob).cell (p := ⟨g, o + j, none⟩) hg).trans (hc j u hu))
    go_enter Try.func72, Try.ntmps72
    go_wp2_with (at_builtin; refine wpList_append_own_at _ rfl _ _ 74 rfl w.heap.size 49 iN _ 1 16 Try.underlying74 hN hNz hNs hNb rfl (by decide) (.slice (some ⟨w.heap.size, 0, none⟩) 0 0) 0 [] rfl (World.ownsRow_lit (base := w.heap.size) w #[] 0 (Nat.le_refl _) (Nat.zero_le _) rfl) ⟨g, o, sp⟩ vs.length c vs rfl (by simp) (HN.out _) H1.out (by unfold maxLen; omega) (by omega) (by simp) ?_)
    intro v w1 hown1 hgrow1 hnil1 hat1
    obtain ⟨g', c', rfl, hg'⟩ := lies_form hown1 hnil1 (by simpa [Value.ownBlock] using hat1)
    have hb : Below w.heap.size w w1 := ((Below.refl _ _).alloc (Nat.le_refl _) _).grown hgrow1 (by simp) (fun q e => by simp [Value.ownBlock] at e; omega)
    have hro := row_room hown1
    have HRC := hide (row_cells hown1)
    clear hgrow1 hnil1 hat1 hown1
    go_wp2
    go_ret
    exact ⟨_, c', rfl, .inr ⟨g', 0, rfl, by omega, hro.2.2, HRC.out⟩, hro.1, hb⟩

theorem less_total : ∀ a b : List UInt8, (Go.Op.bytesLess a b || (a == b)) = !Go.Op.bytesLess b a
  | [], [] => rfl
  | [], _ :: _ => rfl
  | _ :: _, [] => rfl
  | x :: a, y :: b => by
    have ih := less_total a b
    simp only [Go.Op.bytesLess, List.cons_beq_cons]
    have h3 : x < y ∨ x = y ∨ y < x := by
      rcases Nat.lt_trichotomy x.toNat y.toNat with h | h | h
      · exact .inl (UInt8.lt_iff_toNat_lt.2 h)
      · exact .inr (.inl (UInt8.toNat_inj.1 h))
      · exact .inr (.inr (UInt8.lt_iff_toNat_lt.2 h))
    rcases h3 with h | h | h
    · have h1 : ¬ y < x := UInt8.lt_asymm h
      have h2 : ¬ y = x := fun e => by subst e; exact UInt8.lt_irrefl _ h
      simp [h, h1, h2]
    · subst h
      have h1 : ¬ x < x := UInt8.lt_irrefl _
      simpa [h1] using ih
    · have h1 : ¬ x < y := UInt8.lt_asymm h
      have h2 : ¬ x = y := fun e => by subst e; exact UInt8.lt_irrefl _ h
      simp [h, h1, h2]
theorem ta_text_yes (x : ByteArray) (w : World) : (Instr.typeAssert (.iface 83 (.string x)) 49 83 true).run Try.prog w = .ok (.tuple #[.string x, .bool true]) w := by kernel_rfl
theorem zero_text (w : World) : (zeroValue 83).run Try.prog w = .ok (.string ⟨#[]⟩) w := by kernel_rfl
theorem ta_text_no (t : TypeId) (v : Value) (w : World) (h : ¬ t = 83) : (Instr.typeAssert (.iface t v) 49 83 true).run Try.prog w = .ok (.tuple #[.string ⟨#[]⟩, .bool false]) w := by
  unfold Instr.typeAssert
  simp only [Sem.run_bind, run_underlying Try.underlying83, Result.andThen_ok, if_neg h, if_true, zero_text]
  rfl
theorem DatAt.text {w : World} {x : Nat} {t : T} {v : Value} (h : DatAt w x t v) (hk : t.kind = 4) : v = .iface 83 (.string t.text) := by
  cases t with
  | mk k n s ks =>
    unfold DatAt at h
    have hk : k = 4 := hk
    subst hk
    rcases h with ⟨e, _⟩ | ⟨e, _⟩ | ⟨e, _⟩ | ⟨_, e⟩ | ⟨e, _⟩ | ⟨e, _⟩
    all_goals first | exact e | omega
theorem DatAt.other {w : World} {x : Nat} {t : T} {v : Value} (h : DatAt w x t v) (hk : t.kind ≠ 4) : ∃ y u, v = .iface y u ∧ ¬ y = 83 := by
  cases t with
  | mk k n s ks =>
    unfold DatAt at h
    have hk : k ≠ 4 := hk
    rcases h with ⟨_, rfl⟩ | ⟨_, rfl⟩ | ⟨_, rfl⟩ | ⟨e, _⟩ | ⟨_, p, c, vs, rfl, _⟩ | ⟨_, p, c, m, vs, _, rfl, _⟩
    · exact ⟨_, _, rfl, by decide⟩
    · exact ⟨_, _, rfl, by decide⟩
    · exact ⟨_, _, rfl, by decide⟩
    · exact absurd e hk
    · exact ⟨_, _, rfl, by decide⟩
    · exact ⟨_, _, rfl, by decide⟩
theorem FldL.snoc {w : World} {x : Nat} : ∀ {l : List T} {vs : List Value} {a b : T} {v : Value}, FldL w x l vs → DatAt w x b v → FldL w x (l ++ [a, b]) (vs ++ [.string a.text, v])
  | [], vs, a, b, v, h, ht => by
    unfold FldL at h
    subst h
    show FldL w x [a, b] [.string a.text, v]
    unfold FldL
    exact ⟨v, [], rfl, ht, by unfold FldL; rfl⟩
  | [_], vs, a, b, v, h, ht => by unfold FldL at h; exact h.elim
  | c :: d :: r, vs, a, b, v, h, ht => by
    unfold FldL at h
    obtain ⟨u, vr, rfl, h2, h3⟩ := h
    show FldL w x (c :: d :: (r ++ [a, b])) (.string c.text :: u :: (vr ++ [.string a.text, v]))
    unfold FldL
    exact ⟨u, vr ++ [.string a.text, v], rfl, h2, FldL.snoc h3 ht⟩
theorem FldL.len {w : World} {x : Nat} : ∀ {l : List T} {vs : List Value}, FldL w x l vs → vs.length = l.length ∧ l.length % 2 = 0
  | [], vs, h => by unfold FldL at h; rw [h]; exact ⟨rfl, rfl⟩
  | [_], vs, h => by unfold FldL at h; exact h.elim
  | a :: b :: r, vs, h => by
    unfold FldL at h
    obtain ⟨v, vr, rfl, _, h3⟩ := h
    have := FldL.len h3
    simp only [List.length_cons]
    omega
theorem FldL.at {w : World} {x : Nat} : ∀ {l : List T} {vs : List Value}, FldL w x l vs → ∀ j (h : 2 * j + 1 < l.length), ∃ v, vs[2 * j]? = some (.string (l[2 * j]).text) ∧ vs[2 * j + 1]? = some v ∧ DatAt w x l[2 * j + 1] v
  | [_], vs, h, _, _ => by unfold FldL at h; exact h.elim
  | a :: b :: r, vs, h, 0, _ => by
    unfold FldL at h
    obtain ⟨v, vr, rfl, h2, _⟩ := h
    exact ⟨v, rfl, rfl, h2⟩
  | a :: b :: r, vs, h, j + 1, hj => by
    unfold FldL at h
    obtain ⟨v, vr, rfl, _, h3⟩ := h
    obtain ⟨u, h4, h5, h6⟩ := FldL.at h3 j (by simp at hj; omega)
    exact ⟨u, h4, h5, h6⟩
theorem FldL.one {w : World} {x : Nat} : ∀ {l : List T} {vs : List Value}, FldL w x l vs → ∀ u ∈ vs, u.oneCell' = true
  | [], vs, h, u, hu => by unfold FldL at h; subst h; cases hu
  | [_], vs, h, _, _ => by unfold FldL at h; exact h.elim
  | a :: b :: r, vs, h, u, hu => by
    unfold FldL at h
    obtain ⟨v, vr, rfl, h2, h3⟩ := h
    rcases List.mem_cons.1 hu with rfl | hu
    · rfl
    · rcases List.mem_cons.1 hu with rfl | hu
      · exact h2.one
      · exact FldL.one h3 u hu
end Go.Proofs.Ytfpdoafpimaoaaa.Vl
