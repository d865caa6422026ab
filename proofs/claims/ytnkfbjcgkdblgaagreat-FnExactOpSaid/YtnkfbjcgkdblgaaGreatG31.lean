/- Joined: Er, Et. -/
import Derived.Test.YtnkfbjcgkdblgaaGreatG29
import Derived.Test.YtnkfbjcgkdblgaaGreatG30
import Derived.Laws.OwnMore
namespace Go.Proofs.YtnkfbjcgkdblgaaGreat.Vl
open Go.RowKit T.atoms T.ok T.high T.good T.allPlain DatAt T.ord

theorem zero_cells (n : Nat) : (Builtin.zeroCells (Value.nilIface).cells n).size = n := by
  simp [Builtin.zeroCells, Value.cells]
/-- Grow of nothing. -/
theorem growD_any (n : Nat) (w : World) (hn : n ≤ 100000) : Calls Tryz.prog 125 #[.slice none 0 0, .int .i64 n] w fun e w' => ∃ v, e = .returned v ∧ w'.ownsRow w.heap.size 77 1 v 0 [] ∧ Below w.heap.size w w' := by
  obtain ⟨iD, hDi, hDz, hDs, hDb⟩ := info_parts Tryz.infoDat
  by_cases h0 : n = 0
  · subst h0
    refine (Any8.slices_Grow_room Tryz.growD none 0 0 0 w (by omega) (by omega) (by omega) (by omega)).mono ?_
    rintro e w' ⟨rfl, rfl⟩
    exact ⟨_, rfl, World.ownsRow_nil _ _ _ _, Below.refl _ _⟩
  · refine (Any8.slices_Grow_grow Tryz.growD iD .nilIface hDi hDz (by omega) none 0 0 n [] w (by omega) (by omega) (by rw [hDb]; omega) (by omega) (by simp) (fun _ => rfl) (fun a h => by cases h)).mono ?_
    rintro e w' ⟨rfl, rfl⟩
    have hge := grownCap_ge w (0 + n) 0 77
    have hle := grownCap_le_maxLen w (0 + n) 0 77 (by unfold maxLen; omega)
    have hsz : ((([] : List Value).toArray ++ Builtin.zeroCells (Value.nilIface).cells (0 + n - 0) ++ Builtin.zeroCells (Value.nilIface).cells (grownCap w (0 + n) 0 77 - (0 + n)))).size = grownCap w (0 + n) 0 77 := by
      rw [Array.size_append, Array.size_append, zero_cells, zero_cells]; simp only [List.size_toArray, List.length_nil]; omega
    show ∃ v, Ending.returned (Value.slice (some ⟨w.heap.size, 0, none⟩) 0 (grownCap w (0 + n) 0 77)) = .returned v ∧ (w.drew.alloc (.cells ((([] : List Value).toArray ++ Builtin.zeroCells (Value.nilIface).cells (0 + n - 0) ++ Builtin.zeroCells (Value.nilIface).cells (grownCap w (0 + n) 0 77 - (0 + n)))) 77)).ownsRow w.heap.size 77 1 v 0 [] ∧ Below w.heap.size w (w.drew.alloc (.cells ((([] : List Value).toArray ++ Builtin.zeroCells (Value.nilIface).cells (0 + n - 0) ++ Builtin.zeroCells (Value.nilIface).cells (grownCap w (0 + n) 0 77 - (0 + n)))) 77))
    generalize ((([] : List Value).toArray ++ Builtin.zeroCells (Value.nilIface).cells (0 + n - 0) ++ Builtin.zeroCells (Value.nilIface).cells (grownCap w (0 + n) 0 77 - (0 + n)))) = cs at *
    generalize grownCap w (0 + n) 0 77 = G at *
    exact ⟨_, rfl, ⟨by simp, .inr ⟨w.heap.size, G, cs, rfl, Nat.le_refl _, (Go.MapKept.heap_alloc w.drew _).1, Nat.zero_le _, hle, by rw [hsz]; simp, by simp⟩⟩, ((Below.refl _ _).drew).alloc (Nat.le_refl _) _⟩
theorem wpList_append_noneC {P : Program} {w : World} {ops : Array Oper} {rest : List Oper} {o : Oper} {a : Act} {Q : Exit → Act → World → Prop} (hgd : o.guard = none) (s x : Operand) (t : TypeId)
    (ho : o.op = .call { callee := .builtin .append, args := #[s, x], argTypes := #[t, t] })
    (base : Nat) (e : TypeId) (i : TypeInfo) (size c m : Nat) (hm : m = 0) (ht : P.underlying t = some (.slice e)) (hi : P.info? e = some i)
    (v : Value) (n : Nat) (xs : List Value) (hs : a.eval s = v) (hown : w.ownsRow base e size v n xs) (hx : a.eval x = .slice none m c)
    (h : wpList P ops Q rest (a.put o.dst v) w) : wpList P ops Q (o :: rest) a w := by
  subst hm
  refine wpList_plain hgd fun K hK => ?_
  have hrun : (Builtin.append_ #[t, t] o.type #[v, .slice none 0 c]).run P w = .ok v w := by
    rcases hown.2 with ⟨rfl, rfl⟩ | ⟨g, cap, cur, rfl, _, _, hnc, _⟩
    · simp [Builtin.append_, run_underlying ht, sizeOf, typeInfo, hi, Builtin.lenOf, Builtin.firstCells]
    · simp [Builtin.append_, run_underlying ht, sizeOf, typeInfo, hi, Builtin.lenOf, Builtin.firstCells, hnc, storeCells]
  unfold Oper.wp
  simp [execOp, ho, resolve, invoke, builtin, hs, hx, hrun, Result.andThen]
  exact hK _ _ h

/-- Values in a slice: nothing, or cells somewhere. -/
def SrcV (w : World) (v : Value) (vs : List Value) : Prop := ∃ p c, v = .slice p vs.length c ∧ (vs = [] ∨ ∃ g o, p = some ⟨g, o, none⟩ ∧ g < w.heap.size ∧ CellsAt w g o vs)
theorem SrcV.below {w w' : World} {v : Value} {vs : List Value} (h : SrcV w v vs) (hb : Below w.heap.size w w') : SrcV w' v vs := by
  obtain ⟨p, c, h1, h2⟩ := h
  refine ⟨p, c, h1, ?_⟩
  rcases h2 with h | ⟨g, o, a, b, d⟩
  · exact .inl h
  · exact .inr ⟨g, o, a, Nat.lt_of_lt_of_le b hb.size, d.heap (hb.block g b)⟩
set_option maxRecDepth 100000 in
set_option maxHeartbeats 1000000 in
theorem concat_any (va vb : Value) (va1 vb1 : List Value) (d : Nat) (w : World) (hd : d < w.heap.size) (h0 : w.cell? ⟨d, 0, none⟩ = some va) (h1 : w.cell? ⟨d, 1, none⟩ = some vb) (ha : SrcV w va va1) (hb : SrcV w vb vb1) (l1 : va1.length ≤ 10000) (l2 : vb1.length ≤ 10000) (o1 : ∀ u ∈ va1, u.oneCell' = true) (o2 : ∀ u ∈ vb1, u.oneCell' = true) :
    Calls Tryz.prog 97 #[.slice (some ⟨d, 0, none⟩) 2 2] w fun e w' => ∃ v, e = .returned v ∧ w'.ownsRow w.heap.size 77 1 v (va1.length + vb1.length) (va1 ++ vb1) ∧ Below w.heap.size w w' := by
  obtain ⟨iD, hDi, hDz, hDs, hDb⟩ := info_parts Tryz.infoDat
  have HA := hide ha
  have HB := hide hb
  obtain ⟨pa, ca, rfl, -⟩ := ha
  obtain ⟨pb, cb, rfl, -⟩ := hb
  have HG := hide (growD_any (va1.length + vb1.length) w (by omega))
  have H0 := hide h0
  have H1 := hide h1
  have O1 := hide o1
  have O2 := hide o2
  clear o1 o2
  have a1 : wrap64 ((va1.length : Int) + (vb1.length : Int)) = (va1.length : Int) + (vb1.length : Int) := by unfold wrap64; omega
  have n1 : ¬ ((va1.length : Int) < 0) := by omega
  have n2 : ¬ ((va1.length : Int) + (vb1.length : Int) < 0) := by omega
  go_enter Tryz.func97, Tryz.ntmps97
  go_wp2
  go_loopw [3, 11] (fun s q wr => w = wr ∧ ((q = .int .i64 0 ∧ s = .int .i64 0) ∨ (q = .int .i64 1 ∧ s = .int .i64 va1.length) ∨ (q = .int .i64 2 ∧ s = .int .i64 ((va1.length : Int) + vb1.length)))) (fun _ q _ => 2 - (intOf q).toNat)
  case atStart => exact ⟨rfl, .inl ⟨rfl, rfl⟩⟩
  case round =>
    obtain ⟨rfl, ⟨rfl, rfl⟩ | ⟨rfl, rfl⟩ | ⟨rfl, rfl⟩⟩ := hrel
    · go_wp2
      go_roundw
      case rel => exact ⟨by first | rfl | trivial, .inr (.inl ⟨rfl, rfl⟩)⟩
      case measure => simp [intOf]
    · go_wp2
      go_roundw
      case rel => exact ⟨by first | rfl | trivial, .inr (.inr ⟨rfl, rfl⟩)⟩
      case measure => simp [intOf]
    · go_wp2_with fail
      refine HG.out.mono ?_
      rintro e w1 ⟨v, rfl, hown, hb1⟩
      obtain ⟨p0, c0, rfl⟩ := row_formE hown
      have HO := hide hown
      have HB1 := hide hb1
      clear hown hb1
      go_wp2
      go_loopw [6, 27] (fun s q W => Below w.heap.size w W ∧ ((q = .int .i64 0 ∧ ∃ p c, s = .slice p 0 c ∧ W.ownsRow w.heap.size 77 1 (.slice p 0 c) 0 []) ∨ (q = .int .i64 1 ∧ ∃ p c, s = .slice p va1.length c ∧ W.ownsRow w.heap.size 77 1 (.slice p va1.length c) va1.length va1) ∨ (q = .int .i64 2 ∧ ∃ p c, s = .slice p (va1.length + vb1.length) c ∧ W.ownsRow w.heap.size 77 1 (.slice p (va1.length + vb1.length) c) (va1.length + vb1.length) (va1 ++ vb1)))) (fun _ q _ => 2 - (intOf q).toNat)
      case atStart => exact ⟨HB1.out, .inl ⟨rfl, p0, c0, rfl, HO.out⟩⟩
      case round =>
        obtain ⟨hBW, ⟨rfl, p3, c3, rfl, hown⟩ | ⟨rfl, p3, c3, rfl, hown⟩ | ⟨rfl, p3, c3, rfl, hown⟩⟩ := hrel
        · have e0 := (hBW.cell (p := ⟨d, 0, none⟩) hd).trans H0.out
          have hs := HA.out.below hBW
          have HOW := hide hown
          have hz := hBW.size
          obtain ⟨p9, c9, e9, h9⟩ := hs
          injection e9 with e91 e92 e93
          subst e91 e93
          clear hown e92
          cases pa with
          | none =>
            have hv : va1 = [] := by
              rcases h9 with h | ⟨g, o, h, _⟩
              · exact h
              · cases h
            have HV := hide hv
            have hv0 : va1.length = 0 := by rw [hv]; rfl
            have HV0 := hide hv0
            have HQ : Hid (wr.ownsRow w.heap.size 77 1 (.slice p3 0 c3) (0) ([])) := HOW
            clear hv hv0
            go_wp2_with (at_builtin; refine wpList_append_noneC rfl _ _ 75 rfl w.heap.size 77 iD 1 _ _ HV0.out Tryz.underlying75 hDi _ _ _ rfl HOW.out rfl ?_)
            go_wp2
            go_roundw
            case rel => exact ⟨hBW, .inr (.inl ⟨rfl, p3, c3, by rw [HV0.out], by rw [HV0.out, HV.out]; exact HQ.out⟩)⟩
            case measure => simp [intOf]
          | some ad =>
            obtain ⟨g9, o9, sp9⟩ := ad
            have HN : Hid (∀ (j : Nat) (u : Value), va1[j]? = some u → wr.cell? ((⟨g9, o9, sp9⟩ : Addr).add j) = some u) := hide (by
              intro j u hu
              rcases h9 with h | ⟨g', o', h, hg, hc⟩
              · rw [h] at hu; simp at hu
              · cases h
                rw [add_plain]
                exact hc j u hu)
            go_wp2_with (at_builtin; refine wpList_append_own_at _ rfl _ _ 75 rfl w.heap.size 77 iD _ 1 16 Tryz.underlying75 hDi hDz hDs hDb rfl (by decide) (.slice p3 (0) c3) (0) ([]) rfl HOW.out ⟨g9, o9, sp9⟩ va1.length ca va1 rfl (by simp) HN.out O1.out (by unfold maxLen; omega) (by omega) hz ?_)
            intro v5 w5 q1 q2 q3 q4
            obtain ⟨p5, c5, rfl⟩ := row_formE q1
            have hb5 : Below w.heap.size w w5 := hBW.grown q2 hz (fun k e => (HOW.out.lt k e).1)
            have HQ := hide q1
            clear q1 q2 q3 q4
            go_wp2
            go_roundw
            case rel => exact ⟨hb5, .inr (.inl ⟨rfl, p5, c5, by simp, by simpa using HQ.out⟩)⟩
            case measure => simp [intOf]
        · have e0 := (hBW.cell (p := ⟨d, 1, none⟩) hd).trans H1.out
          have hs := HB.out.below hBW
          have HOW := hide hown
          have hz := hBW.size
          obtain ⟨p9, c9, e9, h9⟩ := hs
          injection e9 with e91 e92 e93
          subst e91 e93
          clear hown e92
          cases pb with
          | none =>
            have hv : vb1 = [] := by
              rcases h9 with h | ⟨g, o, h, _⟩
              · exact h
              · cases h
            have HV := hide hv
            have hv0 : vb1.length = 0 := by rw [hv]; rfl
            have HV0 := hide hv0
            have HQ : Hid (wr.ownsRow w.heap.size 77 1 (.slice p3 va1.length c3) (va1.length) (va1)) := HOW
            clear hv hv0
            go_wp2_with (at_builtin; refine wpList_append_noneC rfl _ _ 75 rfl w.heap.size 77 iD 1 _ _ HV0.out Tryz.underlying75 hDi _ _ _ rfl HOW.out rfl ?_)
            go_wp2
            go_roundw
            case rel => exact ⟨hBW, .inr (.inr ⟨rfl, p3, c3, by rw [HV0.out]; rfl, by rw [HV0.out, HV.out, List.append_nil]; exact HQ.out⟩)⟩
            case measure => simp [intOf]
          | some ad =>
            obtain ⟨g9, o9, sp9⟩ := ad
            have HN : Hid (∀ (j : Nat) (u : Value), vb1[j]? = some u → wr.cell? ((⟨g9, o9, sp9⟩ : Addr).add j) = some u) := hide (by
              intro j u hu
              rcases h9 with h | ⟨g', o', h, hg, hc⟩
              · rw [h] at hu; simp at hu
              · cases h
                rw [add_plain]
                exact hc j u hu)
            go_wp2_with (at_builtin; refine wpList_append_own_at _ rfl _ _ 75 rfl w.heap.size 77 iD _ 1 16 Tryz.underlying75 hDi hDz hDs hDb rfl (by decide) (.slice p3 (va1.length) c3) (va1.length) (va1) rfl HOW.out ⟨g9, o9, sp9⟩ vb1.length cb vb1 rfl (by simp) HN.out O2.out (by unfold maxLen; omega) (by omega) hz ?_)
            intro v5 w5 q1 q2 q3 q4
            obtain ⟨p5, c5, rfl⟩ := row_formE q1
            have hb5 : Below w.heap.size w w5 := hBW.grown q2 hz (fun k e => (HOW.out.lt k e).1)
            have HQ := hide q1
            clear q1 q2 q3 q4
            go_wp2
            go_roundw
            case rel => exact ⟨hb5, .inr (.inr ⟨rfl, p5, c5, rfl, HQ.out⟩)⟩
            case measure => simp [intOf]
        · have HOW := hide hown
          clear hown
          go_wp2
          go_ret
          exact ⟨_, rfl, HOW.out, hBW⟩
end Go.Proofs.YtnkfbjcgkdblgaaGreat.Vl
namespace Go.Proofs.YtnkfbjcgkdblgaaGreat.Vl
open Go.RowKit T.atoms T.ok T.high T.good T.allPlain DatAt T.ord

theorem DatL.append {w : World} {x : Nat} : ∀ {a b : List T} {va vb : List Value}, DatL w x a va → DatL w x b vb → DatL w x (a ++ b) (va ++ vb)
  | [], b, va, vb, h, h2 => by unfold DatL at h; subst h; exact h2
  | t :: r, b, va, vb, h, h2 => by
    unfold DatL at h
    obtain ⟨v, vr, rfl, h3, h4⟩ := h
    show DatL w x (t :: (r ++ b)) (v :: (vr ++ vb))
    unfold DatL
    exact ⟨v, _, rfl, h3, DatL.append h4 h2⟩
theorem listT_good {ks : List T} (hg : goodL ks = true) (h : listOk ks = true) : (T.mk 5 0 ⟨#[]⟩ ks).good = true := by
  unfold listOk at h
  have h := of_decide_eq_true h
  rw [T.good_eq]
  simp only [T.kind, T.num, T.text, T.ks, Bool.and_eq_true]
  refine ⟨⟨?_, decide_eq_true h.2.2⟩, hg⟩
  unfold plain
  simp [h.1]
  rfl
def catLR (t u : T) : Out := if listOk (t.ks ++ u.ks) = true then .inr (.mk 5 0 ⟨#[]⟩ (t.ks ++ u.ks)) else .inl lgW
theorem src_of {w : World} {x : Nat} {p : Option Addr} {n c : Nat} {vs : List Value} (hn : vs.length = n) (h : RowAt w x p vs) : SrcV w (.slice p n c) vs := by
  subst hn
  refine ⟨p, c, rfl, ?_⟩
  rcases h with h | ⟨g, o, h1, _, h3, h4⟩
  · exact .inl h
  · exact .inr ⟨g, o, h1, h3, h4⟩
theorem highL_append (a b : List T) : highL (a ++ b) = max (highL a) (highL b) := by
  induction a with
  | nil => simp [highL]
  | cons t r ih => simp only [List.cons_append, highL, ih]; omega

set_option maxRecDepth 100000 in
set_option maxHeartbeats 1000000 in
theorem leaf_catL : LeafLL 66 catLR := fun W t u x y p n c a d p' n' c' a' d' _ hg hg' hc hc' _ _ h4 h5 => by
  obtain ⟨hk, rfl, vs, hcap, hD, hR⟩ := list_of h4
  obtain ⟨hk', rfl, vs', hcap', hD', hR'⟩ := list_of h5
  have hla := len_le_atomsL t.ks
  have hlb := len_le_atomsL u.ks
  have hct := T.count_eq t
  have hcu := T.count_eq u
  have hgk : goodL t.ks = true := by
    have : t = .mk t.kind t.num t.text t.ks := T.eta t
    rw [this] at hg
    exact good_kids hg
  have hgk' : goodL u.ks = true := by
    have : u = .mk u.kind u.num u.text u.ks := T.eta u
    rw [this] at hg'
    exact good_kids hg'
  have hgg : goodL (t.ks ++ u.ks) = true := by rw [goodL_append, hgk, hgk']; rfl
  have hh1 := highL_good _ hgg
  have hvl := DatL.len hD
  have hvl' := DatL.len hD'
  have hal : (atomsL (t.ks ++ u.ks)).length ≤ 10000 := by rw [atomsL_append, List.length_append]; omega
  have HLF : Hid (∀ s ∈ t.ks ++ u.ks, s.leafy) := hide (fun s hs => leafy_of_good (goodL_mem _ hgg s hs))
  have HGD := hide (fun h => listT_good hgg h)
  -- the boxes
  have hB : Below W.heap.size W ((W.alloc (.cells #[.slice p t.ks.length c, .int .i64 a, .int .i64 d] 95)).alloc (.cells #[.slice p' u.ks.length c', .int .i64 a', .int .i64 d'] 95)) := ((Below.refl _ _).alloc (Nat.le_refl _) _).alloc (by simp) _
  have HCC : Hid (∀ W' dd, Below W.heap.size W W' → dd < W'.heap.size → W'.cell? ⟨dd, 0, none⟩ = some (.slice p t.ks.length c) → W'.cell? ⟨dd, 1, none⟩ = some (.slice p' u.ks.length c') → Calls Tryz.prog 97 #[.slice (some ⟨dd, 0, none⟩) 2 2] W' fun e w' => ∃ v, e = .returned v ∧ w'.ownsRow W'.heap.size 77 1 v (vs.length + vs'.length) (vs ++ vs') ∧ Below W'.heap.size W' w') := hide (by
    intro W' dd hb hd h0 h1
    exact concat_any _ _ vs vs' dd W' hd h0 h1 (src_of hvl (hR.moves (Moves.below (x := x) hb))) (src_of hvl' (hR'.moves (Moves.below (x := y) hb))) (by omega) (by omega) (DatL.one hD) (DatL.one hD'))
  have HNL : Hid (∀ W' q cq, Below W.heap.size W W' → RowAt W' W.heap.size q (vs ++ vs') → Calls Tryz.prog 96 #[.slice q (t.ks ++ u.ks).length cq] W' fun e w' => e = .returned (.tuple #[.iface 95 (.agg #[.slice q (t.ks ++ u.ks).length cq, .int .i64 (1 + (atomsL (t.ks ++ u.ks)).length : Nat), .int .i64 (highL (t.ks ++ u.ks) : Nat)]), .bool (listOk (t.ks ++ u.ks))]) ∧ Below W'.heap.size W' w') := hide (by
    intro W' q cq hb hrow
    exact newList_big (t.ks ++ u.ks) (vs ++ vs') q cq W.heap.size W' hal (by omega) (DatL.append (DatL.moves (Moves.fresh hb (Nat.le_refl _)) _ _ hD) (DatL.moves (Moves.fresh hb (Nat.le_refl _)) _ _ hD')) hrow HLF.out)
  have HDT : Hid (∀ W' q cq, Below W.heap.size W W' → (t.ks ++ u.ks).length ≤ cq → RowAt W' W.heap.size q (vs ++ vs') → DatAt W' W.heap.size (.mk 5 0 ⟨#[]⟩ (t.ks ++ u.ks)) (.iface 95 (.agg #[.slice q (t.ks ++ u.ks).length cq, .int .i64 (1 + (atomsL (t.ks ++ u.ks)).length : Nat), .int .i64 (highL (t.ks ++ u.ks) : Nat)]))) := hide (by
    intro W' q cq hb hcq hrow
    unfold DatAt
    exact .inr (.inr (.inr (.inr (.inl ⟨rfl, q, cq, vs ++ vs', rfl, hcq, DatL.append (DatL.moves (Moves.fresh hb (Nat.le_refl _)) _ _ hD) (DatL.moves (Moves.fresh hb (Nat.le_refl _)) _ _ hD'), hrow⟩)))))
  have HCT : Hid (listOk (t.ks ++ u.ks) = true → (T.mk 5 0 ⟨#[]⟩ (t.ks ++ u.ks)).count ≤ 1000) := hide (fun h => by
    unfold listOk at h
    have h := of_decide_eq_true h
    rw [T.count_eq]
    exact h.2.1)
  have hlen : vs.length + vs'.length = (t.ks ++ u.ks).length := by rw [List.length_append]; omega
  have HLE := hide hlen
  have hl9 : (t.ks ++ u.ks).length ≤ 10000 := by rw [← hlen]; omega
  have HB := hide hB
  unfold catLR
  clear hD hD' hR hR' h4 h5 hcap hcap' hgk hgk' hgg hh1 hal hla hlb hct hcu hvl hvl' hg hg' hc hc' hB hlen
  generalize (T.mk 5 0 ⟨#[]⟩ (t.ks ++ u.ks)) = tt at *
  generalize ((1 + (atomsL (t.ks ++ u.ks)).length : Nat) : Int) = z1 at *
  generalize ((highL (t.ks ++ u.ks) : Nat) : Int) = z2 at *
  cases hok : listOk (t.ks ++ u.ks)
  all_goals
    rw [hok] at HNL HGD HCT
    generalize (t.ks ++ u.ks).length = nn at *
    have hB3 : Below W.heap.size W (((W.alloc (.cells #[.slice p t.ks.length c, .int .i64 a, .int .i64 d] 95)).alloc (.cells #[.slice p' u.ks.length c', .int .i64 a', .int .i64 d'] 95)).alloc (.cells #[.slice p t.ks.length c, .slice p' u.ks.length c'] 75)) := HB.out.alloc HB.out.size _
    have tn := two_new ((W.alloc (.cells #[.slice p t.ks.length c, .int .i64 a, .int .i64 d] 95)).alloc (.cells #[.slice p' u.ks.length c', .int .i64 a', .int .i64 d'] 95)) (.slice p t.ks.length c) (.slice p' u.ks.length c') 75
    simp only [World.size_alloc] at tn
    have HX := hide (HCC.out (((W.alloc (.cells #[.slice p t.ks.length c, .int .i64 a, .int .i64 d] 95)).alloc (.cells #[.slice p' u.ks.length c', .int .i64 a', .int .i64 d'] 95)).alloc (.cells #[.slice p t.ks.length c, .slice p' u.ks.length c'] 75)) (W.heap.size + 1 + 1) hB3 (by simp) (tn 0 _ rfl) (tn 1 _ rfl))
    have HB3 := hide hB3
    clear HCC hB3 tn
    go_enter Tryz.func66, Tryz.ntmps66
    go_wp2_with fail
    refine HX.out.mono ?_
    rintro e w1 ⟨v, rfl, hown, hb1⟩
    have B1 := HB3.out.trans (hb1.mono HB3.out.size)
    simp only [World.size_alloc] at hown
    rw [HLE.out] at hown
    obtain ⟨q, cq, rfl⟩ := row_formE hown
    have hcq : nn ≤ cq := by
      rcases hown.2 with ⟨h, h0⟩ | ⟨g9, c9, cur, h, _, _, h3, _⟩
      · omega
      · injection h with _ _ h; omega
    have hrow : RowAt w1 W.heap.size q (vs ++ vs') := by
      rcases hown.2 with ⟨h, h0⟩ | ⟨g9, c9, cur, h, hge, _, _⟩
      · left
        have := hown.1
        exact List.eq_nil_of_length_eq_zero (by omega)
      · injection h with h1 _ h3
        subst h1 h3
        exact .inr ⟨g9, 0, rfl, by omega, (hown.lt g9 rfl).2, row_cells hown⟩
    have HR1 := hide hrow
    have HN1 := hide (HNL.out w1 q cq B1 hrow)
    clear hown hrow hb1 HX
    go_wp2_with fail
    refine HN1.out.mono ?_
    rintro e w2 ⟨rfl, hb2⟩
    have B2 := B1.trans (hb2.mono B1.size)
    have HR2 := hide (HR1.out.moves (Moves.below (x := W.heap.size) hb2))
    clear hb2 HN1
    go_wp2_with fail
  · refine (unless_no _ _).mono ?_
    rintro e w3 ⟨rfl, rfl⟩
    go_wp2
    go_ret2
    exact ⟨_, _, rfl, B2, rfl, rfl⟩
  · refine (unless_yes _ _ _).mono ?_
    rintro e w3 ⟨rfl, rfl⟩
    go_wp2
    go_ret2
    exact ⟨_, _, rfl, B2, rfl, HGD.out trivial, HCT.out trivial, _, HDT.out _ q cq B2 hcq HR2.out⟩
end Go.Proofs.YtnkfbjcgkdblgaaGreat.Vl
