/- Joined: Ez. -/
import Derived.Test.YtnkfbjcgkdblgaaGreatG34
namespace Go.Proofs.YtnkfbjcgkdblgaaGreat.Vl
open Go.RowKit T.atoms T.ok T.high T.good T.allPlain DatAt T.ord

/-- The fields that another record has not. -/
def keptF (ks : List T) (fa : List Fe) : List Fe := fa.filter fun e => !(getAt ks e.1.text).isSome
theorem keptF_step (ks : List T) (fa : List Fe) (i : Nat) (h : i < fa.length) : keptF ks (fa.take (i + 1)) = keptF ks (fa.take i) ++ (if (getAt ks (fa[i]).1.text).isSome then [] else [fa[i]]) := by
  unfold keptF
  rw [List.take_succ_eq_append_getElem h, List.filter_append]
  congr 1
  cases hb : (getAt ks (fa[i]).1.text).isSome
  all_goals simp only [List.filter_cons, List.filter_nil, hb, Bool.not_false, Bool.not_true, if_true, Bool.false_eq_true, if_false]
theorem keptF_len (ks : List T) (fa : List Fe) : (keptF ks fa).length ≤ fa.length := List.length_filter_le ..
/-- The state of addRecords' loop. -/
structure RJ (w : World) (v : Value) (lo : List Fe) (W : World) : Prop where
  B : Below w.heap.size w W
  k : W.ownsRow w.heap.size 131 2 v lo.length (lo.flatMap encF)
theorem RJ.below {w W W' : World} {v : Value} {lo : List Fe} (h : RJ w v lo W) (hb : Below W.heap.size W W') : RJ w v lo W' := ⟨h.B.trans (hb.mono h.B.size), row_below h.k hb⟩
theorem RJ.add {w W W' : World} {v v' : Value} {lo : List Fe} {e : Fe} {n : Nat} (h : RJ w v lo W) (hg : W.grownBy W' v.ownBlock) (hn : n = lo.length + 1) (ho : W'.ownsRow w.heap.size 131 2 v' n (lo.flatMap encF ++ encF e)) : RJ w v' (lo ++ [e]) W' := by
  subst hn
  refine ⟨h.B.grown hg h.B.size (fun q hq => (h.k.lt q hq).1), ?_⟩
  rw [List.flatMap_append, List.length_append]
  simpa using ho
theorem atomsL_flat (l : List T) : atomsL l = l.flatMap T.atoms := by
  induction l with
  | nil => rfl
  | cons t r ih => rw [List.flatMap_cons, ← ih]; rfl
theorem keptF_atoms (ks : List T) (fa : List Fe) : (atomsL ((keptF ks fa).flatMap kidsF)).length ≤ (atomsL (fa.flatMap kidsF)).length := by
  induction fa with
  | nil => exact Nat.le_refl _
  | cons e r ih =>
    unfold keptF at ih ⊢
    rw [List.filter_cons]
    split
    · rw [List.flatMap_cons, List.flatMap_cons, atomsL_append, atomsL_append, List.length_append, List.length_append]; omega
    · rw [List.flatMap_cons, atomsL_append, List.length_append]; omega
theorem goodL_all : ∀ l : List T, (∀ t ∈ l, t.good = true) → goodL l = true
  | [], _ => rfl
  | t :: r, h => by
    have h1 := h t (List.mem_cons_self ..)
    have h2 := goodL_all r (fun s hs => h s (List.mem_cons_of_mem _ hs))
    show (t.good && goodL r) = true
    rw [h1, h2]; rfl
theorem three_newF (w : World) (a b c : Value) (t : TypeId) : (w.alloc (.cells #[a, b, c] t)).cell? ⟨w.heap.size, 0, none⟩ = some a ∧ (w.alloc (.cells #[a, b, c] t)).cell? ⟨w.heap.size, 1, none⟩ = some b ∧ (w.alloc (.cells #[a, b, c] t)).cell? ⟨w.heap.size, 2, none⟩ = some c := ⟨by simp, by simp, by simp⟩
theorem rowC_of {w : World} {x : Nat} {p : Option Addr} {vs : List Value} (h : RowAt w x p vs) : RowC w p vs := by
  rcases h with h | ⟨g, o, h1, _, h3, h4⟩
  · exact .inl h
  · exact .inr ⟨g, o, h1, h3, h4⟩
theorem recT_good {ks : List T} (hg : goodL ks = true) (hn : names ks = true) (he : ks.length % 2 = 0) (h : recOk ks = true) : (T.mk 6 0 ⟨#[]⟩ ks).good = true := by
  unfold recOk at h
  have h := of_decide_eq_true h
  rw [T.good_eq]
  simp only [T.kind, T.num, T.text, T.ks, Bool.and_eq_true]
  refine ⟨⟨?_, decide_eq_true h.2.2⟩, hg⟩
  unfold plain
  simp [h.1, he, hn]
  rfl
theorem one_newF (w : World) (a b : Value) (t : TypeId) : ∀ j z, [a, b][j]? = some z → (w.alloc (.cells #[a, b] t)).cell? ((⟨w.heap.size, 0, none⟩ : Addr).add j) = some z := by
  intro j z h
  rw [add_plain, Nat.zero_add, World.cell?, heap_alloc_new]
  simpa using h
def catRR (R : T → T → List T) (t u : T) : Out := if recOk (R t u) = true then .inr (.mk 6 0 ⟨#[]⟩ (R t u)) else .inl lgW
set_option maxRecDepth 100000 in
set_option maxHeartbeats 2000000 in
theorem leaf_catR (R : T → T → List T) (hR : ∀ (t u : T) (fa fb d : List Fe), t.good = true → u.good = true → t.kind = 6 → u.kind = 6 → t.ks = fa.flatMap kidsF → u.ks = fb.flatMap kidsF → d.Perm (fb ++ keptF u.ks fa) → d.Pairwise (fun a b => ltOf cfF b a = false) → d.flatMap kidsF = R t u ∧ names (R t u) = true) : LeafRR 68 (catRR R) := fun W t u x y p n c a d p' n' c' a' d' _ hg hg' hc hc' _ _ h4 h5 => by
  obtain ⟨iN, hN, hNz, hNs, hNb⟩ := info_parts Tryz.infoFld
  obtain ⟨hk, hm, vs, hcap, hD, hRw⟩ := rec_of h4
  obtain ⟨hk', hm', vs', hcap', hD', hRw'⟩ := rec_of h5
  have hla := len_le_atomsL t.ks
  have hlb := len_le_atomsL u.ks
  have hct := T.count_eq t
  have hcu := T.count_eq u
  have hgk : goodL t.ks = true := by
    have : t = .mk t.kind t.num t.text t.ks := T.eta t
    rw [this] at hg
    exact good_kids hg
  have hgk' : goodL u.ks = true := by
    have : u = .mk u.kind u.num u.text u.ks := T.eta u
    rw [this] at hg'
    exact good_kids hg'
  obtain ⟨fa, ea, va, hda⟩ := FldL.els hD
  obtain ⟨fb, eb, vb, hdb⟩ := FldL.els hD'
  have hfa : fa.length = n := by have := kidsF_len fa; rw [← ea] at this; omega
  have hfb : fb.length = n' := by have := kidsF_len fb; rw [← eb] at this; omega
  have hn1 : n ≤ 1000 := by omega
  have hn2 : n' ≤ 1000 := by omega
  have hB0 : Below W.heap.size W ((W.alloc (.cells #[.slice p n c, .int .i64 a, .int .i64 d] 100)).alloc (.cells #[.slice p' n' c', .int .i64 a', .int .i64 d'] 100)) := ((Below.refl _ _).alloc (Nat.le_refl _) _).alloc (by simp) _
  have HCL := hide (cloneF_any vs' p' n' c' _ (by have := (FldL.len hD').1; omega) (by omega) (FldL.one hD') (rowC_of (hRw'.moves (Moves.below (x := y) hB0))))
  have HBX : Hid (∀ W', Below (W.heap.size + 1 + 1) ((W.alloc (.cells #[.slice p n c, .int .i64 a, .int .i64 d] 100)).alloc (.cells #[.slice p' n' c', .int .i64 a', .int .i64 d'] 100)) W' → W'.cell? ⟨W.heap.size, 0, none⟩ = some (.slice p n c) ∧ W'.cell? ⟨W.heap.size + 1, 0, none⟩ = some (.slice p' n' c') ∧ W'.cell? ⟨W.heap.size + 1, 1, none⟩ = some (.int .i64 a') ∧ W'.cell? ⟨W.heap.size + 1, 2, none⟩ = some (.int .i64 d')) := hide (by
    intro W' hb
    have b1 : Below (W.heap.size + 1) (W.alloc (.cells #[.slice p n c, .int .i64 a, .int .i64 d] 100)) ((W.alloc (.cells #[.slice p n c, .int .i64 a, .int .i64 d] 100)).alloc (.cells #[.slice p' n' c', .int .i64 a', .int .i64 d'] 100)) := (Below.refl _ _).alloc (by simp) _
    have n2 := three_newF (W.alloc (.cells #[.slice p n c, .int .i64 a, .int .i64 d] 100)) (.slice p' n' c') (.int .i64 a') (.int .i64 d') 100
    simp only [World.size_alloc] at n2
    exact ⟨(hb.cell (p := ⟨W.heap.size, 0, none⟩) (by show W.heap.size < _; omega)).trans ((b1.cell (p := ⟨W.heap.size, 0, none⟩) (Nat.lt_succ_self _)).trans (by simp)), (hb.cell (p := ⟨W.heap.size + 1, 0, none⟩) (Nat.lt_succ_self _)).trans n2.1, (hb.cell (p := ⟨W.heap.size + 1, 1, none⟩) (Nat.lt_succ_self _)).trans n2.2.1, (hb.cell (p := ⟨W.heap.size + 1, 2, none⟩) (Nat.lt_succ_self _)).trans n2.2.2⟩)
  have HFD := hide (fun W' nm (hb : Below W.heap.size W W') => find_any u p' n' c' y a' d' vs' nm W' hg' hk' hm' (by omega) (FldL.moves (Moves.below (x := y) hb) _ _ hD') (hRw'.moves (Moves.below (x := y) hb)))
  have HCA : Hid (∀ i (h : i < fa.length), ∃ g o, p = some ⟨g, o, none⟩ ∧ g < W.heap.size ∧ W.cell? ⟨g, o + i * 2, none⟩ = some (.string (fa[i]).1.text) ∧ W.cell? ⟨g, o + i * 2 + 1, none⟩ = some (.iface (fa[i]).2.2.1 (fa[i]).2.2.2)) := hide (by
    intro i h
    obtain ⟨q1, q2⟩ := encF_at fa i h
    rw [← va] at q1 q2
    rcases hRw with hn | ⟨g, o, h1, _, h3, h4⟩
    · rw [hn] at q1; simp at q1
    · refine ⟨g, o, h1, h3, ?_, ?_⟩
      · rw [Nat.mul_comm]; exact h4 _ _ q1
      · rw [Nat.mul_comm, Nat.add_assoc]; exact h4 _ _ q2)
  have hmem : ∀ dd : List Fe, dd.Perm (fb ++ keptF u.ks fa) → ∀ e ∈ dd, (e ∈ fb ∨ e ∈ fa) := by
    intro dd hp e he
    rcases List.mem_append.1 (hp.mem_iff.1 he) with h | h
    · exact .inl h
    · exact .inr (List.mem_filter.1 h).1
  have hgood : ∀ dd : List Fe, dd.Perm (fb ++ keptF u.ks fa) → goodL (dd.flatMap kidsF) = true := by
    intro dd hp
    refine goodL_all _ (fun s hs => ?_)
    obtain ⟨e, he, hs⟩ := List.mem_flatMap.1 hs
    rcases hmem dd hp e he with h | h
    · exact goodL_mem _ hgk' s (by rw [eb]; exact List.mem_flatMap.2 ⟨e, h, hs⟩)
    · exact goodL_mem _ hgk s (by rw [ea]; exact List.mem_flatMap.2 ⟨e, h, hs⟩)
  have hatoms : ∀ dd : List Fe, dd.Perm (fb ++ keptF u.ks fa) → (atomsL (dd.flatMap kidsF)).length ≤ 10000 := by
    intro dd hp
    have h1 : (atomsL (dd.flatMap kidsF)).length = (atomsL ((fb ++ keptF u.ks fa).flatMap kidsF)).length := by
      rw [atomsL_flat, atomsL_flat]
      exact ((hp.flatMap_right kidsF).flatMap_right T.atoms).length_eq
    have h2 := keptF_atoms u.ks fa
    rw [← ea] at h2
    rw [h1, List.flatMap_append, atomsL_append, List.length_append, ← eb]
    omega
  have HNR : Hid (∀ W' (dd : List Fe) q cq, Below W.heap.size W W' → dd.Perm (fb ++ keptF u.ks fa) → dd.Pairwise (fun a b => ltOf cfF b a = false) → RowAt W' W.heap.size q (dd.flatMap encF) → (Calls Tryz.prog 102 #[.slice q dd.length cq] W' fun e w' => e = .returned (.tuple #[.iface 100 (.agg #[.slice q dd.length cq, .int .i64 (1 + (atomsL (R t u)).length : Nat), .int .i64 (highL (R t u) : Nat)]), .bool (recOk (R t u))]) ∧ Below W'.heap.size W' w') ∧ (recOk (R t u) = true → (T.mk 6 0 ⟨#[]⟩ (R t u)).good = true ∧ (T.mk 6 0 ⟨#[]⟩ (R t u)).count ≤ 1000) ∧ ∀ W3, Below W'.heap.size W' W3 → dd.length ≤ cq → DatAt W3 W.heap.size (.mk 6 0 ⟨#[]⟩ (R t u)) (.iface 100 (.agg #[.slice q dd.length cq, .int .i64 (1 + (atomsL (R t u)).length : Nat), .int .i64 (highL (R t u) : Nat)]))) := hide (by
    intro W' dd q cq hb hp hpw hrow
    obtain ⟨e1, e2⟩ := hR t u fa fb dd hg hg' hk hk' ea eb hp hpw
    have hgg := hgood dd hp
    have haa := hatoms dd hp
    have hkl := kidsF_len dd
    have hdat : ∀ e ∈ dd, DatAt W' W.heap.size e.2.1 (.iface e.2.2.1 e.2.2.2) := by
      intro e he
      rcases hmem dd hp e he with h | h
      · exact DatAt.moves (Moves.fresh hb (Nat.le_refl _)) _ _ (hdb e h)
      · exact DatAt.moves (Moves.fresh hb (Nat.le_refl _)) _ _ (hda e h)
    have hF := FldL.ofEls dd hdat
    rw [e1] at hgg haa hF hkl
    have hh := highL_good _ hgg
    refine ⟨newRecord_big (R t u) (dd.flatMap encF) q cq W.heap.size dd.length W' (by omega) haa (by omega) hF hrow (fun s hs => leafy_of_good (goodL_mem _ hgg s hs)) (bare_names _ e2 hgg), fun hok => ⟨recT_good hgg e2 (by omega) hok, ?_⟩, fun W3 hb3 hle => ?_⟩
    · unfold recOk at hok
      have hok := of_decide_eq_true hok
      rw [T.count_eq]
      exact hok.2.1
    · unfold DatAt
      exact .inr (.inr (.inr (.inr (.inr ⟨rfl, q, cq, dd.length, dd.flatMap encF, by omega, rfl, hle, FldL.moves (Moves.below (x := W.heap.size) hb3) _ _ hF, hrow.moves (Moves.below (x := W.heap.size) hb3)⟩)))))
  have HFA := hide hfa
  have HFB := hide hfb
  have HB0 := hide hB0
  have HKL := hide (keptF_len u.ks)
  have HVB := hide vb
  unfold catRR
  clear hfa hfb hD hD' hRw hRw' h4 h5 hcap hcap' hgk hgk' hla hlb hct hcu hg hg' hc hc' hB0 hmem hgood hatoms hda hdb va vb hk hk' hm hm' ea eb
  generalize (T.mk 6 0 ⟨#[]⟩ (R t u)) = tt at *
  generalize ((1 + (atomsL (R t u)).length : Nat) : Int) = z1 at *
  generalize ((highL (R t u) : Nat) : Int) = z2 at *
  generalize recOk (R t u) = ok at *
  obtain ⟨out, hout⟩ : ∃ q, q = (if ok = true then Sum.inr tt else Sum.inl lgW) := ⟨_, rfl⟩
  rw [← hout]
  have HOUT := hide hout
  clear hout
  go_enter Tryz.func68, Tryz.ntmps68
  go_wp2_with fail
  refine HCL.out.mono ?_
  rintro e w1 ⟨v1, rfl, hown, hb1⟩
  simp only [World.size_alloc] at hown hb1
  have HJ1 : Hid (RJ ((W.alloc (.cells #[.slice p n c, .int .i64 a, .int .i64 d] 100)).alloc (.cells #[.slice p' n' c', .int .i64 a', .int .i64 d'] 100)) v1 fb w1) := hide ⟨by simpa using hb1, by rw [HFB.out, ← HVB.out]; simpa using hown⟩
  have HW2 : Hid (((W.alloc (.cells #[.slice p n c, .int .i64 a, .int .i64 d] 100)).alloc (.cells #[.slice p' n' c', .int .i64 a', .int .i64 d'] 100)).heap.size = W.heap.size + 1 + 1) := hide (by simp)
  generalize ((W.alloc (.cells #[.slice p n c, .int .i64 a, .int .i64 d] 100)).alloc (.cells #[.slice p' n' c', .int .i64 a', .int .i64 d'] 100)) = W2 at *
  obtain ⟨x0, x1, x2, x3⟩ := HBX.out w1 hb1
  clear hown hb1 HCL
  go_wp2
  go_loopw [6, 17] (fun f q wr => ∃ (i : Nat) (v : Value), i ≤ n ∧ q = .int .i64 (i : Int) ∧ f = v ∧ RJ W2 v (fb ++ keptF u.ks (fa.take i)) wr) (fun _ q _ => n - (intOf q).toNat)
  case atStart => exact ⟨0, v1, Nat.zero_le _, rfl, rfl, by simpa [keptF] using HJ1.out⟩
  case round =>
    obtain ⟨i, v, hi, rfl, rfl, hJ⟩ := hrel
    obtain ⟨pv, cv, rfl⟩ := row_formE hJ.k
    have hll : (fb ++ keptF u.ks (fa.take i)).length ≤ 2000 := by
      rw [List.length_append]
      have h9 := HKL.out (fa.take i)
      rw [List.length_take] at h9
      have := HFA.out
      have := HFB.out
      omega
    generalize hlo : fb ++ keptF u.ks (fa.take i) = lo at hJ hll ⊢
    have HLO := hide hlo
    have HJ := hide hJ
    clear hlo
    by_cases hlt : i < n
    · have hif : i < fa.length := by have := HFA.out; omega
      obtain ⟨g, o, rfl, hg0, e0, e1⟩ := HCA.out i hif
      have BW : Below W.heap.size W wr := HB0.out.trans (hJ.B.mono (by have := HW2.out; omega))
      have c0 := (BW.cell (p := ⟨g, o + i * 2, none⟩) hg0).trans e0
      have c1 := (BW.cell (p := ⟨g, o + i * 2 + 1, none⟩) hg0).trans e1
      have HST := hide (keptF_step u.ks fa i hif)
      have HFN := hide (HFD.out (wr.alloc (.cells #[.string (fa[i]).1.text, .iface (fa[i]).2.2.1 (fa[i]).2.2.2] 131)) (fa[i]).1.text (BW.alloc BW.size _))
      generalize fa[i] = fe at *
      obtain ⟨ft, fu, yv, uv⟩ := fe
      clear e0 e1 hJ hif
      have HE : Hid (encF (ft, fu, yv, uv) = [.string ft.text, .iface yv uv]) := hide rfl
      generalize ft.text = nm at *
      generalize (getAt u.ks nm).isSome = gb at *
      have BJ : Below (W.heap.size + 1 + 1) W2 wr := by have := HJ.out.B; rwa [HW2.out] at this
      have hzr : W.heap.size + 1 + 1 ≤ wr.heap.size := by have := HJ.out.B.size; have := HW2.out; omega
      obtain ⟨y0, y1, y2, y3⟩ := HBX.out (wr.alloc (.cells #[.string nm, .iface yv uv] 131)) (BJ.alloc hzr _)
      go_wp2_with fail
      refine HFN.out.mono ?_
      rintro e w2 ⟨vz, rfl, hb2⟩
      have B2 : Below wr.heap.size wr w2 := ((Below.refl _ _).alloc (Nat.le_refl _) _).trans (hb2.mono (by simp))
      have HJ2 := hide (HJ.out.below B2)
      have s0 : w2.cell? ⟨wr.heap.size, 0, none⟩ = some (.string nm) := (hb2.cell (p := ⟨wr.heap.size, 0, none⟩) (by simp)).trans (by simp)
      have s1 : w2.cell? ⟨wr.heap.size, 1, none⟩ = some (.iface yv uv) := (hb2.cell (p := ⟨wr.heap.size, 1, none⟩) (by simp)).trans (by simp)
      have hz2 : W2.heap.size ≤ w2.heap.size := HJ2.out.B.size
      clear y0 y1 y2 y3 hb2 c0 c1 HFN
      cases gb
      · go_wp2_with (at_builtin; refine wpList_append_own_at _ rfl _ _ 98 rfl W2.heap.size 131 iN _ 2 32 Tryz.underlying98 hN hNz hNs hNb rfl (by decide) (.slice pv lo.length cv) lo.length (lo.flatMap encF) rfl (HJ2.out.k.alloc _) ⟨w2.heap.size, 0, none⟩ 1 1 [.string nm, .iface yv uv] rfl (by simp) (one_newF _ _ _ _) (by simp [Value.oneCell']) (by unfold maxLen; omega) (by omega) (by simp; omega) ?_)
        intro v3 w3 q1 q2 q3 q4
        have HJ3 := hide (RJ.add (e := (ft, fu, yv, uv)) (HJ2.out.below ((Below.refl _ _).alloc (Nat.le_refl _) _)) q2 rfl (by rw [HE.out]; exact q1))
        obtain ⟨p3, c3, rfl⟩ := row_formE q1
        clear q1 q2 q3 q4
        go_wp2
        go_roundw
        case rel => exact ⟨i + 1, _, by omega, by go_num, rfl, by rw [HST.out, ← List.append_assoc, HLO.out]; exact HJ3.out⟩
        case measure => simp [intOf]; omega
      · go_wp2
        go_roundw
        case rel => exact ⟨i + 1, _, by omega, by go_num, rfl, by rw [HST.out, ← List.append_assoc, HLO.out, if_pos trivial, List.append_nil]; exact HJ2.out⟩
        case measure => simp [intOf]; omega
    · have hin : i = n := by omega
      have HTK : Hid (fa.take i = fa) := hide (List.take_of_length_le (by have := HFA.out; omega))
      rw [HTK.out] at HLO
      have HSF := hide (sortF_any lo W2.heap.size _ cv pv wr rfl (by omega) W.heap.size (by have := HW2.out; omega) hJ.k)
      have hcq : lo.length ≤ cv := by
        rcases hJ.k.2 with ⟨h, h0⟩ | ⟨g9, c9, cur, h, _, _, h3, _⟩
        · omega
        · injection h with _ _ h; omega
      have BW : Below W.heap.size W wr := HB0.out.trans (hJ.B.mono (by have := HW2.out; omega))
      have hws : W.heap.size ≤ W2.heap.size := by have := HW2.out; omega
      clear hJ HJ
      go_wp2_with fail
      refine HSF.out.mono ?_
      rintro e w5 ⟨rfl, d2, hp, hpw, hrow, hb5⟩
      have B5 : Below W.heap.size W w5 := BW.trans (hb5.mono hws)
      obtain ⟨hnr, hgd, hdt⟩ := HNR.out w5 d2 pv cv B5 (by rw [HLO.out]; exact hp) hpw hrow
      have hpl := hp.length_eq
      rw [hpl] at hnr hdt
      have HX := hide hnr
      have HGD := hide hgd
      have HDT := hide hdt
      clear hnr hgd hdt hrow hp hpw hb5 HSF
      go_wp2_with fail
      refine HX.out.mono ?_
      rintro e w6 ⟨rfl, hb6⟩
      have B6 := B5.trans (hb6.mono B5.size)
      have HD6 := hide (HDT.out w6 hb6 hcq)
      clear hb6 HX HDT
      cases ok
      · have ho : out = Sum.inl lgW := by rw [HOUT.out]; rfl
        subst ho
        go_wp2_with fail
        refine (unless_no _ _).mono ?_
        rintro e w3 ⟨rfl, rfl⟩
        go_wp2
        go_ret2
        exact ⟨_, _, rfl, B6, rfl, rfl⟩
      · have ho : out = Sum.inr tt := by rw [HOUT.out]; rfl
        subst ho
        go_wp2_with fail
        refine (unless_yes _ _ _).mono ?_
        rintro e w3 ⟨rfl, rfl⟩
        go_wp2
        go_ret2
        exact ⟨_, _, rfl, B6, rfl, (HGD.out trivial).1, (HGD.out trivial).2, _, HD6.out⟩
end Go.Proofs.YtnkfbjcgkdblgaaGreat.Vl
