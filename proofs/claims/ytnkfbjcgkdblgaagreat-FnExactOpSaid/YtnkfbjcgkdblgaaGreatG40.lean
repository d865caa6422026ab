/- Joined: Lq, Lr. -/
import Derived.Test.YtnkfbjcgkdblgaaGreatG39
namespace Go.Proofs.YtnkfbjcgkdblgaaGreat.Vl
open Go.RowKit T.atoms T.ok T.high T.good T.allPlain T.ord

set_option maxRecDepth 100000 in
set_option maxHeartbeats 1000000 in
theorem add6_kinds (t u : T) (g g' c c' m m' : Nat) (w : World) (hm : t.count = m + 1) (hm' : u.count = m' + 1) (h1 : m < 1000) (h2 : m' < 1000) (_hc : m + 1 ≤ c) (_hc' : m' + 1 ≤ c') (ht : AtomsO w g 0 t.atoms) (ht' : AtomsO w g' 0 u.atoms) (hk : ¬ t.kind = u.kind) :
    Calls Tryz.prog 19 #[.agg #[.slice (some ⟨g, 0, none⟩) (m + 1) c], .agg #[.slice (some ⟨g', 0, none⟩) (m' + 1) c']] w (OPost w (([], wTy))) := by
  have HK1 := hide (fun w1 (hb : Below w.heap.size w w1) => kind6_any ⟨t.kind, t.num, t.text, t.ks.length⟩ t.atoms g 0 c m w1 hm (by omega) (atoms_last t m hm) (ht.below hb))
  have HK2 := hide (fun w1 (hb : Below w.heap.size w w1) => kind6_any ⟨u.kind, u.num, u.text, u.ks.length⟩ u.atoms g' 0 c' m' w1 hm' (by omega) (atoms_last u m' hm') (ht'.below hb))
  have HN := hide (no6_any ⟨#[116, 121, 112, 101]⟩)
  clear ht ht'
  have hkb : (t.kind != u.kind) = true := by simpa using hk
  generalize t.kind = ka at *
  generalize u.kind = kb at *
  have o0 := OB.start w (.slice (some ⟨g, 0, none⟩) (m + 1) c) (.slice (some ⟨g', 0, none⟩) (m' + 1) c')
  go_enter Tryz.func19, Tryz.ntmps19
  have O0 := hide o0
  have a0 := o0.a
  have b0 := o0.b
  clear o0
  go_wp2_with fail
  go_region_held3 (fun w' => w'.cell? ⟨w.heap.size, 0, none⟩ = some (.slice (some ⟨g, 0, none⟩) (m + 1) c) ∧ w'.cell? ⟨w.heap.size + 1, 0, none⟩ = some (.slice (some ⟨g', 0, none⟩) (m' + 1) c')) (go_keep) (first
    | (refine step_call1 rfl 16 (.tmp 13) 28 rfl (.agg #[.slice (some ⟨g, 0, none⟩) (m + 1) c]) (.int .i64 ka) (by simp [Act.eval]) Tryz.f16 Tryz.func16 (by kernel_rfl) (by kernel_rfl) _ (HK1.out _ O0.out.drew.B) ?_; intro w1 hb1; have o1 := O0.out.drew.below hb1; have a1 := o1.a; have b1 := o1.b)
    | (refine step_call1 rfl 16 (.tmp 15) 28 rfl (.agg #[.slice (some ⟨g', 0, none⟩) (m' + 1) c']) (.int .i64 kb) (by simp [Act.eval]) Tryz.f16 Tryz.func16 (by kernel_rfl) (by kernel_rfl) _ (HK2.out _ o1.B) ?_; intro w2 hb2; have o2 := o1.below hb2; have a2 := o2.a; have b2 := o2.b))
  have O2 := hide o2
  have a2' := o2.a
  have b2' := o2.b
  clear hb1 hb2 o1 o2 a1 b1 a2 b2 a0 b0
  clear a2' b2'
  go_wp2_with fail
  refine (HN.out _).mono ?_
  rintro e w6 ⟨rfl, hb6⟩
  have o6 := O2.out.below hb6
  have r6 := o6.r
  have f6 := o6.f
  have B6 := o6.B
  clear hb6 o6
  go_wp2
  refine bodyPost_ret (v := .tuple #[.agg #[.slice none 0 0], .string ⟨#[116, 121, 112, 101]⟩]) (by simp [results, Tryz.results19, go_sem, r6]) rfl ?_
  exact ⟨B6.setCell (p := ⟨w.heap.size + 1 + 1, 0, none⟩) (by show w.heap.size ≤ w.heap.size + 1 + 1; omega) _, .inl ⟨rfl, rfl⟩⟩

set_option maxRecDepth 100000 in
set_option maxHeartbeats 1000000 in
theorem add6_no1 (t u : T) (g g' c c' m m' : Nat) (w : World) (hm : t.count = m + 1) (hm' : u.count = m' + 1) (h1 : m < 1000) (h2 : m' < 1000) (hc : m + 1 ≤ c) (hc' : m' + 1 ≤ c') (ht : AtomsO w g 0 t.atoms) (ht' : AtomsO w g' 0 u.atoms) (hk : t.kind = 1) (hk' : u.kind = 1) :
    Calls Tryz.prog 19 #[.agg #[.slice (some ⟨g, 0, none⟩) (m + 1) c], .agg #[.slice (some ⟨g', 0, none⟩) (m' + 1) c']] w (OPost w (([], wTy))) := by
  have HKD := hide (fun w1 (hb : Below w.heap.size w w1) => kids5_any t.atoms g 0 c m w1 hm (by omega) (ht.below hb) hc)
  have HK1 := hide (fun w1 (hb : Below w.heap.size w w1) => kind6_any ⟨t.kind, t.num, t.text, t.ks.length⟩ t.atoms g 0 c m w1 hm (by omega) (atoms_last t m hm) (ht.below hb))
  have HK2 := hide (fun w1 (hb : Below w.heap.size w w1) => kind6_any ⟨u.kind, u.num, u.text, u.ks.length⟩ u.atoms g' 0 c' m' w1 hm' (by omega) (atoms_last u m' hm') (ht'.below hb))
  have HKE := hide (fun w1 (hb : Below w.heap.size w w1) => kids5_any u.atoms g' 0 c' m' w1 hm' (by omega) (ht'.below hb) hc')
  have HN := hide (no6_any ⟨#[116, 121, 112, 101]⟩)
  rw [hk] at HK1
  rw [hk'] at HK2
  clear ht ht'
  have o0 := OB.start w (.slice (some ⟨g, 0, none⟩) (m + 1) c) (.slice (some ⟨g', 0, none⟩) (m' + 1) c')
  go_enter Tryz.func19, Tryz.ntmps19
  have O0 := hide o0
  have a0 := o0.a
  have b0 := o0.b
  clear o0
  go_wp2_with fail
  go_region_held3 (fun w' => w'.cell? ⟨w.heap.size, 0, none⟩ = some (.slice (some ⟨g, 0, none⟩) (m + 1) c) ∧ w'.cell? ⟨w.heap.size + 1, 0, none⟩ = some (.slice (some ⟨g', 0, none⟩) (m' + 1) c')) (go_keep) (first
    | (refine step_call1 rfl 16 (.tmp 13) 28 rfl (.agg #[.slice (some ⟨g, 0, none⟩) (m + 1) c]) (.int .i64 1) (by simp [Act.eval]) Tryz.f16 Tryz.func16 (by kernel_rfl) (by kernel_rfl) _ (HK1.out _ O0.out.drew.B) ?_; intro w1 hb1; have o1 := O0.out.drew.below hb1; have a1 := o1.a; have b1 := o1.b)
    | (refine step_call1 rfl 16 (.tmp 15) 28 rfl (.agg #[.slice (some ⟨g', 0, none⟩) (m' + 1) c']) (.int .i64 1) (by simp [Act.eval]) Tryz.f16 Tryz.func16 (by kernel_rfl) (by kernel_rfl) _ (HK2.out _ o1.B) ?_; intro w2 hb2; have o2 := o1.below hb2; have a2 := o2.a; have b2 := o2.b))
  have O2 := hide o2
  have a2' := o2.a
  have b2' := o2.b
  clear hb1 hb2 o1 o2 a1 b1 a2 b2 a0 b0
  go_wp2_with fail
  refine (HKD.out _ O2.out.B).mono ?_
  rintro e w3 ⟨g7, c7, nk, vs, ok, rfl, -, hb3⟩
  have O3 := hide (O2.out.below hb3)
  have b3 := O3.out.b
  clear hb3 a2' b2'
  go_wp2_with fail
  refine (HKE.out _ O3.out.B).mono ?_
  rintro e w4 ⟨g8, c8, nk8, vs8, ok8, rfl, -, hb4⟩
  have O4 := hide (O3.out.below hb4)
  have a4 := O4.out.a
  clear hb4 b3
  go_wp2_with fail
  refine (HK1.out _ O4.out.B).mono ?_
  rintro e w5 ⟨rfl, hb5⟩
  have O5 := hide (O4.out.below hb5)
  clear hb5 a4
  go_wp2_with fail
  refine (HN.out _).mono ?_
  rintro e w6 ⟨rfl, hb6⟩
  have o6 := O5.out.below hb6
  have r6 := o6.r
  have f6 := o6.f
  have B6 := o6.B
  clear hb6 o6
  go_wp2
  refine bodyPost_ret (v := .tuple #[.agg #[.slice none 0 0], .string ⟨#[116, 121, 112, 101]⟩]) (by simp [results, Tryz.results19, go_sem, r6]) rfl ?_
  exact ⟨B6.setCell (p := ⟨w.heap.size + 1 + 1, 0, none⟩) (by show w.heap.size ≤ w.heap.size + 1 + 1; omega) _, .inl ⟨rfl, rfl⟩⟩

set_option maxRecDepth 100000 in
set_option maxHeartbeats 1000000 in
theorem add6_no2 (t u : T) (g g' c c' m m' : Nat) (w : World) (hm : t.count = m + 1) (hm' : u.count = m' + 1) (h1 : m < 1000) (h2 : m' < 1000) (hc : m + 1 ≤ c) (hc' : m' + 1 ≤ c') (ht : AtomsO w g 0 t.atoms) (ht' : AtomsO w g' 0 u.atoms) (hk : t.kind = 2) (hk' : u.kind = 2) :
    Calls Tryz.prog 19 #[.agg #[.slice (some ⟨g, 0, none⟩) (m + 1) c], .agg #[.slice (some ⟨g', 0, none⟩) (m' + 1) c']] w (OPost w (([], wTy))) := by
  have HKD := hide (fun w1 (hb : Below w.heap.size w w1) => kids5_any t.atoms g 0 c m w1 hm (by omega) (ht.below hb) hc)
  have HK1 := hide (fun w1 (hb : Below w.heap.size w w1) => kind6_any ⟨t.kind, t.num, t.text, t.ks.length⟩ t.atoms g 0 c m w1 hm (by omega) (atoms_last t m hm) (ht.below hb))
  have HK2 := hide (fun w1 (hb : Below w.heap.size w w1) => kind6_any ⟨u.kind, u.num, u.text, u.ks.length⟩ u.atoms g' 0 c' m' w1 hm' (by omega) (atoms_last u m' hm') (ht'.below hb))
  have HKE := hide (fun w1 (hb : Below w.heap.size w w1) => kids5_any u.atoms g' 0 c' m' w1 hm' (by omega) (ht'.below hb) hc')
  have HN := hide (no6_any ⟨#[116, 121, 112, 101]⟩)
  rw [hk] at HK1
  rw [hk'] at HK2
  clear ht ht'
  have o0 := OB.start w (.slice (some ⟨g, 0, none⟩) (m + 1) c) (.slice (some ⟨g', 0, none⟩) (m' + 1) c')
  go_enter Tryz.func19, Tryz.ntmps19
  have O0 := hide o0
  have a0 := o0.a
  have b0 := o0.b
  clear o0
  go_wp2_with fail
  go_region_held3 (fun w' => w'.cell? ⟨w.heap.size, 0, none⟩ = some (.slice (some ⟨g, 0, none⟩) (m + 1) c) ∧ w'.cell? ⟨w.heap.size + 1, 0, none⟩ = some (.slice (some ⟨g', 0, none⟩) (m' + 1) c')) (go_keep) (first
    | (refine step_call1 rfl 16 (.tmp 13) 28 rfl (.agg #[.slice (some ⟨g, 0, none⟩) (m + 1) c]) (.int .i64 2) (by simp [Act.eval]) Tryz.f16 Tryz.func16 (by kernel_rfl) (by kernel_rfl) _ (HK1.out _ O0.out.drew.B) ?_; intro w1 hb1; have o1 := O0.out.drew.below hb1; have a1 := o1.a; have b1 := o1.b)
    | (refine step_call1 rfl 16 (.tmp 15) 28 rfl (.agg #[.slice (some ⟨g', 0, none⟩) (m' + 1) c']) (.int .i64 2) (by simp [Act.eval]) Tryz.f16 Tryz.func16 (by kernel_rfl) (by kernel_rfl) _ (HK2.out _ o1.B) ?_; intro w2 hb2; have o2 := o1.below hb2; have a2 := o2.a; have b2 := o2.b))
  have O2 := hide o2
  have a2' := o2.a
  have b2' := o2.b
  clear hb1 hb2 o1 o2 a1 b1 a2 b2 a0 b0
  go_wp2_with fail
  refine (HKD.out _ O2.out.B).mono ?_
  rintro e w3 ⟨g7, c7, nk, vs, ok, rfl, -, hb3⟩
  have O3 := hide (O2.out.below hb3)
  have b3 := O3.out.b
  clear hb3 a2' b2'
  go_wp2_with fail
  refine (HKE.out _ O3.out.B).mono ?_
  rintro e w4 ⟨g8, c8, nk8, vs8, ok8, rfl, -, hb4⟩
  have O4 := hide (O3.out.below hb4)
  have a4 := O4.out.a
  clear hb4 b3
  go_wp2_with fail
  refine (HK1.out _ O4.out.B).mono ?_
  rintro e w5 ⟨rfl, hb5⟩
  have O5 := hide (O4.out.below hb5)
  clear hb5 a4
  go_wp2_with fail
  refine (HN.out _).mono ?_
  rintro e w6 ⟨rfl, hb6⟩
  have o6 := O5.out.below hb6
  have r6 := o6.r
  have f6 := o6.f
  have B6 := o6.B
  clear hb6 o6
  go_wp2
  refine bodyPost_ret (v := .tuple #[.agg #[.slice none 0 0], .string ⟨#[116, 121, 112, 101]⟩]) (by simp [results, Tryz.results19, go_sem, r6]) rfl ?_
  exact ⟨B6.setCell (p := ⟨w.heap.size + 1 + 1, 0, none⟩) (by show w.heap.size ≤ w.heap.size + 1 + 1; omega) _, .inl ⟨rfl, rfl⟩⟩
end Go.Proofs.YtnkfbjcgkdblgaaGreat.Vl
namespace Go.Proofs.YtnkfbjcgkdblgaaGreat.Vl
open Go.RowKit T.atoms T.ok T.high T.good T.allPlain T.ord
theorem cells_one (l : List At) : ∀ u ∈ cellsOf l, u.oneCell' = true := by
  intro u hu
  unfold cellsOf at hu
  obtain ⟨x, _, hx⟩ := List.mem_flatMap.1 hu
  simp [At.cells] at hx
  rcases hx with rfl | rfl | rfl | rfl <;> rfl
theorem cells_news {w : World} {g : Nat} {l : List At} (h : AtomsO w g 0 l) : ∀ j u, (cellsOf l)[j]? = some u → w.cell? ((⟨g, 0, none⟩ : Addr).add j) = some u := by
  intro j u hu
  rw [add_plain, Nat.zero_add]
  have hj : j < (cellsOf l).length := (List.getElem?_eq_some_iff.1 hu).1
  rw [cellsOf_len] at hj
  have hi : j / 4 < l.length := by omega
  obtain ⟨a0, a1, a2, a3⟩ := cellsOf_at l (j / 4) hi
  obtain ⟨b0, b1, b2, b3⟩ := h.2 (j / 4) hi
  simp only [Nat.zero_add] at b0 b1 b2 b3
  have h4 : j = j / 4 * 4 ∨ j = j / 4 * 4 + 1 ∨ j = j / 4 * 4 + 2 ∨ j = j / 4 * 4 + 3 := by omega
  rcases h4 with e | e | e | e
  · rw [e] at hu ⊢; rw [a0] at hu; rw [b0]; exact hu
  · rw [e] at hu ⊢; rw [a1] at hu; rw [b1]; exact hu
  · rw [e] at hu ⊢; rw [a2] at hu; rw [b2]; exact hu
  · rw [e] at hu ⊢; rw [a3] at hu; rw [b3]; exact hu
set_option maxRecDepth 100000 in
set_option maxHeartbeats 1000000 in
theorem right6_no (l : List At) (g c : Nat) (w : World) (ht : AtomsO w g 0 l) (hc : l.length ≤ c) (hl : l.length ≤ 1048576) (hv : valid l = false) :
    Calls Tryz.prog 36 #[.agg #[.slice (some ⟨g, 0, none⟩) l.length c]] w (OPost w ([], [108, 97, 114, 103, 101])) := by
  have HV1 := hide (fun w1 (hb : Below w.heap.size w w1) => specValid_any l g 0 c w1 (fun _ => rfl) (ht.below hb) hc hl)
  rw [hv] at HV1
  clear ht
  have o0 := GB.start w (.slice (some ⟨g, 0, none⟩) l.length c)
  go_enter Tryz.func36, Tryz.ntmps36
  go_wp2_with fail
  refine (HV1.out _ o0.B).mono ?_
  rintro e w1 ⟨rfl, hb1⟩
  have o1 := o0.below hb1
  have r1 := o1.r
  have f1 := o1.f
  have B1 := o1.B
  clear hb1 o0 o1
  go_wp2
  refine bodyPost_ret (v := .tuple #[.agg #[.slice none 0 0], .string ⟨#[108, 97, 114, 103, 101]⟩]) (by simp [results, Tryz.results36, go_sem, r1]) rfl ?_
  exact ⟨B1.setCell (p := ⟨w.heap.size + 1, 0, none⟩) (by show w.heap.size ≤ w.heap.size + 1; omega) _, .inl ⟨rfl, rfl⟩⟩
set_option maxRecDepth 100000 in
set_option maxHeartbeats 1000000 in
theorem right6_yes (l : List At) (g c : Nat) (w : World) (ht : AtomsO w g 0 l) (hc : l.length ≤ c) (hl : l.length ≤ 1048576) (hv : valid l = true) :
    Calls Tryz.prog 36 #[.agg #[.slice (some ⟨g, 0, none⟩) l.length c]] w (OPost w (l, [])) := by
  obtain ⟨iN, hN, hNz, hNs, hNb⟩ := info_parts Tryz.infoAt
  have HV1 := hide (fun w1 (hb : Below w.heap.size w w1) => specValid_any l g 0 c w1 (fun _ => rfl) (ht.below hb) hc hl)
  rw [hv] at HV1
  have HT := hide ht
  clear ht
  have o0 := GB.start w (.slice (some ⟨g, 0, none⟩) l.length c)
  have c1 := cell_new w (.slice (some ⟨g, 0, none⟩) l.length c) 28
  have c2 := (((Below.refl _ _).alloc (Nat.le_refl _) (.cells #[.slice none 0 0] 28) : Below (w.alloc (.cells #[.slice (some ⟨g, 0, none⟩) l.length c] 28)).heap.size (w.alloc (.cells #[.slice (some ⟨g, 0, none⟩) l.length c] 28)) _).cell (p := ⟨w.heap.size, 0, none⟩) (by simp)).trans c1.1
  go_enter Tryz.func36, Tryz.ntmps36
  go_wp2_with fail
  refine (HV1.out _ o0.B).mono ?_
  rintro e w1 ⟨rfl, hb1⟩
  have o1 := o0.below hb1
  have v1 := (hb1.cell (p := ⟨w.heap.size, 0, none⟩) (by simp; omega)).trans c2
  have hz1 := o1.z
  have v2 := (((Below.refl w1.heap.size w1).alloc (Nat.le_refl _) (.cells #[] 44)).cell (p := ⟨w.heap.size, 0, none⟩) (by show w.heap.size < _; omega)).trans v1
  have hown := World.ownsRow_lit (base := w1.heap.size) (e := 44) (size := 4) w1 #[] 0 (Nat.le_refl _) (Nat.zero_le _) rfl
  have o2 := o1.below ((Below.refl w1.heap.size w1).alloc (Nat.le_refl _) (.cells #[] 44))
  have hat := HT.out.below o2.B
  have HO2 := hide o2
  have hlen : l.length ≤ 1000 := by have h := hv; unfold valid at h; simp only [Bool.and_eq_true, decide_eq_true_eq] at h; exact h.1
  have HO1 := hide o1
  have hpos : 0 < l.length := by
    obtain ⟨t, ht, -, -⟩ := valid_tree hv
    rw [treeOf_some ht]; exact atoms_pos t
  clear hb1 o0 c1 c2 o1 o2
  go_wp2_with (at_builtin; refine wpList_append_own_at _ rfl _ _ 26 rfl w1.heap.size 44 iN _ 4 40 Tryz.underlying26 hN hNz hNs hNb rfl (by decide) (.slice (some ⟨w1.heap.size, 0, none⟩) 0 0) 0 [] rfl hown ⟨g, 0, none⟩ l.length c (cellsOf l) rfl (cellsOf_len _) (cells_news hat) (cells_one _) (by unfold maxLen; omega) (by omega) (by simp) ?_)
  intro v3 w3 ho3 hg3 hni hbl
  obtain ⟨g3, c3, rfl⟩ : ∃ g3 c3, v3 = .slice (some ⟨g3, 0, none⟩) l.length c3 := by
    rcases ho3.2 with ⟨_, h0⟩ | ⟨g3, c3, _, h, _⟩
    · omega
    · exact ⟨g3, c3, h⟩
  have hB3 : Below w1.heap.size w1 w3 := ((Below.refl w1.heap.size w1).alloc (Nat.le_refl _) (.cells #[] 44)).grown hg3 (by simp) (fun k e => by simp [Value.ownBlock] at e; omega)
  have O3 := hide (HO1.out.below hB3)
  have hat3 := atoms_of_row ho3
  have hge := (ho3.lt g3 rfl).1
  have hne := O3.out.ne hat3 hpos
  have HAT := hide hat3
  have r3 := O3.out.r
  have f3 := O3.out.f
  have hsz1 := HO1.out.B.size
  clear ho3 hg3 hni hbl hat3 hown hat v1 v2 hB3
  go_wp2
  refine bodyPost_ret (v := .tuple #[.agg #[.slice (some ⟨g3, 0, none⟩) l.length c3], .string ⟨#[]⟩]) (by simp [results, Tryz.results36, go_sem, r3]) rfl ?_
  exact ⟨O3.out.B.setCell (p := ⟨w.heap.size + 1, 0, none⟩) (by show w.heap.size ≤ w.heap.size + 1; omega) _, .inr ⟨g3, c3, by omega, rfl, atomsO_set HAT.out _ hne _⟩⟩
end Go.Proofs.YtnkfbjcgkdblgaaGreat.Vl
