/- Joined: Li, Lj. -/
import Derived.Test.YtnkfbjcgkdblgaaGreatG27
namespace Go.Proofs.YtnkfbjcgkdblgaaGreat.Vl
open Go.RowKit T.atoms T.ok T.high T.good T.allPlain T.ord
theorem fld2' (k n q : Int) (s : ByteArray) (w : World) : (Instr.field 44 (.agg #[.int .i64 k, .int .i64 n, .string s, .int .i64 q]) 2).run Tryz.prog w = .ok (.string s) w := by kernel_rfl

set_option maxRecDepth 100000 in
set_option maxHeartbeats 1000000 in
theorem has6_texts (t u : T) (g g' c c' m m' : Nat) (w : World) (hm : t.count = m + 1) (hm' : u.count = m' + 1) (h1 : m < 1000) (h2 : m' < 1000) (hc : m + 1 ≤ c) (_hc' : m' + 1 ≤ c') (ht : AtomsO w g 0 t.atoms) (ht' : AtomsO w g' 0 u.atoms) (hk : t.kind = 4) (hk' : u.kind = 4) (hs : t.text.size ≤ 1000) (hs' : u.text.size ≤ 1000) :
    Calls Tryz.prog 18 #[.agg #[.slice (some ⟨g, 0, none⟩) (m + 1) c], .agg #[.slice (some ⟨g', 0, none⟩) (m' + 1) c']] w (OPost w (boolA (inText t.text u.text))) := by
  have HKD := hide (fun w1 (hb : Below w.heap.size w w1) => kids5_any t.atoms g 0 c m w1 hm (by omega) (ht.below hb) hc)
  have HK1 := hide (fun w1 (hb : Below w.heap.size w w1) => kind6_any ⟨t.kind, t.num, t.text, t.ks.length⟩ t.atoms g 0 c m w1 hm (by omega) (atoms_last t m hm) (ht.below hb))
  have HK2 := hide (fun w1 (hb : Below w.heap.size w w1) => kind6_any ⟨u.kind, u.num, u.text, u.ks.length⟩ u.atoms g' 0 c' m' w1 hm' (by omega) (atoms_last u m' hm') (ht'.below hb))
  have HLA := hide (fun w1 (hb : Below w.heap.size w w1) => last_any ⟨t.kind, t.num, t.text, t.ks.length⟩ t.atoms g 0 c m w1 hm (by omega) (atoms_last t m hm) (ht.below hb))
  have HLB := hide (fun w1 (hb : Below w.heap.size w w1) => last_any ⟨u.kind, u.num, u.text, u.ks.length⟩ u.atoms g' 0 c' m' w1 hm' (by omega) (atoms_last u m' hm') (ht'.below hb))
  have HB := hide (fun b w' => (bool5_any b w').mono fun e w'' h => (show ∃ r, e = .returned r ∧ ∃ g, w'.heap.size ≤ g ∧ r = .agg #[.slice (some ⟨g, 0, none⟩) 1 1] ∧ AtomsO w'' g 0 [⟨2, if b then 1 else 0, ⟨#[]⟩, 0⟩] ∧ Below w'.heap.size w' w'' from by obtain ⟨g, h1, h2, h3, h4⟩ := h; exact ⟨_, h2, g, h1, rfl, h3, h4⟩))
  have HIN := hide (fun w' => (in6_any t.text u.text w' (by omega) (by omega)).mono fun e w'' h => (show ∃ r, e = .returned r ∧ (∃ z : Int, r = .int .i64 z ∧ decide (0 ≤ z) = inText t.text u.text) ∧ w'' = w' from by obtain ⟨⟨z, h1, h2⟩, h3⟩ := h; exact ⟨_, h1, ⟨z, rfl, h2⟩, h3⟩))
  rw [hk] at HK1 HLA
  rw [hk'] at HK2 HLB
  clear ht ht' hs hs'
  have HFA := fun w => fld2' 4 t.num t.ks.length t.text w
  have HFB := fun w => fld2' 4 u.num u.ks.length u.text w
  generalize (t.ks.length : Int) = kt at *
  generalize (u.ks.length : Int) = ku at *
  generalize t.text = st at *
  generalize u.text = su at *
  generalize t.num = x at *
  generalize u.num = y at *
  have o0 := OB.start w (.slice (some ⟨g, 0, none⟩) (m + 1) c) (.slice (some ⟨g', 0, none⟩) (m' + 1) c')
  go_enter Tryz.func18, Tryz.ntmps18
  go_wp2_with fail
  refine (HKD.out _ o0.B).mono ?_
  rintro e w1 ⟨g7, c7, nk, vs, ok, rfl, -, hb1⟩
  have o1 := o0.below hb1
  clear hb1 o0
  have a1 := o1.a
  go_wp2_with fail
  refine (HK1.out _ o1.B).mono ?_
  rintro e w2 ⟨rfl, hb2⟩
  have o2 := o1.below hb2
  clear hb2 o1 a1
  have b2 := o2.b
  have a2 := o2.a
  go_wp2_with fail
  refine (HK2.out _ o2.B).mono ?_
  rintro e w3 ⟨rfl, hb3⟩
  have o3 := o2.below hb3
  clear hb3 o2 a2 b2
  have a3 := o3.a
  have b3 := o3.b
  have O3 := hide o3
  clear o3
  cases hI : inText st su
  · go_wp2_with fail
    go_region_held3 (fun w' => w'.cell? ⟨w.heap.size, 0, none⟩ = some (.slice (some ⟨g, 0, none⟩) (m + 1) c) ∧ w'.cell? ⟨w.heap.size + 1, 0, none⟩ = some (.slice (some ⟨g', 0, none⟩) (m' + 1) c')) (go_keep) (first
      | (refine step_call1 rfl 20 (.tmp 23) 28 rfl (.agg #[.slice (some ⟨g, 0, none⟩) (m + 1) c]) (.agg #[.int .i64 4, .int .i64 x, .string st, .int .i64 kt]) (by simp [Act.eval]) Tryz.f20 Tryz.func20 (by kernel_rfl) (by kernel_rfl) _ (HLA.out _ O3.out.drew.B) ?_; intro w6 hb6; have o6 := O3.out.drew.below hb6; have a6 := o6.a; have b6 := o6.b)
      | (refine step_call1 rfl 20 (.tmp 26) 28 rfl (.agg #[.slice (some ⟨g', 0, none⟩) (m' + 1) c']) (.agg #[.int .i64 4, .int .i64 y, .string su, .int .i64 ku]) (by simp [Act.eval]) Tryz.f20 Tryz.func20 (by kernel_rfl) (by kernel_rfl) _ (HLB.out _ o6.B) ?_; intro w7 hb7; have o7 := o6.below hb7; have a7 := o7.a; have b7 := o7.b)
      | (refine step_call3x rfl 33 (.tmp 25) (.tmp 28) (.const (.int .i64 0)) 9 9 3 rfl (.string st) (.string su) (.int .i64 0) (by simp [Act.eval]) (by simp [Act.eval]) (by simp [Act.eval]) Tryz.f33 Tryz.func33 (by kernel_rfl) (by kernel_rfl) _ (HIN.out _) ?_; rintro r w7' ⟨⟨z, rfl, hdz⟩, rfl⟩; have hz : ¬ 0 ≤ z := by have h := hdz; rw [hI] at h; exact of_decide_eq_false h)
      | (refine step_call1x rfl 17 (.tmp 30) 4 rfl (.bool false) (by simp [Act.eval]) Tryz.f17 Tryz.func17 (by kernel_rfl) (by kernel_rfl) _ (HB.out false _) ?_; rintro r w8 ⟨ga, hga, rfl, hat, hb8⟩; have o8 := o7.below hb8; have a8 := o8.a; have b8 := o8.b; have r8 := o8.r; have f8 := o8.f; have s0 := (World.cell?_setCell_other w8 ⟨w.heap.size + 1 + 1, 0, none⟩ ⟨w.heap.size, 0, none⟩ (.slice (some ⟨ga, 0, none⟩) 1 1) (by simp)).trans a8; have s1 := (World.cell?_setCell_other w8 ⟨w.heap.size + 1 + 1, 0, none⟩ ⟨w.heap.size + 1, 0, none⟩ (.slice (some ⟨ga, 0, none⟩) 1 1) (by simp)).trans b8))
    have hz7 := o7.z
    have B8 := o8.B
    clear s0 s1 a8 b8 o6 o7 hb6 hb7 hb8 a6 b6 a7 b7
    go_wp2
    refine bodyPost_ret (v := .tuple #[.agg #[.slice (some ⟨ga, 0, none⟩) 1 1], .string ⟨#[]⟩]) (by simp [results, Tryz.results18, go_sem, r8]) rfl ?_
    exact ⟨B8.setCell (p := ⟨w.heap.size + 1 + 1, 0, none⟩) (by show w.heap.size ≤ w.heap.size + 1 + 1; omega) _, .inr ⟨ga, 1, by have := O3.out.B.size; omega, rfl, atomsO_set hat _ (by show w.heap.size + 1 + 1 ≠ ga; omega) _⟩⟩
  · go_wp2_with fail
    go_region_held3 (fun w' => w'.cell? ⟨w.heap.size, 0, none⟩ = some (.slice (some ⟨g, 0, none⟩) (m + 1) c) ∧ w'.cell? ⟨w.heap.size + 1, 0, none⟩ = some (.slice (some ⟨g', 0, none⟩) (m' + 1) c')) (go_keep) (first
      | (refine step_call1 rfl 20 (.tmp 23) 28 rfl (.agg #[.slice (some ⟨g, 0, none⟩) (m + 1) c]) (.agg #[.int .i64 4, .int .i64 x, .string st, .int .i64 kt]) (by simp [Act.eval]) Tryz.f20 Tryz.func20 (by kernel_rfl) (by kernel_rfl) _ (HLA.out _ O3.out.drew.B) ?_; intro w6 hb6; have o6 := O3.out.drew.below hb6; have a6 := o6.a; have b6 := o6.b)
      | (refine step_call1 rfl 20 (.tmp 26) 28 rfl (.agg #[.slice (some ⟨g', 0, none⟩) (m' + 1) c']) (.agg #[.int .i64 4, .int .i64 y, .string su, .int .i64 ku]) (by simp [Act.eval]) Tryz.f20 Tryz.func20 (by kernel_rfl) (by kernel_rfl) _ (HLB.out _ o6.B) ?_; intro w7 hb7; have o7 := o6.below hb7; have a7 := o7.a; have b7 := o7.b)
      | (refine step_call3x rfl 33 (.tmp 25) (.tmp 28) (.const (.int .i64 0)) 9 9 3 rfl (.string st) (.string su) (.int .i64 0) (by simp [Act.eval]) (by simp [Act.eval]) (by simp [Act.eval]) Tryz.f33 Tryz.func33 (by kernel_rfl) (by kernel_rfl) _ (HIN.out _) ?_; rintro r w7' ⟨⟨z, rfl, hdz⟩, rfl⟩; have hz : 0 ≤ z := by have h := hdz; rw [hI] at h; exact of_decide_eq_true h)
      | (refine step_call1x rfl 17 (.tmp 30) 4 rfl (.bool true) (by simp [Act.eval]) Tryz.f17 Tryz.func17 (by kernel_rfl) (by kernel_rfl) _ (HB.out true _) ?_; rintro r w8 ⟨ga, hga, rfl, hat, hb8⟩; have o8 := o7.below hb8; have a8 := o8.a; have b8 := o8.b; have r8 := o8.r; have f8 := o8.f; have s0 := (World.cell?_setCell_other w8 ⟨w.heap.size + 1 + 1, 0, none⟩ ⟨w.heap.size, 0, none⟩ (.slice (some ⟨ga, 0, none⟩) 1 1) (by simp)).trans a8; have s1 := (World.cell?_setCell_other w8 ⟨w.heap.size + 1 + 1, 0, none⟩ ⟨w.heap.size + 1, 0, none⟩ (.slice (some ⟨ga, 0, none⟩) 1 1) (by simp)).trans b8))
    have hz7 := o7.z
    have B8 := o8.B
    clear s0 s1 a8 b8 o6 o7 hb6 hb7 hb8 a6 b6 a7 b7
    go_wp2
    refine bodyPost_ret (v := .tuple #[.agg #[.slice (some ⟨ga, 0, none⟩) 1 1], .string ⟨#[]⟩]) (by simp [results, Tryz.results18, go_sem, r8]) rfl ?_
    exact ⟨B8.setCell (p := ⟨w.heap.size + 1 + 1, 0, none⟩) (by show w.heap.size ≤ w.heap.size + 1 + 1; omega) _, .inr ⟨ga, 1, by have := O3.out.B.size; omega, rfl, atomsO_set hat _ (by show w.heap.size + 1 + 1 ≠ ga; omega) _⟩⟩

set_option maxRecDepth 100000 in
set_option maxHeartbeats 1000000 in
theorem has6_textNo (t u : T) (g g' c c' m m' : Nat) (w : World) (hm : t.count = m + 1) (hm' : u.count = m' + 1) (h1 : m < 1000) (h2 : m' < 1000) (hc : m + 1 ≤ c) (_hc' : m' + 1 ≤ c') (ht : AtomsO w g 0 t.atoms) (ht' : AtomsO w g' 0 u.atoms) (hk : t.kind = 4) (hk' : ¬ u.kind = 4) :
    Calls Tryz.prog 18 #[.agg #[.slice (some ⟨g, 0, none⟩) (m + 1) c], .agg #[.slice (some ⟨g', 0, none⟩) (m' + 1) c']] w (OPost w (([], wTy))) := by
  have HKD := hide (fun w1 (hb : Below w.heap.size w w1) => kids5_any t.atoms g 0 c m w1 hm (by omega) (ht.below hb) hc)
  have HK1 := hide (fun w1 (hb : Below w.heap.size w w1) => kind6_any ⟨t.kind, t.num, t.text, t.ks.length⟩ t.atoms g 0 c m w1 hm (by omega) (atoms_last t m hm) (ht.below hb))
  have HK2 := hide (fun w1 (hb : Below w.heap.size w w1) => kind6_any ⟨u.kind, u.num, u.text, u.ks.length⟩ u.atoms g' 0 c' m' w1 hm' (by omega) (atoms_last u m' hm') (ht'.below hb))
  have HN := hide (no6_any ⟨#[116, 121, 112, 101]⟩)
  rw [hk] at HK1
  clear ht ht'
  have hkb : (u.kind == 4) = false := by simpa using hk'
  have o0 := OB.start w (.slice (some ⟨g, 0, none⟩) (m + 1) c) (.slice (some ⟨g', 0, none⟩) (m' + 1) c')
  go_enter Tryz.func18, Tryz.ntmps18
  go_wp2_with fail
  refine (HKD.out _ o0.B).mono ?_
  rintro e w1 ⟨g7, c7, nk, vs, ok, rfl, -, hb1⟩
  have o1 := o0.below hb1
  clear hb1 o0
  have a1 := o1.a
  go_wp2_with fail
  refine (HK1.out _ o1.B).mono ?_
  rintro e w2 ⟨rfl, hb2⟩
  have o2 := o1.below hb2
  clear hb2 o1 a1
  have b2 := o2.b
  have a2 := o2.a
  go_wp2_with fail
  refine (HK2.out _ o2.B).mono ?_
  rintro e w3 ⟨rfl, hb3⟩
  have o3 := o2.below hb3
  clear hb3 o2 a2 b2
  go_wp2_with fail
  refine (HN.out _).mono ?_
  rintro e w6 ⟨rfl, hb6⟩
  have o6 := o3.below hb6
  have r6 := o6.r
  have f6 := o6.f
  have B6 := o6.B
  clear hb6 o6
  go_wp2
  refine bodyPost_ret (v := .tuple #[.agg #[.slice none 0 0], .string ⟨#[116, 121, 112, 101]⟩]) (by simp [results, Tryz.results18, go_sem, r6]) rfl ?_
  exact ⟨B6.setCell (p := ⟨w.heap.size + 1 + 1, 0, none⟩) (by show w.heap.size ≤ w.heap.size + 1 + 1; omega) _, .inl ⟨rfl, rfl⟩⟩

set_option maxRecDepth 100000 in
set_option maxHeartbeats 1000000 in
theorem has6_no1 (t u : T) (g g' c c' m m' : Nat) (w : World) (hm : t.count = m + 1) (_hm' : u.count = m' + 1) (h1 : m < 1000) (_h2 : m' < 1000) (hc : m + 1 ≤ c) (_hc' : m' + 1 ≤ c') (ht : AtomsO w g 0 t.atoms) (_ht' : AtomsO w g' 0 u.atoms) (hk : t.kind = 1) :
    Calls Tryz.prog 18 #[.agg #[.slice (some ⟨g, 0, none⟩) (m + 1) c], .agg #[.slice (some ⟨g', 0, none⟩) (m' + 1) c']] w (OPost w (([], wTy))) := by
  have HKD := hide (fun w1 (hb : Below w.heap.size w w1) => kids5_any t.atoms g 0 c m w1 hm (by omega) (ht.below hb) hc)
  have HK1 := hide (fun w1 (hb : Below w.heap.size w w1) => kind6_any ⟨t.kind, t.num, t.text, t.ks.length⟩ t.atoms g 0 c m w1 hm (by omega) (atoms_last t m hm) (ht.below hb))
  have HN := hide (no6_any ⟨#[116, 121, 112, 101]⟩)
  rw [hk] at HK1
  clear ht
  have o0 := OB.start w (.slice (some ⟨g, 0, none⟩) (m + 1) c) (.slice (some ⟨g', 0, none⟩) (m' + 1) c')
  go_enter Tryz.func18, Tryz.ntmps18
  go_wp2_with fail
  refine (HKD.out _ o0.B).mono ?_
  rintro e w1 ⟨g7, c7, nk, vs, ok, rfl, -, hb1⟩
  have o1 := o0.below hb1
  clear hb1 o0
  have a1 := o1.a
  go_wp2_with fail
  refine (HK1.out _ o1.B).mono ?_
  rintro e w2 ⟨rfl, hb2⟩
  have o2 := o1.below hb2
  clear hb2 o1 a1
  have b2 := o2.b
  have a2 := o2.a
  clear a2 b2
  go_wp2_with fail
  refine (HN.out _).mono ?_
  rintro e w6 ⟨rfl, hb6⟩
  have o6 := o2.below hb6
  have r6 := o6.r
  have f6 := o6.f
  have B6 := o6.B
  clear hb6 o6
  go_wp2
  refine bodyPost_ret (v := .tuple #[.agg #[.slice none 0 0], .string ⟨#[116, 121, 112, 101]⟩]) (by simp [results, Tryz.results18, go_sem, r6]) rfl ?_
  exact ⟨B6.setCell (p := ⟨w.heap.size + 1 + 1, 0, none⟩) (by show w.heap.size ≤ w.heap.size + 1 + 1; omega) _, .inl ⟨rfl, rfl⟩⟩

set_option maxRecDepth 100000 in
set_option maxHeartbeats 1000000 in
theorem has6_no2 (t u : T) (g g' c c' m m' : Nat) (w : World) (hm : t.count = m + 1) (_hm' : u.count = m' + 1) (h1 : m < 1000) (_h2 : m' < 1000) (hc : m + 1 ≤ c) (_hc' : m' + 1 ≤ c') (ht : AtomsO w g 0 t.atoms) (_ht' : AtomsO w g' 0 u.atoms) (hk : t.kind = 2) :
    Calls Tryz.prog 18 #[.agg #[.slice (some ⟨g, 0, none⟩) (m + 1) c], .agg #[.slice (some ⟨g', 0, none⟩) (m' + 1) c']] w (OPost w (([], wTy))) := by
  have HKD := hide (fun w1 (hb : Below w.heap.size w w1) => kids5_any t.atoms g 0 c m w1 hm (by omega) (ht.below hb) hc)
  have HK1 := hide (fun w1 (hb : Below w.heap.size w w1) => kind6_any ⟨t.kind, t.num, t.text, t.ks.length⟩ t.atoms g 0 c m w1 hm (by omega) (atoms_last t m hm) (ht.below hb))
  have HN := hide (no6_any ⟨#[116, 121, 112, 101]⟩)
  rw [hk] at HK1
  clear ht
  have o0 := OB.start w (.slice (some ⟨g, 0, none⟩) (m + 1) c) (.slice (some ⟨g', 0, none⟩) (m' + 1) c')
  go_enter Tryz.func18, Tryz.ntmps18
  go_wp2_with fail
  refine (HKD.out _ o0.B).mono ?_
  rintro e w1 ⟨g7, c7, nk, vs, ok, rfl, -, hb1⟩
  have o1 := o0.below hb1
  clear hb1 o0
  have a1 := o1.a
  go_wp2_with fail
  refine (HK1.out _ o1.B).mono ?_
  rintro e w2 ⟨rfl, hb2⟩
  have o2 := o1.below hb2
  clear hb2 o1 a1
  have b2 := o2.b
  have a2 := o2.a
  clear a2 b2
  go_wp2_with fail
  refine (HN.out _).mono ?_
  rintro e w6 ⟨rfl, hb6⟩
  have o6 := o2.below hb6
  have r6 := o6.r
  have f6 := o6.f
  have B6 := o6.B
  clear hb6 o6
  go_wp2
  refine bodyPost_ret (v := .tuple #[.agg #[.slice none 0 0], .string ⟨#[116, 121, 112, 101]⟩]) (by simp [results, Tryz.results18, go_sem, r6]) rfl ?_
  exact ⟨B6.setCell (p := ⟨w.heap.size + 1 + 1, 0, none⟩) (by show w.heap.size ≤ w.heap.size + 1 + 1; omega) _, .inl ⟨rfl, rfl⟩⟩

set_option maxRecDepth 100000 in
set_option maxHeartbeats 1000000 in
theorem has6_no3 (t u : T) (g g' c c' m m' : Nat) (w : World) (hm : t.count = m + 1) (_hm' : u.count = m' + 1) (h1 : m < 1000) (_h2 : m' < 1000) (hc : m + 1 ≤ c) (_hc' : m' + 1 ≤ c') (ht : AtomsO w g 0 t.atoms) (_ht' : AtomsO w g' 0 u.atoms) (hk : t.kind = 3) :
    Calls Tryz.prog 18 #[.agg #[.slice (some ⟨g, 0, none⟩) (m + 1) c], .agg #[.slice (some ⟨g', 0, none⟩) (m' + 1) c']] w (OPost w (([], wTy))) := by
  have HKD := hide (fun w1 (hb : Below w.heap.size w w1) => kids5_any t.atoms g 0 c m w1 hm (by omega) (ht.below hb) hc)
  have HK1 := hide (fun w1 (hb : Below w.heap.size w w1) => kind6_any ⟨t.kind, t.num, t.text, t.ks.length⟩ t.atoms g 0 c m w1 hm (by omega) (atoms_last t m hm) (ht.below hb))
  have HN := hide (no6_any ⟨#[116, 121, 112, 101]⟩)
  rw [hk] at HK1
  clear ht
  have o0 := OB.start w (.slice (some ⟨g, 0, none⟩) (m + 1) c) (.slice (some ⟨g', 0, none⟩) (m' + 1) c')
  go_enter Tryz.func18, Tryz.ntmps18
  go_wp2_with fail
  refine (HKD.out _ o0.B).mono ?_
  rintro e w1 ⟨g7, c7, nk, vs, ok, rfl, -, hb1⟩
  have o1 := o0.below hb1
  clear hb1 o0
  have a1 := o1.a
  go_wp2_with fail
  refine (HK1.out _ o1.B).mono ?_
  rintro e w2 ⟨rfl, hb2⟩
  have o2 := o1.below hb2
  clear hb2 o1 a1
  have b2 := o2.b
  have a2 := o2.a
  clear a2 b2
  go_wp2_with fail
  refine (HN.out _).mono ?_
  rintro e w6 ⟨rfl, hb6⟩
  have o6 := o2.below hb6
  have r6 := o6.r
  have f6 := o6.f
  have B6 := o6.B
  clear hb6 o6
  go_wp2
  refine bodyPost_ret (v := .tuple #[.agg #[.slice none 0 0], .string ⟨#[116, 121, 112, 101]⟩]) (by simp [results, Tryz.results18, go_sem, r6]) rfl ?_
  exact ⟨B6.setCell (p := ⟨w.heap.size + 1 + 1, 0, none⟩) (by show w.heap.size ≤ w.heap.size + 1 + 1; omega) _, .inl ⟨rfl, rfl⟩⟩
end Go.Proofs.YtnkfbjcgkdblgaaGreat.Vl
namespace Go.Proofs.YtnkfbjcgkdblgaaGreat.Vl
open Go.RowKit T.atoms T.ok T.high T.good T.allPlain T.ord
/-- A value is among others. -/
def amongT (ks : List T) (u : T) : Bool := (List.range ks.length).any fun i => decide ((ks[i]?.map fun k => k.ord u).getD 1 = 0)
theorem amongT_yes {ks : List T} {u : T} {i : Nat} (hi : i < ks.length) (h : (ks[i]).ord u = 0) : amongT ks u = true := by
  unfold amongT
  rw [List.any_eq_true]
  exact ⟨i, List.mem_range.2 hi, by simp [hi, h]⟩
theorem amongT_no {ks : List T} {u : T} (h : ∀ i (hi : i < ks.length), ¬ (ks[i]).ord u = 0) : amongT ks u = false := by
  unfold amongT
  rw [List.any_eq_false]
  intro i hi
  have hl := List.mem_range.1 hi
  simp [hl, h i hl]

set_option maxRecDepth 100000 in
set_option maxHeartbeats 1000000 in
theorem has6_list (t u : T) (g g' c c' m m' : Nat) (w : World) (hm : t.count = m + 1) (hm' : u.count = m' + 1) (h1 : m < 1000) (h2 : m' < 1000) (hc : m + 1 ≤ c) (hc' : m' + 1 ≤ c') (ht : AtomsO w g 0 t.atoms) (ht' : AtomsO w g' 0 u.atoms) (hk : t.kind = 5) :
    Calls Tryz.prog 18 #[.agg #[.slice (some ⟨g, 0, none⟩) (m + 1) c], .agg #[.slice (some ⟨g', 0, none⟩) (m' + 1) c']] w (OPost w (boolA (amongT t.ks u))) := by
  have HKD := hide (fun w1 (hb : Below w.heap.size w w1) => kids5_any t.atoms g 0 c m w1 hm (by omega) (ht.below hb) hc)
  have HK1 := hide (fun w1 (hb : Below w.heap.size w w1) => kind6_any ⟨t.kind, t.num, t.text, t.ks.length⟩ t.atoms g 0 c m w1 hm (by omega) (atoms_last t m hm) (ht.below hb))
  have HB := hide (fun b w' => bool5_any b w')
  have hE := hide (T.count_eq t)
  have HM := hide hm
  have HMU := hide hm'
  have HTB := hide ht'
  rw [hk] at HK1
  clear ht ht' hm hm'
  have o0 := OB.start w (.slice (some ⟨g, 0, none⟩) (m + 1) c) (.slice (some ⟨g', 0, none⟩) (m' + 1) c')
  go_enter Tryz.func18, Tryz.ntmps18
  go_wp2_with fail
  refine (HKD.out _ o0.B).mono ?_
  rintro e w1 ⟨g7, c7, nk, vs, ok, rfl, ⟨hyes, -⟩, hb1⟩
  obtain ⟨rfl, rfl, hown, hkids⟩ := hyes t (treeOf_atoms t)
  clear hyes
  have o1 := o0.below hb1
  clear hb1 o0
  have a1 := o1.a
  go_wp2_with fail
  refine (HK1.out _ o1.B).mono ?_
  rintro e w2 ⟨rfl, hb2⟩
  have o2 := o1.below hb2
  have HOA := hide (row_below hown hb2)
  have HKD2 := hide (hkids.below hb2)
  clear hb2 o1 a1 hown hkids
  have b2 := o2.b
  have a2 := o2.a
  have hla : t.ks.length ≤ 1000 := by have := len_le_atomsL t.ks; have := hE.out; have := HM.out; omega
  have O2 := hide o2
  clear o2 a2 b2
  go_wp2
  go_loopw [8] (fun q wr => ∃ i : Nat, i ≤ t.ks.length ∧ q = .int .i64 i ∧ Below w2.heap.size w2 wr ∧ ∀ j (hj : j < t.ks.length), j < i → ¬ (t.ks[j]).ord u = 0) (fun q _ => t.ks.length - (intOf q).toNat)
  case atStart => exact ⟨0, by omega, rfl, Below.refl _ _, fun j _ h => absurd h (Nat.not_lt_zero _)⟩
  case round =>
    obtain ⟨i, hia, rfl, hB, hno⟩ := hrel
    have HNO := hide hno
    clear hno
    have O3 := hide (O2.out.below hB)
    by_cases hlta : i < t.ks.length
    · obtain ⟨gx, ox, cx, hvx, hatx, hcx⟩ := HKD2.out.2 i hlta
      obtain ⟨mx, hmx⟩ : ∃ mx, (t.ks[i]).count = mx + 1 := ⟨(t.ks[i]).count - 1, by have := atoms_pos t.ks[i]; unfold T.count; omega⟩
      have hsx := count_mem t.ks i hlta
      rw [hmx] at hvx hcx hsx
      have hmx1 : mx < 1000 := by have := hE.out; have := HM.out; omega
      have HMX := hide hmx
      have fx := fun q : KB wr => ((hB.trans (q.below.mono hB.size)).cell (p := ⟨g7, i, none⟩) (row_room HOA.out).2.2).trans ((HOA.out.cellAt i (by omega)).trans hvx)
      have fy := fun q : KB wr => (O3.out.below q.below).b
      have HI := hide (fun w' (hb : Below wr.heap.size wr w') => order5_any ((t.ks[i]).count + 1) t.ks[i] u gx ox cx g' 0 c' mx m' w' (Nat.lt_succ_self _) HMX.out HMU.out hmx1 h2 hcx hc' ((hatx.below hB).below hb) (HTB.out.below (O3.out.B.trans (hb.mono O3.out.B.size))))
      have HST := hide (fun (h : (t.ks[i]).ord u = 0) => amongT_yes hlta h)
      have HNX := hide (fun (h : ¬ (t.ks[i]).ord u = 0) => (fun j (hj : j < t.ks.length) (hji : j < i + 1) => (show ¬ (t.ks[j]).ord u = 0 from by rcases Nat.lt_succ_iff_lt_or_eq.1 hji with q | q; exact HNO.out j hj q; subst q; exact h)))
      generalize (t.ks[i]).ord u = od at *
      haveI hne : Nonempty (KB wr) := ⟨⟨_, Below.refl _ _⟩⟩
      clear hvx hatx hmx HNO
      go_wp2
      refine region_class (KB.w (w := wr)) (by kernel_rfl) (by kernel_rfl) ⟨⟨_, below_drewN (Below.refl _ _) _⟩, rfl⟩ ?_
      repeat (go_big_quiet_step ((go_at_call 15; exact kb_call HI.out _)))
      refine wpQuiet_nil ?_
      rintro _ ⟨q, rfl⟩
      have hBq := q.below
      by_cases hod : od = 0
      · subst hod
        have HR : Hid (amongT t.ks u = true) := HST.out rfl
        have o4 := O3.out.below hBq
        go_wp2_with fail
        refine (HB.out true _).mono ?_
        rintro e w5 ⟨ga, hga, rfl, ha, hb5⟩
        have o5 := o4.below hb5
        have hz4 := o4.z
        have r5 := o5.r
        have f5 := o5.f
        have B5 := o5.B
        clear hb5 o5
        go_wp2
        refine bodyPost_ret (v := .tuple #[.agg #[.slice (some ⟨ga, 0, none⟩) 1 1], .string ⟨#[]⟩]) (by simp [results, Tryz.results18, go_sem, r5]) rfl ?_
        rw [HR.out]
        exact ⟨B5.setCell (p := ⟨w.heap.size + 1 + 1, 0, none⟩) (by show w.heap.size ≤ w.heap.size + 1 + 1; omega) _, .inr ⟨ga, 1, by have := o4.B.size; omega, rfl, atomsO_set ha _ (by show w.heap.size + 1 + 1 ≠ ga; omega) _⟩⟩
      · have HN2 := hide (HNX.out hod)
        have hodb : (od == 0) = false := by simpa using hod
        go_wp2
        go_roundw
        case rel => exact ⟨i + 1, by omega, by go_num, hB.trans (hBq.mono hB.size), HN2.out⟩
        case measure => simp [intOf]; omega
    · have HR : Hid (amongT t.ks u = false) := amongT_no (fun j hj => HNO.out j hj (by omega))
      have o4 := O3.out
      go_wp2_with fail
      refine (HB.out false _).mono ?_
      rintro e w5 ⟨ga, hga, rfl, ha, hb5⟩
      have o5 := o4.below hb5
      have hz4 := o4.z
      have r5 := o5.r
      have f5 := o5.f
      have B5 := o5.B
      clear hb5 o5
      go_wp2
      refine bodyPost_ret (v := .tuple #[.agg #[.slice (some ⟨ga, 0, none⟩) 1 1], .string ⟨#[]⟩]) (by simp [results, Tryz.results18, go_sem, r5]) rfl ?_
      rw [HR.out]
      exact ⟨B5.setCell (p := ⟨w.heap.size + 1 + 1, 0, none⟩) (by show w.heap.size ≤ w.heap.size + 1 + 1; omega) _, .inr ⟨ga, 1, by have := o4.B.size; omega, rfl, atomsO_set ha _ (by show w.heap.size + 1 + 1 ≠ ga; omega) _⟩⟩
end Go.Proofs.YtnkfbjcgkdblgaaGreat.Vl
