/- Joined: Ll, Lp. -/
import Derived.Test.YtnkfbjcgkdblgaaGreatG33
namespace Go.Proofs.YtnkfbjcgkdblgaaGreat.Vl
open Go.RowKit T.atoms T.ok T.high T.good T.allPlain T.ord
theorem GPost.ok {w w' : World} {ks : List T} {s : ByteArray} {e : Ending} (h : GPost w ks s e w') : ∃ v, e = .returned (.tuple #[v, .bool (getAt ks s).isSome]) ∧ Below w.heap.size w w' := by
  obtain ⟨h0, h1⟩ := h
  cases hg : getAt ks s with
  | none => rw [hg] at h1; exact ⟨_, h1, h0⟩
  | some i => rw [hg] at h1; obtain ⟨_, g, o, c, h2, _⟩ := h1; exact ⟨_, h2, h0⟩

set_option maxRecDepth 100000 in
set_option maxHeartbeats 1000000 in
theorem has6_recordNo (t u : T) (g g' c c' m m' : Nat) (w : World) (hm : t.count = m + 1) (hm' : u.count = m' + 1) (h1 : m < 1000) (h2 : m' < 1000) (hc : m + 1 ≤ c) (_hc' : m' + 1 ≤ c') (ht : AtomsO w g 0 t.atoms) (ht' : AtomsO w g' 0 u.atoms) (hk : t.kind = 6) (hk' : ¬ u.kind = 4) :
    Calls Tryz.prog 18 #[.agg #[.slice (some ⟨g, 0, none⟩) (m + 1) c], .agg #[.slice (some ⟨g', 0, none⟩) (m' + 1) c']] w (OPost w (([], wTy))) := by
  have HKD := hide (fun w1 (hb : Below w.heap.size w w1) => kids5_any t.atoms g 0 c m w1 hm (by omega) (ht.below hb) hc)
  have HK1 := hide (fun w1 (hb : Below w.heap.size w w1) => kind6_any ⟨t.kind, t.num, t.text, t.ks.length⟩ t.atoms g 0 c m w1 hm (by omega) (atoms_last t m hm) (ht.below hb))
  have HK2 := hide (fun w1 (hb : Below w.heap.size w w1) => kind6_any ⟨u.kind, u.num, u.text, u.ks.length⟩ u.atoms g' 0 c' m' w1 hm' (by omega) (atoms_last u m' hm') (ht'.below hb))
  have HN := hide (no6_any ⟨#[116, 121, 112, 101]⟩)
  rw [hk] at HK1
  clear ht ht'
  have hkb : (u.kind == 4) = false := by simpa using hk'
  have o0 := OB.start w (.slice (some ⟨g, 0, none⟩) (m + 1) c) (.slice (some ⟨g', 0, none⟩) (m' + 1) c')
  go_enter Tryz.func18, Tryz.ntmps18
  go_wp2_with fail
  refine (HKD.out _ o0.B).mono ?_
  rintro e w1 ⟨g7, c7, nk, vs, ok, rfl, -, hb1⟩
  have o1 := o0.below hb1
  clear hb1 o0
  have a1 := o1.a
  go_wp2_with fail
  refine (HK1.out _ o1.B).mono ?_
  rintro e w2 ⟨rfl, hb2⟩
  have o2 := o1.below hb2
  clear hb2 o1 a1
  have b2 := o2.b
  have a2 := o2.a
  go_wp2_with fail
  refine (HK2.out _ o2.B).mono ?_
  rintro e w3 ⟨rfl, hb3⟩
  have o3 := o2.below hb3
  clear hb3 o2 a2 b2
  have a3 := o3.a
  have b3 := o3.b
  clear a3 b3
  go_wp2_with fail
  refine (HN.out _).mono ?_
  rintro e w6 ⟨rfl, hb6⟩
  have o6 := o3.below hb6
  have r6 := o6.r
  have f6 := o6.f
  have B6 := o6.B
  clear hb6 o6
  go_wp2
  refine bodyPost_ret (v := .tuple #[.agg #[.slice none 0 0], .string ⟨#[116, 121, 112, 101]⟩]) (by simp [results, Tryz.results18, go_sem, r6]) rfl ?_
  exact ⟨B6.setCell (p := ⟨w.heap.size + 1 + 1, 0, none⟩) (by show w.heap.size ≤ w.heap.size + 1 + 1; omega) _, .inl ⟨rfl, rfl⟩⟩

end Go.Proofs.YtnkfbjcgkdblgaaGreat.Vl
namespace Go.Proofs.YtnkfbjcgkdblgaaGreat.Vl
open Go.RowKit T.atoms T.ok T.high T.good T.allPlain T.ord

set_option maxRecDepth 100000 in
set_option maxHeartbeats 1000000 in
theorem add6_int (t u : T) (g g' c c' m m' : Nat) (w : World) (hm : t.count = m + 1) (hm' : u.count = m' + 1) (h1 : m < 1000) (h2 : m' < 1000) (hc : m + 1 ≤ c) (hc' : m' + 1 ≤ c') (ht : AtomsO w g 0 t.atoms) (ht' : AtomsO w g' 0 u.atoms) (hk : t.kind = 3) (hk' : u.kind = 3) (hx : in64 t.num) (hy : in64 u.num) :
    Calls Tryz.prog 19 #[.agg #[.slice (some ⟨g, 0, none⟩) (m + 1) c], .agg #[.slice (some ⟨g', 0, none⟩) (m' + 1) c']] w (OPost w (numR (fit64 (t.num + u.num), wRng))) := by
  have HKD := hide (fun w1 (hb : Below w.heap.size w w1) => kids5_any t.atoms g 0 c m w1 hm (by omega) (ht.below hb) hc)
  have HK1 := hide (fun w1 (hb : Below w.heap.size w w1) => kind6_any ⟨t.kind, t.num, t.text, t.ks.length⟩ t.atoms g 0 c m w1 hm (by omega) (atoms_last t m hm) (ht.below hb))
  have HK2 := hide (fun w1 (hb : Below w.heap.size w w1) => kind6_any ⟨u.kind, u.num, u.text, u.ks.length⟩ u.atoms g' 0 c' m' w1 hm' (by omega) (atoms_last u m' hm') (ht'.below hb))
  have HKE := hide (fun w1 (hb : Below w.heap.size w w1) => kids5_any u.atoms g' 0 c' m' w1 hm' (by omega) (ht'.below hb) hc')
  have HLA := hide (fun w1 (hb : Below w.heap.size w w1) => last_any ⟨t.kind, t.num, t.text, t.ks.length⟩ t.atoms g 0 c m w1 hm (by omega) (atoms_last t m hm) (ht.below hb))
  have HLB := hide (fun w1 (hb : Below w.heap.size w w1) => last_any ⟨u.kind, u.num, u.text, u.ks.length⟩ u.atoms g' 0 c' m' w1 hm' (by omega) (atoms_last u m' hm') (ht'.below hb))
  have HN := hide (no6_any ⟨#[114, 97, 110, 103, 101]⟩)
  rw [hk] at HK1 HLA
  rw [hk'] at HK2 HLB
  clear ht ht'
  have HFA := fun w => fld1' 3 t.num t.ks.length t.text w
  have HFB := fun w => fld1' 3 u.num u.ks.length u.text w
  generalize (t.ks.length : Int) = kt at *
  generalize (u.ks.length : Int) = ku at *
  generalize t.text = st at *
  generalize u.text = su at *
  generalize t.num = x at *
  generalize u.num = y at *
  have o0 := OB.start w (.slice (some ⟨g, 0, none⟩) (m + 1) c) (.slice (some ⟨g', 0, none⟩) (m' + 1) c')
  go_enter Tryz.func19, Tryz.ntmps19
  have O0 := hide o0
  have a0 := o0.a
  have b0 := o0.b
  clear o0
  go_wp2_with fail
  go_region_held3 (fun w' => w'.cell? ⟨w.heap.size, 0, none⟩ = some (.slice (some ⟨g, 0, none⟩) (m + 1) c) ∧ w'.cell? ⟨w.heap.size + 1, 0, none⟩ = some (.slice (some ⟨g', 0, none⟩) (m' + 1) c')) (go_keep) (first
    | (refine step_call1 rfl 16 (.tmp 13) 28 rfl (.agg #[.slice (some ⟨g, 0, none⟩) (m + 1) c]) (.int .i64 3) (by simp [Act.eval]) Tryz.f16 Tryz.func16 (by kernel_rfl) (by kernel_rfl) _ (HK1.out _ O0.out.drew.B) ?_; intro w1 hb1; have o1 := O0.out.drew.below hb1; have a1 := o1.a; have b1 := o1.b)
    | (refine step_call1 rfl 16 (.tmp 15) 28 rfl (.agg #[.slice (some ⟨g', 0, none⟩) (m' + 1) c']) (.int .i64 3) (by simp [Act.eval]) Tryz.f16 Tryz.func16 (by kernel_rfl) (by kernel_rfl) _ (HK2.out _ o1.B) ?_; intro w2 hb2; have o2 := o1.below hb2; have a2 := o2.a; have b2 := o2.b))
  have O2 := hide o2
  have a2' := o2.a
  have b2' := o2.b
  clear hb1 hb2 o1 o2 a1 b1 a2 b2 a0 b0
  go_wp2_with fail
  refine (HKD.out _ O2.out.B).mono ?_
  rintro e w3 ⟨g7, c7, nk, vs, ok, rfl, -, hb3⟩
  have O3 := hide (O2.out.below hb3)
  have b3 := O3.out.b
  clear hb3 a2' b2'
  go_wp2_with fail
  refine (HKE.out _ O3.out.B).mono ?_
  rintro e w4 ⟨g8, c8, nk8, vs8, ok8, rfl, -, hb4⟩
  have O4 := hide (O3.out.below hb4)
  have a4 := O4.out.a
  clear hb4 b3
  go_wp2_with fail
  refine (HK1.out _ O4.out.B).mono ?_
  rintro e w5 ⟨rfl, hb5⟩
  have O5 := hide (O4.out.below hb5)
  have a5 := O5.out.a
  clear hb5 a4
  go_wp2_with fail
  refine (HLA.out _ O5.out.B).mono ?_
  rintro e w6 ⟨rfl, hb6⟩
  have O6 := hide (O5.out.below hb6)
  have b6 := O6.out.b
  clear hb6 a5
  go_wp2_with fail
  refine (HLB.out _ O6.out.B).mono ?_
  rintro e w7 ⟨rfl, hb7⟩
  have O7 := hide (O6.out.below hb7)
  clear hb7 b6
  unfold in64 at hx hy
  by_cases hf : -9223372036854775808 ≤ x + y ∧ x + y ≤ 9223372036854775807
  · have HR : Hid (numR (fit64 (x + y), wRng) = ([⟨3, x + y, ⟨#[]⟩, 0⟩], [])) := (by rw [show fit64 (x + y) = some (x + y) from if_pos hf]; rfl)
    have HI := hide (fun w' => int5_any (x + y) w')
    have hw : wrap64 (x + y) = x + y := by unfold wrap64; omega
    by_cases hp : 0 < y
    · skip
      have h3 : wrap64 (9223372036854775807 - y) = 9223372036854775807 - y := by unfold wrap64; omega
      have h4 : ¬ 9223372036854775807 - y < x := by omega
      have h5 : ¬ y < 0 := by omega
      go_wp2_with fail
      refine (HI.out _).mono ?_
      rintro e w8 ⟨ga, hga, rfl, ha, hb8⟩
      have o8 := O7.out.below hb8
      have hz7 := O7.out.z
      have r8 := o8.r
      have f8 := o8.f
      have B8 := o8.B
      clear hb8 o8
      go_wp2
      refine bodyPost_ret (v := .tuple #[.agg #[.slice (some ⟨ga, 0, none⟩) 1 1], .string ⟨#[]⟩]) (by simp [results, Tryz.results19, go_sem, r8]) rfl ?_
      rw [HR.out]
      exact ⟨B8.setCell (p := ⟨w.heap.size + 1 + 1, 0, none⟩) (by show w.heap.size ≤ w.heap.size + 1 + 1; omega) _, .inr ⟨ga, 1, by have := O7.out.B.size; omega, rfl, atomsO_set ha _ (by show w.heap.size + 1 + 1 ≠ ga; omega) _⟩⟩
    · by_cases hn : y < 0
      · skip
        have h3 : wrap64 (-9223372036854775808 - y) = -9223372036854775808 - y := by unfold wrap64; omega
        have h4 : ¬ x < -9223372036854775808 - y := by omega
        go_wp2_with fail
        refine (HI.out _).mono ?_
        rintro e w8 ⟨ga, hga, rfl, ha, hb8⟩
        have o8 := O7.out.below hb8
        have hz7 := O7.out.z
        have r8 := o8.r
        have f8 := o8.f
        have B8 := o8.B
        clear hb8 o8
        go_wp2
        refine bodyPost_ret (v := .tuple #[.agg #[.slice (some ⟨ga, 0, none⟩) 1 1], .string ⟨#[]⟩]) (by simp [results, Tryz.results19, go_sem, r8]) rfl ?_
        rw [HR.out]
        exact ⟨B8.setCell (p := ⟨w.heap.size + 1 + 1, 0, none⟩) (by show w.heap.size ≤ w.heap.size + 1 + 1; omega) _, .inr ⟨ga, 1, by have := O7.out.B.size; omega, rfl, atomsO_set ha _ (by show w.heap.size + 1 + 1 ≠ ga; omega) _⟩⟩
      · skip
        go_wp2_with fail
        refine (HI.out _).mono ?_
        rintro e w8 ⟨ga, hga, rfl, ha, hb8⟩
        have o8 := O7.out.below hb8
        have hz7 := O7.out.z
        have r8 := o8.r
        have f8 := o8.f
        have B8 := o8.B
        clear hb8 o8
        go_wp2
        refine bodyPost_ret (v := .tuple #[.agg #[.slice (some ⟨ga, 0, none⟩) 1 1], .string ⟨#[]⟩]) (by simp [results, Tryz.results19, go_sem, r8]) rfl ?_
        rw [HR.out]
        exact ⟨B8.setCell (p := ⟨w.heap.size + 1 + 1, 0, none⟩) (by show w.heap.size ≤ w.heap.size + 1 + 1; omega) _, .inr ⟨ga, 1, by have := O7.out.B.size; omega, rfl, atomsO_set ha _ (by show w.heap.size + 1 + 1 ≠ ga; omega) _⟩⟩
  · have HR : Hid (numR (fit64 (x + y), wRng) = ([], wRng)) := (by rw [show fit64 (x + y) = none from if_neg hf]; rfl)
    by_cases hp : 0 < y
    · skip
      have h3 : wrap64 (9223372036854775807 - y) = 9223372036854775807 - y := by unfold wrap64; omega
      have h4 : 9223372036854775807 - y < x := by omega
      go_wp2_with fail
      refine (HN.out _).mono ?_
      rintro e w8 ⟨rfl, hb8⟩
      have o8 := O7.out.below hb8
      have r8 := o8.r
      have f8 := o8.f
      have B8 := o8.B
      clear hb8 o8
      go_wp2
      refine bodyPost_ret (v := .tuple #[.agg #[.slice none 0 0], .string ⟨#[114, 97, 110, 103, 101]⟩]) (by simp [results, Tryz.results19, go_sem, r8]) rfl ?_
      rw [HR.out]
      exact ⟨B8.setCell (p := ⟨w.heap.size + 1 + 1, 0, none⟩) (by show w.heap.size ≤ w.heap.size + 1 + 1; omega) _, .inl ⟨rfl, rfl⟩⟩
    · have hn : y < 0 := by omega
      have h3 : wrap64 (-9223372036854775808 - y) = -9223372036854775808 - y := by unfold wrap64; omega
      have h4 : x < -9223372036854775808 - y := by omega
      go_wp2_with fail
      refine (HN.out _).mono ?_
      rintro e w8 ⟨rfl, hb8⟩
      have o8 := O7.out.below hb8
      have r8 := o8.r
      have f8 := o8.f
      have B8 := o8.B
      clear hb8 o8
      go_wp2
      refine bodyPost_ret (v := .tuple #[.agg #[.slice none 0 0], .string ⟨#[114, 97, 110, 103, 101]⟩]) (by simp [results, Tryz.results19, go_sem, r8]) rfl ?_
      rw [HR.out]
      exact ⟨B8.setCell (p := ⟨w.heap.size + 1 + 1, 0, none⟩) (by show w.heap.size ≤ w.heap.size + 1 + 1; omega) _, .inl ⟨rfl, rfl⟩⟩
end Go.Proofs.YtnkfbjcgkdblgaaGreat.Vl
