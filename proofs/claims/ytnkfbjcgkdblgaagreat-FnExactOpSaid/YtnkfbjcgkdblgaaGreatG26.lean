/- Joined: Lg. -/
import Derived.Test.YtnkfbjcgkdblgaaGreatG25
namespace Go.Proofs.YtnkfbjcgkdblgaaGreat.Vl
open Go.RowKit T.atoms T.ok T.high T.good T.allPlain T.ord

set_option maxRecDepth 100000 in
set_option maxHeartbeats 1000000 in
theorem specOp_cmp5no1 (t u : T) (g g' c c' m m' : Nat) (w : World) (hm : t.count = m + 1) (hm' : u.count = m' + 1) (h1 : m < 1000) (h2 : m' < 1000) (hc : m + 1 ≤ c) (hc' : m' + 1 ≤ c') (hg : t.good = true) (hg' : u.good = true) (ht : AtomsO w g 0 t.atoms) (ht' : AtomsO w g' 0 u.atoms) (hk : t.kind = 1) (hk' : u.kind = 1) :
    Calls Tryz.prog 5 #[.int .i64 5, .agg #[.slice (some ⟨g, 0, none⟩) (m + 1) c], .agg #[.slice (some ⟨g', 0, none⟩) (m' + 1) c']] w (OPost w (([], wTy))) := by
  have HV1 : Hid (∀ w1, Below w.heap.size w w1 → Calls Tryz.prog 12 #[.agg #[.slice (some ⟨g, 0, none⟩) (m + 1) c]] w1 fun e w' => e = .returned (.bool true) ∧ Below w1.heap.size w1 w') := hide (fun w1 hb => by
    have h := specValid_any t.atoms g 0 c w1 (fun _ => rfl) (ht.below hb) (by show t.count ≤ c; omega) (by show t.count ≤ _; omega)
    rw [valid_of t hg (by omega)] at h
    rw [show t.atoms.length = m + 1 from hm] at h
    exact h)
  have HV2 : Hid (∀ w1, Below w.heap.size w w1 → Calls Tryz.prog 12 #[.agg #[.slice (some ⟨g', 0, none⟩) (m' + 1) c']] w1 fun e w' => e = .returned (.bool true) ∧ Below w1.heap.size w1 w') := hide (fun w1 hb => by
    have h := specValid_any u.atoms g' 0 c' w1 (fun _ => rfl) (ht'.below hb) (by show u.count ≤ c'; omega) (by show u.count ≤ _; omega)
    rw [valid_of u hg' (by omega)] at h
    rw [show u.atoms.length = m' + 1 from hm'] at h
    exact h)
  have HO := hide (fun w1 (hb : Below w.heap.size w w1) => order5_any (t.count + 1) t u g 0 c g' 0 c' m m' w1 (Nat.lt_succ_self _) hm hm' h1 h2 hc hc' (ht.below hb) (ht'.below hb))
  have HK1 := hide (fun w1 (hb : Below w.heap.size w w1) => kind6_any ⟨t.kind, t.num, t.text, t.ks.length⟩ t.atoms g 0 c m w1 hm (by omega) (atoms_last t m hm) (ht.below hb))
  have HK2 := hide (fun w1 (hb : Below w.heap.size w w1) => kind6_any ⟨u.kind, u.num, u.text, u.ks.length⟩ u.atoms g' 0 c' m' w1 hm' (by omega) (atoms_last u m' hm') (ht'.below hb))
  have HN := hide (no6_any ⟨#[116, 121, 112, 101]⟩)
  rw [hk] at HK1
  rw [hk'] at HK2
  clear ht ht'
  generalize t.ord u = od at *
  have o0 := OB.start w (.slice (some ⟨g, 0, none⟩) (m + 1) c) (.slice (some ⟨g', 0, none⟩) (m' + 1) c')
  go_enter Tryz.func5, Tryz.ntmps5
  go_wp2_with fail
  refine (HV1.out _ o0.B).mono ?_
  rintro e w1 ⟨rfl, hb1⟩
  have o1 := o0.below hb1
  clear hb1 o0
  have a1 := o1.b
  go_wp2_with fail
  refine (HV2.out _ o1.B).mono ?_
  rintro e w2 ⟨rfl, hb2⟩
  have o2 := o1.below hb2
  clear hb2 o1 a1
  have a2 := o2.a
  have b2 := o2.b
  go_wp2_with (go_at_call 13; refine (in1_any _ _ _ _).mono ?_; rintro e w2' ⟨rfl, rfl⟩)
  refine (HO.out _ o2.B).mono ?_
  rintro e w3 ⟨rfl, hb3⟩
  have o3 := o2.below hb3
  clear hb3 o2 a2 b2
  have a3 := o3.a
  go_wp2_with fail
  refine (HK1.out _ o3.B).mono ?_
  rintro e w4 ⟨rfl, hb4⟩
  have o4 := o3.below hb4
  clear hb4 o3 a3
  have a4 := o4.a
  have b4 := o4.b
  go_wp2_with fail
  refine (HK2.out _ o4.B).mono ?_
  rintro e w5 ⟨rfl, hb5⟩
  have o5 := o4.below hb5
  clear hb5 o4 a4 b4
  have a5 := o5.a
  have b5 := o5.b
  go_wp2_with fail
  refine (HN.out _).mono ?_
  rintro e w6 ⟨rfl, hb6⟩
  have o6 := o5.below hb6
  have r6 := o6.r
  have f6 := o6.f
  have B6 := o6.B
  clear hb6 o6
  go_wp2
  refine bodyPost_ret (v := .tuple #[.agg #[.slice none 0 0], .string ⟨#[116, 121, 112, 101]⟩]) (by simp [results, Tryz.results5, go_sem, r6]) rfl ?_
  exact ⟨B6.setCell (p := ⟨w.heap.size + 1 + 1, 0, none⟩) (by show w.heap.size ≤ w.heap.size + 1 + 1; omega) _, .inl ⟨rfl, rfl⟩⟩

set_option maxRecDepth 100000 in
set_option maxHeartbeats 1000000 in
theorem specOp_cmp5no6 (t u : T) (g g' c c' m m' : Nat) (w : World) (hm : t.count = m + 1) (hm' : u.count = m' + 1) (h1 : m < 1000) (h2 : m' < 1000) (hc : m + 1 ≤ c) (hc' : m' + 1 ≤ c') (hg : t.good = true) (hg' : u.good = true) (ht : AtomsO w g 0 t.atoms) (ht' : AtomsO w g' 0 u.atoms) (hk : t.kind = 6) (hk' : u.kind = 6) :
    Calls Tryz.prog 5 #[.int .i64 5, .agg #[.slice (some ⟨g, 0, none⟩) (m + 1) c], .agg #[.slice (some ⟨g', 0, none⟩) (m' + 1) c']] w (OPost w (([], wTy))) := by
  have HV1 : Hid (∀ w1, Below w.heap.size w w1 → Calls Tryz.prog 12 #[.agg #[.slice (some ⟨g, 0, none⟩) (m + 1) c]] w1 fun e w' => e = .returned (.bool true) ∧ Below w1.heap.size w1 w') := hide (fun w1 hb => by
    have h := specValid_any t.atoms g 0 c w1 (fun _ => rfl) (ht.below hb) (by show t.count ≤ c; omega) (by show t.count ≤ _; omega)
    rw [valid_of t hg (by omega)] at h
    rw [show t.atoms.length = m + 1 from hm] at h
    exact h)
  have HV2 : Hid (∀ w1, Below w.heap.size w w1 → Calls Tryz.prog 12 #[.agg #[.slice (some ⟨g', 0, none⟩) (m' + 1) c']] w1 fun e w' => e = .returned (.bool true) ∧ Below w1.heap.size w1 w') := hide (fun w1 hb => by
    have h := specValid_any u.atoms g' 0 c' w1 (fun _ => rfl) (ht'.below hb) (by show u.count ≤ c'; omega) (by show u.count ≤ _; omega)
    rw [valid_of u hg' (by omega)] at h
    rw [show u.atoms.length = m' + 1 from hm'] at h
    exact h)
  have HO := hide (fun w1 (hb : Below w.heap.size w w1) => order5_any (t.count + 1) t u g 0 c g' 0 c' m m' w1 (Nat.lt_succ_self _) hm hm' h1 h2 hc hc' (ht.below hb) (ht'.below hb))
  have HK1 := hide (fun w1 (hb : Below w.heap.size w w1) => kind6_any ⟨t.kind, t.num, t.text, t.ks.length⟩ t.atoms g 0 c m w1 hm (by omega) (atoms_last t m hm) (ht.below hb))
  have HK2 := hide (fun w1 (hb : Below w.heap.size w w1) => kind6_any ⟨u.kind, u.num, u.text, u.ks.length⟩ u.atoms g' 0 c' m' w1 hm' (by omega) (atoms_last u m' hm') (ht'.below hb))
  have HN := hide (no6_any ⟨#[116, 121, 112, 101]⟩)
  rw [hk] at HK1
  rw [hk'] at HK2
  clear ht ht'
  generalize t.ord u = od at *
  have o0 := OB.start w (.slice (some ⟨g, 0, none⟩) (m + 1) c) (.slice (some ⟨g', 0, none⟩) (m' + 1) c')
  go_enter Tryz.func5, Tryz.ntmps5
  go_wp2_with fail
  refine (HV1.out _ o0.B).mono ?_
  rintro e w1 ⟨rfl, hb1⟩
  have o1 := o0.below hb1
  clear hb1 o0
  have a1 := o1.b
  go_wp2_with fail
  refine (HV2.out _ o1.B).mono ?_
  rintro e w2 ⟨rfl, hb2⟩
  have o2 := o1.below hb2
  clear hb2 o1 a1
  have a2 := o2.a
  have b2 := o2.b
  go_wp2_with (go_at_call 13; refine (in1_any _ _ _ _).mono ?_; rintro e w2' ⟨rfl, rfl⟩)
  refine (HO.out _ o2.B).mono ?_
  rintro e w3 ⟨rfl, hb3⟩
  have o3 := o2.below hb3
  clear hb3 o2 a2 b2
  have a3 := o3.a
  go_wp2_with fail
  refine (HK1.out _ o3.B).mono ?_
  rintro e w4 ⟨rfl, hb4⟩
  have o4 := o3.below hb4
  clear hb4 o3 a3
  have a4 := o4.a
  have b4 := o4.b
  go_wp2_with fail
  refine (HK2.out _ o4.B).mono ?_
  rintro e w5 ⟨rfl, hb5⟩
  have o5 := o4.below hb5
  clear hb5 o4 a4 b4
  have a5 := o5.a
  have b5 := o5.b
  go_wp2_with fail
  refine (HN.out _).mono ?_
  rintro e w6 ⟨rfl, hb6⟩
  have o6 := o5.below hb6
  have r6 := o6.r
  have f6 := o6.f
  have B6 := o6.B
  clear hb6 o6
  go_wp2
  refine bodyPost_ret (v := .tuple #[.agg #[.slice none 0 0], .string ⟨#[116, 121, 112, 101]⟩]) (by simp [results, Tryz.results5, go_sem, r6]) rfl ?_
  exact ⟨B6.setCell (p := ⟨w.heap.size + 1 + 1, 0, none⟩) (by show w.heap.size ≤ w.heap.size + 1 + 1; omega) _, .inl ⟨rfl, rfl⟩⟩

set_option maxRecDepth 100000 in
set_option maxHeartbeats 1000000 in
theorem specOp_cmp6no1 (t u : T) (g g' c c' m m' : Nat) (w : World) (hm : t.count = m + 1) (hm' : u.count = m' + 1) (h1 : m < 1000) (h2 : m' < 1000) (hc : m + 1 ≤ c) (hc' : m' + 1 ≤ c') (hg : t.good = true) (hg' : u.good = true) (ht : AtomsO w g 0 t.atoms) (ht' : AtomsO w g' 0 u.atoms) (hk : t.kind = 1) (hk' : u.kind = 1) :
    Calls Tryz.prog 5 #[.int .i64 6, .agg #[.slice (some ⟨g, 0, none⟩) (m + 1) c], .agg #[.slice (some ⟨g', 0, none⟩) (m' + 1) c']] w (OPost w (([], wTy))) := by
  have HV1 : Hid (∀ w1, Below w.heap.size w w1 → Calls Tryz.prog 12 #[.agg #[.slice (some ⟨g, 0, none⟩) (m + 1) c]] w1 fun e w' => e = .returned (.bool true) ∧ Below w1.heap.size w1 w') := hide (fun w1 hb => by
    have h := specValid_any t.atoms g 0 c w1 (fun _ => rfl) (ht.below hb) (by show t.count ≤ c; omega) (by show t.count ≤ _; omega)
    rw [valid_of t hg (by omega)] at h
    rw [show t.atoms.length = m + 1 from hm] at h
    exact h)
  have HV2 : Hid (∀ w1, Below w.heap.size w w1 → Calls Tryz.prog 12 #[.agg #[.slice (some ⟨g', 0, none⟩) (m' + 1) c']] w1 fun e w' => e = .returned (.bool true) ∧ Below w1.heap.size w1 w') := hide (fun w1 hb => by
    have h := specValid_any u.atoms g' 0 c' w1 (fun _ => rfl) (ht'.below hb) (by show u.count ≤ c'; omega) (by show u.count ≤ _; omega)
    rw [valid_of u hg' (by omega)] at h
    rw [show u.atoms.length = m' + 1 from hm'] at h
    exact h)
  have HO := hide (fun w1 (hb : Below w.heap.size w w1) => order5_any (t.count + 1) t u g 0 c g' 0 c' m m' w1 (Nat.lt_succ_self _) hm hm' h1 h2 hc hc' (ht.below hb) (ht'.below hb))
  have HK1 := hide (fun w1 (hb : Below w.heap.size w w1) => kind6_any ⟨t.kind, t.num, t.text, t.ks.length⟩ t.atoms g 0 c m w1 hm (by omega) (atoms_last t m hm) (ht.below hb))
  have HK2 := hide (fun w1 (hb : Below w.heap.size w w1) => kind6_any ⟨u.kind, u.num, u.text, u.ks.length⟩ u.atoms g' 0 c' m' w1 hm' (by omega) (atoms_last u m' hm') (ht'.below hb))
  have HN := hide (no6_any ⟨#[116, 121, 112, 101]⟩)
  rw [hk] at HK1
  rw [hk'] at HK2
  clear ht ht'
  generalize t.ord u = od at *
  have o0 := OB.start w (.slice (some ⟨g, 0, none⟩) (m + 1) c) (.slice (some ⟨g', 0, none⟩) (m' + 1) c')
  go_enter Tryz.func5, Tryz.ntmps5
  go_wp2_with fail
  refine (HV1.out _ o0.B).mono ?_
  rintro e w1 ⟨rfl, hb1⟩
  have o1 := o0.below hb1
  clear hb1 o0
  have a1 := o1.b
  go_wp2_with fail
  refine (HV2.out _ o1.B).mono ?_
  rintro e w2 ⟨rfl, hb2⟩
  have o2 := o1.below hb2
  clear hb2 o1 a1
  have a2 := o2.a
  have b2 := o2.b
  go_wp2_with (go_at_call 13; refine (in1_any _ _ _ _).mono ?_; rintro e w2' ⟨rfl, rfl⟩)
  refine (HO.out _ o2.B).mono ?_
  rintro e w3 ⟨rfl, hb3⟩
  have o3 := o2.below hb3
  clear hb3 o2 a2 b2
  have a3 := o3.a
  go_wp2_with fail
  refine (HK1.out _ o3.B).mono ?_
  rintro e w4 ⟨rfl, hb4⟩
  have o4 := o3.below hb4
  clear hb4 o3 a3
  have a4 := o4.a
  have b4 := o4.b
  go_wp2_with fail
  refine (HK2.out _ o4.B).mono ?_
  rintro e w5 ⟨rfl, hb5⟩
  have o5 := o4.below hb5
  clear hb5 o4 a4 b4
  have a5 := o5.a
  have b5 := o5.b
  go_wp2_with fail
  refine (HN.out _).mono ?_
  rintro e w6 ⟨rfl, hb6⟩
  have o6 := o5.below hb6
  have r6 := o6.r
  have f6 := o6.f
  have B6 := o6.B
  clear hb6 o6
  go_wp2
  refine bodyPost_ret (v := .tuple #[.agg #[.slice none 0 0], .string ⟨#[116, 121, 112, 101]⟩]) (by simp [results, Tryz.results5, go_sem, r6]) rfl ?_
  exact ⟨B6.setCell (p := ⟨w.heap.size + 1 + 1, 0, none⟩) (by show w.heap.size ≤ w.heap.size + 1 + 1; omega) _, .inl ⟨rfl, rfl⟩⟩

set_option maxRecDepth 100000 in
set_option maxHeartbeats 1000000 in
theorem specOp_cmp6no6 (t u : T) (g g' c c' m m' : Nat) (w : World) (hm : t.count = m + 1) (hm' : u.count = m' + 1) (h1 : m < 1000) (h2 : m' < 1000) (hc : m + 1 ≤ c) (hc' : m' + 1 ≤ c') (hg : t.good = true) (hg' : u.good = true) (ht : AtomsO w g 0 t.atoms) (ht' : AtomsO w g' 0 u.atoms) (hk : t.kind = 6) (hk' : u.kind = 6) :
    Calls Tryz.prog 5 #[.int .i64 6, .agg #[.slice (some ⟨g, 0, none⟩) (m + 1) c], .agg #[.slice (some ⟨g', 0, none⟩) (m' + 1) c']] w (OPost w (([], wTy))) := by
  have HV1 : Hid (∀ w1, Below w.heap.size w w1 → Calls Tryz.prog 12 #[.agg #[.slice (some ⟨g, 0, none⟩) (m + 1) c]] w1 fun e w' => e = .returned (.bool true) ∧ Below w1.heap.size w1 w') := hide (fun w1 hb => by
    have h := specValid_any t.atoms g 0 c w1 (fun _ => rfl) (ht.below hb) (by show t.count ≤ c; omega) (by show t.count ≤ _; omega)
    rw [valid_of t hg (by omega)] at h
    rw [show t.atoms.length = m + 1 from hm] at h
    exact h)
  have HV2 : Hid (∀ w1, Below w.heap.size w w1 → Calls Tryz.prog 12 #[.agg #[.slice (some ⟨g', 0, none⟩) (m' + 1) c']] w1 fun e w' => e = .returned (.bool true) ∧ Below w1.heap.size w1 w') := hide (fun w1 hb => by
    have h := specValid_any u.atoms g' 0 c' w1 (fun _ => rfl) (ht'.below hb) (by show u.count ≤ c'; omega) (by show u.count ≤ _; omega)
    rw [valid_of u hg' (by omega)] at h
    rw [show u.atoms.length = m' + 1 from hm'] at h
    exact h)
  have HO := hide (fun w1 (hb : Below w.heap.size w w1) => order5_any (t.count + 1) t u g 0 c g' 0 c' m m' w1 (Nat.lt_succ_self _) hm hm' h1 h2 hc hc' (ht.below hb) (ht'.below hb))
  have HK1 := hide (fun w1 (hb : Below w.heap.size w w1) => kind6_any ⟨t.kind, t.num, t.text, t.ks.length⟩ t.atoms g 0 c m w1 hm (by omega) (atoms_last t m hm) (ht.below hb))
  have HK2 := hide (fun w1 (hb : Below w.heap.size w w1) => kind6_any ⟨u.kind, u.num, u.text, u.ks.length⟩ u.atoms g' 0 c' m' w1 hm' (by omega) (atoms_last u m' hm') (ht'.below hb))
  have HN := hide (no6_any ⟨#[116, 121, 112, 101]⟩)
  rw [hk] at HK1
  rw [hk'] at HK2
  clear ht ht'
  generalize t.ord u = od at *
  have o0 := OB.start w (.slice (some ⟨g, 0, none⟩) (m + 1) c) (.slice (some ⟨g', 0, none⟩) (m' + 1) c')
  go_enter Tryz.func5, Tryz.ntmps5
  go_wp2_with fail
  refine (HV1.out _ o0.B).mono ?_
  rintro e w1 ⟨rfl, hb1⟩
  have o1 := o0.below hb1
  clear hb1 o0
  have a1 := o1.b
  go_wp2_with fail
  refine (HV2.out _ o1.B).mono ?_
  rintro e w2 ⟨rfl, hb2⟩
  have o2 := o1.below hb2
  clear hb2 o1 a1
  have a2 := o2.a
  have b2 := o2.b
  go_wp2_with (go_at_call 13; refine (in1_any _ _ _ _).mono ?_; rintro e w2' ⟨rfl, rfl⟩)
  refine (HO.out _ o2.B).mono ?_
  rintro e w3 ⟨rfl, hb3⟩
  have o3 := o2.below hb3
  clear hb3 o2 a2 b2
  have a3 := o3.a
  go_wp2_with fail
  refine (HK1.out _ o3.B).mono ?_
  rintro e w4 ⟨rfl, hb4⟩
  have o4 := o3.below hb4
  clear hb4 o3 a3
  have a4 := o4.a
  have b4 := o4.b
  go_wp2_with fail
  refine (HK2.out _ o4.B).mono ?_
  rintro e w5 ⟨rfl, hb5⟩
  have o5 := o4.below hb5
  clear hb5 o4 a4 b4
  have a5 := o5.a
  have b5 := o5.b
  go_wp2_with fail
  refine (HN.out _).mono ?_
  rintro e w6 ⟨rfl, hb6⟩
  have o6 := o5.below hb6
  have r6 := o6.r
  have f6 := o6.f
  have B6 := o6.B
  clear hb6 o6
  go_wp2
  refine bodyPost_ret (v := .tuple #[.agg #[.slice none 0 0], .string ⟨#[116, 121, 112, 101]⟩]) (by simp [results, Tryz.results5, go_sem, r6]) rfl ?_
  exact ⟨B6.setCell (p := ⟨w.heap.size + 1 + 1, 0, none⟩) (by show w.heap.size ≤ w.heap.size + 1 + 1; omega) _, .inl ⟨rfl, rfl⟩⟩

set_option maxRecDepth 100000 in
set_option maxHeartbeats 1000000 in
theorem specOp_cmp7no1 (t u : T) (g g' c c' m m' : Nat) (w : World) (hm : t.count = m + 1) (hm' : u.count = m' + 1) (h1 : m < 1000) (h2 : m' < 1000) (hc : m + 1 ≤ c) (hc' : m' + 1 ≤ c') (hg : t.good = true) (hg' : u.good = true) (ht : AtomsO w g 0 t.atoms) (ht' : AtomsO w g' 0 u.atoms) (hk : t.kind = 1) (hk' : u.kind = 1) :
    Calls Tryz.prog 5 #[.int .i64 7, .agg #[.slice (some ⟨g, 0, none⟩) (m + 1) c], .agg #[.slice (some ⟨g', 0, none⟩) (m' + 1) c']] w (OPost w (([], wTy))) := by
  have HV1 : Hid (∀ w1, Below w.heap.size w w1 → Calls Tryz.prog 12 #[.agg #[.slice (some ⟨g, 0, none⟩) (m + 1) c]] w1 fun e w' => e = .returned (.bool true) ∧ Below w1.heap.size w1 w') := hide (fun w1 hb => by
    have h := specValid_any t.atoms g 0 c w1 (fun _ => rfl) (ht.below hb) (by show t.count ≤ c; omega) (by show t.count ≤ _; omega)
    rw [valid_of t hg (by omega)] at h
    rw [show t.atoms.length = m + 1 from hm] at h
    exact h)
  have HV2 : Hid (∀ w1, Below w.heap.size w w1 → Calls Tryz.prog 12 #[.agg #[.slice (some ⟨g', 0, none⟩) (m' + 1) c']] w1 fun e w' => e = .returned (.bool true) ∧ Below w1.heap.size w1 w') := hide (fun w1 hb => by
    have h := specValid_any u.atoms g' 0 c' w1 (fun _ => rfl) (ht'.below hb) (by show u.count ≤ c'; omega) (by show u.count ≤ _; omega)
    rw [valid_of u hg' (by omega)] at h
    rw [show u.atoms.length = m' + 1 from hm'] at h
    exact h)
  have HO := hide (fun w1 (hb : Below w.heap.size w w1) => order5_any (t.count + 1) t u g 0 c g' 0 c' m m' w1 (Nat.lt_succ_self _) hm hm' h1 h2 hc hc' (ht.below hb) (ht'.below hb))
  have HK1 := hide (fun w1 (hb : Below w.heap.size w w1) => kind6_any ⟨t.kind, t.num, t.text, t.ks.length⟩ t.atoms g 0 c m w1 hm (by omega) (atoms_last t m hm) (ht.below hb))
  have HK2 := hide (fun w1 (hb : Below w.heap.size w w1) => kind6_any ⟨u.kind, u.num, u.text, u.ks.length⟩ u.atoms g' 0 c' m' w1 hm' (by omega) (atoms_last u m' hm') (ht'.below hb))
  have HN := hide (no6_any ⟨#[116, 121, 112, 101]⟩)
  rw [hk] at HK1
  rw [hk'] at HK2
  clear ht ht'
  generalize t.ord u = od at *
  have o0 := OB.start w (.slice (some ⟨g, 0, none⟩) (m + 1) c) (.slice (some ⟨g', 0, none⟩) (m' + 1) c')
  go_enter Tryz.func5, Tryz.ntmps5
  go_wp2_with fail
  refine (HV1.out _ o0.B).mono ?_
  rintro e w1 ⟨rfl, hb1⟩
  have o1 := o0.below hb1
  clear hb1 o0
  have a1 := o1.b
  go_wp2_with fail
  refine (HV2.out _ o1.B).mono ?_
  rintro e w2 ⟨rfl, hb2⟩
  have o2 := o1.below hb2
  clear hb2 o1 a1
  have a2 := o2.a
  have b2 := o2.b
  go_wp2_with (go_at_call 13; refine (in1_any _ _ _ _).mono ?_; rintro e w2' ⟨rfl, rfl⟩)
  refine (HO.out _ o2.B).mono ?_
  rintro e w3 ⟨rfl, hb3⟩
  have o3 := o2.below hb3
  clear hb3 o2 a2 b2
  have a3 := o3.a
  go_wp2_with fail
  refine (HK1.out _ o3.B).mono ?_
  rintro e w4 ⟨rfl, hb4⟩
  have o4 := o3.below hb4
  clear hb4 o3 a3
  have a4 := o4.a
  have b4 := o4.b
  go_wp2_with fail
  refine (HK2.out _ o4.B).mono ?_
  rintro e w5 ⟨rfl, hb5⟩
  have o5 := o4.below hb5
  clear hb5 o4 a4 b4
  have a5 := o5.a
  have b5 := o5.b
  go_wp2_with fail
  refine (HN.out _).mono ?_
  rintro e w6 ⟨rfl, hb6⟩
  have o6 := o5.below hb6
  have r6 := o6.r
  have f6 := o6.f
  have B6 := o6.B
  clear hb6 o6
  go_wp2
  refine bodyPost_ret (v := .tuple #[.agg #[.slice none 0 0], .string ⟨#[116, 121, 112, 101]⟩]) (by simp [results, Tryz.results5, go_sem, r6]) rfl ?_
  exact ⟨B6.setCell (p := ⟨w.heap.size + 1 + 1, 0, none⟩) (by show w.heap.size ≤ w.heap.size + 1 + 1; omega) _, .inl ⟨rfl, rfl⟩⟩

set_option maxRecDepth 100000 in
set_option maxHeartbeats 1000000 in
theorem specOp_cmp7no6 (t u : T) (g g' c c' m m' : Nat) (w : World) (hm : t.count = m + 1) (hm' : u.count = m' + 1) (h1 : m < 1000) (h2 : m' < 1000) (hc : m + 1 ≤ c) (hc' : m' + 1 ≤ c') (hg : t.good = true) (hg' : u.good = true) (ht : AtomsO w g 0 t.atoms) (ht' : AtomsO w g' 0 u.atoms) (hk : t.kind = 6) (hk' : u.kind = 6) :
    Calls Tryz.prog 5 #[.int .i64 7, .agg #[.slice (some ⟨g, 0, none⟩) (m + 1) c], .agg #[.slice (some ⟨g', 0, none⟩) (m' + 1) c']] w (OPost w (([], wTy))) := by
  have HV1 : Hid (∀ w1, Below w.heap.size w w1 → Calls Tryz.prog 12 #[.agg #[.slice (some ⟨g, 0, none⟩) (m + 1) c]] w1 fun e w' => e = .returned (.bool true) ∧ Below w1.heap.size w1 w') := hide (fun w1 hb => by
    have h := specValid_any t.atoms g 0 c w1 (fun _ => rfl) (ht.below hb) (by show t.count ≤ c; omega) (by show t.count ≤ _; omega)
    rw [valid_of t hg (by omega)] at h
    rw [show t.atoms.length = m + 1 from hm] at h
    exact h)
  have HV2 : Hid (∀ w1, Below w.heap.size w w1 → Calls Tryz.prog 12 #[.agg #[.slice (some ⟨g', 0, none⟩) (m' + 1) c']] w1 fun e w' => e = .returned (.bool true) ∧ Below w1.heap.size w1 w') := hide (fun w1 hb => by
    have h := specValid_any u.atoms g' 0 c' w1 (fun _ => rfl) (ht'.below hb) (by show u.count ≤ c'; omega) (by show u.count ≤ _; omega)
    rw [valid_of u hg' (by omega)] at h
    rw [show u.atoms.length = m' + 1 from hm'] at h
    exact h)
  have HO := hide (fun w1 (hb : Below w.heap.size w w1) => order5_any (t.count + 1) t u g 0 c g' 0 c' m m' w1 (Nat.lt_succ_self _) hm hm' h1 h2 hc hc' (ht.below hb) (ht'.below hb))
  have HK1 := hide (fun w1 (hb : Below w.heap.size w w1) => kind6_any ⟨t.kind, t.num, t.text, t.ks.length⟩ t.atoms g 0 c m w1 hm (by omega) (atoms_last t m hm) (ht.below hb))
  have HK2 := hide (fun w1 (hb : Below w.heap.size w w1) => kind6_any ⟨u.kind, u.num, u.text, u.ks.length⟩ u.atoms g' 0 c' m' w1 hm' (by omega) (atoms_last u m' hm') (ht'.below hb))
  have HN := hide (no6_any ⟨#[116, 121, 112, 101]⟩)
  rw [hk] at HK1
  rw [hk'] at HK2
  clear ht ht'
  generalize t.ord u = od at *
  have o0 := OB.start w (.slice (some ⟨g, 0, none⟩) (m + 1) c) (.slice (some ⟨g', 0, none⟩) (m' + 1) c')
  go_enter Tryz.func5, Tryz.ntmps5
  go_wp2_with fail
  refine (HV1.out _ o0.B).mono ?_
  rintro e w1 ⟨rfl, hb1⟩
  have o1 := o0.below hb1
  clear hb1 o0
  have a1 := o1.b
  go_wp2_with fail
  refine (HV2.out _ o1.B).mono ?_
  rintro e w2 ⟨rfl, hb2⟩
  have o2 := o1.below hb2
  clear hb2 o1 a1
  have a2 := o2.a
  have b2 := o2.b
  go_wp2_with (go_at_call 13; refine (in1_any _ _ _ _).mono ?_; rintro e w2' ⟨rfl, rfl⟩)
  refine (HO.out _ o2.B).mono ?_
  rintro e w3 ⟨rfl, hb3⟩
  have o3 := o2.below hb3
  clear hb3 o2 a2 b2
  have a3 := o3.a
  go_wp2_with fail
  refine (HK1.out _ o3.B).mono ?_
  rintro e w4 ⟨rfl, hb4⟩
  have o4 := o3.below hb4
  clear hb4 o3 a3
  have a4 := o4.a
  have b4 := o4.b
  go_wp2_with fail
  refine (HK2.out _ o4.B).mono ?_
  rintro e w5 ⟨rfl, hb5⟩
  have o5 := o4.below hb5
  clear hb5 o4 a4 b4
  have a5 := o5.a
  have b5 := o5.b
  go_wp2_with fail
  refine (HN.out _).mono ?_
  rintro e w6 ⟨rfl, hb6⟩
  have o6 := o5.below hb6
  have r6 := o6.r
  have f6 := o6.f
  have B6 := o6.B
  clear hb6 o6
  go_wp2
  refine bodyPost_ret (v := .tuple #[.agg #[.slice none 0 0], .string ⟨#[116, 121, 112, 101]⟩]) (by simp [results, Tryz.results5, go_sem, r6]) rfl ?_
  exact ⟨B6.setCell (p := ⟨w.heap.size + 1 + 1, 0, none⟩) (by show w.heap.size ≤ w.heap.size + 1 + 1; omega) _, .inl ⟨rfl, rfl⟩⟩

set_option maxRecDepth 100000 in
set_option maxHeartbeats 1000000 in
theorem specOp_cmp8no1 (t u : T) (g g' c c' m m' : Nat) (w : World) (hm : t.count = m + 1) (hm' : u.count = m' + 1) (h1 : m < 1000) (h2 : m' < 1000) (hc : m + 1 ≤ c) (hc' : m' + 1 ≤ c') (hg : t.good = true) (hg' : u.good = true) (ht : AtomsO w g 0 t.atoms) (ht' : AtomsO w g' 0 u.atoms) (hk : t.kind = 1) (hk' : u.kind = 1) :
    Calls Tryz.prog 5 #[.int .i64 8, .agg #[.slice (some ⟨g, 0, none⟩) (m + 1) c], .agg #[.slice (some ⟨g', 0, none⟩) (m' + 1) c']] w (OPost w (([], wTy))) := by
  have HV1 : Hid (∀ w1, Below w.heap.size w w1 → Calls Tryz.prog 12 #[.agg #[.slice (some ⟨g, 0, none⟩) (m + 1) c]] w1 fun e w' => e = .returned (.bool true) ∧ Below w1.heap.size w1 w') := hide (fun w1 hb => by
    have h := specValid_any t.atoms g 0 c w1 (fun _ => rfl) (ht.below hb) (by show t.count ≤ c; omega) (by show t.count ≤ _; omega)
    rw [valid_of t hg (by omega)] at h
    rw [show t.atoms.length = m + 1 from hm] at h
    exact h)
  have HV2 : Hid (∀ w1, Below w.heap.size w w1 → Calls Tryz.prog 12 #[.agg #[.slice (some ⟨g', 0, none⟩) (m' + 1) c']] w1 fun e w' => e = .returned (.bool true) ∧ Below w1.heap.size w1 w') := hide (fun w1 hb => by
    have h := specValid_any u.atoms g' 0 c' w1 (fun _ => rfl) (ht'.below hb) (by show u.count ≤ c'; omega) (by show u.count ≤ _; omega)
    rw [valid_of u hg' (by omega)] at h
    rw [show u.atoms.length = m' + 1 from hm'] at h
    exact h)
  have HO := hide (fun w1 (hb : Below w.heap.size w w1) => order5_any (t.count + 1) t u g 0 c g' 0 c' m m' w1 (Nat.lt_succ_self _) hm hm' h1 h2 hc hc' (ht.below hb) (ht'.below hb))
  have HK1 := hide (fun w1 (hb : Below w.heap.size w w1) => kind6_any ⟨t.kind, t.num, t.text, t.ks.length⟩ t.atoms g 0 c m w1 hm (by omega) (atoms_last t m hm) (ht.below hb))
  have HK2 := hide (fun w1 (hb : Below w.heap.size w w1) => kind6_any ⟨u.kind, u.num, u.text, u.ks.length⟩ u.atoms g' 0 c' m' w1 hm' (by omega) (atoms_last u m' hm') (ht'.below hb))
  have HN := hide (no6_any ⟨#[116, 121, 112, 101]⟩)
  rw [hk] at HK1
  rw [hk'] at HK2
  clear ht ht'
  generalize t.ord u = od at *
  have o0 := OB.start w (.slice (some ⟨g, 0, none⟩) (m + 1) c) (.slice (some ⟨g', 0, none⟩) (m' + 1) c')
  go_enter Tryz.func5, Tryz.ntmps5
  go_wp2_with fail
  refine (HV1.out _ o0.B).mono ?_
  rintro e w1 ⟨rfl, hb1⟩
  have o1 := o0.below hb1
  clear hb1 o0
  have a1 := o1.b
  go_wp2_with fail
  refine (HV2.out _ o1.B).mono ?_
  rintro e w2 ⟨rfl, hb2⟩
  have o2 := o1.below hb2
  clear hb2 o1 a1
  have a2 := o2.a
  have b2 := o2.b
  go_wp2_with (go_at_call 13; refine (in1_any _ _ _ _).mono ?_; rintro e w2' ⟨rfl, rfl⟩)
  refine (HO.out _ o2.B).mono ?_
  rintro e w3 ⟨rfl, hb3⟩
  have o3 := o2.below hb3
  clear hb3 o2 a2 b2
  have a3 := o3.a
  go_wp2_with fail
  refine (HK1.out _ o3.B).mono ?_
  rintro e w4 ⟨rfl, hb4⟩
  have o4 := o3.below hb4
  clear hb4 o3 a3
  have a4 := o4.a
  have b4 := o4.b
  go_wp2_with fail
  refine (HK2.out _ o4.B).mono ?_
  rintro e w5 ⟨rfl, hb5⟩
  have o5 := o4.below hb5
  clear hb5 o4 a4 b4
  have a5 := o5.a
  have b5 := o5.b
  go_wp2_with fail
  refine (HN.out _).mono ?_
  rintro e w6 ⟨rfl, hb6⟩
  have o6 := o5.below hb6
  have r6 := o6.r
  have f6 := o6.f
  have B6 := o6.B
  clear hb6 o6
  go_wp2
  refine bodyPost_ret (v := .tuple #[.agg #[.slice none 0 0], .string ⟨#[116, 121, 112, 101]⟩]) (by simp [results, Tryz.results5, go_sem, r6]) rfl ?_
  exact ⟨B6.setCell (p := ⟨w.heap.size + 1 + 1, 0, none⟩) (by show w.heap.size ≤ w.heap.size + 1 + 1; omega) _, .inl ⟨rfl, rfl⟩⟩

set_option maxRecDepth 100000 in
set_option maxHeartbeats 1000000 in
theorem specOp_cmp8no6 (t u : T) (g g' c c' m m' : Nat) (w : World) (hm : t.count = m + 1) (hm' : u.count = m' + 1) (h1 : m < 1000) (h2 : m' < 1000) (hc : m + 1 ≤ c) (hc' : m' + 1 ≤ c') (hg : t.good = true) (hg' : u.good = true) (ht : AtomsO w g 0 t.atoms) (ht' : AtomsO w g' 0 u.atoms) (hk : t.kind = 6) (hk' : u.kind = 6) :
    Calls Tryz.prog 5 #[.int .i64 8, .agg #[.slice (some ⟨g, 0, none⟩) (m + 1) c], .agg #[.slice (some ⟨g', 0, none⟩) (m' + 1) c']] w (OPost w (([], wTy))) := by
  have HV1 : Hid (∀ w1, Below w.heap.size w w1 → Calls Tryz.prog 12 #[.agg #[.slice (some ⟨g, 0, none⟩) (m + 1) c]] w1 fun e w' => e = .returned (.bool true) ∧ Below w1.heap.size w1 w') := hide (fun w1 hb => by
    have h := specValid_any t.atoms g 0 c w1 (fun _ => rfl) (ht.below hb) (by show t.count ≤ c; omega) (by show t.count ≤ _; omega)
    rw [valid_of t hg (by omega)] at h
    rw [show t.atoms.length = m + 1 from hm] at h
    exact h)
  have HV2 : Hid (∀ w1, Below w.heap.size w w1 → Calls Tryz.prog 12 #[.agg #[.slice (some ⟨g', 0, none⟩) (m' + 1) c']] w1 fun e w' => e = .returned (.bool true) ∧ Below w1.heap.size w1 w') := hide (fun w1 hb => by
    have h := specValid_any u.atoms g' 0 c' w1 (fun _ => rfl) (ht'.below hb) (by show u.count ≤ c'; omega) (by show u.count ≤ _; omega)
    rw [valid_of u hg' (by omega)] at h
    rw [show u.atoms.length = m' + 1 from hm'] at h
    exact h)
  have HO := hide (fun w1 (hb : Below w.heap.size w w1) => order5_any (t.count + 1) t u g 0 c g' 0 c' m m' w1 (Nat.lt_succ_self _) hm hm' h1 h2 hc hc' (ht.below hb) (ht'.below hb))
  have HK1 := hide (fun w1 (hb : Below w.heap.size w w1) => kind6_any ⟨t.kind, t.num, t.text, t.ks.length⟩ t.atoms g 0 c m w1 hm (by omega) (atoms_last t m hm) (ht.below hb))
  have HK2 := hide (fun w1 (hb : Below w.heap.size w w1) => kind6_any ⟨u.kind, u.num, u.text, u.ks.length⟩ u.atoms g' 0 c' m' w1 hm' (by omega) (atoms_last u m' hm') (ht'.below hb))
  have HN := hide (no6_any ⟨#[116, 121, 112, 101]⟩)
  rw [hk] at HK1
  rw [hk'] at HK2
  clear ht ht'
  generalize t.ord u = od at *
  have o0 := OB.start w (.slice (some ⟨g, 0, none⟩) (m + 1) c) (.slice (some ⟨g', 0, none⟩) (m' + 1) c')
  go_enter Tryz.func5, Tryz.ntmps5
  go_wp2_with fail
  refine (HV1.out _ o0.B).mono ?_
  rintro e w1 ⟨rfl, hb1⟩
  have o1 := o0.below hb1
  clear hb1 o0
  have a1 := o1.b
  go_wp2_with fail
  refine (HV2.out _ o1.B).mono ?_
  rintro e w2 ⟨rfl, hb2⟩
  have o2 := o1.below hb2
  clear hb2 o1 a1
  have a2 := o2.a
  have b2 := o2.b
  go_wp2_with (go_at_call 13; refine (in1_any _ _ _ _).mono ?_; rintro e w2' ⟨rfl, rfl⟩)
  refine (HO.out _ o2.B).mono ?_
  rintro e w3 ⟨rfl, hb3⟩
  have o3 := o2.below hb3
  clear hb3 o2 a2 b2
  have a3 := o3.a
  go_wp2_with fail
  refine (HK1.out _ o3.B).mono ?_
  rintro e w4 ⟨rfl, hb4⟩
  have o4 := o3.below hb4
  clear hb4 o3 a3
  have a4 := o4.a
  have b4 := o4.b
  go_wp2_with fail
  refine (HK2.out _ o4.B).mono ?_
  rintro e w5 ⟨rfl, hb5⟩
  have o5 := o4.below hb5
  clear hb5 o4 a4 b4
  have a5 := o5.a
  have b5 := o5.b
  go_wp2_with fail
  refine (HN.out _).mono ?_
  rintro e w6 ⟨rfl, hb6⟩
  have o6 := o5.below hb6
  have r6 := o6.r
  have f6 := o6.f
  have B6 := o6.B
  clear hb6 o6
  go_wp2
  refine bodyPost_ret (v := .tuple #[.agg #[.slice none 0 0], .string ⟨#[116, 121, 112, 101]⟩]) (by simp [results, Tryz.results5, go_sem, r6]) rfl ?_
  exact ⟨B6.setCell (p := ⟨w.heap.size + 1 + 1, 0, none⟩) (by show w.heap.size ≤ w.heap.size + 1 + 1; omega) _, .inl ⟨rfl, rfl⟩⟩

set_option maxRecDepth 100000 in
set_option maxHeartbeats 1000000 in
theorem specOp_cmp5 (t u : T) (g g' c c' m m' : Nat) (w : World) (hm : t.count = m + 1) (hm' : u.count = m' + 1) (h1 : m < 1000) (h2 : m' < 1000) (hc : m + 1 ≤ c) (hc' : m' + 1 ≤ c') (hg : t.good = true) (hg' : u.good = true) (ht : AtomsO w g 0 t.atoms) (ht' : AtomsO w g' 0 u.atoms) (k : Int) (hk : t.kind = k) (hk' : u.kind = k) (k1 : (k == 1) = false) (k6 : (k == 6) = false) :
    Calls Tryz.prog 5 #[.int .i64 5, .agg #[.slice (some ⟨g, 0, none⟩) (m + 1) c], .agg #[.slice (some ⟨g', 0, none⟩) (m' + 1) c']] w (OPost w (boolA (decide (t.ord u < 0)))) := by
  have HV1 : Hid (∀ w1, Below w.heap.size w w1 → Calls Tryz.prog 12 #[.agg #[.slice (some ⟨g, 0, none⟩) (m + 1) c]] w1 fun e w' => e = .returned (.bool true) ∧ Below w1.heap.size w1 w') := hide (fun w1 hb => by
    have h := specValid_any t.atoms g 0 c w1 (fun _ => rfl) (ht.below hb) (by show t.count ≤ c; omega) (by show t.count ≤ _; omega)
    rw [valid_of t hg (by omega)] at h
    rw [show t.atoms.length = m + 1 from hm] at h
    exact h)
  have HV2 : Hid (∀ w1, Below w.heap.size w w1 → Calls Tryz.prog 12 #[.agg #[.slice (some ⟨g', 0, none⟩) (m' + 1) c']] w1 fun e w' => e = .returned (.bool true) ∧ Below w1.heap.size w1 w') := hide (fun w1 hb => by
    have h := specValid_any u.atoms g' 0 c' w1 (fun _ => rfl) (ht'.below hb) (by show u.count ≤ c'; omega) (by show u.count ≤ _; omega)
    rw [valid_of u hg' (by omega)] at h
    rw [show u.atoms.length = m' + 1 from hm'] at h
    exact h)
  have HO := hide (fun w1 (hb : Below w.heap.size w w1) => order5_any (t.count + 1) t u g 0 c g' 0 c' m m' w1 (Nat.lt_succ_self _) hm hm' h1 h2 hc hc' (ht.below hb) (ht'.below hb))
  have HK1 := hide (fun w1 (hb : Below w.heap.size w w1) => kind6_any ⟨t.kind, t.num, t.text, t.ks.length⟩ t.atoms g 0 c m w1 hm (by omega) (atoms_last t m hm) (ht.below hb))
  have HK2 := hide (fun w1 (hb : Below w.heap.size w w1) => kind6_any ⟨u.kind, u.num, u.text, u.ks.length⟩ u.atoms g' 0 c' m' w1 hm' (by omega) (atoms_last u m' hm') (ht'.below hb))
  have HB := hide (fun b w' => bool5_any b w')
  have hor := ord_range t u
  rw [hk] at HK1
  rw [hk'] at HK2
  have kne : (k != k) = false := by simp
  clear ht ht'
  generalize t.ord u = od at *
  have HOR := hide hor
  clear hor
  have o0 := OB.start w (.slice (some ⟨g, 0, none⟩) (m + 1) c) (.slice (some ⟨g', 0, none⟩) (m' + 1) c')
  go_enter Tryz.func5, Tryz.ntmps5
  go_wp2_with fail
  refine (HV1.out _ o0.B).mono ?_
  rintro e w1 ⟨rfl, hb1⟩
  have o1 := o0.below hb1
  clear hb1 o0
  have a1 := o1.b
  go_wp2_with fail
  refine (HV2.out _ o1.B).mono ?_
  rintro e w2 ⟨rfl, hb2⟩
  have o2 := o1.below hb2
  clear hb2 o1 a1
  have a2 := o2.a
  have b2 := o2.b
  go_wp2_with (go_at_call 13; refine (in1_any _ _ _ _).mono ?_; rintro e w2' ⟨rfl, rfl⟩)
  refine (HO.out _ o2.B).mono ?_
  rintro e w3 ⟨rfl, hb3⟩
  have o3 := o2.below hb3
  clear hb3 o2 a2 b2
  have a3 := o3.a
  go_wp2_with fail
  refine (HK1.out _ o3.B).mono ?_
  rintro e w4 ⟨rfl, hb4⟩
  have o4 := o3.below hb4
  clear hb4 o3 a3
  have a4 := o4.a
  have b4 := o4.b
  go_wp2_with fail
  refine (HK2.out _ o4.B).mono ?_
  rintro e w5 ⟨rfl, hb5⟩
  have o5 := o4.below hb5
  clear hb5 o4 a4 b4
  have a5 := o5.a
  have b5 := o5.b
  rcases HOR.out with rfl | rfl | rfl
  · skip
    go_wp2_with fail
    refine (HB.out true _).mono ?_
    rintro e w7 ⟨ga, hga, rfl, ha, hb7⟩
    have o7 := o5.below hb7
    have hz5 := o5.z
    have r7 := o7.r
    have f7 := o7.f
    have B7 := o7.B
    clear hb7 o7 a5 b5
    go_wp2
    refine bodyPost_ret (v := .tuple #[.agg #[.slice (some ⟨ga, 0, none⟩) 1 1], .string ⟨#[]⟩]) (by simp [results, Tryz.results5, go_sem, r7]) rfl ?_
    show OPost w (boolA true) _ _
    exact ⟨B7.setCell (p := ⟨w.heap.size + 1 + 1, 0, none⟩) (by show w.heap.size ≤ w.heap.size + 1 + 1; omega) _, .inr ⟨ga, 1, by have := o5.B.size; omega, rfl, atomsO_set ha _ (by show w.heap.size + 1 + 1 ≠ ga; omega) _⟩⟩
  · skip
    go_wp2_with fail
    refine (HB.out false _).mono ?_
    rintro e w7 ⟨ga, hga, rfl, ha, hb7⟩
    have o7 := o5.below hb7
    have hz5 := o5.z
    have r7 := o7.r
    have f7 := o7.f
    have B7 := o7.B
    clear hb7 o7 a5 b5
    go_wp2
    refine bodyPost_ret (v := .tuple #[.agg #[.slice (some ⟨ga, 0, none⟩) 1 1], .string ⟨#[]⟩]) (by simp [results, Tryz.results5, go_sem, r7]) rfl ?_
    show OPost w (boolA false) _ _
    exact ⟨B7.setCell (p := ⟨w.heap.size + 1 + 1, 0, none⟩) (by show w.heap.size ≤ w.heap.size + 1 + 1; omega) _, .inr ⟨ga, 1, by have := o5.B.size; omega, rfl, atomsO_set ha _ (by show w.heap.size + 1 + 1 ≠ ga; omega) _⟩⟩
  · skip
    go_wp2_with fail
    refine (HB.out false _).mono ?_
    rintro e w7 ⟨ga, hga, rfl, ha, hb7⟩
    have o7 := o5.below hb7
    have hz5 := o5.z
    have r7 := o7.r
    have f7 := o7.f
    have B7 := o7.B
    clear hb7 o7 a5 b5
    go_wp2
    refine bodyPost_ret (v := .tuple #[.agg #[.slice (some ⟨ga, 0, none⟩) 1 1], .string ⟨#[]⟩]) (by simp [results, Tryz.results5, go_sem, r7]) rfl ?_
    show OPost w (boolA false) _ _
    exact ⟨B7.setCell (p := ⟨w.heap.size + 1 + 1, 0, none⟩) (by show w.heap.size ≤ w.heap.size + 1 + 1; omega) _, .inr ⟨ga, 1, by have := o5.B.size; omega, rfl, atomsO_set ha _ (by show w.heap.size + 1 + 1 ≠ ga; omega) _⟩⟩

set_option maxRecDepth 100000 in
set_option maxHeartbeats 1000000 in
theorem specOp_cmp6 (t u : T) (g g' c c' m m' : Nat) (w : World) (hm : t.count = m + 1) (hm' : u.count = m' + 1) (h1 : m < 1000) (h2 : m' < 1000) (hc : m + 1 ≤ c) (hc' : m' + 1 ≤ c') (hg : t.good = true) (hg' : u.good = true) (ht : AtomsO w g 0 t.atoms) (ht' : AtomsO w g' 0 u.atoms) (k : Int) (hk : t.kind = k) (hk' : u.kind = k) (k1 : (k == 1) = false) (k6 : (k == 6) = false) :
    Calls Tryz.prog 5 #[.int .i64 6, .agg #[.slice (some ⟨g, 0, none⟩) (m + 1) c], .agg #[.slice (some ⟨g', 0, none⟩) (m' + 1) c']] w (OPost w (boolA (decide (t.ord u ≤ 0)))) := by
  have HV1 : Hid (∀ w1, Below w.heap.size w w1 → Calls Tryz.prog 12 #[.agg #[.slice (some ⟨g, 0, none⟩) (m + 1) c]] w1 fun e w' => e = .returned (.bool true) ∧ Below w1.heap.size w1 w') := hide (fun w1 hb => by
    have h := specValid_any t.atoms g 0 c w1 (fun _ => rfl) (ht.below hb) (by show t.count ≤ c; omega) (by show t.count ≤ _; omega)
    rw [valid_of t hg (by omega)] at h
    rw [show t.atoms.length = m + 1 from hm] at h
    exact h)
  have HV2 : Hid (∀ w1, Below w.heap.size w w1 → Calls Tryz.prog 12 #[.agg #[.slice (some ⟨g', 0, none⟩) (m' + 1) c']] w1 fun e w' => e = .returned (.bool true) ∧ Below w1.heap.size w1 w') := hide (fun w1 hb => by
    have h := specValid_any u.atoms g' 0 c' w1 (fun _ => rfl) (ht'.below hb) (by show u.count ≤ c'; omega) (by show u.count ≤ _; omega)
    rw [valid_of u hg' (by omega)] at h
    rw [show u.atoms.length = m' + 1 from hm'] at h
    exact h)
  have HO := hide (fun w1 (hb : Below w.heap.size w w1) => order5_any (t.count + 1) t u g 0 c g' 0 c' m m' w1 (Nat.lt_succ_self _) hm hm' h1 h2 hc hc' (ht.below hb) (ht'.below hb))
  have HK1 := hide (fun w1 (hb : Below w.heap.size w w1) => kind6_any ⟨t.kind, t.num, t.text, t.ks.length⟩ t.atoms g 0 c m w1 hm (by omega) (atoms_last t m hm) (ht.below hb))
  have HK2 := hide (fun w1 (hb : Below w.heap.size w w1) => kind6_any ⟨u.kind, u.num, u.text, u.ks.length⟩ u.atoms g' 0 c' m' w1 hm' (by omega) (atoms_last u m' hm') (ht'.below hb))
  have HB := hide (fun b w' => bool5_any b w')
  have hor := ord_range t u
  rw [hk] at HK1
  rw [hk'] at HK2
  have kne : (k != k) = false := by simp
  clear ht ht'
  generalize t.ord u = od at *
  have HOR := hide hor
  clear hor
  have o0 := OB.start w (.slice (some ⟨g, 0, none⟩) (m + 1) c) (.slice (some ⟨g', 0, none⟩) (m' + 1) c')
  go_enter Tryz.func5, Tryz.ntmps5
  go_wp2_with fail
  refine (HV1.out _ o0.B).mono ?_
  rintro e w1 ⟨rfl, hb1⟩
  have o1 := o0.below hb1
  clear hb1 o0
  have a1 := o1.b
  go_wp2_with fail
  refine (HV2.out _ o1.B).mono ?_
  rintro e w2 ⟨rfl, hb2⟩
  have o2 := o1.below hb2
  clear hb2 o1 a1
  have a2 := o2.a
  have b2 := o2.b
  go_wp2_with (go_at_call 13; refine (in1_any _ _ _ _).mono ?_; rintro e w2' ⟨rfl, rfl⟩)
  refine (HO.out _ o2.B).mono ?_
  rintro e w3 ⟨rfl, hb3⟩
  have o3 := o2.below hb3
  clear hb3 o2 a2 b2
  have a3 := o3.a
  go_wp2_with fail
  refine (HK1.out _ o3.B).mono ?_
  rintro e w4 ⟨rfl, hb4⟩
  have o4 := o3.below hb4
  clear hb4 o3 a3
  have a4 := o4.a
  have b4 := o4.b
  go_wp2_with fail
  refine (HK2.out _ o4.B).mono ?_
  rintro e w5 ⟨rfl, hb5⟩
  have o5 := o4.below hb5
  clear hb5 o4 a4 b4
  have a5 := o5.a
  have b5 := o5.b
  rcases HOR.out with rfl | rfl | rfl
  · skip
    go_wp2_with fail
    refine (HB.out true _).mono ?_
    rintro e w7 ⟨ga, hga, rfl, ha, hb7⟩
    have o7 := o5.below hb7
    have hz5 := o5.z
    have r7 := o7.r
    have f7 := o7.f
    have B7 := o7.B
    clear hb7 o7 a5 b5
    go_wp2
    refine bodyPost_ret (v := .tuple #[.agg #[.slice (some ⟨ga, 0, none⟩) 1 1], .string ⟨#[]⟩]) (by simp [results, Tryz.results5, go_sem, r7]) rfl ?_
    show OPost w (boolA true) _ _
    exact ⟨B7.setCell (p := ⟨w.heap.size + 1 + 1, 0, none⟩) (by show w.heap.size ≤ w.heap.size + 1 + 1; omega) _, .inr ⟨ga, 1, by have := o5.B.size; omega, rfl, atomsO_set ha _ (by show w.heap.size + 1 + 1 ≠ ga; omega) _⟩⟩
  · skip
    go_wp2_with fail
    refine (HB.out true _).mono ?_
    rintro e w7 ⟨ga, hga, rfl, ha, hb7⟩
    have o7 := o5.below hb7
    have hz5 := o5.z
    have r7 := o7.r
    have f7 := o7.f
    have B7 := o7.B
    clear hb7 o7 a5 b5
    go_wp2
    refine bodyPost_ret (v := .tuple #[.agg #[.slice (some ⟨ga, 0, none⟩) 1 1], .string ⟨#[]⟩]) (by simp [results, Tryz.results5, go_sem, r7]) rfl ?_
    show OPost w (boolA true) _ _
    exact ⟨B7.setCell (p := ⟨w.heap.size + 1 + 1, 0, none⟩) (by show w.heap.size ≤ w.heap.size + 1 + 1; omega) _, .inr ⟨ga, 1, by have := o5.B.size; omega, rfl, atomsO_set ha _ (by show w.heap.size + 1 + 1 ≠ ga; omega) _⟩⟩
  · skip
    go_wp2_with fail
    refine (HB.out false _).mono ?_
    rintro e w7 ⟨ga, hga, rfl, ha, hb7⟩
    have o7 := o5.below hb7
    have hz5 := o5.z
    have r7 := o7.r
    have f7 := o7.f
    have B7 := o7.B
    clear hb7 o7 a5 b5
    go_wp2
    refine bodyPost_ret (v := .tuple #[.agg #[.slice (some ⟨ga, 0, none⟩) 1 1], .string ⟨#[]⟩]) (by simp [results, Tryz.results5, go_sem, r7]) rfl ?_
    show OPost w (boolA false) _ _
    exact ⟨B7.setCell (p := ⟨w.heap.size + 1 + 1, 0, none⟩) (by show w.heap.size ≤ w.heap.size + 1 + 1; omega) _, .inr ⟨ga, 1, by have := o5.B.size; omega, rfl, atomsO_set ha _ (by show w.heap.size + 1 + 1 ≠ ga; omega) _⟩⟩

set_option maxRecDepth 100000 in
set_option maxHeartbeats 1000000 in
theorem specOp_cmp7 (t u : T) (g g' c c' m m' : Nat) (w : World) (hm : t.count = m + 1) (hm' : u.count = m' + 1) (h1 : m < 1000) (h2 : m' < 1000) (hc : m + 1 ≤ c) (hc' : m' + 1 ≤ c') (hg : t.good = true) (hg' : u.good = true) (ht : AtomsO w g 0 t.atoms) (ht' : AtomsO w g' 0 u.atoms) (k : Int) (hk : t.kind = k) (hk' : u.kind = k) (k1 : (k == 1) = false) (k6 : (k == 6) = false) :
    Calls Tryz.prog 5 #[.int .i64 7, .agg #[.slice (some ⟨g, 0, none⟩) (m + 1) c], .agg #[.slice (some ⟨g', 0, none⟩) (m' + 1) c']] w (OPost w (boolA (decide (0 < t.ord u)))) := by
  have HV1 : Hid (∀ w1, Below w.heap.size w w1 → Calls Tryz.prog 12 #[.agg #[.slice (some ⟨g, 0, none⟩) (m + 1) c]] w1 fun e w' => e = .returned (.bool true) ∧ Below w1.heap.size w1 w') := hide (fun w1 hb => by
    have h := specValid_any t.atoms g 0 c w1 (fun _ => rfl) (ht.below hb) (by show t.count ≤ c; omega) (by show t.count ≤ _; omega)
    rw [valid_of t hg (by omega)] at h
    rw [show t.atoms.length = m + 1 from hm] at h
    exact h)
  have HV2 : Hid (∀ w1, Below w.heap.size w w1 → Calls Tryz.prog 12 #[.agg #[.slice (some ⟨g', 0, none⟩) (m' + 1) c']] w1 fun e w' => e = .returned (.bool true) ∧ Below w1.heap.size w1 w') := hide (fun w1 hb => by
    have h := specValid_any u.atoms g' 0 c' w1 (fun _ => rfl) (ht'.below hb) (by show u.count ≤ c'; omega) (by show u.count ≤ _; omega)
    rw [valid_of u hg' (by omega)] at h
    rw [show u.atoms.length = m' + 1 from hm'] at h
    exact h)
  have HO := hide (fun w1 (hb : Below w.heap.size w w1) => order5_any (t.count + 1) t u g 0 c g' 0 c' m m' w1 (Nat.lt_succ_self _) hm hm' h1 h2 hc hc' (ht.below hb) (ht'.below hb))
  have HK1 := hide (fun w1 (hb : Below w.heap.size w w1) => kind6_any ⟨t.kind, t.num, t.text, t.ks.length⟩ t.atoms g 0 c m w1 hm (by omega) (atoms_last t m hm) (ht.below hb))
  have HK2 := hide (fun w1 (hb : Below w.heap.size w w1) => kind6_any ⟨u.kind, u.num, u.text, u.ks.length⟩ u.atoms g' 0 c' m' w1 hm' (by omega) (atoms_last u m' hm') (ht'.below hb))
  have HB := hide (fun b w' => bool5_any b w')
  have hor := ord_range t u
  rw [hk] at HK1
  rw [hk'] at HK2
  have kne : (k != k) = false := by simp
  clear ht ht'
  generalize t.ord u = od at *
  have HOR := hide hor
  clear hor
  have o0 := OB.start w (.slice (some ⟨g, 0, none⟩) (m + 1) c) (.slice (some ⟨g', 0, none⟩) (m' + 1) c')
  go_enter Tryz.func5, Tryz.ntmps5
  go_wp2_with fail
  refine (HV1.out _ o0.B).mono ?_
  rintro e w1 ⟨rfl, hb1⟩
  have o1 := o0.below hb1
  clear hb1 o0
  have a1 := o1.b
  go_wp2_with fail
  refine (HV2.out _ o1.B).mono ?_
  rintro e w2 ⟨rfl, hb2⟩
  have o2 := o1.below hb2
  clear hb2 o1 a1
  have a2 := o2.a
  have b2 := o2.b
  go_wp2_with (go_at_call 13; refine (in1_any _ _ _ _).mono ?_; rintro e w2' ⟨rfl, rfl⟩)
  refine (HO.out _ o2.B).mono ?_
  rintro e w3 ⟨rfl, hb3⟩
  have o3 := o2.below hb3
  clear hb3 o2 a2 b2
  have a3 := o3.a
  go_wp2_with fail
  refine (HK1.out _ o3.B).mono ?_
  rintro e w4 ⟨rfl, hb4⟩
  have o4 := o3.below hb4
  clear hb4 o3 a3
  have a4 := o4.a
  have b4 := o4.b
  go_wp2_with fail
  refine (HK2.out _ o4.B).mono ?_
  rintro e w5 ⟨rfl, hb5⟩
  have o5 := o4.below hb5
  clear hb5 o4 a4 b4
  have a5 := o5.a
  have b5 := o5.b
  rcases HOR.out with rfl | rfl | rfl
  · skip
    go_wp2_with fail
    refine (HB.out false _).mono ?_
    rintro e w7 ⟨ga, hga, rfl, ha, hb7⟩
    have o7 := o5.below hb7
    have hz5 := o5.z
    have r7 := o7.r
    have f7 := o7.f
    have B7 := o7.B
    clear hb7 o7 a5 b5
    go_wp2
    refine bodyPost_ret (v := .tuple #[.agg #[.slice (some ⟨ga, 0, none⟩) 1 1], .string ⟨#[]⟩]) (by simp [results, Tryz.results5, go_sem, r7]) rfl ?_
    show OPost w (boolA false) _ _
    exact ⟨B7.setCell (p := ⟨w.heap.size + 1 + 1, 0, none⟩) (by show w.heap.size ≤ w.heap.size + 1 + 1; omega) _, .inr ⟨ga, 1, by have := o5.B.size; omega, rfl, atomsO_set ha _ (by show w.heap.size + 1 + 1 ≠ ga; omega) _⟩⟩
  · skip
    go_wp2_with fail
    refine (HB.out false _).mono ?_
    rintro e w7 ⟨ga, hga, rfl, ha, hb7⟩
    have o7 := o5.below hb7
    have hz5 := o5.z
    have r7 := o7.r
    have f7 := o7.f
    have B7 := o7.B
    clear hb7 o7 a5 b5
    go_wp2
    refine bodyPost_ret (v := .tuple #[.agg #[.slice (some ⟨ga, 0, none⟩) 1 1], .string ⟨#[]⟩]) (by simp [results, Tryz.results5, go_sem, r7]) rfl ?_
    show OPost w (boolA false) _ _
    exact ⟨B7.setCell (p := ⟨w.heap.size + 1 + 1, 0, none⟩) (by show w.heap.size ≤ w.heap.size + 1 + 1; omega) _, .inr ⟨ga, 1, by have := o5.B.size; omega, rfl, atomsO_set ha _ (by show w.heap.size + 1 + 1 ≠ ga; omega) _⟩⟩
  · skip
    go_wp2_with fail
    refine (HB.out true _).mono ?_
    rintro e w7 ⟨ga, hga, rfl, ha, hb7⟩
    have o7 := o5.below hb7
    have hz5 := o5.z
    have r7 := o7.r
    have f7 := o7.f
    have B7 := o7.B
    clear hb7 o7 a5 b5
    go_wp2
    refine bodyPost_ret (v := .tuple #[.agg #[.slice (some ⟨ga, 0, none⟩) 1 1], .string ⟨#[]⟩]) (by simp [results, Tryz.results5, go_sem, r7]) rfl ?_
    show OPost w (boolA true) _ _
    exact ⟨B7.setCell (p := ⟨w.heap.size + 1 + 1, 0, none⟩) (by show w.heap.size ≤ w.heap.size + 1 + 1; omega) _, .inr ⟨ga, 1, by have := o5.B.size; omega, rfl, atomsO_set ha _ (by show w.heap.size + 1 + 1 ≠ ga; omega) _⟩⟩

set_option maxRecDepth 100000 in
set_option maxHeartbeats 1000000 in
theorem specOp_cmp8 (t u : T) (g g' c c' m m' : Nat) (w : World) (hm : t.count = m + 1) (hm' : u.count = m' + 1) (h1 : m < 1000) (h2 : m' < 1000) (hc : m + 1 ≤ c) (hc' : m' + 1 ≤ c') (hg : t.good = true) (hg' : u.good = true) (ht : AtomsO w g 0 t.atoms) (ht' : AtomsO w g' 0 u.atoms) (k : Int) (hk : t.kind = k) (hk' : u.kind = k) (k1 : (k == 1) = false) (k6 : (k == 6) = false) :
    Calls Tryz.prog 5 #[.int .i64 8, .agg #[.slice (some ⟨g, 0, none⟩) (m + 1) c], .agg #[.slice (some ⟨g', 0, none⟩) (m' + 1) c']] w (OPost w (boolA (decide (0 ≤ t.ord u)))) := by
  have HV1 : Hid (∀ w1, Below w.heap.size w w1 → Calls Tryz.prog 12 #[.agg #[.slice (some ⟨g, 0, none⟩) (m + 1) c]] w1 fun e w' => e = .returned (.bool true) ∧ Below w1.heap.size w1 w') := hide (fun w1 hb => by
    have h := specValid_any t.atoms g 0 c w1 (fun _ => rfl) (ht.below hb) (by show t.count ≤ c; omega) (by show t.count ≤ _; omega)
    rw [valid_of t hg (by omega)] at h
    rw [show t.atoms.length = m + 1 from hm] at h
    exact h)
  have HV2 : Hid (∀ w1, Below w.heap.size w w1 → Calls Tryz.prog 12 #[.agg #[.slice (some ⟨g', 0, none⟩) (m' + 1) c']] w1 fun e w' => e = .returned (.bool true) ∧ Below w1.heap.size w1 w') := hide (fun w1 hb => by
    have h := specValid_any u.atoms g' 0 c' w1 (fun _ => rfl) (ht'.below hb) (by show u.count ≤ c'; omega) (by show u.count ≤ _; omega)
    rw [valid_of u hg' (by omega)] at h
    rw [show u.atoms.length = m' + 1 from hm'] at h
    exact h)
  have HO := hide (fun w1 (hb : Below w.heap.size w w1) => order5_any (t.count + 1) t u g 0 c g' 0 c' m m' w1 (Nat.lt_succ_self _) hm hm' h1 h2 hc hc' (ht.below hb) (ht'.below hb))
  have HK1 := hide (fun w1 (hb : Below w.heap.size w w1) => kind6_any ⟨t.kind, t.num, t.text, t.ks.length⟩ t.atoms g 0 c m w1 hm (by omega) (atoms_last t m hm) (ht.below hb))
  have HK2 := hide (fun w1 (hb : Below w.heap.size w w1) => kind6_any ⟨u.kind, u.num, u.text, u.ks.length⟩ u.atoms g' 0 c' m' w1 hm' (by omega) (atoms_last u m' hm') (ht'.below hb))
  have HB := hide (fun b w' => bool5_any b w')
  have hor := ord_range t u
  rw [hk] at HK1
  rw [hk'] at HK2
  have kne : (k != k) = false := by simp
  clear ht ht'
  generalize t.ord u = od at *
  have HOR := hide hor
  clear hor
  have o0 := OB.start w (.slice (some ⟨g, 0, none⟩) (m + 1) c) (.slice (some ⟨g', 0, none⟩) (m' + 1) c')
  go_enter Tryz.func5, Tryz.ntmps5
  go_wp2_with fail
  refine (HV1.out _ o0.B).mono ?_
  rintro e w1 ⟨rfl, hb1⟩
  have o1 := o0.below hb1
  clear hb1 o0
  have a1 := o1.b
  go_wp2_with fail
  refine (HV2.out _ o1.B).mono ?_
  rintro e w2 ⟨rfl, hb2⟩
  have o2 := o1.below hb2
  clear hb2 o1 a1
  have a2 := o2.a
  have b2 := o2.b
  go_wp2_with (go_at_call 13; refine (in1_any _ _ _ _).mono ?_; rintro e w2' ⟨rfl, rfl⟩)
  refine (HO.out _ o2.B).mono ?_
  rintro e w3 ⟨rfl, hb3⟩
  have o3 := o2.below hb3
  clear hb3 o2 a2 b2
  have a3 := o3.a
  go_wp2_with fail
  refine (HK1.out _ o3.B).mono ?_
  rintro e w4 ⟨rfl, hb4⟩
  have o4 := o3.below hb4
  clear hb4 o3 a3
  have a4 := o4.a
  have b4 := o4.b
  go_wp2_with fail
  refine (HK2.out _ o4.B).mono ?_
  rintro e w5 ⟨rfl, hb5⟩
  have o5 := o4.below hb5
  clear hb5 o4 a4 b4
  have a5 := o5.a
  have b5 := o5.b
  rcases HOR.out with rfl | rfl | rfl
  · skip
    go_wp2_with fail
    refine (HB.out false _).mono ?_
    rintro e w7 ⟨ga, hga, rfl, ha, hb7⟩
    have o7 := o5.below hb7
    have hz5 := o5.z
    have r7 := o7.r
    have f7 := o7.f
    have B7 := o7.B
    clear hb7 o7 a5 b5
    go_wp2
    refine bodyPost_ret (v := .tuple #[.agg #[.slice (some ⟨ga, 0, none⟩) 1 1], .string ⟨#[]⟩]) (by simp [results, Tryz.results5, go_sem, r7]) rfl ?_
    show OPost w (boolA false) _ _
    exact ⟨B7.setCell (p := ⟨w.heap.size + 1 + 1, 0, none⟩) (by show w.heap.size ≤ w.heap.size + 1 + 1; omega) _, .inr ⟨ga, 1, by have := o5.B.size; omega, rfl, atomsO_set ha _ (by show w.heap.size + 1 + 1 ≠ ga; omega) _⟩⟩
  · skip
    go_wp2_with fail
    refine (HB.out true _).mono ?_
    rintro e w7 ⟨ga, hga, rfl, ha, hb7⟩
    have o7 := o5.below hb7
    have hz5 := o5.z
    have r7 := o7.r
    have f7 := o7.f
    have B7 := o7.B
    clear hb7 o7 a5 b5
    go_wp2
    refine bodyPost_ret (v := .tuple #[.agg #[.slice (some ⟨ga, 0, none⟩) 1 1], .string ⟨#[]⟩]) (by simp [results, Tryz.results5, go_sem, r7]) rfl ?_
    show OPost w (boolA true) _ _
    exact ⟨B7.setCell (p := ⟨w.heap.size + 1 + 1, 0, none⟩) (by show w.heap.size ≤ w.heap.size + 1 + 1; omega) _, .inr ⟨ga, 1, by have := o5.B.size; omega, rfl, atomsO_set ha _ (by show w.heap.size + 1 + 1 ≠ ga; omega) _⟩⟩
  · skip
    go_wp2_with fail
    refine (HB.out true _).mono ?_
    rintro e w7 ⟨ga, hga, rfl, ha, hb7⟩
    have o7 := o5.below hb7
    have hz5 := o5.z
    have r7 := o7.r
    have f7 := o7.f
    have B7 := o7.B
    clear hb7 o7 a5 b5
    go_wp2
    refine bodyPost_ret (v := .tuple #[.agg #[.slice (some ⟨ga, 0, none⟩) 1 1], .string ⟨#[]⟩]) (by simp [results, Tryz.results5, go_sem, r7]) rfl ?_
    show OPost w (boolA true) _ _
    exact ⟨B7.setCell (p := ⟨w.heap.size + 1 + 1, 0, none⟩) (by show w.heap.size ≤ w.heap.size + 1 + 1; omega) _, .inr ⟨ga, 1, by have := o5.B.size; omega, rfl, atomsO_set ha _ (by show w.heap.size + 1 + 1 ≠ ga; omega) _⟩⟩

set_option maxRecDepth 100000 in
set_option maxHeartbeats 1000000 in
theorem specOp_bool1no (t u : T) (g g' c c' m m' : Nat) (w : World) (hm : t.count = m + 1) (hm' : u.count = m' + 1) (h1 : m < 1000) (h2 : m' < 1000) (hc : m + 1 ≤ c) (hc' : m' + 1 ≤ c') (hg : t.good = true) (hg' : u.good = true) (ht : AtomsO w g 0 t.atoms) (ht' : AtomsO w g' 0 u.atoms) (k : Int) (hk : t.kind = k) (hk' : u.kind = k) (k2 : (k != 2) = true) :
    Calls Tryz.prog 5 #[.int .i64 1, .agg #[.slice (some ⟨g, 0, none⟩) (m + 1) c], .agg #[.slice (some ⟨g', 0, none⟩) (m' + 1) c']] w (OPost w (([], wTy))) := by
  have HV1 : Hid (∀ w1, Below w.heap.size w w1 → Calls Tryz.prog 12 #[.agg #[.slice (some ⟨g, 0, none⟩) (m + 1) c]] w1 fun e w' => e = .returned (.bool true) ∧ Below w1.heap.size w1 w') := hide (fun w1 hb => by
    have h := specValid_any t.atoms g 0 c w1 (fun _ => rfl) (ht.below hb) (by show t.count ≤ c; omega) (by show t.count ≤ _; omega)
    rw [valid_of t hg (by omega)] at h
    rw [show t.atoms.length = m + 1 from hm] at h
    exact h)
  have HV2 : Hid (∀ w1, Below w.heap.size w w1 → Calls Tryz.prog 12 #[.agg #[.slice (some ⟨g', 0, none⟩) (m' + 1) c']] w1 fun e w' => e = .returned (.bool true) ∧ Below w1.heap.size w1 w') := hide (fun w1 hb => by
    have h := specValid_any u.atoms g' 0 c' w1 (fun _ => rfl) (ht'.below hb) (by show u.count ≤ c'; omega) (by show u.count ≤ _; omega)
    rw [valid_of u hg' (by omega)] at h
    rw [show u.atoms.length = m' + 1 from hm'] at h
    exact h)
  have HO := hide (fun w1 (hb : Below w.heap.size w w1) => order5_any (t.count + 1) t u g 0 c g' 0 c' m m' w1 (Nat.lt_succ_self _) hm hm' h1 h2 hc hc' (ht.below hb) (ht'.below hb))
  have HK1 := hide (fun w1 (hb : Below w.heap.size w w1) => kind6_any ⟨t.kind, t.num, t.text, t.ks.length⟩ t.atoms g 0 c m w1 hm (by omega) (atoms_last t m hm) (ht.below hb))
  have HK2 := hide (fun w1 (hb : Below w.heap.size w w1) => kind6_any ⟨u.kind, u.num, u.text, u.ks.length⟩ u.atoms g' 0 c' m' w1 hm' (by omega) (atoms_last u m' hm') (ht'.below hb))
  have HN := hide (no6_any ⟨#[116, 121, 112, 101]⟩)
  rw [hk] at HK1
  rw [hk'] at HK2
  have kne : (k != k) = false := by simp
  clear ht ht'
  generalize t.ord u = od at *
  have o0 := OB.start w (.slice (some ⟨g, 0, none⟩) (m + 1) c) (.slice (some ⟨g', 0, none⟩) (m' + 1) c')
  go_enter Tryz.func5, Tryz.ntmps5
  go_wp2_with fail
  refine (HV1.out _ o0.B).mono ?_
  rintro e w1 ⟨rfl, hb1⟩
  have o1 := o0.below hb1
  clear hb1 o0
  have a1 := o1.b
  go_wp2_with fail
  refine (HV2.out _ o1.B).mono ?_
  rintro e w2 ⟨rfl, hb2⟩
  have o2 := o1.below hb2
  clear hb2 o1 a1
  have a2 := o2.a
  have b2 := o2.b
  go_wp2_with (go_at_call 13; refine (in1_any _ _ _ _).mono ?_; rintro e w2' ⟨rfl, rfl⟩)
  refine (HO.out _ o2.B).mono ?_
  rintro e w3 ⟨rfl, hb3⟩
  have o3 := o2.below hb3
  clear hb3 o2 a2 b2
  have a3 := o3.a
  go_wp2_with fail
  refine (HK1.out _ o3.B).mono ?_
  rintro e w4 ⟨rfl, hb4⟩
  have o4 := o3.below hb4
  clear hb4 o3 a3
  have a4 := o4.a
  have b4 := o4.b
  go_wp2_with fail
  refine (HK2.out _ o4.B).mono ?_
  rintro e w5 ⟨rfl, hb5⟩
  have o5 := o4.below hb5
  clear hb5 o4 a4 b4
  have a5 := o5.a
  have b5 := o5.b
  go_wp2_with fail
  refine (HN.out _).mono ?_
  rintro e w6 ⟨rfl, hb6⟩
  have o6 := o5.below hb6
  have r6 := o6.r
  have f6 := o6.f
  have B6 := o6.B
  clear hb6 o6
  go_wp2
  refine bodyPost_ret (v := .tuple #[.agg #[.slice none 0 0], .string ⟨#[116, 121, 112, 101]⟩]) (by simp [results, Tryz.results5, go_sem, r6]) rfl ?_
  exact ⟨B6.setCell (p := ⟨w.heap.size + 1 + 1, 0, none⟩) (by show w.heap.size ≤ w.heap.size + 1 + 1; omega) _, .inl ⟨rfl, rfl⟩⟩

set_option maxRecDepth 100000 in
set_option maxHeartbeats 1000000 in
theorem specOp_bool2no (t u : T) (g g' c c' m m' : Nat) (w : World) (hm : t.count = m + 1) (hm' : u.count = m' + 1) (h1 : m < 1000) (h2 : m' < 1000) (hc : m + 1 ≤ c) (hc' : m' + 1 ≤ c') (hg : t.good = true) (hg' : u.good = true) (ht : AtomsO w g 0 t.atoms) (ht' : AtomsO w g' 0 u.atoms) (k : Int) (hk : t.kind = k) (hk' : u.kind = k) (k2 : (k != 2) = true) :
    Calls Tryz.prog 5 #[.int .i64 2, .agg #[.slice (some ⟨g, 0, none⟩) (m + 1) c], .agg #[.slice (some ⟨g', 0, none⟩) (m' + 1) c']] w (OPost w (([], wTy))) := by
  have HV1 : Hid (∀ w1, Below w.heap.size w w1 → Calls Tryz.prog 12 #[.agg #[.slice (some ⟨g, 0, none⟩) (m + 1) c]] w1 fun e w' => e = .returned (.bool true) ∧ Below w1.heap.size w1 w') := hide (fun w1 hb => by
    have h := specValid_any t.atoms g 0 c w1 (fun _ => rfl) (ht.below hb) (by show t.count ≤ c; omega) (by show t.count ≤ _; omega)
    rw [valid_of t hg (by omega)] at h
    rw [show t.atoms.length = m + 1 from hm] at h
    exact h)
  have HV2 : Hid (∀ w1, Below w.heap.size w w1 → Calls Tryz.prog 12 #[.agg #[.slice (some ⟨g', 0, none⟩) (m' + 1) c']] w1 fun e w' => e = .returned (.bool true) ∧ Below w1.heap.size w1 w') := hide (fun w1 hb => by
    have h := specValid_any u.atoms g' 0 c' w1 (fun _ => rfl) (ht'.below hb) (by show u.count ≤ c'; omega) (by show u.count ≤ _; omega)
    rw [valid_of u hg' (by omega)] at h
    rw [show u.atoms.length = m' + 1 from hm'] at h
    exact h)
  have HO := hide (fun w1 (hb : Below w.heap.size w w1) => order5_any (t.count + 1) t u g 0 c g' 0 c' m m' w1 (Nat.lt_succ_self _) hm hm' h1 h2 hc hc' (ht.below hb) (ht'.below hb))
  have HK1 := hide (fun w1 (hb : Below w.heap.size w w1) => kind6_any ⟨t.kind, t.num, t.text, t.ks.length⟩ t.atoms g 0 c m w1 hm (by omega) (atoms_last t m hm) (ht.below hb))
  have HK2 := hide (fun w1 (hb : Below w.heap.size w w1) => kind6_any ⟨u.kind, u.num, u.text, u.ks.length⟩ u.atoms g' 0 c' m' w1 hm' (by omega) (atoms_last u m' hm') (ht'.below hb))
  have HN := hide (no6_any ⟨#[116, 121, 112, 101]⟩)
  rw [hk] at HK1
  rw [hk'] at HK2
  have kne : (k != k) = false := by simp
  clear ht ht'
  generalize t.ord u = od at *
  have o0 := OB.start w (.slice (some ⟨g, 0, none⟩) (m + 1) c) (.slice (some ⟨g', 0, none⟩) (m' + 1) c')
  go_enter Tryz.func5, Tryz.ntmps5
  go_wp2_with fail
  refine (HV1.out _ o0.B).mono ?_
  rintro e w1 ⟨rfl, hb1⟩
  have o1 := o0.below hb1
  clear hb1 o0
  have a1 := o1.b
  go_wp2_with fail
  refine (HV2.out _ o1.B).mono ?_
  rintro e w2 ⟨rfl, hb2⟩
  have o2 := o1.below hb2
  clear hb2 o1 a1
  have a2 := o2.a
  have b2 := o2.b
  go_wp2_with (go_at_call 13; refine (in1_any _ _ _ _).mono ?_; rintro e w2' ⟨rfl, rfl⟩)
  refine (HO.out _ o2.B).mono ?_
  rintro e w3 ⟨rfl, hb3⟩
  have o3 := o2.below hb3
  clear hb3 o2 a2 b2
  have a3 := o3.a
  go_wp2_with fail
  refine (HK1.out _ o3.B).mono ?_
  rintro e w4 ⟨rfl, hb4⟩
  have o4 := o3.below hb4
  clear hb4 o3 a3
  have a4 := o4.a
  have b4 := o4.b
  go_wp2_with fail
  refine (HK2.out _ o4.B).mono ?_
  rintro e w5 ⟨rfl, hb5⟩
  have o5 := o4.below hb5
  clear hb5 o4 a4 b4
  have a5 := o5.a
  have b5 := o5.b
  go_wp2_with fail
  refine (HN.out _).mono ?_
  rintro e w6 ⟨rfl, hb6⟩
  have o6 := o5.below hb6
  have r6 := o6.r
  have f6 := o6.f
  have B6 := o6.B
  clear hb6 o6
  go_wp2
  refine bodyPost_ret (v := .tuple #[.agg #[.slice none 0 0], .string ⟨#[116, 121, 112, 101]⟩]) (by simp [results, Tryz.results5, go_sem, r6]) rfl ?_
  exact ⟨B6.setCell (p := ⟨w.heap.size + 1 + 1, 0, none⟩) (by show w.heap.size ≤ w.heap.size + 1 + 1; omega) _, .inl ⟨rfl, rfl⟩⟩

set_option maxRecDepth 100000 in
set_option maxHeartbeats 1000000 in
theorem specOp_num11no (t u : T) (g g' c c' m m' : Nat) (w : World) (hm : t.count = m + 1) (hm' : u.count = m' + 1) (h1 : m < 1000) (h2 : m' < 1000) (hc : m + 1 ≤ c) (hc' : m' + 1 ≤ c') (hg : t.good = true) (hg' : u.good = true) (ht : AtomsO w g 0 t.atoms) (ht' : AtomsO w g' 0 u.atoms) (k : Int) (hk : t.kind = k) (hk' : u.kind = k) (k3 : (k != 3) = true) :
    Calls Tryz.prog 5 #[.int .i64 11, .agg #[.slice (some ⟨g, 0, none⟩) (m + 1) c], .agg #[.slice (some ⟨g', 0, none⟩) (m' + 1) c']] w (OPost w (([], wTy))) := by
  have HV1 : Hid (∀ w1, Below w.heap.size w w1 → Calls Tryz.prog 12 #[.agg #[.slice (some ⟨g, 0, none⟩) (m + 1) c]] w1 fun e w' => e = .returned (.bool true) ∧ Below w1.heap.size w1 w') := hide (fun w1 hb => by
    have h := specValid_any t.atoms g 0 c w1 (fun _ => rfl) (ht.below hb) (by show t.count ≤ c; omega) (by show t.count ≤ _; omega)
    rw [valid_of t hg (by omega)] at h
    rw [show t.atoms.length = m + 1 from hm] at h
    exact h)
  have HV2 : Hid (∀ w1, Below w.heap.size w w1 → Calls Tryz.prog 12 #[.agg #[.slice (some ⟨g', 0, none⟩) (m' + 1) c']] w1 fun e w' => e = .returned (.bool true) ∧ Below w1.heap.size w1 w') := hide (fun w1 hb => by
    have h := specValid_any u.atoms g' 0 c' w1 (fun _ => rfl) (ht'.below hb) (by show u.count ≤ c'; omega) (by show u.count ≤ _; omega)
    rw [valid_of u hg' (by omega)] at h
    rw [show u.atoms.length = m' + 1 from hm'] at h
    exact h)
  have HO := hide (fun w1 (hb : Below w.heap.size w w1) => order5_any (t.count + 1) t u g 0 c g' 0 c' m m' w1 (Nat.lt_succ_self _) hm hm' h1 h2 hc hc' (ht.below hb) (ht'.below hb))
  have HK1 := hide (fun w1 (hb : Below w.heap.size w w1) => kind6_any ⟨t.kind, t.num, t.text, t.ks.length⟩ t.atoms g 0 c m w1 hm (by omega) (atoms_last t m hm) (ht.below hb))
  have HK2 := hide (fun w1 (hb : Below w.heap.size w w1) => kind6_any ⟨u.kind, u.num, u.text, u.ks.length⟩ u.atoms g' 0 c' m' w1 hm' (by omega) (atoms_last u m' hm') (ht'.below hb))
  have HN := hide (no6_any ⟨#[116, 121, 112, 101]⟩)
  rw [hk] at HK1
  rw [hk'] at HK2
  have kne : (k != k) = false := by simp
  clear ht ht'
  generalize t.ord u = od at *
  have o0 := OB.start w (.slice (some ⟨g, 0, none⟩) (m + 1) c) (.slice (some ⟨g', 0, none⟩) (m' + 1) c')
  go_enter Tryz.func5, Tryz.ntmps5
  go_wp2_with fail
  refine (HV1.out _ o0.B).mono ?_
  rintro e w1 ⟨rfl, hb1⟩
  have o1 := o0.below hb1
  clear hb1 o0
  have a1 := o1.b
  go_wp2_with fail
  refine (HV2.out _ o1.B).mono ?_
  rintro e w2 ⟨rfl, hb2⟩
  have o2 := o1.below hb2
  clear hb2 o1 a1
  have a2 := o2.a
  have b2 := o2.b
  go_wp2_with (go_at_call 13; refine (in1_any _ _ _ _).mono ?_; rintro e w2' ⟨rfl, rfl⟩)
  refine (HO.out _ o2.B).mono ?_
  rintro e w3 ⟨rfl, hb3⟩
  have o3 := o2.below hb3
  clear hb3 o2 a2 b2
  have a3 := o3.a
  go_wp2_with fail
  refine (HK1.out _ o3.B).mono ?_
  rintro e w4 ⟨rfl, hb4⟩
  have o4 := o3.below hb4
  clear hb4 o3 a3
  have a4 := o4.a
  have b4 := o4.b
  go_wp2_with fail
  refine (HK2.out _ o4.B).mono ?_
  rintro e w5 ⟨rfl, hb5⟩
  have o5 := o4.below hb5
  clear hb5 o4 a4 b4
  have a5 := o5.a
  have b5 := o5.b
  go_wp2_with fail
  refine (HN.out _).mono ?_
  rintro e w6 ⟨rfl, hb6⟩
  have o6 := o5.below hb6
  have r6 := o6.r
  have f6 := o6.f
  have B6 := o6.B
  clear hb6 o6
  go_wp2
  refine bodyPost_ret (v := .tuple #[.agg #[.slice none 0 0], .string ⟨#[116, 121, 112, 101]⟩]) (by simp [results, Tryz.results5, go_sem, r6]) rfl ?_
  exact ⟨B6.setCell (p := ⟨w.heap.size + 1 + 1, 0, none⟩) (by show w.heap.size ≤ w.heap.size + 1 + 1; omega) _, .inl ⟨rfl, rfl⟩⟩

set_option maxRecDepth 100000 in
set_option maxHeartbeats 1000000 in
theorem specOp_num12no (t u : T) (g g' c c' m m' : Nat) (w : World) (hm : t.count = m + 1) (hm' : u.count = m' + 1) (h1 : m < 1000) (h2 : m' < 1000) (hc : m + 1 ≤ c) (hc' : m' + 1 ≤ c') (hg : t.good = true) (hg' : u.good = true) (ht : AtomsO w g 0 t.atoms) (ht' : AtomsO w g' 0 u.atoms) (k : Int) (hk : t.kind = k) (hk' : u.kind = k) (k3 : (k != 3) = true) :
    Calls Tryz.prog 5 #[.int .i64 12, .agg #[.slice (some ⟨g, 0, none⟩) (m + 1) c], .agg #[.slice (some ⟨g', 0, none⟩) (m' + 1) c']] w (OPost w (([], wTy))) := by
  have HV1 : Hid (∀ w1, Below w.heap.size w w1 → Calls Tryz.prog 12 #[.agg #[.slice (some ⟨g, 0, none⟩) (m + 1) c]] w1 fun e w' => e = .returned (.bool true) ∧ Below w1.heap.size w1 w') := hide (fun w1 hb => by
    have h := specValid_any t.atoms g 0 c w1 (fun _ => rfl) (ht.below hb) (by show t.count ≤ c; omega) (by show t.count ≤ _; omega)
    rw [valid_of t hg (by omega)] at h
    rw [show t.atoms.length = m + 1 from hm] at h
    exact h)
  have HV2 : Hid (∀ w1, Below w.heap.size w w1 → Calls Tryz.prog 12 #[.agg #[.slice (some ⟨g', 0, none⟩) (m' + 1) c']] w1 fun e w' => e = .returned (.bool true) ∧ Below w1.heap.size w1 w') := hide (fun w1 hb => by
    have h := specValid_any u.atoms g' 0 c' w1 (fun _ => rfl) (ht'.below hb) (by show u.count ≤ c'; omega) (by show u.count ≤ _; omega)
    rw [valid_of u hg' (by omega)] at h
    rw [show u.atoms.length = m' + 1 from hm'] at h
    exact h)
  have HO := hide (fun w1 (hb : Below w.heap.size w w1) => order5_any (t.count + 1) t u g 0 c g' 0 c' m m' w1 (Nat.lt_succ_self _) hm hm' h1 h2 hc hc' (ht.below hb) (ht'.below hb))
  have HK1 := hide (fun w1 (hb : Below w.heap.size w w1) => kind6_any ⟨t.kind, t.num, t.text, t.ks.length⟩ t.atoms g 0 c m w1 hm (by omega) (atoms_last t m hm) (ht.below hb))
  have HK2 := hide (fun w1 (hb : Below w.heap.size w w1) => kind6_any ⟨u.kind, u.num, u.text, u.ks.length⟩ u.atoms g' 0 c' m' w1 hm' (by omega) (atoms_last u m' hm') (ht'.below hb))
  have HN := hide (no6_any ⟨#[116, 121, 112, 101]⟩)
  rw [hk] at HK1
  rw [hk'] at HK2
  have kne : (k != k) = false := by simp
  clear ht ht'
  generalize t.ord u = od at *
  have o0 := OB.start w (.slice (some ⟨g, 0, none⟩) (m + 1) c) (.slice (some ⟨g', 0, none⟩) (m' + 1) c')
  go_enter Tryz.func5, Tryz.ntmps5
  go_wp2_with fail
  refine (HV1.out _ o0.B).mono ?_
  rintro e w1 ⟨rfl, hb1⟩
  have o1 := o0.below hb1
  clear hb1 o0
  have a1 := o1.b
  go_wp2_with fail
  refine (HV2.out _ o1.B).mono ?_
  rintro e w2 ⟨rfl, hb2⟩
  have o2 := o1.below hb2
  clear hb2 o1 a1
  have a2 := o2.a
  have b2 := o2.b
  go_wp2_with (go_at_call 13; refine (in1_any _ _ _ _).mono ?_; rintro e w2' ⟨rfl, rfl⟩)
  refine (HO.out _ o2.B).mono ?_
  rintro e w3 ⟨rfl, hb3⟩
  have o3 := o2.below hb3
  clear hb3 o2 a2 b2
  have a3 := o3.a
  go_wp2_with fail
  refine (HK1.out _ o3.B).mono ?_
  rintro e w4 ⟨rfl, hb4⟩
  have o4 := o3.below hb4
  clear hb4 o3 a3
  have a4 := o4.a
  have b4 := o4.b
  go_wp2_with fail
  refine (HK2.out _ o4.B).mono ?_
  rintro e w5 ⟨rfl, hb5⟩
  have o5 := o4.below hb5
  clear hb5 o4 a4 b4
  have a5 := o5.a
  have b5 := o5.b
  go_wp2_with fail
  refine (HN.out _).mono ?_
  rintro e w6 ⟨rfl, hb6⟩
  have o6 := o5.below hb6
  have r6 := o6.r
  have f6 := o6.f
  have B6 := o6.B
  clear hb6 o6
  go_wp2
  refine bodyPost_ret (v := .tuple #[.agg #[.slice none 0 0], .string ⟨#[116, 121, 112, 101]⟩]) (by simp [results, Tryz.results5, go_sem, r6]) rfl ?_
  exact ⟨B6.setCell (p := ⟨w.heap.size + 1 + 1, 0, none⟩) (by show w.heap.size ≤ w.heap.size + 1 + 1; omega) _, .inl ⟨rfl, rfl⟩⟩

set_option maxRecDepth 100000 in
set_option maxHeartbeats 1000000 in
theorem specOp_num13no (t u : T) (g g' c c' m m' : Nat) (w : World) (hm : t.count = m + 1) (hm' : u.count = m' + 1) (h1 : m < 1000) (h2 : m' < 1000) (hc : m + 1 ≤ c) (hc' : m' + 1 ≤ c') (hg : t.good = true) (hg' : u.good = true) (ht : AtomsO w g 0 t.atoms) (ht' : AtomsO w g' 0 u.atoms) (k : Int) (hk : t.kind = k) (hk' : u.kind = k) (k3 : (k != 3) = true) :
    Calls Tryz.prog 5 #[.int .i64 13, .agg #[.slice (some ⟨g, 0, none⟩) (m + 1) c], .agg #[.slice (some ⟨g', 0, none⟩) (m' + 1) c']] w (OPost w (([], wTy))) := by
  have HV1 : Hid (∀ w1, Below w.heap.size w w1 → Calls Tryz.prog 12 #[.agg #[.slice (some ⟨g, 0, none⟩) (m + 1) c]] w1 fun e w' => e = .returned (.bool true) ∧ Below w1.heap.size w1 w') := hide (fun w1 hb => by
    have h := specValid_any t.atoms g 0 c w1 (fun _ => rfl) (ht.below hb) (by show t.count ≤ c; omega) (by show t.count ≤ _; omega)
    rw [valid_of t hg (by omega)] at h
    rw [show t.atoms.length = m + 1 from hm] at h
    exact h)
  have HV2 : Hid (∀ w1, Below w.heap.size w w1 → Calls Tryz.prog 12 #[.agg #[.slice (some ⟨g', 0, none⟩) (m' + 1) c']] w1 fun e w' => e = .returned (.bool true) ∧ Below w1.heap.size w1 w') := hide (fun w1 hb => by
    have h := specValid_any u.atoms g' 0 c' w1 (fun _ => rfl) (ht'.below hb) (by show u.count ≤ c'; omega) (by show u.count ≤ _; omega)
    rw [valid_of u hg' (by omega)] at h
    rw [show u.atoms.length = m' + 1 from hm'] at h
    exact h)
  have HO := hide (fun w1 (hb : Below w.heap.size w w1) => order5_any (t.count + 1) t u g 0 c g' 0 c' m m' w1 (Nat.lt_succ_self _) hm hm' h1 h2 hc hc' (ht.below hb) (ht'.below hb))
  have HK1 := hide (fun w1 (hb : Below w.heap.size w w1) => kind6_any ⟨t.kind, t.num, t.text, t.ks.length⟩ t.atoms g 0 c m w1 hm (by omega) (atoms_last t m hm) (ht.below hb))
  have HK2 := hide (fun w1 (hb : Below w.heap.size w w1) => kind6_any ⟨u.kind, u.num, u.text, u.ks.length⟩ u.atoms g' 0 c' m' w1 hm' (by omega) (atoms_last u m' hm') (ht'.below hb))
  have HN := hide (no6_any ⟨#[116, 121, 112, 101]⟩)
  rw [hk] at HK1
  rw [hk'] at HK2
  have kne : (k != k) = false := by simp
  clear ht ht'
  generalize t.ord u = od at *
  have o0 := OB.start w (.slice (some ⟨g, 0, none⟩) (m + 1) c) (.slice (some ⟨g', 0, none⟩) (m' + 1) c')
  go_enter Tryz.func5, Tryz.ntmps5
  go_wp2_with fail
  refine (HV1.out _ o0.B).mono ?_
  rintro e w1 ⟨rfl, hb1⟩
  have o1 := o0.below hb1
  clear hb1 o0
  have a1 := o1.b
  go_wp2_with fail
  refine (HV2.out _ o1.B).mono ?_
  rintro e w2 ⟨rfl, hb2⟩
  have o2 := o1.below hb2
  clear hb2 o1 a1
  have a2 := o2.a
  have b2 := o2.b
  go_wp2_with (go_at_call 13; refine (in1_any _ _ _ _).mono ?_; rintro e w2' ⟨rfl, rfl⟩)
  refine (HO.out _ o2.B).mono ?_
  rintro e w3 ⟨rfl, hb3⟩
  have o3 := o2.below hb3
  clear hb3 o2 a2 b2
  have a3 := o3.a
  go_wp2_with fail
  refine (HK1.out _ o3.B).mono ?_
  rintro e w4 ⟨rfl, hb4⟩
  have o4 := o3.below hb4
  clear hb4 o3 a3
  have a4 := o4.a
  have b4 := o4.b
  go_wp2_with fail
  refine (HK2.out _ o4.B).mono ?_
  rintro e w5 ⟨rfl, hb5⟩
  have o5 := o4.below hb5
  clear hb5 o4 a4 b4
  have a5 := o5.a
  have b5 := o5.b
  go_wp2_with fail
  refine (HN.out _).mono ?_
  rintro e w6 ⟨rfl, hb6⟩
  have o6 := o5.below hb6
  have r6 := o6.r
  have f6 := o6.f
  have B6 := o6.B
  clear hb6 o6
  go_wp2
  refine bodyPost_ret (v := .tuple #[.agg #[.slice none 0 0], .string ⟨#[116, 121, 112, 101]⟩]) (by simp [results, Tryz.results5, go_sem, r6]) rfl ?_
  exact ⟨B6.setCell (p := ⟨w.heap.size + 1 + 1, 0, none⟩) (by show w.heap.size ≤ w.heap.size + 1 + 1; omega) _, .inl ⟨rfl, rfl⟩⟩

set_option maxRecDepth 100000 in
set_option maxHeartbeats 1000000 in
theorem specOp_num14no (t u : T) (g g' c c' m m' : Nat) (w : World) (hm : t.count = m + 1) (hm' : u.count = m' + 1) (h1 : m < 1000) (h2 : m' < 1000) (hc : m + 1 ≤ c) (hc' : m' + 1 ≤ c') (hg : t.good = true) (hg' : u.good = true) (ht : AtomsO w g 0 t.atoms) (ht' : AtomsO w g' 0 u.atoms) (k : Int) (hk : t.kind = k) (hk' : u.kind = k) (k3 : (k != 3) = true) :
    Calls Tryz.prog 5 #[.int .i64 14, .agg #[.slice (some ⟨g, 0, none⟩) (m + 1) c], .agg #[.slice (some ⟨g', 0, none⟩) (m' + 1) c']] w (OPost w (([], wTy))) := by
  have HV1 : Hid (∀ w1, Below w.heap.size w w1 → Calls Tryz.prog 12 #[.agg #[.slice (some ⟨g, 0, none⟩) (m + 1) c]] w1 fun e w' => e = .returned (.bool true) ∧ Below w1.heap.size w1 w') := hide (fun w1 hb => by
    have h := specValid_any t.atoms g 0 c w1 (fun _ => rfl) (ht.below hb) (by show t.count ≤ c; omega) (by show t.count ≤ _; omega)
    rw [valid_of t hg (by omega)] at h
    rw [show t.atoms.length = m + 1 from hm] at h
    exact h)
  have HV2 : Hid (∀ w1, Below w.heap.size w w1 → Calls Tryz.prog 12 #[.agg #[.slice (some ⟨g', 0, none⟩) (m' + 1) c']] w1 fun e w' => e = .returned (.bool true) ∧ Below w1.heap.size w1 w') := hide (fun w1 hb => by
    have h := specValid_any u.atoms g' 0 c' w1 (fun _ => rfl) (ht'.below hb) (by show u.count ≤ c'; omega) (by show u.count ≤ _; omega)
    rw [valid_of u hg' (by omega)] at h
    rw [show u.atoms.length = m' + 1 from hm'] at h
    exact h)
  have HO := hide (fun w1 (hb : Below w.heap.size w w1) => order5_any (t.count + 1) t u g 0 c g' 0 c' m m' w1 (Nat.lt_succ_self _) hm hm' h1 h2 hc hc' (ht.below hb) (ht'.below hb))
  have HK1 := hide (fun w1 (hb : Below w.heap.size w w1) => kind6_any ⟨t.kind, t.num, t.text, t.ks.length⟩ t.atoms g 0 c m w1 hm (by omega) (atoms_last t m hm) (ht.below hb))
  have HK2 := hide (fun w1 (hb : Below w.heap.size w w1) => kind6_any ⟨u.kind, u.num, u.text, u.ks.length⟩ u.atoms g' 0 c' m' w1 hm' (by omega) (atoms_last u m' hm') (ht'.below hb))
  have HN := hide (no6_any ⟨#[116, 121, 112, 101]⟩)
  rw [hk] at HK1
  rw [hk'] at HK2
  have kne : (k != k) = false := by simp
  clear ht ht'
  generalize t.ord u = od at *
  have o0 := OB.start w (.slice (some ⟨g, 0, none⟩) (m + 1) c) (.slice (some ⟨g', 0, none⟩) (m' + 1) c')
  go_enter Tryz.func5, Tryz.ntmps5
  go_wp2_with fail
  refine (HV1.out _ o0.B).mono ?_
  rintro e w1 ⟨rfl, hb1⟩
  have o1 := o0.below hb1
  clear hb1 o0
  have a1 := o1.b
  go_wp2_with fail
  refine (HV2.out _ o1.B).mono ?_
  rintro e w2 ⟨rfl, hb2⟩
  have o2 := o1.below hb2
  clear hb2 o1 a1
  have a2 := o2.a
  have b2 := o2.b
  go_wp2_with (go_at_call 13; refine (in1_any _ _ _ _).mono ?_; rintro e w2' ⟨rfl, rfl⟩)
  refine (HO.out _ o2.B).mono ?_
  rintro e w3 ⟨rfl, hb3⟩
  have o3 := o2.below hb3
  clear hb3 o2 a2 b2
  have a3 := o3.a
  go_wp2_with fail
  refine (HK1.out _ o3.B).mono ?_
  rintro e w4 ⟨rfl, hb4⟩
  have o4 := o3.below hb4
  clear hb4 o3 a3
  have a4 := o4.a
  have b4 := o4.b
  go_wp2_with fail
  refine (HK2.out _ o4.B).mono ?_
  rintro e w5 ⟨rfl, hb5⟩
  have o5 := o4.below hb5
  clear hb5 o4 a4 b4
  have a5 := o5.a
  have b5 := o5.b
  go_wp2_with fail
  refine (HN.out _).mono ?_
  rintro e w6 ⟨rfl, hb6⟩
  have o6 := o5.below hb6
  have r6 := o6.r
  have f6 := o6.f
  have B6 := o6.B
  clear hb6 o6
  go_wp2
  refine bodyPost_ret (v := .tuple #[.agg #[.slice none 0 0], .string ⟨#[116, 121, 112, 101]⟩]) (by simp [results, Tryz.results5, go_sem, r6]) rfl ?_
  exact ⟨B6.setCell (p := ⟨w.heap.size + 1 + 1, 0, none⟩) (by show w.heap.size ≤ w.heap.size + 1 + 1; omega) _, .inl ⟨rfl, rfl⟩⟩
end Go.Proofs.YtnkfbjcgkdblgaaGreat.Vl
