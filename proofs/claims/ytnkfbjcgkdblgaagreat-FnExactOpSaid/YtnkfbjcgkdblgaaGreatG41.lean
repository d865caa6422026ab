/- Joined: Ls, Lt. -/
import Derived.Test.YtnkfbjcgkdblgaaGreatG40
namespace Go.Proofs.YtnkfbjcgkdblgaaGreat.Vl
open Go.RowKit T.atoms T.ok T.high T.good T.allPlain T.ord
set_option maxHeartbeats 400000 in
theorem text5_any (s : ByteArray) (w : World) : Calls Tryz.prog 37 #[.string s] w fun e w' => ∃ g, w.heap.size ≤ g ∧ e = .returned (.agg #[.slice (some ⟨g, 0, none⟩) 1 1]) ∧ AtomsO w' g 0 [⟨4, 0, s, 0⟩] ∧ Below w.heap.size w w' := by
  have HO := hide (fun w => one5_any ⟨4, 0, s, 0⟩ w)
  go_enter Tryz.func37, Tryz.ntmps37
  go_wp2_with fail
  have hq : Below w.heap.size w (w.alloc (.cells #[.slice none 0 0] 28)) := (Below.refl _ _).alloc (Nat.le_refl _) _
  refine (HO.out _).mono ?_
  rintro e w1 ⟨g, hg, rfl, ha, hb1⟩
  simp only [World.size_alloc] at hg
  have hn := cell_new w (.slice none 0 0) 28
  have hx : w1.cell? ⟨w.heap.size, 0, none⟩ = some (.slice none 0 0) := (hb1.cell (p := ⟨w.heap.size, 0, none⟩) (by simp)).trans hn.1
  have fx : w1.frozen? ⟨w.heap.size, 0, none⟩ = false := (hb1.frozen (p := ⟨w.heap.size, 0, none⟩) (by simp)).trans hn.2
  have hB := hq.trans (hb1.mono hq.size)
  clear hb1 hq hn
  go_wp2
  refine bodyPost_ret (v := .agg #[.slice (some ⟨g, 0, none⟩) 1 1]) (by simp [results, Tryz.results37, go_sem, hx]) rfl ⟨g, by omega, rfl, atomsO_set ha _ (by simp; omega) _, hB.setCell (p := ⟨w.heap.size, 0, none⟩) (Nat.le_refl _) _⟩

set_option maxRecDepth 100000 in
set_option maxHeartbeats 1000000 in
theorem add6_textYes (t u : T) (g g' c c' m m' : Nat) (w : World) (hm : t.count = m + 1) (hm' : u.count = m' + 1) (h1 : m < 1000) (h2 : m' < 1000) (hc : m + 1 ≤ c) (hc' : m' + 1 ≤ c') (ht : AtomsO w g 0 t.atoms) (ht' : AtomsO w g' 0 u.atoms) (hk : t.kind = 4) (hk' : u.kind = 4) (hv : valid [⟨4, 0, t.text ++ u.text, 0⟩] = true) (hs : t.text.size ≤ 1000) (hs' : u.text.size ≤ 1000) :
    Calls Tryz.prog 19 #[.agg #[.slice (some ⟨g, 0, none⟩) (m + 1) c], .agg #[.slice (some ⟨g', 0, none⟩) (m' + 1) c']] w (OPost w (([⟨4, 0, t.text ++ u.text, 0⟩], []))) := by
  have HKD := hide (fun w1 (hb : Below w.heap.size w w1) => kids5_any t.atoms g 0 c m w1 hm (by omega) (ht.below hb) hc)
  have HK1 := hide (fun w1 (hb : Below w.heap.size w w1) => kind6_any ⟨t.kind, t.num, t.text, t.ks.length⟩ t.atoms g 0 c m w1 hm (by omega) (atoms_last t m hm) (ht.below hb))
  have HK2 := hide (fun w1 (hb : Below w.heap.size w w1) => kind6_any ⟨u.kind, u.num, u.text, u.ks.length⟩ u.atoms g' 0 c' m' w1 hm' (by omega) (atoms_last u m' hm') (ht'.below hb))
  have HKE := hide (fun w1 (hb : Below w.heap.size w w1) => kids5_any u.atoms g' 0 c' m' w1 hm' (by omega) (ht'.below hb) hc')
  have HLA := hide (fun w1 (hb : Below w.heap.size w w1) => last_any ⟨t.kind, t.num, t.text, t.ks.length⟩ t.atoms g 0 c m w1 hm (by omega) (atoms_last t m hm) (ht.below hb))
  have HLB := hide (fun w1 (hb : Below w.heap.size w w1) => last_any ⟨u.kind, u.num, u.text, u.ks.length⟩ u.atoms g' 0 c' m' w1 hm' (by omega) (atoms_last u m' hm') (ht'.below hb))
  rw [hk] at HK1 HLA
  rw [hk'] at HK2 HLB
  clear ht ht'
  have HFA := fun w => fld2' 4 t.num t.ks.length t.text w
  have HFB := fun w => fld2' 4 u.num u.ks.length u.text w
  generalize (t.ks.length : Int) = kt at *
  generalize (u.ks.length : Int) = ku at *
  generalize t.text = st at *
  generalize u.text = su at *
  generalize t.num = x at *
  generalize u.num = y at *
  have o0 := OB.start w (.slice (some ⟨g, 0, none⟩) (m + 1) c) (.slice (some ⟨g', 0, none⟩) (m' + 1) c')
  go_enter Tryz.func19, Tryz.ntmps19
  have O0 := hide o0
  have a0 := o0.a
  have b0 := o0.b
  clear o0
  go_wp2_with fail
  go_region_held3 (fun w' => w'.cell? ⟨w.heap.size, 0, none⟩ = some (.slice (some ⟨g, 0, none⟩) (m + 1) c) ∧ w'.cell? ⟨w.heap.size + 1, 0, none⟩ = some (.slice (some ⟨g', 0, none⟩) (m' + 1) c')) (go_keep) (first
    | (refine step_call1 rfl 16 (.tmp 13) 28 rfl (.agg #[.slice (some ⟨g, 0, none⟩) (m + 1) c]) (.int .i64 4) (by simp [Act.eval]) Tryz.f16 Tryz.func16 (by kernel_rfl) (by kernel_rfl) _ (HK1.out _ O0.out.drew.B) ?_; intro w1 hb1; have o1 := O0.out.drew.below hb1; have a1 := o1.a; have b1 := o1.b)
    | (refine step_call1 rfl 16 (.tmp 15) 28 rfl (.agg #[.slice (some ⟨g', 0, none⟩) (m' + 1) c']) (.int .i64 4) (by simp [Act.eval]) Tryz.f16 Tryz.func16 (by kernel_rfl) (by kernel_rfl) _ (HK2.out _ o1.B) ?_; intro w2 hb2; have o2 := o1.below hb2; have a2 := o2.a; have b2 := o2.b))
  have O2 := hide o2
  have a2' := o2.a
  have b2' := o2.b
  clear hb1 hb2 o1 o2 a1 b1 a2 b2 a0 b0
  go_wp2_with fail
  refine (HKD.out _ O2.out.B).mono ?_
  rintro e w3 ⟨g7, c7, nk, vs, ok, rfl, -, hb3⟩
  have O3 := hide (O2.out.below hb3)
  have b3 := O3.out.b
  clear hb3 a2' b2'
  go_wp2_with fail
  refine (HKE.out _ O3.out.B).mono ?_
  rintro e w4 ⟨g8, c8, nk8, vs8, ok8, rfl, -, hb4⟩
  have O4 := hide (O3.out.below hb4)
  have a4 := O4.out.a
  clear hb4 b3
  go_wp2_with fail
  refine (HK1.out _ O4.out.B).mono ?_
  rintro e w5 ⟨rfl, hb5⟩
  have O5 := hide (O4.out.below hb5)
  clear hb5 a4
  have a5 := O5.out.a
  have b5 := O5.out.b
  have hlen : ¬ 9223372036854775807 < st.size + su.size := by omega
  have HT5 := hide (fun w' => (text5_any (st ++ su) w').mono fun e w'' h => (show ∃ r, e = .returned r ∧ ∃ gz, w'.heap.size ≤ gz ∧ r = .agg #[.slice (some ⟨gz, 0, none⟩) 1 1] ∧ AtomsO w'' gz 0 [⟨4, 0, st ++ su, 0⟩] ∧ Below w'.heap.size w' w'' from by obtain ⟨gz, q1, q2, q3, q4⟩ := h; exact ⟨_, q2, gz, q1, rfl, q3, q4⟩))
  have HRG := hide (fun gz w' (h : AtomsO w' gz 0 [⟨4, 0, st ++ su, 0⟩]) => (right6_yes _ gz 1 w' h (Nat.le_refl _) (by simp) hv).mono fun e w'' h => (show ∃ r, e = .returned r ∧ ∃ ga ca, w'.heap.size ≤ ga ∧ r = .tuple #[.agg #[.slice (some ⟨ga, 0, none⟩) 1 ca], .string ⟨#[]⟩] ∧ AtomsO w'' ga 0 [⟨4, 0, st ++ su, 0⟩] ∧ Below w'.heap.size w' w'' from by obtain ⟨q0, q1 | ⟨ga, ca, q1, q2, q3⟩⟩ := h; exact absurd q1.1 (by simp); exact ⟨_, q2, ga, ca, q1, rfl, q3, q0⟩))
  clear hs hs'
  go_wp2_with fail
  go_region_held3 (fun w' => w'.cell? ⟨w.heap.size, 0, none⟩ = some (.slice (some ⟨g, 0, none⟩) (m + 1) c) ∧ w'.cell? ⟨w.heap.size + 1, 0, none⟩ = some (.slice (some ⟨g', 0, none⟩) (m' + 1) c')) (go_keep) (first
    | (refine step_call1 rfl 20 (.tmp 68) 28 rfl (.agg #[.slice (some ⟨g, 0, none⟩) (m + 1) c]) (.agg #[.int .i64 4, .int .i64 x, .string st, .int .i64 kt]) (by simp [Act.eval]) Tryz.f20 Tryz.func20 (by kernel_rfl) (by kernel_rfl) _ (HLA.out _ O5.out.drew.B) ?_; intro w6 hb6; have o6 := O5.out.drew.below hb6; have a6 := o6.a; have b6 := o6.b)
    | (refine step_call1 rfl 20 (.tmp 71) 28 rfl (.agg #[.slice (some ⟨g', 0, none⟩) (m' + 1) c']) (.agg #[.int .i64 4, .int .i64 y, .string su, .int .i64 ku]) (by simp [Act.eval]) Tryz.f20 Tryz.func20 (by kernel_rfl) (by kernel_rfl) _ (HLB.out _ o6.B) ?_; intro w7 hb7; have o7 := o6.below hb7; have a7 := o7.a; have b7 := o7.b)
    | (refine step_call1x rfl 37 (.tmp 74) 9 rfl (.string (st ++ su)) (by simp [Act.eval]) Tryz.f37 Tryz.func37 (by kernel_rfl) (by kernel_rfl) _ (HT5.out _) ?_; rintro r8 w8 ⟨gz, hgz, rfl, hat, hb8⟩; have o8 := o7.below hb8; have a8 := o8.a; have b8 := o8.b)
    | (refine step_call1x rfl 36 (.tmp 75) 28 rfl (.agg #[.slice (some ⟨gz, 0, none⟩) 1 1]) (by simp [Act.eval]) Tryz.f36 Tryz.func36 (by kernel_rfl) (by kernel_rfl) _ (HRG.out gz _ hat) ?_; rintro r9 w9 ⟨ga, ca, hga, rfl, hat9, hb9⟩; have o9 := o8.below hb9; have a9 := o9.a; have b9 := o9.b; have r9 := o9.r; have f9 := o9.f; have s0 := (World.cell?_setCell_other w9 ⟨w.heap.size + 1 + 1, 0, none⟩ ⟨w.heap.size, 0, none⟩ (.slice (some ⟨ga, 0, none⟩) 1 ca) (by simp)).trans a9; have s1 := (World.cell?_setCell_other w9 ⟨w.heap.size + 1 + 1, 0, none⟩ ⟨w.heap.size + 1, 0, none⟩ (.slice (some ⟨ga, 0, none⟩) 1 ca) (by simp)).trans b9))
  have hz8 := o8.z
  have B9 := o9.B
  have hs5 := O5.out.B.size
  have hs8 := o8.B.size
  clear s0 s1 a9 b9 o6 o7 hb6 hb7 hb8 a6 b6 a7 b7 a8 b8
  go_wp2
  refine bodyPost_ret (v := .tuple #[.agg #[(.slice (some ⟨ga, 0, none⟩) 1 ca)], .string ⟨#[]⟩]) (by simp [results, Tryz.results19, go_sem, r9]) rfl ?_
  exact ⟨B9.setCell (p := ⟨w.heap.size + 1 + 1, 0, none⟩) (by show w.heap.size ≤ w.heap.size + 1 + 1; omega) _, .inr ⟨ga, ca, by omega, rfl, atomsO_set hat9 _ (by show w.heap.size + 1 + 1 ≠ ga; omega) _⟩⟩
end Go.Proofs.YtnkfbjcgkdblgaaGreat.Vl
namespace Go.Proofs.YtnkfbjcgkdblgaaGreat.Vl
open Go.RowKit T.atoms T.ok T.high T.good T.allPlain T.ord
set_option maxRecDepth 100000 in
set_option maxHeartbeats 1000000 in
theorem right6_none (l : List At) (g c : Nat) (w : World) (ht : AtomsO w g 0 l) (hc : l.length ≤ c) (hl : l.length ≤ 1048576) (hv : valid l = false) :
    Calls Tryz.prog 36 #[.agg #[.slice (some ⟨g, 0, none⟩) l.length c]] w fun e w' => e = .returned (.tuple #[.agg #[.slice none 0 0], .string ⟨#[108, 97, 114, 103, 101]⟩]) ∧ Below w.heap.size w w' := by
  have HV1 := hide (fun w1 (hb : Below w.heap.size w w1) => specValid_any l g 0 c w1 (fun _ => rfl) (ht.below hb) hc hl)
  rw [hv] at HV1
  clear ht
  have o0 := GB.start w (.slice (some ⟨g, 0, none⟩) l.length c)
  go_enter Tryz.func36, Tryz.ntmps36
  go_wp2_with fail
  refine (HV1.out _ o0.B).mono ?_
  rintro e w1 ⟨rfl, hb1⟩
  have o1 := o0.below hb1
  have r1 := o1.r
  have f1 := o1.f
  have B1 := o1.B
  clear hb1 o0 o1
  go_wp2
  refine bodyPost_ret (v := .tuple #[.agg #[.slice none 0 0], .string ⟨#[108, 97, 114, 103, 101]⟩]) (by simp [results, Tryz.results36, go_sem, r1]) rfl ?_
  exact ⟨rfl, B1.setCell (p := ⟨w.heap.size + 1, 0, none⟩) (by show w.heap.size ≤ w.heap.size + 1; omega) _⟩

set_option maxRecDepth 100000 in
set_option maxHeartbeats 1000000 in
theorem add6_textNo (t u : T) (g g' c c' m m' : Nat) (w : World) (hm : t.count = m + 1) (hm' : u.count = m' + 1) (h1 : m < 1000) (h2 : m' < 1000) (hc : m + 1 ≤ c) (hc' : m' + 1 ≤ c') (ht : AtomsO w g 0 t.atoms) (ht' : AtomsO w g' 0 u.atoms) (hk : t.kind = 4) (hk' : u.kind = 4) (hv : valid [⟨4, 0, t.text ++ u.text, 0⟩] = false) (hs : t.text.size ≤ 1000) (hs' : u.text.size ≤ 1000) :
    Calls Tryz.prog 19 #[.agg #[.slice (some ⟨g, 0, none⟩) (m + 1) c], .agg #[.slice (some ⟨g', 0, none⟩) (m' + 1) c']] w (OPost w (([], [108, 97, 114, 103, 101]))) := by
  have HKD := hide (fun w1 (hb : Below w.heap.size w w1) => kids5_any t.atoms g 0 c m w1 hm (by omega) (ht.below hb) hc)
  have HK1 := hide (fun w1 (hb : Below w.heap.size w w1) => kind6_any ⟨t.kind, t.num, t.text, t.ks.length⟩ t.atoms g 0 c m w1 hm (by omega) (atoms_last t m hm) (ht.below hb))
  have HK2 := hide (fun w1 (hb : Below w.heap.size w w1) => kind6_any ⟨u.kind, u.num, u.text, u.ks.length⟩ u.atoms g' 0 c' m' w1 hm' (by omega) (atoms_last u m' hm') (ht'.below hb))
  have HKE := hide (fun w1 (hb : Below w.heap.size w w1) => kids5_any u.atoms g' 0 c' m' w1 hm' (by omega) (ht'.below hb) hc')
  have HLA := hide (fun w1 (hb : Below w.heap.size w w1) => last_any ⟨t.kind, t.num, t.text, t.ks.length⟩ t.atoms g 0 c m w1 hm (by omega) (atoms_last t m hm) (ht.below hb))
  have HLB := hide (fun w1 (hb : Below w.heap.size w w1) => last_any ⟨u.kind, u.num, u.text, u.ks.length⟩ u.atoms g' 0 c' m' w1 hm' (by omega) (atoms_last u m' hm') (ht'.below hb))
  rw [hk] at HK1 HLA
  rw [hk'] at HK2 HLB
  clear ht ht'
  have HFA := fun w => fld2' 4 t.num t.ks.length t.text w
  have HFB := fun w => fld2' 4 u.num u.ks.length u.text w
  generalize (t.ks.length : Int) = kt at *
  generalize (u.ks.length : Int) = ku at *
  generalize t.text = st at *
  generalize u.text = su at *
  generalize t.num = x at *
  generalize u.num = y at *
  have o0 := OB.start w (.slice (some ⟨g, 0, none⟩) (m + 1) c) (.slice (some ⟨g', 0, none⟩) (m' + 1) c')
  go_enter Tryz.func19, Tryz.ntmps19
  have O0 := hide o0
  have a0 := o0.a
  have b0 := o0.b
  clear o0
  go_wp2_with fail
  go_region_held3 (fun w' => w'.cell? ⟨w.heap.size, 0, none⟩ = some (.slice (some ⟨g, 0, none⟩) (m + 1) c) ∧ w'.cell? ⟨w.heap.size + 1, 0, none⟩ = some (.slice (some ⟨g', 0, none⟩) (m' + 1) c')) (go_keep) (first
    | (refine step_call1 rfl 16 (.tmp 13) 28 rfl (.agg #[.slice (some ⟨g, 0, none⟩) (m + 1) c]) (.int .i64 4) (by simp [Act.eval]) Tryz.f16 Tryz.func16 (by kernel_rfl) (by kernel_rfl) _ (HK1.out _ O0.out.drew.B) ?_; intro w1 hb1; have o1 := O0.out.drew.below hb1; have a1 := o1.a; have b1 := o1.b)
    | (refine step_call1 rfl 16 (.tmp 15) 28 rfl (.agg #[.slice (some ⟨g', 0, none⟩) (m' + 1) c']) (.int .i64 4) (by simp [Act.eval]) Tryz.f16 Tryz.func16 (by kernel_rfl) (by kernel_rfl) _ (HK2.out _ o1.B) ?_; intro w2 hb2; have o2 := o1.below hb2; have a2 := o2.a; have b2 := o2.b))
  have O2 := hide o2
  have a2' := o2.a
  have b2' := o2.b
  clear hb1 hb2 o1 o2 a1 b1 a2 b2 a0 b0
  go_wp2_with fail
  refine (HKD.out _ O2.out.B).mono ?_
  rintro e w3 ⟨g7, c7, nk, vs, ok, rfl, -, hb3⟩
  have O3 := hide (O2.out.below hb3)
  have b3 := O3.out.b
  clear hb3 a2' b2'
  go_wp2_with fail
  refine (HKE.out _ O3.out.B).mono ?_
  rintro e w4 ⟨g8, c8, nk8, vs8, ok8, rfl, -, hb4⟩
  have O4 := hide (O3.out.below hb4)
  have a4 := O4.out.a
  clear hb4 b3
  go_wp2_with fail
  refine (HK1.out _ O4.out.B).mono ?_
  rintro e w5 ⟨rfl, hb5⟩
  have O5 := hide (O4.out.below hb5)
  clear hb5 a4
  have a5 := O5.out.a
  have b5 := O5.out.b
  have hlen : ¬ 9223372036854775807 < st.size + su.size := by omega
  have HT5 := hide (fun w' => (text5_any (st ++ su) w').mono fun e w'' h => (show ∃ r, e = .returned r ∧ ∃ gz, w'.heap.size ≤ gz ∧ r = .agg #[.slice (some ⟨gz, 0, none⟩) 1 1] ∧ AtomsO w'' gz 0 [⟨4, 0, st ++ su, 0⟩] ∧ Below w'.heap.size w' w'' from by obtain ⟨gz, q1, q2, q3, q4⟩ := h; exact ⟨_, q2, gz, q1, rfl, q3, q4⟩))
  have HRG := hide (fun gz w' (h : AtomsO w' gz 0 [⟨4, 0, st ++ su, 0⟩]) => (right6_none _ gz 1 w' h (Nat.le_refl _) (by simp) hv))
  clear hs hs'
  go_wp2_with fail
  go_region_held3 (fun w' => w'.cell? ⟨w.heap.size, 0, none⟩ = some (.slice (some ⟨g, 0, none⟩) (m + 1) c) ∧ w'.cell? ⟨w.heap.size + 1, 0, none⟩ = some (.slice (some ⟨g', 0, none⟩) (m' + 1) c')) (go_keep) (first
    | (refine step_call1 rfl 20 (.tmp 68) 28 rfl (.agg #[.slice (some ⟨g, 0, none⟩) (m + 1) c]) (.agg #[.int .i64 4, .int .i64 x, .string st, .int .i64 kt]) (by simp [Act.eval]) Tryz.f20 Tryz.func20 (by kernel_rfl) (by kernel_rfl) _ (HLA.out _ O5.out.drew.B) ?_; intro w6 hb6; have o6 := O5.out.drew.below hb6; have a6 := o6.a; have b6 := o6.b)
    | (refine step_call1 rfl 20 (.tmp 71) 28 rfl (.agg #[.slice (some ⟨g', 0, none⟩) (m' + 1) c']) (.agg #[.int .i64 4, .int .i64 y, .string su, .int .i64 ku]) (by simp [Act.eval]) Tryz.f20 Tryz.func20 (by kernel_rfl) (by kernel_rfl) _ (HLB.out _ o6.B) ?_; intro w7 hb7; have o7 := o6.below hb7; have a7 := o7.a; have b7 := o7.b)
    | (refine step_call1x rfl 37 (.tmp 74) 9 rfl (.string (st ++ su)) (by simp [Act.eval]) Tryz.f37 Tryz.func37 (by kernel_rfl) (by kernel_rfl) _ (HT5.out _) ?_; rintro r8 w8 ⟨gz, hgz, rfl, hat, hb8⟩; have o8 := o7.below hb8; have a8 := o8.a; have b8 := o8.b)
    | (refine step_call1 rfl 36 (.tmp 75) 28 rfl (.agg #[.slice (some ⟨gz, 0, none⟩) 1 1]) (.tuple #[.agg #[.slice none 0 0], .string ⟨#[108, 97, 114, 103, 101]⟩]) (by simp [Act.eval]) Tryz.f36 Tryz.func36 (by kernel_rfl) (by kernel_rfl) _ (HRG.out gz _ hat) ?_; intro w9 hb9; have o9 := o8.below hb9; have a9 := o9.a; have b9 := o9.b; have r9 := o9.r; have f9 := o9.f; have s0 := (World.cell?_setCell_other w9 ⟨w.heap.size + 1 + 1, 0, none⟩ ⟨w.heap.size, 0, none⟩ (.slice none 0 0) (by simp)).trans a9; have s1 := (World.cell?_setCell_other w9 ⟨w.heap.size + 1 + 1, 0, none⟩ ⟨w.heap.size + 1, 0, none⟩ (.slice none 0 0) (by simp)).trans b9))
  have hz8 := o8.z
  have B9 := o9.B
  have hs5 := O5.out.B.size
  have hs8 := o8.B.size
  clear s0 s1 a9 b9 o6 o7 hb6 hb7 hb8 a6 b6 a7 b7 a8 b8
  go_wp2
  refine bodyPost_ret (v := .tuple #[.agg #[(.slice none 0 0)], .string ⟨#[108, 97, 114, 103, 101]⟩]) (by simp [results, Tryz.results19, go_sem, r9]) rfl ?_
  exact ⟨B9.setCell (p := ⟨w.heap.size + 1 + 1, 0, none⟩) (by show w.heap.size ≤ w.heap.size + 1 + 1; omega) _, .inl ⟨rfl, rfl⟩⟩
end Go.Proofs.YtnkfbjcgkdblgaaGreat.Vl
