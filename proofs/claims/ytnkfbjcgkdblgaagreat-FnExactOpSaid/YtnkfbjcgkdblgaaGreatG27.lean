/- Joined: Lh. -/
import Derived.Test.YtnkfbjcgkdblgaaGreatG26
namespace Go.Proofs.YtnkfbjcgkdblgaaGreat.Vl
open Go.RowKit T.atoms T.ok T.high T.good T.allPlain T.ord
theorem step_call1x {P : Program} {ops : Array Oper} {o : Oper} {a : Act} {w : World} {K : Act → World → Prop} {Q : Exit → Act → World → Prop} {E : Prop}
    (hg : o.guard = none) (f : FuncId) (x : Operand) (t : TypeId) (hop : o.op = Op.call { callee := Callee.value (Operand.func f), args := #[x], argTypes := #[t] })
    (v : Value) (hx : a.eval x = v) (fn : Func) (hfn : P.funcs[f]? = some fn) (hne : (fn.name == "runtime.NumGoroutine") = false) (hbd : fn.body.isNone = false) (R : Value → World → Prop) (hC : Calls P f #[v] w fun e w' => ∃ r, e = .returned r ∧ R r w') (hK : ∀ r w', R r w' → K (a.put o.dst r) w') :
    if Region.wanted o (yielded ops a.tmps) = true then Oper.wp P o a w K Q else E := by
  have hw : Region.wanted o (yielded ops a.tmps) = true := by simp [Region.wanted, hg]
  rw [if_pos hw]
  have h1 : (callFunc f #[v]).run P w = .ok (.enter f #[v]) w := by
    simp only [callFunc, Sem.run_bind, run_program, Result.andThen_ok, hfn, hne, hbd]; rfl
  unfold Oper.wp
  simp only [execOp, hop, resolve, invoke, List.map_toArray, List.map_cons, List.map_nil, hx, Deferred.ofValue, Sem.run_bind]
  rw [show a.eval (Operand.func f) = Value.func (Fn.func f) #[] #[] from rfl]
  simp only [Sem.run_pure, Result.andThen_ok]
  simp [h1]
  refine hC.mono fun e w2 h => ?_
  obtain ⟨r, rfl, h2⟩ := h
  exact hK _ _ h2
theorem OB.drew {w W : World} {va vb : Value} (h : OB w va vb W) : OB w va vb W.drew := ⟨h.B.drew, h.a, h.b, h.r, h.f, h.z⟩

set_option maxRecDepth 100000 in
set_option maxHeartbeats 1000000 in
theorem specOp_bool1_00 (t u : T) (g g' c c' m m' : Nat) (w : World) (hm : t.count = m + 1) (hm' : u.count = m' + 1) (h1 : m < 1000) (h2 : m' < 1000) (hc : m + 1 ≤ c) (hc' : m' + 1 ≤ c') (hg : t.good = true) (hg' : u.good = true) (ht : AtomsO w g 0 t.atoms) (ht' : AtomsO w g' 0 u.atoms) (hk : t.kind = 2) (hk' : u.kind = 2) (ha : t.num = 0) (hb : u.num = 0) :
    Calls Tryz.prog 5 #[.int .i64 1, .agg #[.slice (some ⟨g, 0, none⟩) (m + 1) c], .agg #[.slice (some ⟨g', 0, none⟩) (m' + 1) c']] w (OPost w (boolA false)) := by
  have HV1 : Hid (∀ w1, Below w.heap.size w w1 → Calls Tryz.prog 12 #[.agg #[.slice (some ⟨g, 0, none⟩) (m + 1) c]] w1 fun e w' => e = .returned (.bool true) ∧ Below w1.heap.size w1 w') := hide (fun w1 hb => by
    have h := specValid_any t.atoms g 0 c w1 (fun _ => rfl) (ht.below hb) (by show t.count ≤ c; omega) (by show t.count ≤ _; omega)
    rw [valid_of t hg (by omega)] at h
    rw [show t.atoms.length = m + 1 from hm] at h
    exact h)
  have HV2 : Hid (∀ w1, Below w.heap.size w w1 → Calls Tryz.prog 12 #[.agg #[.slice (some ⟨g', 0, none⟩) (m' + 1) c']] w1 fun e w' => e = .returned (.bool true) ∧ Below w1.heap.size w1 w') := hide (fun w1 hb => by
    have h := specValid_any u.atoms g' 0 c' w1 (fun _ => rfl) (ht'.below hb) (by show u.count ≤ c'; omega) (by show u.count ≤ _; omega)
    rw [valid_of u hg' (by omega)] at h
    rw [show u.atoms.length = m' + 1 from hm'] at h
    exact h)
  have HO := hide (fun w1 (hb : Below w.heap.size w w1) => order5_any (t.count + 1) t u g 0 c g' 0 c' m m' w1 (Nat.lt_succ_self _) hm hm' h1 h2 hc hc' (ht.below hb) (ht'.below hb))
  have HK1 := hide (fun w1 (hb : Below w.heap.size w w1) => kind6_any ⟨t.kind, t.num, t.text, t.ks.length⟩ t.atoms g 0 c m w1 hm (by omega) (atoms_last t m hm) (ht.below hb))
  have HK2 := hide (fun w1 (hb : Below w.heap.size w w1) => kind6_any ⟨u.kind, u.num, u.text, u.ks.length⟩ u.atoms g' 0 c' m' w1 hm' (by omega) (atoms_last u m' hm') (ht'.below hb))
  have HLA := hide (fun w1 (hb : Below w.heap.size w w1) => last_any ⟨t.kind, t.num, t.text, t.ks.length⟩ t.atoms g 0 c m w1 hm (by omega) (atoms_last t m hm) (ht.below hb))
  have HLB := hide (fun w1 (hb : Below w.heap.size w w1) => last_any ⟨u.kind, u.num, u.text, u.ks.length⟩ u.atoms g' 0 c' m' w1 hm' (by omega) (atoms_last u m' hm') (ht'.below hb))
  have HB := hide (fun b w' => (bool5_any b w').mono fun e w'' h => (show ∃ r, e = .returned r ∧ ∃ g, w'.heap.size ≤ g ∧ r = .agg #[.slice (some ⟨g, 0, none⟩) 1 1] ∧ AtomsO w'' g 0 [⟨2, if b then 1 else 0, ⟨#[]⟩, 0⟩] ∧ Below w'.heap.size w' w'' from by obtain ⟨g, h1, h2, h3, h4⟩ := h; exact ⟨_, h2, g, h1, rfl, h3, h4⟩))
  rw [hk] at HK1
  rw [hk'] at HK2
  rw [hk, ha] at HLA
  rw [hk', hb] at HLB
  have HFA := fun w => fld1' 2 0 t.ks.length t.text w
  have HFB := fun w => fld1' 2 0 u.ks.length u.text w
  generalize (t.ks.length : Int) = kt at *
  generalize (u.ks.length : Int) = ku at *
  generalize t.text = st at *
  generalize u.text = su at *
  clear ht ht'
  generalize t.ord u = od at *
  have o0 := OB.start w (.slice (some ⟨g, 0, none⟩) (m + 1) c) (.slice (some ⟨g', 0, none⟩) (m' + 1) c')
  go_enter Tryz.func5, Tryz.ntmps5
  go_wp2_with fail
  refine (HV1.out _ o0.B).mono ?_
  rintro e w1 ⟨rfl, hb1⟩
  have o1 := o0.below hb1
  clear hb1 o0
  have a1 := o1.b
  go_wp2_with fail
  refine (HV2.out _ o1.B).mono ?_
  rintro e w2 ⟨rfl, hb2⟩
  have o2 := o1.below hb2
  clear hb2 o1 a1
  have a2 := o2.a
  have b2 := o2.b
  go_wp2_with (go_at_call 13; refine (in1_any _ _ _ _).mono ?_; rintro e w2' ⟨rfl, rfl⟩)
  refine (HO.out _ o2.B).mono ?_
  rintro e w3 ⟨rfl, hb3⟩
  have o3 := o2.below hb3
  clear hb3 o2 a2 b2
  have a3 := o3.a
  go_wp2_with fail
  refine (HK1.out _ o3.B).mono ?_
  rintro e w4 ⟨rfl, hb4⟩
  have o4 := o3.below hb4
  clear hb4 o3 a3
  have a4 := o4.a
  have b4 := o4.b
  go_wp2_with fail
  refine (HK2.out _ o4.B).mono ?_
  rintro e w5 ⟨rfl, hb5⟩
  have o5 := o4.below hb5
  clear hb5 o4 a4 b4
  have a5 := o5.a
  have b5 := o5.b
  have O5 := hide o5
  clear o5
  go_wp2_with fail
  go_region_held3 (fun w' => w'.cell? ⟨w.heap.size, 0, none⟩ = some (.slice (some ⟨g, 0, none⟩) (m + 1) c) ∧ w'.cell? ⟨w.heap.size + 1, 0, none⟩ = some (.slice (some ⟨g', 0, none⟩) (m' + 1) c')) (go_keep) (first
    | (refine step_call1 rfl 20 (.tmp 72) 28 rfl (.agg #[.slice (some ⟨g, 0, none⟩) (m + 1) c]) (.agg #[.int .i64 2, .int .i64 0, .string st, .int .i64 kt]) (by simp [Act.eval]) Tryz.f20 Tryz.func20 (by kernel_rfl) (by kernel_rfl) _ (HLA.out _ O5.out.drew.B) ?_; intro w6 hb6; have o6 := O5.out.drew.below hb6; have a6 := o6.a; have b6 := o6.b)
    | (refine step_call1 rfl 20 (.tmp 75) 28 rfl (.agg #[.slice (some ⟨g', 0, none⟩) (m' + 1) c']) (.agg #[.int .i64 2, .int .i64 0, .string su, .int .i64 ku]) (by simp [Act.eval]) Tryz.f20 Tryz.func20 (by kernel_rfl) (by kernel_rfl) _ (HLB.out _ o6.B) ?_; intro w7 hb7; have o7 := o6.below hb7; have a7 := o7.a; have b7 := o7.b)
    | (refine step_call1x rfl 17 (.tmp 79) 4 rfl (.bool false) (by first | (simp [Act.eval]; done) | (simp [Act.eval]; decide)) Tryz.f17 Tryz.func17 (by kernel_rfl) (by kernel_rfl) _ (HB.out false _) ?_; rintro r w8 ⟨ga, hga, rfl, hat, hb8⟩; have o8 := o7.below hb8; have a8 := o8.a; have b8 := o8.b; have r8 := o8.r; have f8 := o8.f; have s0 := (World.cell?_setCell_other w8 ⟨w.heap.size + 1 + 1, 0, none⟩ ⟨w.heap.size, 0, none⟩ (.slice (some ⟨ga, 0, none⟩) 1 1) (by simp)).trans a8; have s1 := (World.cell?_setCell_other w8 ⟨w.heap.size + 1 + 1, 0, none⟩ ⟨w.heap.size + 1, 0, none⟩ (.slice (some ⟨ga, 0, none⟩) 1 1) (by simp)).trans b8))
  have hz7 := o7.z
  have B8 := o8.B
  clear s0 s1 a8 b8 o6 o7 hb6 hb7 hb8 a6 b6 a7 b7
  go_wp2
  refine bodyPost_ret (v := .tuple #[.agg #[.slice (some ⟨ga, 0, none⟩) 1 1], .string ⟨#[]⟩]) (by simp [results, Tryz.results5, go_sem, r8]) rfl ?_
  exact ⟨B8.setCell (p := ⟨w.heap.size + 1 + 1, 0, none⟩) (by show w.heap.size ≤ w.heap.size + 1 + 1; omega) _, .inr ⟨ga, 1, by have := O5.out.B.size; omega, rfl, atomsO_set hat _ (by show w.heap.size + 1 + 1 ≠ ga; omega) _⟩⟩

set_option maxRecDepth 100000 in
set_option maxHeartbeats 1000000 in
theorem specOp_bool1_01 (t u : T) (g g' c c' m m' : Nat) (w : World) (hm : t.count = m + 1) (hm' : u.count = m' + 1) (h1 : m < 1000) (h2 : m' < 1000) (hc : m + 1 ≤ c) (hc' : m' + 1 ≤ c') (hg : t.good = true) (hg' : u.good = true) (ht : AtomsO w g 0 t.atoms) (ht' : AtomsO w g' 0 u.atoms) (hk : t.kind = 2) (hk' : u.kind = 2) (ha : t.num = 0) (hb : u.num = 1) :
    Calls Tryz.prog 5 #[.int .i64 1, .agg #[.slice (some ⟨g, 0, none⟩) (m + 1) c], .agg #[.slice (some ⟨g', 0, none⟩) (m' + 1) c']] w (OPost w (boolA true)) := by
  have HV1 : Hid (∀ w1, Below w.heap.size w w1 → Calls Tryz.prog 12 #[.agg #[.slice (some ⟨g, 0, none⟩) (m + 1) c]] w1 fun e w' => e = .returned (.bool true) ∧ Below w1.heap.size w1 w') := hide (fun w1 hb => by
    have h := specValid_any t.atoms g 0 c w1 (fun _ => rfl) (ht.below hb) (by show t.count ≤ c; omega) (by show t.count ≤ _; omega)
    rw [valid_of t hg (by omega)] at h
    rw [show t.atoms.length = m + 1 from hm] at h
    exact h)
  have HV2 : Hid (∀ w1, Below w.heap.size w w1 → Calls Tryz.prog 12 #[.agg #[.slice (some ⟨g', 0, none⟩) (m' + 1) c']] w1 fun e w' => e = .returned (.bool true) ∧ Below w1.heap.size w1 w') := hide (fun w1 hb => by
    have h := specValid_any u.atoms g' 0 c' w1 (fun _ => rfl) (ht'.below hb) (by show u.count ≤ c'; omega) (by show u.count ≤ _; omega)
    rw [valid_of u hg' (by omega)] at h
    rw [show u.atoms.length = m' + 1 from hm'] at h
    exact h)
  have HO := hide (fun w1 (hb : Below w.heap.size w w1) => order5_any (t.count + 1) t u g 0 c g' 0 c' m m' w1 (Nat.lt_succ_self _) hm hm' h1 h2 hc hc' (ht.below hb) (ht'.below hb))
  have HK1 := hide (fun w1 (hb : Below w.heap.size w w1) => kind6_any ⟨t.kind, t.num, t.text, t.ks.length⟩ t.atoms g 0 c m w1 hm (by omega) (atoms_last t m hm) (ht.below hb))
  have HK2 := hide (fun w1 (hb : Below w.heap.size w w1) => kind6_any ⟨u.kind, u.num, u.text, u.ks.length⟩ u.atoms g' 0 c' m' w1 hm' (by omega) (atoms_last u m' hm') (ht'.below hb))
  have HLA := hide (fun w1 (hb : Below w.heap.size w w1) => last_any ⟨t.kind, t.num, t.text, t.ks.length⟩ t.atoms g 0 c m w1 hm (by omega) (atoms_last t m hm) (ht.below hb))
  have HLB := hide (fun w1 (hb : Below w.heap.size w w1) => last_any ⟨u.kind, u.num, u.text, u.ks.length⟩ u.atoms g' 0 c' m' w1 hm' (by omega) (atoms_last u m' hm') (ht'.below hb))
  have HB := hide (fun b w' => (bool5_any b w').mono fun e w'' h => (show ∃ r, e = .returned r ∧ ∃ g, w'.heap.size ≤ g ∧ r = .agg #[.slice (some ⟨g, 0, none⟩) 1 1] ∧ AtomsO w'' g 0 [⟨2, if b then 1 else 0, ⟨#[]⟩, 0⟩] ∧ Below w'.heap.size w' w'' from by obtain ⟨g, h1, h2, h3, h4⟩ := h; exact ⟨_, h2, g, h1, rfl, h3, h4⟩))
  rw [hk] at HK1
  rw [hk'] at HK2
  rw [hk, ha] at HLA
  rw [hk', hb] at HLB
  have HFA := fun w => fld1' 2 0 t.ks.length t.text w
  have HFB := fun w => fld1' 2 1 u.ks.length u.text w
  generalize (t.ks.length : Int) = kt at *
  generalize (u.ks.length : Int) = ku at *
  generalize t.text = st at *
  generalize u.text = su at *
  clear ht ht'
  generalize t.ord u = od at *
  have o0 := OB.start w (.slice (some ⟨g, 0, none⟩) (m + 1) c) (.slice (some ⟨g', 0, none⟩) (m' + 1) c')
  go_enter Tryz.func5, Tryz.ntmps5
  go_wp2_with fail
  refine (HV1.out _ o0.B).mono ?_
  rintro e w1 ⟨rfl, hb1⟩
  have o1 := o0.below hb1
  clear hb1 o0
  have a1 := o1.b
  go_wp2_with fail
  refine (HV2.out _ o1.B).mono ?_
  rintro e w2 ⟨rfl, hb2⟩
  have o2 := o1.below hb2
  clear hb2 o1 a1
  have a2 := o2.a
  have b2 := o2.b
  go_wp2_with (go_at_call 13; refine (in1_any _ _ _ _).mono ?_; rintro e w2' ⟨rfl, rfl⟩)
  refine (HO.out _ o2.B).mono ?_
  rintro e w3 ⟨rfl, hb3⟩
  have o3 := o2.below hb3
  clear hb3 o2 a2 b2
  have a3 := o3.a
  go_wp2_with fail
  refine (HK1.out _ o3.B).mono ?_
  rintro e w4 ⟨rfl, hb4⟩
  have o4 := o3.below hb4
  clear hb4 o3 a3
  have a4 := o4.a
  have b4 := o4.b
  go_wp2_with fail
  refine (HK2.out _ o4.B).mono ?_
  rintro e w5 ⟨rfl, hb5⟩
  have o5 := o4.below hb5
  clear hb5 o4 a4 b4
  have a5 := o5.a
  have b5 := o5.b
  have O5 := hide o5
  clear o5
  go_wp2_with fail
  go_region_held3 (fun w' => w'.cell? ⟨w.heap.size, 0, none⟩ = some (.slice (some ⟨g, 0, none⟩) (m + 1) c) ∧ w'.cell? ⟨w.heap.size + 1, 0, none⟩ = some (.slice (some ⟨g', 0, none⟩) (m' + 1) c')) (go_keep) (first
    | (refine step_call1 rfl 20 (.tmp 72) 28 rfl (.agg #[.slice (some ⟨g, 0, none⟩) (m + 1) c]) (.agg #[.int .i64 2, .int .i64 0, .string st, .int .i64 kt]) (by simp [Act.eval]) Tryz.f20 Tryz.func20 (by kernel_rfl) (by kernel_rfl) _ (HLA.out _ O5.out.drew.B) ?_; intro w6 hb6; have o6 := O5.out.drew.below hb6; have a6 := o6.a; have b6 := o6.b)
    | (refine step_call1 rfl 20 (.tmp 75) 28 rfl (.agg #[.slice (some ⟨g', 0, none⟩) (m' + 1) c']) (.agg #[.int .i64 2, .int .i64 1, .string su, .int .i64 ku]) (by simp [Act.eval]) Tryz.f20 Tryz.func20 (by kernel_rfl) (by kernel_rfl) _ (HLB.out _ o6.B) ?_; intro w7 hb7; have o7 := o6.below hb7; have a7 := o7.a; have b7 := o7.b)
    | (refine step_call1x rfl 17 (.tmp 79) 4 rfl (.bool true) (by first | (simp [Act.eval]; done) | (simp [Act.eval]; decide)) Tryz.f17 Tryz.func17 (by kernel_rfl) (by kernel_rfl) _ (HB.out true _) ?_; rintro r w8 ⟨ga, hga, rfl, hat, hb8⟩; have o8 := o7.below hb8; have a8 := o8.a; have b8 := o8.b; have r8 := o8.r; have f8 := o8.f; have s0 := (World.cell?_setCell_other w8 ⟨w.heap.size + 1 + 1, 0, none⟩ ⟨w.heap.size, 0, none⟩ (.slice (some ⟨ga, 0, none⟩) 1 1) (by simp)).trans a8; have s1 := (World.cell?_setCell_other w8 ⟨w.heap.size + 1 + 1, 0, none⟩ ⟨w.heap.size + 1, 0, none⟩ (.slice (some ⟨ga, 0, none⟩) 1 1) (by simp)).trans b8))
  have hz7 := o7.z
  have B8 := o8.B
  clear s0 s1 a8 b8 o6 o7 hb6 hb7 hb8 a6 b6 a7 b7
  go_wp2
  refine bodyPost_ret (v := .tuple #[.agg #[.slice (some ⟨ga, 0, none⟩) 1 1], .string ⟨#[]⟩]) (by simp [results, Tryz.results5, go_sem, r8]) rfl ?_
  exact ⟨B8.setCell (p := ⟨w.heap.size + 1 + 1, 0, none⟩) (by show w.heap.size ≤ w.heap.size + 1 + 1; omega) _, .inr ⟨ga, 1, by have := O5.out.B.size; omega, rfl, atomsO_set hat _ (by show w.heap.size + 1 + 1 ≠ ga; omega) _⟩⟩

set_option maxRecDepth 100000 in
set_option maxHeartbeats 1000000 in
theorem specOp_bool1_10 (t u : T) (g g' c c' m m' : Nat) (w : World) (hm : t.count = m + 1) (hm' : u.count = m' + 1) (h1 : m < 1000) (h2 : m' < 1000) (hc : m + 1 ≤ c) (hc' : m' + 1 ≤ c') (hg : t.good = true) (hg' : u.good = true) (ht : AtomsO w g 0 t.atoms) (ht' : AtomsO w g' 0 u.atoms) (hk : t.kind = 2) (hk' : u.kind = 2) (ha : t.num = 1) (hb : u.num = 0) :
    Calls Tryz.prog 5 #[.int .i64 1, .agg #[.slice (some ⟨g, 0, none⟩) (m + 1) c], .agg #[.slice (some ⟨g', 0, none⟩) (m' + 1) c']] w (OPost w (boolA true)) := by
  have HV1 : Hid (∀ w1, Below w.heap.size w w1 → Calls Tryz.prog 12 #[.agg #[.slice (some ⟨g, 0, none⟩) (m + 1) c]] w1 fun e w' => e = .returned (.bool true) ∧ Below w1.heap.size w1 w') := hide (fun w1 hb => by
    have h := specValid_any t.atoms g 0 c w1 (fun _ => rfl) (ht.below hb) (by show t.count ≤ c; omega) (by show t.count ≤ _; omega)
    rw [valid_of t hg (by omega)] at h
    rw [show t.atoms.length = m + 1 from hm] at h
    exact h)
  have HV2 : Hid (∀ w1, Below w.heap.size w w1 → Calls Tryz.prog 12 #[.agg #[.slice (some ⟨g', 0, none⟩) (m' + 1) c']] w1 fun e w' => e = .returned (.bool true) ∧ Below w1.heap.size w1 w') := hide (fun w1 hb => by
    have h := specValid_any u.atoms g' 0 c' w1 (fun _ => rfl) (ht'.below hb) (by show u.count ≤ c'; omega) (by show u.count ≤ _; omega)
    rw [valid_of u hg' (by omega)] at h
    rw [show u.atoms.length = m' + 1 from hm'] at h
    exact h)
  have HO := hide (fun w1 (hb : Below w.heap.size w w1) => order5_any (t.count + 1) t u g 0 c g' 0 c' m m' w1 (Nat.lt_succ_self _) hm hm' h1 h2 hc hc' (ht.below hb) (ht'.below hb))
  have HK1 := hide (fun w1 (hb : Below w.heap.size w w1) => kind6_any ⟨t.kind, t.num, t.text, t.ks.length⟩ t.atoms g 0 c m w1 hm (by omega) (atoms_last t m hm) (ht.below hb))
  have HK2 := hide (fun w1 (hb : Below w.heap.size w w1) => kind6_any ⟨u.kind, u.num, u.text, u.ks.length⟩ u.atoms g' 0 c' m' w1 hm' (by omega) (atoms_last u m' hm') (ht'.below hb))
  have HLA := hide (fun w1 (hb : Below w.heap.size w w1) => last_any ⟨t.kind, t.num, t.text, t.ks.length⟩ t.atoms g 0 c m w1 hm (by omega) (atoms_last t m hm) (ht.below hb))
  have HLB := hide (fun w1 (hb : Below w.heap.size w w1) => last_any ⟨u.kind, u.num, u.text, u.ks.length⟩ u.atoms g' 0 c' m' w1 hm' (by omega) (atoms_last u m' hm') (ht'.below hb))
  have HB := hide (fun b w' => (bool5_any b w').mono fun e w'' h => (show ∃ r, e = .returned r ∧ ∃ g, w'.heap.size ≤ g ∧ r = .agg #[.slice (some ⟨g, 0, none⟩) 1 1] ∧ AtomsO w'' g 0 [⟨2, if b then 1 else 0, ⟨#[]⟩, 0⟩] ∧ Below w'.heap.size w' w'' from by obtain ⟨g, h1, h2, h3, h4⟩ := h; exact ⟨_, h2, g, h1, rfl, h3, h4⟩))
  rw [hk] at HK1
  rw [hk'] at HK2
  rw [hk, ha] at HLA
  rw [hk', hb] at HLB
  have HFA := fun w => fld1' 2 1 t.ks.length t.text w
  have HFB := fun w => fld1' 2 0 u.ks.length u.text w
  generalize (t.ks.length : Int) = kt at *
  generalize (u.ks.length : Int) = ku at *
  generalize t.text = st at *
  generalize u.text = su at *
  clear ht ht'
  generalize t.ord u = od at *
  have o0 := OB.start w (.slice (some ⟨g, 0, none⟩) (m + 1) c) (.slice (some ⟨g', 0, none⟩) (m' + 1) c')
  go_enter Tryz.func5, Tryz.ntmps5
  go_wp2_with fail
  refine (HV1.out _ o0.B).mono ?_
  rintro e w1 ⟨rfl, hb1⟩
  have o1 := o0.below hb1
  clear hb1 o0
  have a1 := o1.b
  go_wp2_with fail
  refine (HV2.out _ o1.B).mono ?_
  rintro e w2 ⟨rfl, hb2⟩
  have o2 := o1.below hb2
  clear hb2 o1 a1
  have a2 := o2.a
  have b2 := o2.b
  go_wp2_with (go_at_call 13; refine (in1_any _ _ _ _).mono ?_; rintro e w2' ⟨rfl, rfl⟩)
  refine (HO.out _ o2.B).mono ?_
  rintro e w3 ⟨rfl, hb3⟩
  have o3 := o2.below hb3
  clear hb3 o2 a2 b2
  have a3 := o3.a
  go_wp2_with fail
  refine (HK1.out _ o3.B).mono ?_
  rintro e w4 ⟨rfl, hb4⟩
  have o4 := o3.below hb4
  clear hb4 o3 a3
  have a4 := o4.a
  have b4 := o4.b
  go_wp2_with fail
  refine (HK2.out _ o4.B).mono ?_
  rintro e w5 ⟨rfl, hb5⟩
  have o5 := o4.below hb5
  clear hb5 o4 a4 b4
  have a5 := o5.a
  have b5 := o5.b
  have O5 := hide o5
  clear o5
  go_wp2_with fail
  go_region_held3 (fun w' => w'.cell? ⟨w.heap.size, 0, none⟩ = some (.slice (some ⟨g, 0, none⟩) (m + 1) c) ∧ w'.cell? ⟨w.heap.size + 1, 0, none⟩ = some (.slice (some ⟨g', 0, none⟩) (m' + 1) c')) (go_keep) (first
    | (refine step_call1 rfl 20 (.tmp 72) 28 rfl (.agg #[.slice (some ⟨g, 0, none⟩) (m + 1) c]) (.agg #[.int .i64 2, .int .i64 1, .string st, .int .i64 kt]) (by simp [Act.eval]) Tryz.f20 Tryz.func20 (by kernel_rfl) (by kernel_rfl) _ (HLA.out _ O5.out.drew.B) ?_; intro w6 hb6; have o6 := O5.out.drew.below hb6; have a6 := o6.a; have b6 := o6.b)
    | (refine step_call1 rfl 20 (.tmp 75) 28 rfl (.agg #[.slice (some ⟨g', 0, none⟩) (m' + 1) c']) (.agg #[.int .i64 2, .int .i64 0, .string su, .int .i64 ku]) (by simp [Act.eval]) Tryz.f20 Tryz.func20 (by kernel_rfl) (by kernel_rfl) _ (HLB.out _ o6.B) ?_; intro w7 hb7; have o7 := o6.below hb7; have a7 := o7.a; have b7 := o7.b)
    | (refine step_call1x rfl 17 (.tmp 79) 4 rfl (.bool true) (by first | (simp [Act.eval]; done) | (simp [Act.eval]; decide)) Tryz.f17 Tryz.func17 (by kernel_rfl) (by kernel_rfl) _ (HB.out true _) ?_; rintro r w8 ⟨ga, hga, rfl, hat, hb8⟩; have o8 := o7.below hb8; have a8 := o8.a; have b8 := o8.b; have r8 := o8.r; have f8 := o8.f; have s0 := (World.cell?_setCell_other w8 ⟨w.heap.size + 1 + 1, 0, none⟩ ⟨w.heap.size, 0, none⟩ (.slice (some ⟨ga, 0, none⟩) 1 1) (by simp)).trans a8; have s1 := (World.cell?_setCell_other w8 ⟨w.heap.size + 1 + 1, 0, none⟩ ⟨w.heap.size + 1, 0, none⟩ (.slice (some ⟨ga, 0, none⟩) 1 1) (by simp)).trans b8))
  have hz7 := o7.z
  have B8 := o8.B
  clear s0 s1 a8 b8 o6 o7 hb6 hb7 hb8 a6 b6 a7 b7
  go_wp2
  refine bodyPost_ret (v := .tuple #[.agg #[.slice (some ⟨ga, 0, none⟩) 1 1], .string ⟨#[]⟩]) (by simp [results, Tryz.results5, go_sem, r8]) rfl ?_
  exact ⟨B8.setCell (p := ⟨w.heap.size + 1 + 1, 0, none⟩) (by show w.heap.size ≤ w.heap.size + 1 + 1; omega) _, .inr ⟨ga, 1, by have := O5.out.B.size; omega, rfl, atomsO_set hat _ (by show w.heap.size + 1 + 1 ≠ ga; omega) _⟩⟩

set_option maxRecDepth 100000 in
set_option maxHeartbeats 1000000 in
theorem specOp_bool1_11 (t u : T) (g g' c c' m m' : Nat) (w : World) (hm : t.count = m + 1) (hm' : u.count = m' + 1) (h1 : m < 1000) (h2 : m' < 1000) (hc : m + 1 ≤ c) (hc' : m' + 1 ≤ c') (hg : t.good = true) (hg' : u.good = true) (ht : AtomsO w g 0 t.atoms) (ht' : AtomsO w g' 0 u.atoms) (hk : t.kind = 2) (hk' : u.kind = 2) (ha : t.num = 1) (hb : u.num = 1) :
    Calls Tryz.prog 5 #[.int .i64 1, .agg #[.slice (some ⟨g, 0, none⟩) (m + 1) c], .agg #[.slice (some ⟨g', 0, none⟩) (m' + 1) c']] w (OPost w (boolA true)) := by
  have HV1 : Hid (∀ w1, Below w.heap.size w w1 → Calls Tryz.prog 12 #[.agg #[.slice (some ⟨g, 0, none⟩) (m + 1) c]] w1 fun e w' => e = .returned (.bool true) ∧ Below w1.heap.size w1 w') := hide (fun w1 hb => by
    have h := specValid_any t.atoms g 0 c w1 (fun _ => rfl) (ht.below hb) (by show t.count ≤ c; omega) (by show t.count ≤ _; omega)
    rw [valid_of t hg (by omega)] at h
    rw [show t.atoms.length = m + 1 from hm] at h
    exact h)
  have HV2 : Hid (∀ w1, Below w.heap.size w w1 → Calls Tryz.prog 12 #[.agg #[.slice (some ⟨g', 0, none⟩) (m' + 1) c']] w1 fun e w' => e = .returned (.bool true) ∧ Below w1.heap.size w1 w') := hide (fun w1 hb => by
    have h := specValid_any u.atoms g' 0 c' w1 (fun _ => rfl) (ht'.below hb) (by show u.count ≤ c'; omega) (by show u.count ≤ _; omega)
    rw [valid_of u hg' (by omega)] at h
    rw [show u.atoms.length = m' + 1 from hm'] at h
    exact h)
  have HO := hide (fun w1 (hb : Below w.heap.size w w1) => order5_any (t.count + 1) t u g 0 c g' 0 c' m m' w1 (Nat.lt_succ_self _) hm hm' h1 h2 hc hc' (ht.below hb) (ht'.below hb))
  have HK1 := hide (fun w1 (hb : Below w.heap.size w w1) => kind6_any ⟨t.kind, t.num, t.text, t.ks.length⟩ t.atoms g 0 c m w1 hm (by omega) (atoms_last t m hm) (ht.below hb))
  have HK2 := hide (fun w1 (hb : Below w.heap.size w w1) => kind6_any ⟨u.kind, u.num, u.text, u.ks.length⟩ u.atoms g' 0 c' m' w1 hm' (by omega) (atoms_last u m' hm') (ht'.below hb))
  have HLA := hide (fun w1 (hb : Below w.heap.size w w1) => last_any ⟨t.kind, t.num, t.text, t.ks.length⟩ t.atoms g 0 c m w1 hm (by omega) (atoms_last t m hm) (ht.below hb))
  have HLB := hide (fun w1 (hb : Below w.heap.size w w1) => last_any ⟨u.kind, u.num, u.text, u.ks.length⟩ u.atoms g' 0 c' m' w1 hm' (by omega) (atoms_last u m' hm') (ht'.below hb))
  have HB := hide (fun b w' => (bool5_any b w').mono fun e w'' h => (show ∃ r, e = .returned r ∧ ∃ g, w'.heap.size ≤ g ∧ r = .agg #[.slice (some ⟨g, 0, none⟩) 1 1] ∧ AtomsO w'' g 0 [⟨2, if b then 1 else 0, ⟨#[]⟩, 0⟩] ∧ Below w'.heap.size w' w'' from by obtain ⟨g, h1, h2, h3, h4⟩ := h; exact ⟨_, h2, g, h1, rfl, h3, h4⟩))
  rw [hk] at HK1
  rw [hk'] at HK2
  rw [hk, ha] at HLA
  rw [hk', hb] at HLB
  have HFA := fun w => fld1' 2 1 t.ks.length t.text w
  have HFB := fun w => fld1' 2 1 u.ks.length u.text w
  generalize (t.ks.length : Int) = kt at *
  generalize (u.ks.length : Int) = ku at *
  generalize t.text = st at *
  generalize u.text = su at *
  clear ht ht'
  generalize t.ord u = od at *
  have o0 := OB.start w (.slice (some ⟨g, 0, none⟩) (m + 1) c) (.slice (some ⟨g', 0, none⟩) (m' + 1) c')
  go_enter Tryz.func5, Tryz.ntmps5
  go_wp2_with fail
  refine (HV1.out _ o0.B).mono ?_
  rintro e w1 ⟨rfl, hb1⟩
  have o1 := o0.below hb1
  clear hb1 o0
  have a1 := o1.b
  go_wp2_with fail
  refine (HV2.out _ o1.B).mono ?_
  rintro e w2 ⟨rfl, hb2⟩
  have o2 := o1.below hb2
  clear hb2 o1 a1
  have a2 := o2.a
  have b2 := o2.b
  go_wp2_with (go_at_call 13; refine (in1_any _ _ _ _).mono ?_; rintro e w2' ⟨rfl, rfl⟩)
  refine (HO.out _ o2.B).mono ?_
  rintro e w3 ⟨rfl, hb3⟩
  have o3 := o2.below hb3
  clear hb3 o2 a2 b2
  have a3 := o3.a
  go_wp2_with fail
  refine (HK1.out _ o3.B).mono ?_
  rintro e w4 ⟨rfl, hb4⟩
  have o4 := o3.below hb4
  clear hb4 o3 a3
  have a4 := o4.a
  have b4 := o4.b
  go_wp2_with fail
  refine (HK2.out _ o4.B).mono ?_
  rintro e w5 ⟨rfl, hb5⟩
  have o5 := o4.below hb5
  clear hb5 o4 a4 b4
  have a5 := o5.a
  have b5 := o5.b
  have O5 := hide o5
  clear o5
  go_wp2_with fail
  go_region_held3 (fun w' => w'.cell? ⟨w.heap.size, 0, none⟩ = some (.slice (some ⟨g, 0, none⟩) (m + 1) c) ∧ w'.cell? ⟨w.heap.size + 1, 0, none⟩ = some (.slice (some ⟨g', 0, none⟩) (m' + 1) c')) (go_keep) (first
    | (refine step_call1 rfl 20 (.tmp 72) 28 rfl (.agg #[.slice (some ⟨g, 0, none⟩) (m + 1) c]) (.agg #[.int .i64 2, .int .i64 1, .string st, .int .i64 kt]) (by simp [Act.eval]) Tryz.f20 Tryz.func20 (by kernel_rfl) (by kernel_rfl) _ (HLA.out _ O5.out.drew.B) ?_; intro w6 hb6; have o6 := O5.out.drew.below hb6; have a6 := o6.a; have b6 := o6.b)
    | (refine step_call1 rfl 20 (.tmp 75) 28 rfl (.agg #[.slice (some ⟨g', 0, none⟩) (m' + 1) c']) (.agg #[.int .i64 2, .int .i64 1, .string su, .int .i64 ku]) (by simp [Act.eval]) Tryz.f20 Tryz.func20 (by kernel_rfl) (by kernel_rfl) _ (HLB.out _ o6.B) ?_; intro w7 hb7; have o7 := o6.below hb7; have a7 := o7.a; have b7 := o7.b)
    | (refine step_call1x rfl 17 (.tmp 79) 4 rfl (.bool true) (by first | (simp [Act.eval]; done) | (simp [Act.eval]; decide)) Tryz.f17 Tryz.func17 (by kernel_rfl) (by kernel_rfl) _ (HB.out true _) ?_; rintro r w8 ⟨ga, hga, rfl, hat, hb8⟩; have o8 := o7.below hb8; have a8 := o8.a; have b8 := o8.b; have r8 := o8.r; have f8 := o8.f; have s0 := (World.cell?_setCell_other w8 ⟨w.heap.size + 1 + 1, 0, none⟩ ⟨w.heap.size, 0, none⟩ (.slice (some ⟨ga, 0, none⟩) 1 1) (by simp)).trans a8; have s1 := (World.cell?_setCell_other w8 ⟨w.heap.size + 1 + 1, 0, none⟩ ⟨w.heap.size + 1, 0, none⟩ (.slice (some ⟨ga, 0, none⟩) 1 1) (by simp)).trans b8))
  have hz7 := o7.z
  have B8 := o8.B
  clear s0 s1 a8 b8 o6 o7 hb6 hb7 hb8 a6 b6 a7 b7
  go_wp2
  refine bodyPost_ret (v := .tuple #[.agg #[.slice (some ⟨ga, 0, none⟩) 1 1], .string ⟨#[]⟩]) (by simp [results, Tryz.results5, go_sem, r8]) rfl ?_
  exact ⟨B8.setCell (p := ⟨w.heap.size + 1 + 1, 0, none⟩) (by show w.heap.size ≤ w.heap.size + 1 + 1; omega) _, .inr ⟨ga, 1, by have := O5.out.B.size; omega, rfl, atomsO_set hat _ (by show w.heap.size + 1 + 1 ≠ ga; omega) _⟩⟩

set_option maxRecDepth 100000 in
set_option maxHeartbeats 1000000 in
theorem specOp_bool2_00 (t u : T) (g g' c c' m m' : Nat) (w : World) (hm : t.count = m + 1) (hm' : u.count = m' + 1) (h1 : m < 1000) (h2 : m' < 1000) (hc : m + 1 ≤ c) (hc' : m' + 1 ≤ c') (hg : t.good = true) (hg' : u.good = true) (ht : AtomsO w g 0 t.atoms) (ht' : AtomsO w g' 0 u.atoms) (hk : t.kind = 2) (hk' : u.kind = 2) (ha : t.num = 0) (hb : u.num = 0) :
    Calls Tryz.prog 5 #[.int .i64 2, .agg #[.slice (some ⟨g, 0, none⟩) (m + 1) c], .agg #[.slice (some ⟨g', 0, none⟩) (m' + 1) c']] w (OPost w (boolA false)) := by
  have HV1 : Hid (∀ w1, Below w.heap.size w w1 → Calls Tryz.prog 12 #[.agg #[.slice (some ⟨g, 0, none⟩) (m + 1) c]] w1 fun e w' => e = .returned (.bool true) ∧ Below w1.heap.size w1 w') := hide (fun w1 hb => by
    have h := specValid_any t.atoms g 0 c w1 (fun _ => rfl) (ht.below hb) (by show t.count ≤ c; omega) (by show t.count ≤ _; omega)
    rw [valid_of t hg (by omega)] at h
    rw [show t.atoms.length = m + 1 from hm] at h
    exact h)
  have HV2 : Hid (∀ w1, Below w.heap.size w w1 → Calls Tryz.prog 12 #[.agg #[.slice (some ⟨g', 0, none⟩) (m' + 1) c']] w1 fun e w' => e = .returned (.bool true) ∧ Below w1.heap.size w1 w') := hide (fun w1 hb => by
    have h := specValid_any u.atoms g' 0 c' w1 (fun _ => rfl) (ht'.below hb) (by show u.count ≤ c'; omega) (by show u.count ≤ _; omega)
    rw [valid_of u hg' (by omega)] at h
    rw [show u.atoms.length = m' + 1 from hm'] at h
    exact h)
  have HO := hide (fun w1 (hb : Below w.heap.size w w1) => order5_any (t.count + 1) t u g 0 c g' 0 c' m m' w1 (Nat.lt_succ_self _) hm hm' h1 h2 hc hc' (ht.below hb) (ht'.below hb))
  have HK1 := hide (fun w1 (hb : Below w.heap.size w w1) => kind6_any ⟨t.kind, t.num, t.text, t.ks.length⟩ t.atoms g 0 c m w1 hm (by omega) (atoms_last t m hm) (ht.below hb))
  have HK2 := hide (fun w1 (hb : Below w.heap.size w w1) => kind6_any ⟨u.kind, u.num, u.text, u.ks.length⟩ u.atoms g' 0 c' m' w1 hm' (by omega) (atoms_last u m' hm') (ht'.below hb))
  have HLA := hide (fun w1 (hb : Below w.heap.size w w1) => last_any ⟨t.kind, t.num, t.text, t.ks.length⟩ t.atoms g 0 c m w1 hm (by omega) (atoms_last t m hm) (ht.below hb))
  have HLB := hide (fun w1 (hb : Below w.heap.size w w1) => last_any ⟨u.kind, u.num, u.text, u.ks.length⟩ u.atoms g' 0 c' m' w1 hm' (by omega) (atoms_last u m' hm') (ht'.below hb))
  have HB := hide (fun b w' => (bool5_any b w').mono fun e w'' h => (show ∃ r, e = .returned r ∧ ∃ g, w'.heap.size ≤ g ∧ r = .agg #[.slice (some ⟨g, 0, none⟩) 1 1] ∧ AtomsO w'' g 0 [⟨2, if b then 1 else 0, ⟨#[]⟩, 0⟩] ∧ Below w'.heap.size w' w'' from by obtain ⟨g, h1, h2, h3, h4⟩ := h; exact ⟨_, h2, g, h1, rfl, h3, h4⟩))
  rw [hk] at HK1
  rw [hk'] at HK2
  rw [hk, ha] at HLA
  rw [hk', hb] at HLB
  have HFA := fun w => fld1' 2 0 t.ks.length t.text w
  have HFB := fun w => fld1' 2 0 u.ks.length u.text w
  generalize (t.ks.length : Int) = kt at *
  generalize (u.ks.length : Int) = ku at *
  generalize t.text = st at *
  generalize u.text = su at *
  clear ht ht'
  generalize t.ord u = od at *
  have o0 := OB.start w (.slice (some ⟨g, 0, none⟩) (m + 1) c) (.slice (some ⟨g', 0, none⟩) (m' + 1) c')
  go_enter Tryz.func5, Tryz.ntmps5
  go_wp2_with fail
  refine (HV1.out _ o0.B).mono ?_
  rintro e w1 ⟨rfl, hb1⟩
  have o1 := o0.below hb1
  clear hb1 o0
  have a1 := o1.b
  go_wp2_with fail
  refine (HV2.out _ o1.B).mono ?_
  rintro e w2 ⟨rfl, hb2⟩
  have o2 := o1.below hb2
  clear hb2 o1 a1
  have a2 := o2.a
  have b2 := o2.b
  go_wp2_with (go_at_call 13; refine (in1_any _ _ _ _).mono ?_; rintro e w2' ⟨rfl, rfl⟩)
  refine (HO.out _ o2.B).mono ?_
  rintro e w3 ⟨rfl, hb3⟩
  have o3 := o2.below hb3
  clear hb3 o2 a2 b2
  have a3 := o3.a
  go_wp2_with fail
  refine (HK1.out _ o3.B).mono ?_
  rintro e w4 ⟨rfl, hb4⟩
  have o4 := o3.below hb4
  clear hb4 o3 a3
  have a4 := o4.a
  have b4 := o4.b
  go_wp2_with fail
  refine (HK2.out _ o4.B).mono ?_
  rintro e w5 ⟨rfl, hb5⟩
  have o5 := o4.below hb5
  clear hb5 o4 a4 b4
  have a5 := o5.a
  have b5 := o5.b
  have O5 := hide o5
  clear o5
  go_wp2_with fail
  go_region_held3 (fun w' => w'.cell? ⟨w.heap.size, 0, none⟩ = some (.slice (some ⟨g, 0, none⟩) (m + 1) c) ∧ w'.cell? ⟨w.heap.size + 1, 0, none⟩ = some (.slice (some ⟨g', 0, none⟩) (m' + 1) c')) (go_keep) (first
    | (refine step_call1 rfl 20 (.tmp 81) 28 rfl (.agg #[.slice (some ⟨g, 0, none⟩) (m + 1) c]) (.agg #[.int .i64 2, .int .i64 0, .string st, .int .i64 kt]) (by simp [Act.eval]) Tryz.f20 Tryz.func20 (by kernel_rfl) (by kernel_rfl) _ (HLA.out _ O5.out.drew.B) ?_; intro w6 hb6; have o6 := O5.out.drew.below hb6; have a6 := o6.a; have b6 := o6.b)
    | (refine step_call1 rfl 20 (.tmp 84) 28 rfl (.agg #[.slice (some ⟨g', 0, none⟩) (m' + 1) c']) (.agg #[.int .i64 2, .int .i64 0, .string su, .int .i64 ku]) (by simp [Act.eval]) Tryz.f20 Tryz.func20 (by kernel_rfl) (by kernel_rfl) _ (HLB.out _ o6.B) ?_; intro w7 hb7; have o7 := o6.below hb7; have a7 := o7.a; have b7 := o7.b)
    | (refine step_call1x rfl 17 (.tmp 88) 4 rfl (.bool false) (by first | (simp [Act.eval]; done) | (simp [Act.eval]; decide)) Tryz.f17 Tryz.func17 (by kernel_rfl) (by kernel_rfl) _ (HB.out false _) ?_; rintro r w8 ⟨ga, hga, rfl, hat, hb8⟩; have o8 := o7.below hb8; have a8 := o8.a; have b8 := o8.b; have r8 := o8.r; have f8 := o8.f; have s0 := (World.cell?_setCell_other w8 ⟨w.heap.size + 1 + 1, 0, none⟩ ⟨w.heap.size, 0, none⟩ (.slice (some ⟨ga, 0, none⟩) 1 1) (by simp)).trans a8; have s1 := (World.cell?_setCell_other w8 ⟨w.heap.size + 1 + 1, 0, none⟩ ⟨w.heap.size + 1, 0, none⟩ (.slice (some ⟨ga, 0, none⟩) 1 1) (by simp)).trans b8))
  have hz7 := o7.z
  have B8 := o8.B
  clear s0 s1 a8 b8 o6 o7 hb6 hb7 hb8 a6 b6 a7 b7
  go_wp2
  refine bodyPost_ret (v := .tuple #[.agg #[.slice (some ⟨ga, 0, none⟩) 1 1], .string ⟨#[]⟩]) (by simp [results, Tryz.results5, go_sem, r8]) rfl ?_
  exact ⟨B8.setCell (p := ⟨w.heap.size + 1 + 1, 0, none⟩) (by show w.heap.size ≤ w.heap.size + 1 + 1; omega) _, .inr ⟨ga, 1, by have := O5.out.B.size; omega, rfl, atomsO_set hat _ (by show w.heap.size + 1 + 1 ≠ ga; omega) _⟩⟩

set_option maxRecDepth 100000 in
set_option maxHeartbeats 1000000 in
theorem specOp_bool2_01 (t u : T) (g g' c c' m m' : Nat) (w : World) (hm : t.count = m + 1) (hm' : u.count = m' + 1) (h1 : m < 1000) (h2 : m' < 1000) (hc : m + 1 ≤ c) (hc' : m' + 1 ≤ c') (hg : t.good = true) (hg' : u.good = true) (ht : AtomsO w g 0 t.atoms) (ht' : AtomsO w g' 0 u.atoms) (hk : t.kind = 2) (hk' : u.kind = 2) (ha : t.num = 0) (hb : u.num = 1) :
    Calls Tryz.prog 5 #[.int .i64 2, .agg #[.slice (some ⟨g, 0, none⟩) (m + 1) c], .agg #[.slice (some ⟨g', 0, none⟩) (m' + 1) c']] w (OPost w (boolA false)) := by
  have HV1 : Hid (∀ w1, Below w.heap.size w w1 → Calls Tryz.prog 12 #[.agg #[.slice (some ⟨g, 0, none⟩) (m + 1) c]] w1 fun e w' => e = .returned (.bool true) ∧ Below w1.heap.size w1 w') := hide (fun w1 hb => by
    have h := specValid_any t.atoms g 0 c w1 (fun _ => rfl) (ht.below hb) (by show t.count ≤ c; omega) (by show t.count ≤ _; omega)
    rw [valid_of t hg (by omega)] at h
    rw [show t.atoms.length = m + 1 from hm] at h
    exact h)
  have HV2 : Hid (∀ w1, Below w.heap.size w w1 → Calls Tryz.prog 12 #[.agg #[.slice (some ⟨g', 0, none⟩) (m' + 1) c']] w1 fun e w' => e = .returned (.bool true) ∧ Below w1.heap.size w1 w') := hide (fun w1 hb => by
    have h := specValid_any u.atoms g' 0 c' w1 (fun _ => rfl) (ht'.below hb) (by show u.count ≤ c'; omega) (by show u.count ≤ _; omega)
    rw [valid_of u hg' (by omega)] at h
    rw [show u.atoms.length = m' + 1 from hm'] at h
    exact h)
  have HO := hide (fun w1 (hb : Below w.heap.size w w1) => order5_any (t.count + 1) t u g 0 c g' 0 c' m m' w1 (Nat.lt_succ_self _) hm hm' h1 h2 hc hc' (ht.below hb) (ht'.below hb))
  have HK1 := hide (fun w1 (hb : Below w.heap.size w w1) => kind6_any ⟨t.kind, t.num, t.text, t.ks.length⟩ t.atoms g 0 c m w1 hm (by omega) (atoms_last t m hm) (ht.below hb))
  have HK2 := hide (fun w1 (hb : Below w.heap.size w w1) => kind6_any ⟨u.kind, u.num, u.text, u.ks.length⟩ u.atoms g' 0 c' m' w1 hm' (by omega) (atoms_last u m' hm') (ht'.below hb))
  have HLA := hide (fun w1 (hb : Below w.heap.size w w1) => last_any ⟨t.kind, t.num, t.text, t.ks.length⟩ t.atoms g 0 c m w1 hm (by omega) (atoms_last t m hm) (ht.below hb))
  have HLB := hide (fun w1 (hb : Below w.heap.size w w1) => last_any ⟨u.kind, u.num, u.text, u.ks.length⟩ u.atoms g' 0 c' m' w1 hm' (by omega) (atoms_last u m' hm') (ht'.below hb))
  have HB := hide (fun b w' => (bool5_any b w').mono fun e w'' h => (show ∃ r, e = .returned r ∧ ∃ g, w'.heap.size ≤ g ∧ r = .agg #[.slice (some ⟨g, 0, none⟩) 1 1] ∧ AtomsO w'' g 0 [⟨2, if b then 1 else 0, ⟨#[]⟩, 0⟩] ∧ Below w'.heap.size w' w'' from by obtain ⟨g, h1, h2, h3, h4⟩ := h; exact ⟨_, h2, g, h1, rfl, h3, h4⟩))
  rw [hk] at HK1
  rw [hk'] at HK2
  rw [hk, ha] at HLA
  rw [hk', hb] at HLB
  have HFA := fun w => fld1' 2 0 t.ks.length t.text w
  have HFB := fun w => fld1' 2 1 u.ks.length u.text w
  generalize (t.ks.length : Int) = kt at *
  generalize (u.ks.length : Int) = ku at *
  generalize t.text = st at *
  generalize u.text = su at *
  clear ht ht'
  generalize t.ord u = od at *
  have o0 := OB.start w (.slice (some ⟨g, 0, none⟩) (m + 1) c) (.slice (some ⟨g', 0, none⟩) (m' + 1) c')
  go_enter Tryz.func5, Tryz.ntmps5
  go_wp2_with fail
  refine (HV1.out _ o0.B).mono ?_
  rintro e w1 ⟨rfl, hb1⟩
  have o1 := o0.below hb1
  clear hb1 o0
  have a1 := o1.b
  go_wp2_with fail
  refine (HV2.out _ o1.B).mono ?_
  rintro e w2 ⟨rfl, hb2⟩
  have o2 := o1.below hb2
  clear hb2 o1 a1
  have a2 := o2.a
  have b2 := o2.b
  go_wp2_with (go_at_call 13; refine (in1_any _ _ _ _).mono ?_; rintro e w2' ⟨rfl, rfl⟩)
  refine (HO.out _ o2.B).mono ?_
  rintro e w3 ⟨rfl, hb3⟩
  have o3 := o2.below hb3
  clear hb3 o2 a2 b2
  have a3 := o3.a
  go_wp2_with fail
  refine (HK1.out _ o3.B).mono ?_
  rintro e w4 ⟨rfl, hb4⟩
  have o4 := o3.below hb4
  clear hb4 o3 a3
  have a4 := o4.a
  have b4 := o4.b
  go_wp2_with fail
  refine (HK2.out _ o4.B).mono ?_
  rintro e w5 ⟨rfl, hb5⟩
  have o5 := o4.below hb5
  clear hb5 o4 a4 b4
  have a5 := o5.a
  have b5 := o5.b
  have O5 := hide o5
  clear o5
  go_wp2_with fail
  go_region_held3 (fun w' => w'.cell? ⟨w.heap.size, 0, none⟩ = some (.slice (some ⟨g, 0, none⟩) (m + 1) c) ∧ w'.cell? ⟨w.heap.size + 1, 0, none⟩ = some (.slice (some ⟨g', 0, none⟩) (m' + 1) c')) (go_keep) (first
    | (refine step_call1 rfl 20 (.tmp 81) 28 rfl (.agg #[.slice (some ⟨g, 0, none⟩) (m + 1) c]) (.agg #[.int .i64 2, .int .i64 0, .string st, .int .i64 kt]) (by simp [Act.eval]) Tryz.f20 Tryz.func20 (by kernel_rfl) (by kernel_rfl) _ (HLA.out _ O5.out.drew.B) ?_; intro w6 hb6; have o6 := O5.out.drew.below hb6; have a6 := o6.a; have b6 := o6.b)
    | (refine step_call1 rfl 20 (.tmp 84) 28 rfl (.agg #[.slice (some ⟨g', 0, none⟩) (m' + 1) c']) (.agg #[.int .i64 2, .int .i64 1, .string su, .int .i64 ku]) (by simp [Act.eval]) Tryz.f20 Tryz.func20 (by kernel_rfl) (by kernel_rfl) _ (HLB.out _ o6.B) ?_; intro w7 hb7; have o7 := o6.below hb7; have a7 := o7.a; have b7 := o7.b)
    | (refine step_call1x rfl 17 (.tmp 88) 4 rfl (.bool false) (by first | (simp [Act.eval]; done) | (simp [Act.eval]; decide)) Tryz.f17 Tryz.func17 (by kernel_rfl) (by kernel_rfl) _ (HB.out false _) ?_; rintro r w8 ⟨ga, hga, rfl, hat, hb8⟩; have o8 := o7.below hb8; have a8 := o8.a; have b8 := o8.b; have r8 := o8.r; have f8 := o8.f; have s0 := (World.cell?_setCell_other w8 ⟨w.heap.size + 1 + 1, 0, none⟩ ⟨w.heap.size, 0, none⟩ (.slice (some ⟨ga, 0, none⟩) 1 1) (by simp)).trans a8; have s1 := (World.cell?_setCell_other w8 ⟨w.heap.size + 1 + 1, 0, none⟩ ⟨w.heap.size + 1, 0, none⟩ (.slice (some ⟨ga, 0, none⟩) 1 1) (by simp)).trans b8))
  have hz7 := o7.z
  have B8 := o8.B
  clear s0 s1 a8 b8 o6 o7 hb6 hb7 hb8 a6 b6 a7 b7
  go_wp2
  refine bodyPost_ret (v := .tuple #[.agg #[.slice (some ⟨ga, 0, none⟩) 1 1], .string ⟨#[]⟩]) (by simp [results, Tryz.results5, go_sem, r8]) rfl ?_
  exact ⟨B8.setCell (p := ⟨w.heap.size + 1 + 1, 0, none⟩) (by show w.heap.size ≤ w.heap.size + 1 + 1; omega) _, .inr ⟨ga, 1, by have := O5.out.B.size; omega, rfl, atomsO_set hat _ (by show w.heap.size + 1 + 1 ≠ ga; omega) _⟩⟩

set_option maxRecDepth 100000 in
set_option maxHeartbeats 1000000 in
theorem specOp_bool2_10 (t u : T) (g g' c c' m m' : Nat) (w : World) (hm : t.count = m + 1) (hm' : u.count = m' + 1) (h1 : m < 1000) (h2 : m' < 1000) (hc : m + 1 ≤ c) (hc' : m' + 1 ≤ c') (hg : t.good = true) (hg' : u.good = true) (ht : AtomsO w g 0 t.atoms) (ht' : AtomsO w g' 0 u.atoms) (hk : t.kind = 2) (hk' : u.kind = 2) (ha : t.num = 1) (hb : u.num = 0) :
    Calls Tryz.prog 5 #[.int .i64 2, .agg #[.slice (some ⟨g, 0, none⟩) (m + 1) c], .agg #[.slice (some ⟨g', 0, none⟩) (m' + 1) c']] w (OPost w (boolA false)) := by
  have HV1 : Hid (∀ w1, Below w.heap.size w w1 → Calls Tryz.prog 12 #[.agg #[.slice (some ⟨g, 0, none⟩) (m + 1) c]] w1 fun e w' => e = .returned (.bool true) ∧ Below w1.heap.size w1 w') := hide (fun w1 hb => by
    have h := specValid_any t.atoms g 0 c w1 (fun _ => rfl) (ht.below hb) (by show t.count ≤ c; omega) (by show t.count ≤ _; omega)
    rw [valid_of t hg (by omega)] at h
    rw [show t.atoms.length = m + 1 from hm] at h
    exact h)
  have HV2 : Hid (∀ w1, Below w.heap.size w w1 → Calls Tryz.prog 12 #[.agg #[.slice (some ⟨g', 0, none⟩) (m' + 1) c']] w1 fun e w' => e = .returned (.bool true) ∧ Below w1.heap.size w1 w') := hide (fun w1 hb => by
    have h := specValid_any u.atoms g' 0 c' w1 (fun _ => rfl) (ht'.below hb) (by show u.count ≤ c'; omega) (by show u.count ≤ _; omega)
    rw [valid_of u hg' (by omega)] at h
    rw [show u.atoms.length = m' + 1 from hm'] at h
    exact h)
  have HO := hide (fun w1 (hb : Below w.heap.size w w1) => order5_any (t.count + 1) t u g 0 c g' 0 c' m m' w1 (Nat.lt_succ_self _) hm hm' h1 h2 hc hc' (ht.below hb) (ht'.below hb))
  have HK1 := hide (fun w1 (hb : Below w.heap.size w w1) => kind6_any ⟨t.kind, t.num, t.text, t.ks.length⟩ t.atoms g 0 c m w1 hm (by omega) (atoms_last t m hm) (ht.below hb))
  have HK2 := hide (fun w1 (hb : Below w.heap.size w w1) => kind6_any ⟨u.kind, u.num, u.text, u.ks.length⟩ u.atoms g' 0 c' m' w1 hm' (by omega) (atoms_last u m' hm') (ht'.below hb))
  have HLA := hide (fun w1 (hb : Below w.heap.size w w1) => last_any ⟨t.kind, t.num, t.text, t.ks.length⟩ t.atoms g 0 c m w1 hm (by omega) (atoms_last t m hm) (ht.below hb))
  have HLB := hide (fun w1 (hb : Below w.heap.size w w1) => last_any ⟨u.kind, u.num, u.text, u.ks.length⟩ u.atoms g' 0 c' m' w1 hm' (by omega) (atoms_last u m' hm') (ht'.below hb))
  have HB := hide (fun b w' => (bool5_any b w').mono fun e w'' h => (show ∃ r, e = .returned r ∧ ∃ g, w'.heap.size ≤ g ∧ r = .agg #[.slice (some ⟨g, 0, none⟩) 1 1] ∧ AtomsO w'' g 0 [⟨2, if b then 1 else 0, ⟨#[]⟩, 0⟩] ∧ Below w'.heap.size w' w'' from by obtain ⟨g, h1, h2, h3, h4⟩ := h; exact ⟨_, h2, g, h1, rfl, h3, h4⟩))
  rw [hk] at HK1
  rw [hk'] at HK2
  rw [hk, ha] at HLA
  rw [hk', hb] at HLB
  have HFA := fun w => fld1' 2 1 t.ks.length t.text w
  have HFB := fun w => fld1' 2 0 u.ks.length u.text w
  generalize (t.ks.length : Int) = kt at *
  generalize (u.ks.length : Int) = ku at *
  generalize t.text = st at *
  generalize u.text = su at *
  clear ht ht'
  generalize t.ord u = od at *
  have o0 := OB.start w (.slice (some ⟨g, 0, none⟩) (m + 1) c) (.slice (some ⟨g', 0, none⟩) (m' + 1) c')
  go_enter Tryz.func5, Tryz.ntmps5
  go_wp2_with fail
  refine (HV1.out _ o0.B).mono ?_
  rintro e w1 ⟨rfl, hb1⟩
  have o1 := o0.below hb1
  clear hb1 o0
  have a1 := o1.b
  go_wp2_with fail
  refine (HV2.out _ o1.B).mono ?_
  rintro e w2 ⟨rfl, hb2⟩
  have o2 := o1.below hb2
  clear hb2 o1 a1
  have a2 := o2.a
  have b2 := o2.b
  go_wp2_with (go_at_call 13; refine (in1_any _ _ _ _).mono ?_; rintro e w2' ⟨rfl, rfl⟩)
  refine (HO.out _ o2.B).mono ?_
  rintro e w3 ⟨rfl, hb3⟩
  have o3 := o2.below hb3
  clear hb3 o2 a2 b2
  have a3 := o3.a
  go_wp2_with fail
  refine (HK1.out _ o3.B).mono ?_
  rintro e w4 ⟨rfl, hb4⟩
  have o4 := o3.below hb4
  clear hb4 o3 a3
  have a4 := o4.a
  have b4 := o4.b
  go_wp2_with fail
  refine (HK2.out _ o4.B).mono ?_
  rintro e w5 ⟨rfl, hb5⟩
  have o5 := o4.below hb5
  clear hb5 o4 a4 b4
  have a5 := o5.a
  have b5 := o5.b
  have O5 := hide o5
  clear o5
  go_wp2_with fail
  go_region_held3 (fun w' => w'.cell? ⟨w.heap.size, 0, none⟩ = some (.slice (some ⟨g, 0, none⟩) (m + 1) c) ∧ w'.cell? ⟨w.heap.size + 1, 0, none⟩ = some (.slice (some ⟨g', 0, none⟩) (m' + 1) c')) (go_keep) (first
    | (refine step_call1 rfl 20 (.tmp 81) 28 rfl (.agg #[.slice (some ⟨g, 0, none⟩) (m + 1) c]) (.agg #[.int .i64 2, .int .i64 1, .string st, .int .i64 kt]) (by simp [Act.eval]) Tryz.f20 Tryz.func20 (by kernel_rfl) (by kernel_rfl) _ (HLA.out _ O5.out.drew.B) ?_; intro w6 hb6; have o6 := O5.out.drew.below hb6; have a6 := o6.a; have b6 := o6.b)
    | (refine step_call1 rfl 20 (.tmp 84) 28 rfl (.agg #[.slice (some ⟨g', 0, none⟩) (m' + 1) c']) (.agg #[.int .i64 2, .int .i64 0, .string su, .int .i64 ku]) (by simp [Act.eval]) Tryz.f20 Tryz.func20 (by kernel_rfl) (by kernel_rfl) _ (HLB.out _ o6.B) ?_; intro w7 hb7; have o7 := o6.below hb7; have a7 := o7.a; have b7 := o7.b)
    | (refine step_call1x rfl 17 (.tmp 88) 4 rfl (.bool false) (by first | (simp [Act.eval]; done) | (simp [Act.eval]; decide)) Tryz.f17 Tryz.func17 (by kernel_rfl) (by kernel_rfl) _ (HB.out false _) ?_; rintro r w8 ⟨ga, hga, rfl, hat, hb8⟩; have o8 := o7.below hb8; have a8 := o8.a; have b8 := o8.b; have r8 := o8.r; have f8 := o8.f; have s0 := (World.cell?_setCell_other w8 ⟨w.heap.size + 1 + 1, 0, none⟩ ⟨w.heap.size, 0, none⟩ (.slice (some ⟨ga, 0, none⟩) 1 1) (by simp)).trans a8; have s1 := (World.cell?_setCell_other w8 ⟨w.heap.size + 1 + 1, 0, none⟩ ⟨w.heap.size + 1, 0, none⟩ (.slice (some ⟨ga, 0, none⟩) 1 1) (by simp)).trans b8))
  have hz7 := o7.z
  have B8 := o8.B
  clear s0 s1 a8 b8 o6 o7 hb6 hb7 hb8 a6 b6 a7 b7
  go_wp2
  refine bodyPost_ret (v := .tuple #[.agg #[.slice (some ⟨ga, 0, none⟩) 1 1], .string ⟨#[]⟩]) (by simp [results, Tryz.results5, go_sem, r8]) rfl ?_
  exact ⟨B8.setCell (p := ⟨w.heap.size + 1 + 1, 0, none⟩) (by show w.heap.size ≤ w.heap.size + 1 + 1; omega) _, .inr ⟨ga, 1, by have := O5.out.B.size; omega, rfl, atomsO_set hat _ (by show w.heap.size + 1 + 1 ≠ ga; omega) _⟩⟩

set_option maxRecDepth 100000 in
set_option maxHeartbeats 1000000 in
theorem specOp_bool2_11 (t u : T) (g g' c c' m m' : Nat) (w : World) (hm : t.count = m + 1) (hm' : u.count = m' + 1) (h1 : m < 1000) (h2 : m' < 1000) (hc : m + 1 ≤ c) (hc' : m' + 1 ≤ c') (hg : t.good = true) (hg' : u.good = true) (ht : AtomsO w g 0 t.atoms) (ht' : AtomsO w g' 0 u.atoms) (hk : t.kind = 2) (hk' : u.kind = 2) (ha : t.num = 1) (hb : u.num = 1) :
    Calls Tryz.prog 5 #[.int .i64 2, .agg #[.slice (some ⟨g, 0, none⟩) (m + 1) c], .agg #[.slice (some ⟨g', 0, none⟩) (m' + 1) c']] w (OPost w (boolA true)) := by
  have HV1 : Hid (∀ w1, Below w.heap.size w w1 → Calls Tryz.prog 12 #[.agg #[.slice (some ⟨g, 0, none⟩) (m + 1) c]] w1 fun e w' => e = .returned (.bool true) ∧ Below w1.heap.size w1 w') := hide (fun w1 hb => by
    have h := specValid_any t.atoms g 0 c w1 (fun _ => rfl) (ht.below hb) (by show t.count ≤ c; omega) (by show t.count ≤ _; omega)
    rw [valid_of t hg (by omega)] at h
    rw [show t.atoms.length = m + 1 from hm] at h
    exact h)
  have HV2 : Hid (∀ w1, Below w.heap.size w w1 → Calls Tryz.prog 12 #[.agg #[.slice (some ⟨g', 0, none⟩) (m' + 1) c']] w1 fun e w' => e = .returned (.bool true) ∧ Below w1.heap.size w1 w') := hide (fun w1 hb => by
    have h := specValid_any u.atoms g' 0 c' w1 (fun _ => rfl) (ht'.below hb) (by show u.count ≤ c'; omega) (by show u.count ≤ _; omega)
    rw [valid_of u hg' (by omega)] at h
    rw [show u.atoms.length = m' + 1 from hm'] at h
    exact h)
  have HO := hide (fun w1 (hb : Below w.heap.size w w1) => order5_any (t.count + 1) t u g 0 c g' 0 c' m m' w1 (Nat.lt_succ_self _) hm hm' h1 h2 hc hc' (ht.below hb) (ht'.below hb))
  have HK1 := hide (fun w1 (hb : Below w.heap.size w w1) => kind6_any ⟨t.kind, t.num, t.text, t.ks.length⟩ t.atoms g 0 c m w1 hm (by omega) (atoms_last t m hm) (ht.below hb))
  have HK2 := hide (fun w1 (hb : Below w.heap.size w w1) => kind6_any ⟨u.kind, u.num, u.text, u.ks.length⟩ u.atoms g' 0 c' m' w1 hm' (by omega) (atoms_last u m' hm') (ht'.below hb))
  have HLA := hide (fun w1 (hb : Below w.heap.size w w1) => last_any ⟨t.kind, t.num, t.text, t.ks.length⟩ t.atoms g 0 c m w1 hm (by omega) (atoms_last t m hm) (ht.below hb))
  have HLB := hide (fun w1 (hb : Below w.heap.size w w1) => last_any ⟨u.kind, u.num, u.text, u.ks.length⟩ u.atoms g' 0 c' m' w1 hm' (by omega) (atoms_last u m' hm') (ht'.below hb))
  have HB := hide (fun b w' => (bool5_any b w').mono fun e w'' h => (show ∃ r, e = .returned r ∧ ∃ g, w'.heap.size ≤ g ∧ r = .agg #[.slice (some ⟨g, 0, none⟩) 1 1] ∧ AtomsO w'' g 0 [⟨2, if b then 1 else 0, ⟨#[]⟩, 0⟩] ∧ Below w'.heap.size w' w'' from by obtain ⟨g, h1, h2, h3, h4⟩ := h; exact ⟨_, h2, g, h1, rfl, h3, h4⟩))
  rw [hk] at HK1
  rw [hk'] at HK2
  rw [hk, ha] at HLA
  rw [hk', hb] at HLB
  have HFA := fun w => fld1' 2 1 t.ks.length t.text w
  have HFB := fun w => fld1' 2 1 u.ks.length u.text w
  generalize (t.ks.length : Int) = kt at *
  generalize (u.ks.length : Int) = ku at *
  generalize t.text = st at *
  generalize u.text = su at *
  clear ht ht'
  generalize t.ord u = od at *
  have o0 := OB.start w (.slice (some ⟨g, 0, none⟩) (m + 1) c) (.slice (some ⟨g', 0, none⟩) (m' + 1) c')
  go_enter Tryz.func5, Tryz.ntmps5
  go_wp2_with fail
  refine (HV1.out _ o0.B).mono ?_
  rintro e w1 ⟨rfl, hb1⟩
  have o1 := o0.below hb1
  clear hb1 o0
  have a1 := o1.b
  go_wp2_with fail
  refine (HV2.out _ o1.B).mono ?_
  rintro e w2 ⟨rfl, hb2⟩
  have o2 := o1.below hb2
  clear hb2 o1 a1
  have a2 := o2.a
  have b2 := o2.b
  go_wp2_with (go_at_call 13; refine (in1_any _ _ _ _).mono ?_; rintro e w2' ⟨rfl, rfl⟩)
  refine (HO.out _ o2.B).mono ?_
  rintro e w3 ⟨rfl, hb3⟩
  have o3 := o2.below hb3
  clear hb3 o2 a2 b2
  have a3 := o3.a
  go_wp2_with fail
  refine (HK1.out _ o3.B).mono ?_
  rintro e w4 ⟨rfl, hb4⟩
  have o4 := o3.below hb4
  clear hb4 o3 a3
  have a4 := o4.a
  have b4 := o4.b
  go_wp2_with fail
  refine (HK2.out _ o4.B).mono ?_
  rintro e w5 ⟨rfl, hb5⟩
  have o5 := o4.below hb5
  clear hb5 o4 a4 b4
  have a5 := o5.a
  have b5 := o5.b
  have O5 := hide o5
  clear o5
  go_wp2_with fail
  go_region_held3 (fun w' => w'.cell? ⟨w.heap.size, 0, none⟩ = some (.slice (some ⟨g, 0, none⟩) (m + 1) c) ∧ w'.cell? ⟨w.heap.size + 1, 0, none⟩ = some (.slice (some ⟨g', 0, none⟩) (m' + 1) c')) (go_keep) (first
    | (refine step_call1 rfl 20 (.tmp 81) 28 rfl (.agg #[.slice (some ⟨g, 0, none⟩) (m + 1) c]) (.agg #[.int .i64 2, .int .i64 1, .string st, .int .i64 kt]) (by simp [Act.eval]) Tryz.f20 Tryz.func20 (by kernel_rfl) (by kernel_rfl) _ (HLA.out _ O5.out.drew.B) ?_; intro w6 hb6; have o6 := O5.out.drew.below hb6; have a6 := o6.a; have b6 := o6.b)
    | (refine step_call1 rfl 20 (.tmp 84) 28 rfl (.agg #[.slice (some ⟨g', 0, none⟩) (m' + 1) c']) (.agg #[.int .i64 2, .int .i64 1, .string su, .int .i64 ku]) (by simp [Act.eval]) Tryz.f20 Tryz.func20 (by kernel_rfl) (by kernel_rfl) _ (HLB.out _ o6.B) ?_; intro w7 hb7; have o7 := o6.below hb7; have a7 := o7.a; have b7 := o7.b)
    | (refine step_call1x rfl 17 (.tmp 88) 4 rfl (.bool true) (by first | (simp [Act.eval]; done) | (simp [Act.eval]; decide)) Tryz.f17 Tryz.func17 (by kernel_rfl) (by kernel_rfl) _ (HB.out true _) ?_; rintro r w8 ⟨ga, hga, rfl, hat, hb8⟩; have o8 := o7.below hb8; have a8 := o8.a; have b8 := o8.b; have r8 := o8.r; have f8 := o8.f; have s0 := (World.cell?_setCell_other w8 ⟨w.heap.size + 1 + 1, 0, none⟩ ⟨w.heap.size, 0, none⟩ (.slice (some ⟨ga, 0, none⟩) 1 1) (by simp)).trans a8; have s1 := (World.cell?_setCell_other w8 ⟨w.heap.size + 1 + 1, 0, none⟩ ⟨w.heap.size + 1, 0, none⟩ (.slice (some ⟨ga, 0, none⟩) 1 1) (by simp)).trans b8))
  have hz7 := o7.z
  have B8 := o8.B
  clear s0 s1 a8 b8 o6 o7 hb6 hb7 hb8 a6 b6 a7 b7
  go_wp2
  refine bodyPost_ret (v := .tuple #[.agg #[.slice (some ⟨ga, 0, none⟩) 1 1], .string ⟨#[]⟩]) (by simp [results, Tryz.results5, go_sem, r8]) rfl ?_
  exact ⟨B8.setCell (p := ⟨w.heap.size + 1 + 1, 0, none⟩) (by show w.heap.size ≤ w.heap.size + 1 + 1; omega) _, .inr ⟨ga, 1, by have := O5.out.B.size; omega, rfl, atomsO_set hat _ (by show w.heap.size + 1 + 1 ≠ ga; omega) _⟩⟩

theorem step_call3x {P : Program} {ops : Array Oper} {o : Oper} {a : Act} {w : World} {K : Act → World → Prop} {Q : Exit → Act → World → Prop} {E : Prop}
    (hg : o.guard = none) (f : FuncId) (x y z : Operand) (t1 t2 t3 : TypeId) (hop : o.op = Op.call { callee := Callee.value (Operand.func f), args := #[x, y, z], argTypes := #[t1, t2, t3] })
    (v1 v2 v3 : Value) (hx : a.eval x = v1) (hy : a.eval y = v2) (hz : a.eval z = v3) (fn : Func) (hfn : P.funcs[f]? = some fn) (hne : (fn.name == "runtime.NumGoroutine") = false) (hbd : fn.body.isNone = false) (R : Value → World → Prop) (hC : Calls P f #[v1, v2, v3] w fun e w' => ∃ r, e = .returned r ∧ R r w') (hK : ∀ r w', R r w' → K (a.put o.dst r) w') :
    if Region.wanted o (yielded ops a.tmps) = true then Oper.wp P o a w K Q else E := by
  have hw : Region.wanted o (yielded ops a.tmps) = true := by simp [Region.wanted, hg]
  rw [if_pos hw]
  have h1 : (callFunc f #[v1, v2, v3]).run P w = .ok (.enter f #[v1, v2, v3]) w := by
    simp only [callFunc, Sem.run_bind, run_program, Result.andThen_ok, hfn, hne, hbd]; rfl
  unfold Oper.wp
  simp only [execOp, hop, resolve, invoke, List.map_toArray, List.map_cons, List.map_nil, hx, hy, hz, Deferred.ofValue, Sem.run_bind]
  rw [show a.eval (Operand.func f) = Value.func (Fn.func f) #[] #[] from rfl]
  simp only [Sem.run_pure, Result.andThen_ok]
  simp [h1]
  refine hC.mono fun e w2 h => ?_
  obtain ⟨r, rfl, h2⟩ := h
  exact hK _ _ h2
/-- What an op of two numbers hands back. -/
def numR (r : Option Int × List UInt8) : List At × List UInt8 := match r with
  | (some n, _) => ([⟨3, n, ⟨#[]⟩, 0⟩], [])
  | (none, s) => ([], s)

set_option maxRecDepth 100000 in
set_option maxHeartbeats 1000000 in
theorem specOp_num11 (t u : T) (g g' c c' m m' : Nat) (w : World) (hm : t.count = m + 1) (hm' : u.count = m' + 1) (h1 : m < 1000) (h2 : m' < 1000) (hc : m + 1 ≤ c) (hc' : m' + 1 ≤ c') (hg : t.good = true) (hg' : u.good = true) (ht : AtomsO w g 0 t.atoms) (ht' : AtomsO w g' 0 u.atoms) (hk : t.kind = 3) (hk' : u.kind = 3) (hx : in64 t.num) (hy : in64 u.num) :
    Calls Tryz.prog 5 #[.int .i64 11, .agg #[.slice (some ⟨g, 0, none⟩) (m + 1) c], .agg #[.slice (some ⟨g', 0, none⟩) (m' + 1) c']] w (OPost w (numR (numOp 11 t.num u.num))) := by
  have HV1 : Hid (∀ w1, Below w.heap.size w w1 → Calls Tryz.prog 12 #[.agg #[.slice (some ⟨g, 0, none⟩) (m + 1) c]] w1 fun e w' => e = .returned (.bool true) ∧ Below w1.heap.size w1 w') := hide (fun w1 hb => by
    have h := specValid_any t.atoms g 0 c w1 (fun _ => rfl) (ht.below hb) (by show t.count ≤ c; omega) (by show t.count ≤ _; omega)
    rw [valid_of t hg (by omega)] at h
    rw [show t.atoms.length = m + 1 from hm] at h
    exact h)
  have HV2 : Hid (∀ w1, Below w.heap.size w w1 → Calls Tryz.prog 12 #[.agg #[.slice (some ⟨g', 0, none⟩) (m' + 1) c']] w1 fun e w' => e = .returned (.bool true) ∧ Below w1.heap.size w1 w') := hide (fun w1 hb => by
    have h := specValid_any u.atoms g' 0 c' w1 (fun _ => rfl) (ht'.below hb) (by show u.count ≤ c'; omega) (by show u.count ≤ _; omega)
    rw [valid_of u hg' (by omega)] at h
    rw [show u.atoms.length = m' + 1 from hm'] at h
    exact h)
  have HO := hide (fun w1 (hb : Below w.heap.size w w1) => order5_any (t.count + 1) t u g 0 c g' 0 c' m m' w1 (Nat.lt_succ_self _) hm hm' h1 h2 hc hc' (ht.below hb) (ht'.below hb))
  have HK1 := hide (fun w1 (hb : Below w.heap.size w w1) => kind6_any ⟨t.kind, t.num, t.text, t.ks.length⟩ t.atoms g 0 c m w1 hm (by omega) (atoms_last t m hm) (ht.below hb))
  have HK2 := hide (fun w1 (hb : Below w.heap.size w w1) => kind6_any ⟨u.kind, u.num, u.text, u.ks.length⟩ u.atoms g' 0 c' m' w1 hm' (by omega) (atoms_last u m' hm') (ht'.below hb))
  have HLA := hide (fun w1 (hb : Below w.heap.size w w1) => last_any ⟨t.kind, t.num, t.text, t.ks.length⟩ t.atoms g 0 c m w1 hm (by omega) (atoms_last t m hm) (ht.below hb))
  have HLB := hide (fun w1 (hb : Below w.heap.size w w1) => last_any ⟨u.kind, u.num, u.text, u.ks.length⟩ u.atoms g' 0 c' m' w1 hm' (by omega) (atoms_last u m' hm') (ht'.below hb))
  have HNB := hide (fun w' => number6_sub t.num u.num w' hx hy)
  rw [hk] at HK1
  rw [hk'] at HK2
  rw [hk] at HLA
  rw [hk'] at HLB
  have HFA := fun w => fld1' 3 t.num t.ks.length t.text w
  have HFB := fun w => fld1' 3 u.num u.ks.length u.text w
  generalize (t.ks.length : Int) = kt at *
  generalize (u.ks.length : Int) = ku at *
  generalize t.text = st at *
  generalize u.text = su at *
  obtain ⟨ro, rs, hro⟩ : ∃ ro rs, numOp 11 t.num u.num = (ro, rs) := ⟨_, _, rfl⟩
  rw [hro] at HNB
  rw [hro]
  clear hro hx hy
  generalize t.num = x at *
  generalize u.num = y at *
  cases ro with
  | some n =>
    have HNC := hide (fun w' => (HNB.out w').mono fun e w'' h => (show ∃ r, e = .returned r ∧ ∃ g, w'.heap.size ≤ g ∧ r = .tuple #[.agg #[.slice (some ⟨g, 0, none⟩) 1 1], .string ⟨#[]⟩] ∧ AtomsO w'' g 0 [⟨3, n, ⟨#[]⟩, 0⟩] ∧ Below w'.heap.size w' w'' from by obtain ⟨h0, g, h1, h2, h3⟩ := h; exact ⟨_, h2, g, h1, rfl, h3, h0⟩))
    clear HNB
    clear ht ht'
    generalize t.ord u = od at *
    have o0 := OB.start w (.slice (some ⟨g, 0, none⟩) (m + 1) c) (.slice (some ⟨g', 0, none⟩) (m' + 1) c')
    go_enter Tryz.func5, Tryz.ntmps5
    go_wp2_with fail
    refine (HV1.out _ o0.B).mono ?_
    rintro e w1 ⟨rfl, hb1⟩
    have o1 := o0.below hb1
    clear hb1 o0
    have a1 := o1.b
    go_wp2_with fail
    refine (HV2.out _ o1.B).mono ?_
    rintro e w2 ⟨rfl, hb2⟩
    have o2 := o1.below hb2
    clear hb2 o1 a1
    have a2 := o2.a
    have b2 := o2.b
    go_wp2_with (go_at_call 13; refine (in1_any _ _ _ _).mono ?_; rintro e w2' ⟨rfl, rfl⟩)
    refine (HO.out _ o2.B).mono ?_
    rintro e w3 ⟨rfl, hb3⟩
    have o3 := o2.below hb3
    clear hb3 o2 a2 b2
    have a3 := o3.a
    go_wp2_with fail
    refine (HK1.out _ o3.B).mono ?_
    rintro e w4 ⟨rfl, hb4⟩
    have o4 := o3.below hb4
    clear hb4 o3 a3
    have a4 := o4.a
    have b4 := o4.b
    go_wp2_with fail
    refine (HK2.out _ o4.B).mono ?_
    rintro e w5 ⟨rfl, hb5⟩
    have o5 := o4.below hb5
    clear hb5 o4 a4 b4
    have a5 := o5.a
    have b5 := o5.b
    have O5 := hide o5
    clear o5
    go_wp2_with fail
    go_region_held3 (fun w' => w'.cell? ⟨w.heap.size, 0, none⟩ = some (.slice (some ⟨g, 0, none⟩) (m + 1) c) ∧ w'.cell? ⟨w.heap.size + 1, 0, none⟩ = some (.slice (some ⟨g', 0, none⟩) (m' + 1) c')) (go_keep) (first
      | (refine step_call1 rfl 20 (.tmp 126) 28 rfl (.agg #[.slice (some ⟨g, 0, none⟩) (m + 1) c]) (.agg #[.int .i64 3, .int .i64 x, .string st, .int .i64 kt]) (by simp [Act.eval]) Tryz.f20 Tryz.func20 (by kernel_rfl) (by kernel_rfl) _ (HLA.out _ O5.out.drew.B) ?_; intro w6 hb6; have o6 := O5.out.drew.below hb6; have a6 := o6.a; have b6 := o6.b)
      | (refine step_call1 rfl 20 (.tmp 129) 28 rfl (.agg #[.slice (some ⟨g', 0, none⟩) (m' + 1) c']) (.agg #[.int .i64 3, .int .i64 y, .string su, .int .i64 ku]) (by simp [Act.eval]) Tryz.f20 Tryz.func20 (by kernel_rfl) (by kernel_rfl) _ (HLB.out _ o6.B) ?_; intro w7 hb7; have o7 := o6.below hb7; have a7 := o7.a; have b7 := o7.b)
      | (refine step_call3x rfl 21 (.tmp 125) (.tmp 128) (.tmp 131) 3 2 2 rfl (.int .i64 11) (.int .i64 x) (.int .i64 y) (by simp [Act.eval]) (by simp [Act.eval]) (by simp [Act.eval]) Tryz.f21 Tryz.func21 (by kernel_rfl) (by kernel_rfl) _ (HNC.out _) ?_; rintro r w8 ⟨ga, hga, rfl, hat, hb8⟩; have o8 := o7.below hb8; have a8 := o8.a; have b8 := o8.b; have r8 := o8.r; have f8 := o8.f; have s0 := (World.cell?_setCell_other w8 ⟨w.heap.size + 1 + 1, 0, none⟩ ⟨w.heap.size, 0, none⟩ (.slice (some ⟨ga, 0, none⟩) 1 1) (by simp)).trans a8; have s1 := (World.cell?_setCell_other w8 ⟨w.heap.size + 1 + 1, 0, none⟩ ⟨w.heap.size + 1, 0, none⟩ (.slice (some ⟨ga, 0, none⟩) 1 1) (by simp)).trans b8))
    have hz7 := o7.z
    have B8 := o8.B
    clear s0 s1 a8 b8 o6 o7 hb6 hb7 hb8 a6 b6 a7 b7
    go_wp2
    refine bodyPost_ret (v := .tuple #[.agg #[(.slice (some ⟨ga, 0, none⟩) 1 1)], .string ⟨#[]⟩]) (by simp [results, Tryz.results5, go_sem, r8]) rfl ?_
    exact ⟨B8.setCell (p := ⟨w.heap.size + 1 + 1, 0, none⟩) (by show w.heap.size ≤ w.heap.size + 1 + 1; omega) _, .inr ⟨ga, 1, by have := O5.out.B.size; omega, rfl, atomsO_set hat _ (by show w.heap.size + 1 + 1 ≠ ga; omega) _⟩⟩
  | none =>
    have HNC := hide (fun w' => (HNB.out w').mono fun e w'' h => (show ∃ r, e = .returned r ∧ r = .tuple #[.agg #[.slice none 0 0], .string ⟨rs.toArray⟩] ∧ Below w'.heap.size w' w'' from by obtain ⟨h0, h2⟩ := h; exact ⟨_, h2, rfl, h0⟩))
    clear HNB
    clear ht ht'
    generalize t.ord u = od at *
    have o0 := OB.start w (.slice (some ⟨g, 0, none⟩) (m + 1) c) (.slice (some ⟨g', 0, none⟩) (m' + 1) c')
    go_enter Tryz.func5, Tryz.ntmps5
    go_wp2_with fail
    refine (HV1.out _ o0.B).mono ?_
    rintro e w1 ⟨rfl, hb1⟩
    have o1 := o0.below hb1
    clear hb1 o0
    have a1 := o1.b
    go_wp2_with fail
    refine (HV2.out _ o1.B).mono ?_
    rintro e w2 ⟨rfl, hb2⟩
    have o2 := o1.below hb2
    clear hb2 o1 a1
    have a2 := o2.a
    have b2 := o2.b
    go_wp2_with (go_at_call 13; refine (in1_any _ _ _ _).mono ?_; rintro e w2' ⟨rfl, rfl⟩)
    refine (HO.out _ o2.B).mono ?_
    rintro e w3 ⟨rfl, hb3⟩
    have o3 := o2.below hb3
    clear hb3 o2 a2 b2
    have a3 := o3.a
    go_wp2_with fail
    refine (HK1.out _ o3.B).mono ?_
    rintro e w4 ⟨rfl, hb4⟩
    have o4 := o3.below hb4
    clear hb4 o3 a3
    have a4 := o4.a
    have b4 := o4.b
    go_wp2_with fail
    refine (HK2.out _ o4.B).mono ?_
    rintro e w5 ⟨rfl, hb5⟩
    have o5 := o4.below hb5
    clear hb5 o4 a4 b4
    have a5 := o5.a
    have b5 := o5.b
    have O5 := hide o5
    clear o5
    go_wp2_with fail
    go_region_held3 (fun w' => w'.cell? ⟨w.heap.size, 0, none⟩ = some (.slice (some ⟨g, 0, none⟩) (m + 1) c) ∧ w'.cell? ⟨w.heap.size + 1, 0, none⟩ = some (.slice (some ⟨g', 0, none⟩) (m' + 1) c')) (go_keep) (first
      | (refine step_call1 rfl 20 (.tmp 126) 28 rfl (.agg #[.slice (some ⟨g, 0, none⟩) (m + 1) c]) (.agg #[.int .i64 3, .int .i64 x, .string st, .int .i64 kt]) (by simp [Act.eval]) Tryz.f20 Tryz.func20 (by kernel_rfl) (by kernel_rfl) _ (HLA.out _ O5.out.drew.B) ?_; intro w6 hb6; have o6 := O5.out.drew.below hb6; have a6 := o6.a; have b6 := o6.b)
      | (refine step_call1 rfl 20 (.tmp 129) 28 rfl (.agg #[.slice (some ⟨g', 0, none⟩) (m' + 1) c']) (.agg #[.int .i64 3, .int .i64 y, .string su, .int .i64 ku]) (by simp [Act.eval]) Tryz.f20 Tryz.func20 (by kernel_rfl) (by kernel_rfl) _ (HLB.out _ o6.B) ?_; intro w7 hb7; have o7 := o6.below hb7; have a7 := o7.a; have b7 := o7.b)
      | (refine step_call3x rfl 21 (.tmp 125) (.tmp 128) (.tmp 131) 3 2 2 rfl (.int .i64 11) (.int .i64 x) (.int .i64 y) (by simp [Act.eval]) (by simp [Act.eval]) (by simp [Act.eval]) Tryz.f21 Tryz.func21 (by kernel_rfl) (by kernel_rfl) _ (HNC.out _) ?_; rintro r w8 ⟨rfl, hb8⟩; have o8 := o7.below hb8; have a8 := o8.a; have b8 := o8.b; have r8 := o8.r; have f8 := o8.f; have s0 := (World.cell?_setCell_other w8 ⟨w.heap.size + 1 + 1, 0, none⟩ ⟨w.heap.size, 0, none⟩ (.slice none 0 0) (by simp)).trans a8; have s1 := (World.cell?_setCell_other w8 ⟨w.heap.size + 1 + 1, 0, none⟩ ⟨w.heap.size + 1, 0, none⟩ (.slice none 0 0) (by simp)).trans b8))
    have hz7 := o7.z
    have B8 := o8.B
    clear s0 s1 a8 b8 o6 o7 hb6 hb7 hb8 a6 b6 a7 b7
    go_wp2
    refine bodyPost_ret (v := .tuple #[.agg #[(.slice none 0 0)], .string ⟨rs.toArray⟩]) (by simp [results, Tryz.results5, go_sem, r8]) rfl ?_
    exact ⟨B8.setCell (p := ⟨w.heap.size + 1 + 1, 0, none⟩) (by show w.heap.size ≤ w.heap.size + 1 + 1; omega) _, .inl ⟨rfl, rfl⟩⟩

set_option maxRecDepth 100000 in
set_option maxHeartbeats 1000000 in
theorem specOp_num12 (t u : T) (g g' c c' m m' : Nat) (w : World) (hm : t.count = m + 1) (hm' : u.count = m' + 1) (h1 : m < 1000) (h2 : m' < 1000) (hc : m + 1 ≤ c) (hc' : m' + 1 ≤ c') (hg : t.good = true) (hg' : u.good = true) (ht : AtomsO w g 0 t.atoms) (ht' : AtomsO w g' 0 u.atoms) (hk : t.kind = 3) (hk' : u.kind = 3) (hx : in64 t.num) (hy : in64 u.num) :
    Calls Tryz.prog 5 #[.int .i64 12, .agg #[.slice (some ⟨g, 0, none⟩) (m + 1) c], .agg #[.slice (some ⟨g', 0, none⟩) (m' + 1) c']] w (OPost w (numR (numOp 12 t.num u.num))) := by
  have HV1 : Hid (∀ w1, Below w.heap.size w w1 → Calls Tryz.prog 12 #[.agg #[.slice (some ⟨g, 0, none⟩) (m + 1) c]] w1 fun e w' => e = .returned (.bool true) ∧ Below w1.heap.size w1 w') := hide (fun w1 hb => by
    have h := specValid_any t.atoms g 0 c w1 (fun _ => rfl) (ht.below hb) (by show t.count ≤ c; omega) (by show t.count ≤ _; omega)
    rw [valid_of t hg (by omega)] at h
    rw [show t.atoms.length = m + 1 from hm] at h
    exact h)
  have HV2 : Hid (∀ w1, Below w.heap.size w w1 → Calls Tryz.prog 12 #[.agg #[.slice (some ⟨g', 0, none⟩) (m' + 1) c']] w1 fun e w' => e = .returned (.bool true) ∧ Below w1.heap.size w1 w') := hide (fun w1 hb => by
    have h := specValid_any u.atoms g' 0 c' w1 (fun _ => rfl) (ht'.below hb) (by show u.count ≤ c'; omega) (by show u.count ≤ _; omega)
    rw [valid_of u hg' (by omega)] at h
    rw [show u.atoms.length = m' + 1 from hm'] at h
    exact h)
  have HO := hide (fun w1 (hb : Below w.heap.size w w1) => order5_any (t.count + 1) t u g 0 c g' 0 c' m m' w1 (Nat.lt_succ_self _) hm hm' h1 h2 hc hc' (ht.below hb) (ht'.below hb))
  have HK1 := hide (fun w1 (hb : Below w.heap.size w w1) => kind6_any ⟨t.kind, t.num, t.text, t.ks.length⟩ t.atoms g 0 c m w1 hm (by omega) (atoms_last t m hm) (ht.below hb))
  have HK2 := hide (fun w1 (hb : Below w.heap.size w w1) => kind6_any ⟨u.kind, u.num, u.text, u.ks.length⟩ u.atoms g' 0 c' m' w1 hm' (by omega) (atoms_last u m' hm') (ht'.below hb))
  have HLA := hide (fun w1 (hb : Below w.heap.size w w1) => last_any ⟨t.kind, t.num, t.text, t.ks.length⟩ t.atoms g 0 c m w1 hm (by omega) (atoms_last t m hm) (ht.below hb))
  have HLB := hide (fun w1 (hb : Below w.heap.size w w1) => last_any ⟨u.kind, u.num, u.text, u.ks.length⟩ u.atoms g' 0 c' m' w1 hm' (by omega) (atoms_last u m' hm') (ht'.below hb))
  have HNB := hide (fun w' => number6_mul t.num u.num w' hx hy)
  rw [hk] at HK1
  rw [hk'] at HK2
  rw [hk] at HLA
  rw [hk'] at HLB
  have HFA := fun w => fld1' 3 t.num t.ks.length t.text w
  have HFB := fun w => fld1' 3 u.num u.ks.length u.text w
  generalize (t.ks.length : Int) = kt at *
  generalize (u.ks.length : Int) = ku at *
  generalize t.text = st at *
  generalize u.text = su at *
  obtain ⟨ro, rs, hro⟩ : ∃ ro rs, numOp 12 t.num u.num = (ro, rs) := ⟨_, _, rfl⟩
  rw [hro] at HNB
  rw [hro]
  clear hro hx hy
  generalize t.num = x at *
  generalize u.num = y at *
  cases ro with
  | some n =>
    have HNC := hide (fun w' => (HNB.out w').mono fun e w'' h => (show ∃ r, e = .returned r ∧ ∃ g, w'.heap.size ≤ g ∧ r = .tuple #[.agg #[.slice (some ⟨g, 0, none⟩) 1 1], .string ⟨#[]⟩] ∧ AtomsO w'' g 0 [⟨3, n, ⟨#[]⟩, 0⟩] ∧ Below w'.heap.size w' w'' from by obtain ⟨h0, g, h1, h2, h3⟩ := h; exact ⟨_, h2, g, h1, rfl, h3, h0⟩))
    clear HNB
    clear ht ht'
    generalize t.ord u = od at *
    have o0 := OB.start w (.slice (some ⟨g, 0, none⟩) (m + 1) c) (.slice (some ⟨g', 0, none⟩) (m' + 1) c')
    go_enter Tryz.func5, Tryz.ntmps5
    go_wp2_with fail
    refine (HV1.out _ o0.B).mono ?_
    rintro e w1 ⟨rfl, hb1⟩
    have o1 := o0.below hb1
    clear hb1 o0
    have a1 := o1.b
    go_wp2_with fail
    refine (HV2.out _ o1.B).mono ?_
    rintro e w2 ⟨rfl, hb2⟩
    have o2 := o1.below hb2
    clear hb2 o1 a1
    have a2 := o2.a
    have b2 := o2.b
    go_wp2_with (go_at_call 13; refine (in1_any _ _ _ _).mono ?_; rintro e w2' ⟨rfl, rfl⟩)
    refine (HO.out _ o2.B).mono ?_
    rintro e w3 ⟨rfl, hb3⟩
    have o3 := o2.below hb3
    clear hb3 o2 a2 b2
    have a3 := o3.a
    go_wp2_with fail
    refine (HK1.out _ o3.B).mono ?_
    rintro e w4 ⟨rfl, hb4⟩
    have o4 := o3.below hb4
    clear hb4 o3 a3
    have a4 := o4.a
    have b4 := o4.b
    go_wp2_with fail
    refine (HK2.out _ o4.B).mono ?_
    rintro e w5 ⟨rfl, hb5⟩
    have o5 := o4.below hb5
    clear hb5 o4 a4 b4
    have a5 := o5.a
    have b5 := o5.b
    have O5 := hide o5
    clear o5
    go_wp2_with fail
    go_region_held3 (fun w' => w'.cell? ⟨w.heap.size, 0, none⟩ = some (.slice (some ⟨g, 0, none⟩) (m + 1) c) ∧ w'.cell? ⟨w.heap.size + 1, 0, none⟩ = some (.slice (some ⟨g', 0, none⟩) (m' + 1) c')) (go_keep) (first
      | (refine step_call1 rfl 20 (.tmp 126) 28 rfl (.agg #[.slice (some ⟨g, 0, none⟩) (m + 1) c]) (.agg #[.int .i64 3, .int .i64 x, .string st, .int .i64 kt]) (by simp [Act.eval]) Tryz.f20 Tryz.func20 (by kernel_rfl) (by kernel_rfl) _ (HLA.out _ O5.out.drew.B) ?_; intro w6 hb6; have o6 := O5.out.drew.below hb6; have a6 := o6.a; have b6 := o6.b)
      | (refine step_call1 rfl 20 (.tmp 129) 28 rfl (.agg #[.slice (some ⟨g', 0, none⟩) (m' + 1) c']) (.agg #[.int .i64 3, .int .i64 y, .string su, .int .i64 ku]) (by simp [Act.eval]) Tryz.f20 Tryz.func20 (by kernel_rfl) (by kernel_rfl) _ (HLB.out _ o6.B) ?_; intro w7 hb7; have o7 := o6.below hb7; have a7 := o7.a; have b7 := o7.b)
      | (refine step_call3x rfl 21 (.tmp 125) (.tmp 128) (.tmp 131) 3 2 2 rfl (.int .i64 12) (.int .i64 x) (.int .i64 y) (by simp [Act.eval]) (by simp [Act.eval]) (by simp [Act.eval]) Tryz.f21 Tryz.func21 (by kernel_rfl) (by kernel_rfl) _ (HNC.out _) ?_; rintro r w8 ⟨ga, hga, rfl, hat, hb8⟩; have o8 := o7.below hb8; have a8 := o8.a; have b8 := o8.b; have r8 := o8.r; have f8 := o8.f; have s0 := (World.cell?_setCell_other w8 ⟨w.heap.size + 1 + 1, 0, none⟩ ⟨w.heap.size, 0, none⟩ (.slice (some ⟨ga, 0, none⟩) 1 1) (by simp)).trans a8; have s1 := (World.cell?_setCell_other w8 ⟨w.heap.size + 1 + 1, 0, none⟩ ⟨w.heap.size + 1, 0, none⟩ (.slice (some ⟨ga, 0, none⟩) 1 1) (by simp)).trans b8))
    have hz7 := o7.z
    have B8 := o8.B
    clear s0 s1 a8 b8 o6 o7 hb6 hb7 hb8 a6 b6 a7 b7
    go_wp2
    refine bodyPost_ret (v := .tuple #[.agg #[(.slice (some ⟨ga, 0, none⟩) 1 1)], .string ⟨#[]⟩]) (by simp [results, Tryz.results5, go_sem, r8]) rfl ?_
    exact ⟨B8.setCell (p := ⟨w.heap.size + 1 + 1, 0, none⟩) (by show w.heap.size ≤ w.heap.size + 1 + 1; omega) _, .inr ⟨ga, 1, by have := O5.out.B.size; omega, rfl, atomsO_set hat _ (by show w.heap.size + 1 + 1 ≠ ga; omega) _⟩⟩
  | none =>
    have HNC := hide (fun w' => (HNB.out w').mono fun e w'' h => (show ∃ r, e = .returned r ∧ r = .tuple #[.agg #[.slice none 0 0], .string ⟨rs.toArray⟩] ∧ Below w'.heap.size w' w'' from by obtain ⟨h0, h2⟩ := h; exact ⟨_, h2, rfl, h0⟩))
    clear HNB
    clear ht ht'
    generalize t.ord u = od at *
    have o0 := OB.start w (.slice (some ⟨g, 0, none⟩) (m + 1) c) (.slice (some ⟨g', 0, none⟩) (m' + 1) c')
    go_enter Tryz.func5, Tryz.ntmps5
    go_wp2_with fail
    refine (HV1.out _ o0.B).mono ?_
    rintro e w1 ⟨rfl, hb1⟩
    have o1 := o0.below hb1
    clear hb1 o0
    have a1 := o1.b
    go_wp2_with fail
    refine (HV2.out _ o1.B).mono ?_
    rintro e w2 ⟨rfl, hb2⟩
    have o2 := o1.below hb2
    clear hb2 o1 a1
    have a2 := o2.a
    have b2 := o2.b
    go_wp2_with (go_at_call 13; refine (in1_any _ _ _ _).mono ?_; rintro e w2' ⟨rfl, rfl⟩)
    refine (HO.out _ o2.B).mono ?_
    rintro e w3 ⟨rfl, hb3⟩
    have o3 := o2.below hb3
    clear hb3 o2 a2 b2
    have a3 := o3.a
    go_wp2_with fail
    refine (HK1.out _ o3.B).mono ?_
    rintro e w4 ⟨rfl, hb4⟩
    have o4 := o3.below hb4
    clear hb4 o3 a3
    have a4 := o4.a
    have b4 := o4.b
    go_wp2_with fail
    refine (HK2.out _ o4.B).mono ?_
    rintro e w5 ⟨rfl, hb5⟩
    have o5 := o4.below hb5
    clear hb5 o4 a4 b4
    have a5 := o5.a
    have b5 := o5.b
    have O5 := hide o5
    clear o5
    go_wp2_with fail
    go_region_held3 (fun w' => w'.cell? ⟨w.heap.size, 0, none⟩ = some (.slice (some ⟨g, 0, none⟩) (m + 1) c) ∧ w'.cell? ⟨w.heap.size + 1, 0, none⟩ = some (.slice (some ⟨g', 0, none⟩) (m' + 1) c')) (go_keep) (first
      | (refine step_call1 rfl 20 (.tmp 126) 28 rfl (.agg #[.slice (some ⟨g, 0, none⟩) (m + 1) c]) (.agg #[.int .i64 3, .int .i64 x, .string st, .int .i64 kt]) (by simp [Act.eval]) Tryz.f20 Tryz.func20 (by kernel_rfl) (by kernel_rfl) _ (HLA.out _ O5.out.drew.B) ?_; intro w6 hb6; have o6 := O5.out.drew.below hb6; have a6 := o6.a; have b6 := o6.b)
      | (refine step_call1 rfl 20 (.tmp 129) 28 rfl (.agg #[.slice (some ⟨g', 0, none⟩) (m' + 1) c']) (.agg #[.int .i64 3, .int .i64 y, .string su, .int .i64 ku]) (by simp [Act.eval]) Tryz.f20 Tryz.func20 (by kernel_rfl) (by kernel_rfl) _ (HLB.out _ o6.B) ?_; intro w7 hb7; have o7 := o6.below hb7; have a7 := o7.a; have b7 := o7.b)
      | (refine step_call3x rfl 21 (.tmp 125) (.tmp 128) (.tmp 131) 3 2 2 rfl (.int .i64 12) (.int .i64 x) (.int .i64 y) (by simp [Act.eval]) (by simp [Act.eval]) (by simp [Act.eval]) Tryz.f21 Tryz.func21 (by kernel_rfl) (by kernel_rfl) _ (HNC.out _) ?_; rintro r w8 ⟨rfl, hb8⟩; have o8 := o7.below hb8; have a8 := o8.a; have b8 := o8.b; have r8 := o8.r; have f8 := o8.f; have s0 := (World.cell?_setCell_other w8 ⟨w.heap.size + 1 + 1, 0, none⟩ ⟨w.heap.size, 0, none⟩ (.slice none 0 0) (by simp)).trans a8; have s1 := (World.cell?_setCell_other w8 ⟨w.heap.size + 1 + 1, 0, none⟩ ⟨w.heap.size + 1, 0, none⟩ (.slice none 0 0) (by simp)).trans b8))
    have hz7 := o7.z
    have B8 := o8.B
    clear s0 s1 a8 b8 o6 o7 hb6 hb7 hb8 a6 b6 a7 b7
    go_wp2
    refine bodyPost_ret (v := .tuple #[.agg #[(.slice none 0 0)], .string ⟨rs.toArray⟩]) (by simp [results, Tryz.results5, go_sem, r8]) rfl ?_
    exact ⟨B8.setCell (p := ⟨w.heap.size + 1 + 1, 0, none⟩) (by show w.heap.size ≤ w.heap.size + 1 + 1; omega) _, .inl ⟨rfl, rfl⟩⟩

set_option maxRecDepth 100000 in
set_option maxHeartbeats 1000000 in
theorem specOp_num13 (t u : T) (g g' c c' m m' : Nat) (w : World) (hm : t.count = m + 1) (hm' : u.count = m' + 1) (h1 : m < 1000) (h2 : m' < 1000) (hc : m + 1 ≤ c) (hc' : m' + 1 ≤ c') (hg : t.good = true) (hg' : u.good = true) (ht : AtomsO w g 0 t.atoms) (ht' : AtomsO w g' 0 u.atoms) (hk : t.kind = 3) (hk' : u.kind = 3) (hx : in64 t.num) (hy : in64 u.num) :
    Calls Tryz.prog 5 #[.int .i64 13, .agg #[.slice (some ⟨g, 0, none⟩) (m + 1) c], .agg #[.slice (some ⟨g', 0, none⟩) (m' + 1) c']] w (OPost w (numR (numOp 13 t.num u.num))) := by
  have HV1 : Hid (∀ w1, Below w.heap.size w w1 → Calls Tryz.prog 12 #[.agg #[.slice (some ⟨g, 0, none⟩) (m + 1) c]] w1 fun e w' => e = .returned (.bool true) ∧ Below w1.heap.size w1 w') := hide (fun w1 hb => by
    have h := specValid_any t.atoms g 0 c w1 (fun _ => rfl) (ht.below hb) (by show t.count ≤ c; omega) (by show t.count ≤ _; omega)
    rw [valid_of t hg (by omega)] at h
    rw [show t.atoms.length = m + 1 from hm] at h
    exact h)
  have HV2 : Hid (∀ w1, Below w.heap.size w w1 → Calls Tryz.prog 12 #[.agg #[.slice (some ⟨g', 0, none⟩) (m' + 1) c']] w1 fun e w' => e = .returned (.bool true) ∧ Below w1.heap.size w1 w') := hide (fun w1 hb => by
    have h := specValid_any u.atoms g' 0 c' w1 (fun _ => rfl) (ht'.below hb) (by show u.count ≤ c'; omega) (by show u.count ≤ _; omega)
    rw [valid_of u hg' (by omega)] at h
    rw [show u.atoms.length = m' + 1 from hm'] at h
    exact h)
  have HO := hide (fun w1 (hb : Below w.heap.size w w1) => order5_any (t.count + 1) t u g 0 c g' 0 c' m m' w1 (Nat.lt_succ_self _) hm hm' h1 h2 hc hc' (ht.below hb) (ht'.below hb))
  have HK1 := hide (fun w1 (hb : Below w.heap.size w w1) => kind6_any ⟨t.kind, t.num, t.text, t.ks.length⟩ t.atoms g 0 c m w1 hm (by omega) (atoms_last t m hm) (ht.below hb))
  have HK2 := hide (fun w1 (hb : Below w.heap.size w w1) => kind6_any ⟨u.kind, u.num, u.text, u.ks.length⟩ u.atoms g' 0 c' m' w1 hm' (by omega) (atoms_last u m' hm') (ht'.below hb))
  have HLA := hide (fun w1 (hb : Below w.heap.size w w1) => last_any ⟨t.kind, t.num, t.text, t.ks.length⟩ t.atoms g 0 c m w1 hm (by omega) (atoms_last t m hm) (ht.below hb))
  have HLB := hide (fun w1 (hb : Below w.heap.size w w1) => last_any ⟨u.kind, u.num, u.text, u.ks.length⟩ u.atoms g' 0 c' m' w1 hm' (by omega) (atoms_last u m' hm') (ht'.below hb))
  have HNB := hide (fun w' => number6_div t.num u.num w' hx hy)
  rw [hk] at HK1
  rw [hk'] at HK2
  rw [hk] at HLA
  rw [hk'] at HLB
  have HFA := fun w => fld1' 3 t.num t.ks.length t.text w
  have HFB := fun w => fld1' 3 u.num u.ks.length u.text w
  generalize (t.ks.length : Int) = kt at *
  generalize (u.ks.length : Int) = ku at *
  generalize t.text = st at *
  generalize u.text = su at *
  obtain ⟨ro, rs, hro⟩ : ∃ ro rs, numOp 13 t.num u.num = (ro, rs) := ⟨_, _, rfl⟩
  rw [hro] at HNB
  rw [hro]
  clear hro hx hy
  generalize t.num = x at *
  generalize u.num = y at *
  cases ro with
  | some n =>
    have HNC := hide (fun w' => (HNB.out w').mono fun e w'' h => (show ∃ r, e = .returned r ∧ ∃ g, w'.heap.size ≤ g ∧ r = .tuple #[.agg #[.slice (some ⟨g, 0, none⟩) 1 1], .string ⟨#[]⟩] ∧ AtomsO w'' g 0 [⟨3, n, ⟨#[]⟩, 0⟩] ∧ Below w'.heap.size w' w'' from by obtain ⟨h0, g, h1, h2, h3⟩ := h; exact ⟨_, h2, g, h1, rfl, h3, h0⟩))
    clear HNB
    clear ht ht'
    generalize t.ord u = od at *
    have o0 := OB.start w (.slice (some ⟨g, 0, none⟩) (m + 1) c) (.slice (some ⟨g', 0, none⟩) (m' + 1) c')
    go_enter Tryz.func5, Tryz.ntmps5
    go_wp2_with fail
    refine (HV1.out _ o0.B).mono ?_
    rintro e w1 ⟨rfl, hb1⟩
    have o1 := o0.below hb1
    clear hb1 o0
    have a1 := o1.b
    go_wp2_with fail
    refine (HV2.out _ o1.B).mono ?_
    rintro e w2 ⟨rfl, hb2⟩
    have o2 := o1.below hb2
    clear hb2 o1 a1
    have a2 := o2.a
    have b2 := o2.b
    go_wp2_with (go_at_call 13; refine (in1_any _ _ _ _).mono ?_; rintro e w2' ⟨rfl, rfl⟩)
    refine (HO.out _ o2.B).mono ?_
    rintro e w3 ⟨rfl, hb3⟩
    have o3 := o2.below hb3
    clear hb3 o2 a2 b2
    have a3 := o3.a
    go_wp2_with fail
    refine (HK1.out _ o3.B).mono ?_
    rintro e w4 ⟨rfl, hb4⟩
    have o4 := o3.below hb4
    clear hb4 o3 a3
    have a4 := o4.a
    have b4 := o4.b
    go_wp2_with fail
    refine (HK2.out _ o4.B).mono ?_
    rintro e w5 ⟨rfl, hb5⟩
    have o5 := o4.below hb5
    clear hb5 o4 a4 b4
    have a5 := o5.a
    have b5 := o5.b
    have O5 := hide o5
    clear o5
    go_wp2_with fail
    go_region_held3 (fun w' => w'.cell? ⟨w.heap.size, 0, none⟩ = some (.slice (some ⟨g, 0, none⟩) (m + 1) c) ∧ w'.cell? ⟨w.heap.size + 1, 0, none⟩ = some (.slice (some ⟨g', 0, none⟩) (m' + 1) c')) (go_keep) (first
      | (refine step_call1 rfl 20 (.tmp 126) 28 rfl (.agg #[.slice (some ⟨g, 0, none⟩) (m + 1) c]) (.agg #[.int .i64 3, .int .i64 x, .string st, .int .i64 kt]) (by simp [Act.eval]) Tryz.f20 Tryz.func20 (by kernel_rfl) (by kernel_rfl) _ (HLA.out _ O5.out.drew.B) ?_; intro w6 hb6; have o6 := O5.out.drew.below hb6; have a6 := o6.a; have b6 := o6.b)
      | (refine step_call1 rfl 20 (.tmp 129) 28 rfl (.agg #[.slice (some ⟨g', 0, none⟩) (m' + 1) c']) (.agg #[.int .i64 3, .int .i64 y, .string su, .int .i64 ku]) (by simp [Act.eval]) Tryz.f20 Tryz.func20 (by kernel_rfl) (by kernel_rfl) _ (HLB.out _ o6.B) ?_; intro w7 hb7; have o7 := o6.below hb7; have a7 := o7.a; have b7 := o7.b)
      | (refine step_call3x rfl 21 (.tmp 125) (.tmp 128) (.tmp 131) 3 2 2 rfl (.int .i64 13) (.int .i64 x) (.int .i64 y) (by simp [Act.eval]) (by simp [Act.eval]) (by simp [Act.eval]) Tryz.f21 Tryz.func21 (by kernel_rfl) (by kernel_rfl) _ (HNC.out _) ?_; rintro r w8 ⟨ga, hga, rfl, hat, hb8⟩; have o8 := o7.below hb8; have a8 := o8.a; have b8 := o8.b; have r8 := o8.r; have f8 := o8.f; have s0 := (World.cell?_setCell_other w8 ⟨w.heap.size + 1 + 1, 0, none⟩ ⟨w.heap.size, 0, none⟩ (.slice (some ⟨ga, 0, none⟩) 1 1) (by simp)).trans a8; have s1 := (World.cell?_setCell_other w8 ⟨w.heap.size + 1 + 1, 0, none⟩ ⟨w.heap.size + 1, 0, none⟩ (.slice (some ⟨ga, 0, none⟩) 1 1) (by simp)).trans b8))
    have hz7 := o7.z
    have B8 := o8.B
    clear s0 s1 a8 b8 o6 o7 hb6 hb7 hb8 a6 b6 a7 b7
    go_wp2
    refine bodyPost_ret (v := .tuple #[.agg #[(.slice (some ⟨ga, 0, none⟩) 1 1)], .string ⟨#[]⟩]) (by simp [results, Tryz.results5, go_sem, r8]) rfl ?_
    exact ⟨B8.setCell (p := ⟨w.heap.size + 1 + 1, 0, none⟩) (by show w.heap.size ≤ w.heap.size + 1 + 1; omega) _, .inr ⟨ga, 1, by have := O5.out.B.size; omega, rfl, atomsO_set hat _ (by show w.heap.size + 1 + 1 ≠ ga; omega) _⟩⟩
  | none =>
    have HNC := hide (fun w' => (HNB.out w').mono fun e w'' h => (show ∃ r, e = .returned r ∧ r = .tuple #[.agg #[.slice none 0 0], .string ⟨rs.toArray⟩] ∧ Below w'.heap.size w' w'' from by obtain ⟨h0, h2⟩ := h; exact ⟨_, h2, rfl, h0⟩))
    clear HNB
    clear ht ht'
    generalize t.ord u = od at *
    have o0 := OB.start w (.slice (some ⟨g, 0, none⟩) (m + 1) c) (.slice (some ⟨g', 0, none⟩) (m' + 1) c')
    go_enter Tryz.func5, Tryz.ntmps5
    go_wp2_with fail
    refine (HV1.out _ o0.B).mono ?_
    rintro e w1 ⟨rfl, hb1⟩
    have o1 := o0.below hb1
    clear hb1 o0
    have a1 := o1.b
    go_wp2_with fail
    refine (HV2.out _ o1.B).mono ?_
    rintro e w2 ⟨rfl, hb2⟩
    have o2 := o1.below hb2
    clear hb2 o1 a1
    have a2 := o2.a
    have b2 := o2.b
    go_wp2_with (go_at_call 13; refine (in1_any _ _ _ _).mono ?_; rintro e w2' ⟨rfl, rfl⟩)
    refine (HO.out _ o2.B).mono ?_
    rintro e w3 ⟨rfl, hb3⟩
    have o3 := o2.below hb3
    clear hb3 o2 a2 b2
    have a3 := o3.a
    go_wp2_with fail
    refine (HK1.out _ o3.B).mono ?_
    rintro e w4 ⟨rfl, hb4⟩
    have o4 := o3.below hb4
    clear hb4 o3 a3
    have a4 := o4.a
    have b4 := o4.b
    go_wp2_with fail
    refine (HK2.out _ o4.B).mono ?_
    rintro e w5 ⟨rfl, hb5⟩
    have o5 := o4.below hb5
    clear hb5 o4 a4 b4
    have a5 := o5.a
    have b5 := o5.b
    have O5 := hide o5
    clear o5
    go_wp2_with fail
    go_region_held3 (fun w' => w'.cell? ⟨w.heap.size, 0, none⟩ = some (.slice (some ⟨g, 0, none⟩) (m + 1) c) ∧ w'.cell? ⟨w.heap.size + 1, 0, none⟩ = some (.slice (some ⟨g', 0, none⟩) (m' + 1) c')) (go_keep) (first
      | (refine step_call1 rfl 20 (.tmp 126) 28 rfl (.agg #[.slice (some ⟨g, 0, none⟩) (m + 1) c]) (.agg #[.int .i64 3, .int .i64 x, .string st, .int .i64 kt]) (by simp [Act.eval]) Tryz.f20 Tryz.func20 (by kernel_rfl) (by kernel_rfl) _ (HLA.out _ O5.out.drew.B) ?_; intro w6 hb6; have o6 := O5.out.drew.below hb6; have a6 := o6.a; have b6 := o6.b)
      | (refine step_call1 rfl 20 (.tmp 129) 28 rfl (.agg #[.slice (some ⟨g', 0, none⟩) (m' + 1) c']) (.agg #[.int .i64 3, .int .i64 y, .string su, .int .i64 ku]) (by simp [Act.eval]) Tryz.f20 Tryz.func20 (by kernel_rfl) (by kernel_rfl) _ (HLB.out _ o6.B) ?_; intro w7 hb7; have o7 := o6.below hb7; have a7 := o7.a; have b7 := o7.b)
      | (refine step_call3x rfl 21 (.tmp 125) (.tmp 128) (.tmp 131) 3 2 2 rfl (.int .i64 13) (.int .i64 x) (.int .i64 y) (by simp [Act.eval]) (by simp [Act.eval]) (by simp [Act.eval]) Tryz.f21 Tryz.func21 (by kernel_rfl) (by kernel_rfl) _ (HNC.out _) ?_; rintro r w8 ⟨rfl, hb8⟩; have o8 := o7.below hb8; have a8 := o8.a; have b8 := o8.b; have r8 := o8.r; have f8 := o8.f; have s0 := (World.cell?_setCell_other w8 ⟨w.heap.size + 1 + 1, 0, none⟩ ⟨w.heap.size, 0, none⟩ (.slice none 0 0) (by simp)).trans a8; have s1 := (World.cell?_setCell_other w8 ⟨w.heap.size + 1 + 1, 0, none⟩ ⟨w.heap.size + 1, 0, none⟩ (.slice none 0 0) (by simp)).trans b8))
    have hz7 := o7.z
    have B8 := o8.B
    clear s0 s1 a8 b8 o6 o7 hb6 hb7 hb8 a6 b6 a7 b7
    go_wp2
    refine bodyPost_ret (v := .tuple #[.agg #[(.slice none 0 0)], .string ⟨rs.toArray⟩]) (by simp [results, Tryz.results5, go_sem, r8]) rfl ?_
    exact ⟨B8.setCell (p := ⟨w.heap.size + 1 + 1, 0, none⟩) (by show w.heap.size ≤ w.heap.size + 1 + 1; omega) _, .inl ⟨rfl, rfl⟩⟩

set_option maxRecDepth 100000 in
set_option maxHeartbeats 1000000 in
theorem specOp_num14 (t u : T) (g g' c c' m m' : Nat) (w : World) (hm : t.count = m + 1) (hm' : u.count = m' + 1) (h1 : m < 1000) (h2 : m' < 1000) (hc : m + 1 ≤ c) (hc' : m' + 1 ≤ c') (hg : t.good = true) (hg' : u.good = true) (ht : AtomsO w g 0 t.atoms) (ht' : AtomsO w g' 0 u.atoms) (hk : t.kind = 3) (hk' : u.kind = 3) (hx : in64 t.num) (hy : in64 u.num) :
    Calls Tryz.prog 5 #[.int .i64 14, .agg #[.slice (some ⟨g, 0, none⟩) (m + 1) c], .agg #[.slice (some ⟨g', 0, none⟩) (m' + 1) c']] w (OPost w (numR (numOp 14 t.num u.num))) := by
  have HV1 : Hid (∀ w1, Below w.heap.size w w1 → Calls Tryz.prog 12 #[.agg #[.slice (some ⟨g, 0, none⟩) (m + 1) c]] w1 fun e w' => e = .returned (.bool true) ∧ Below w1.heap.size w1 w') := hide (fun w1 hb => by
    have h := specValid_any t.atoms g 0 c w1 (fun _ => rfl) (ht.below hb) (by show t.count ≤ c; omega) (by show t.count ≤ _; omega)
    rw [valid_of t hg (by omega)] at h
    rw [show t.atoms.length = m + 1 from hm] at h
    exact h)
  have HV2 : Hid (∀ w1, Below w.heap.size w w1 → Calls Tryz.prog 12 #[.agg #[.slice (some ⟨g', 0, none⟩) (m' + 1) c']] w1 fun e w' => e = .returned (.bool true) ∧ Below w1.heap.size w1 w') := hide (fun w1 hb => by
    have h := specValid_any u.atoms g' 0 c' w1 (fun _ => rfl) (ht'.below hb) (by show u.count ≤ c'; omega) (by show u.count ≤ _; omega)
    rw [valid_of u hg' (by omega)] at h
    rw [show u.atoms.length = m' + 1 from hm'] at h
    exact h)
  have HO := hide (fun w1 (hb : Below w.heap.size w w1) => order5_any (t.count + 1) t u g 0 c g' 0 c' m m' w1 (Nat.lt_succ_self _) hm hm' h1 h2 hc hc' (ht.below hb) (ht'.below hb))
  have HK1 := hide (fun w1 (hb : Below w.heap.size w w1) => kind6_any ⟨t.kind, t.num, t.text, t.ks.length⟩ t.atoms g 0 c m w1 hm (by omega) (atoms_last t m hm) (ht.below hb))
  have HK2 := hide (fun w1 (hb : Below w.heap.size w w1) => kind6_any ⟨u.kind, u.num, u.text, u.ks.length⟩ u.atoms g' 0 c' m' w1 hm' (by omega) (atoms_last u m' hm') (ht'.below hb))
  have HLA := hide (fun w1 (hb : Below w.heap.size w w1) => last_any ⟨t.kind, t.num, t.text, t.ks.length⟩ t.atoms g 0 c m w1 hm (by omega) (atoms_last t m hm) (ht.below hb))
  have HLB := hide (fun w1 (hb : Below w.heap.size w w1) => last_any ⟨u.kind, u.num, u.text, u.ks.length⟩ u.atoms g' 0 c' m' w1 hm' (by omega) (atoms_last u m' hm') (ht'.below hb))
  have HNB := hide (fun w' => number6_rem t.num u.num w' hx hy)
  rw [hk] at HK1
  rw [hk'] at HK2
  rw [hk] at HLA
  rw [hk'] at HLB
  have HFA := fun w => fld1' 3 t.num t.ks.length t.text w
  have HFB := fun w => fld1' 3 u.num u.ks.length u.text w
  generalize (t.ks.length : Int) = kt at *
  generalize (u.ks.length : Int) = ku at *
  generalize t.text = st at *
  generalize u.text = su at *
  obtain ⟨ro, rs, hro⟩ : ∃ ro rs, numOp 14 t.num u.num = (ro, rs) := ⟨_, _, rfl⟩
  rw [hro] at HNB
  rw [hro]
  clear hro hx hy
  generalize t.num = x at *
  generalize u.num = y at *
  cases ro with
  | some n =>
    have HNC := hide (fun w' => (HNB.out w').mono fun e w'' h => (show ∃ r, e = .returned r ∧ ∃ g, w'.heap.size ≤ g ∧ r = .tuple #[.agg #[.slice (some ⟨g, 0, none⟩) 1 1], .string ⟨#[]⟩] ∧ AtomsO w'' g 0 [⟨3, n, ⟨#[]⟩, 0⟩] ∧ Below w'.heap.size w' w'' from by obtain ⟨h0, g, h1, h2, h3⟩ := h; exact ⟨_, h2, g, h1, rfl, h3, h0⟩))
    clear HNB
    clear ht ht'
    generalize t.ord u = od at *
    have o0 := OB.start w (.slice (some ⟨g, 0, none⟩) (m + 1) c) (.slice (some ⟨g', 0, none⟩) (m' + 1) c')
    go_enter Tryz.func5, Tryz.ntmps5
    go_wp2_with fail
    refine (HV1.out _ o0.B).mono ?_
    rintro e w1 ⟨rfl, hb1⟩
    have o1 := o0.below hb1
    clear hb1 o0
    have a1 := o1.b
    go_wp2_with fail
    refine (HV2.out _ o1.B).mono ?_
    rintro e w2 ⟨rfl, hb2⟩
    have o2 := o1.below hb2
    clear hb2 o1 a1
    have a2 := o2.a
    have b2 := o2.b
    go_wp2_with (go_at_call 13; refine (in1_any _ _ _ _).mono ?_; rintro e w2' ⟨rfl, rfl⟩)
    refine (HO.out _ o2.B).mono ?_
    rintro e w3 ⟨rfl, hb3⟩
    have o3 := o2.below hb3
    clear hb3 o2 a2 b2
    have a3 := o3.a
    go_wp2_with fail
    refine (HK1.out _ o3.B).mono ?_
    rintro e w4 ⟨rfl, hb4⟩
    have o4 := o3.below hb4
    clear hb4 o3 a3
    have a4 := o4.a
    have b4 := o4.b
    go_wp2_with fail
    refine (HK2.out _ o4.B).mono ?_
    rintro e w5 ⟨rfl, hb5⟩
    have o5 := o4.below hb5
    clear hb5 o4 a4 b4
    have a5 := o5.a
    have b5 := o5.b
    have O5 := hide o5
    clear o5
    go_wp2_with fail
    go_region_held3 (fun w' => w'.cell? ⟨w.heap.size, 0, none⟩ = some (.slice (some ⟨g, 0, none⟩) (m + 1) c) ∧ w'.cell? ⟨w.heap.size + 1, 0, none⟩ = some (.slice (some ⟨g', 0, none⟩) (m' + 1) c')) (go_keep) (first
      | (refine step_call1 rfl 20 (.tmp 126) 28 rfl (.agg #[.slice (some ⟨g, 0, none⟩) (m + 1) c]) (.agg #[.int .i64 3, .int .i64 x, .string st, .int .i64 kt]) (by simp [Act.eval]) Tryz.f20 Tryz.func20 (by kernel_rfl) (by kernel_rfl) _ (HLA.out _ O5.out.drew.B) ?_; intro w6 hb6; have o6 := O5.out.drew.below hb6; have a6 := o6.a; have b6 := o6.b)
      | (refine step_call1 rfl 20 (.tmp 129) 28 rfl (.agg #[.slice (some ⟨g', 0, none⟩) (m' + 1) c']) (.agg #[.int .i64 3, .int .i64 y, .string su, .int .i64 ku]) (by simp [Act.eval]) Tryz.f20 Tryz.func20 (by kernel_rfl) (by kernel_rfl) _ (HLB.out _ o6.B) ?_; intro w7 hb7; have o7 := o6.below hb7; have a7 := o7.a; have b7 := o7.b)
      | (refine step_call3x rfl 21 (.tmp 125) (.tmp 128) (.tmp 131) 3 2 2 rfl (.int .i64 14) (.int .i64 x) (.int .i64 y) (by simp [Act.eval]) (by simp [Act.eval]) (by simp [Act.eval]) Tryz.f21 Tryz.func21 (by kernel_rfl) (by kernel_rfl) _ (HNC.out _) ?_; rintro r w8 ⟨ga, hga, rfl, hat, hb8⟩; have o8 := o7.below hb8; have a8 := o8.a; have b8 := o8.b; have r8 := o8.r; have f8 := o8.f; have s0 := (World.cell?_setCell_other w8 ⟨w.heap.size + 1 + 1, 0, none⟩ ⟨w.heap.size, 0, none⟩ (.slice (some ⟨ga, 0, none⟩) 1 1) (by simp)).trans a8; have s1 := (World.cell?_setCell_other w8 ⟨w.heap.size + 1 + 1, 0, none⟩ ⟨w.heap.size + 1, 0, none⟩ (.slice (some ⟨ga, 0, none⟩) 1 1) (by simp)).trans b8))
    have hz7 := o7.z
    have B8 := o8.B
    clear s0 s1 a8 b8 o6 o7 hb6 hb7 hb8 a6 b6 a7 b7
    go_wp2
    refine bodyPost_ret (v := .tuple #[.agg #[(.slice (some ⟨ga, 0, none⟩) 1 1)], .string ⟨#[]⟩]) (by simp [results, Tryz.results5, go_sem, r8]) rfl ?_
    exact ⟨B8.setCell (p := ⟨w.heap.size + 1 + 1, 0, none⟩) (by show w.heap.size ≤ w.heap.size + 1 + 1; omega) _, .inr ⟨ga, 1, by have := O5.out.B.size; omega, rfl, atomsO_set hat _ (by show w.heap.size + 1 + 1 ≠ ga; omega) _⟩⟩
  | none =>
    have HNC := hide (fun w' => (HNB.out w').mono fun e w'' h => (show ∃ r, e = .returned r ∧ r = .tuple #[.agg #[.slice none 0 0], .string ⟨rs.toArray⟩] ∧ Below w'.heap.size w' w'' from by obtain ⟨h0, h2⟩ := h; exact ⟨_, h2, rfl, h0⟩))
    clear HNB
    clear ht ht'
    generalize t.ord u = od at *
    have o0 := OB.start w (.slice (some ⟨g, 0, none⟩) (m + 1) c) (.slice (some ⟨g', 0, none⟩) (m' + 1) c')
    go_enter Tryz.func5, Tryz.ntmps5
    go_wp2_with fail
    refine (HV1.out _ o0.B).mono ?_
    rintro e w1 ⟨rfl, hb1⟩
    have o1 := o0.below hb1
    clear hb1 o0
    have a1 := o1.b
    go_wp2_with fail
    refine (HV2.out _ o1.B).mono ?_
    rintro e w2 ⟨rfl, hb2⟩
    have o2 := o1.below hb2
    clear hb2 o1 a1
    have a2 := o2.a
    have b2 := o2.b
    go_wp2_with (go_at_call 13; refine (in1_any _ _ _ _).mono ?_; rintro e w2' ⟨rfl, rfl⟩)
    refine (HO.out _ o2.B).mono ?_
    rintro e w3 ⟨rfl, hb3⟩
    have o3 := o2.below hb3
    clear hb3 o2 a2 b2
    have a3 := o3.a
    go_wp2_with fail
    refine (HK1.out _ o3.B).mono ?_
    rintro e w4 ⟨rfl, hb4⟩
    have o4 := o3.below hb4
    clear hb4 o3 a3
    have a4 := o4.a
    have b4 := o4.b
    go_wp2_with fail
    refine (HK2.out _ o4.B).mono ?_
    rintro e w5 ⟨rfl, hb5⟩
    have o5 := o4.below hb5
    clear hb5 o4 a4 b4
    have a5 := o5.a
    have b5 := o5.b
    have O5 := hide o5
    clear o5
    go_wp2_with fail
    go_region_held3 (fun w' => w'.cell? ⟨w.heap.size, 0, none⟩ = some (.slice (some ⟨g, 0, none⟩) (m + 1) c) ∧ w'.cell? ⟨w.heap.size + 1, 0, none⟩ = some (.slice (some ⟨g', 0, none⟩) (m' + 1) c')) (go_keep) (first
      | (refine step_call1 rfl 20 (.tmp 126) 28 rfl (.agg #[.slice (some ⟨g, 0, none⟩) (m + 1) c]) (.agg #[.int .i64 3, .int .i64 x, .string st, .int .i64 kt]) (by simp [Act.eval]) Tryz.f20 Tryz.func20 (by kernel_rfl) (by kernel_rfl) _ (HLA.out _ O5.out.drew.B) ?_; intro w6 hb6; have o6 := O5.out.drew.below hb6; have a6 := o6.a; have b6 := o6.b)
      | (refine step_call1 rfl 20 (.tmp 129) 28 rfl (.agg #[.slice (some ⟨g', 0, none⟩) (m' + 1) c']) (.agg #[.int .i64 3, .int .i64 y, .string su, .int .i64 ku]) (by simp [Act.eval]) Tryz.f20 Tryz.func20 (by kernel_rfl) (by kernel_rfl) _ (HLB.out _ o6.B) ?_; intro w7 hb7; have o7 := o6.below hb7; have a7 := o7.a; have b7 := o7.b)
      | (refine step_call3x rfl 21 (.tmp 125) (.tmp 128) (.tmp 131) 3 2 2 rfl (.int .i64 14) (.int .i64 x) (.int .i64 y) (by simp [Act.eval]) (by simp [Act.eval]) (by simp [Act.eval]) Tryz.f21 Tryz.func21 (by kernel_rfl) (by kernel_rfl) _ (HNC.out _) ?_; rintro r w8 ⟨rfl, hb8⟩; have o8 := o7.below hb8; have a8 := o8.a; have b8 := o8.b; have r8 := o8.r; have f8 := o8.f; have s0 := (World.cell?_setCell_other w8 ⟨w.heap.size + 1 + 1, 0, none⟩ ⟨w.heap.size, 0, none⟩ (.slice none 0 0) (by simp)).trans a8; have s1 := (World.cell?_setCell_other w8 ⟨w.heap.size + 1 + 1, 0, none⟩ ⟨w.heap.size + 1, 0, none⟩ (.slice none 0 0) (by simp)).trans b8))
    have hz7 := o7.z
    have B8 := o8.B
    clear s0 s1 a8 b8 o6 o7 hb6 hb7 hb8 a6 b6 a7 b7
    go_wp2
    refine bodyPost_ret (v := .tuple #[.agg #[(.slice none 0 0)], .string ⟨rs.toArray⟩]) (by simp [results, Tryz.results5, go_sem, r8]) rfl ?_
    exact ⟨B8.setCell (p := ⟨w.heap.size + 1 + 1, 0, none⟩) (by show w.heap.size ≤ w.heap.size + 1 + 1; omega) _, .inl ⟨rfl, rfl⟩⟩
end Go.Proofs.YtnkfbjcgkdblgaaGreat.Vl
