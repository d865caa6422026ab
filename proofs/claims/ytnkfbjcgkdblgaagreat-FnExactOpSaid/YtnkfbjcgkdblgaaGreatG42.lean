/- Joined: Lu, Lv. -/
import Derived.Test.YtnkfbjcgkdblgaaGreatG41
import Derived.Test.YtnkfbjcgkdblgaaGreatG39
namespace Go.Proofs.YtnkfbjcgkdblgaaGreat.Vl
open Go.RowKit T.atoms T.ok T.high T.good T.allPlain T.ord
theorem step_call2y {P : Program} {ops : Array Oper} {o : Oper} {a : Act} {w : World} {K : Act → World → Prop} {Q : Exit → Act → World → Prop} {E : Prop}
    (hg : o.guard = none) (f : FuncId) (x y : Operand) (t u : TypeId) (hop : o.op = Op.call { callee := Callee.value (Operand.func f), args := #[x, y], argTypes := #[t, u] })
    (v v2 : Value) (hx : a.eval x = v) (hy : a.eval y = v2) (fn : Func) (hfn : P.funcs[f]? = some fn) (hne : (fn.name == "runtime.NumGoroutine") = false) (hbd : fn.body.isNone = false) (R : Value → World → Prop) (hC : Calls P f #[v, v2] w fun e w' => ∃ r, e = .returned r ∧ R r w') (hK : ∀ r w', R r w' → K (a.put o.dst r) w') :
    if Region.wanted o (yielded ops a.tmps) = true then Oper.wp P o a w K Q else E := by
  have hw : Region.wanted o (yielded ops a.tmps) = true := by simp [Region.wanted, hg]
  rw [if_pos hw]
  have h1 : (callFunc f #[v, v2]).run P w = .ok (.enter f #[v, v2]) w := by
    simp only [callFunc, Sem.run_bind, run_program, Result.andThen_ok, hfn, hne, hbd]; rfl
  unfold Oper.wp
  simp only [execOp, hop, resolve, invoke, List.map_toArray, List.map_cons, List.map_nil, hx, hy, Deferred.ofValue, Sem.run_bind]
  rw [show a.eval (Operand.func f) = Value.func (Fn.func f) #[] #[] from rfl]
  simp only [Sem.run_pure, Result.andThen_ok]
  simp [h1]
  refine hC.mono fun e w2 h => ?_
  obtain ⟨r, rfl, h2⟩ := h
  exact hK _ _ h2
theorem OB.low {w W W' : World} {va vb : Value} (h : OB w va vb W) (hb : Below (w.heap.size + 3) W W') : OB w va vb W' := by
  have hz := h.z
  have e : ∀ b, b ≤ w.heap.size + 1 + 1 → W'.cell? ⟨b, 0, none⟩ = W.cell? ⟨b, 0, none⟩ := fun b hb' => hb.cell (p := ⟨b, 0, none⟩) (by show b < _; omega)
  exact ⟨h.B.trans (hb.mono (by omega)), (e _ (by omega)).trans h.a, (e _ (by omega)).trans h.b, (e _ (by omega)).trans h.r, (hb.frozen (p := ⟨w.heap.size + 1 + 1, 0, none⟩) (by show w.heap.size + 1 + 1 < _; omega)).trans h.f, Nat.lt_of_lt_of_le hz hb.size⟩
theorem OB.drawn {w W : World} {va vb : Value} (h : OB w va vb W) (o : Obj) : OB w va vb (W.alloc o) := h.below ((Below.refl _ _).alloc (Nat.le_refl _) o)
theorem OB.put {w W : World} {va vb : Value} (h : OB w va vb W) (p : Addr) (hp : w.heap.size + 3 ≤ p.block) (v : Value) : OB w va vb (W.setCell p v) := h.low ((Below.refl _ _).setCell hp v)
/-- The new variable's box, and the boxes of Op. -/
structure NB (w : World) (va vb : Value) (n : Nat) (W : World) : Prop where
  o : OB w va vb W
  k : w.heap.size + 3 ≤ n
  z : n < W.heap.size
  c : W.cell? ⟨n, 0, none⟩ = some (.slice none 0 0)
  f : W.frozen? ⟨n, 0, none⟩ = false
theorem NB.new {w W : World} {va vb : Value} (h : OB w va vb W) : NB w va vb W.heap.size (W.alloc (.cells #[.slice none 0 0] 28)) := by
  have c1 := cell_new W (.slice none 0 0) 28
  have hz := h.z
  exact ⟨h.drawn _, by omega, by simp, c1.1, c1.2⟩
theorem NB.below {w W W' : World} {va vb : Value} {n : Nat} (h : NB w va vb n W) (hb : Below W.heap.size W W') : NB w va vb n W' :=
  ⟨h.o.below hb, h.k, Nat.lt_of_lt_of_le h.z hb.size, (hb.cell (p := ⟨n, 0, none⟩) h.z).trans h.c, (hb.frozen (p := ⟨n, 0, none⟩) h.z).trans h.f⟩
theorem GPost.okv {w w' : World} {ks : List T} {s : ByteArray} {e : Ending} (h : GPost w ks s e w') : ∃ r, e = .returned r ∧ ∃ p n c, r = .tuple #[.agg #[.slice p n c], .bool (getAt ks s).isSome] ∧ Below w.heap.size w w' := by
  obtain ⟨h0, h1⟩ := h
  cases hg : getAt ks s with
  | none => rw [hg] at h1; exact ⟨_, h1, _, _, _, rfl, h0⟩
  | some i => rw [hg] at h1; obtain ⟨_, g, o, c, h2, _⟩ := h1; exact ⟨_, h2, _, _, _, rfl, h0⟩

set_option maxRecDepth 100000 in
set_option maxHeartbeats 1000000 in
theorem has6_record (t u : T) (g g' c c' m m' : Nat) (w : World) (hm : t.count = m + 1) (hm' : u.count = m' + 1) (h1 : m < 1000) (h2 : m' < 1000) (hc : m + 1 ≤ c) (_hc' : m' + 1 ≤ c') (ht : AtomsO w g 0 t.atoms) (ht' : AtomsO w g' 0 u.atoms) (hk : t.kind = 6) (hk' : u.kind = 4) :
    Calls Tryz.prog 18 #[.agg #[.slice (some ⟨g, 0, none⟩) (m + 1) c], .agg #[.slice (some ⟨g', 0, none⟩) (m' + 1) c']] w (OPost w (boolA (getAt t.ks u.text).isSome)) := by
  have HKD := hide (fun w1 (hb : Below w.heap.size w w1) => kids5_any t.atoms g 0 c m w1 hm (by omega) (ht.below hb) hc)
  have HK1 := hide (fun w1 (hb : Below w.heap.size w w1) => kind6_any ⟨t.kind, t.num, t.text, t.ks.length⟩ t.atoms g 0 c m w1 hm (by omega) (atoms_last t m hm) (ht.below hb))
  have HK2 := hide (fun w1 (hb : Below w.heap.size w w1) => kind6_any ⟨u.kind, u.num, u.text, u.ks.length⟩ u.atoms g' 0 c' m' w1 hm' (by omega) (atoms_last u m' hm') (ht'.below hb))
  have HLA := hide (fun w1 (hb : Below w.heap.size w w1) => last_any ⟨t.kind, t.num, t.text, t.ks.length⟩ t.atoms g 0 c m w1 hm (by omega) (atoms_last t m hm) (ht.below hb))
  have HLB := hide (fun w1 (hb : Below w.heap.size w w1) => last_any ⟨u.kind, u.num, u.text, u.ks.length⟩ u.atoms g' 0 c' m' w1 hm' (by omega) (atoms_last u m' hm') (ht'.below hb))
  have HB := hide (fun b w' => bool5_any b w')
  have HGT := hide (fun w1 (hb : Below w.heap.size w w1) => (get5_any t u.text g 0 c m w1 hm h1 hc (ht.below hb)).mono fun _ _ h => GPost.okv h)
  rw [hk] at HK1
  rw [hk'] at HK2 HLB
  clear ht ht'
  have HFB := fun w => fld2' 4 u.num u.ks.length u.text w
  generalize (u.ks.length : Int) = ku at *
  generalize (getAt t.ks u.text).isSome = yes at *
  generalize u.text = su at *
  generalize u.num = y at *
  have o0 := OB.start w (.slice (some ⟨g, 0, none⟩) (m + 1) c) (.slice (some ⟨g', 0, none⟩) (m' + 1) c')
  go_enter Tryz.func18, Tryz.ntmps18
  go_wp2_with fail
  refine (HKD.out _ o0.B).mono ?_
  rintro e w1 ⟨g7, c7, nk, vs, ok, rfl, -, hb1⟩
  have o1 := o0.below hb1
  clear hb1 o0
  have a1 := o1.a
  go_wp2_with fail
  refine (HK1.out _ o1.B).mono ?_
  rintro e w2 ⟨rfl, hb2⟩
  have o2 := o1.below hb2
  clear hb2 o1 a1
  have b2 := o2.b
  have a2 := o2.a
  go_wp2_with fail
  refine (HK2.out _ o2.B).mono ?_
  rintro e w3 ⟨rfl, hb3⟩
  have o3 := o2.below hb3
  clear hb3 o2 a2 b2
  have a3 := o3.a
  have b3 := o3.b
  have O3 := hide o3
  clear o3
  go_wp2_with fail
  go_region_held3 (fun w' => w'.cell? ⟨w.heap.size, 0, none⟩ = some (.slice (some ⟨g, 0, none⟩) (m + 1) c) ∧ w'.cell? ⟨w.heap.size + 1, 0, none⟩ = some (.slice (some ⟨g', 0, none⟩) (m' + 1) c')) (first | go_keep | (exact ⟨(NB.new O3.out.drew).o.a, (NB.new O3.out.drew).o.b⟩) | (exact ⟨(NB.new o6).o.a, (NB.new o6).o.b⟩) | (exact ⟨(NB.new o7).o.a, (NB.new o7).o.b⟩) | (exact ⟨(OB.put (NB.new o7).o _ (NB.new o7).k _).a, (OB.put (NB.new o7).o _ (NB.new o7).k _).b⟩) | (exact ⟨(OB.put (NB.o ‹_›) _ (NB.k ‹_›) _).a, (OB.put (NB.o ‹_›) _ (NB.k ‹_›) _).b⟩)) (first
    | (refine step_call1 rfl 20 (.tmp 56) 28 rfl (.agg #[.slice (some ⟨g', 0, none⟩) (m' + 1) c']) (.agg #[.int .i64 4, .int .i64 y, .string su, .int .i64 ku]) (by simp [Act.eval]) Tryz.f20 Tryz.func20 (by kernel_rfl) (by kernel_rfl) _ (HLB.out _ O3.out.drew.B) ?_; intro w6 hb6; have o6 := O3.out.drew.below hb6; have a6 := o6.a; have b6 := o6.b)
    | (refine step_call1 rfl 20 (.tmp 56) 28 rfl (.agg #[.slice (some ⟨g', 0, none⟩) (m' + 1) c']) (.agg #[.int .i64 4, .int .i64 y, .string su, .int .i64 ku]) (by simp [Act.eval]) Tryz.f20 Tryz.func20 (by kernel_rfl) (by kernel_rfl) _ (HLB.out _ (NB.new O3.out.drew).o.B) ?_; intro w6 hb6; have n6 := (NB.new O3.out.drew).below hb6; have a6 := n6.o.a; have b6 := n6.o.b)
    | (refine step_call2y rfl 34 (.tmp 55) (.tmp 58) 28 9 rfl (.agg #[.slice (some ⟨g, 0, none⟩) (m + 1) c]) (.string su) (by simp [Act.eval]) (by simp [Act.eval]) Tryz.f34 Tryz.func34 (by kernel_rfl) (by kernel_rfl) _ (HGT.out _ o6.B) ?_; rintro r w7 ⟨pv, nv, cv, rfl, hb7⟩; have o7 := o6.below hb7; have a7 := o7.a; have b7 := o7.b)
    | (refine step_call2y rfl 34 (.tmp 55) (.tmp 58) 28 9 rfl (.agg #[.slice (some ⟨g, 0, none⟩) (m + 1) c]) (.string su) (by simp [Act.eval]) (by simp [Act.eval]) Tryz.f34 Tryz.func34 (by kernel_rfl) (by kernel_rfl) _ (HGT.out _ n6.o.B) ?_; rintro r w7 ⟨pv, nv, cv, rfl, hb7⟩; have n7 := n6.below hb7; have a7 := n7.o.a; have b7 := n7.o.b; have c7' : w7.cell? ⟨w3.heap.size, 0, none⟩ = some (.slice none 0 0) := n7.c; have f7' : w7.frozen? ⟨w3.heap.size, 0, none⟩ = false := n7.f)
    | (refine step_call2y rfl 34 (.tmp 55) (.tmp 58) 28 9 rfl (.agg #[.slice (some ⟨g, 0, none⟩) (m + 1) c]) (.string su) (by simp [Act.eval]) (by simp [Act.eval]) Tryz.f34 Tryz.func34 (by kernel_rfl) (by kernel_rfl) _ (HGT.out _ (NB.new o6).o.B) ?_; rintro r w7 ⟨pv, nv, cv, rfl, hb7⟩; have n7 := (NB.new o6).below hb7; have a7 := n7.o.a; have b7 := n7.o.b; have c7' := n7.c; have f7' := n7.f))
  all_goals
    go_wp2_with fail
    refine (HB.out _ _).mono ?_
    rintro e w8 ⟨ga, hga, rfl, hat, hb8⟩
    have o8 : OB w (.slice (some ⟨g, 0, none⟩) (m + 1) c) (.slice (some ⟨g', 0, none⟩) (m' + 1) c') w8 := OB.below (by first | exact OB.put n7.o _ (by exact n7.k) _ | exact OB.drawn o7 _ | exact OB.drew (OB.drawn o7 _) | exact OB.put (NB.new o7).o ⟨w7.heap.size, 0, none⟩ (by exact (NB.new o7).k) _) hb8
    have hz8 : w.heap.size + 1 + 1 < ga := Nat.lt_of_lt_of_le (OB.z (va := (.slice (some ⟨g, 0, none⟩) (m + 1) c)) (vb := (.slice (some ⟨g', 0, none⟩) (m' + 1) c')) (by first | exact OB.put n7.o _ (by exact n7.k) _ | exact OB.drawn o7 _ | exact OB.drew (OB.drawn o7 _) | exact OB.put (NB.new o7).o ⟨w7.heap.size, 0, none⟩ (by exact (NB.new o7).k) _)) hga
    have r8 := o8.r
    have f8 := o8.f
    have B8 := o8.B
    clear o8 hb8
    go_wp2
    refine bodyPost_ret (v := .tuple #[.agg #[.slice (some ⟨ga, 0, none⟩) 1 1], .string ⟨#[]⟩]) (by simp [results, Tryz.results18, go_sem, r8]) rfl ?_
    exact ⟨B8.setCell (p := ⟨w.heap.size + 1 + 1, 0, none⟩) (by show w.heap.size ≤ w.heap.size + 1 + 1; omega) _, .inr ⟨ga, 1, by omega, rfl, atomsO_set hat _ (by show w.heap.size + 1 + 1 ≠ ga; omega) _⟩⟩

end Go.Proofs.YtnkfbjcgkdblgaaGreat.Vl
namespace Go.Proofs.YtnkfbjcgkdblgaaGreat.Vl
open Go.RowKit T.atoms T.ok T.high T.good T.allPlain T.ord
set_option maxRecDepth 100000 in
set_option maxHeartbeats 1000000 in
theorem specOp_has (t u : T) (g g' c c' m m' : Nat) (w : World) (hm : t.count = m + 1) (hm' : u.count = m' + 1) (h1 : m < 1000) (h2 : m' < 1000) (hc : m + 1 ≤ c) (hc' : m' + 1 ≤ c') (hg : t.good = true) (hg' : u.good = true) (ht : AtomsO w g 0 t.atoms) (ht' : AtomsO w g' 0 u.atoms) (r : List At × List UInt8) (HH : ∀ w1, AtomsO w1 g 0 t.atoms → AtomsO w1 g' 0 u.atoms → Calls Tryz.prog 18 #[.agg #[.slice (some ⟨g, 0, none⟩) (m + 1) c], .agg #[.slice (some ⟨g', 0, none⟩) (m' + 1) c']] w1 (OPost w1 r)) :
    Calls Tryz.prog 5 #[.int .i64 9, .agg #[.slice (some ⟨g, 0, none⟩) (m + 1) c], .agg #[.slice (some ⟨g', 0, none⟩) (m' + 1) c']] w (OPost w r) := by
  have HV1 : Hid (∀ w1, Below w.heap.size w w1 → Calls Tryz.prog 12 #[.agg #[.slice (some ⟨g, 0, none⟩) (m + 1) c]] w1 fun e w' => e = .returned (.bool true) ∧ Below w1.heap.size w1 w') := hide (fun w1 hb => by
    have h := specValid_any t.atoms g 0 c w1 (fun _ => rfl) (ht.below hb) (by show t.count ≤ c; omega) (by show t.count ≤ _; omega)
    rw [valid_of t hg (by omega)] at h
    rw [show t.atoms.length = m + 1 from hm] at h
    exact h)
  have HV2 : Hid (∀ w1, Below w.heap.size w w1 → Calls Tryz.prog 12 #[.agg #[.slice (some ⟨g', 0, none⟩) (m' + 1) c']] w1 fun e w' => e = .returned (.bool true) ∧ Below w1.heap.size w1 w') := hide (fun w1 hb => by
    have h := specValid_any u.atoms g' 0 c' w1 (fun _ => rfl) (ht'.below hb) (by show u.count ≤ c'; omega) (by show u.count ≤ _; omega)
    rw [valid_of u hg' (by omega)] at h
    rw [show u.atoms.length = m' + 1 from hm'] at h
    exact h)
  have HO := hide (fun w1 (hb : Below w.heap.size w w1) => order5_any (t.count + 1) t u g 0 c g' 0 c' m m' w1 (Nat.lt_succ_self _) hm hm' h1 h2 hc hc' (ht.below hb) (ht'.below hb))
  have HK1 := hide (fun w1 (hb : Below w.heap.size w w1) => kind6_any ⟨t.kind, t.num, t.text, t.ks.length⟩ t.atoms g 0 c m w1 hm (by omega) (atoms_last t m hm) (ht.below hb))
  have _HK2 := hide (fun w1 (hb : Below w.heap.size w w1) => kind6_any ⟨u.kind, u.num, u.text, u.ks.length⟩ u.atoms g' 0 c' m' w1 hm' (by omega) (atoms_last u m' hm') (ht'.below hb))
  have HX := hide (fun w1 (hb : Below w.heap.size w w1) => HH w1 (ht.below hb) (ht'.below hb))
  clear HH
  clear ht ht'
  generalize t.ord u = od at *
  have o0 := OB.start w (.slice (some ⟨g, 0, none⟩) (m + 1) c) (.slice (some ⟨g', 0, none⟩) (m' + 1) c')
  go_enter Tryz.func5, Tryz.ntmps5
  go_wp2_with fail
  refine (HV1.out _ o0.B).mono ?_
  rintro e w1 ⟨rfl, hb1⟩
  have o1 := o0.below hb1
  clear hb1 o0
  have a1 := o1.b
  go_wp2_with fail
  refine (HV2.out _ o1.B).mono ?_
  rintro e w2 ⟨rfl, hb2⟩
  have o2 := o1.below hb2
  clear hb2 o1 a1
  have a2 := o2.a
  have b2 := o2.b
  go_wp2_with (go_at_call 13; refine (in1_any _ _ _ _).mono ?_; rintro e w2' ⟨rfl, rfl⟩)
  refine (HO.out _ o2.B).mono ?_
  rintro e w3 ⟨rfl, hb3⟩
  have o3 := o2.below hb3
  clear hb3 o2 a2 b2
  have a3 := o3.a
  go_wp2_with fail
  refine (HK1.out _ o3.B).mono ?_
  rintro e w4 ⟨rfl, hb4⟩
  have o4 := o3.below hb4
  clear hb4 o3 a3
  have a4 := o4.a
  have b4 := o4.b
  go_wp2_with fail
  refine (HX.out _ o4.B).mono ?_
  rintro e w5 ⟨hb5, ⟨hr, rfl⟩ | ⟨ga, ca, hga, rfl, ha⟩⟩
  all_goals
    have o5 := o4.below hb5
    have hz4 := o4.z
    have hs4 := o4.B.size
    have r5 := o5.r
    have f5 := o5.f
    have B5 := o5.B
    clear hb5 o5 a4 b4
    go_wp2
  · refine bodyPost_ret (v := .tuple #[.agg #[.slice none 0 0], .string ⟨r.2.toArray⟩]) (by simp [results, Tryz.results5, go_sem, r5]) rfl ?_
    exact ⟨B5.setCell (p := ⟨w.heap.size + 1 + 1, 0, none⟩) (by show w.heap.size ≤ w.heap.size + 1 + 1; omega) _, .inl ⟨hr, rfl⟩⟩
  · refine bodyPost_ret (v := .tuple #[.agg #[.slice (some ⟨ga, 0, none⟩) r.1.length ca], .string ⟨r.2.toArray⟩]) (by simp [results, Tryz.results5, go_sem, r5]) rfl ?_
    exact ⟨B5.setCell (p := ⟨w.heap.size + 1 + 1, 0, none⟩) (by show w.heap.size ≤ w.heap.size + 1 + 1; omega) _, .inr ⟨ga, ca, by omega, rfl, atomsO_set ha _ (by show w.heap.size + 1 + 1 ≠ ga; omega) _⟩⟩
set_option maxRecDepth 100000 in
set_option maxHeartbeats 1000000 in
theorem specOp_add (t u : T) (g g' c c' m m' : Nat) (w : World) (hm : t.count = m + 1) (hm' : u.count = m' + 1) (h1 : m < 1000) (h2 : m' < 1000) (hc : m + 1 ≤ c) (hc' : m' + 1 ≤ c') (hg : t.good = true) (hg' : u.good = true) (ht : AtomsO w g 0 t.atoms) (ht' : AtomsO w g' 0 u.atoms) (r : List At × List UInt8) (HH : ∀ w1, AtomsO w1 g 0 t.atoms → AtomsO w1 g' 0 u.atoms → Calls Tryz.prog 19 #[.agg #[.slice (some ⟨g, 0, none⟩) (m + 1) c], .agg #[.slice (some ⟨g', 0, none⟩) (m' + 1) c']] w1 (OPost w1 r)) :
    Calls Tryz.prog 5 #[.int .i64 10, .agg #[.slice (some ⟨g, 0, none⟩) (m + 1) c], .agg #[.slice (some ⟨g', 0, none⟩) (m' + 1) c']] w (OPost w r) := by
  have HV1 : Hid (∀ w1, Below w.heap.size w w1 → Calls Tryz.prog 12 #[.agg #[.slice (some ⟨g, 0, none⟩) (m + 1) c]] w1 fun e w' => e = .returned (.bool true) ∧ Below w1.heap.size w1 w') := hide (fun w1 hb => by
    have h := specValid_any t.atoms g 0 c w1 (fun _ => rfl) (ht.below hb) (by show t.count ≤ c; omega) (by show t.count ≤ _; omega)
    rw [valid_of t hg (by omega)] at h
    rw [show t.atoms.length = m + 1 from hm] at h
    exact h)
  have HV2 : Hid (∀ w1, Below w.heap.size w w1 → Calls Tryz.prog 12 #[.agg #[.slice (some ⟨g', 0, none⟩) (m' + 1) c']] w1 fun e w' => e = .returned (.bool true) ∧ Below w1.heap.size w1 w') := hide (fun w1 hb => by
    have h := specValid_any u.atoms g' 0 c' w1 (fun _ => rfl) (ht'.below hb) (by show u.count ≤ c'; omega) (by show u.count ≤ _; omega)
    rw [valid_of u hg' (by omega)] at h
    rw [show u.atoms.length = m' + 1 from hm'] at h
    exact h)
  have HO := hide (fun w1 (hb : Below w.heap.size w w1) => order5_any (t.count + 1) t u g 0 c g' 0 c' m m' w1 (Nat.lt_succ_self _) hm hm' h1 h2 hc hc' (ht.below hb) (ht'.below hb))
  have HK1 := hide (fun w1 (hb : Below w.heap.size w w1) => kind6_any ⟨t.kind, t.num, t.text, t.ks.length⟩ t.atoms g 0 c m w1 hm (by omega) (atoms_last t m hm) (ht.below hb))
  have _HK2 := hide (fun w1 (hb : Below w.heap.size w w1) => kind6_any ⟨u.kind, u.num, u.text, u.ks.length⟩ u.atoms g' 0 c' m' w1 hm' (by omega) (atoms_last u m' hm') (ht'.below hb))
  have HX := hide (fun w1 (hb : Below w.heap.size w w1) => HH w1 (ht.below hb) (ht'.below hb))
  clear HH
  clear ht ht'
  generalize t.ord u = od at *
  have o0 := OB.start w (.slice (some ⟨g, 0, none⟩) (m + 1) c) (.slice (some ⟨g', 0, none⟩) (m' + 1) c')
  go_enter Tryz.func5, Tryz.ntmps5
  go_wp2_with fail
  refine (HV1.out _ o0.B).mono ?_
  rintro e w1 ⟨rfl, hb1⟩
  have o1 := o0.below hb1
  clear hb1 o0
  have a1 := o1.b
  go_wp2_with fail
  refine (HV2.out _ o1.B).mono ?_
  rintro e w2 ⟨rfl, hb2⟩
  have o2 := o1.below hb2
  clear hb2 o1 a1
  have a2 := o2.a
  have b2 := o2.b
  go_wp2_with (go_at_call 13; refine (in1_any _ _ _ _).mono ?_; rintro e w2' ⟨rfl, rfl⟩)
  refine (HO.out _ o2.B).mono ?_
  rintro e w3 ⟨rfl, hb3⟩
  have o3 := o2.below hb3
  clear hb3 o2 a2 b2
  have a3 := o3.a
  go_wp2_with fail
  refine (HK1.out _ o3.B).mono ?_
  rintro e w4 ⟨rfl, hb4⟩
  have o4 := o3.below hb4
  clear hb4 o3 a3
  have a4 := o4.a
  have b4 := o4.b
  go_wp2_with fail
  refine (HX.out _ o4.B).mono ?_
  rintro e w5 ⟨hb5, ⟨hr, rfl⟩ | ⟨ga, ca, hga, rfl, ha⟩⟩
  all_goals
    have o5 := o4.below hb5
    have hz4 := o4.z
    have hs4 := o4.B.size
    have r5 := o5.r
    have f5 := o5.f
    have B5 := o5.B
    clear hb5 o5 a4 b4
    go_wp2
  · refine bodyPost_ret (v := .tuple #[.agg #[.slice none 0 0], .string ⟨r.2.toArray⟩]) (by simp [results, Tryz.results5, go_sem, r5]) rfl ?_
    exact ⟨B5.setCell (p := ⟨w.heap.size + 1 + 1, 0, none⟩) (by show w.heap.size ≤ w.heap.size + 1 + 1; omega) _, .inl ⟨hr, rfl⟩⟩
  · refine bodyPost_ret (v := .tuple #[.agg #[.slice (some ⟨ga, 0, none⟩) r.1.length ca], .string ⟨r.2.toArray⟩]) (by simp [results, Tryz.results5, go_sem, r5]) rfl ?_
    exact ⟨B5.setCell (p := ⟨w.heap.size + 1 + 1, 0, none⟩) (by show w.heap.size ≤ w.heap.size + 1 + 1; omega) _, .inr ⟨ga, ca, by omega, rfl, atomsO_set ha _ (by show w.heap.size + 1 + 1 ≠ ga; omega) _⟩⟩
end Go.Proofs.YtnkfbjcgkdblgaaGreat.Vl
