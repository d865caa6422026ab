/- Joined: Le, Lf. -/
import Derived.Test.YtnkfbjcgkdblgaaGreatG01
import Derived.Test.YtnkfbjcgkdblgaaGreatG24
import Derived.Test.YtnkfbjcgkdblgaaGreatG12
namespace Go.Proofs.YtnkfbjcgkdblgaaGreat.Vl
open Go.RowKit

/-- A text stands in another one at a place. -/
def stands (s x : ByteArray) (i : Nat) : Bool := decide (i + x.size ≤ s.size) && ((s.extract i (i + x.size)).toList == x.toList)
def inText (s x : ByteArray) : Bool := (List.range (s.size + 1)).any (stands s x)
theorem inText_yes {s x : ByteArray} {i : Nat} (h : stands s x i = true) : inText s x = true := by
  unfold inText
  rw [List.any_eq_true]
  refine ⟨i, ?_, h⟩
  unfold stands at h
  simp only [Bool.and_eq_true, decide_eq_true_eq] at h
  rw [List.mem_range]; omega
theorem inText_no {s x : ByteArray} {j : Nat} (h : ∀ k, k < j → stands s x k = false) (hj : ¬ j + x.size ≤ s.size) : inText s x = false := by
  unfold inText
  rw [List.any_eq_false]
  intro k _
  by_cases hk : k < j
  · rw [h k hk]; simp
  · unfold stands
    rw [decide_eq_false (by omega)]; simp

set_option maxRecDepth 100000 in
set_option maxHeartbeats 400000 in
theorem in6_any (s x : ByteArray) (w : World) (hs : s.size ≤ 1048576) (hx : x.size ≤ 1048576) : Calls Tryz.prog 33 #[.string s, .string x, .int .i64 0] w fun e w' => (∃ r : Int, e = .returned (.int .i64 r) ∧ decide (0 ≤ r) = inText s x) ∧ w' = w := by
  go_enter Tryz.func33, Tryz.ntmps33
  go_wp2
  go_loop [7] (fun i => ∃ j : Nat, j ≤ s.size + 1 ∧ i = .int .i64 j ∧ ∀ k, k < j → stands s x k = false) (fun i => s.size + 1 - (intOf i).toNat)
  case atStart => exact ⟨0, by omega, rfl, fun k hk => absurd hk (Nat.not_lt_zero _)⟩
  case round =>
    obtain ⟨j, hj, rfl, hno⟩ := hrel
    have HNO := hide hno
    clear hno
    have hw : wrap64 ((j : Int) + (x.size : Int)) = (j : Int) + x.size := by unfold wrap64; omega
    by_cases hlt : j + x.size ≤ s.size
    · have h1 : (j : Int) + (x.size : Int) ≤ (s.size : Int) := by omega
      have hst := hide (show stands s x j = ((s.extract j (j + x.size)).toList == x.toList) by unfold stands; rw [decide_eq_true hlt, Bool.true_and])
      cases hq : ((s.extract j (j + x.size)).toList == x.toList)
      · rw [hq] at hst
        go_wp2
        go_round
        case rel => exact ⟨j + 1, by omega, by go_num, fun k hk => by rcases Nat.lt_succ_iff_lt_or_eq.1 hk with h | rfl; exact HNO.out k h; exact hst.out⟩
        case measure => simp [intOf]; omega
      · rw [hq] at hst
        go_wp2
        go_ret
        exact ⟨⟨j, rfl, by rw [inText_yes hst.out]; simp⟩, rfl⟩
    · have h1 : ¬ (j : Int) + (x.size : Int) ≤ (s.size : Int) := by omega
      have HF := hide (inText_no HNO.out hlt)
      go_wp2
      go_ret
      exact ⟨⟨-1, rfl, by rw [HF.out]; rfl⟩, rfl⟩
end Go.Proofs.YtnkfbjcgkdblgaaGreat.Vl
namespace Go.Proofs.YtnkfbjcgkdblgaaGreat.Vl
open Go.RowKit T.atoms T.ok T.high T.good T.allPlain T.ord

set_option maxRecDepth 100000 in
set_option maxHeartbeats 400000 in
theorem kind6_any (a : At) (l : List At) (g o c m : Nat) (w : World) (hm : l.length = m + 1) (hn : m < 1048576) (ha : l[m]? = some a) (ht : AtomsO w g o l) :
    Calls Tryz.prog 16 #[.agg #[.slice (some ⟨g, o, none⟩) (m + 1) c]] w fun e w' => e = .returned (.int .i64 a.kind) ∧ Below w.heap.size w w' := by
  have HL := hide (fun w' (hb : Below w.heap.size w w') => last_any a l g o c m w' hm hn ha (ht.below hb))
  clear ht hm hn ha
  go_enter Tryz.func16, Tryz.ntmps16
  go_wp2_with fail
  have hq : Below w.heap.size w (w.alloc (.cells #[.slice (some ⟨g, o, none⟩) (m + 1) c] 28)) := (Below.refl _ _).alloc (Nat.le_refl _) _
  refine (HL.out _ hq).mono ?_
  rintro e w1 ⟨rfl, hb1⟩
  have HF := fun w => fld0 a.kind a.n a.kids a.text w
  go_wp2
  go_ret
  exact ⟨rfl, hq.trans (hb1.mono hq.size)⟩
theorem fld1' (k n q : Int) (s : ByteArray) (w : World) : (Instr.field 44 (.agg #[.int .i64 k, .int .i64 n, .string s, .int .i64 q]) 1).run Tryz.prog w = .ok (.int .i64 n) w := by kernel_rfl
theorem in1_any (a lo hi : Int) (w : World) : Calls Tryz.prog 13 #[.int .i64 a, .int .i64 lo, .int .i64 hi] w fun e w' => e = .returned (.bool (decide (lo ≤ a ∧ a ≤ hi))) ∧ w' = w := by
  by_cases h1 : lo ≤ a
  · by_cases h2 : a ≤ hi
    · rw [decide_eq_true ⟨h1, h2⟩]
      go_enter Tryz.func13, Tryz.ntmps13
      go_wp2
      go_ret
      exact ⟨rfl, rfl⟩
    · rw [decide_eq_false (fun h => h2 h.2)]
      go_enter Tryz.func13, Tryz.ntmps13
      go_wp2
      go_ret
      exact ⟨rfl, rfl⟩
  · rw [decide_eq_false (fun h => h1 h.1)]
    go_enter Tryz.func13, Tryz.ntmps13
    go_wp2
    go_ret
    exact ⟨rfl, rfl⟩

/-- The boxes of Op's two values, and of its answer. -/
structure OB (w : World) (va vb : Value) (W : World) : Prop where
  B : Below w.heap.size w W
  a : W.cell? ⟨w.heap.size, 0, none⟩ = some va
  b : W.cell? ⟨w.heap.size + 1, 0, none⟩ = some vb
  r : W.cell? ⟨w.heap.size + 1 + 1, 0, none⟩ = some (.slice none 0 0)
  f : W.frozen? ⟨w.heap.size + 1 + 1, 0, none⟩ = false
  z : w.heap.size + 1 + 1 < W.heap.size
theorem OB.start (w : World) (va vb : Value) : OB w va vb (((w.alloc (.cells #[va] 28)).alloc (.cells #[vb] 28)).alloc (.cells #[.slice none 0 0] 28)) := by
  have n1 : ∀ (X : World) (o : Obj) (b : Nat), b < X.heap.size → (X.alloc o).cell? ⟨b, 0, none⟩ = X.cell? ⟨b, 0, none⟩ := fun X o b hb => ((Below.refl X.heap.size X).alloc (Nat.le_refl _) o).cell (p := ⟨b, 0, none⟩) hb
  have c1 := cell_new w va 28
  have c2 := cell_new (w.alloc (.cells #[va] 28)) vb 28
  have c3 := cell_new ((w.alloc (.cells #[va] 28)).alloc (.cells #[vb] 28)) (.slice none 0 0) 28
  simp only [World.size_alloc] at c2 c3
  refine ⟨(((Below.refl _ _).alloc (Nat.le_refl _) _).alloc (by simp) _).alloc (by simp; omega) _, ?_, ?_, c3.1, c3.2, by simp⟩
  · rw [n1 _ _ _ (by simp; omega), n1 _ _ _ (by simp)]; exact c1.1
  · rw [n1 _ _ _ (by simp)]; exact c2.1
theorem OB.below {w W W' : World} {va vb : Value} (h : OB w va vb W) (hb : Below W.heap.size W W') : OB w va vb W' := by
  have hz := h.z
  have e : ∀ b, b ≤ w.heap.size + 1 + 1 → W'.cell? ⟨b, 0, none⟩ = W.cell? ⟨b, 0, none⟩ := fun b hb' => hb.cell (p := ⟨b, 0, none⟩) (by show b < _; omega)
  exact ⟨h.B.trans (hb.mono h.B.size), (e _ (by omega)).trans h.a, (e _ (by omega)).trans h.b, (e _ (by omega)).trans h.r, (hb.frozen (p := ⟨w.heap.size + 1 + 1, 0, none⟩) (by show w.heap.size + 1 + 1 < _; omega)).trans h.f, Nat.lt_of_lt_of_le hz hb.size⟩
/-- What Op hands back: atoms of its own, or a word. -/
def OPost (w : World) (r : List At × List UInt8) (e : Ending) (w' : World) : Prop := Below w.heap.size w w' ∧
  ((r.1 = [] ∧ e = .returned (.tuple #[.agg #[.slice none 0 0], .string ⟨r.2.toArray⟩])) ∨ ∃ g c, w.heap.size ≤ g ∧ e = .returned (.tuple #[.agg #[.slice (some ⟨g, 0, none⟩) r.1.length c], .string ⟨r.2.toArray⟩]) ∧ AtomsO w' g 0 r.1)
def wTy : List UInt8 := [116, 121, 112, 101]
def boolA (b : Bool) : List At × List UInt8 := ([⟨2, if b then 1 else 0, ⟨#[]⟩, 0⟩], [])

theorem valid_of (t : T) (hg : t.good = true) (hl : t.count ≤ 1000) : valid t.atoms = true := by
  unfold valid
  rw [decide_eq_true (show t.atoms.length ≤ 1000 from hl), treeOf_atoms]
  show t.ok 0 = true
  rw [ok_good]; exact hg

set_option maxRecDepth 100000 in
set_option maxHeartbeats 1000000 in
theorem specOp_same (t u : T) (g g' c c' m m' : Nat) (w : World) (hm : t.count = m + 1) (hm' : u.count = m' + 1) (h1 : m < 1000) (h2 : m' < 1000) (hc : m + 1 ≤ c) (hc' : m' + 1 ≤ c') (hg : t.good = true) (hg' : u.good = true) (ht : AtomsO w g 0 t.atoms) (ht' : AtomsO w g' 0 u.atoms) :
    Calls Tryz.prog 5 #[.int .i64 3, .agg #[.slice (some ⟨g, 0, none⟩) (m + 1) c], .agg #[.slice (some ⟨g', 0, none⟩) (m' + 1) c']] w (OPost w (boolA (decide (t.ord u = 0)))) := by
  have HV1 : Hid (∀ w1, Below w.heap.size w w1 → Calls Tryz.prog 12 #[.agg #[.slice (some ⟨g, 0, none⟩) (m + 1) c]] w1 fun e w' => e = .returned (.bool true) ∧ Below w1.heap.size w1 w') := hide (fun w1 hb => by
    have h := specValid_any t.atoms g 0 c w1 (fun _ => rfl) (ht.below hb) (by show t.count ≤ c; omega) (by show t.count ≤ _; omega)
    rw [valid_of t hg (by omega)] at h
    rw [show t.atoms.length = m + 1 from hm] at h
    exact h)
  have HV2 : Hid (∀ w1, Below w.heap.size w w1 → Calls Tryz.prog 12 #[.agg #[.slice (some ⟨g', 0, none⟩) (m' + 1) c']] w1 fun e w' => e = .returned (.bool true) ∧ Below w1.heap.size w1 w') := hide (fun w1 hb => by
    have h := specValid_any u.atoms g' 0 c' w1 (fun _ => rfl) (ht'.below hb) (by show u.count ≤ c'; omega) (by show u.count ≤ _; omega)
    rw [valid_of u hg' (by omega)] at h
    rw [show u.atoms.length = m' + 1 from hm'] at h
    exact h)
  have HO := hide (fun w1 (hb : Below w.heap.size w w1) => order5_any (t.count + 1) t u g 0 c g' 0 c' m m' w1 (Nat.lt_succ_self _) hm hm' h1 h2 hc hc' (ht.below hb) (ht'.below hb))
  have HK1 := hide (fun w1 (hb : Below w.heap.size w w1) => kind6_any ⟨t.kind, t.num, t.text, t.ks.length⟩ t.atoms g 0 c m w1 hm (by omega) (atoms_last t m hm) (ht.below hb))
  have HK2 := hide (fun w1 (hb : Below w.heap.size w w1) => kind6_any ⟨u.kind, u.num, u.text, u.ks.length⟩ u.atoms g' 0 c' m' w1 hm' (by omega) (atoms_last u m' hm') (ht'.below hb))
  have HB := hide (fun b w' => bool5_any b w')
  clear ht ht'
  generalize t.ord u = od at *
  have o0 := OB.start w (.slice (some ⟨g, 0, none⟩) (m + 1) c) (.slice (some ⟨g', 0, none⟩) (m' + 1) c')
  go_enter Tryz.func5, Tryz.ntmps5
  go_wp2_with fail
  refine (HV1.out _ o0.B).mono ?_
  rintro e w1 ⟨rfl, hb1⟩
  have o1 := o0.below hb1
  clear hb1 o0
  have a1 := o1.b
  go_wp2_with fail
  refine (HV2.out _ o1.B).mono ?_
  rintro e w2 ⟨rfl, hb2⟩
  have o2 := o1.below hb2
  clear hb2 o1 a1
  have a2 := o2.a
  have b2 := o2.b
  go_wp2_with (go_at_call 13; refine (in1_any _ _ _ _).mono ?_; rintro e w2' ⟨rfl, rfl⟩)
  refine (HO.out _ o2.B).mono ?_
  rintro e w3 ⟨rfl, hb3⟩
  have o3 := o2.below hb3
  clear hb3 o2 a2 b2
  have a3 := o3.a
  go_wp2_with fail
  refine (HK1.out _ o3.B).mono ?_
  rintro e w4 ⟨rfl, hb4⟩
  have o4 := o3.below hb4
  clear hb4 o3 a3
  have a4 := o4.a
  have b4 := o4.b
  by_cases hd : od = 0
  · subst hd
    go_wp2_with fail
    refine (HB.out true _).mono ?_
    rintro e w5 ⟨ga, hga, rfl, ha, hb5⟩
    have o5 := o4.below hb5
    have hz4 := o4.z
    have r5 := o5.r
    have f5 := o5.f
    have B5 := o5.B
    clear hb5 o5 a4 b4
    go_wp2
    refine bodyPost_ret (v := .tuple #[.agg #[.slice (some ⟨ga, 0, none⟩) 1 1], .string ⟨#[]⟩]) (by simp [results, Tryz.results5, go_sem, r5]) rfl ?_
    show OPost w (boolA true) _ _
    exact ⟨B5.setCell (p := ⟨w.heap.size + 1 + 1, 0, none⟩) (by show w.heap.size ≤ w.heap.size + 1 + 1; omega) _, .inr ⟨ga, 1, by have := o4.B.size; omega, rfl, atomsO_set ha _ (by show w.heap.size + 1 + 1 ≠ ga; omega) _⟩⟩
  · have hdb : (od == 0) = false := by simpa using hd
    go_wp2_with fail
    refine (HB.out false _).mono ?_
    rintro e w5 ⟨ga, hga, rfl, ha, hb5⟩
    have o5 := o4.below hb5
    have hz4 := o4.z
    have r5 := o5.r
    have f5 := o5.f
    have B5 := o5.B
    clear hb5 o5 a4 b4
    go_wp2
    refine bodyPost_ret (v := .tuple #[.agg #[.slice (some ⟨ga, 0, none⟩) 1 1], .string ⟨#[]⟩]) (by simp [results, Tryz.results5, go_sem, r5]) rfl ?_
    rw [show decide (od = 0) = false from decide_eq_false hd]
    exact ⟨B5.setCell (p := ⟨w.heap.size + 1 + 1, 0, none⟩) (by show w.heap.size ≤ w.heap.size + 1 + 1; omega) _, .inr ⟨ga, 1, by have := o4.B.size; omega, rfl, atomsO_set ha _ (by show w.heap.size + 1 + 1 ≠ ga; omega) _⟩⟩

set_option maxRecDepth 100000 in
set_option maxHeartbeats 1000000 in
theorem specOp_other (t u : T) (g g' c c' m m' : Nat) (w : World) (hm : t.count = m + 1) (hm' : u.count = m' + 1) (h1 : m < 1000) (h2 : m' < 1000) (hc : m + 1 ≤ c) (hc' : m' + 1 ≤ c') (hg : t.good = true) (hg' : u.good = true) (ht : AtomsO w g 0 t.atoms) (ht' : AtomsO w g' 0 u.atoms) :
    Calls Tryz.prog 5 #[.int .i64 4, .agg #[.slice (some ⟨g, 0, none⟩) (m + 1) c], .agg #[.slice (some ⟨g', 0, none⟩) (m' + 1) c']] w (OPost w (boolA (decide (¬ t.ord u = 0)))) := by
  have HV1 : Hid (∀ w1, Below w.heap.size w w1 → Calls Tryz.prog 12 #[.agg #[.slice (some ⟨g, 0, none⟩) (m + 1) c]] w1 fun e w' => e = .returned (.bool true) ∧ Below w1.heap.size w1 w') := hide (fun w1 hb => by
    have h := specValid_any t.atoms g 0 c w1 (fun _ => rfl) (ht.below hb) (by show t.count ≤ c; omega) (by show t.count ≤ _; omega)
    rw [valid_of t hg (by omega)] at h
    rw [show t.atoms.length = m + 1 from hm] at h
    exact h)
  have HV2 : Hid (∀ w1, Below w.heap.size w w1 → Calls Tryz.prog 12 #[.agg #[.slice (some ⟨g', 0, none⟩) (m' + 1) c']] w1 fun e w' => e = .returned (.bool true) ∧ Below w1.heap.size w1 w') := hide (fun w1 hb => by
    have h := specValid_any u.atoms g' 0 c' w1 (fun _ => rfl) (ht'.below hb) (by show u.count ≤ c'; omega) (by show u.count ≤ _; omega)
    rw [valid_of u hg' (by omega)] at h
    rw [show u.atoms.length = m' + 1 from hm'] at h
    exact h)
  have HO := hide (fun w1 (hb : Below w.heap.size w w1) => order5_any (t.count + 1) t u g 0 c g' 0 c' m m' w1 (Nat.lt_succ_self _) hm hm' h1 h2 hc hc' (ht.below hb) (ht'.below hb))
  have HK1 := hide (fun w1 (hb : Below w.heap.size w w1) => kind6_any ⟨t.kind, t.num, t.text, t.ks.length⟩ t.atoms g 0 c m w1 hm (by omega) (atoms_last t m hm) (ht.below hb))
  have HK2 := hide (fun w1 (hb : Below w.heap.size w w1) => kind6_any ⟨u.kind, u.num, u.text, u.ks.length⟩ u.atoms g' 0 c' m' w1 hm' (by omega) (atoms_last u m' hm') (ht'.below hb))
  have HB := hide (fun b w' => bool5_any b w')
  clear ht ht'
  generalize t.ord u = od at *
  have o0 := OB.start w (.slice (some ⟨g, 0, none⟩) (m + 1) c) (.slice (some ⟨g', 0, none⟩) (m' + 1) c')
  go_enter Tryz.func5, Tryz.ntmps5
  go_wp2_with fail
  refine (HV1.out _ o0.B).mono ?_
  rintro e w1 ⟨rfl, hb1⟩
  have o1 := o0.below hb1
  clear hb1 o0
  have a1 := o1.b
  go_wp2_with fail
  refine (HV2.out _ o1.B).mono ?_
  rintro e w2 ⟨rfl, hb2⟩
  have o2 := o1.below hb2
  clear hb2 o1 a1
  have a2 := o2.a
  have b2 := o2.b
  go_wp2_with (go_at_call 13; refine (in1_any _ _ _ _).mono ?_; rintro e w2' ⟨rfl, rfl⟩)
  refine (HO.out _ o2.B).mono ?_
  rintro e w3 ⟨rfl, hb3⟩
  have o3 := o2.below hb3
  clear hb3 o2 a2 b2
  have a3 := o3.a
  go_wp2_with fail
  refine (HK1.out _ o3.B).mono ?_
  rintro e w4 ⟨rfl, hb4⟩
  have o4 := o3.below hb4
  clear hb4 o3 a3
  have a4 := o4.a
  have b4 := o4.b
  by_cases hd : od = 0
  · subst hd
    go_wp2_with fail
    refine (HB.out false _).mono ?_
    rintro e w5 ⟨ga, hga, rfl, ha, hb5⟩
    have o5 := o4.below hb5
    have hz4 := o4.z
    have r5 := o5.r
    have f5 := o5.f
    have B5 := o5.B
    clear hb5 o5 a4 b4
    go_wp2
    refine bodyPost_ret (v := .tuple #[.agg #[.slice (some ⟨ga, 0, none⟩) 1 1], .string ⟨#[]⟩]) (by simp [results, Tryz.results5, go_sem, r5]) rfl ?_
    show OPost w (boolA false) _ _
    exact ⟨B5.setCell (p := ⟨w.heap.size + 1 + 1, 0, none⟩) (by show w.heap.size ≤ w.heap.size + 1 + 1; omega) _, .inr ⟨ga, 1, by have := o4.B.size; omega, rfl, atomsO_set ha _ (by show w.heap.size + 1 + 1 ≠ ga; omega) _⟩⟩
  · have hdb : (od != 0) = true := by simpa using hd
    go_wp2_with fail
    refine (HB.out true _).mono ?_
    rintro e w5 ⟨ga, hga, rfl, ha, hb5⟩
    have o5 := o4.below hb5
    have hz4 := o4.z
    have r5 := o5.r
    have f5 := o5.f
    have B5 := o5.B
    clear hb5 o5 a4 b4
    go_wp2
    refine bodyPost_ret (v := .tuple #[.agg #[.slice (some ⟨ga, 0, none⟩) 1 1], .string ⟨#[]⟩]) (by simp [results, Tryz.results5, go_sem, r5]) rfl ?_
    rw [show decide (¬ od = 0) = true from decide_eq_true hd]
    exact ⟨B5.setCell (p := ⟨w.heap.size + 1 + 1, 0, none⟩) (by show w.heap.size ≤ w.heap.size + 1 + 1; omega) _, .inr ⟨ga, 1, by have := o4.B.size; omega, rfl, atomsO_set ha _ (by show w.heap.size + 1 + 1 ≠ ga; omega) _⟩⟩

set_option maxRecDepth 100000 in
set_option maxHeartbeats 1000000 in
theorem specOp_kinds1 (t u : T) (g g' c c' m m' : Nat) (w : World) (hm : t.count = m + 1) (hm' : u.count = m' + 1) (h1 : m < 1000) (h2 : m' < 1000) (hc : m + 1 ≤ c) (hc' : m' + 1 ≤ c') (hg : t.good = true) (hg' : u.good = true) (ht : AtomsO w g 0 t.atoms) (ht' : AtomsO w g' 0 u.atoms) (hk : ¬ t.kind = u.kind) :
    Calls Tryz.prog 5 #[.int .i64 1, .agg #[.slice (some ⟨g, 0, none⟩) (m + 1) c], .agg #[.slice (some ⟨g', 0, none⟩) (m' + 1) c']] w (OPost w (([], wTy))) := by
  have HV1 : Hid (∀ w1, Below w.heap.size w w1 → Calls Tryz.prog 12 #[.agg #[.slice (some ⟨g, 0, none⟩) (m + 1) c]] w1 fun e w' => e = .returned (.bool true) ∧ Below w1.heap.size w1 w') := hide (fun w1 hb => by
    have h := specValid_any t.atoms g 0 c w1 (fun _ => rfl) (ht.below hb) (by show t.count ≤ c; omega) (by show t.count ≤ _; omega)
    rw [valid_of t hg (by omega)] at h
    rw [show t.atoms.length = m + 1 from hm] at h
    exact h)
  have HV2 : Hid (∀ w1, Below w.heap.size w w1 → Calls Tryz.prog 12 #[.agg #[.slice (some ⟨g', 0, none⟩) (m' + 1) c']] w1 fun e w' => e = .returned (.bool true) ∧ Below w1.heap.size w1 w') := hide (fun w1 hb => by
    have h := specValid_any u.atoms g' 0 c' w1 (fun _ => rfl) (ht'.below hb) (by show u.count ≤ c'; omega) (by show u.count ≤ _; omega)
    rw [valid_of u hg' (by omega)] at h
    rw [show u.atoms.length = m' + 1 from hm'] at h
    exact h)
  have HO := hide (fun w1 (hb : Below w.heap.size w w1) => order5_any (t.count + 1) t u g 0 c g' 0 c' m m' w1 (Nat.lt_succ_self _) hm hm' h1 h2 hc hc' (ht.below hb) (ht'.below hb))
  have HK1 := hide (fun w1 (hb : Below w.heap.size w w1) => kind6_any ⟨t.kind, t.num, t.text, t.ks.length⟩ t.atoms g 0 c m w1 hm (by omega) (atoms_last t m hm) (ht.below hb))
  have HK2 := hide (fun w1 (hb : Below w.heap.size w w1) => kind6_any ⟨u.kind, u.num, u.text, u.ks.length⟩ u.atoms g' 0 c' m' w1 hm' (by omega) (atoms_last u m' hm') (ht'.below hb))
  have HN := hide (no6_any ⟨#[116, 121, 112, 101]⟩)
  have hkb : (t.kind != u.kind) = true := by simpa using hk
  clear ht ht'
  generalize t.ord u = od at *
  have o0 := OB.start w (.slice (some ⟨g, 0, none⟩) (m + 1) c) (.slice (some ⟨g', 0, none⟩) (m' + 1) c')
  go_enter Tryz.func5, Tryz.ntmps5
  go_wp2_with fail
  refine (HV1.out _ o0.B).mono ?_
  rintro e w1 ⟨rfl, hb1⟩
  have o1 := o0.below hb1
  clear hb1 o0
  have a1 := o1.b
  go_wp2_with fail
  refine (HV2.out _ o1.B).mono ?_
  rintro e w2 ⟨rfl, hb2⟩
  have o2 := o1.below hb2
  clear hb2 o1 a1
  have a2 := o2.a
  have b2 := o2.b
  go_wp2_with (go_at_call 13; refine (in1_any _ _ _ _).mono ?_; rintro e w2' ⟨rfl, rfl⟩)
  refine (HO.out _ o2.B).mono ?_
  rintro e w3 ⟨rfl, hb3⟩
  have o3 := o2.below hb3
  clear hb3 o2 a2 b2
  have a3 := o3.a
  go_wp2_with fail
  refine (HK1.out _ o3.B).mono ?_
  rintro e w4 ⟨rfl, hb4⟩
  have o4 := o3.below hb4
  clear hb4 o3 a3
  have a4 := o4.a
  have b4 := o4.b
  go_wp2_with fail
  refine (HK2.out _ o4.B).mono ?_
  rintro e w5 ⟨rfl, hb5⟩
  have o5 := o4.below hb5
  clear hb5 o4 a4 b4
  have a5 := o5.a
  have b5 := o5.b
  go_wp2_with fail
  refine (HN.out _).mono ?_
  rintro e w6 ⟨rfl, hb6⟩
  have o6 := o5.below hb6
  have r6 := o6.r
  have f6 := o6.f
  have B6 := o6.B
  clear hb6 o6
  go_wp2
  refine bodyPost_ret (v := .tuple #[.agg #[.slice none 0 0], .string ⟨#[116, 121, 112, 101]⟩]) (by simp [results, Tryz.results5, go_sem, r6]) rfl ?_
  exact ⟨B6.setCell (p := ⟨w.heap.size + 1 + 1, 0, none⟩) (by show w.heap.size ≤ w.heap.size + 1 + 1; omega) _, .inl ⟨rfl, rfl⟩⟩

set_option maxRecDepth 100000 in
set_option maxHeartbeats 1000000 in
theorem specOp_kinds2 (t u : T) (g g' c c' m m' : Nat) (w : World) (hm : t.count = m + 1) (hm' : u.count = m' + 1) (h1 : m < 1000) (h2 : m' < 1000) (hc : m + 1 ≤ c) (hc' : m' + 1 ≤ c') (hg : t.good = true) (hg' : u.good = true) (ht : AtomsO w g 0 t.atoms) (ht' : AtomsO w g' 0 u.atoms) (hk : ¬ t.kind = u.kind) :
    Calls Tryz.prog 5 #[.int .i64 2, .agg #[.slice (some ⟨g, 0, none⟩) (m + 1) c], .agg #[.slice (some ⟨g', 0, none⟩) (m' + 1) c']] w (OPost w (([], wTy))) := by
  have HV1 : Hid (∀ w1, Below w.heap.size w w1 → Calls Tryz.prog 12 #[.agg #[.slice (some ⟨g, 0, none⟩) (m + 1) c]] w1 fun e w' => e = .returned (.bool true) ∧ Below w1.heap.size w1 w') := hide (fun w1 hb => by
    have h := specValid_any t.atoms g 0 c w1 (fun _ => rfl) (ht.below hb) (by show t.count ≤ c; omega) (by show t.count ≤ _; omega)
    rw [valid_of t hg (by omega)] at h
    rw [show t.atoms.length = m + 1 from hm] at h
    exact h)
  have HV2 : Hid (∀ w1, Below w.heap.size w w1 → Calls Tryz.prog 12 #[.agg #[.slice (some ⟨g', 0, none⟩) (m' + 1) c']] w1 fun e w' => e = .returned (.bool true) ∧ Below w1.heap.size w1 w') := hide (fun w1 hb => by
    have h := specValid_any u.atoms g' 0 c' w1 (fun _ => rfl) (ht'.below hb) (by show u.count ≤ c'; omega) (by show u.count ≤ _; omega)
    rw [valid_of u hg' (by omega)] at h
    rw [show u.atoms.length = m' + 1 from hm'] at h
    exact h)
  have HO := hide (fun w1 (hb : Below w.heap.size w w1) => order5_any (t.count + 1) t u g 0 c g' 0 c' m m' w1 (Nat.lt_succ_self _) hm hm' h1 h2 hc hc' (ht.below hb) (ht'.below hb))
  have HK1 := hide (fun w1 (hb : Below w.heap.size w w1) => kind6_any ⟨t.kind, t.num, t.text, t.ks.length⟩ t.atoms g 0 c m w1 hm (by omega) (atoms_last t m hm) (ht.below hb))
  have HK2 := hide (fun w1 (hb : Below w.heap.size w w1) => kind6_any ⟨u.kind, u.num, u.text, u.ks.length⟩ u.atoms g' 0 c' m' w1 hm' (by omega) (atoms_last u m' hm') (ht'.below hb))
  have HN := hide (no6_any ⟨#[116, 121, 112, 101]⟩)
  have hkb : (t.kind != u.kind) = true := by simpa using hk
  clear ht ht'
  generalize t.ord u = od at *
  have o0 := OB.start w (.slice (some ⟨g, 0, none⟩) (m + 1) c) (.slice (some ⟨g', 0, none⟩) (m' + 1) c')
  go_enter Tryz.func5, Tryz.ntmps5
  go_wp2_with fail
  refine (HV1.out _ o0.B).mono ?_
  rintro e w1 ⟨rfl, hb1⟩
  have o1 := o0.below hb1
  clear hb1 o0
  have a1 := o1.b
  go_wp2_with fail
  refine (HV2.out _ o1.B).mono ?_
  rintro e w2 ⟨rfl, hb2⟩
  have o2 := o1.below hb2
  clear hb2 o1 a1
  have a2 := o2.a
  have b2 := o2.b
  go_wp2_with (go_at_call 13; refine (in1_any _ _ _ _).mono ?_; rintro e w2' ⟨rfl, rfl⟩)
  refine (HO.out _ o2.B).mono ?_
  rintro e w3 ⟨rfl, hb3⟩
  have o3 := o2.below hb3
  clear hb3 o2 a2 b2
  have a3 := o3.a
  go_wp2_with fail
  refine (HK1.out _ o3.B).mono ?_
  rintro e w4 ⟨rfl, hb4⟩
  have o4 := o3.below hb4
  clear hb4 o3 a3
  have a4 := o4.a
  have b4 := o4.b
  go_wp2_with fail
  refine (HK2.out _ o4.B).mono ?_
  rintro e w5 ⟨rfl, hb5⟩
  have o5 := o4.below hb5
  clear hb5 o4 a4 b4
  have a5 := o5.a
  have b5 := o5.b
  go_wp2_with fail
  refine (HN.out _).mono ?_
  rintro e w6 ⟨rfl, hb6⟩
  have o6 := o5.below hb6
  have r6 := o6.r
  have f6 := o6.f
  have B6 := o6.B
  clear hb6 o6
  go_wp2
  refine bodyPost_ret (v := .tuple #[.agg #[.slice none 0 0], .string ⟨#[116, 121, 112, 101]⟩]) (by simp [results, Tryz.results5, go_sem, r6]) rfl ?_
  exact ⟨B6.setCell (p := ⟨w.heap.size + 1 + 1, 0, none⟩) (by show w.heap.size ≤ w.heap.size + 1 + 1; omega) _, .inl ⟨rfl, rfl⟩⟩

set_option maxRecDepth 100000 in
set_option maxHeartbeats 1000000 in
theorem specOp_kinds5 (t u : T) (g g' c c' m m' : Nat) (w : World) (hm : t.count = m + 1) (hm' : u.count = m' + 1) (h1 : m < 1000) (h2 : m' < 1000) (hc : m + 1 ≤ c) (hc' : m' + 1 ≤ c') (hg : t.good = true) (hg' : u.good = true) (ht : AtomsO w g 0 t.atoms) (ht' : AtomsO w g' 0 u.atoms) (hk : ¬ t.kind = u.kind) :
    Calls Tryz.prog 5 #[.int .i64 5, .agg #[.slice (some ⟨g, 0, none⟩) (m + 1) c], .agg #[.slice (some ⟨g', 0, none⟩) (m' + 1) c']] w (OPost w (([], wTy))) := by
  have HV1 : Hid (∀ w1, Below w.heap.size w w1 → Calls Tryz.prog 12 #[.agg #[.slice (some ⟨g, 0, none⟩) (m + 1) c]] w1 fun e w' => e = .returned (.bool true) ∧ Below w1.heap.size w1 w') := hide (fun w1 hb => by
    have h := specValid_any t.atoms g 0 c w1 (fun _ => rfl) (ht.below hb) (by show t.count ≤ c; omega) (by show t.count ≤ _; omega)
    rw [valid_of t hg (by omega)] at h
    rw [show t.atoms.length = m + 1 from hm] at h
    exact h)
  have HV2 : Hid (∀ w1, Below w.heap.size w w1 → Calls Tryz.prog 12 #[.agg #[.slice (some ⟨g', 0, none⟩) (m' + 1) c']] w1 fun e w' => e = .returned (.bool true) ∧ Below w1.heap.size w1 w') := hide (fun w1 hb => by
    have h := specValid_any u.atoms g' 0 c' w1 (fun _ => rfl) (ht'.below hb) (by show u.count ≤ c'; omega) (by show u.count ≤ _; omega)
    rw [valid_of u hg' (by omega)] at h
    rw [show u.atoms.length = m' + 1 from hm'] at h
    exact h)
  have HO := hide (fun w1 (hb : Below w.heap.size w w1) => order5_any (t.count + 1) t u g 0 c g' 0 c' m m' w1 (Nat.lt_succ_self _) hm hm' h1 h2 hc hc' (ht.below hb) (ht'.below hb))
  have HK1 := hide (fun w1 (hb : Below w.heap.size w w1) => kind6_any ⟨t.kind, t.num, t.text, t.ks.length⟩ t.atoms g 0 c m w1 hm (by omega) (atoms_last t m hm) (ht.below hb))
  have HK2 := hide (fun w1 (hb : Below w.heap.size w w1) => kind6_any ⟨u.kind, u.num, u.text, u.ks.length⟩ u.atoms g' 0 c' m' w1 hm' (by omega) (atoms_last u m' hm') (ht'.below hb))
  have HN := hide (no6_any ⟨#[116, 121, 112, 101]⟩)
  have hkb : (t.kind != u.kind) = true := by simpa using hk
  clear ht ht'
  generalize t.ord u = od at *
  have o0 := OB.start w (.slice (some ⟨g, 0, none⟩) (m + 1) c) (.slice (some ⟨g', 0, none⟩) (m' + 1) c')
  go_enter Tryz.func5, Tryz.ntmps5
  go_wp2_with fail
  refine (HV1.out _ o0.B).mono ?_
  rintro e w1 ⟨rfl, hb1⟩
  have o1 := o0.below hb1
  clear hb1 o0
  have a1 := o1.b
  go_wp2_with fail
  refine (HV2.out _ o1.B).mono ?_
  rintro e w2 ⟨rfl, hb2⟩
  have o2 := o1.below hb2
  clear hb2 o1 a1
  have a2 := o2.a
  have b2 := o2.b
  go_wp2_with (go_at_call 13; refine (in1_any _ _ _ _).mono ?_; rintro e w2' ⟨rfl, rfl⟩)
  refine (HO.out _ o2.B).mono ?_
  rintro e w3 ⟨rfl, hb3⟩
  have o3 := o2.below hb3
  clear hb3 o2 a2 b2
  have a3 := o3.a
  go_wp2_with fail
  refine (HK1.out _ o3.B).mono ?_
  rintro e w4 ⟨rfl, hb4⟩
  have o4 := o3.below hb4
  clear hb4 o3 a3
  have a4 := o4.a
  have b4 := o4.b
  go_wp2_with fail
  refine (HK2.out _ o4.B).mono ?_
  rintro e w5 ⟨rfl, hb5⟩
  have o5 := o4.below hb5
  clear hb5 o4 a4 b4
  have a5 := o5.a
  have b5 := o5.b
  go_wp2_with fail
  refine (HN.out _).mono ?_
  rintro e w6 ⟨rfl, hb6⟩
  have o6 := o5.below hb6
  have r6 := o6.r
  have f6 := o6.f
  have B6 := o6.B
  clear hb6 o6
  go_wp2
  refine bodyPost_ret (v := .tuple #[.agg #[.slice none 0 0], .string ⟨#[116, 121, 112, 101]⟩]) (by simp [results, Tryz.results5, go_sem, r6]) rfl ?_
  exact ⟨B6.setCell (p := ⟨w.heap.size + 1 + 1, 0, none⟩) (by show w.heap.size ≤ w.heap.size + 1 + 1; omega) _, .inl ⟨rfl, rfl⟩⟩

set_option maxRecDepth 100000 in
set_option maxHeartbeats 1000000 in
theorem specOp_kinds6 (t u : T) (g g' c c' m m' : Nat) (w : World) (hm : t.count = m + 1) (hm' : u.count = m' + 1) (h1 : m < 1000) (h2 : m' < 1000) (hc : m + 1 ≤ c) (hc' : m' + 1 ≤ c') (hg : t.good = true) (hg' : u.good = true) (ht : AtomsO w g 0 t.atoms) (ht' : AtomsO w g' 0 u.atoms) (hk : ¬ t.kind = u.kind) :
    Calls Tryz.prog 5 #[.int .i64 6, .agg #[.slice (some ⟨g, 0, none⟩) (m + 1) c], .agg #[.slice (some ⟨g', 0, none⟩) (m' + 1) c']] w (OPost w (([], wTy))) := by
  have HV1 : Hid (∀ w1, Below w.heap.size w w1 → Calls Tryz.prog 12 #[.agg #[.slice (some ⟨g, 0, none⟩) (m + 1) c]] w1 fun e w' => e = .returned (.bool true) ∧ Below w1.heap.size w1 w') := hide (fun w1 hb => by
    have h := specValid_any t.atoms g 0 c w1 (fun _ => rfl) (ht.below hb) (by show t.count ≤ c; omega) (by show t.count ≤ _; omega)
    rw [valid_of t hg (by omega)] at h
    rw [show t.atoms.length = m + 1 from hm] at h
    exact h)
  have HV2 : Hid (∀ w1, Below w.heap.size w w1 → Calls Tryz.prog 12 #[.agg #[.slice (some ⟨g', 0, none⟩) (m' + 1) c']] w1 fun e w' => e = .returned (.bool true) ∧ Below w1.heap.size w1 w') := hide (fun w1 hb => by
    have h := specValid_any u.atoms g' 0 c' w1 (fun _ => rfl) (ht'.below hb) (by show u.count ≤ c'; omega) (by show u.count ≤ _; omega)
    rw [valid_of u hg' (by omega)] at h
    rw [show u.atoms.length = m' + 1 from hm'] at h
    exact h)
  have HO := hide (fun w1 (hb : Below w.heap.size w w1) => order5_any (t.count + 1) t u g 0 c g' 0 c' m m' w1 (Nat.lt_succ_self _) hm hm' h1 h2 hc hc' (ht.below hb) (ht'.below hb))
  have HK1 := hide (fun w1 (hb : Below w.heap.size w w1) => kind6_any ⟨t.kind, t.num, t.text, t.ks.length⟩ t.atoms g 0 c m w1 hm (by omega) (atoms_last t m hm) (ht.below hb))
  have HK2 := hide (fun w1 (hb : Below w.heap.size w w1) => kind6_any ⟨u.kind, u.num, u.text, u.ks.length⟩ u.atoms g' 0 c' m' w1 hm' (by omega) (atoms_last u m' hm') (ht'.below hb))
  have HN := hide (no6_any ⟨#[116, 121, 112, 101]⟩)
  have hkb : (t.kind != u.kind) = true := by simpa using hk
  clear ht ht'
  generalize t.ord u = od at *
  have o0 := OB.start w (.slice (some ⟨g, 0, none⟩) (m + 1) c) (.slice (some ⟨g', 0, none⟩) (m' + 1) c')
  go_enter Tryz.func5, Tryz.ntmps5
  go_wp2_with fail
  refine (HV1.out _ o0.B).mono ?_
  rintro e w1 ⟨rfl, hb1⟩
  have o1 := o0.below hb1
  clear hb1 o0
  have a1 := o1.b
  go_wp2_with fail
  refine (HV2.out _ o1.B).mono ?_
  rintro e w2 ⟨rfl, hb2⟩
  have o2 := o1.below hb2
  clear hb2 o1 a1
  have a2 := o2.a
  have b2 := o2.b
  go_wp2_with (go_at_call 13; refine (in1_any _ _ _ _).mono ?_; rintro e w2' ⟨rfl, rfl⟩)
  refine (HO.out _ o2.B).mono ?_
  rintro e w3 ⟨rfl, hb3⟩
  have o3 := o2.below hb3
  clear hb3 o2 a2 b2
  have a3 := o3.a
  go_wp2_with fail
  refine (HK1.out _ o3.B).mono ?_
  rintro e w4 ⟨rfl, hb4⟩
  have o4 := o3.below hb4
  clear hb4 o3 a3
  have a4 := o4.a
  have b4 := o4.b
  go_wp2_with fail
  refine (HK2.out _ o4.B).mono ?_
  rintro e w5 ⟨rfl, hb5⟩
  have o5 := o4.below hb5
  clear hb5 o4 a4 b4
  have a5 := o5.a
  have b5 := o5.b
  go_wp2_with fail
  refine (HN.out _).mono ?_
  rintro e w6 ⟨rfl, hb6⟩
  have o6 := o5.below hb6
  have r6 := o6.r
  have f6 := o6.f
  have B6 := o6.B
  clear hb6 o6
  go_wp2
  refine bodyPost_ret (v := .tuple #[.agg #[.slice none 0 0], .string ⟨#[116, 121, 112, 101]⟩]) (by simp [results, Tryz.results5, go_sem, r6]) rfl ?_
  exact ⟨B6.setCell (p := ⟨w.heap.size + 1 + 1, 0, none⟩) (by show w.heap.size ≤ w.heap.size + 1 + 1; omega) _, .inl ⟨rfl, rfl⟩⟩

set_option maxRecDepth 100000 in
set_option maxHeartbeats 1000000 in
theorem specOp_kinds7 (t u : T) (g g' c c' m m' : Nat) (w : World) (hm : t.count = m + 1) (hm' : u.count = m' + 1) (h1 : m < 1000) (h2 : m' < 1000) (hc : m + 1 ≤ c) (hc' : m' + 1 ≤ c') (hg : t.good = true) (hg' : u.good = true) (ht : AtomsO w g 0 t.atoms) (ht' : AtomsO w g' 0 u.atoms) (hk : ¬ t.kind = u.kind) :
    Calls Tryz.prog 5 #[.int .i64 7, .agg #[.slice (some ⟨g, 0, none⟩) (m + 1) c], .agg #[.slice (some ⟨g', 0, none⟩) (m' + 1) c']] w (OPost w (([], wTy))) := by
  have HV1 : Hid (∀ w1, Below w.heap.size w w1 → Calls Tryz.prog 12 #[.agg #[.slice (some ⟨g, 0, none⟩) (m + 1) c]] w1 fun e w' => e = .returned (.bool true) ∧ Below w1.heap.size w1 w') := hide (fun w1 hb => by
    have h := specValid_any t.atoms g 0 c w1 (fun _ => rfl) (ht.below hb) (by show t.count ≤ c; omega) (by show t.count ≤ _; omega)
    rw [valid_of t hg (by omega)] at h
    rw [show t.atoms.length = m + 1 from hm] at h
    exact h)
  have HV2 : Hid (∀ w1, Below w.heap.size w w1 → Calls Tryz.prog 12 #[.agg #[.slice (some ⟨g', 0, none⟩) (m' + 1) c']] w1 fun e w' => e = .returned (.bool true) ∧ Below w1.heap.size w1 w') := hide (fun w1 hb => by
    have h := specValid_any u.atoms g' 0 c' w1 (fun _ => rfl) (ht'.below hb) (by show u.count ≤ c'; omega) (by show u.count ≤ _; omega)
    rw [valid_of u hg' (by omega)] at h
    rw [show u.atoms.length = m' + 1 from hm'] at h
    exact h)
  have HO := hide (fun w1 (hb : Below w.heap.size w w1) => order5_any (t.count + 1) t u g 0 c g' 0 c' m m' w1 (Nat.lt_succ_self _) hm hm' h1 h2 hc hc' (ht.below hb) (ht'.below hb))
  have HK1 := hide (fun w1 (hb : Below w.heap.size w w1) => kind6_any ⟨t.kind, t.num, t.text, t.ks.length⟩ t.atoms g 0 c m w1 hm (by omega) (atoms_last t m hm) (ht.below hb))
  have HK2 := hide (fun w1 (hb : Below w.heap.size w w1) => kind6_any ⟨u.kind, u.num, u.text, u.ks.length⟩ u.atoms g' 0 c' m' w1 hm' (by omega) (atoms_last u m' hm') (ht'.below hb))
  have HN := hide (no6_any ⟨#[116, 121, 112, 101]⟩)
  have hkb : (t.kind != u.kind) = true := by simpa using hk
  clear ht ht'
  generalize t.ord u = od at *
  have o0 := OB.start w (.slice (some ⟨g, 0, none⟩) (m + 1) c) (.slice (some ⟨g', 0, none⟩) (m' + 1) c')
  go_enter Tryz.func5, Tryz.ntmps5
  go_wp2_with fail
  refine (HV1.out _ o0.B).mono ?_
  rintro e w1 ⟨rfl, hb1⟩
  have o1 := o0.below hb1
  clear hb1 o0
  have a1 := o1.b
  go_wp2_with fail
  refine (HV2.out _ o1.B).mono ?_
  rintro e w2 ⟨rfl, hb2⟩
  have o2 := o1.below hb2
  clear hb2 o1 a1
  have a2 := o2.a
  have b2 := o2.b
  go_wp2_with (go_at_call 13; refine (in1_any _ _ _ _).mono ?_; rintro e w2' ⟨rfl, rfl⟩)
  refine (HO.out _ o2.B).mono ?_
  rintro e w3 ⟨rfl, hb3⟩
  have o3 := o2.below hb3
  clear hb3 o2 a2 b2
  have a3 := o3.a
  go_wp2_with fail
  refine (HK1.out _ o3.B).mono ?_
  rintro e w4 ⟨rfl, hb4⟩
  have o4 := o3.below hb4
  clear hb4 o3 a3
  have a4 := o4.a
  have b4 := o4.b
  go_wp2_with fail
  refine (HK2.out _ o4.B).mono ?_
  rintro e w5 ⟨rfl, hb5⟩
  have o5 := o4.below hb5
  clear hb5 o4 a4 b4
  have a5 := o5.a
  have b5 := o5.b
  go_wp2_with fail
  refine (HN.out _).mono ?_
  rintro e w6 ⟨rfl, hb6⟩
  have o6 := o5.below hb6
  have r6 := o6.r
  have f6 := o6.f
  have B6 := o6.B
  clear hb6 o6
  go_wp2
  refine bodyPost_ret (v := .tuple #[.agg #[.slice none 0 0], .string ⟨#[116, 121, 112, 101]⟩]) (by simp [results, Tryz.results5, go_sem, r6]) rfl ?_
  exact ⟨B6.setCell (p := ⟨w.heap.size + 1 + 1, 0, none⟩) (by show w.heap.size ≤ w.heap.size + 1 + 1; omega) _, .inl ⟨rfl, rfl⟩⟩

set_option maxRecDepth 100000 in
set_option maxHeartbeats 1000000 in
theorem specOp_kinds8 (t u : T) (g g' c c' m m' : Nat) (w : World) (hm : t.count = m + 1) (hm' : u.count = m' + 1) (h1 : m < 1000) (h2 : m' < 1000) (hc : m + 1 ≤ c) (hc' : m' + 1 ≤ c') (hg : t.good = true) (hg' : u.good = true) (ht : AtomsO w g 0 t.atoms) (ht' : AtomsO w g' 0 u.atoms) (hk : ¬ t.kind = u.kind) :
    Calls Tryz.prog 5 #[.int .i64 8, .agg #[.slice (some ⟨g, 0, none⟩) (m + 1) c], .agg #[.slice (some ⟨g', 0, none⟩) (m' + 1) c']] w (OPost w (([], wTy))) := by
  have HV1 : Hid (∀ w1, Below w.heap.size w w1 → Calls Tryz.prog 12 #[.agg #[.slice (some ⟨g, 0, none⟩) (m + 1) c]] w1 fun e w' => e = .returned (.bool true) ∧ Below w1.heap.size w1 w') := hide (fun w1 hb => by
    have h := specValid_any t.atoms g 0 c w1 (fun _ => rfl) (ht.below hb) (by show t.count ≤ c; omega) (by show t.count ≤ _; omega)
    rw [valid_of t hg (by omega)] at h
    rw [show t.atoms.length = m + 1 from hm] at h
    exact h)
  have HV2 : Hid (∀ w1, Below w.heap.size w w1 → Calls Tryz.prog 12 #[.agg #[.slice (some ⟨g', 0, none⟩) (m' + 1) c']] w1 fun e w' => e = .returned (.bool true) ∧ Below w1.heap.size w1 w') := hide (fun w1 hb => by
    have h := specValid_any u.atoms g' 0 c' w1 (fun _ => rfl) (ht'.below hb) (by show u.count ≤ c'; omega) (by show u.count ≤ _; omega)
    rw [valid_of u hg' (by omega)] at h
    rw [show u.atoms.length = m' + 1 from hm'] at h
    exact h)
  have HO := hide (fun w1 (hb : Below w.heap.size w w1) => order5_any (t.count + 1) t u g 0 c g' 0 c' m m' w1 (Nat.lt_succ_self _) hm hm' h1 h2 hc hc' (ht.below hb) (ht'.below hb))
  have HK1 := hide (fun w1 (hb : Below w.heap.size w w1) => kind6_any ⟨t.kind, t.num, t.text, t.ks.length⟩ t.atoms g 0 c m w1 hm (by omega) (atoms_last t m hm) (ht.below hb))
  have HK2 := hide (fun w1 (hb : Below w.heap.size w w1) => kind6_any ⟨u.kind, u.num, u.text, u.ks.length⟩ u.atoms g' 0 c' m' w1 hm' (by omega) (atoms_last u m' hm') (ht'.below hb))
  have HN := hide (no6_any ⟨#[116, 121, 112, 101]⟩)
  have hkb : (t.kind != u.kind) = true := by simpa using hk
  clear ht ht'
  generalize t.ord u = od at *
  have o0 := OB.start w (.slice (some ⟨g, 0, none⟩) (m + 1) c) (.slice (some ⟨g', 0, none⟩) (m' + 1) c')
  go_enter Tryz.func5, Tryz.ntmps5
  go_wp2_with fail
  refine (HV1.out _ o0.B).mono ?_
  rintro e w1 ⟨rfl, hb1⟩
  have o1 := o0.below hb1
  clear hb1 o0
  have a1 := o1.b
  go_wp2_with fail
  refine (HV2.out _ o1.B).mono ?_
  rintro e w2 ⟨rfl, hb2⟩
  have o2 := o1.below hb2
  clear hb2 o1 a1
  have a2 := o2.a
  have b2 := o2.b
  go_wp2_with (go_at_call 13; refine (in1_any _ _ _ _).mono ?_; rintro e w2' ⟨rfl, rfl⟩)
  refine (HO.out _ o2.B).mono ?_
  rintro e w3 ⟨rfl, hb3⟩
  have o3 := o2.below hb3
  clear hb3 o2 a2 b2
  have a3 := o3.a
  go_wp2_with fail
  refine (HK1.out _ o3.B).mono ?_
  rintro e w4 ⟨rfl, hb4⟩
  have o4 := o3.below hb4
  clear hb4 o3 a3
  have a4 := o4.a
  have b4 := o4.b
  go_wp2_with fail
  refine (HK2.out _ o4.B).mono ?_
  rintro e w5 ⟨rfl, hb5⟩
  have o5 := o4.below hb5
  clear hb5 o4 a4 b4
  have a5 := o5.a
  have b5 := o5.b
  go_wp2_with fail
  refine (HN.out _).mono ?_
  rintro e w6 ⟨rfl, hb6⟩
  have o6 := o5.below hb6
  have r6 := o6.r
  have f6 := o6.f
  have B6 := o6.B
  clear hb6 o6
  go_wp2
  refine bodyPost_ret (v := .tuple #[.agg #[.slice none 0 0], .string ⟨#[116, 121, 112, 101]⟩]) (by simp [results, Tryz.results5, go_sem, r6]) rfl ?_
  exact ⟨B6.setCell (p := ⟨w.heap.size + 1 + 1, 0, none⟩) (by show w.heap.size ≤ w.heap.size + 1 + 1; omega) _, .inl ⟨rfl, rfl⟩⟩

set_option maxRecDepth 100000 in
set_option maxHeartbeats 1000000 in
theorem specOp_kinds11 (t u : T) (g g' c c' m m' : Nat) (w : World) (hm : t.count = m + 1) (hm' : u.count = m' + 1) (h1 : m < 1000) (h2 : m' < 1000) (hc : m + 1 ≤ c) (hc' : m' + 1 ≤ c') (hg : t.good = true) (hg' : u.good = true) (ht : AtomsO w g 0 t.atoms) (ht' : AtomsO w g' 0 u.atoms) (hk : ¬ t.kind = u.kind) :
    Calls Tryz.prog 5 #[.int .i64 11, .agg #[.slice (some ⟨g, 0, none⟩) (m + 1) c], .agg #[.slice (some ⟨g', 0, none⟩) (m' + 1) c']] w (OPost w (([], wTy))) := by
  have HV1 : Hid (∀ w1, Below w.heap.size w w1 → Calls Tryz.prog 12 #[.agg #[.slice (some ⟨g, 0, none⟩) (m + 1) c]] w1 fun e w' => e = .returned (.bool true) ∧ Below w1.heap.size w1 w') := hide (fun w1 hb => by
    have h := specValid_any t.atoms g 0 c w1 (fun _ => rfl) (ht.below hb) (by show t.count ≤ c; omega) (by show t.count ≤ _; omega)
    rw [valid_of t hg (by omega)] at h
    rw [show t.atoms.length = m + 1 from hm] at h
    exact h)
  have HV2 : Hid (∀ w1, Below w.heap.size w w1 → Calls Tryz.prog 12 #[.agg #[.slice (some ⟨g', 0, none⟩) (m' + 1) c']] w1 fun e w' => e = .returned (.bool true) ∧ Below w1.heap.size w1 w') := hide (fun w1 hb => by
    have h := specValid_any u.atoms g' 0 c' w1 (fun _ => rfl) (ht'.below hb) (by show u.count ≤ c'; omega) (by show u.count ≤ _; omega)
    rw [valid_of u hg' (by omega)] at h
    rw [show u.atoms.length = m' + 1 from hm'] at h
    exact h)
  have HO := hide (fun w1 (hb : Below w.heap.size w w1) => order5_any (t.count + 1) t u g 0 c g' 0 c' m m' w1 (Nat.lt_succ_self _) hm hm' h1 h2 hc hc' (ht.below hb) (ht'.below hb))
  have HK1 := hide (fun w1 (hb : Below w.heap.size w w1) => kind6_any ⟨t.kind, t.num, t.text, t.ks.length⟩ t.atoms g 0 c m w1 hm (by omega) (atoms_last t m hm) (ht.below hb))
  have HK2 := hide (fun w1 (hb : Below w.heap.size w w1) => kind6_any ⟨u.kind, u.num, u.text, u.ks.length⟩ u.atoms g' 0 c' m' w1 hm' (by omega) (atoms_last u m' hm') (ht'.below hb))
  have HN := hide (no6_any ⟨#[116, 121, 112, 101]⟩)
  have hkb : (t.kind != u.kind) = true := by simpa using hk
  clear ht ht'
  generalize t.ord u = od at *
  have o0 := OB.start w (.slice (some ⟨g, 0, none⟩) (m + 1) c) (.slice (some ⟨g', 0, none⟩) (m' + 1) c')
  go_enter Tryz.func5, Tryz.ntmps5
  go_wp2_with fail
  refine (HV1.out _ o0.B).mono ?_
  rintro e w1 ⟨rfl, hb1⟩
  have o1 := o0.below hb1
  clear hb1 o0
  have a1 := o1.b
  go_wp2_with fail
  refine (HV2.out _ o1.B).mono ?_
  rintro e w2 ⟨rfl, hb2⟩
  have o2 := o1.below hb2
  clear hb2 o1 a1
  have a2 := o2.a
  have b2 := o2.b
  go_wp2_with (go_at_call 13; refine (in1_any _ _ _ _).mono ?_; rintro e w2' ⟨rfl, rfl⟩)
  refine (HO.out _ o2.B).mono ?_
  rintro e w3 ⟨rfl, hb3⟩
  have o3 := o2.below hb3
  clear hb3 o2 a2 b2
  have a3 := o3.a
  go_wp2_with fail
  refine (HK1.out _ o3.B).mono ?_
  rintro e w4 ⟨rfl, hb4⟩
  have o4 := o3.below hb4
  clear hb4 o3 a3
  have a4 := o4.a
  have b4 := o4.b
  go_wp2_with fail
  refine (HK2.out _ o4.B).mono ?_
  rintro e w5 ⟨rfl, hb5⟩
  have o5 := o4.below hb5
  clear hb5 o4 a4 b4
  have a5 := o5.a
  have b5 := o5.b
  go_wp2_with fail
  refine (HN.out _).mono ?_
  rintro e w6 ⟨rfl, hb6⟩
  have o6 := o5.below hb6
  have r6 := o6.r
  have f6 := o6.f
  have B6 := o6.B
  clear hb6 o6
  go_wp2
  refine bodyPost_ret (v := .tuple #[.agg #[.slice none 0 0], .string ⟨#[116, 121, 112, 101]⟩]) (by simp [results, Tryz.results5, go_sem, r6]) rfl ?_
  exact ⟨B6.setCell (p := ⟨w.heap.size + 1 + 1, 0, none⟩) (by show w.heap.size ≤ w.heap.size + 1 + 1; omega) _, .inl ⟨rfl, rfl⟩⟩

set_option maxRecDepth 100000 in
set_option maxHeartbeats 1000000 in
theorem specOp_kinds12 (t u : T) (g g' c c' m m' : Nat) (w : World) (hm : t.count = m + 1) (hm' : u.count = m' + 1) (h1 : m < 1000) (h2 : m' < 1000) (hc : m + 1 ≤ c) (hc' : m' + 1 ≤ c') (hg : t.good = true) (hg' : u.good = true) (ht : AtomsO w g 0 t.atoms) (ht' : AtomsO w g' 0 u.atoms) (hk : ¬ t.kind = u.kind) :
    Calls Tryz.prog 5 #[.int .i64 12, .agg #[.slice (some ⟨g, 0, none⟩) (m + 1) c], .agg #[.slice (some ⟨g', 0, none⟩) (m' + 1) c']] w (OPost w (([], wTy))) := by
  have HV1 : Hid (∀ w1, Below w.heap.size w w1 → Calls Tryz.prog 12 #[.agg #[.slice (some ⟨g, 0, none⟩) (m + 1) c]] w1 fun e w' => e = .returned (.bool true) ∧ Below w1.heap.size w1 w') := hide (fun w1 hb => by
    have h := specValid_any t.atoms g 0 c w1 (fun _ => rfl) (ht.below hb) (by show t.count ≤ c; omega) (by show t.count ≤ _; omega)
    rw [valid_of t hg (by omega)] at h
    rw [show t.atoms.length = m + 1 from hm] at h
    exact h)
  have HV2 : Hid (∀ w1, Below w.heap.size w w1 → Calls Tryz.prog 12 #[.agg #[.slice (some ⟨g', 0, none⟩) (m' + 1) c']] w1 fun e w' => e = .returned (.bool true) ∧ Below w1.heap.size w1 w') := hide (fun w1 hb => by
    have h := specValid_any u.atoms g' 0 c' w1 (fun _ => rfl) (ht'.below hb) (by show u.count ≤ c'; omega) (by show u.count ≤ _; omega)
    rw [valid_of u hg' (by omega)] at h
    rw [show u.atoms.length = m' + 1 from hm'] at h
    exact h)
  have HO := hide (fun w1 (hb : Below w.heap.size w w1) => order5_any (t.count + 1) t u g 0 c g' 0 c' m m' w1 (Nat.lt_succ_self _) hm hm' h1 h2 hc hc' (ht.below hb) (ht'.below hb))
  have HK1 := hide (fun w1 (hb : Below w.heap.size w w1) => kind6_any ⟨t.kind, t.num, t.text, t.ks.length⟩ t.atoms g 0 c m w1 hm (by omega) (atoms_last t m hm) (ht.below hb))
  have HK2 := hide (fun w1 (hb : Below w.heap.size w w1) => kind6_any ⟨u.kind, u.num, u.text, u.ks.length⟩ u.atoms g' 0 c' m' w1 hm' (by omega) (atoms_last u m' hm') (ht'.below hb))
  have HN := hide (no6_any ⟨#[116, 121, 112, 101]⟩)
  have hkb : (t.kind != u.kind) = true := by simpa using hk
  clear ht ht'
  generalize t.ord u = od at *
  have o0 := OB.start w (.slice (some ⟨g, 0, none⟩) (m + 1) c) (.slice (some ⟨g', 0, none⟩) (m' + 1) c')
  go_enter Tryz.func5, Tryz.ntmps5
  go_wp2_with fail
  refine (HV1.out _ o0.B).mono ?_
  rintro e w1 ⟨rfl, hb1⟩
  have o1 := o0.below hb1
  clear hb1 o0
  have a1 := o1.b
  go_wp2_with fail
  refine (HV2.out _ o1.B).mono ?_
  rintro e w2 ⟨rfl, hb2⟩
  have o2 := o1.below hb2
  clear hb2 o1 a1
  have a2 := o2.a
  have b2 := o2.b
  go_wp2_with (go_at_call 13; refine (in1_any _ _ _ _).mono ?_; rintro e w2' ⟨rfl, rfl⟩)
  refine (HO.out _ o2.B).mono ?_
  rintro e w3 ⟨rfl, hb3⟩
  have o3 := o2.below hb3
  clear hb3 o2 a2 b2
  have a3 := o3.a
  go_wp2_with fail
  refine (HK1.out _ o3.B).mono ?_
  rintro e w4 ⟨rfl, hb4⟩
  have o4 := o3.below hb4
  clear hb4 o3 a3
  have a4 := o4.a
  have b4 := o4.b
  go_wp2_with fail
  refine (HK2.out _ o4.B).mono ?_
  rintro e w5 ⟨rfl, hb5⟩
  have o5 := o4.below hb5
  clear hb5 o4 a4 b4
  have a5 := o5.a
  have b5 := o5.b
  go_wp2_with fail
  refine (HN.out _).mono ?_
  rintro e w6 ⟨rfl, hb6⟩
  have o6 := o5.below hb6
  have r6 := o6.r
  have f6 := o6.f
  have B6 := o6.B
  clear hb6 o6
  go_wp2
  refine bodyPost_ret (v := .tuple #[.agg #[.slice none 0 0], .string ⟨#[116, 121, 112, 101]⟩]) (by simp [results, Tryz.results5, go_sem, r6]) rfl ?_
  exact ⟨B6.setCell (p := ⟨w.heap.size + 1 + 1, 0, none⟩) (by show w.heap.size ≤ w.heap.size + 1 + 1; omega) _, .inl ⟨rfl, rfl⟩⟩

set_option maxRecDepth 100000 in
set_option maxHeartbeats 1000000 in
theorem specOp_kinds13 (t u : T) (g g' c c' m m' : Nat) (w : World) (hm : t.count = m + 1) (hm' : u.count = m' + 1) (h1 : m < 1000) (h2 : m' < 1000) (hc : m + 1 ≤ c) (hc' : m' + 1 ≤ c') (hg : t.good = true) (hg' : u.good = true) (ht : AtomsO w g 0 t.atoms) (ht' : AtomsO w g' 0 u.atoms) (hk : ¬ t.kind = u.kind) :
    Calls Tryz.prog 5 #[.int .i64 13, .agg #[.slice (some ⟨g, 0, none⟩) (m + 1) c], .agg #[.slice (some ⟨g', 0, none⟩) (m' + 1) c']] w (OPost w (([], wTy))) := by
  have HV1 : Hid (∀ w1, Below w.heap.size w w1 → Calls Tryz.prog 12 #[.agg #[.slice (some ⟨g, 0, none⟩) (m + 1) c]] w1 fun e w' => e = .returned (.bool true) ∧ Below w1.heap.size w1 w') := hide (fun w1 hb => by
    have h := specValid_any t.atoms g 0 c w1 (fun _ => rfl) (ht.below hb) (by show t.count ≤ c; omega) (by show t.count ≤ _; omega)
    rw [valid_of t hg (by omega)] at h
    rw [show t.atoms.length = m + 1 from hm] at h
    exact h)
  have HV2 : Hid (∀ w1, Below w.heap.size w w1 → Calls Tryz.prog 12 #[.agg #[.slice (some ⟨g', 0, none⟩) (m' + 1) c']] w1 fun e w' => e = .returned (.bool true) ∧ Below w1.heap.size w1 w') := hide (fun w1 hb => by
    have h := specValid_any u.atoms g' 0 c' w1 (fun _ => rfl) (ht'.below hb) (by show u.count ≤ c'; omega) (by show u.count ≤ _; omega)
    rw [valid_of u hg' (by omega)] at h
    rw [show u.atoms.length = m' + 1 from hm'] at h
    exact h)
  have HO := hide (fun w1 (hb : Below w.heap.size w w1) => order5_any (t.count + 1) t u g 0 c g' 0 c' m m' w1 (Nat.lt_succ_self _) hm hm' h1 h2 hc hc' (ht.below hb) (ht'.below hb))
  have HK1 := hide (fun w1 (hb : Below w.heap.size w w1) => kind6_any ⟨t.kind, t.num, t.text, t.ks.length⟩ t.atoms g 0 c m w1 hm (by omega) (atoms_last t m hm) (ht.below hb))
  have HK2 := hide (fun w1 (hb : Below w.heap.size w w1) => kind6_any ⟨u.kind, u.num, u.text, u.ks.length⟩ u.atoms g' 0 c' m' w1 hm' (by omega) (atoms_last u m' hm') (ht'.below hb))
  have HN := hide (no6_any ⟨#[116, 121, 112, 101]⟩)
  have hkb : (t.kind != u.kind) = true := by simpa using hk
  clear ht ht'
  generalize t.ord u = od at *
  have o0 := OB.start w (.slice (some ⟨g, 0, none⟩) (m + 1) c) (.slice (some ⟨g', 0, none⟩) (m' + 1) c')
  go_enter Tryz.func5, Tryz.ntmps5
  go_wp2_with fail
  refine (HV1.out _ o0.B).mono ?_
  rintro e w1 ⟨rfl, hb1⟩
  have o1 := o0.below hb1
  clear hb1 o0
  have a1 := o1.b
  go_wp2_with fail
  refine (HV2.out _ o1.B).mono ?_
  rintro e w2 ⟨rfl, hb2⟩
  have o2 := o1.below hb2
  clear hb2 o1 a1
  have a2 := o2.a
  have b2 := o2.b
  go_wp2_with (go_at_call 13; refine (in1_any _ _ _ _).mono ?_; rintro e w2' ⟨rfl, rfl⟩)
  refine (HO.out _ o2.B).mono ?_
  rintro e w3 ⟨rfl, hb3⟩
  have o3 := o2.below hb3
  clear hb3 o2 a2 b2
  have a3 := o3.a
  go_wp2_with fail
  refine (HK1.out _ o3.B).mono ?_
  rintro e w4 ⟨rfl, hb4⟩
  have o4 := o3.below hb4
  clear hb4 o3 a3
  have a4 := o4.a
  have b4 := o4.b
  go_wp2_with fail
  refine (HK2.out _ o4.B).mono ?_
  rintro e w5 ⟨rfl, hb5⟩
  have o5 := o4.below hb5
  clear hb5 o4 a4 b4
  have a5 := o5.a
  have b5 := o5.b
  go_wp2_with fail
  refine (HN.out _).mono ?_
  rintro e w6 ⟨rfl, hb6⟩
  have o6 := o5.below hb6
  have r6 := o6.r
  have f6 := o6.f
  have B6 := o6.B
  clear hb6 o6
  go_wp2
  refine bodyPost_ret (v := .tuple #[.agg #[.slice none 0 0], .string ⟨#[116, 121, 112, 101]⟩]) (by simp [results, Tryz.results5, go_sem, r6]) rfl ?_
  exact ⟨B6.setCell (p := ⟨w.heap.size + 1 + 1, 0, none⟩) (by show w.heap.size ≤ w.heap.size + 1 + 1; omega) _, .inl ⟨rfl, rfl⟩⟩

set_option maxRecDepth 100000 in
set_option maxHeartbeats 1000000 in
theorem specOp_kinds14 (t u : T) (g g' c c' m m' : Nat) (w : World) (hm : t.count = m + 1) (hm' : u.count = m' + 1) (h1 : m < 1000) (h2 : m' < 1000) (hc : m + 1 ≤ c) (hc' : m' + 1 ≤ c') (hg : t.good = true) (hg' : u.good = true) (ht : AtomsO w g 0 t.atoms) (ht' : AtomsO w g' 0 u.atoms) (hk : ¬ t.kind = u.kind) :
    Calls Tryz.prog 5 #[.int .i64 14, .agg #[.slice (some ⟨g, 0, none⟩) (m + 1) c], .agg #[.slice (some ⟨g', 0, none⟩) (m' + 1) c']] w (OPost w (([], wTy))) := by
  have HV1 : Hid (∀ w1, Below w.heap.size w w1 → Calls Tryz.prog 12 #[.agg #[.slice (some ⟨g, 0, none⟩) (m + 1) c]] w1 fun e w' => e = .returned (.bool true) ∧ Below w1.heap.size w1 w') := hide (fun w1 hb => by
    have h := specValid_any t.atoms g 0 c w1 (fun _ => rfl) (ht.below hb) (by show t.count ≤ c; omega) (by show t.count ≤ _; omega)
    rw [valid_of t hg (by omega)] at h
    rw [show t.atoms.length = m + 1 from hm] at h
    exact h)
  have HV2 : Hid (∀ w1, Below w.heap.size w w1 → Calls Tryz.prog 12 #[.agg #[.slice (some ⟨g', 0, none⟩) (m' + 1) c']] w1 fun e w' => e = .returned (.bool true) ∧ Below w1.heap.size w1 w') := hide (fun w1 hb => by
    have h := specValid_any u.atoms g' 0 c' w1 (fun _ => rfl) (ht'.below hb) (by show u.count ≤ c'; omega) (by show u.count ≤ _; omega)
    rw [valid_of u hg' (by omega)] at h
    rw [show u.atoms.length = m' + 1 from hm'] at h
    exact h)
  have HO := hide (fun w1 (hb : Below w.heap.size w w1) => order5_any (t.count + 1) t u g 0 c g' 0 c' m m' w1 (Nat.lt_succ_self _) hm hm' h1 h2 hc hc' (ht.below hb) (ht'.below hb))
  have HK1 := hide (fun w1 (hb : Below w.heap.size w w1) => kind6_any ⟨t.kind, t.num, t.text, t.ks.length⟩ t.atoms g 0 c m w1 hm (by omega) (atoms_last t m hm) (ht.below hb))
  have HK2 := hide (fun w1 (hb : Below w.heap.size w w1) => kind6_any ⟨u.kind, u.num, u.text, u.ks.length⟩ u.atoms g' 0 c' m' w1 hm' (by omega) (atoms_last u m' hm') (ht'.below hb))
  have HN := hide (no6_any ⟨#[116, 121, 112, 101]⟩)
  have hkb : (t.kind != u.kind) = true := by simpa using hk
  clear ht ht'
  generalize t.ord u = od at *
  have o0 := OB.start w (.slice (some ⟨g, 0, none⟩) (m + 1) c) (.slice (some ⟨g', 0, none⟩) (m' + 1) c')
  go_enter Tryz.func5, Tryz.ntmps5
  go_wp2_with fail
  refine (HV1.out _ o0.B).mono ?_
  rintro e w1 ⟨rfl, hb1⟩
  have o1 := o0.below hb1
  clear hb1 o0
  have a1 := o1.b
  go_wp2_with fail
  refine (HV2.out _ o1.B).mono ?_
  rintro e w2 ⟨rfl, hb2⟩
  have o2 := o1.below hb2
  clear hb2 o1 a1
  have a2 := o2.a
  have b2 := o2.b
  go_wp2_with (go_at_call 13; refine (in1_any _ _ _ _).mono ?_; rintro e w2' ⟨rfl, rfl⟩)
  refine (HO.out _ o2.B).mono ?_
  rintro e w3 ⟨rfl, hb3⟩
  have o3 := o2.below hb3
  clear hb3 o2 a2 b2
  have a3 := o3.a
  go_wp2_with fail
  refine (HK1.out _ o3.B).mono ?_
  rintro e w4 ⟨rfl, hb4⟩
  have o4 := o3.below hb4
  clear hb4 o3 a3
  have a4 := o4.a
  have b4 := o4.b
  go_wp2_with fail
  refine (HK2.out _ o4.B).mono ?_
  rintro e w5 ⟨rfl, hb5⟩
  have o5 := o4.below hb5
  clear hb5 o4 a4 b4
  have a5 := o5.a
  have b5 := o5.b
  go_wp2_with fail
  refine (HN.out _).mono ?_
  rintro e w6 ⟨rfl, hb6⟩
  have o6 := o5.below hb6
  have r6 := o6.r
  have f6 := o6.f
  have B6 := o6.B
  clear hb6 o6
  go_wp2
  refine bodyPost_ret (v := .tuple #[.agg #[.slice none 0 0], .string ⟨#[116, 121, 112, 101]⟩]) (by simp [results, Tryz.results5, go_sem, r6]) rfl ?_
  exact ⟨B6.setCell (p := ⟨w.heap.size + 1 + 1, 0, none⟩) (by show w.heap.size ≤ w.heap.size + 1 + 1; omega) _, .inl ⟨rfl, rfl⟩⟩
end Go.Proofs.YtnkfbjcgkdblgaaGreat.Vl
