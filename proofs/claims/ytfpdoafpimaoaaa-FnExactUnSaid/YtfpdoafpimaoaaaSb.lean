/- Walks: Un, on the specification's side. -/
import Derived.Test.YtfpdoafpimaoaaaSa
namespace Go.Proofs.Ytfpdoafpimaoaaa.Vl
open Go.RowKit T.atoms T.ok T.high T.good T.allPlain

/-- What Un answers: atoms and a word. -/
def unOut (op : Int) (a : At) : List At × List UInt8 := if op = 1 ∧ a.kind = 2 then ([⟨2, if decide (a.n = 0) then 1 else 0, ⟨#[]⟩, 0⟩], []) else if op = 2 ∧ a.kind = 3 then (if a.n = -9223372036854775808 then ([], wRange) else ([⟨3, -a.n, ⟨#[]⟩, 0⟩], [])) else ([], wType)
def unRes (op : Int) (l : List At) : List At × List UInt8 := if valid l = true then match l.getLast? with
  | some a => unOut op a
  | none => ([], wType) else ([], wType)
/-- No atoms, or one in a block of one's own. -/
def AVal (w : World) (B : Nat) (v : Value) (r : List At) : Prop := (v = .slice none 0 0 ∧ r = []) ∨ ∃ g, B ≤ g ∧ v = .slice (some ⟨g, 0, none⟩) 1 1 ∧ r.length = 1 ∧ AtomsO w g 0 r
def UPost (w : World) (r : List At × List UInt8) (e : Ending) (w' : World) : Prop := ∃ v, e = .returned (.tuple #[.agg #[v], .string (txt r.2)]) ∧ AVal w' w.heap.size v r.1 ∧ Below w.heap.size w w'
theorem upost_no {w w' : World} {r : List At × List UInt8} {s : List UInt8} (h : r = ([], s)) (hb : Below w.heap.size w w') : UPost w r (.returned (.tuple #[.agg #[.slice none 0 0], .string (txt s)])) w' := by
  subst h; exact ⟨_, rfl, .inl ⟨rfl, rfl⟩, hb⟩
theorem upost_one {w w' : World} {r : List At × List UInt8} {a : At} {g : Nat} (h : r = ([a], [])) (hg : w.heap.size ≤ g) (ha : AtomsO w' g 0 [a]) (hb : Below w.heap.size w w') : UPost w r (.returned (.tuple #[.agg #[.slice (some ⟨g, 0, none⟩) 1 1], .string ⟨#[]⟩])) w' := by
  subst h; exact ⟨_, rfl, .inr ⟨g, hg, rfl, rfl, ha⟩, hb⟩

/-- Un's own boxes, in a later world. -/
structure UB (w : World) (va : Value) (W : World) : Prop where
  B : Below w.heap.size w W
  c : W.cell? ⟨w.heap.size, 0, none⟩ = some va
  r : W.cell? ⟨w.heap.size + 1, 0, none⟩ = some (.slice none 0 0)
  f : W.frozen? ⟨w.heap.size + 1, 0, none⟩ = false
  z : w.heap.size + 1 < W.heap.size
theorem fld1 (k n q : Int) (s : ByteArray) (w : World) : (Instr.field 55 (.agg #[.int .i64 k, .int .i64 n, .string s, .int .i64 q]) 1).run Try.prog w = .ok (.int .i64 n) w := by kernel_rfl
theorem UB.start (w : World) (va : Value) : UB w va ((w.alloc (.cells #[va] 25)).alloc (.cells #[.slice none 0 0] 25)) := by
  have n2 := cell_new (w.alloc (.cells #[va] 25)) (.slice none 0 0) 25
  have n1 := cell_new w va 25
  have b2 : Below (w.alloc (.cells #[va] 25)).heap.size (w.alloc (.cells #[va] 25)) ((w.alloc (.cells #[va] 25)).alloc (.cells #[.slice none 0 0] 25)) := (Below.refl _ _).alloc (Nat.le_refl _) _
  simp only [World.size_alloc] at n2
  exact ⟨((Below.refl _ _).alloc (Nat.le_refl _) _).alloc (by simp) _, (b2.cell (p := ⟨w.heap.size, 0, none⟩) (by simp)).trans n1.1, n2.1, n2.2, by simp⟩
theorem UB.below {w W W' : World} {va : Value} (h : UB w va W) (hb : Below W.heap.size W W') : UB w va W' :=
  ⟨h.B.trans (hb.mono h.B.size), (hb.cell (p := ⟨w.heap.size, 0, none⟩) (by have := h.z; show w.heap.size < _; omega)).trans h.c, (hb.cell (p := ⟨w.heap.size + 1, 0, none⟩) h.z).trans h.r, (hb.frozen (p := ⟨w.heap.size + 1, 0, none⟩) h.z).trans h.f, Nat.lt_of_lt_of_le h.z hb.size⟩
theorem UB.set {w W : World} {va : Value} (h : UB w va W) (v : Value) : Below w.heap.size w (W.setCell ⟨w.heap.size + 1, 0, none⟩ v) := h.B.setCell (p := ⟨w.heap.size + 1, 0, none⟩) (by simp) _

set_option maxRecDepth 100000 in
set_option maxHeartbeats 1000000 in
theorem specUn_bad (op : Int) (l : List At) (g c n : Nat) (w : World) (hn : l.length = n) (hv : valid l = false) (ht : AtomsO w g 0 l) (hc : l.length ≤ c) (hl : l.length ≤ 1048576) :
    Calls Try.prog 16 #[.int .i64 op, .agg #[.slice (some ⟨g, 0, none⟩) n c]] w fun e w' => UPost w (unRes op l) e w' := by
  have HR : Hid (unRes op l = ([], wType)) := hide (by unfold unRes; rw [hv]; rfl)
  have HV := hide (fun w' (hb : Below w.heap.size w w') => specValid_any l g 0 c w' (fun _ => rfl) (ht.below hb) hc hl)
  rw [hn, hv] at HV
  clear hv ht hc hl hn
  have u0 := UB.start w (.slice (some ⟨g, 0, none⟩) n c)
  go_enter Try.func16, Try.ntmps16
  go_wp2_with fail
  refine (HV.out _ u0.B).mono ?_
  rintro e w1 ⟨rfl, hb1⟩
  have u1 := u0.below hb1
  have c1 := u1.c
  clear hb1
  go_wp2_with fail
  refine (HV.out _ u1.B).mono ?_
  rintro e w2 ⟨rfl, hb2⟩
  have u2 := u1.below hb2
  have c2 := u2.c
  clear hb2
  go_wp2_with fail
  refine (no6_any _ _).mono ?_
  rintro e w3 ⟨rfl, hb3⟩
  have u3 := u2.below hb3
  have c3 := u3.c
  clear hb3
  have cr := u3.r
  have fr := u3.f
  go_wp2
  refine bodyPost_ret (v := .tuple #[.agg #[.slice none 0 0], .string (txt wType)]) (by simp [results, Try.results16, go_sem, cr, txt, wType]) rfl (upost_no HR.out (u3.set _))
set_option maxRecDepth 100000 in
set_option maxHeartbeats 1000000 in
theorem specUn_other (op : Int) (l : List At) (g c n : Nat) (w : World) (hn : l.length = n) (hv : valid l = true) (h1 : ¬ op = 1) (h2 : ¬ op = 2) (ht : AtomsO w g 0 l) (hc : l.length ≤ c) (hl : l.length ≤ 1048576) :
    Calls Try.prog 16 #[.int .i64 op, .agg #[.slice (some ⟨g, 0, none⟩) n c]] w fun e w' => UPost w (unRes op l) e w' := by
  have HR : Hid (unRes op l = ([], wType)) := hide (by unfold unRes unOut; rw [hv]; cases l.getLast? <;> simp [h1, h2])
  have HV := hide (fun w' (hb : Below w.heap.size w w') => specValid_any l g 0 c w' (fun _ => rfl) (ht.below hb) hc hl)
  rw [hn, hv] at HV
  have k1 : decide (op = 1) = false := by simp [h1]
  have k2 : decide (op = 2) = false := by simp [h2]
  clear hv ht hc hl hn
  have u0 := UB.start w (.slice (some ⟨g, 0, none⟩) n c)
  go_enter Try.func16, Try.ntmps16
  go_wp2_with fail
  refine (HV.out _ u0.B).mono ?_
  rintro e w1 ⟨rfl, hb1⟩
  have u1 := u0.below hb1
  have c1 := u1.c
  clear hb1
  go_wp2_with fail
  refine (HV.out _ u1.B).mono ?_
  rintro e w2 ⟨rfl, hb2⟩
  have u2 := u1.below hb2
  have c2 := u2.c
  clear hb2
  go_wp2_with fail
  refine (no6_any _ _).mono ?_
  rintro e w3 ⟨rfl, hb3⟩
  have u3 := u2.below hb3
  have c3 := u3.c
  clear hb3
  have cr := u3.r
  have fr := u3.f
  go_wp2
  refine bodyPost_ret (v := .tuple #[.agg #[.slice none 0 0], .string (txt wType)]) (by simp [results, Try.results16, go_sem, cr, txt, wType]) rfl (upost_no HR.out (u3.set _))
set_option maxRecDepth 100000 in
set_option maxHeartbeats 1000000 in
theorem specUn_notNo (l : List At) (g c n : Nat) (w : World) (hn : l.length = n) (hv : valid l = true) (a : At) (m : Nat) (hm : l.length = m + 1) (ha : l[m]? = some a) (h1 : ¬ a.kind = 2) (ht : AtomsO w g 0 l) (hc : l.length ≤ c) (hl : l.length ≤ 1048576) :
    Calls Try.prog 16 #[.int .i64 1, .agg #[.slice (some ⟨g, 0, none⟩) n c]] w fun e w' => UPost w (unRes 1 l) e w' := by
  have hla : l.getLast? = some a := by rw [List.getLast?_eq_getElem?, hm]; exact ha
  have HR : Hid (unRes 1 l = ([], wType)) := hide (by unfold unRes unOut; rw [hv, hla]; simp [h1])
  have HV := hide (fun w' (hb : Below w.heap.size w w') => specValid_any l g 0 c w' (fun _ => rfl) (ht.below hb) hc hl)
  rw [hn, hv] at HV
  have HK := hide (fun w' (hb : Below w.heap.size w w') => kind6_any a l g 0 c m w' hm (by omega) ha (ht.below hb))
  have HL := hide (fun w' (hb : Below w.heap.size w w') => last_any a l g 0 c m w' hm (by omega) ha (ht.below hb))
  obtain rfl : n = m + 1 := by omega
  have k1 : decide (a.kind = 2) = false := by simp [h1]
  clear hv ht hc hl hn hla hm ha
  have u0 := UB.start w (.slice (some ⟨g, 0, none⟩) (m + 1) c)
  go_enter Try.func16, Try.ntmps16
  go_wp2_with fail
  refine (HV.out _ u0.B).mono ?_
  rintro e w1 ⟨rfl, hb1⟩
  have u1 := u0.below hb1
  have c1 := u1.c
  clear hb1
  go_wp2_with fail
  refine (HK.out _ u1.B).mono ?_
  rintro e w2 ⟨rfl, hb2⟩
  have u2 := u1.below hb2
  have c2 := u2.c
  clear hb2
  go_wp2_with fail
  refine (HV.out _ u2.B).mono ?_
  rintro e w3 ⟨rfl, hb3⟩
  have u3 := u2.below hb3
  have c3 := u3.c
  clear hb3
  go_wp2_with fail
  refine (no6_any _ _).mono ?_
  rintro e w4 ⟨rfl, hb4⟩
  have u4 := u3.below hb4
  have c4 := u4.c
  clear hb4
  have cr := u4.r
  have fr := u4.f
  go_wp2
  refine bodyPost_ret (v := .tuple #[.agg #[.slice none 0 0], .string (txt wType)]) (by simp [results, Try.results16, go_sem, cr, txt, wType]) rfl (upost_no HR.out (u4.set _))
set_option maxRecDepth 100000 in
set_option maxHeartbeats 1000000 in
theorem specUn_not (l : List At) (g c n : Nat) (w : World) (hn : l.length = n) (hv : valid l = true) (a : At) (m : Nat) (hm : l.length = m + 1) (ha : l[m]? = some a) (h1 : a.kind = 2) (ht : AtomsO w g 0 l) (hc : l.length ≤ c) (hl : l.length ≤ 1048576) :
    Calls Try.prog 16 #[.int .i64 1, .agg #[.slice (some ⟨g, 0, none⟩) n c]] w fun e w' => UPost w (unRes 1 l) e w' := by
  have hla : l.getLast? = some a := by rw [List.getLast?_eq_getElem?, hm]; exact ha
  have HR : Hid (unRes 1 l = ([⟨2, if decide (a.n = 0) then 1 else 0, ⟨#[]⟩, 0⟩], [])) := hide (by unfold unRes unOut; rw [hv, hla]; simp [h1])
  have HV := hide (fun w' (hb : Below w.heap.size w w') => specValid_any l g 0 c w' (fun _ => rfl) (ht.below hb) hc hl)
  rw [hn, hv] at HV
  have HK := hide (fun w' (hb : Below w.heap.size w w') => kind6_any a l g 0 c m w' hm (by omega) ha (ht.below hb))
  have HL := hide (fun w' (hb : Below w.heap.size w w') => last_any a l g 0 c m w' hm (by omega) ha (ht.below hb))
  obtain rfl : n = m + 1 := by omega
  rw [h1] at HK HL
  have HF := fun w => fld1 2 a.n a.kids a.text w
  clear hv ht hc hl hn h1 hla hm ha
  have u0 := UB.start w (.slice (some ⟨g, 0, none⟩) (m + 1) c)
  go_enter Try.func16, Try.ntmps16
  go_wp2_with fail
  refine (HV.out _ u0.B).mono ?_
  rintro e w1 ⟨rfl, hb1⟩
  have u1 := u0.below hb1
  have c1 := u1.c
  clear hb1
  go_wp2_with fail
  refine (HK.out _ u1.B).mono ?_
  rintro e w2 ⟨rfl, hb2⟩
  have u2 := u1.below hb2
  have c2 := u2.c
  clear hb2
  go_wp2_with fail
  refine (HL.out _ u2.B).mono ?_
  rintro e w3 ⟨rfl, hb3⟩
  have u3 := u2.below hb3
  have c3 := u3.c
  clear hb3
  go_wp2_with fail
  refine (bool5_any _ _).mono ?_
  rintro e w4 ⟨g1, hg1, rfl, ha1, hb4⟩
  have u4 := u3.below hb4
  have hz1 := u3.z
  have cr := u4.r
  have fr := u4.f
  clear hb4
  go_wp2
  refine bodyPost_ret (v := .tuple #[.agg #[.slice (some ⟨g1, 0, none⟩) 1 1], .string ⟨#[]⟩]) (by simp [results, Try.results16, go_sem, cr]) rfl (upost_one HR.out (by omega) (atomsO_set ha1 _ (by show w.heap.size + 1 ≠ g1; omega) _) (u4.set _))
set_option maxRecDepth 100000 in
set_option maxHeartbeats 1000000 in
theorem specUn_negNo (l : List At) (g c n : Nat) (w : World) (hn : l.length = n) (hv : valid l = true) (a : At) (m : Nat) (hm : l.length = m + 1) (ha : l[m]? = some a) (h1 : ¬ a.kind = 3) (ht : AtomsO w g 0 l) (hc : l.length ≤ c) (hl : l.length ≤ 1048576) :
    Calls Try.prog 16 #[.int .i64 2, .agg #[.slice (some ⟨g, 0, none⟩) n c]] w fun e w' => UPost w (unRes 2 l) e w' := by
  have hla : l.getLast? = some a := by rw [List.getLast?_eq_getElem?, hm]; exact ha
  have HR : Hid (unRes 2 l = ([], wType)) := hide (by unfold unRes unOut; rw [hv, hla]; simp [h1])
  have HV := hide (fun w' (hb : Below w.heap.size w w') => specValid_any l g 0 c w' (fun _ => rfl) (ht.below hb) hc hl)
  rw [hn, hv] at HV
  have HK := hide (fun w' (hb : Below w.heap.size w w') => kind6_any a l g 0 c m w' hm (by omega) ha (ht.below hb))
  have HL := hide (fun w' (hb : Below w.heap.size w w') => last_any a l g 0 c m w' hm (by omega) ha (ht.below hb))
  obtain rfl : n = m + 1 := by omega
  have k1 : decide (a.kind = 3) = false := by simp [h1]
  clear hv ht hc hl hn hla hm ha
  have u0 := UB.start w (.slice (some ⟨g, 0, none⟩) (m + 1) c)
  go_enter Try.func16, Try.ntmps16
  go_wp2_with fail
  refine (HV.out _ u0.B).mono ?_
  rintro e w1 ⟨rfl, hb1⟩
  have u1 := u0.below hb1
  have c1 := u1.c
  clear hb1
  go_wp2_with fail
  refine (HV.out _ u1.B).mono ?_
  rintro e w2 ⟨rfl, hb2⟩
  have u2 := u1.below hb2
  have c2 := u2.c
  clear hb2
  go_wp2_with fail
  refine (HK.out _ u2.B).mono ?_
  rintro e w3 ⟨rfl, hb3⟩
  have u3 := u2.below hb3
  have c3 := u3.c
  clear hb3
  go_wp2_with fail
  refine (no6_any _ _).mono ?_
  rintro e w4 ⟨rfl, hb4⟩
  have u4 := u3.below hb4
  have c4 := u4.c
  clear hb4
  have cr := u4.r
  have fr := u4.f
  go_wp2
  refine bodyPost_ret (v := .tuple #[.agg #[.slice none 0 0], .string (txt wType)]) (by simp [results, Try.results16, go_sem, cr, txt, wType]) rfl (upost_no HR.out (u4.set _))
set_option maxRecDepth 100000 in
set_option maxHeartbeats 1000000 in
theorem specUn_negMin (l : List At) (g c n : Nat) (w : World) (hn : l.length = n) (hv : valid l = true) (a : At) (m : Nat) (hm : l.length = m + 1) (ha : l[m]? = some a) (h1 : a.kind = 3) (h2 : a.n = -9223372036854775808) (ht : AtomsO w g 0 l) (hc : l.length ≤ c) (hl : l.length ≤ 1048576) :
    Calls Try.prog 16 #[.int .i64 2, .agg #[.slice (some ⟨g, 0, none⟩) n c]] w fun e w' => UPost w (unRes 2 l) e w' := by
  have hla : l.getLast? = some a := by rw [List.getLast?_eq_getElem?, hm]; exact ha
  have HR : Hid (unRes 2 l = ([], wRange)) := hide (by unfold unRes unOut; rw [hv, hla]; simp [h1, h2])
  have HV := hide (fun w' (hb : Below w.heap.size w w') => specValid_any l g 0 c w' (fun _ => rfl) (ht.below hb) hc hl)
  rw [hn, hv] at HV
  have HK := hide (fun w' (hb : Below w.heap.size w w') => kind6_any a l g 0 c m w' hm (by omega) ha (ht.below hb))
  have HL := hide (fun w' (hb : Below w.heap.size w w') => last_any a l g 0 c m w' hm (by omega) ha (ht.below hb))
  obtain rfl : n = m + 1 := by omega
  rw [h1] at HK HL
  rw [h2] at HL
  have HF := fun w => fld1 3 (-9223372036854775808) a.kids a.text w
  clear hv ht hc hl hn h1 h2 hla hm ha
  have u0 := UB.start w (.slice (some ⟨g, 0, none⟩) (m + 1) c)
  go_enter Try.func16, Try.ntmps16
  go_wp2_with fail
  refine (HV.out _ u0.B).mono ?_
  rintro e w1 ⟨rfl, hb1⟩
  have u1 := u0.below hb1
  have c1 := u1.c
  clear hb1
  go_wp2_with fail
  refine (HV.out _ u1.B).mono ?_
  rintro e w2 ⟨rfl, hb2⟩
  have u2 := u1.below hb2
  have c2 := u2.c
  clear hb2
  go_wp2_with fail
  refine (HK.out _ u2.B).mono ?_
  rintro e w3 ⟨rfl, hb3⟩
  have u3 := u2.below hb3
  have c3 := u3.c
  clear hb3
  go_wp2_with fail
  refine (HL.out _ u3.B).mono ?_
  rintro e w4 ⟨rfl, hb4⟩
  have u4 := u3.below hb4
  have c4 := u4.c
  clear hb4
  go_wp2_with fail
  refine (no6_any _ _).mono ?_
  rintro e w5 ⟨rfl, hb5⟩
  have u5 := u4.below hb5
  have c5 := u5.c
  clear hb5
  have cr := u5.r
  have fr := u5.f
  go_wp2
  refine bodyPost_ret (v := .tuple #[.agg #[.slice none 0 0], .string (txt wRange)]) (by simp [results, Try.results16, go_sem, cr, txt, wRange]) rfl (upost_no HR.out (u5.set _))
set_option maxRecDepth 100000 in
set_option maxHeartbeats 1000000 in
theorem specUn_neg (l : List At) (g c n : Nat) (w : World) (hn : l.length = n) (hv : valid l = true) (a : At) (m : Nat) (hm : l.length = m + 1) (ha : l[m]? = some a) (h1 : a.kind = 3) (h2 : ¬ a.n = -9223372036854775808) (h3 : -9223372036854775808 ≤ a.n) (h4 : a.n ≤ 9223372036854775807) (ht : AtomsO w g 0 l) (hc : l.length ≤ c) (hl : l.length ≤ 1048576) :
    Calls Try.prog 16 #[.int .i64 2, .agg #[.slice (some ⟨g, 0, none⟩) n c]] w fun e w' => UPost w (unRes 2 l) e w' := by
  have hla : l.getLast? = some a := by rw [List.getLast?_eq_getElem?, hm]; exact ha
  have HR : Hid (unRes 2 l = ([⟨3, -a.n, ⟨#[]⟩, 0⟩], [])) := hide (by unfold unRes unOut; rw [hv, hla]; simp [h1, h2])
  have HV := hide (fun w' (hb : Below w.heap.size w w') => specValid_any l g 0 c w' (fun _ => rfl) (ht.below hb) hc hl)
  rw [hn, hv] at HV
  have HK := hide (fun w' (hb : Below w.heap.size w w') => kind6_any a l g 0 c m w' hm (by omega) ha (ht.below hb))
  have HL := hide (fun w' (hb : Below w.heap.size w w') => last_any a l g 0 c m w' hm (by omega) ha (ht.below hb))
  obtain rfl : n = m + 1 := by omega
  rw [h1] at HK HL
  have k1 : decide (a.n = -9223372036854775808) = false := by simp [h2]
  have HF := fun w => fld1 3 a.n a.kids a.text w
  clear hv ht hc hl hn h1 hla hm ha
  have u0 := UB.start w (.slice (some ⟨g, 0, none⟩) (m + 1) c)
  go_enter Try.func16, Try.ntmps16
  go_wp2_with fail
  refine (HV.out _ u0.B).mono ?_
  rintro e w1 ⟨rfl, hb1⟩
  have u1 := u0.below hb1
  have c1 := u1.c
  clear hb1
  go_wp2_with fail
  refine (HV.out _ u1.B).mono ?_
  rintro e w2 ⟨rfl, hb2⟩
  have u2 := u1.below hb2
  have c2 := u2.c
  clear hb2
  go_wp2_with fail
  refine (HK.out _ u2.B).mono ?_
  rintro e w3 ⟨rfl, hb3⟩
  have u3 := u2.below hb3
  have c3 := u3.c
  clear hb3
  go_wp2_with fail
  refine (HL.out _ u3.B).mono ?_
  rintro e w4 ⟨rfl, hb4⟩
  have u4 := u3.below hb4
  have c4 := u4.c
  clear hb4
  go_wp2_with fail
  refine (HL.out _ u4.B).mono ?_
  rintro e w5 ⟨rfl, hb5⟩
  have u5 := u4.below hb5
  have c5 := u5.c
  clear hb5
  go_wp2_with fail
  refine (int5_any _ _).mono ?_
  rintro e w6 ⟨g1, hg1, rfl, ha1, hb6⟩
  have u6 := u5.below hb6
  have hz1 := u5.z
  have cr := u6.r
  have fr := u6.f
  clear hb6
  go_wp2
  refine bodyPost_ret (v := .tuple #[.agg #[.slice (some ⟨g1, 0, none⟩) 1 1], .string ⟨#[]⟩]) (by simp [results, Try.results16, go_sem, cr]) rfl (upost_one HR.out (by omega) (atomsO_set ha1 _ (by show w.heap.size + 1 ≠ g1; omega) _) (u6.set _))
end Go.Proofs.Ytfpdoafpimaoaaa.Vl
