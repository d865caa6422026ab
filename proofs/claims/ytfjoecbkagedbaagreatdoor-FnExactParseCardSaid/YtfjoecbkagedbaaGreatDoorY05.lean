/- Pd. -/
import Derived.Test.YtfjoecbkagedbaaGreatDoorY04
namespace Go.Proofs.YtfjoecbkagedbaaGreatDoor
section
variable {ts : List Sc.T} {sz : Nat} {s : Pr.Dk} {q n : Nat}
/-- Stuck, at a place. -/
def Pr.Bd (q : Nat) (s : Pr.Dk) : Prop := s.bad = true ∧ s.place = q
theorem Pr.Bd.need (h : Pr.Bd q s) (t : List UInt8) : Pr.Bd q (Pr.need ts sz s t) := by rw [Pr.need_bad h.1]; exact h
theorem Pr.Bd.name (h : Pr.Bd q s) : Pr.Bd q (Pr.name ts sz s) := by rw [Pr.name_bad h.1]; exact h
theorem Pr.Bd.put (h : Pr.Bd q s) (k o n : Int) (t : List UInt8) (c : Nat) : Pr.Bd q (Pr.put s k o n t c) := h
theorem Pr.Bd.outs (h : Pr.Bd q s) (l : List Tr.Nd) : Pr.Bd q { s with out := l } := h
theorem Pr.Bd.need_of {t : List UInt8} (hb : s.bad = false) (h : Pr.is ts sz s t = false) : Pr.Bd (Pr.tok ts sz s).place (Pr.need ts sz s t) := Pr.need_stop hb h
theorem Pr.Bd.name_of (hb : s.bad = false) (h : Pr.isName ts sz s = false) : Pr.Bd (Pr.tok ts sz s).place (Pr.name ts sz s) := by
  unfold Pr.name Pr.stop; rw [h, hb]; exact ⟨rfl, rfl⟩
theorem Pr.Bd.stop_of (hb : s.bad = false) : Pr.Bd (Pr.tok ts sz s).place (Pr.stop ts sz s) := by
  unfold Pr.stop; rw [hb]; exact ⟨rfl, rfl⟩
theorem Pr.name_go (h : Pr.isName ts sz s = true) : Pr.name ts sz s = Pr.adv s := by unfold Pr.name; rw [h]; rfl
theorem Pr.nameT_go (h : Pr.isName ts sz s = true) : Pr.nameT ts sz s = (Pr.tok ts sz s).text := by unfold Pr.nameT; rw [h]; rfl
theorem Pr.isName_of (hb : s.bad = false) : Pr.isName ts sz s = ((Pr.tok ts sz s).kind == 1) := by unfold Pr.isName; rw [hb]; rfl
theorem Pr.Ends.of {c : Pr.Cmd} {r : Pr.Dk × Nat} (k : Pr.Cv ts sz c s r) (h : Pr.Bd q r.1) : Pr.Ends ts sz c s q := ⟨r, k, h.1, h.2⟩
theorem Pr.Ends.get {c : Pr.Cmd} (h : Pr.Ends ts sz c s q) : ∃ r, Pr.Cv ts sz c s r ∧ Pr.Bd q r.1 := h
theorem Pr.Bd.e (h : Pr.Bd q s) : Pr.Ends ts sz .e s q := h.2 ▸ Pr.Ends.e h.1
theorem Pr.Bd.params (h : Pr.Bd q s) : Pr.Ends ts sz .params s q := h.2 ▸ Pr.Ends.params h.1
theorem Pr.Bd.paramsL (h : Pr.Bd q s) (n : Nat) : Pr.Ends ts sz (.paramsL n) s q := h.2 ▸ Pr.Ends.paramsL h.1 n
theorem Pr.Bd.argsL (h : Pr.Bd q s) (n : Nat) (b : Bool) : Pr.Ends ts sz (.argsL n b) s q := h.2 ▸ Pr.Ends.argsL h.1 n b
theorem Pr.Bd.listL (h : Pr.Bd q s) (n : Nat) : Pr.Ends ts sz (.listL n) s q := h.2 ▸ Pr.Ends.listL h.1 n
theorem Pr.Bd.recordL (h : Pr.Bd q s) (n : Nat) : Pr.Ends ts sz (.recordL n) s q := h.2 ▸ Pr.Ends.recordL h.1 n
theorem Pr.Bd.loadL (h : Pr.Bd q s) (n : Nat) : Pr.Ends ts sz (.loadL n) s q := h.2 ▸ Pr.Ends.loadL h.1 n
theorem Pr.Bd.postL (h : Pr.Bd q s) : Pr.Ends ts sz .postL s q := h.2 ▸ Pr.Ends.postL h.1
theorem Pr.Bd.is (h : Pr.Bd q s) (t : List UInt8) : Pr.is ts sz s t = false := Pr.is_bad h.1 t
theorem Pr.is_not {t u : List UInt8} (h : Pr.is ts sz s t = true) (hne : (t == u) = false) : Pr.is ts sz s u = false := by
  cases k : Pr.is ts sz s u
  · rfl
  · have := Pr.is_one h k; subst this; simp at hne
theorem Pr.is_kind {t : List UInt8} (h : Pr.is ts sz s t = true) (k : Nat) (h2 : (k == 2) = false) (h5 : (k == 5) = false) : ((Pr.tok ts sz s).kind == k) = false := by
  unfold Pr.is at h
  simp only [Bool.and_eq_true, Bool.or_eq_true, beq_iff_eq] at h
  rcases h.1.2 with e | e
  · rw [e]; rw [beq_eq_false_iff_ne] at h2 ⊢; exact fun x => h2 x.symm
  · rw [e]; rw [beq_eq_false_iff_ne] at h5 ⊢; exact fun x => h5 x.symm
theorem Pr.kind_is {k : Nat} (h : ((Pr.tok ts sz s).kind == k) = true) (h2 : (k == 2) = false) (h5 : (k == 5) = false) (t : List UInt8) : Pr.is ts sz s t = false := by
  cases e : Pr.is ts sz s t
  · rfl
  · rw [Pr.is_kind e k h2 h5] at h; cases h
theorem Pr.is_fine {t : List UInt8} (h : Pr.is ts sz s t = true) : s.bad = false := by
  cases e : s.bad
  · rfl
  · rw [Pr.is_bad e] at h; cases h
/- let, if, fn -/
theorem Pr.Ends.let1 (hi : Pr.is ts sz s Pr.sLet = true) (h : Pr.Ends ts sz .e (Pr.need ts sz (Pr.name ts sz (Pr.adv s)) [61]) q) : Pr.Ends ts sz .e s q := by
  obtain ⟨r1, k1, b1⟩ := h.get
  obtain ⟨r2, k2, b2⟩ := (b1.need Pr.sIn).e.get
  exact .of (.e_let hi k1 k2) (b2.put _ _ _ _ _)
theorem Pr.Ends.let2 {r1 : Pr.Dk × Nat} (hi : Pr.is ts sz s Pr.sLet = true) (k1 : Pr.Cv ts sz .e (Pr.need ts sz (Pr.name ts sz (Pr.adv s)) [61]) r1) (h : Pr.Ends ts sz .e (Pr.need ts sz r1.1 Pr.sIn) q) : Pr.Ends ts sz .e s q := by
  obtain ⟨r2, k2, b2⟩ := h.get
  exact .of (.e_let hi k1 k2) (b2.put _ _ _ _ _)
theorem Pr.Ends.if3 {r1 r2 : Pr.Dk × Nat} (hi : Pr.is ts sz s Pr.sIf = true) (k1 : Pr.Cv ts sz .e (Pr.adv s) r1) (k2 : Pr.Cv ts sz .e (Pr.need ts sz r1.1 Pr.sThen) r2) (h : Pr.Ends ts sz .e (Pr.need ts sz r2.1 Pr.sElse) q) : Pr.Ends ts sz .e s q := by
  obtain ⟨r3, k3, b3⟩ := h.get
  exact .of (.e_if (Pr.is_not hi (by decide)) hi k1 k2 k3) (b3.put _ _ _ _ _)
theorem Pr.Ends.if2 {r1 : Pr.Dk × Nat} (hi : Pr.is ts sz s Pr.sIf = true) (k1 : Pr.Cv ts sz .e (Pr.adv s) r1) (h : Pr.Ends ts sz .e (Pr.need ts sz r1.1 Pr.sThen) q) : Pr.Ends ts sz .e s q := by
  obtain ⟨r2, k2, b2⟩ := h.get
  exact .if3 hi k1 k2 (b2.need _).e
theorem Pr.Ends.if1 (hi : Pr.is ts sz s Pr.sIf = true) (h : Pr.Ends ts sz .e (Pr.adv s) q) : Pr.Ends ts sz .e s q := by
  obtain ⟨r1, k1, b1⟩ := h.get
  exact .if2 hi k1 (b1.need _).e
theorem Pr.Ends.fn2 {r1 : Pr.Dk × Nat} (hi : Pr.is ts sz s Pr.sFn = true) (k1 : Pr.Cv ts sz .params (Pr.adv s) r1) (h : Pr.Ends ts sz .e (Pr.need ts sz r1.1 [61, 62]) q) : Pr.Ends ts sz .e s q := by
  obtain ⟨r2, k2, b2⟩ := h.get
  exact .of (.e_fn (Pr.is_not hi (by decide)) (Pr.is_not hi (by decide)) hi k1 k2) (b2.put _ _ _ _ _)
theorem Pr.Ends.fn1 (hi : Pr.is ts sz s Pr.sFn = true) (h : Pr.Ends ts sz .params (Pr.adv s) q) : Pr.Ends ts sz .e s q := by
  obtain ⟨r1, k1, b1⟩ := h.get
  exact .fn2 hi k1 (b1.need _).e
theorem Pr.Ends.e_ops (h0 : Pr.is ts sz s Pr.sLet = false) (h1 : Pr.is ts sz s Pr.sIf = false) (h2 : Pr.is ts sz s Pr.sFn = false) (h : Pr.Ends ts sz (.ops 1) s q) : Pr.Ends ts sz .e s q := by
  obtain ⟨r1, k1, b1⟩ := h.get
  exact .of (.e_ops h0 h1 h2 k1) b1
/- params -/
theorem Pr.Ends.params1 (h : Pr.Ends ts sz (.paramsL 0) (Pr.need ts sz s [40]) q) : Pr.Ends ts sz .params s q := by
  obtain ⟨r1, k1, b1⟩ := h.get
  exact .of (.params k1) (b1.need _)
theorem Pr.Ends.params2 {r1 : Pr.Dk × Nat} (k1 : Pr.Cv ts sz (.paramsL 0) (Pr.need ts sz s [40]) r1) (h : Pr.Bd q (Pr.need ts sz r1.1 [41])) : Pr.Ends ts sz .params s q := .of (.params k1) h
theorem Pr.Ends.param1 (hb : s.bad = false) (hn : (n == 0 && Pr.is ts sz s [41]) = false) (h : Pr.Bd q (Pr.name ts sz s)) : Pr.Ends ts sz (.paramsL n) s q :=
  .of (.paramsL_noEnd hb hn (h.is _) ((h.put _ _ _ _ _).is _)) (h.put _ _ _ _ _)
theorem Pr.Ends.param2 (hb : s.bad = false) (hn : (n == 0 && Pr.is ts sz s [41]) = false) (h2 : Pr.is ts sz (Pr.name ts sz s) [61] = true) (h : Pr.Ends ts sz .e (Pr.adv (Pr.name ts sz s)) q) : Pr.Ends ts sz (.paramsL n) s q := by
  obtain ⟨r1, k1, b1⟩ := h.get
  exact .of (.paramsL_valEnd hb hn h2 ((b1.put _ _ _ _ _).is _) k1) (b1.put _ _ _ _ _)
theorem Pr.Ends.param3 {r1 : Pr.Dk × Nat} (hb : s.bad = false) (hn : (n == 0 && Pr.is ts sz s [41]) = false) (h2 : Pr.is ts sz (Pr.name ts sz s) [61] = true) (k1 : Pr.Cv ts sz .e (Pr.adv (Pr.name ts sz s)) r1) (h3 : Pr.is ts sz (Pr.put r1.1 19 0 0 (Pr.nameT ts sz s) 1) [44] = true) (h : Pr.Ends ts sz (.paramsL (n + 1)) (Pr.adv (Pr.put r1.1 19 0 0 (Pr.nameT ts sz s) 1)) q) : Pr.Ends ts sz (.paramsL n) s q := by
  obtain ⟨r2, k2, b2⟩ := h.get
  exact .of (.paramsL_val hb hn h2 h3 k1 k2) b2
theorem Pr.Ends.param4 (hb : s.bad = false) (hn : (n == 0 && Pr.is ts sz s [41]) = false) (h2 : Pr.is ts sz (Pr.name ts sz s) [61] = false) (h3 : Pr.is ts sz (Pr.put (Pr.name ts sz s) 19 0 0 (Pr.nameT ts sz s) 0) [44] = true) (h : Pr.Ends ts sz (.paramsL (n + 1)) (Pr.adv (Pr.put (Pr.name ts sz s) 19 0 0 (Pr.nameT ts sz s) 0)) q) : Pr.Ends ts sz (.paramsL n) s q := by
  obtain ⟨r2, k2, b2⟩ := h.get
  exact .of (.paramsL_no hb hn h2 h3 k2) b2
/- args -/
theorem Pr.Ends.args1 (h : Pr.Ends ts sz (.argsL 0 false) s q) : Pr.Ends ts sz .args s q := by
  obtain ⟨r1, k1, b1⟩ := h.get
  exact .of (.args k1) (b1.need _)
theorem Pr.Ends.args2 {r1 : Pr.Dk × Nat} (k1 : Pr.Cv ts sz (.argsL 0 false) s r1) (h : Pr.Bd q (Pr.need ts sz r1.1 [41])) : Pr.Ends ts sz .args s q := .of (.args k1) h
theorem Pr.Ends.arg1 {b : Bool} (hb : s.bad = false) (hn : (n == 0 && Pr.is ts sz s [41]) = false) (h2 : (b || Pr.named ts sz s) = true) (h : Pr.Ends ts sz .e (Pr.need ts sz (Pr.name ts sz s) [61]) q) : Pr.Ends ts sz (.argsL n b) s q := by
  obtain ⟨r1, k1, b1⟩ := h.get
  exact .of (.argsL_namedEnd hb hn h2 ((b1.put _ _ _ _ _).is _) k1) (b1.put _ _ _ _ _)
theorem Pr.Ends.arg2 {b : Bool} {r1 : Pr.Dk × Nat} (hb : s.bad = false) (hn : (n == 0 && Pr.is ts sz s [41]) = false) (h2 : (b || Pr.named ts sz s) = true) (k1 : Pr.Cv ts sz .e (Pr.need ts sz (Pr.name ts sz s) [61]) r1) (h3 : Pr.is ts sz (Pr.put r1.1 18 0 0 (Pr.nameT ts sz s) 1) [44] = true) (h : Pr.Ends ts sz (.argsL (n + 1) true) (Pr.adv (Pr.put r1.1 18 0 0 (Pr.nameT ts sz s) 1)) q) : Pr.Ends ts sz (.argsL n b) s q := by
  obtain ⟨r2, k2, b2⟩ := h.get
  exact .of (.argsL_named hb hn h2 h3 k1 k2) b2
theorem Pr.Ends.arg3 {b : Bool} (hb : s.bad = false) (hn : (n == 0 && Pr.is ts sz s [41]) = false) (h2 : (b || Pr.named ts sz s) = false) (h : Pr.Ends ts sz .e s q) : Pr.Ends ts sz (.argsL n b) s q := by
  obtain ⟨r1, k1, b1⟩ := h.get
  exact .of (.argsL_plainEnd hb hn h2 (b1.is _) k1) b1
theorem Pr.Ends.arg4 {b : Bool} {r1 : Pr.Dk × Nat} (hb : s.bad = false) (hn : (n == 0 && Pr.is ts sz s [41]) = false) (h2 : (b || Pr.named ts sz s) = false) (k1 : Pr.Cv ts sz .e s r1) (h3 : Pr.is ts sz r1.1 [44] = true) (h : Pr.Ends ts sz (.argsL (n + 1) false) (Pr.adv r1.1) q) : Pr.Ends ts sz (.argsL n b) s q := by
  obtain ⟨r2, k2, b2⟩ := h.get
  exact .of (.argsL_plain hb hn h2 h3 k1 k2) b2
/- record -/
theorem Pr.Ends.record1 (h : Pr.Ends ts sz (.recordL 0) s q) : Pr.Ends ts sz .record s q := by
  obtain ⟨r1, k1, b1⟩ := h.get
  cases e : (r1.2 % 2 == 1)
  · exact .of (.record_ok e k1) ((b1.need _).put _ _ _ _ _)
  · exact .of (.record_bad e k1) b1
theorem Pr.Ends.record2 {t : Pr.Dk} (k1 : Pr.Cv ts sz (.recordL 0) s (t, 2 * n)) (h : Pr.Bd q (Pr.need ts sz t [125])) : Pr.Ends ts sz .record s q :=
  .of (.record_ok (by rw [beq_eq_false_iff_ne]; show 2 * n % 2 ≠ 1; omega) k1) (h.put _ _ _ _ _)
theorem Pr.Ends.field1 (hb : s.bad = false) (hn : (n == 0 && Pr.is ts sz s [125]) = false) (h2 : ((Pr.tok ts sz s).kind == 1 || (Pr.tok ts sz s).kind == 4) = true) (h : Pr.Ends ts sz .e (Pr.need ts sz (Pr.adv s) [58]) q) : Pr.Ends ts sz (.recordL n) s q := by
  obtain ⟨r1, k1, b1⟩ := h.get
  exact .of (.recordL_last hb hn h2 ((b1.put _ _ _ _ _).is _) k1) (b1.put _ _ _ _ _)
theorem Pr.Ends.field2 {r1 : Pr.Dk × Nat} (hb : s.bad = false) (hn : (n == 0 && Pr.is ts sz s [125]) = false) (h2 : ((Pr.tok ts sz s).kind == 1 || (Pr.tok ts sz s).kind == 4) = true) (k1 : Pr.Cv ts sz .e (Pr.need ts sz (Pr.adv s) [58]) r1) (h3 : Pr.is ts sz (Pr.put r1.1 17 0 0 (Pr.tok ts sz s).text 1) [44] = true) (h : Pr.Ends ts sz (.recordL (n + 1)) (Pr.adv (Pr.put r1.1 17 0 0 (Pr.tok ts sz s).text 1)) q) : Pr.Ends ts sz (.recordL n) s q := by
  obtain ⟨r2, k2, b2⟩ := h.get
  exact .of (.recordL_go hb hn h2 h3 k1 k2) b2
theorem Pr.Ends.field3 (hb : s.bad = false) (hn : (n == 0 && Pr.is ts sz s [125]) = false) (h2 : ((Pr.tok ts sz s).kind == 1 || (Pr.tok ts sz s).kind == 4) = false) : Pr.Ends ts sz (.recordL n) s (Pr.tok ts sz s).place :=
  .of (.recordL_stop hb hn h2) (.stop_of hb)
/- list -/
theorem Pr.Ends.list1 (h0 : Pr.is ts sz s [93] = false) (h : Pr.Ends ts sz .e s q) : Pr.Ends ts sz .list s q := by
  obtain ⟨r1, k1, b1⟩ := h.get
  obtain ⟨r2, k2, b2⟩ := (b1.listL (ts := ts) (sz := sz) 1).get
  exact .of (.list_list h0 (b1.is _) k1 k2) ((b2.need _).put _ _ _ _ _)
theorem Pr.Ends.list2 {r1 : Pr.Dk × Nat} (h0 : Pr.is ts sz s [93] = false) (k1 : Pr.Cv ts sz .e s r1) (h1 : Pr.is ts sz r1.1 Pr.sFor = false) (h : Pr.Ends ts sz (.listL 1) r1.1 q) : Pr.Ends ts sz .list s q := by
  obtain ⟨r2, k2, b2⟩ := h.get
  exact .of (.list_list h0 h1 k1 k2) ((b2.need _).put _ _ _ _ _)
theorem Pr.Ends.list3 {r1 r2 : Pr.Dk × Nat} (h0 : Pr.is ts sz s [93] = false) (k1 : Pr.Cv ts sz .e s r1) (h1 : Pr.is ts sz r1.1 Pr.sFor = false) (k2 : Pr.Cv ts sz (.listL 1) r1.1 r2) (h : Pr.Bd q (Pr.need ts sz r2.1 [93])) : Pr.Ends ts sz .list s q :=
  .of (.list_list h0 h1 k1 k2) (h.put _ _ _ _ _)
theorem Pr.Ends.for1 {r1 : Pr.Dk × Nat} (h0 : Pr.is ts sz s [93] = false) (k1 : Pr.Cv ts sz .e s r1) (h1 : Pr.is ts sz r1.1 Pr.sFor = true) (h : Pr.Ends ts sz .e (Pr.need ts sz (Pr.name ts sz { Pr.adv r1.1 with out := r1.1.out.take s.out.length }) Pr.sIn) q) : Pr.Ends ts sz .list s q := by
  obtain ⟨r2, k2, b2⟩ := h.get
  exact .of (.list_for h0 h1 ((b2.outs _).is _) k1 k2) (((b2.outs _).need _).put _ _ _ _ _)
theorem Pr.Ends.for2 {r1 r2 : Pr.Dk × Nat} (h0 : Pr.is ts sz s [93] = false) (k1 : Pr.Cv ts sz .e s r1) (h1 : Pr.is ts sz r1.1 Pr.sFor = true) (k2 : Pr.Cv ts sz .e (Pr.need ts sz (Pr.name ts sz { Pr.adv r1.1 with out := r1.1.out.take s.out.length }) Pr.sIn) r2) (h2 : Pr.is ts sz { r2.1 with out := r2.1.out ++ r1.1.out.drop s.out.length } Pr.sIf = false) (h : Pr.Bd q (Pr.need ts sz { r2.1 with out := r2.1.out ++ r1.1.out.drop s.out.length } [93])) : Pr.Ends ts sz .list s q :=
  .of (.list_for h0 h1 h2 k1 k2) (h.put _ _ _ _ _)
theorem Pr.Ends.for3 {r1 r2 r3 : Pr.Dk × Nat} (h0 : Pr.is ts sz s [93] = false) (k1 : Pr.Cv ts sz .e s r1) (h1 : Pr.is ts sz r1.1 Pr.sFor = true) (k2 : Pr.Cv ts sz .e (Pr.need ts sz (Pr.name ts sz { Pr.adv r1.1 with out := r1.1.out.take s.out.length }) Pr.sIn) r2) (h2 : Pr.is ts sz { r2.1 with out := r2.1.out ++ r1.1.out.drop s.out.length } Pr.sIf = true) (k3 : Pr.Cv ts sz .e (Pr.adv { r2.1 with out := r2.1.out ++ r1.1.out.drop s.out.length }) r3) (h : Pr.Bd q (Pr.need ts sz r3.1 [93])) : Pr.Ends ts sz .list s q :=
  .of (.list_forIf h0 h1 h2 k1 k2 k3) (h.put _ _ _ _ _)
theorem Pr.Ends.for4 {r1 r2 : Pr.Dk × Nat} (h0 : Pr.is ts sz s [93] = false) (k1 : Pr.Cv ts sz .e s r1) (h1 : Pr.is ts sz r1.1 Pr.sFor = true) (k2 : Pr.Cv ts sz .e (Pr.need ts sz (Pr.name ts sz { Pr.adv r1.1 with out := r1.1.out.take s.out.length }) Pr.sIn) r2) (h2 : Pr.is ts sz { r2.1 with out := r2.1.out ++ r1.1.out.drop s.out.length } Pr.sIf = true) (h : Pr.Ends ts sz .e (Pr.adv { r2.1 with out := r2.1.out ++ r1.1.out.drop s.out.length }) q) : Pr.Ends ts sz .list s q := by
  obtain ⟨r3, k3, b3⟩ := h.get
  exact .for3 h0 k1 h1 k2 h2 k3 (b3.need _)
theorem Pr.Ends.listL1 (h0 : Pr.is ts sz s [44] = true) (h : Pr.Ends ts sz .e (Pr.adv s) q) : Pr.Ends ts sz (.listL n) s q := by
  obtain ⟨r1, k1, b1⟩ := h.get
  exact .of (.listL_go h0 k1 (.listL_end (b1.is _))) b1
theorem Pr.Ends.listL2 {r1 : Pr.Dk × Nat} (h0 : Pr.is ts sz s [44] = true) (k1 : Pr.Cv ts sz .e (Pr.adv s) r1) (h : Pr.Ends ts sz (.listL (n + 1)) r1.1 q) : Pr.Ends ts sz (.listL n) s q := by
  obtain ⟨r2, k2, b2⟩ := h.get
  exact .of (.listL_go h0 k1 k2) b2
/- load -/
theorem Pr.Ends.load1 (hb : s.bad = false) (h : Pr.Bd q (Pr.name ts sz s)) : Pr.Ends ts sz (.loadL n) s q := .of (.loadL_last hb ((h.put _ _ _ _ _).is _)) (h.put _ _ _ _ _)
theorem Pr.Ends.load2 (hb : s.bad = false) (h1 : Pr.is ts sz (Pr.put (Pr.name ts sz s) 5 0 0 (Pr.nameT ts sz s) 0) [44] = true) (h : Pr.Ends ts sz (.loadL (n + 1)) (Pr.adv (Pr.put (Pr.name ts sz s) 5 0 0 (Pr.nameT ts sz s) 0)) q) : Pr.Ends ts sz (.loadL n) s q := by
  obtain ⟨r2, k2, b2⟩ := h.get
  exact .of (.loadL_go hb h1 k2) b2
/- what stands alone -/
theorem Pr.Cv.one_list {r1 : Pr.Dk × Nat} (hi : Pr.is ts sz s [91] = true) (k : Pr.Cv ts sz .list (Pr.adv s) r1) : Pr.Cv ts sz .single s r1 :=
  .single_list (Pr.is_fine hi) (Pr.is_kind hi 3 rfl rfl) (Pr.is_kind hi 4 rfl rfl) (Pr.is_kind hi 1 rfl rfl) (Pr.is_not hi (by decide)) (Pr.is_not hi (by decide)) (Pr.is_not hi (by decide)) hi k
theorem Pr.Cv.one_record {r1 : Pr.Dk × Nat} (hi : Pr.is ts sz s [123] = true) (k : Pr.Cv ts sz .record (Pr.adv s) r1) : Pr.Cv ts sz .single s r1 :=
  .single_record (Pr.is_fine hi) (Pr.is_kind hi 3 rfl rfl) (Pr.is_kind hi 4 rfl rfl) (Pr.is_kind hi 1 rfl rfl) (Pr.is_not hi (by decide)) (Pr.is_not hi (by decide)) (Pr.is_not hi (by decide)) (Pr.is_not hi (by decide)) hi k
theorem Pr.Cv.one_round {r1 : Pr.Dk × Nat} (hi : Pr.is ts sz s [40] = true) (k : Pr.Cv ts sz .e (Pr.adv s) r1) : Pr.Cv ts sz .single s (Pr.need ts sz r1.1 [41], 0) :=
  .single_round (Pr.is_fine hi) (Pr.is_kind hi 3 rfl rfl) (Pr.is_kind hi 4 rfl rfl) (Pr.is_kind hi 1 rfl rfl) (Pr.is_not hi (by decide)) (Pr.is_not hi (by decide)) (Pr.is_not hi (by decide)) (Pr.is_not hi (by decide)) (Pr.is_not hi (by decide)) hi k
theorem Pr.Cv.one_none (hi : Pr.is ts sz s Pr.sNone = true) : Pr.Cv ts sz .single s (Pr.put (Pr.adv s) 1 0 0 [] 0, 0) :=
  .single_none (Pr.is_fine hi) (Pr.is_kind hi 3 rfl rfl) (Pr.is_kind hi 4 rfl rfl) (Pr.is_kind hi 1 rfl rfl) hi
theorem Pr.Cv.one_false (hi : Pr.is ts sz s Pr.sFalse = true) : Pr.Cv ts sz .single s (Pr.put (Pr.adv s) 2 0 0 [] 0, 0) :=
  .single_false (Pr.is_fine hi) (Pr.is_kind hi 3 rfl rfl) (Pr.is_kind hi 4 rfl rfl) (Pr.is_kind hi 1 rfl rfl) (Pr.is_not hi (by decide)) hi
theorem Pr.Cv.one_true (hi : Pr.is ts sz s Pr.sTrue = true) : Pr.Cv ts sz .single s (Pr.put (Pr.adv s) 2 0 1 [] 0, 0) :=
  .single_true (Pr.is_fine hi) (Pr.is_kind hi 3 rfl rfl) (Pr.is_kind hi 4 rfl rfl) (Pr.is_kind hi 1 rfl rfl) (Pr.is_not hi (by decide)) (Pr.is_not hi (by decide)) hi
theorem Pr.Cv.one_int (hb : s.bad = false) (h : ((Pr.tok ts sz s).kind == 3) = true) : Pr.Cv ts sz .single s (Pr.put (Pr.adv s) 3 0 (Pr.tok ts sz s).n [] 0, 0) := .single_int hb h
theorem Pr.Cv.one_text (hb : s.bad = false) (h : ((Pr.tok ts sz s).kind == 4) = true) : Pr.Cv ts sz .single s (Pr.put (Pr.adv s) 4 0 0 (Pr.tok ts sz s).text 0, 0) :=
  .single_text hb (by rw [beq_iff_eq] at h; rw [h]; rfl) h
theorem Pr.Cv.one_name (hb : s.bad = false) (h : ((Pr.tok ts sz s).kind == 1) = true) : Pr.Cv ts sz .single s (Pr.put (Pr.adv s) 5 0 0 (Pr.tok ts sz s).text 0, 0) :=
  .single_name hb (by rw [beq_iff_eq] at h; rw [h]; rfl) (by rw [beq_iff_eq] at h; rw [h]; rfl) h
theorem Pr.Ends.one_list (hi : Pr.is ts sz s [91] = true) (h : Pr.Ends ts sz .list (Pr.adv s) q) : Pr.Ends ts sz .single s q := by
  obtain ⟨r1, k1, b1⟩ := h.get
  exact .of (.one_list hi k1) b1
theorem Pr.Ends.one_record (hi : Pr.is ts sz s [123] = true) (h : Pr.Ends ts sz .record (Pr.adv s) q) : Pr.Ends ts sz .single s q := by
  obtain ⟨r1, k1, b1⟩ := h.get
  exact .of (.one_record hi k1) b1
theorem Pr.Ends.one_round1 (hi : Pr.is ts sz s [40] = true) (h : Pr.Ends ts sz .e (Pr.adv s) q) : Pr.Ends ts sz .single s q := by
  obtain ⟨r1, k1, b1⟩ := h.get
  exact .of (.one_round hi k1) (b1.need _)
theorem Pr.Ends.one_round2 {r1 : Pr.Dk × Nat} (hi : Pr.is ts sz s [40] = true) (k1 : Pr.Cv ts sz .e (Pr.adv s) r1) (h : Pr.Bd q (Pr.need ts sz r1.1 [41])) : Pr.Ends ts sz .single s q := .of (.one_round hi k1) h
/- indexes, dots, calls -/
theorem Pr.Ends.call1 (hi : Pr.is ts sz s [40] = true) (h : Pr.Ends ts sz .args (Pr.adv s) q) : Pr.Ends ts sz .postL s q := by
  obtain ⟨r1, k1, b1⟩ := h.get
  obtain ⟨r2, k2, b2⟩ := ((b1.put 12 0 0 [] (1 + r1.2)).postL (ts := ts) (sz := sz)).get
  exact .of (.postL_call (Pr.is_fine hi) hi k1 k2) b2
theorem Pr.Ends.call2 {r1 : Pr.Dk × Nat} (hi : Pr.is ts sz s [40] = true) (k1 : Pr.Cv ts sz .args (Pr.adv s) r1) (h : Pr.Ends ts sz .postL (Pr.put r1.1 12 0 0 [] (1 + r1.2)) q) : Pr.Ends ts sz .postL s q := by
  obtain ⟨r2, k2, b2⟩ := h.get
  exact .of (.postL_call (Pr.is_fine hi) hi k1 k2) b2
theorem Pr.Ends.index2 {r1 : Pr.Dk × Nat} (hi : Pr.is ts sz s [91] = true) (k1 : Pr.Cv ts sz .e (Pr.adv s) r1) (h : Pr.Ends ts sz .postL (Pr.put (Pr.need ts sz r1.1 [93]) 10 0 0 [] 2) q) : Pr.Ends ts sz .postL s q := by
  obtain ⟨r2, k2, b2⟩ := h.get
  exact .of (.postL_index (Pr.is_fine hi) (Pr.is_not hi (by decide)) hi k1 k2) b2
theorem Pr.Ends.index1 (hi : Pr.is ts sz s [91] = true) (h : Pr.Ends ts sz .e (Pr.adv s) q) : Pr.Ends ts sz .postL s q := by
  obtain ⟨r1, k1, b1⟩ := h.get
  exact .index2 hi k1 ((b1.need _).put _ _ _ _ _).postL
theorem Pr.Ends.dot1 (hi : Pr.is ts sz s [46] = true) (h : Pr.Ends ts sz .postL (Pr.put (Pr.name ts sz (Pr.adv s)) 11 0 0 (Pr.nameT ts sz (Pr.adv s)) 1) q) : Pr.Ends ts sz .postL s q := by
  obtain ⟨r2, k2, b2⟩ := h.get
  exact .of (.postL_dot (Pr.is_fine hi) (Pr.is_not hi (by decide)) (Pr.is_not hi (by decide)) hi k2) b2
theorem Pr.Ends.post2 {r1 : Pr.Dk × Nat} (k1 : Pr.Cv ts sz .single s r1) (h : Pr.Ends ts sz .postL r1.1 q) : Pr.Ends ts sz .post s q := by
  obtain ⟨r2, k2, b2⟩ := h.get
  exact .of (.post k1 k2) b2
theorem Pr.Ends.post1 (h : Pr.Ends ts sz .single s q) : Pr.Ends ts sz .post s q := by
  obtain ⟨r1, k1, b1⟩ := h.get
  exact .post2 k1 b1.postL
theorem Pr.Ends.neg (hi : Pr.is ts sz s [45] = true) (h : Pr.Ends ts sz (.ops 7) (Pr.adv s) q) : Pr.Ends ts sz (.ops 7) s q := by
  obtain ⟨r1, k1, b1⟩ := h.get
  exact .of (.ops_neg (Pr.is_fine hi) rfl hi k1) (b1.put _ _ _ _ _)
theorem Pr.Ends.ops_post (hb : s.bad = false) (hi : Pr.is ts sz s [45] = false) (h : Pr.Ends ts sz .post s q) : Pr.Ends ts sz (.ops 7) s q := by
  obtain ⟨r1, k1, b1⟩ := h.get
  exact .of (.ops_7 hb rfl hi k1) b1
/- statements -/
theorem Pr.Ends.def3 {r1 r2 : Pr.Dk × Nat} (hi : Pr.is ts sz s Pr.sDef = true) (k1 : Pr.Cv ts sz .params (Pr.name ts sz (Pr.adv s)) r1) (k2 : Pr.Cv ts sz .e (Pr.need ts sz r1.1 [61]) r2) (h : Pr.Bd q (Pr.need ts sz (Pr.put r2.1 20 0 0 (Pr.nameT ts sz (Pr.adv s)) (r1.2 + 1)) [59])) : Pr.Ends ts sz .statement s q := .of (.st_def hi k1 k2) h
theorem Pr.Ends.def2 {r1 : Pr.Dk × Nat} (hi : Pr.is ts sz s Pr.sDef = true) (k1 : Pr.Cv ts sz .params (Pr.name ts sz (Pr.adv s)) r1) (h : Pr.Ends ts sz .e (Pr.need ts sz r1.1 [61]) q) : Pr.Ends ts sz .statement s q := by
  obtain ⟨r2, k2, b2⟩ := h.get
  exact .def3 hi k1 k2 ((b2.put _ _ _ _ _).need _)
theorem Pr.Ends.def1 (hi : Pr.is ts sz s Pr.sDef = true) (h : Pr.Ends ts sz .params (Pr.name ts sz (Pr.adv s)) q) : Pr.Ends ts sz .statement s q := by
  obtain ⟨r1, k1, b1⟩ := h.get
  exact .def2 hi k1 (b1.need _).e
theorem Pr.Ends.set2 {r1 : Pr.Dk × Nat} (hi : Pr.is ts sz s Pr.sLet = true) (k1 : Pr.Cv ts sz .e (Pr.need ts sz (Pr.name ts sz (Pr.adv s)) [61]) r1) (h : Pr.Bd q (Pr.need ts sz (Pr.put r1.1 21 0 0 (Pr.nameT ts sz (Pr.adv s)) 1) [59])) : Pr.Ends ts sz .statement s q := .of (.st_let (Pr.is_not hi (by decide)) hi k1) h
theorem Pr.Ends.set1 (hi : Pr.is ts sz s Pr.sLet = true) (h : Pr.Ends ts sz .e (Pr.need ts sz (Pr.name ts sz (Pr.adv s)) [61]) q) : Pr.Ends ts sz .statement s q := by
  obtain ⟨r1, k1, b1⟩ := h.get
  exact .set2 hi k1 ((b1.put _ _ _ _ _).need _)
theorem Pr.Ends.emit2 {r1 : Pr.Dk × Nat} (hi : Pr.is ts sz s Pr.sEmit = true) (k1 : Pr.Cv ts sz .e (Pr.adv s) r1) (h : Pr.Bd q (Pr.need ts sz (Pr.put r1.1 22 0 0 [] 1) [59])) : Pr.Ends ts sz .statement s q := .of (.st_emit (Pr.is_not hi (by decide)) (Pr.is_not hi (by decide)) hi k1) h
theorem Pr.Ends.emit1 (hi : Pr.is ts sz s Pr.sEmit = true) (h : Pr.Ends ts sz .e (Pr.adv s) q) : Pr.Ends ts sz .statement s q := by
  obtain ⟨r1, k1, b1⟩ := h.get
  exact .emit2 hi k1 ((b1.put _ _ _ _ _).need _)
theorem Pr.Ends.ld2 {r1 : Pr.Dk × Nat} (hi : Pr.is ts sz s Pr.sLoad = true) (h4 : ((Pr.tok ts sz (Pr.adv s)).kind == 4) = true) (k1 : Pr.Cv ts sz (.loadL 0) (Pr.need ts sz (Pr.adv (Pr.adv s)) [58]) r1) (h : Pr.Bd q (Pr.need ts sz (Pr.put r1.1 23 0 0 (Pr.tok ts sz (Pr.adv s)).text r1.2) [59])) : Pr.Ends ts sz .statement s q := .of (.st_load (Pr.is_not hi (by decide)) (Pr.is_not hi (by decide)) (Pr.is_not hi (by decide)) hi h4 k1) h
theorem Pr.Ends.ld1 (hi : Pr.is ts sz s Pr.sLoad = true) (h4 : ((Pr.tok ts sz (Pr.adv s)).kind == 4) = true) (h : Pr.Ends ts sz (.loadL 0) (Pr.need ts sz (Pr.adv (Pr.adv s)) [58]) q) : Pr.Ends ts sz .statement s q := by
  obtain ⟨r1, k1, b1⟩ := h.get
  exact .ld2 hi h4 k1 ((b1.put _ _ _ _ _).need _)
theorem Pr.Ends.ld0 (hi : Pr.is ts sz s Pr.sLoad = true) (h4 : ((Pr.tok ts sz (Pr.adv s)).kind == 4) = false) : Pr.Ends ts sz .statement s (Pr.tok ts sz (Pr.adv s)).place :=
  .of (.st_loadNo (Pr.is_not hi (by decide)) (Pr.is_not hi (by decide)) (Pr.is_not hi (by decide)) hi h4) (.stop_of (show s.bad = false from Pr.is_fine hi))
theorem Pr.Ends.st0 (hb : s.bad = false) (h0 : Pr.is ts sz s Pr.sDef = false) (h1 : Pr.is ts sz s Pr.sLet = false) (h2 : Pr.is ts sz s Pr.sEmit = false) (h3 : Pr.is ts sz s Pr.sLoad = false) : Pr.Ends ts sz .statement s (Pr.tok ts sz s).place :=
  .of (.st_stop h0 h1 h2 h3) ((Pr.Bd.stop_of hb).need _)
theorem Pr.Ends.file1 (hb : s.bad = false) (hl : s.p < ts.length) (h : Pr.Ends ts sz .statement s q) : Pr.Ends ts sz (.fileL n) s q := by
  obtain ⟨r1, k1, b1⟩ := h.get
  exact .of (.fileL_go (by rw [hb]; simpa using hl) k1 (.fileL_end (by rw [b1.1]; rfl))) b1
theorem Pr.Ends.file2 {r1 : Pr.Dk × Nat} (hb : s.bad = false) (hl : s.p < ts.length) (k1 : Pr.Cv ts sz .statement s r1) (h : Pr.Ends ts sz (.fileL (n + 1)) r1.1 q) : Pr.Ends ts sz (.fileL n) s q := by
  obtain ⟨r2, k2, b2⟩ := h.get
  exact .of (.fileL_go (by rw [hb]; simpa using hl) k1 k2) b2
end
end Go.Proofs.YtfjoecbkagedbaaGreatDoor
