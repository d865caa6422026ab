/- Hx, Hy, Hz. -/
import Derived.Test.YtfjoecbkagedbaaGreatDoorY03
namespace Go.Proofs.YtfjoecbkagedbaaGreatDoor
section
variable {ts : List Sc.T} {sz : Nat}
/-- The loops of some ranks, one after another. -/
def Pr.Lv (ts : List Sc.T) (sz : Nat) : List Nat → Pr.Dk → Pr.Dk → Prop
  | [], s, t => t = s
  | r :: rs, s, t => ∃ m, Pr.Cv ts sz (.opsL r) s m ∧ Pr.Lv ts sz rs m.1 t
/-- The ranks that have ops, from hi down to lo. -/
def Pr.rk (hi lo : Nat) : List Nat := [6, 5, 4, 2, 1].filter (fun r => decide (lo ≤ r ∧ r ≤ hi))
theorem Pr.Lv.append {a b : List Nat} {s m t : Pr.Dk} (h : Pr.Lv ts sz a s m) (k : Pr.Lv ts sz b m t) : Pr.Lv ts sz (a ++ b) s t := by
  induction a generalizing s with
  | nil => have h : m = s := h; rw [← h]; exact k
  | cons r rs ih => obtain ⟨q, h1, h2⟩ := h; exact ⟨q, h1, ih h2⟩
theorem Pr.Lv.none {s : Pr.Dk} : ∀ {l : List Nat}, (∀ r ∈ l, Pr.op ts sz s r = 0) → Pr.Lv ts sz l s s
  | [], _ => rfl
  | r :: rs, h => ⟨(s, 0), Pr.Cv.opsL_end (by rw [h r (by simp)]; rfl), Pr.Lv.none (fun x hx => h x (by simp [hx]))⟩
/-- No op that may go on is next. -/
theorem Pr.Lv.stop {s : Pr.Dk} {hi lo : Nat} (h : ∀ r, lo ≤ r → r ≤ hi → Pr.op ts sz s r = 0) : Pr.Lv ts sz (Pr.rk hi lo) s s := by
  refine Pr.Lv.none (fun r hr => ?_)
  have := (List.mem_filter.1 hr).2
  simp only [decide_eq_true_eq] at this
  exact h r this.1 this.2
theorem Pr.rk_part {A B : List Nat} {r hi lo : Nat} (he : [6, 5, 4, 2, 1] = A ++ r :: B) (h1 : lo ≤ r) (h2 : r ≤ hi) : Pr.rk hi lo = A.filter (fun r => decide (lo ≤ r ∧ r ≤ hi)) ++ r :: B.filter (fun r => decide (lo ≤ r ∧ r ≤ hi)) := by
  unfold Pr.rk
  rw [he, List.filter_append, List.filter_cons_of_pos (by simp only [decide_eq_true_eq]; exact ⟨h1, h2⟩)]
theorem Pr.rk_low {B : List Nat} {hi hi' lo : Nat} (hB : ∀ x ∈ B, x ≤ hi ∧ x ≤ hi') : B.filter (fun r => decide (lo ≤ r ∧ r ≤ hi)) = B.filter (fun r => decide (lo ≤ r ∧ r ≤ hi')) := by
  refine List.filter_congr (fun x hx => ?_)
  have := hB x hx
  simp [this.1, this.2]
theorem Pr.rk_high {A : List Nat} {hi lo : Nat} (hA : ∀ x ∈ A, hi < x) : A.filter (fun r => decide (lo ≤ r ∧ r ≤ hi)) = [] := by
  refine List.filter_eq_nil_iff.2 (fun x hx => ?_)
  have := hA x hx
  simp only [decide_eq_true_eq]
  omega
/-- An op of a rank that may go on is next: one step, then on from that rank. -/
theorem Pr.Lv.step {s t : Pr.Dk} {r hi lo : Nat} {m : Pr.Dk × Nat} (hr : r ∈ ([6, 5, 4, 2, 1] : List Nat)) (h1 : lo ≤ r) (h2 : r ≤ hi) (ho : Pr.op ts sz s r ≠ 0) (hn : ∀ x, x ≠ r → Pr.op ts sz s x = 0) (k : Pr.Cv ts sz (.ops (r + 1)) (Pr.adv s) m) (hL : Pr.Lv ts sz (Pr.rk (if r = 4 then 3 else r) lo) (Pr.put m.1 7 (Pr.op ts sz s r) 0 [] 2) t) : Pr.Lv ts sz (Pr.rk hi lo) s t := by
  have hob : (Pr.op ts sz s r == 0) = false := by simpa using ho
  obtain ⟨A, B, he, hA, hB⟩ : ∃ A B, ([6, 5, 4, 2, 1] : List Nat) = A ++ r :: B ∧ (∀ x ∈ A, r < x) ∧ (∀ x ∈ B, x < r ∧ x ≠ 3) := by
    simp only [List.mem_cons, List.not_mem_nil, or_false] at hr
    rcases hr with rfl | rfl | rfl | rfl | rfl
    · exact ⟨[], [5, 4, 2, 1], rfl, by decide, by decide⟩
    · exact ⟨[6], [4, 2, 1], rfl, by decide, by decide⟩
    · exact ⟨[6, 5], [2, 1], rfl, by decide, by decide⟩
    · exact ⟨[6, 5, 4], [1], rfl, by decide, by decide⟩
    · exact ⟨[6, 5, 4, 2], [], rfl, by decide, by decide⟩
  rw [Pr.rk_part he h1 h2]
  refine Pr.Lv.append (m := s) (Pr.Lv.none (fun x hx => hn x (fun e => by have := hA x (List.mem_filter.1 hx).1; omega))) ?_
  by_cases h4 : r = 4
  · subst h4
    refine ⟨(_, 0), Pr.Cv.opsL_4 hob k, ?_⟩
    rw [if_pos rfl] at hL
    have e : Pr.rk 3 lo = B.filter (fun r => decide (lo ≤ r ∧ r ≤ hi)) := by
      unfold Pr.rk
      rw [he, List.filter_append, Pr.rk_high (fun x hx => by have := hA x hx; omega), List.nil_append, List.filter_cons_of_neg (by simp), Pr.rk_low (hi' := hi) (fun x hx => by have := hB x hx; omega)]
    rw [← e]; exact hL
  · rw [if_neg h4] at hL
    have e : Pr.rk r lo = r :: B.filter (fun r => decide (lo ≤ r ∧ r ≤ hi)) := by
      rw [Pr.rk_part he h1 (Nat.le_refl _), Pr.rk_high (fun x hx => hA x hx), List.nil_append, Pr.rk_low (hi' := hi) (fun x hx => by have := hB x hx; omega)]
    rw [e] at hL
    obtain ⟨q, q1, q2⟩ := hL
    exact ⟨q, Pr.Cv.opsL_go hob (by simpa using h4) k q1, q2⟩
/-- What is reached first by a sign or not by an op: then the loops. -/
theorem Pr.Lv.ops {s t : Pr.Dk} {m : Pr.Dk × Nat} (hb : s.bad = false) (k : Pr.Cv ts sz (.ops 7) s m) : ∀ lo, 1 ≤ lo → lo ≤ 7 → (lo ≤ 3 → Pr.is ts sz s Pr.sNot = false) → Pr.Lv ts sz (Pr.rk 6 lo) m.1 t → ∃ q, Pr.Cv ts sz (.ops lo) s q ∧ q.1 = t := by
  have h7 : ∀ t, Pr.Lv ts sz (Pr.rk 6 7) m.1 t → ∃ q, Pr.Cv ts sz (.ops 7) s q ∧ q.1 = t := fun t h => ⟨m, k, (show t = m.1 from h).symm⟩
  have up : ∀ r, (r == 3) = false → (r == 7) = false → (∀ t, Pr.Lv ts sz (Pr.rk 6 (r + 1)) m.1 t → ∃ q, Pr.Cv ts sz (.ops (r + 1)) s q ∧ q.1 = t) → Pr.rk 6 r = Pr.rk 6 (r + 1) ++ [r] → ∀ t, Pr.Lv ts sz (Pr.rk 6 r) m.1 t → ∃ q, Pr.Cv ts sz (.ops r) s q ∧ q.1 = t := by
    intro r h3 h7' hu he t hL
    rw [he] at hL
    obtain ⟨x, hx, y, hy1, hy2⟩ : ∃ x, Pr.Lv ts sz (Pr.rk 6 (r + 1)) m.1 x ∧ ∃ y, Pr.Cv ts sz (.opsL r) x y ∧ t = y.1 := by
      generalize Pr.rk 6 (r + 1) = l at hL
      generalize m.1 = z at hL
      clear hu he
      induction l generalizing z with
      | nil => obtain ⟨y, h1, h2⟩ := hL; exact ⟨z, rfl, y, h1, h2⟩
      | cons a l ih => obtain ⟨y, h1, h2⟩ := hL; obtain ⟨x, e1, e2⟩ := ih _ h2; exact ⟨x, ⟨y, h1, e1⟩, e2⟩
    obtain ⟨q, q1, q2⟩ := hu x hx
    subst q2
    exact ⟨y, Pr.Cv.ops_r hb h3 h7' q1 hy1, hy2.symm⟩
  have h6 := up 6 rfl rfl h7 (by decide)
  have h5 := up 5 rfl rfl h6 (by decide)
  have h4 := up 4 rfl rfl h5 (by decide)
  intro lo l1 l7 hn hL
  have hlo : lo = 7 ∨ lo = 6 ∨ lo = 5 ∨ lo = 4 ∨ lo = 3 ∨ lo = 2 ∨ lo = 1 := by omega
  have h3 : lo ≤ 3 → ∀ t, Pr.Lv ts sz (Pr.rk 6 3) m.1 t → ∃ q, Pr.Cv ts sz (.ops 3) s q ∧ q.1 = t := fun hl t hL => by
    obtain ⟨q, q1, q2⟩ := h4 t (by rw [show Pr.rk 6 4 = Pr.rk 6 3 by decide]; exact hL)
    exact ⟨q, Pr.Cv.ops_3 hb (hn hl) q1, q2⟩
  rcases hlo with rfl | rfl | rfl | rfl | rfl | rfl | rfl
  · exact h7 t hL
  · exact h6 t hL
  · exact h5 t hL
  · exact h4 t hL
  · exact h3 (by omega) t hL
  · exact up 2 rfl rfl (h3 (by omega)) (by decide) t hL
  · exact up 1 rfl rfl (up 2 rfl rfl (h3 (by omega)) (by decide)) (by decide) t hL
/-- Behind 'not'. -/
theorem Pr.Lv.opsNot {s t : Pr.Dk} {m : Pr.Dk × Nat} (hb : s.bad = false) (hn : Pr.is ts sz s Pr.sNot = true) (k : Pr.Cv ts sz (.ops 3) (Pr.adv s) m) (lo : Nat) (l1 : 1 ≤ lo) (l3 : lo ≤ 3) (hL : Pr.Lv ts sz (Pr.rk 2 lo) (Pr.put m.1 6 1 0 [] 1) t) : ∃ q, Pr.Cv ts sz (.ops lo) s q ∧ q.1 = t := by
  have k3 := Pr.Cv.ops_not hb hn k
  have hlo : lo = 3 ∨ lo = 2 ∨ lo = 1 := by omega
  rcases hlo with rfl | rfl | rfl
  · exact ⟨_, k3, (show t = _ from hL).symm⟩
  · obtain ⟨y, h1, h2⟩ := hL
    exact ⟨y, Pr.Cv.ops_r hb rfl rfl k3 h1, (show t = _ from h2).symm⟩
  · obtain ⟨y, h1, z, h2, h3⟩ := hL
    exact ⟨z, Pr.Cv.ops_r hb rfl rfl (Pr.Cv.ops_r hb rfl rfl k3 h1) h2, (show t = _ from h3).symm⟩
end
end Go.Proofs.YtfjoecbkagedbaaGreatDoor
namespace Go.Proofs.YtfjoecbkagedbaaGreatDoor
section
variable {ts : List Sc.T} {sz : Nat} {s : Pr.Dk}
/-- A method ends, and the desk is stuck at a place. -/
def Pr.Ends (ts : List Sc.T) (sz : Nat) (c : Pr.Cmd) (s : Pr.Dk) (q : Nat) : Prop := ∃ r, Pr.Cv ts sz c s r ∧ r.1.bad = true ∧ r.1.place = q
theorem Pr.is_bad (h : s.bad = true) (t : List UInt8) : Pr.is ts sz s t = false := by unfold Pr.is; rw [h]; rfl
theorem Pr.stop_bad (h : s.bad = true) : Pr.stop ts sz s = s := by unfold Pr.stop; rw [h]; rfl
theorem Pr.need_bad (h : s.bad = true) (t : List UInt8) : Pr.need ts sz s t = s := by unfold Pr.need; rw [Pr.is_bad h, Pr.stop_bad h]; rfl
theorem Pr.name_bad (h : s.bad = true) : Pr.name ts sz s = s := by unfold Pr.name Pr.isName; rw [h, Pr.stop_bad h]; rfl
theorem Pr.opFrom_bad (h : s.bad = true) (r : Nat) : ∀ f o, Pr.opFrom ts sz s r f o = 0
  | 0, _ => rfl
  | f + 1, o => by rw [Pr.opFrom, Pr.is_bad h, Bool.and_false]; exact Pr.opFrom_bad h r f (o + 1)
theorem Pr.op_bad (h : s.bad = true) (r : Nat) : Pr.op ts sz s r = 0 := Pr.opFrom_bad h r _ _
theorem Pr.need_stop {t : List UInt8} (hb : s.bad = false) (h : Pr.is ts sz s t = false) : (Pr.need ts sz s t).bad = true ∧ (Pr.need ts sz s t).place = (Pr.tok ts sz s).place := by
  unfold Pr.need Pr.stop; rw [h, hb]; exact ⟨rfl, rfl⟩
theorem Pr.need_go {t : List UInt8} (h : Pr.is ts sz s t = true) : Pr.need ts sz s t = Pr.adv s := by unfold Pr.need; rw [h]; rfl
theorem Pr.Ends.ops (h : s.bad = true) (r : Nat) : Pr.Ends ts sz (.ops r) s s.place := ⟨(s, 0), Pr.Cv.ops_bad h, h, rfl⟩
theorem Pr.Ends.e (h : s.bad = true) : Pr.Ends ts sz .e s s.place := ⟨(s, 0), Pr.Cv.e_ops (Pr.is_bad h _) (Pr.is_bad h _) (Pr.is_bad h _) (Pr.Cv.ops_bad h), h, rfl⟩
theorem Pr.Ends.opsL (h : s.bad = true) (r : Nat) : Pr.Ends ts sz (.opsL r) s s.place := ⟨(s, 0), Pr.Cv.opsL_end (by rw [Pr.op_bad h]; rfl), h, rfl⟩
theorem Pr.Lv.bad (h : s.bad = true) (l : List Nat) : Pr.Lv ts sz l s s := Pr.Lv.none (fun r _ => Pr.op_bad h r)
theorem Pr.Ends.postL (h : s.bad = true) : Pr.Ends ts sz .postL s s.place := ⟨(s, 0), Pr.Cv.postL_bad h, h, rfl⟩
theorem Pr.Ends.single (h : s.bad = true) : Pr.Ends ts sz .single s s.place := ⟨(s, 0), Pr.Cv.single_bad h, h, rfl⟩
theorem Pr.Ends.post (h : s.bad = true) : Pr.Ends ts sz .post s s.place := ⟨(s, 0), Pr.Cv.post (Pr.Cv.single_bad h) (Pr.Cv.postL_bad h), h, rfl⟩
theorem Pr.Ends.paramsL (h : s.bad = true) (n : Nat) : Pr.Ends ts sz (.paramsL n) s s.place := ⟨(s, n), Pr.Cv.paramsL_bad h, h, rfl⟩
theorem Pr.Ends.params (h : s.bad = true) : Pr.Ends ts sz .params s s.place :=
  ⟨_, Pr.Cv.params (by rw [Pr.need_bad h]; exact Pr.Cv.paramsL_bad h), by simp only [Pr.need_bad h]; exact h, by simp only [Pr.need_bad h]⟩
theorem Pr.Ends.argsL (h : s.bad = true) (n : Nat) (b : Bool) : Pr.Ends ts sz (.argsL n b) s s.place := ⟨(s, n), Pr.Cv.argsL_bad h, h, rfl⟩
theorem Pr.Ends.args (h : s.bad = true) : Pr.Ends ts sz .args s s.place :=
  ⟨_, Pr.Cv.args (Pr.Cv.argsL_bad h), by simp only [Pr.need_bad h]; exact h, by simp only [Pr.need_bad h]⟩
theorem Pr.Ends.listL (h : s.bad = true) (n : Nat) : Pr.Ends ts sz (.listL n) s s.place := ⟨(s, n), Pr.Cv.listL_end (Pr.is_bad h _), h, rfl⟩
theorem Pr.Ends.recordL (h : s.bad = true) (n : Nat) : Pr.Ends ts sz (.recordL n) s s.place := ⟨(s, 2 * n), Pr.Cv.recordL_bad h, h, rfl⟩
theorem Pr.Ends.loadL (h : s.bad = true) (n : Nat) : Pr.Ends ts sz (.loadL n) s s.place := ⟨(s, n), Pr.Cv.loadL_bad h, h, rfl⟩
theorem Pr.Ends.list (h : s.bad = true) : Pr.Ends ts sz .list s s.place := by
  have he : Pr.Cv ts sz .e s (s, 0) := Pr.Cv.e_ops (Pr.is_bad h _) (Pr.is_bad h _) (Pr.is_bad h _) (Pr.Cv.ops_bad h)
  refine ⟨_, Pr.Cv.list_list (Pr.is_bad h _) (Pr.is_bad h _) he (Pr.Cv.listL_end (n := 1) (Pr.is_bad h _)), ?_, ?_⟩
  · simp only [Pr.need_bad h, Pr.put]; exact h
  · simp only [Pr.need_bad h, Pr.put]
theorem Pr.Ends.record (h : s.bad = true) : Pr.Ends ts sz .record s s.place := by
  refine ⟨_, Pr.Cv.record_ok (by rfl) (Pr.Cv.recordL_bad (n := 0) h), ?_, ?_⟩
  · simp only [Pr.need_bad h, Pr.put]; exact h
  · simp only [Pr.need_bad h, Pr.put]
/-- Ops that are stuck in what is reached first. -/
theorem Pr.Ends.ops7 {q lo : Nat} (hb : s.bad = false) (h : Pr.Ends ts sz (.ops 7) s q) (h1 : 1 ≤ lo) (h7 : lo ≤ 7) (hn : lo ≤ 3 → Pr.is ts sz s Pr.sNot = false) : Pr.Ends ts sz (.ops lo) s q := by
  obtain ⟨m, k, b, p⟩ := h
  obtain ⟨r, r1, r2⟩ := Pr.Lv.ops (t := m.1) hb k lo h1 h7 hn (Pr.Lv.bad b _)
  exact ⟨r, r1, by rw [r2]; exact b, by rw [r2]; exact p⟩
theorem Pr.Ends.opsN {q lo : Nat} (hb : s.bad = false) (hn : Pr.is ts sz s Pr.sNot = true) (h : Pr.Ends ts sz (.ops 3) (Pr.adv s) q) (h1 : 1 ≤ lo) (h3 : lo ≤ 3) : Pr.Ends ts sz (.ops lo) s q := by
  obtain ⟨m, k, b, p⟩ := h
  have b' : (Pr.put m.1 6 1 0 [] 1).bad = true := b
  obtain ⟨r, r1, r2⟩ := Pr.Lv.opsNot (t := Pr.put m.1 6 1 0 [] 1) hb hn k lo h1 h3 (Pr.Lv.bad b' _)
  exact ⟨r, r1, by rw [r2]; exact b, by rw [r2]; exact p⟩
end
end Go.Proofs.YtfjoecbkagedbaaGreatDoor
namespace Go.Proofs.YtfjoecbkagedbaaGreatDoor
section
variable {ts : List Sc.T} {sz : Nat} {s : Pr.Dk}
theorem Pr.mark_one {o x : Nat} (ho : 1 ≤ o ∧ o ≤ 14) (hx : 1 ≤ x ∧ x ≤ 14) (h : Pr.mark o = Pr.mark x) : o = x := by
  have key : ∀ a : Fin 15, ∀ b : Fin 15, 1 ≤ a.val → 1 ≤ b.val → Pr.mark a.val = Pr.mark b.val → a.val = b.val := by decide
  exact key ⟨o, by omega⟩ ⟨x, by omega⟩ ho.1 hx.1 h
theorem Pr.is_one {t u : List UInt8} (h : Pr.is ts sz s t = true) (k : Pr.is ts sz s u = true) : t = u := by
  unfold Pr.is at h k
  simp only [Bool.and_eq_true, beq_iff_eq] at h k
  rw [← h.2, ← k.2]
theorem Pr.opFrom_of {r : Nat} : ∀ f o, Pr.opFrom ts sz s r f o = 0 ∨ (o ≤ Pr.opFrom ts sz s r f o ∧ Pr.opFrom ts sz s r f o < o + f ∧ Pr.rank (Pr.opFrom ts sz s r f o) = r ∧ Pr.is ts sz s (Pr.mark (Pr.opFrom ts sz s r f o)) = true)
  | 0, _ => .inl rfl
  | f + 1, o => by
    rw [Pr.opFrom]
    split
    · rename_i h
      simp only [Bool.and_eq_true, beq_iff_eq] at h
      exact .inr ⟨Nat.le_refl _, by omega, h.1, h.2⟩
    · rcases Pr.opFrom_of f (o + 1) with h | ⟨h1, h2, h3, h4⟩
      · exact .inl h
      · exact .inr ⟨by omega, by omega, h3, h4⟩
theorem Pr.opFrom_is {r x : Nat} (hr : Pr.rank x = r) (hx : Pr.is ts sz s (Pr.mark x) = true) : ∀ f o, o ≤ x → x < o + f → Pr.opFrom ts sz s r f o ≠ 0 ∨ (x = 0)
  | 0, _, h1, h2 => by omega
  | f + 1, o, h1, h2 => by
    rw [Pr.opFrom]
    split
    · by_cases h0 : o = 0
      · rename_i h
        by_cases hx0 : x = 0
        · exact .inr hx0
        · subst h0
          simp only [Bool.and_eq_true, beq_iff_eq] at h
          have hm : Pr.mark 0 = ([] : List UInt8) := rfl
          have := Pr.is_one h.2 hx
          exfalso
          rw [hm] at this
          have hl : x ≤ 14 ∨ 14 < x := by omega
          rcases hl with hl | hl
          · have key : ∀ a : Fin 15, 1 ≤ a.val → ([] : List UInt8) ≠ Pr.mark a.val := by decide
            exact key ⟨x, by omega⟩ (by show 1 ≤ x; omega) this
          · unfold Pr.rank at h hr
            rw [if_pos (by omega)] at h
            rw [if_neg (by omega), if_neg (by omega), if_neg (by omega)] at hr
            omega
      · exact .inl h0
    · rename_i h
      by_cases hox : o = x
      · subst hox; exact absurd (by rw [hr, hx]; simp) h
      · exact Pr.opFrom_is hr hx f (o + 1) (by omega) (by omega)
/-- An op's mark is next: it is the op of its rank, and no other rank has one. -/
theorem Pr.op_is {x : Nat} (h1 : 1 ≤ x) (h2 : x ≤ 14) (hx : Pr.is ts sz s (Pr.mark x) = true) : Pr.op ts sz s (Pr.rank x) = x ∧ ∀ r, r ≠ Pr.rank x → Pr.op ts sz s r = 0 := by
  unfold Pr.op
  refine ⟨?_, fun r hr => ?_⟩
  · rcases Pr.opFrom_is rfl hx 14 1 h1 (by omega) with h | h
    · rcases Pr.opFrom_of (ts := ts) (sz := sz) (s := s) (r := Pr.rank x) 14 1 with h0 | ⟨a1, a2, _, a4⟩
      · exact absurd h0 h
      · exact Pr.mark_one ⟨a1, by omega⟩ ⟨h1, h2⟩ (Pr.is_one a4 hx)
    · omega
  · rcases Pr.opFrom_of (ts := ts) (sz := sz) (s := s) (r := r) 14 1 with h0 | ⟨a1, a2, a3, a4⟩
    · exact h0
    · have := Pr.mark_one ⟨a1, by omega⟩ ⟨h1, h2⟩ (Pr.is_one a4 hx)
      rw [this] at a3
      exact absurd a3.symm hr
theorem Pr.op_none (h : ∀ x, 1 ≤ x → x ≤ 14 → Pr.is ts sz s (Pr.mark x) = false) (r : Nat) : Pr.op ts sz s r = 0 := by
  unfold Pr.op
  rcases Pr.opFrom_of (ts := ts) (sz := sz) (s := s) (r := r) 14 1 with h0 | ⟨a1, a2, _, a4⟩
  · exact h0
  · rw [h _ a1 (by omega)] at a4; cases a4
theorem Pr.rank_in {x : Nat} (h1 : 1 ≤ x) (h2 : x ≤ 14) : Pr.rank x ∈ ([6, 5, 4, 2, 1] : List Nat) := by
  have key : ∀ a : Fin 15, 1 ≤ a.val → Pr.rank a.val ∈ ([6, 5, 4, 2, 1] : List Nat) := by decide
  exact key ⟨x, by omega⟩ h1
end
end Go.Proofs.YtfjoecbkagedbaaGreatDoor
