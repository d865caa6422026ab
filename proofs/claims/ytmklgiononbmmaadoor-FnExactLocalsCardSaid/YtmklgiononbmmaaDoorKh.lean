/- Walks: Check, on the specification's side. -/
import Derived.Test.YtmklgiononbmmaaDoorKg
import Derived.Test.YtmklgiononbmmaaDoorVi
namespace Go.Proofs.YtmklgiononbmmaaDoor
open Go.RowKit

theorem Tr.vgo_kids (ns : List Tr.Nd) : ∀ (ds : List Tr.Nd) (ks : List (List Nat)) (hs : List Nat), Tr.vgo ns (ds.zip ks) hs = true → ∀ k (h1 : k < ds.length) (h2 : k < ks.length), Tr.kidsOk ns ds[k].kind ks[k] = true := by
  intro ds
  induction ds with
  | nil => intro ks hs _ k h1; simp at h1
  | cons d r ih =>
    intro ks hs hv k h1 h2
    cases ks with
    | nil => simp at h2
    | cons x t =>
      simp only [List.zip_cons_cons, Tr.vgo, Bool.and_eq_true] at hv
      cases k with
      | zero => exact hv.1.2
      | succ k => exact ih t _ hv.2 k (by simpa using h1) (by simpa using h2)
theorem Tr.valid_facts {ns : List Tr.Nd} (h : Tr.valid ns = true) : 1 ≤ ns.length ∧ ns.length ≤ 5000 ∧ Tr.kidsGood ns = true ∧
    ∀ k (h : k < (Tr.kids ns).length), ((Tr.kids ns)[k]).length ≤ 5000 ∧ (Tr.kindOf ns k = 14 → ((Tr.kids ns)[k]).length = 2) ∧ (Tr.kindOf ns k = 16 → 1 ≤ ((Tr.kids ns)[k]).length) ∧ (Tr.kindOf ns k = 15 ∨ Tr.kindOf ns k = 20 → 1 ≤ ((Tr.kids ns)[k]).length) := by
  unfold Tr.valid at h
  simp only [Bool.and_eq_true] at h
  obtain ⟨⟨⟨h1, _⟩, h3⟩, h4⟩ := h
  have hin := Tr.inr_true h1
  have hkl := Tr.kids_len h3
  refine ⟨by omega, by omega, h3, fun k hk => ?_⟩
  have hkn : k < ns.length := by omega
  have hok := Tr.vgo_kids ns ns (Tr.kids ns) [] h4 k hkn hk
  have hsh := Tr.kids_short ns k hk
  rw [Tr.kindOf_at hkn]
  generalize (Tr.kids ns)[k] = ls at *
  refine ⟨by omega, fun e => ?_, fun e => ?_, fun e => ?_⟩
  · rw [e] at hok; simp [Tr.kidsOk] at hok; omega
  · rw [e] at hok; simp [Tr.kidsOk] at hok; omega
  · cases ls with
    | nil => rcases e with e | e <;> (rw [e] at hok; simp [Tr.kidsOk] at hok)
    | cons x r => simp
def Tr.firstC : List Int → Nat → Int × Nat
  | [], _ => (0, 0)
  | c :: r, i => if c = 0 then Tr.firstC r (i + 1) else (c, i)
theorem Tr.firstC_at (l : List Int) (i : Nat) (h : i < l.length) : Tr.firstC (l.drop i) i = if l[i] = 0 then Tr.firstC (l.drop (i + 1)) (i + 1) else (l[i], i) := by
  rw [List.drop_eq_getElem_cons h]; rfl
def Tr.checkOf (ns : List Tr.Nd) : Int × Nat := if Tr.valid ns = true then Tr.firstC (Tr.lookS ns (Tr.kids ns)).codes 0 else (11, 0)

theorem two_new (X : World) (a b : Value) (t : TypeId) : (X.alloc (.cells #[a, b] t)).cell? ⟨X.heap.size, 0, none⟩ = some a ∧ (X.alloc (.cells #[a, b] t)).cell? ⟨X.heap.size, 1, none⟩ = some b ∧ (X.alloc (.cells #[a, b] t)).frozen? ⟨X.heap.size, 0, none⟩ = false ∧ (X.alloc (.cells #[a, b] t)).frozen? ⟨X.heap.size, 1, none⟩ = false := by simp
/-- The box of the tree and that of the answer, in a later world. -/
theorem boxes {w w1 : World} {t : Value} {ta tb : TypeId} (h : Below (w.heap.size + 1 + 1) ((w.alloc (.cells #[t] ta)).alloc (.cells #[.int .i64 0, .int .i64 0] tb)) w1) :
    w1.cell? ⟨w.heap.size, 0, none⟩ = some t ∧ w1.cell? ⟨w.heap.size + 1, 0, none⟩ = some (.int .i64 0) ∧ w1.cell? ⟨w.heap.size + 1, 1, none⟩ = some (.int .i64 0) ∧ w1.frozen? ⟨w.heap.size + 1, 0, none⟩ = false ∧ w1.frozen? ⟨w.heap.size + 1, 1, none⟩ = false := by
  have h2 := two_new (w.alloc (.cells #[t] ta)) (.int .i64 0) (.int .i64 0) tb
  rw [World.size_alloc] at h2
  have hb := (Below.refl (w.heap.size + 1) (w.alloc (.cells #[t] ta))).alloc (by simp) (.cells #[.int .i64 0, .int .i64 0] tb)
  have ht : (w.alloc (.cells #[t] ta)).cell? ⟨w.heap.size, 0, none⟩ = some t := by simp
  exact ⟨(h.cell (p := ⟨w.heap.size, 0, none⟩) (show w.heap.size < w.heap.size + 1 + 1 by omega)).trans ((hb.cell (p := ⟨w.heap.size, 0, none⟩) (Nat.lt_succ_self _)).trans ht), (h.cell (p := ⟨w.heap.size + 1, 0, none⟩) (Nat.lt_succ_self _)).trans h2.1, (h.cell (p := ⟨w.heap.size + 1, 1, none⟩) (Nat.lt_succ_self _)).trans h2.2.1, (h.frozen (p := ⟨w.heap.size + 1, 0, none⟩) (Nat.lt_succ_self _)).trans h2.2.2.1, (h.frozen (p := ⟨w.heap.size + 1, 1, none⟩) (Nat.lt_succ_self _)).trans h2.2.2.2⟩

set_option maxRecDepth 100000 in
set_option maxHeartbeats 4000000 in
theorem check_any (ns : List Tr.Nd) (tg tc : Nat) (w : World) (hn : ns.length ≤ 1048576) (ht : NodesAt w tg ns) :
    Calls Tryd.prog 8 #[.agg #[.slice (some ⟨tg, 0, none⟩) ns.length tc]] w fun e w' => e = .returned (.agg #[.int .i64 (Tr.checkOf ns).1, .int .i64 (Tr.checkOf ns).2]) ∧ Below w.heap.size w w' := by
  have r2 : Below w.heap.size w ((w.alloc (.cells #[.slice (some ⟨tg, 0, none⟩) ns.length tc] 31)).alloc (.cells #[.int .i64 0, .int .i64 0] 27)) := ((Below.refl _ _).alloc (Nat.le_refl _) _).alloc (by simp) _
  have HV := hide (valid_any ns tg tc _ hn (ht.below r2))
  have HT := hide ht
  clear ht
  cases hv : Tr.valid ns
  · have HC : Hid (Tr.checkOf ns = (11, 0)) := hide (by unfold Tr.checkOf; rw [hv]; rfl)
    rw [hv] at HV
    rw [HC.out]
    go_enter Tryd.func8, Tryd.ntmps8
    go_wp2_with fail
    refine HV.out.mono ?_
    rintro e w1 ⟨rfl, hb1⟩
    rw [World.size_alloc, World.size_alloc] at hb1
    obtain ⟨b0, b1, b2, b3, b4⟩ := boxes hb1
    have hB1 := r2.trans (hb1.mono (by omega))
    clear hb1
    go_wp2
    refine bodyPost_ret (v := .agg #[.int .i64 11, .int .i64 0]) (by simp [results, Tryd.results8, go_sem, b1, b2]) rfl ⟨rfl, ?_⟩
    exact (hB1.setCell (p := ⟨w.heap.size + 1, 0, none⟩) (by simp) _).setCell (p := ⟨w.heap.size + 1, 1, none⟩) (by simp) _
  · obtain ⟨hn1, hn5, hgood, hlen⟩ := Tr.valid_facts hv
    have HC : Hid (Tr.checkOf ns = Tr.firstC (Tr.lookS ns (Tr.kids ns)).codes 0) := hide (by unfold Tr.checkOf; rw [hv]; rfl)
    rw [hv] at HV
    have HLK := hide (fun w' (hb : Below w.heap.size w w') => look_any ns tg tc w' hn1 hn5 hgood hlen (HT.out.below hb))
    clear hlen
    go_enter Tryd.func8, Tryd.ntmps8
    go_wp2_with fail
    refine HV.out.mono ?_
    rintro e w1 ⟨rfl, hb1⟩
    rw [World.size_alloc, World.size_alloc] at hb1
    obtain ⟨b0, _⟩ := boxes hb1
    have hB1 := r2.trans (hb1.mono (by omega))
    have hz1 : w.heap.size + 1 + 1 ≤ w1.heap.size := by have := hb1.size; simpa using this
    go_wp2_with fail
    refine (HLK.out _ hB1).mono ?_
    rintro e w2 ⟨wb, kg, kc, cg, bg, rfl, hF, hD, hcg, hbg, hb2⟩
    have hb12 := hb1.trans (hb2.mono hz1)
    obtain ⟨b0', b1, b2, b3, b4⟩ := boxes hb12
    have hB2 := hB1.trans (hb2.mono hB1.size)
    have hF2 := hF.f2
    have hcl := hD.lens.1
    have HDD := hide hD
    clear hb1 hb2 hb12 hF hD HV HLK b0
    generalize (Tr.lookS ns (Tr.kids ns)) = st at *
    go_wp2
    go_loop [4] (fun t => ∃ i : Nat, i ≤ ns.length ∧ t = .int .i64 i ∧ Tr.firstC st.codes 0 = Tr.firstC (st.codes.drop i) i) (fun t => ns.length - (intOf t).toNat)
    case atStart => exact ⟨0, Nat.zero_le _, rfl, by simp⟩
    case round =>
      obtain ⟨i, hi, rfl, he⟩ := hrel
      have HE := hide he
      clear he
      by_cases hlt : i < ns.length
      · obtain ⟨cc, _⟩ := HDD.out.cellC i hlt
        have HS := hide (Tr.firstC_at st.codes i (by omega))
        have hcv : st.codes[i]?.getD 0 = st.codes[i]'(by omega) := by simp [hcl, hlt]
        rw [hcv] at cc
        generalize st.codes[i]'(by omega) = c at *
        cases hz : (c == 0)
        · have HF : Hid (Tr.checkOf ns = (c, i)) := hide (by rw [HC.out, HE.out, HS.out, if_neg (by simpa using hz)])
          have hz2 : (c != 0) = true := by simpa using hz
          go_wp2
          refine bodyPost_ret (v := .agg #[.int .i64 c, .int .i64 i]) (by simp [results, Tryd.results8, go_sem, b1, b2]) rfl ⟨by rw [HF.out], ?_⟩
          exact (hB2.setCell (p := ⟨w.heap.size + 1, 0, none⟩) (by simp) _).setCell (p := ⟨w.heap.size + 1, 1, none⟩) (by simp) _
        · have HF : Hid (Tr.firstC st.codes 0 = Tr.firstC (st.codes.drop (i + 1)) (i + 1)) := hide (by rw [HE.out, HS.out, if_pos (by simpa using hz)])
          have hz2 : (c != 0) = false := by simpa using hz
          go_wp2
          go_round
          case rel => exact ⟨i + 1, by omega, by go_num, HF.out⟩
          case measure => simp [intOf]; omega
      · have HF : Hid (Tr.checkOf ns = (0, 0)) := hide (by rw [HC.out, HE.out, List.drop_of_length_le (by omega)]; rfl)
        go_wp2
        refine bodyPost_ret (v := .agg #[.int .i64 0, .int .i64 0]) (by simp [results, Tryd.results8, go_sem, b1, b2]) rfl ⟨by rw [HF.out]; rfl, ?_⟩
        exact (hB2.setCell (p := ⟨w.heap.size + 1, 0, none⟩) (by simp) _).setCell (p := ⟨w.heap.size + 1, 1, none⟩) (by simp) _

theorem field_code (a b : Int) (W : World) : Sem.run Tryd.prog (Instr.field 27 (Value.agg #[.int .i64 a, .int .i64 b]) 0) W = .ok (.int .i64 a) W := by kernel_rfl
set_option maxHeartbeats 400000 in
theorem fits_any (ns : List Tr.Nd) (tg tc : Nat) (w : World) (hn : ns.length ≤ 1048576) (ht : NodesAt w tg ns) :
    Calls Tryd.prog 32 #[.agg #[.slice (some ⟨tg, 0, none⟩) ns.length tc]] w fun e w' => e = .returned (.bool ((Tr.checkOf ns).1 == 0)) ∧ Below w.heap.size w w' := by
  have r1 : Below w.heap.size w (w.alloc (.cells #[.slice (some ⟨tg, 0, none⟩) ns.length tc] 31)) := (Below.refl _ _).alloc (Nat.le_refl _) _
  have HC := hide (check_any ns tg tc _ hn (ht.below r1))
  clear ht
  generalize Tr.checkOf ns = c at *
  have hfc := field_code c.1 c.2
  go_enter Tryd.func32, Tryd.ntmps32
  go_wp2_with fail
  refine HC.out.mono ?_
  rintro e w1 ⟨rfl, hb1⟩
  go_wp2
  go_ret
  exact ⟨rfl, r1.trans (hb1.mono (by simp))⟩
end Go.Proofs.YtmklgiononbmmaaDoor
