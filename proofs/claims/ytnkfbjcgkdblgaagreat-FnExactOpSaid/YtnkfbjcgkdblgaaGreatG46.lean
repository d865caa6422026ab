/- Joined: Lz. -/
import Derived.Test.YtnkfbjcgkdblgaaGreatG45
namespace Go.Proofs.YtnkfbjcgkdblgaaGreat.Vl
open Go.RowKit T.atoms T.ok T.high T.good T.allPlain T.ord

theorem setGo_len (s : ByteArray) (t : T) : ∀ (ks : List T) (dn : Bool), (setGo s t ks dn).length ≤ ks.length + (if dn then 0 else 2)
  | [], dn => by cases dn <;> simp [setGo]
  | [a], dn => by cases dn <;> simp [setGo]
  | a :: b :: r, dn => by
    have ih := setGo_len s t r
    unfold setGo
    cases dn <;> cases hl : Go.Op.bytesLess a.text.toList s.toList <;> cases he : (a.text.toList == s.toList)
    all_goals
      simp only [List.length_append]
      first | (have h1 := ih true; simp at h1 ⊢; omega) | (have h1 := ih false; simp at h1 ⊢; omega)
theorem setGo_even (s : ByteArray) (t : T) : ∀ (ks : List T) (dn : Bool), ks.length % 2 = 0 → (setGo s t ks dn).length % 2 = 0
  | [], dn, _ => by cases dn <;> simp [setGo]
  | [a], dn, h => by simp at h
  | a :: b :: r, dn, h => by
    have hr : r.length % 2 = 0 := by simp at h; omega
    have ih := fun d => setGo_even s t r d hr
    unfold setGo
    cases dn <;> cases hl : Go.Op.bytesLess a.text.toList s.toList <;> cases he : (a.text.toList == s.toList)
    all_goals
      simp only [List.length_append]
      first | (have h1 := ih true; simp at h1 ⊢; omega) | (have h1 := ih false; simp at h1 ⊢; omega)
theorem setGo_mem (s : ByteArray) (t : T) : ∀ (ks : List T) (dn : Bool) (x : T), x ∈ setGo s t ks dn → x ∈ ks ∨ x = T.mk 4 0 s [] ∨ x = t
  | [], dn, x, h => by cases dn <;> simp [setGo] at h; exact .inr h
  | [a], dn, x, h => by
    cases dn
    · simp [setGo] at h; exact .inr h
    · simp [setGo] at h
  | a :: b :: r, dn, x, h => by
    have ih := fun d => setGo_mem s t r d x
    unfold setGo at h
    rcases List.mem_append.1 h with h | h
    · split at h
      · simp at h; exact .inr h
      · cases h
    · rcases List.mem_append.1 h with h | h
      · split at h
        · cases h
        · simp at h
          rcases h with rfl | rfl
          · exact .inl (by simp)
          · exact .inl (by simp)
      · rcases ih _ h with h | h
        · exact .inl (by simp [h])
        · exact .inr h
theorem setGo_atoms (s : ByteArray) (t : T) : ∀ (ks : List T) (dn : Bool), (atomsL (setGo s t ks dn)).length ≤ (atomsL ks).length + (if dn then 0 else 1 + t.count)
  | [], dn => by
    cases dn
    · simp [setGo, atomsL, T.atoms, T.count]; omega
    · simp [setGo, atomsL]
  | [a], dn => by
    cases dn
    · simp [setGo, atomsL, T.atoms, T.count]; omega
    · simp [setGo, atomsL]
  | a :: b :: r, dn => by
    have ih := setGo_atoms s t r
    unfold setGo
    have e1 : (atomsL (a :: b :: r)).length = a.count + b.count + (atomsL r).length := by simp [atomsL, T.count]; omega
    have e2 : (atomsL [T.mk 4 0 s [], t]).length = 1 + t.count := by simp [atomsL, T.atoms, T.count]; omega
    have e3 : (atomsL [a, b]).length = a.count + b.count := by simp [atomsL, T.count]
    have e4 : (atomsL ([] : List T)).length = 0 := rfl
    rw [e1]
    cases dn <;> cases hl : Go.Op.bytesLess a.text.toList s.toList <;> cases he : (a.text.toList == s.toList)
    all_goals
      simp only [atomsL_append, List.length_append, Bool.not_false, Bool.not_true, Bool.and_true, Bool.and_false, Bool.or_true, Bool.or_false, if_true, if_false, e2, e3, e4, Bool.false_eq_true]
      first | (have h1 := ih true; simp at h1; omega) | (have h1 := ih false; simp at h1; omega)
/-- One record's kids set in another's, one by one. -/
def mergeGo : List T → List T → List T
  | ks, a :: b :: r => mergeGo (setGo a.text b ks false) r
  | ks, [_] => ks
  | ks, [] => ks
theorem mergeGo_drop (ks qs : List T) (i : Nat) (h : i + 1 < qs.length) : mergeGo ks (qs.drop i) = mergeGo (setGo (qs[i]).text qs[i + 1] ks false) (qs.drop (i + 2)) := by
  rw [List.drop_eq_getElem_cons (by omega), List.drop_eq_getElem_cons h]
  rfl
theorem rowT_room {w : World} {B : Nat} {v : Value} {ls : List T} {vs : List Value} (h : KRT w B v ls vs) : ∃ p c, v = .slice p ls.length c ∧ CellsV w p vs := row_room2 h.row h.dis.1.symm
set_option maxRecDepth 100000 in
set_option maxHeartbeats 4000000 in
theorem add6_recYes (t u : T) (g g' c c' m m' : Nat) (w : World) (hm : t.count = m + 1) (hm' : u.count = m' + 1) (h1 : m < 1000) (h2 : m' < 1000) (hc : m + 1 ≤ c) (hc' : m' + 1 ≤ c') (ht : AtomsO w g 0 t.atoms) (ht' : AtomsO w g' 0 u.atoms) (hk : t.kind = 6) (hk' : u.kind = 6) (hev : t.ks.length % 2 = 0) (hev' : u.ks.length % 2 = 0) (hv : valid (T.mk 6 0 ⟨#[]⟩ (mergeGo t.ks u.ks)).atoms = true) :
    Calls Tryz.prog 19 #[.agg #[.slice (some ⟨g, 0, none⟩) (m + 1) c], .agg #[.slice (some ⟨g', 0, none⟩) (m' + 1) c']] w (OPost w ((T.mk 6 0 ⟨#[]⟩ (mergeGo t.ks u.ks)).atoms, [])) := by
  have HF2 := fld2
  have HKD := hide (fun w1 (hb : Below w.heap.size w w1) => kids5_any t.atoms g 0 c m w1 hm (by omega) (ht.below hb) hc)
  have HK1 := hide (fun w1 (hb : Below w.heap.size w w1) => kind6_any ⟨t.kind, t.num, t.text, t.ks.length⟩ t.atoms g 0 c m w1 hm (by omega) (atoms_last t m hm) (ht.below hb))
  have HK2 := hide (fun w1 (hb : Below w.heap.size w w1) => kind6_any ⟨u.kind, u.num, u.text, u.ks.length⟩ u.atoms g' 0 c' m' w1 hm' (by omega) (atoms_last u m' hm') (ht'.below hb))
  have HKE := hide (fun w1 (hb : Below w.heap.size w w1) => kids5_any u.atoms g' 0 c' m' w1 hm' (by omega) (ht'.below hb) hc')
  have _HLA := hide (fun w1 (hb : Below w.heap.size w w1) => last_any ⟨t.kind, t.num, t.text, t.ks.length⟩ t.atoms g 0 c m w1 hm (by omega) (atoms_last t m hm) (ht.below hb))
  have _HLB := hide (fun w1 (hb : Below w.heap.size w w1) => last_any ⟨u.kind, u.num, u.text, u.ks.length⟩ u.atoms g' 0 c' m' w1 hm' (by omega) (atoms_last u m' hm') (ht'.below hb))
  rw [hk] at HK1
  rw [hk'] at HK2
  have hla := len_le_atomsL t.ks
  have hlb := len_le_atomsL u.ks
  have hct := T.count_eq t
  have hcu := T.count_eq u
  clear ht ht'
  have o0 := OB.start w (.slice (some ⟨g, 0, none⟩) (m + 1) c) (.slice (some ⟨g', 0, none⟩) (m' + 1) c')
  go_enter Tryz.func19, Tryz.ntmps19
  have O0 := hide o0
  have a0 := o0.a
  have b0 := o0.b
  clear o0
  go_wp2_with fail
  go_region_held3 (fun w' => w'.cell? ⟨w.heap.size, 0, none⟩ = some (.slice (some ⟨g, 0, none⟩) (m + 1) c) ∧ w'.cell? ⟨w.heap.size + 1, 0, none⟩ = some (.slice (some ⟨g', 0, none⟩) (m' + 1) c')) (go_keep) (first
    | (refine step_call1 rfl 16 (.tmp 13) 28 rfl (.agg #[.slice (some ⟨g, 0, none⟩) (m + 1) c]) (.int .i64 6) (by simp [Act.eval]) Tryz.f16 Tryz.func16 (by kernel_rfl) (by kernel_rfl) _ (HK1.out _ O0.out.drew.B) ?_; intro w1 hb1; have o1 := O0.out.drew.below hb1; have a1 := o1.a; have b1 := o1.b)
    | (refine step_call1 rfl 16 (.tmp 15) 28 rfl (.agg #[.slice (some ⟨g', 0, none⟩) (m' + 1) c']) (.int .i64 6) (by simp [Act.eval]) Tryz.f16 Tryz.func16 (by kernel_rfl) (by kernel_rfl) _ (HK2.out _ o1.B) ?_; intro w2 hb2; have o2 := o1.below hb2; have a2 := o2.a; have b2 := o2.b))
  have O2 := hide o2
  have a2' := o2.a
  have b2' := o2.b
  clear hb1 hb2 o1 o2 a1 b1 a2 b2 a0 b0
  go_wp2_with fail
  refine (HKD.out _ O2.out.B).mono ?_
  rintro e w3 ⟨g7, c7, nk, vs, ok, rfl, ⟨hy7, -⟩, hb3⟩
  obtain ⟨rfl, rfl, hown7, hk7⟩ := hy7 t (treeOf_atoms t)
  clear hy7
  have O3 := hide (O2.out.below hb3)
  have b3 := O3.out.b
  clear hb3 a2' b2'
  go_wp2_with fail
  refine (HKE.out _ O3.out.B).mono ?_
  rintro e w4 ⟨g8, c8, nk8, vs8, ok8, rfl, ⟨hy8, -⟩, hb4⟩
  obtain ⟨rfl, rfl, hown8, hk8⟩ := hy8 u (treeOf_atoms u)
  clear hy8
  have HO7 := hide (row_below hown7 hb4)
  have HK7 := hide (hk7.below hb4)
  clear hown7 hk7
  have O4 := hide (O3.out.below hb4)
  have a4 := O4.out.a
  clear hb4 b3
  go_wp2_with fail
  refine (HK1.out _ O4.out.B).mono ?_
  rintro e w5 ⟨rfl, hb5⟩
  have O5 := hide (O4.out.below hb5)
  have HO7' := hide (row_below HO7.out hb5)
  have HK7' := hide (HK7.out.below hb5)
  have HO8' := hide (row_below hown8 hb5)
  have HK8' := hide (hk8.below hb5)
  clear hown8 hk8
  clear hb5 a4
  have a5 := O5.out.a
  have b5 := O5.out.b
  have hk1 : t.ks.length ≤ 1000 := by omega
  have hk2 : u.ks.length ≤ 1000 := by omega
  have HCV : Hid (CellsV w5 (some ⟨g7, 0, none⟩) vs) := hide (.inr ⟨g7, rfl, (HO7'.out.lt g7 rfl).2, fun j z hz => by have := rowV_cells HO7'.out j z hz; rwa [add_plain, Nat.zero_add] at this⟩)
  have HCQ : Hid (∀ j z, vs8[j]? = some z → w5.cell? ⟨g8, j, none⟩ = some z) := hide (fun j z hz => by have := rowV_cells HO8'.out j z hz; rwa [add_plain, Nat.zero_add] at this)
  have hg8 := (HO8'.out.lt g8 rfl).2
  have HMX : Hid (∀ x ∈ t.ks, x.count ≤ 1000) := hide (fun x hx => by obtain ⟨j, hj, rfl⟩ := List.mem_iff_getElem.1 hx; have := count_mem t.ks j hj; omega)
  have HAT : Hid ((atomsL t.ks).length ≤ 1000) := hide (by omega)
  have HAU : Hid ((atomsL u.ks).length ≤ 1000) := hide (by omega)
  have HUX : Hid (∀ j (h : j < u.ks.length), (u.ks[j]).count ≤ 1000) := hide (fun j hj => by have := count_mem u.ks j hj; omega)
  have HV := hide hv
  clear hct hcu hla hlb hv
  go_wp2
  go_loopw [6, 12] (fun pp q wr => ∃ (i : Nat) (p9 : Option Addr) (c9 : Nat) (vq : List Value) (kq : List T), i ≤ u.ks.length ∧ i % 2 = 0 ∧ q = .int .i64 (i : Int) ∧ pp = .slice p9 kq.length c9 ∧ CellsV wr p9 vq ∧ KidsAt wr vq kq ∧ Below w5.heap.size w5 wr ∧ mergeGo kq (u.ks.drop i) = mergeGo t.ks u.ks ∧ kq.length ≤ t.ks.length + i ∧ kq.length % 2 = 0 ∧ (∀ x ∈ kq, x.count ≤ 1000) ∧ (atomsL kq).length ≤ (atomsL t.ks).length + i + (atomsL (u.ks.take i)).length) (fun _ q _ => u.ks.length - (intOf q).toNat)
  case atStart => exact ⟨0, some ⟨g7, 0, none⟩, c7, vs, t.ks, Nat.zero_le _, rfl, rfl, rfl, HCV.out, HK7'.out, Below.refl _ _, by rw [List.drop_zero], by omega, hev, HMX.out, by omega⟩
  case round =>
    obtain ⟨i, p9, c9, vq, kq, hi, hie, rfl, rfl, hcv, hkq, hB, hmg, hlen, hev9, hcx, hat⟩ := hrel
    by_cases hlt : i < u.ks.length
    · have hlt1 : i + 1 < u.ks.length := by omega
      obtain ⟨g0, o0, c0, ka, hat0, hc0⟩ := HK8'.out.2 i hlt
      obtain ⟨g1, o1, c1, kb, hat1, hc1⟩ := HK8'.out.2 (i + 1) hlt1
      have hg9 : g8 < wr.heap.size := Nat.lt_of_lt_of_le hg8 hB.size
      have e0 := (hB.cell (p := ⟨g8, i, none⟩) hg8).trans (HCQ.out i _ ka)
      have e1 := (hB.cell (p := ⟨g8, i + 1, none⟩) hg8).trans (HCQ.out (i + 1) _ kb)
      have hx1 := HUX.out i hlt
      have hx2 := HUX.out (i + 1) hlt1
      obtain ⟨m0, hm0⟩ : ∃ m, (u.ks[i]).count = m + 1 := ⟨(u.ks[i]).count - 1, by have := atoms_pos u.ks[i]; unfold T.count; omega⟩
      have HLA := hide (fun W (hb : Below wr.heap.size wr W) => last_any ⟨(u.ks[i]).kind, (u.ks[i]).num, (u.ks[i]).text, (u.ks[i]).ks.length⟩ (u.ks[i]).atoms g0 o0 c0 m0 W hm0 (by omega) (atoms_last (u.ks[i]) m0 hm0) ((hat0.below hB).below hb))
      have HS5 := hide (fun W (hb : Below wr.heap.size wr W) => (set5_tree c9 g1 o1 c1 (u.ks[i + 1]).count p9 vq kq u.ks[i + 1] (u.ks[i]).text W (by omega) hev9 hcx (hkq.below hb) (hcv.below hb) rfl ⟨g1, o1, c1, rfl, hc1, by simp, (hat1.below hB).below hb⟩).mono fun e w' h => (show ∃ r, e = .returned r ∧ ∃ vz, KRT w' W.heap.size r (setGo (u.ks[i]).text u.ks[i + 1] kq false) vz ∧ Below W.heap.size W w' from by obtain ⟨v, vz, h1, h2, h3⟩ := h; exact ⟨v, h1, vz, h2, h3⟩))
      have HNX : Hid (mergeGo (setGo (u.ks[i]).text u.ks[i + 1] kq false) (u.ks.drop (i + 2)) = mergeGo t.ks u.ks ∧ (setGo (u.ks[i]).text u.ks[i + 1] kq false).length ≤ t.ks.length + (i + 2) ∧ (setGo (u.ks[i]).text u.ks[i + 1] kq false).length % 2 = 0 ∧ (∀ x ∈ setGo (u.ks[i]).text u.ks[i + 1] kq false, x.count ≤ 1000) ∧ (atomsL (setGo (u.ks[i]).text u.ks[i + 1] kq false)).length ≤ (atomsL t.ks).length + (i + 2) + (atomsL (u.ks.take (i + 2))).length) := by
        refine hide ⟨(mergeGo_drop kq u.ks i hlt1).symm.trans hmg, ?_, setGo_even _ _ _ _ hev9, ?_, ?_⟩
        · have := setGo_len (u.ks[i]).text u.ks[i + 1] kq false
          simp at this
          omega
        · intro x hx
          rcases setGo_mem _ _ _ _ x hx with h | rfl | rfl
          · exact hcx x h
          · simp [T.count, T.atoms, atomsL]
          · exact hx2
        · have h9 := setGo_atoms (u.ks[i]).text u.ks[i + 1] kq false
          have e1 := congrArg List.length (atomsL_step u.ks i hlt)
          have e2 : (atomsL (u.ks.take (i + 2))).length = (atomsL (u.ks.take (i + 1)) ++ (u.ks[i + 1]).atoms).length := congrArg List.length (atomsL_step u.ks (i + 1) hlt1)
          rw [List.length_append] at e1 e2
          have e3 : (u.ks[i]).atoms.length = (u.ks[i]).count := rfl
          have e4 : (u.ks[i + 1]).atoms.length = (u.ks[i + 1]).count := rfl
          simp only [Bool.false_eq_true, if_false] at h9
          omega
      rw [hm0] at e0
      clear ka kb hat0 hat1 hcx hat hev9 hmg hcv hkq hx1 hx2 hm0 hc0 hc1
      generalize setGo (u.ks[i]).text u.ks[i + 1] kq false = k7 at *
      generalize (u.ks[i]).text = xt at *
      generalize ((u.ks[i]).ks.length : Int) = xl at *
      generalize (u.ks[i]).num = xn at *
      generalize (u.ks[i]).kind = xk at *
      generalize (u.ks[i + 1]).count = nb at *
      obtain ⟨na, hna⟩ : ∃ n, n = m0 + 1 := ⟨_, rfl⟩
      rw [← hna] at e0 HLA
      clear hna
      go_wp2_with fail
      have hz01 : (0 : Int) ≤ (i : Int) + 1 := by omega
      have hlt3 : (i : Int) + 1 < (u.ks.length : Int) := by omega
      have hw1 : IntKind.i64.wrap ((i : Int) + 1) = ((i + 1 : Nat) : Int) := by rw [IntKind.wrap_i64]; omega
      go_region_held3 (fun w' => w'.cell? ⟨g8, i, none⟩ = some (.slice (some ⟨g0, o0, none⟩) na c0) ∧ w'.cell? ⟨g8, i + 1, none⟩ = some (.slice (some ⟨g1, o1, none⟩) nb c1)) (go_keep) (first
        | (refine step_call1 rfl 20 (.tmp 102) 28 rfl (.agg #[.slice (some ⟨g0, o0, none⟩) na c0]) (.agg #[.int .i64 xk, .int .i64 xn, .string xt, .int .i64 xl]) (by simp [Act.eval]) Tryz.f20 Tryz.func20 (by kernel_rfl) (by kernel_rfl) _ (HLA.out _ (Below.refl _ _).drew) ?_; intro w6 hb6; have b6 : Below wr.heap.size wr w6 := (Below.refl _ _).drew.trans hb6; have a6 := (b6.cell (p := ⟨g8, i, none⟩) hg9).trans e0; have c6 := (b6.cell (p := ⟨g8, i + 1, none⟩) hg9).trans e1)
        | (refine step_call3x rfl 39 (.tmp 98) (.tmp 104) (.tmp 109) 60 9 28 rfl (.slice p9 kq.length c9) (.string xt) (.agg #[.slice (some ⟨g1, o1, none⟩) nb c1]) (by simp [Act.eval]) (by simp [Act.eval]) (by simp [Act.eval]) Tryz.f39 Tryz.func39 (by kernel_rfl) (by kernel_rfl) _ (HS5.out _ b6) ?_; rintro r w7 ⟨vz, hkz, hb7⟩; have b7 : Below wr.heap.size wr w7 := b6.trans (hb7.mono b6.size); have a7 := (b7.cell (p := ⟨g8, i, none⟩) hg9).trans e0; have c7' := (b7.cell (p := ⟨g8, i + 1, none⟩) hg9).trans e1))
      all_goals
        obtain ⟨p10, c10, rfl, hcz⟩ := rowT_room hkz
        go_wp2
        go_roundw
        case rel => exact ⟨i + 2, p10, c10, vz, k7, by omega, by omega, by go_num, rfl, hcz, hkz.dis.kids, hB.trans (b7.mono hB.size), HNX.out.1, HNX.out.2.1, HNX.out.2.2.1, HNX.out.2.2.2.1, HNX.out.2.2.2.2⟩
        case measure => simp [intOf]; omega
    · have hie2 : i = u.ks.length := by omega
      rw [hie2, List.drop_length] at hmg
      have hmg2 : kq = mergeGo t.ks u.ks := by simpa [mergeGo] using hmg
      subst hmg2
      rw [hie2, List.take_length] at hat
      have hal : (atomsL (mergeGo t.ks u.ks)).length ≤ 100000 := by have := HAT.out; have := HAU.out; omega
      have hll : (mergeGo t.ks u.ks).length ≤ 10000 := by omega
      have HX := hide (make5_tree 6 c9 p9 vq (mergeGo t.ks u.ks) wr hll hal hkq hcv)
      have HRG := hide (fun gz cz w' (h : AtomsO w' gz 0 (T.mk 6 0 ⟨#[]⟩ (mergeGo t.ks u.ks)).atoms) (hcz : (T.mk 6 0 ⟨#[]⟩ (mergeGo t.ks u.ks)).atoms.length ≤ cz) => right6_yes _ gz cz w' h hcz (by rw [show (T.mk 6 0 ⟨#[]⟩ (mergeGo t.ks u.ks)).atoms.length = (T.mk 6 0 ⟨#[]⟩ (mergeGo t.ks u.ks)).count from rfl, T.count_eq]; show 1 + (atomsL (mergeGo t.ks u.ks)).length ≤ _; omega) HV.out)
      have O7 := hide (O5.out.below hB)
      clear hkq hcv hat hcx hal hll hmg
      go_wp2_with fail
      refine HX.out.mono ?_
      rintro e w8 ⟨gz, cz, rfl, hcz, hgz, haz, hb8⟩
      have O8 := hide (O7.out.below hb8)
      have HY := hide (HRG.out gz cz w8 haz hcz)
      clear haz hb8 HX
      generalize (T.mk 6 0 ⟨#[]⟩ (mergeGo t.ks u.ks)).atoms = la at *
      go_wp2_with fail
      refine HY.out.mono ?_
      rintro e w9 ⟨hb9, ⟨hr, rfl⟩ | ⟨ga, ca, hga, rfl, ha⟩⟩
      all_goals
        have o9 := O8.out.below hb9
        have hz8 := O8.out.z
        have hs8 := O8.out.B.size
        have r9 := o9.r
        have f9 := o9.f
        have B9 := o9.B
        clear hb9 o9
        go_wp2
      · refine bodyPost_ret (v := .tuple #[.agg #[.slice none 0 0], .string ⟨#[]⟩]) (by simp [results, Tryz.results19, go_sem, r9]) rfl ?_
        exact ⟨B9.setCell (p := ⟨w.heap.size + 1 + 1, 0, none⟩) (by show w.heap.size ≤ w.heap.size + 1 + 1; omega) _, .inl ⟨hr, rfl⟩⟩
      · refine bodyPost_ret (v := .tuple #[.agg #[.slice (some ⟨ga, 0, none⟩) la.length ca], .string ⟨#[]⟩]) (by simp [results, Tryz.results19, go_sem, r9]) rfl ?_
        exact ⟨B9.setCell (p := ⟨w.heap.size + 1 + 1, 0, none⟩) (by show w.heap.size ≤ w.heap.size + 1 + 1; omega) _, .inr ⟨ga, ca, by omega, rfl, atomsO_set ha _ (by show w.heap.size + 1 + 1 ≠ ga; omega) _⟩⟩
set_option maxRecDepth 100000 in
set_option maxHeartbeats 4000000 in
theorem add6_recNo (t u : T) (g g' c c' m m' : Nat) (w : World) (hm : t.count = m + 1) (hm' : u.count = m' + 1) (h1 : m < 1000) (h2 : m' < 1000) (hc : m + 1 ≤ c) (hc' : m' + 1 ≤ c') (ht : AtomsO w g 0 t.atoms) (ht' : AtomsO w g' 0 u.atoms) (hk : t.kind = 6) (hk' : u.kind = 6) (hev : t.ks.length % 2 = 0) (hev' : u.ks.length % 2 = 0) (hv : valid (T.mk 6 0 ⟨#[]⟩ (mergeGo t.ks u.ks)).atoms = false) :
    Calls Tryz.prog 19 #[.agg #[.slice (some ⟨g, 0, none⟩) (m + 1) c], .agg #[.slice (some ⟨g', 0, none⟩) (m' + 1) c']] w (OPost w ([], [108, 97, 114, 103, 101])) := by
  have HF2 := fld2
  have HKD := hide (fun w1 (hb : Below w.heap.size w w1) => kids5_any t.atoms g 0 c m w1 hm (by omega) (ht.below hb) hc)
  have HK1 := hide (fun w1 (hb : Below w.heap.size w w1) => kind6_any ⟨t.kind, t.num, t.text, t.ks.length⟩ t.atoms g 0 c m w1 hm (by omega) (atoms_last t m hm) (ht.below hb))
  have HK2 := hide (fun w1 (hb : Below w.heap.size w w1) => kind6_any ⟨u.kind, u.num, u.text, u.ks.length⟩ u.atoms g' 0 c' m' w1 hm' (by omega) (atoms_last u m' hm') (ht'.below hb))
  have HKE := hide (fun w1 (hb : Below w.heap.size w w1) => kids5_any u.atoms g' 0 c' m' w1 hm' (by omega) (ht'.below hb) hc')
  have _HLA := hide (fun w1 (hb : Below w.heap.size w w1) => last_any ⟨t.kind, t.num, t.text, t.ks.length⟩ t.atoms g 0 c m w1 hm (by omega) (atoms_last t m hm) (ht.below hb))
  have _HLB := hide (fun w1 (hb : Below w.heap.size w w1) => last_any ⟨u.kind, u.num, u.text, u.ks.length⟩ u.atoms g' 0 c' m' w1 hm' (by omega) (atoms_last u m' hm') (ht'.below hb))
  rw [hk] at HK1
  rw [hk'] at HK2
  have hla := len_le_atomsL t.ks
  have hlb := len_le_atomsL u.ks
  have hct := T.count_eq t
  have hcu := T.count_eq u
  clear ht ht'
  have o0 := OB.start w (.slice (some ⟨g, 0, none⟩) (m + 1) c) (.slice (some ⟨g', 0, none⟩) (m' + 1) c')
  go_enter Tryz.func19, Tryz.ntmps19
  have O0 := hide o0
  have a0 := o0.a
  have b0 := o0.b
  clear o0
  go_wp2_with fail
  go_region_held3 (fun w' => w'.cell? ⟨w.heap.size, 0, none⟩ = some (.slice (some ⟨g, 0, none⟩) (m + 1) c) ∧ w'.cell? ⟨w.heap.size + 1, 0, none⟩ = some (.slice (some ⟨g', 0, none⟩) (m' + 1) c')) (go_keep) (first
    | (refine step_call1 rfl 16 (.tmp 13) 28 rfl (.agg #[.slice (some ⟨g, 0, none⟩) (m + 1) c]) (.int .i64 6) (by simp [Act.eval]) Tryz.f16 Tryz.func16 (by kernel_rfl) (by kernel_rfl) _ (HK1.out _ O0.out.drew.B) ?_; intro w1 hb1; have o1 := O0.out.drew.below hb1; have a1 := o1.a; have b1 := o1.b)
    | (refine step_call1 rfl 16 (.tmp 15) 28 rfl (.agg #[.slice (some ⟨g', 0, none⟩) (m' + 1) c']) (.int .i64 6) (by simp [Act.eval]) Tryz.f16 Tryz.func16 (by kernel_rfl) (by kernel_rfl) _ (HK2.out _ o1.B) ?_; intro w2 hb2; have o2 := o1.below hb2; have a2 := o2.a; have b2 := o2.b))
  have O2 := hide o2
  have a2' := o2.a
  have b2' := o2.b
  clear hb1 hb2 o1 o2 a1 b1 a2 b2 a0 b0
  go_wp2_with fail
  refine (HKD.out _ O2.out.B).mono ?_
  rintro e w3 ⟨g7, c7, nk, vs, ok, rfl, ⟨hy7, -⟩, hb3⟩
  obtain ⟨rfl, rfl, hown7, hk7⟩ := hy7 t (treeOf_atoms t)
  clear hy7
  have O3 := hide (O2.out.below hb3)
  have b3 := O3.out.b
  clear hb3 a2' b2'
  go_wp2_with fail
  refine (HKE.out _ O3.out.B).mono ?_
  rintro e w4 ⟨g8, c8, nk8, vs8, ok8, rfl, ⟨hy8, -⟩, hb4⟩
  obtain ⟨rfl, rfl, hown8, hk8⟩ := hy8 u (treeOf_atoms u)
  clear hy8
  have HO7 := hide (row_below hown7 hb4)
  have HK7 := hide (hk7.below hb4)
  clear hown7 hk7
  have O4 := hide (O3.out.below hb4)
  have a4 := O4.out.a
  clear hb4 b3
  go_wp2_with fail
  refine (HK1.out _ O4.out.B).mono ?_
  rintro e w5 ⟨rfl, hb5⟩
  have O5 := hide (O4.out.below hb5)
  have HO7' := hide (row_below HO7.out hb5)
  have HK7' := hide (HK7.out.below hb5)
  have HO8' := hide (row_below hown8 hb5)
  have HK8' := hide (hk8.below hb5)
  clear hown8 hk8
  clear hb5 a4
  have a5 := O5.out.a
  have b5 := O5.out.b
  have hk1 : t.ks.length ≤ 1000 := by omega
  have hk2 : u.ks.length ≤ 1000 := by omega
  have HCV : Hid (CellsV w5 (some ⟨g7, 0, none⟩) vs) := hide (.inr ⟨g7, rfl, (HO7'.out.lt g7 rfl).2, fun j z hz => by have := rowV_cells HO7'.out j z hz; rwa [add_plain, Nat.zero_add] at this⟩)
  have HCQ : Hid (∀ j z, vs8[j]? = some z → w5.cell? ⟨g8, j, none⟩ = some z) := hide (fun j z hz => by have := rowV_cells HO8'.out j z hz; rwa [add_plain, Nat.zero_add] at this)
  have hg8 := (HO8'.out.lt g8 rfl).2
  have HMX : Hid (∀ x ∈ t.ks, x.count ≤ 1000) := hide (fun x hx => by obtain ⟨j, hj, rfl⟩ := List.mem_iff_getElem.1 hx; have := count_mem t.ks j hj; omega)
  have HAT : Hid ((atomsL t.ks).length ≤ 1000) := hide (by omega)
  have HAU : Hid ((atomsL u.ks).length ≤ 1000) := hide (by omega)
  have HUX : Hid (∀ j (h : j < u.ks.length), (u.ks[j]).count ≤ 1000) := hide (fun j hj => by have := count_mem u.ks j hj; omega)
  have HV := hide hv
  clear hct hcu hla hlb hv
  go_wp2
  go_loopw [6, 12] (fun pp q wr => ∃ (i : Nat) (p9 : Option Addr) (c9 : Nat) (vq : List Value) (kq : List T), i ≤ u.ks.length ∧ i % 2 = 0 ∧ q = .int .i64 (i : Int) ∧ pp = .slice p9 kq.length c9 ∧ CellsV wr p9 vq ∧ KidsAt wr vq kq ∧ Below w5.heap.size w5 wr ∧ mergeGo kq (u.ks.drop i) = mergeGo t.ks u.ks ∧ kq.length ≤ t.ks.length + i ∧ kq.length % 2 = 0 ∧ (∀ x ∈ kq, x.count ≤ 1000) ∧ (atomsL kq).length ≤ (atomsL t.ks).length + i + (atomsL (u.ks.take i)).length) (fun _ q _ => u.ks.length - (intOf q).toNat)
  case atStart => exact ⟨0, some ⟨g7, 0, none⟩, c7, vs, t.ks, Nat.zero_le _, rfl, rfl, rfl, HCV.out, HK7'.out, Below.refl _ _, by rw [List.drop_zero], by omega, hev, HMX.out, by omega⟩
  case round =>
    obtain ⟨i, p9, c9, vq, kq, hi, hie, rfl, rfl, hcv, hkq, hB, hmg, hlen, hev9, hcx, hat⟩ := hrel
    by_cases hlt : i < u.ks.length
    · have hlt1 : i + 1 < u.ks.length := by omega
      obtain ⟨g0, o0, c0, ka, hat0, hc0⟩ := HK8'.out.2 i hlt
      obtain ⟨g1, o1, c1, kb, hat1, hc1⟩ := HK8'.out.2 (i + 1) hlt1
      have hg9 : g8 < wr.heap.size := Nat.lt_of_lt_of_le hg8 hB.size
      have e0 := (hB.cell (p := ⟨g8, i, none⟩) hg8).trans (HCQ.out i _ ka)
      have e1 := (hB.cell (p := ⟨g8, i + 1, none⟩) hg8).trans (HCQ.out (i + 1) _ kb)
      have hx1 := HUX.out i hlt
      have hx2 := HUX.out (i + 1) hlt1
      obtain ⟨m0, hm0⟩ : ∃ m, (u.ks[i]).count = m + 1 := ⟨(u.ks[i]).count - 1, by have := atoms_pos u.ks[i]; unfold T.count; omega⟩
      have HLA := hide (fun W (hb : Below wr.heap.size wr W) => last_any ⟨(u.ks[i]).kind, (u.ks[i]).num, (u.ks[i]).text, (u.ks[i]).ks.length⟩ (u.ks[i]).atoms g0 o0 c0 m0 W hm0 (by omega) (atoms_last (u.ks[i]) m0 hm0) ((hat0.below hB).below hb))
      have HS5 := hide (fun W (hb : Below wr.heap.size wr W) => (set5_tree c9 g1 o1 c1 (u.ks[i + 1]).count p9 vq kq u.ks[i + 1] (u.ks[i]).text W (by omega) hev9 hcx (hkq.below hb) (hcv.below hb) rfl ⟨g1, o1, c1, rfl, hc1, by simp, (hat1.below hB).below hb⟩).mono fun e w' h => (show ∃ r, e = .returned r ∧ ∃ vz, KRT w' W.heap.size r (setGo (u.ks[i]).text u.ks[i + 1] kq false) vz ∧ Below W.heap.size W w' from by obtain ⟨v, vz, h1, h2, h3⟩ := h; exact ⟨v, h1, vz, h2, h3⟩))
      have HNX : Hid (mergeGo (setGo (u.ks[i]).text u.ks[i + 1] kq false) (u.ks.drop (i + 2)) = mergeGo t.ks u.ks ∧ (setGo (u.ks[i]).text u.ks[i + 1] kq false).length ≤ t.ks.length + (i + 2) ∧ (setGo (u.ks[i]).text u.ks[i + 1] kq false).length % 2 = 0 ∧ (∀ x ∈ setGo (u.ks[i]).text u.ks[i + 1] kq false, x.count ≤ 1000) ∧ (atomsL (setGo (u.ks[i]).text u.ks[i + 1] kq false)).length ≤ (atomsL t.ks).length + (i + 2) + (atomsL (u.ks.take (i + 2))).length) := by
        refine hide ⟨(mergeGo_drop kq u.ks i hlt1).symm.trans hmg, ?_, setGo_even _ _ _ _ hev9, ?_, ?_⟩
        · have := setGo_len (u.ks[i]).text u.ks[i + 1] kq false
          simp at this
          omega
        · intro x hx
          rcases setGo_mem _ _ _ _ x hx with h | rfl | rfl
          · exact hcx x h
          · simp [T.count, T.atoms, atomsL]
          · exact hx2
        · have h9 := setGo_atoms (u.ks[i]).text u.ks[i + 1] kq false
          have e1 := congrArg List.length (atomsL_step u.ks i hlt)
          have e2 : (atomsL (u.ks.take (i + 2))).length = (atomsL (u.ks.take (i + 1)) ++ (u.ks[i + 1]).atoms).length := congrArg List.length (atomsL_step u.ks (i + 1) hlt1)
          rw [List.length_append] at e1 e2
          have e3 : (u.ks[i]).atoms.length = (u.ks[i]).count := rfl
          have e4 : (u.ks[i + 1]).atoms.length = (u.ks[i + 1]).count := rfl
          simp only [Bool.false_eq_true, if_false] at h9
          omega
      rw [hm0] at e0
      clear ka kb hat0 hat1 hcx hat hev9 hmg hcv hkq hx1 hx2 hm0 hc0 hc1
      generalize setGo (u.ks[i]).text u.ks[i + 1] kq false = k7 at *
      generalize (u.ks[i]).text = xt at *
      generalize ((u.ks[i]).ks.length : Int) = xl at *
      generalize (u.ks[i]).num = xn at *
      generalize (u.ks[i]).kind = xk at *
      generalize (u.ks[i + 1]).count = nb at *
      obtain ⟨na, hna⟩ : ∃ n, n = m0 + 1 := ⟨_, rfl⟩
      rw [← hna] at e0 HLA
      clear hna
      go_wp2_with fail
      have hz01 : (0 : Int) ≤ (i : Int) + 1 := by omega
      have hlt3 : (i : Int) + 1 < (u.ks.length : Int) := by omega
      have hw1 : IntKind.i64.wrap ((i : Int) + 1) = ((i + 1 : Nat) : Int) := by rw [IntKind.wrap_i64]; omega
      go_region_held3 (fun w' => w'.cell? ⟨g8, i, none⟩ = some (.slice (some ⟨g0, o0, none⟩) na c0) ∧ w'.cell? ⟨g8, i + 1, none⟩ = some (.slice (some ⟨g1, o1, none⟩) nb c1)) (go_keep) (first
        | (refine step_call1 rfl 20 (.tmp 102) 28 rfl (.agg #[.slice (some ⟨g0, o0, none⟩) na c0]) (.agg #[.int .i64 xk, .int .i64 xn, .string xt, .int .i64 xl]) (by simp [Act.eval]) Tryz.f20 Tryz.func20 (by kernel_rfl) (by kernel_rfl) _ (HLA.out _ (Below.refl _ _).drew) ?_; intro w6 hb6; have b6 : Below wr.heap.size wr w6 := (Below.refl _ _).drew.trans hb6; have a6 := (b6.cell (p := ⟨g8, i, none⟩) hg9).trans e0; have c6 := (b6.cell (p := ⟨g8, i + 1, none⟩) hg9).trans e1)
        | (refine step_call3x rfl 39 (.tmp 98) (.tmp 104) (.tmp 109) 60 9 28 rfl (.slice p9 kq.length c9) (.string xt) (.agg #[.slice (some ⟨g1, o1, none⟩) nb c1]) (by simp [Act.eval]) (by simp [Act.eval]) (by simp [Act.eval]) Tryz.f39 Tryz.func39 (by kernel_rfl) (by kernel_rfl) _ (HS5.out _ b6) ?_; rintro r w7 ⟨vz, hkz, hb7⟩; have b7 : Below wr.heap.size wr w7 := b6.trans (hb7.mono b6.size); have a7 := (b7.cell (p := ⟨g8, i, none⟩) hg9).trans e0; have c7' := (b7.cell (p := ⟨g8, i + 1, none⟩) hg9).trans e1))
      all_goals
        obtain ⟨p10, c10, rfl, hcz⟩ := rowT_room hkz
        go_wp2
        go_roundw
        case rel => exact ⟨i + 2, p10, c10, vz, k7, by omega, by omega, by go_num, rfl, hcz, hkz.dis.kids, hB.trans (b7.mono hB.size), HNX.out.1, HNX.out.2.1, HNX.out.2.2.1, HNX.out.2.2.2.1, HNX.out.2.2.2.2⟩
        case measure => simp [intOf]; omega
    · have hie2 : i = u.ks.length := by omega
      rw [hie2, List.drop_length] at hmg
      have hmg2 : kq = mergeGo t.ks u.ks := by simpa [mergeGo] using hmg
      subst hmg2
      rw [hie2, List.take_length] at hat
      have hal : (atomsL (mergeGo t.ks u.ks)).length ≤ 100000 := by have := HAT.out; have := HAU.out; omega
      have hll : (mergeGo t.ks u.ks).length ≤ 10000 := by omega
      have HX := hide (make5_tree 6 c9 p9 vq (mergeGo t.ks u.ks) wr hll hal hkq hcv)
      have HRG := hide (fun gz cz w' (h : AtomsO w' gz 0 (T.mk 6 0 ⟨#[]⟩ (mergeGo t.ks u.ks)).atoms) (hcz : (T.mk 6 0 ⟨#[]⟩ (mergeGo t.ks u.ks)).atoms.length ≤ cz) => right6_no _ gz cz w' h hcz (by rw [show (T.mk 6 0 ⟨#[]⟩ (mergeGo t.ks u.ks)).atoms.length = (T.mk 6 0 ⟨#[]⟩ (mergeGo t.ks u.ks)).count from rfl, T.count_eq]; show 1 + (atomsL (mergeGo t.ks u.ks)).length ≤ _; omega) HV.out)
      have O7 := hide (O5.out.below hB)
      clear hkq hcv hat hcx hal hll hmg
      go_wp2_with fail
      refine HX.out.mono ?_
      rintro e w8 ⟨gz, cz, rfl, hcz, hgz, haz, hb8⟩
      have O8 := hide (O7.out.below hb8)
      have HY := hide (HRG.out gz cz w8 haz hcz)
      clear haz hb8 HX
      generalize (T.mk 6 0 ⟨#[]⟩ (mergeGo t.ks u.ks)).atoms = la at *
      go_wp2_with fail
      refine HY.out.mono ?_
      rintro e w9 ⟨hb9, ⟨-, rfl⟩ | ⟨ga, ca, hga, rfl, ha⟩⟩
      all_goals
        have o9 := O8.out.below hb9
        have r9 := o9.r
        have f9 := o9.f
        have B9 := o9.B
        clear hb9 o9
        go_wp2
      · refine bodyPost_ret (v := .tuple #[.agg #[.slice none 0 0], .string ⟨#[108, 97, 114, 103, 101]⟩]) (by simp [results, Tryz.results19, go_sem, r9]) rfl ?_
        exact ⟨B9.setCell (p := ⟨w.heap.size + 1 + 1, 0, none⟩) (by show w.heap.size ≤ w.heap.size + 1 + 1; omega) _, .inl ⟨rfl, rfl⟩⟩
      · refine bodyPost_ret (v := .tuple #[.agg #[.slice (some ⟨ga, 0, none⟩) 0 ca], .string ⟨#[108, 97, 114, 103, 101]⟩]) (by simp [results, Tryz.results19, go_sem, r9]) rfl ?_
        exact ⟨B9.setCell (p := ⟨w.heap.size + 1 + 1, 0, none⟩) (by show w.heap.size ≤ w.heap.size + 1 + 1; omega) _, .inr ⟨ga, ca, by have := O8.out.B.size; omega, rfl, atomsO_set ha _ (by have := O8.out.z; show w.heap.size + 1 + 1 ≠ ga; omega) _⟩⟩
end Go.Proofs.YtnkfbjcgkdblgaaGreat.Vl
