/- Joined: Wa, Lo. -/
import Derived.Test.YtnkfbjcgkdblgaaGreatG35
import Derived.Test.YtnkfbjcgkdblgaaGreatG36
import Derived.Test.YtnkfbjcgkdblgaaGreatG38
import Derived.Test.YtnkfbjcgkdblgaaGreatG46
import Derived.Test.YtnkfbjcgkdblgaaGreatG25
namespace Go.Proofs.YtnkfbjcgkdblgaaGreat.Vl
open Go.RowKit T.atoms T.ok T.high T.good T.allPlain DatAt T.ord

/-- One name ahead of another. -/
def nLt (a b : Fe) : Bool := Go.Op.bytesLess a.1.text.toList b.1.text.toList
def nEq (a b : Fe) : Bool := a.1.text.toList == b.1.text.toList
theorem nLt_irrefl (a : Fe) : nLt a a = false := less_selfT _
theorem nLt_trans {a b c : Fe} (h : nLt a b = true) (h' : nLt b c = true) : nLt a c = true := less_trans _ _ _ h h'
theorem nLt_congr {a b c : Fe} (h : nEq a b = true) : nLt a c = nLt b c := by unfold nEq at h; rw [beq_iff_eq] at h; unfold nLt; rw [h]
theorem nLt_congr' {a b c : Fe} (h : nEq a b = true) : nLt c a = nLt c b := by unfold nEq at h; rw [beq_iff_eq] at h; unfold nLt; rw [h]
theorem nLt_total {a b : Fe} (h : nLt a b = false) : nLt b a = true ∨ nEq b a = true := by
  have t := less_total b.1.text.toList a.1.text.toList
  unfold nLt at h ⊢
  unfold nEq
  rw [h] at t
  exact (Bool.or_eq_true _ _).mp t
theorem nEq_symm {a b : Fe} (h : nEq a b = true) : nEq b a = true := by unfold nEq at h ⊢; rw [beq_iff_eq] at h ⊢; exact h.symm
theorem nLt_ne {a b : Fe} (h : nLt a b = true) : nEq a b = false := by
  cases q : nEq a b with
  | false => rfl
  | true => rw [nLt_congr q, nLt_irrefl] at h; cases h
def SL (d : List Fe) : Prop := d.Pairwise (fun a b => nLt a b = true)
/-- A field set among others. -/
def insGo (e : Fe) : List Fe → Bool → List Fe
  | x :: r, dn => (if !dn && !(nLt x e) then [e] else []) ++ ((if nEq x e then [] else [x]) ++ insGo e r (dn || !(nLt x e)))
  | [], dn => if dn then [] else [e]
theorem insGo_set (e : Fe) (he : e.1 = T.mk 4 0 e.1.text []) : ∀ (d : List Fe) (dn : Bool), setGo e.1.text e.2.1 (d.flatMap kidsF) dn = (insGo e d dn).flatMap kidsF
  | [], dn => by
    have e1 : kidsF e = [T.mk 4 0 e.1.text [], e.2.1] := by unfold kidsF; rw [← he]
    cases dn
    · show [T.mk 4 0 e.1.text [], e.2.1] = kidsF e ++ []
      rw [e1]; rfl
    · rfl
  | x :: r, dn => by
    have e1 : kidsF e = [T.mk 4 0 e.1.text [], e.2.1] := by unfold kidsF; rw [← he]
    have ih := insGo_set e he r
    show setGo e.1.text e.2.1 (x.1 :: x.2.1 :: r.flatMap kidsF) dn = _
    unfold setGo insGo
    rw [ih, List.flatMap_append, List.flatMap_append]
    congr 1
    · show (if (!dn && !(nLt x e)) = true then [T.mk 4 0 e.1.text [], e.2.1] else []) = _
      split
      · rw [← e1]; simp
      · rfl
    · congr 1
      show (if nEq x e = true then [] else [x.1, x.2.1]) = _
      split
      · rfl
      · simp [kidsF]
theorem insGo_true (e : Fe) : ∀ (d : List Fe), insGo e d true = d.filter (fun x => !(nEq x e))
  | [] => rfl
  | x :: r => by
    unfold insGo
    rw [Bool.true_or, insGo_true e r, List.filter_cons]
    cases nEq x e <;> rfl
theorem insGo_perm (e : Fe) : ∀ (d : List Fe), (insGo e d false).Perm (e :: d.filter (fun x => !(nEq x e)))
  | [] => .refl _
  | x :: r => by
    unfold insGo
    cases h : nLt x e
    · simp only [Bool.not_false, Bool.and_self, if_true, Bool.false_or]
      rw [insGo_true, List.filter_cons]
      cases nEq x e <;> exact .refl _
    · have h2 := nLt_ne h
      simp only [Bool.not_true, Bool.and_false, Bool.false_eq_true, if_false, h2, Bool.false_or, List.nil_append, List.filter_cons, Bool.not_false, if_true]
      exact ((insGo_perm e r).cons x).trans (.swap ..)
theorem insGo_sorted (e : Fe) : ∀ (d : List Fe), SL d → SL (insGo e d false)
  | [], _ => List.pairwise_singleton ..
  | x :: r, hs => by
    have hs' := List.pairwise_cons.1 hs
    unfold insGo
    cases h : nLt x e
    · simp only [Bool.not_false, Bool.and_self, if_true, Bool.false_or]
      rw [insGo_true]
      have hall : ∀ y ∈ (x :: r), nEq y e = false → nLt e y = true := by
        intro y hy hne
        rcases nLt_total h with q | q
        · rcases List.mem_cons.1 hy with rfl | hy
          · exact q
          · exact nLt_trans q (hs'.1 y hy)
        · rcases List.mem_cons.1 hy with rfl | hy
          · rw [nEq_symm q] at hne; cases hne
          · rw [nLt_congr q]; exact hs'.1 y hy
      have e1 : (if nEq x e = true then [] else [x]) ++ r.filter (fun x => !(nEq x e)) = (x :: r).filter (fun x => !(nEq x e)) := by
        rw [List.filter_cons]
        cases nEq x e <;> rfl
      rw [e1]
      show SL (e :: (x :: r).filter (fun x => !(nEq x e)))
      refine List.pairwise_cons.2 ⟨fun y hy => ?_, List.Pairwise.filter _ hs⟩
      obtain ⟨h1, h2⟩ := List.mem_filter.1 hy
      exact hall y h1 (by simpa using h2)
    · have h2 := nLt_ne h
      simp only [Bool.not_true, Bool.and_false, Bool.false_eq_true, if_false, h2, Bool.false_or, List.nil_append]
      show SL (x :: insGo e r false)
      refine List.pairwise_cons.2 ⟨fun y hy => ?_, insGo_sorted e r hs'.2⟩
      rcases List.mem_cons.1 ((insGo_perm e r).mem_iff.1 hy) with rfl | hy
      · exact h
      · exact hs'.1 y (List.mem_filter.1 hy).1
/-- Fields set among others, one by one. -/
def mergeP : List Fe → List Fe → List Fe
  | d, e :: r => mergeP (insGo e d false) r
  | d, [] => d
theorem mergeP_go : ∀ (es d : List Fe), (∀ e ∈ es, e.1 = T.mk 4 0 e.1.text []) → mergeGo (d.flatMap kidsF) (es.flatMap kidsF) = (mergeP d es).flatMap kidsF
  | [], d, _ => rfl
  | e :: r, d, h => by
    show mergeGo (setGo e.1.text e.2.1 (d.flatMap kidsF) false) (r.flatMap kidsF) = (mergeP (insGo e d false) r).flatMap kidsF
    rw [insGo_set e (h e (List.mem_cons_self ..)), mergeP_go r _ (fun x hx => h x (List.mem_cons_of_mem _ hx))]
theorem mergeP_sorted : ∀ (es d : List Fe), SL d → SL (mergeP d es)
  | [], _, h => h
  | e :: r, d, h => mergeP_sorted r _ (insGo_sorted e d h)
def isIn (es : List Fe) (x : Fe) : Bool := es.any (fun e => nEq x e)
theorem mergeP_perm : ∀ (es d : List Fe), SL es → (mergeP d es).Perm (es ++ d.filter (fun x => !(isIn es x)))
  | [], d, _ => by
    show d.Perm (d.filter (fun x => !(isIn [] x)))
    have h : d.filter (fun x => !(isIn [] x)) = d := List.filter_eq_self.2 (fun x _ => rfl)
    rw [h]
  | e :: r, d, hs => by
    have hs' := List.pairwise_cons.1 hs
    have h1 := mergeP_perm r (insGo e d false) hs'.2
    have h2 : ((insGo e d false).filter (fun x => !(isIn r x))).Perm ((e :: d.filter (fun x => !(nEq x e))).filter (fun x => !(isIn r x))) := (insGo_perm e d).filter _
    have h3 : isIn r e = false := by
      unfold isIn
      rw [List.any_eq_false]
      intro y hy
      rw [nLt_ne (hs'.1 y hy)]
      decide
    have h4 : (e :: d.filter (fun x => !(nEq x e))).filter (fun x => !(isIn r x)) = e :: d.filter (fun x => !(isIn (e :: r) x)) := by
      rw [List.filter_cons, h3, List.filter_filter]
      show e :: _ = _
      congr 2
      funext x
      unfold isIn
      rw [List.any_cons, Bool.not_or, Bool.and_comm]
    rw [h4] at h2
    exact (h1.trans ((List.Perm.refl r).append h2)).trans List.perm_middle
theorem SL_of_names : ∀ (d : List Fe), names (d.flatMap kidsF) = true → SL d ∧ ∀ e ∈ d, e.1.kind = 4
  | [], _ => ⟨.nil, fun e h => by cases h⟩
  | [a], h => ⟨List.pairwise_singleton .., fun e he => by
      obtain rfl := List.mem_singleton.1 he
      have h : (e.1.kind == 4) = true := h
      simpa using h⟩
  | a :: b :: r, h => by
    have h : (a.1.kind == 4 && b.1.kind == 4 && slt a.1.text b.1.text && names ((b :: r).flatMap kidsF)) = true := h
    simp only [Bool.and_eq_true] at h
    obtain ⟨h1, h2⟩ := SL_of_names (b :: r) h.2
    have hab : nLt a b = true := h.1.2
    refine ⟨List.pairwise_cons.2 ⟨fun y hy => ?_, h1⟩, fun e he => ?_⟩
    · rcases List.mem_cons.1 hy with rfl | hy
      · exact hab
      · exact nLt_trans hab ((List.pairwise_cons.1 h1).1 y hy)
    · rcases List.mem_cons.1 he with rfl | he
      · simpa using h.1.1.1
      · exact h2 e he
theorem names_of_SL : ∀ (d : List Fe), SL d → (∀ e ∈ d, e.1.kind = 4) → names (d.flatMap kidsF) = true
  | [], _, _ => rfl
  | [a], _, h => by
    show (a.1.kind == 4) = true
    simpa using h a (List.mem_cons_self ..)
  | a :: b :: r, hs, h => by
    have hs' := List.pairwise_cons.1 hs
    show (a.1.kind == 4 && b.1.kind == 4 && slt a.1.text b.1.text && names ((b :: r).flatMap kidsF)) = true
    simp only [Bool.and_eq_true]
    exact ⟨⟨⟨by simpa using h a (List.mem_cons_self ..), by simpa using h b (by simp)⟩, hs'.1 b (List.mem_cons_self ..)⟩, names_of_SL (b :: r) hs'.2 (fun e he => h e (List.mem_cons_of_mem _ he))⟩
theorem bare_of {t : T} (hg : t.good = true) (hk : t.kind = 4) : t = T.mk 4 0 t.text [] := by
  cases t with
  | mk k n s ks =>
    have hk : k = 4 := hk
    subst hk
    rw [T.good_eq] at hg
    simp only [T.kind, T.num, T.text, T.ks, Bool.and_eq_true] at hg
    have hp := hg.1.1
    unfold plain at hp
    simp only [Bool.and_eq_true] at hp
    have h1 : n = 0 := by simpa using hp.1.1.1
    have h2 : ks = [] := by simpa using hp.1.2
    rw [h1, h2]
    rfl
theorem kidsF_even : ∀ (d : List Fe) (j : Nat) (h : j < d.length), (d.flatMap kidsF)[2 * j]? = some (d[j]).1
  | e :: r, 0, _ => rfl
  | e :: r, j + 1, h => by
    have ih := kidsF_even r j (by simpa using h)
    rw [show 2 * (j + 1) = 2 * j + 1 + 1 by omega]
    exact ih
theorem get_isIn (fb : List Fe) (e : Fe) : (getAt (fb.flatMap kidsF) e.1.text).isSome = isIn fb e := by
  rw [Bool.eq_iff_iff, get_iff _ fb.length _ (kidsF_len fb)]
  unfold isIn
  rw [List.any_eq_true]
  constructor
  · rintro ⟨j, hj, h⟩
    have h := cmpS_zero h
    unfold nameAt at h
    rw [kidsF_even fb j hj] at h
    refine ⟨fb[j], List.getElem_mem hj, ?_⟩
    unfold nEq
    rw [beq_iff_eq, ← h]
    rfl
  · rintro ⟨x, hx, h⟩
    obtain ⟨j, hj, rfl⟩ := List.mem_iff_getElem.1 hx
    refine ⟨j, hj, ?_⟩
    unfold nameAt
    rw [kidsF_even fb j hj]
    unfold nEq at h
    rw [beq_iff_eq] at h
    show cmpS (fb[j]).1.text e.1.text = 0
    unfold cmpS cmpB
    rw [h]
    simp
theorem sorted_one {d m : List Fe} (hp : d.Perm m) (hd : d.Pairwise (fun a b => ltOf cfF b a = false)) (hm : SL m) : d = m := by
  have hlt : ∀ a b : Fe, ltOf cfF a b = nLt a b := by
    intro a b
    rw [Bool.eq_iff_iff, cfF_neg]
    rfl
  have hmn : ∀ a ∈ m, ∀ b ∈ m, nEq a b = true → a = b := by
    intro a ha b hb hab
    obtain ⟨i, hi, rfl⟩ := List.mem_iff_getElem.1 ha
    obtain ⟨j, hj, rfl⟩ := List.mem_iff_getElem.1 hb
    rcases Nat.lt_trichotomy i j with h | h | h
    · have := List.pairwise_iff_getElem.1 hm i j hi hj h
      rw [nLt_ne this] at hab; cases hab
    · subst h; rfl
    · have := List.pairwise_iff_getElem.1 hm j i hj hi h
      exact absurd (nLt_ne this) (by rw [nEq_symm hab]; decide)
  refine List.Perm.eq_of_pairwise (le := fun x y => ltOf cfF y x = false) ?_ hd ?_ hp
  · intro a b ha hb h1 h2
    rw [hlt] at h1 h2
    rcases nLt_total h1 with q | q
    · rw [q] at h2; cases h2
    · exact hmn a (hp.mem_iff.1 ha) b hb q
  · refine hm.imp ?_
    intro a b h
    rw [hlt]
    cases q : nLt b a with
    | false => rfl
    | true => have := nLt_trans h q; rw [nLt_irrefl] at this; cases this
/-- Records put together: both sides alike. -/
theorem merge_same (t u : T) (fa fb d : List Fe) (hg : t.good = true) (hg' : u.good = true) (hk : t.kind = 6) (hk' : u.kind = 6) (ea : t.ks = fa.flatMap kidsF) (eb : u.ks = fb.flatMap kidsF) (hp : d.Perm (fb ++ keptF u.ks fa)) (hd : d.Pairwise (fun a b => ltOf cfF b a = false)) : d.flatMap kidsF = mergeGo t.ks u.ks ∧ names (mergeGo t.ks u.ks) = true := by
  have hn : names t.ks = true ∧ goodL t.ks = true := by
    have he : t = .mk t.kind t.num t.text t.ks := T.eta t
    rw [he, hk] at hg
    exact ⟨good_names hg, good_kids hg⟩
  have hn' : names u.ks = true ∧ goodL u.ks = true := by
    have he : u = .mk u.kind u.num u.text u.ks := T.eta u
    rw [he, hk'] at hg'
    exact ⟨good_names hg', good_kids hg'⟩
  rw [ea] at hn ⊢
  rw [eb] at hn' hp ⊢
  obtain ⟨sa, ka⟩ := SL_of_names fa hn.1
  obtain ⟨sb, kb⟩ := SL_of_names fb hn'.1
  have hbare : ∀ e ∈ fb, e.1 = T.mk 4 0 e.1.text [] := fun e he => bare_of (goodL_mem _ hn'.2 e.1 (List.mem_flatMap.2 ⟨e, he, by simp [kidsF]⟩)) (kb e he)
  rw [mergeP_go fb fa hbare]
  have h1 : keptF (fb.flatMap kidsF) fa = fa.filter (fun x => !(isIn fb x)) := by
    unfold keptF
    congr 1
    funext e
    rw [get_isIn]
  rw [h1] at hp
  have h2 := mergeP_perm fb fa sb
  have h3 := mergeP_sorted fb fa sa
  have h4 := sorted_one (hp.trans h2.symm) hd h3
  refine ⟨by rw [h4], names_of_SL _ h3 (fun e he => ?_)⟩
  rcases List.mem_append.1 (h2.mem_iff.1 he) with h | h
  · exact kb e h
  · exact ka e (List.mem_filter.1 h).1
def mergeR (t u : T) : List T := mergeGo t.ks u.ks
theorem leaf_records : LeafRR 68 (catRR mergeR) := leaf_catR mergeR merge_same
end Go.Proofs.YtnkfbjcgkdblgaaGreat.Vl
namespace Go.Proofs.YtnkfbjcgkdblgaaGreat.Vl
open Go.RowKit T.atoms T.ok T.high T.good T.allPlain T.ord
set_option maxRecDepth 100000 in
set_option maxHeartbeats 1000000 in
theorem specOp_bad1 (op : Int) (l l' : List At) (g g' c c' : Nat) (w : World) (ht : AtomsO w g 0 l) (_ht' : AtomsO w g' 0 l') (hc : l.length ≤ c) (_hc' : l'.length ≤ c') (hl : l.length ≤ 1048576) (_hl' : l'.length ≤ 1048576) (hv : valid l = false) :
    Calls Tryz.prog 5 #[.int .i64 op, .agg #[.slice (some ⟨g, 0, none⟩) l.length c], .agg #[.slice (some ⟨g', 0, none⟩) l'.length c']] w (OPost w ([], wTy)) := by
  have HV1 := hide (fun w1 (hb : Below w.heap.size w w1) => specValid_any l g 0 c w1 (fun _ => rfl) (ht.below hb) hc hl)
  have HN := hide (no6_any ⟨#[116, 121, 112, 101]⟩)
  clear ht
  have o0 := OB.start w (.slice (some ⟨g, 0, none⟩) l.length c) (.slice (some ⟨g', 0, none⟩) l'.length c')
  rw [hv] at HV1
  go_enter Tryz.func5, Tryz.ntmps5
  go_wp2_with fail
  refine (HV1.out _ o0.B).mono ?_
  rintro e w1 ⟨rfl, hb1⟩
  have o1 := o0.below hb1
  clear hb1 o0
  go_wp2_with fail
  refine (HN.out _).mono ?_
  rintro e w6 ⟨rfl, hb6⟩
  have o6 := o1.below hb6
  have r6 := o6.r
  have f6 := o6.f
  have B6 := o6.B
  clear hb6 o6
  go_wp2
  refine bodyPost_ret (v := .tuple #[.agg #[.slice none 0 0], .string ⟨#[116, 121, 112, 101]⟩]) (by simp [results, Tryz.results5, go_sem, r6]) rfl ?_
  exact ⟨B6.setCell (p := ⟨w.heap.size + 1 + 1, 0, none⟩) (by show w.heap.size ≤ w.heap.size + 1 + 1; omega) _, .inl ⟨rfl, rfl⟩⟩
set_option maxRecDepth 100000 in
set_option maxHeartbeats 1000000 in
theorem specOp_bad2 (op : Int) (l l' : List At) (g g' c c' : Nat) (w : World) (ht : AtomsO w g 0 l) (ht' : AtomsO w g' 0 l') (hc : l.length ≤ c) (hc' : l'.length ≤ c') (hl : l.length ≤ 1048576) (hl' : l'.length ≤ 1048576) (hv : valid l = true) (hv' : valid l' = false) :
    Calls Tryz.prog 5 #[.int .i64 op, .agg #[.slice (some ⟨g, 0, none⟩) l.length c], .agg #[.slice (some ⟨g', 0, none⟩) l'.length c']] w (OPost w ([], wTy)) := by
  have HV1 := hide (fun w1 (hb : Below w.heap.size w w1) => specValid_any l g 0 c w1 (fun _ => rfl) (ht.below hb) hc hl)
  have HV2 := hide (fun w1 (hb : Below w.heap.size w w1) => specValid_any l' g' 0 c' w1 (fun _ => rfl) (ht'.below hb) hc' hl')
  have HN := hide (no6_any ⟨#[116, 121, 112, 101]⟩)
  clear ht ht'
  have o0 := OB.start w (.slice (some ⟨g, 0, none⟩) l.length c) (.slice (some ⟨g', 0, none⟩) l'.length c')
  rw [hv] at HV1
  rw [hv'] at HV2
  go_enter Tryz.func5, Tryz.ntmps5
  go_wp2_with fail
  refine (HV1.out _ o0.B).mono ?_
  rintro e w1 ⟨rfl, hb1⟩
  have o1 := o0.below hb1
  clear hb1 o0
  have a1 := o1.b
  go_wp2_with fail
  refine (HV2.out _ o1.B).mono ?_
  rintro e w2 ⟨rfl, hb2⟩
  have o2 := o1.below hb2
  clear hb2 o1 a1
  go_wp2_with fail
  refine (HN.out _).mono ?_
  rintro e w6 ⟨rfl, hb6⟩
  have o6 := o2.below hb6
  have r6 := o6.r
  have f6 := o6.f
  have B6 := o6.B
  clear hb6 o6
  go_wp2
  refine bodyPost_ret (v := .tuple #[.agg #[.slice none 0 0], .string ⟨#[116, 121, 112, 101]⟩]) (by simp [results, Tryz.results5, go_sem, r6]) rfl ?_
  exact ⟨B6.setCell (p := ⟨w.heap.size + 1 + 1, 0, none⟩) (by show w.heap.size ≤ w.heap.size + 1 + 1; omega) _, .inl ⟨rfl, rfl⟩⟩
set_option maxRecDepth 100000 in
set_option maxHeartbeats 1000000 in
theorem specOp_none (op : Int) (l l' : List At) (g g' c c' : Nat) (w : World) (ht : AtomsO w g 0 l) (ht' : AtomsO w g' 0 l') (hc : l.length ≤ c) (hc' : l'.length ≤ c') (hl : l.length ≤ 1048576) (hl' : l'.length ≤ 1048576) (hv : valid l = true) (hv' : valid l' = true) (ho : ¬ (1 ≤ op ∧ op ≤ 14)) :
    Calls Tryz.prog 5 #[.int .i64 op, .agg #[.slice (some ⟨g, 0, none⟩) l.length c], .agg #[.slice (some ⟨g', 0, none⟩) l'.length c']] w (OPost w ([], wTy)) := by
  have HV1 := hide (fun w1 (hb : Below w.heap.size w w1) => specValid_any l g 0 c w1 (fun _ => rfl) (ht.below hb) hc hl)
  have HV2 := hide (fun w1 (hb : Below w.heap.size w w1) => specValid_any l' g' 0 c' w1 (fun _ => rfl) (ht'.below hb) hc' hl')
  have HN := hide (no6_any ⟨#[116, 121, 112, 101]⟩)
  clear ht ht'
  have o0 := OB.start w (.slice (some ⟨g, 0, none⟩) l.length c) (.slice (some ⟨g', 0, none⟩) l'.length c')
  rw [hv] at HV1
  rw [hv'] at HV2
  have HIN := hide (fun w' => in1_any op 1 14 w')
  rw [decide_eq_false ho] at HIN
  go_enter Tryz.func5, Tryz.ntmps5
  go_wp2_with fail
  refine (HV1.out _ o0.B).mono ?_
  rintro e w1 ⟨rfl, hb1⟩
  have o1 := o0.below hb1
  clear hb1 o0
  have a1 := o1.b
  go_wp2_with fail
  refine (HV2.out _ o1.B).mono ?_
  rintro e w2 ⟨rfl, hb2⟩
  have o2 := o1.below hb2
  clear hb2 o1 a1
  go_wp2_with (go_at_call 13; refine (HIN.out _).mono ?_; rintro e w2' ⟨rfl, rfl⟩)
  refine (HN.out _).mono ?_
  rintro e w6 ⟨rfl, hb6⟩
  have o6 := o2.below hb6
  have r6 := o6.r
  have f6 := o6.f
  have B6 := o6.B
  clear hb6 o6
  go_wp2
  refine bodyPost_ret (v := .tuple #[.agg #[.slice none 0 0], .string ⟨#[116, 121, 112, 101]⟩]) (by simp [results, Tryz.results5, go_sem, r6]) rfl ?_
  exact ⟨B6.setCell (p := ⟨w.heap.size + 1 + 1, 0, none⟩) (by show w.heap.size ≤ w.heap.size + 1 + 1; omega) _, .inl ⟨rfl, rfl⟩⟩
end Go.Proofs.YtnkfbjcgkdblgaaGreat.Vl
