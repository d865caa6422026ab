/- Targets: rows in order, the two ways are one: the plain mathematics. -/
import Derived.Test.YtmpjdooepdicoaaGreatDoorBd
namespace Go.Proofs.YtmpjdooepdicoaaGreatDoor.Vl
open Go.RowKit T.atoms T.ok T.high T.good T.allPlain DatAt

theorem geS_eq (x s : ByteArray) : geS x s = !slt x s := rfl
theorem putGo_true (s : ByteArray) : ∀ (l : List ByteArray), s ∉ l → putGo s l true = l
  | [], _ => rfl
  | x :: r, h => by
    have h1 : x ≠ s := fun e => h (by rw [e]; exact List.mem_cons_self ..)
    rw [putGo, if_neg h1]
    simp only [Bool.not_true, Bool.false_and, Bool.true_or]
    rw [putGo_true s r (fun hm => h (List.mem_cons_of_mem _ hm))]
    rfl
theorem putS_spec (s : ByteArray) : ∀ (l : List ByteArray), s ∉ l → l.Pairwise (fun a b => slt a b = true) → (putS s l).Perm (s :: l) ∧ (putS s l).Pairwise (fun a b => slt a b = true)
  | [], _, _ => ⟨List.Perm.refl _, List.pairwise_singleton _ _⟩
  | x :: r, h, hp => by
    have h1 : x ≠ s := fun e => h (by rw [e]; exact List.mem_cons_self ..)
    have hr : s ∉ r := fun hm => h (List.mem_cons_of_mem _ hm)
    have hpc := List.pairwise_cons.1 hp
    unfold putS
    rw [putGo, if_neg h1, geS_eq]
    cases hx : slt x s with
    | false =>
      simp only [Bool.not_false, Bool.true_and, Bool.false_or, Bool.not_false]
      rw [putGo_true s r hr]
      have hsx : slt s x = true := by
        cases hq : slt s x with
        | true => rfl
        | false => exact absurd (slt_tot hx hq) h1
      refine ⟨List.Perm.refl _, List.pairwise_cons.2 ⟨fun y hy => ?_, hp⟩⟩
      rcases List.mem_cons.1 hy with rfl | hy
      · exact hsx
      · exact slt_tr hsx (hpc.1 y hy)
    | true =>
      simp only [Bool.not_true, Bool.and_false, Bool.or_false]
      have ih := putS_spec s r hr hpc.2
      unfold putS at ih
      refine ⟨(List.Perm.cons x ih.1).trans (List.Perm.swap _ _ _), List.pairwise_cons.2 ⟨fun y hy => ?_, ih.2⟩⟩
      rcases List.mem_cons.1 (ih.1.mem_iff.1 hy) with rfl | hy
      · exact hx
      · exact hpc.1 y hy
theorem fold_spec : ∀ (l a : List ByteArray), a.Pairwise (fun a b => slt a b = true) → (l ++ a).Nodup → (l.foldl (fun a s => putS s a) a).Perm (l ++ a) ∧ (l.foldl (fun a s => putS s a) a).Pairwise (fun a b => slt a b = true)
  | [], a, h, _ => ⟨List.Perm.refl _, h⟩
  | s :: l, a, h, hn => by
    rw [List.cons_append] at hn
    have hc := List.nodup_cons.1 hn
    have hs := putS_spec s a (fun hm => hc.1 (List.mem_append_right _ hm)) h
    have hp : (l ++ putS s a).Perm (s :: (l ++ a)) := (List.Perm.append_left l hs.1).trans List.perm_middle
    have ih := fold_spec l (putS s a) hs.2 (hp.nodup_iff.2 hn)
    rw [List.foldl_cons]
    exact ⟨ih.1.trans hp, ih.2⟩
theorem sortS_spec (l : List ByteArray) (h : l.Nodup) : (sortS l).Perm l ∧ (sortS l).Pairwise (fun a b => slt a b = true) := by
  have := fold_spec l [] List.Pairwise.nil (by rw [List.append_nil]; exact h)
  rw [List.append_nil] at this
  exact this
theorem slt_data (a b : ByteArray) : slt a b = decide (a.data.toList < b.data.toList) := by
  unfold slt
  rw [bytesLess_eq, Lib.toList_data, Lib.toList_data]
theorem srtI_perm (l : List ByteArray) : (srtI l).Perm l := by
  unfold srtI
  have h := (List.mergeSort_perm (l.map fun s => s.data.toList) (fun x y => decide (x ≤ y))).map (fun x => (⟨x.toArray⟩ : ByteArray))
  rw [List.map_map] at h
  refine h.trans (List.Perm.of_eq ?_)
  conv => rhs; rw [← List.map_id l]
  apply List.map_congr_left
  intro a _
  simp
theorem srtI_sorted (l : List ByteArray) : (srtI l).Pairwise (fun a b => slt b a = false) := by
  unfold srtI
  rw [List.pairwise_map]
  have h := List.pairwise_mergeSort (le := fun (x y : List UInt8) => decide (x ≤ y)) (fun a b c h1 h2 => by
    rw [decide_eq_true_eq] at h1 h2 ⊢
    exact List.le_trans h1 h2) (fun a b => by
    rw [Bool.or_eq_true, decide_eq_true_eq, decide_eq_true_eq]
    exact List.le_total a b) (l.map fun s => s.data.toList)
  refine h.imp ?_
  intro a b hab
  rw [slt_data, decide_eq_false_iff_not]
  rw [decide_eq_true_eq] at hab
  exact List.not_lt.2 hab
theorem srtI_eq (l : List ByteArray) (h : l.Nodup) : srtI l = sortS l := by
  have hs := sortS_spec l h
  refine List.Perm.eq_of_pairwise (le := fun a b => slt b a = false) (fun a b _ _ h1 h2 => slt_tot h2 h1) (srtI_sorted l) (hs.2.imp ?_) ((srtI_perm l).trans hs.1.symm)
  intro a b hab
  cases hq : slt b a with
  | false => rfl
  | true => exact absurd (slt_tr hab hq) (by rw [slt_irr]; decide)
theorem twice_bad (l : List ByteArray) : twice l = outsBad [] l := by
  unfold twice outsBad
  congr 1
theorem bad_one (acc : List ByteArray) (s : ByteArray) : outsBad acc [s] = memS s acc := by
  cases h : memS s acc with
  | true => exact outsBad_yes (i := 0) (by simp) (by simp [h])
  | false => exact outsBad_no (fun i hi => by
      have : i = 0 := by simpa using hi
      subst this
      exact ⟨h, by simp [memS]⟩)
theorem bad_nodup (acc l : List ByteArray) (h : outsBad acc l = false) : l.Nodup ∧ ∀ x ∈ l, x ∉ acc := by
  have key : ∀ i (hi : i < l.length), memS l[i] acc = false ∧ memS l[i] (l.take i) = false := by
    intro i hi
    cases hq : (memS l[i] acc || memS l[i] (l.take i)) with
    | true => rw [outsBad_yes hi hq] at h; cases h
    | false => exact Bool.or_eq_false_iff.1 hq
  constructor
  · rw [List.nodup_iff_pairwise_ne, List.pairwise_iff_getElem]
    intro i j hi hj hij e
    have h2 := memS_not.1 (key j hj).2
    apply h2
    rw [← e]
    rw [List.mem_take_iff_getElem]
    exact ⟨i, by omega, rfl⟩
  · intro x hx
    obtain ⟨i, hi, rfl⟩ := List.getElem_of_mem hx
    exact memS_not.1 (key i hi).1
/-- Targets with names that differ: picked by their sorted names, or sorted by name. -/
theorem picked_spec (ts : List Tg) (h : (ts.map Tg.name).Nodup) : (picked (ts.map Tg.name) ts).Perm ts ∧ (picked (ts.map Tg.name) ts).map Tg.name = sortS (ts.map Tg.name) := by
  have one : ∀ (l : List Tg), (l.map Tg.name).Nodup → ∀ x ∈ l, (l.filter fun y => decide (y.name = x.name)) = [x] := by
    intro l
    induction l with
    | nil => intro _ x hx; cases hx
    | cons a r ih =>
      intro hn x hx
      rw [List.map_cons] at hn
      have hc := List.nodup_cons.1 hn
      rcases List.mem_cons.1 hx with rfl | hx
      · rw [List.filter_cons_of_pos (by simp)]
        have : (r.filter fun y => decide (y.name = x.name)) = [] := by
          rw [List.filter_eq_nil_iff]
          intro y hy hq
          rw [decide_eq_true_eq] at hq
          exact hc.1 (by rw [← hq]; exact List.mem_map_of_mem hy)
        rw [this]
      · rw [List.filter_cons_of_neg, ih hc.2 x hx]
        rw [decide_eq_true_eq]
        intro e
        exact hc.1 (by rw [e]; exact List.mem_map_of_mem hx)
  have hs := sortS_spec _ h
  unfold picked
  constructor
  · have h1 : ((sortS (ts.map Tg.name)).flatMap fun s => ts.filter fun x => decide (x.name = s)).Perm ((ts.map Tg.name).flatMap fun s => ts.filter fun x => decide (x.name = s)) := List.Perm.flatMap_right _ hs.1
    refine h1.trans (List.Perm.of_eq ?_)
    rw [List.flatMap_map]
    have : (ts.flatMap fun x => ts.filter fun y => decide (y.name = x.name)) = ts.flatMap fun x => [x] := by
      rw [List.flatMap_def, List.flatMap_def]
      congr 1
      apply List.map_congr_left
      intro x hx
      exact one ts h x hx
    rw [this]
    simp
  · rw [List.map_flatMap]
    have : ((sortS (ts.map Tg.name)).flatMap fun s => (ts.filter fun x => decide (x.name = s)).map Tg.name) = (sortS (ts.map Tg.name)).flatMap fun s => [s] := by
      rw [List.flatMap_def, List.flatMap_def]
      congr 1
      apply List.map_congr_left
      intro s hsm
      obtain ⟨x, hx, rfl⟩ := List.mem_map.1 (hs.1.mem_iff.1 hsm)
      rw [one ts h x hx]
      rfl
    rw [this]
    simp
theorem picked_eq (ts us : List Tg) (h : (ts.map Tg.name).Nodup) (hp : us.Perm ts) (hs : us.Pairwise (fun a b => slt b.name a.name = false)) : us = picked (ts.map Tg.name) ts := by
  obtain ⟨h1, h2⟩ := picked_spec ts h
  have hsort := (sortS_spec _ h).2
  rw [← h2, List.pairwise_map] at hsort
  have inj : ∀ a b, a ∈ ts → b ∈ ts → a.name = b.name → a = b := by
    intro a b ha hb e
    obtain ⟨i, hi, rfl⟩ := List.getElem_of_mem ha
    obtain ⟨j, hj, rfl⟩ := List.getElem_of_mem hb
    have hij : i = j := by
      rw [List.nodup_iff_pairwise_ne, List.pairwise_iff_getElem] at h
      rcases Nat.lt_trichotomy i j with q | q | q
      · exact absurd e (by have := h i j (by simpa using hi) (by simpa using hj) q; simpa using this)
      · exact q
      · exact absurd e.symm (by have := h j i (by simpa using hj) (by simpa using hi) q; simpa using this)
    subst hij
    rfl
  refine List.Perm.eq_of_pairwise (le := fun a b => slt b.name a.name = false) (fun a b ha hb q1 q2 => inj a b (hp.mem_iff.1 ha) (h1.mem_iff.1 hb) (slt_tot q2 q1)) hs (hsort.imp ?_) (hp.trans h1.symm)
  intro a b hab
  cases hq : slt b.name a.name with
  | false => rfl
  | true => exact absurd (slt_tr hab hq) (by rw [slt_irr]; decide)
end Go.Proofs.YtmpjdooepdicoaaGreatDoor.Vl
