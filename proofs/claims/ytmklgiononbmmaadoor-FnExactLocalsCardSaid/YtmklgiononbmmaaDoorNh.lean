/- What fits, on the program's side: the walk over a node, all kinds. -/
import Derived.Test.YtmklgiononbmmaaDoorNg
namespace Go.Proofs.YtmklgiononbmmaaDoor
open Go.RowKit

set_option maxRecDepth 100000 in
set_option maxHeartbeats 2000000 in
theorem walk_step (ns : List Tr.Nd) (ks : List (List Nat)) (wb tg tc kg kc cg bg f : Nat) (hG : WkOk ns ks wb tg tc kg kc cg bg f (Tr.iwalk ns ks f)) (hn : ns.length ≤ 5000) (hkid : ∀ k (h : k < ks.length), ∀ x ∈ ks[k], x < k)
    (hlen : ∀ k (h : k < ks.length), (ks[k]).length ≤ 5000 ∧ (Tr.kindOf ns k = 14 → (ks[k]).length = 2) ∧ (Tr.kindOf ns k = 16 → 1 ≤ (ks[k]).length) ∧ (Tr.kindOf ns k = 15 ∨ Tr.kindOf ns k = 20 → 1 ≤ (ks[k]).length)) : WkOk ns ks wb tg tc kg kc cg bg (f + 1) (Tr.iwalk ns ks (f + 1)) := by
  intro k p ch s w hkf hkn hF hD hC
  have hkk : k < ks.length := by rw [hF.len]; exact hkn
  obtain ⟨n0, _⟩ := hF.nodes.2 k hkn
  obtain ⟨v2, hrow, hpl⟩ := hF.kids k hkk
  have f0 := hF.f0
  have f1 := hF.f1
  have hcl := (hD.c.lt cg rfl).2
  have hbl := (hD.b.lt bg rfl).2
  have HG := hide hG
  have HF := hide hF
  have HD := hide hD
  have HC := hide hC
  have HPL := hide hpl
  have hle := hlen k hkk
  rw [Tr.kindOf_at hkn] at hle
  have hkl2 : ∀ k (h : k < ks.length), (ks[k]).length ≤ 5000 := fun k h => (hlen k h).1
  have hkl3 : ∀ k, (Tr.kidsOf ks k).length ≤ 5000 := by
    intro k
    unfold Tr.kidsOf
    by_cases h : k < ks.length
    · rw [List.getElem?_eq_getElem h]; exact hkl2 k h
    · rw [List.getElem?_eq_none (by omega)]; simp
  have hks : ∀ k (h : k < ks.length), ∀ x ∈ ks[k], x < ns.length := fun k h x hx => by have := hkid k h x hx; have := hF.len; omega
  have HKD := hide hkid
  have HK2 := hide hkl2
  have HK3 := hide hkl3
  have HKS := hide hks
  have hlt := hkid k hkk
  have HGO := hide (show Tr.iwalk ns ks (f + 1) k ch s = (if ns[k].kind = 5 then Tr.iuse ns k ch s
    else if ns[k].kind = 14 ∨ ns[k].kind = 16 then Tr.ilet (Tr.iwalk ns ks f) ns k ch s ks[k]
    else if ns[k].kind = 15 ∨ ns[k].kind = 20 then Tr.ifn (Tr.iwalk ns ks f) ns ks ks[k] [] ch false s
    else if ns[k].kind = 24 then Tr.ifile (Tr.iwalk ns ks f) ns ks ks[k] ch s
    else Tr.all (Tr.iwalk ns ks f) ks[k] ch s) by
      rw [Tr.iwalk, Tr.kindOf_at hkn, show Tr.kidsOf ks k = ks[k] from by simp [Tr.kidsOf, hkk]])
  have HLS : Hid (∀ x ∈ ks[k], x < f ∧ x < ns.length) := hide (fun x hx => by have := hlt x hx; omega)
  clear hG hF hD hC hpl hlen hkid hkl2 hkl3 hks hlt
  generalize ks[k] = ls at *
  generalize ns[k].kind = kd at *
  by_cases h5 : kd = 5
  · subst h5
    have HG2 : Hid (Tr.iwalk ns ks (f + 1) k ch s = Tr.iuse ns k ch s) := hide (by rw [HGO.out, if_pos rfl])
    clear HGO
    go_enter Tryd.func59, Tryd.ntmps59
    go_wp2_with fail
    refine (iuse_any ns ks wb tg tc kg kc cg bg k w.heap.size ch p s w hkn HF.out HD.out HC.out).mono ?_
    rintro e w2 ⟨rfl, hk2, hd2⟩
    go_wp2
    (first | go_end0 | refine bodyPost_ret (results_none rfl _ _ _) rfl ?_)
    exact ⟨rfl, hk2, by rw [HG2.out]; exact hd2⟩
  · have q5 : (kd == 5) = false := by simpa using h5
    by_cases h14 : kd = 14 ∨ kd = 16
    · have HG2 : Hid (Tr.iwalk ns ks (f + 1) k ch s = Tr.ilet (Tr.iwalk ns ks f) ns k ch s ls) := hide (by rw [HGO.out, if_neg h5, if_pos h14])
      clear HGO
      cases ls with
      | nil => exfalso; simp at hle; omega
      | cons x r =>
        obtain ⟨g, o, c, hv, hg1, hg2, hgc, hgi⟩ : ∃ g o c, v2 = .slice (some ⟨g, o, none⟩) (x :: r).length c ∧ g ≠ cg ∧ g ≠ bg ∧ (x :: r).length ≤ c ∧ IntsAt w g o (x :: r) := by
          rcases HPL.out with ⟨_, _, _, h⟩ | h
          · cases h
          · exact h
        subst hv
        have hx0 := hgi.2 0 (by simp)
        simp only [Nat.add_zero, List.getElem_cons_zero] at hx0
        have hxl := HLS.out x (by simp)
        have hgc' : r.length + 1 ≤ c := by simpa using hgc
        have hrl : r.length + 1 ≤ 5000 := by have := hle.1; simpa using this
        have HT := hide (PlV.tail (w := w) hg1 hg2 hgc hgi)
        have HSX := hide (show (x :: r).length = r.length + 1 by simp)
        have HIL := hide (show Tr.ilet (Tr.iwalk ns ks f) ns k ch s (x :: r) = Tr.all (Tr.iwalk ns ks f) r ([(Tr.textOf ns k, (k : Int))] :: ch) (Tr.iwalk ns ks f x ch s) from rfl)
        rw [HSX.out] at hrow
        clear hle hgc hgi HPL
        have HWL := hide (walk_let ns ks wb tg tc kg kc cg bg f (Tr.iwalk ns ks f) HG.out hn k kd x r g o c ch p s w hkn h14 hrow n0 HF.out HD.out HC.out hgc' hrl hx0 HLS.out HT.out)
        refine HWL.out.mono ?_
        rintro e w2 ⟨rfl, hk2, hd2⟩
        exact ⟨rfl, hk2, by rw [HG2.out, HIL.out]; exact hd2⟩
    · have q14 : (kd == 14) = false := by simp; omega
      have q16 : (kd == 16) = false := by simp; omega
      by_cases h15 : kd = 15 ∨ kd = 20
      · have HG2 : Hid (Tr.iwalk ns ks (f + 1) k ch s = Tr.ifn (Tr.iwalk ns ks f) ns ks ls [] ch false s) := hide (by rw [HGO.out, if_neg h5, if_neg h14, if_pos h15])
        clear HGO
        have hl1 : 1 ≤ ls.length := hle.2.2.2 h15
        have hl5 := hle.1
        obtain ⟨g, o, c, hv, hg1, hg2, hgc, hgi⟩ : ∃ g o c, v2 = .slice (some ⟨g, o, none⟩) ls.length c ∧ g ≠ cg ∧ g ≠ bg ∧ ls.length ≤ c ∧ IntsAt w g o ls := by
          rcases HPL.out with ⟨_, _, _, h⟩ | h
          · subst h; simp at hl1
          · exact h
        subst hv
        have HFN := hide (ifn_any ns ks wb tg tc kg kc cg bg f _ HG.out hn ls g o c ch p s w HLS.out hl5 hl1 HKD.out HK2.out HF.out HD.out HC.out hg1 hg2 hgc hgi)
        clear hle hgi HPL
        rcases h15 with rfl | rfl
        all_goals
          go_enter Tryd.func59, Tryd.ntmps59
          go_wp2_with fail
          refine HFN.out.mono ?_
          rintro e w2 ⟨rfl, hk2, hd2⟩
          go_wp2
          (first | go_end0 | refine bodyPost_ret (results_none rfl _ _ _) rfl ?_)
          exact ⟨rfl, hk2, by rw [HG2.out]; exact hd2⟩
      · have q15 : (kd == 15) = false := by simp; omega
        have q20 : (kd == 20) = false := by simp; omega
        by_cases h24 : kd = 24
        · have HG2 : Hid (Tr.iwalk ns ks (f + 1) k ch s = Tr.ifile (Tr.iwalk ns ks f) ns ks ls ch s) := hide (by rw [HGO.out, if_neg h5, if_neg h14, if_neg h15, if_pos h24])
          subst h24
          have HFN := hide (ifile_any ns ks wb tg tc kg kc cg bg f _ HG.out hn ls v2 ch p s w HLS.out hle.1 HKS.out HK3.out HF.out HD.out HC.out HPL.out)
          clear HGO hle
          go_enter Tryd.func59, Tryd.ntmps59
          go_wp2_with fail
          refine HFN.out.mono ?_
          rintro e w2 ⟨rfl, hk2, hd2⟩
          go_wp2
          (first | go_end0 | refine bodyPost_ret (results_none rfl _ _ _) rfl ?_)
          exact ⟨rfl, hk2, by rw [HG2.out]; exact hd2⟩
        · have q24 : (kd == 24) = false := by simpa using h24
          have HG2 : Hid (Tr.iwalk ns ks (f + 1) k ch s = Tr.all (Tr.iwalk ns ks f) ls ch s) := hide (by rw [HGO.out, if_neg h5, if_neg h14, if_neg h15, if_neg h24])
          have hl5 := hle.1
          have HFN := hide (all_any ns ks wb tg tc kg kc cg bg f _ HG.out ls v2 ch p s w HLS.out (by omega) HF.out HD.out HC.out HPL.out)
          clear HGO hle
          go_enter Tryd.func59, Tryd.ntmps59
          go_wp2_with fail
          refine HFN.out.mono ?_
          rintro e w2 ⟨rfl, hk2, hd2⟩
          go_wp2
          (first | go_end0 | refine bodyPost_ret (results_none rfl _ _ _) rfl ?_)
          exact ⟨rfl, hk2, by rw [HG2.out]; exact hd2⟩
theorem walk_any (ns : List Tr.Nd) (ks : List (List Nat)) (wb tg tc kg kc cg bg : Nat) (hn : ns.length ≤ 5000) (hkid : ∀ k (h : k < ks.length), ∀ x ∈ ks[k], x < k)
    (hlen : ∀ k (h : k < ks.length), (ks[k]).length ≤ 5000 ∧ (Tr.kindOf ns k = 14 → (ks[k]).length = 2) ∧ (Tr.kindOf ns k = 16 → 1 ≤ (ks[k]).length) ∧ (Tr.kindOf ns k = 15 ∨ Tr.kindOf ns k = 20 → 1 ≤ (ks[k]).length)) (f : Nat) : WkOk ns ks wb tg tc kg kc cg bg f (Tr.iwalk ns ks f) := by
  induction f with
  | zero => intro k p ch s w hkf; omega
  | succ f ih => exact walk_step ns ks wb tg tc kg kc cg bg f ih hn hkid hlen
end Go.Proofs.YtmklgiononbmmaaDoor
