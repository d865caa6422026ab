/- What fits, on the program's side: the walk over a node. -/
import Derived.Test.YtmklgiononbmmaaDoorNf
namespace Go.Proofs.YtmklgiononbmmaaDoor
open Go.RowKit

set_option maxRecDepth 100000 in
set_option maxHeartbeats 400000 in
theorem ifile_nil (q : Value) (a : Option Addr) (c : Nat) (p : Option Addr) (w : World) :
    Calls Tryd.prog 86 #[q, .slice a 0 c, .pointer p] w fun e w' => e = .returned (.tuple #[]) ∧ Below w.heap.size w w' := by
  go_enter Tryd.func86, Tryd.ntmps86
  go_wp2_with fail
  refine (inside_any p w).mono ?_
  rintro e w1 ⟨rfl, hw1⟩
  have HB : Hid (Below w.heap.size w w1) := hide (by rw [hw1]; exact (sc_new w p).2.2.2.1)
  clear hw1
  go_wp2
  go_loopw [7, 16] (fun v7 t wr => v7 = .slice none 0 0 ∧ t = .int .i64 0 ∧ wr = w1) (fun _ _ _ => 0)
  case atStart => exact ⟨rfl, rfl, rfl⟩
  case round =>
    obtain ⟨rfl, rfl, rfl⟩ := hrel
    go_wp2_with fail
    refine (all_nil q (.pointer (some ⟨w.heap.size + 1, 0, none⟩)) none 0 _).mono ?_
    rintro e w2 ⟨rfl, rfl⟩
    go_wp2
    (first | go_end0 | refine bodyPost_ret (results_none rfl _ _ _) rfl ?_)
    exact ⟨rfl, HB.out⟩
theorem ifile_any (ns : List Tr.Nd) (ks : List (List Nat)) (wb tg tc kg kc cg bg f : Nat) (G : Nat → List Tr.Sp → Tr.St → Tr.St) (hG : WkOk ns ks wb tg tc kg kc cg bg f G) (hn : ns.length ≤ 5000) (ls : List Nat) (v : Value) (ch : List Tr.Sp) (p : Option Addr) (s : Tr.St) (w : World)
    (hls : ∀ x ∈ ls, x < f ∧ x < ns.length) (hl : ls.length ≤ 5000) (hks : ∀ k (h : k < ks.length), ∀ x ∈ ks[k], x < ns.length) (hkl : ∀ k, (Tr.kidsOf ks k).length ≤ 5000)
    (hF : Ix ns ks wb tg tc kg kc cg bg w) (hD : Dy ns.length cg bg s w) (hC : Chain cg bg w w.heap.size p ch) (hI : PlV cg bg w v ls) :
    Calls Tryd.prog 86 #[.pointer (some ⟨wb, 0, none⟩), v, .pointer p] w fun e w' => e = .returned (.tuple #[]) ∧ Kp cg bg w w' ∧ Dy ns.length cg bg (Tr.ifile G ns ks ls ch s) w' := by
  rcases hI with ⟨a, c, rfl, rfl⟩ | ⟨g, o, c, rfl, h1, h2, _, h3⟩
  · refine (ifile_nil _ _ _ _ _).mono ?_
    rintro e w' ⟨rfl, hb⟩
    exact ⟨rfl, Kp.of_below hb, hD.below hb⟩
  · exact ifile_some ns ks wb tg tc kg kc cg bg f G hG hn ls g o c ch p s w hls hl hks hkl hF hD hC h1 h2 h3
/-- The places behind the first. -/
theorem PlV.tail {cg bg : Nat} {w : World} {g o c x : Nat} {r : List Nat} (h1 : g ≠ cg) (h2 : g ≠ bg) (hc : (x :: r).length ≤ c) (hI : IntsAt w g o (x :: r)) : PlV cg bg w (.slice (if c = 1 then some ⟨g, o, none⟩ else some ⟨g, o + 1, none⟩) r.length (c - 1)) r := by
  by_cases h : c = 1
  · have : r = [] := by
      cases r with
      | nil => rfl
      | cons _ _ => simp at hc; omega
    subst this
    exact .inl ⟨_, _, rfl, rfl⟩
  · rw [if_neg h]
    exact .inr ⟨g, o + 1, c - 1, rfl, h1, h2, by simp at hc; omega, hI.drop 1⟩

set_option maxRecDepth 100000 in
set_option maxHeartbeats 1000000 in
theorem walk_let (ns : List Tr.Nd) (ks : List (List Nat)) (wb tg tc kg kc cg bg f : Nat) (G : Nat → List Tr.Sp → Tr.St → Tr.St) (hG : WkOk ns ks wb tg tc kg kc cg bg f G) (hn : ns.length ≤ 5000) (k : Nat) (kd : Int) (x : Nat) (r : List Nat) (g o c : Nat) (ch : List Tr.Sp) (p : Option Addr) (s : Tr.St) (w : World)
    (hkn : k < ns.length) (h14 : kd = 14 ∨ kd = 16) (hrow : w.cell? ⟨kg, k, none⟩ = some (.slice (some ⟨g, o, none⟩) (r.length + 1) c)) (n0 : w.cell? ⟨tg, k * 5, none⟩ = some (.int .i64 kd)) (hF : Ix ns ks wb tg tc kg kc cg bg w) (hD : Dy ns.length cg bg s w) (hC : Chain cg bg w w.heap.size p ch)
    (hgc' : r.length + 1 ≤ c) (hrl : r.length + 1 ≤ 5000) (hx0 : w.cell? ⟨g, o, none⟩ = some (.int .i64 x)) (hls : ∀ y ∈ x :: r, y < f ∧ y < ns.length) (hT : PlV cg bg w (.slice (if c = 1 then some ⟨g, o, none⟩ else some ⟨g, o + 1, none⟩) r.length (c - 1)) r) :
    Calls Tryd.prog 59 #[.pointer (some ⟨wb, 0, none⟩), .int .i64 k, .pointer p] w fun e w' => e = .returned (.tuple #[]) ∧ Kp cg bg w w' ∧ Dy ns.length cg bg (Tr.all G r ([(Tr.textOf ns k, (k : Int))] :: ch) (G x ch s)) w' := by
  have f0 := hF.f0
  have f1 := hF.f1
  have HG := hide hG
  have HF := hide hF
  have HD := hide hD
  have HC := hide hC
  have HLS := hide hls
  have HT := hide hT
  have hxl := hls x (by simp)
  have HEN0 : Hid (∀ s1, Tr.enterS ns k ([], s1) = ([(Tr.textOf ns k, (k : Int))], s1)) := hide (fun _ => rfl)
  clear hG hF hD hC hls hT
  have HTA : Hid (c = 1 → PlV cg bg w (.slice (some ⟨g, o, none⟩) r.length 0) r) := hide (fun e => by subst e; simpa using HT.out)
  have HTB : Hid (¬ c = 1 → PlV cg bg w (.slice (some ⟨g, o + 1, none⟩) r.length (c - 1)) r) := hide (fun e => by have := HT.out; rwa [if_neg e] at this)
  obtain ⟨vt, HTV, hvt⟩ : ∃ vt, Hid (PlV cg bg w vt r) ∧ (c = 1 ∧ vt = .slice (some ⟨g, o, none⟩) r.length 0 ∨ ¬ c = 1 ∧ vt = .slice (some ⟨g, o + 1, none⟩) r.length (c - 1)) := by
    by_cases hc1 : c = 1
    · exact ⟨_, hide (HTA.out hc1), .inl ⟨hc1, rfl⟩⟩
    · exact ⟨_, hide (HTB.out hc1), .inr ⟨hc1, rfl⟩⟩
  clear HT HTA HTB
  rcases hvt with ⟨rfl, rfl⟩ | ⟨hc1, rfl⟩
  · have hr0 : r = [] := by
      cases r with
      | nil => rfl
      | cons _ _ => simp at hgc'
    subst hr0
    simp only [List.length_nil, Nat.zero_add] at hrow HTV
    clear hgc' hrl
    rcases h14 with rfl | rfl
    all_goals
      go_enter Tryd.func59, Tryd.ntmps59
      go_wp2_with fail
      refine (HG.out x p ch s w hxl.1 hxl.2 HF.out HD.out HC.out).mono ?_
      rintro e w2 ⟨rfl, hk2, hd2⟩
      have HD2 := hide hd2
      have HF2 := hide (HF.out.kept hk2)
      have HST := hide (Fi.start (p := p) hd2)
      clear hd2
      go_wp2_with fail
      refine (inside_any p w2).mono ?_
      rintro e w3 ⟨rfl, hw3⟩
      have HF3 : Hid (Fi ns cg bg w2 p [] (G x ch s) w3) := hide (by rw [hw3]; exact HST.out)
      have hl1 := HF3.out.l1
      have hl2 := HF3.out.l2
      clear hw3 HST
      go_wp2_with fail
      refine (enter_any ns ks wb tg tc kg kc cg bg k (w2.heap.size + 1) w2.heap.size [] _ w3 hn hkn (HF2.out.kept HF3.out.kp) HF3.out.dy HF3.out.c0 HF3.out.sp (by omega) (by omega) (by simp)).mono ?_
      rintro e w4 ⟨rfl, hu4, hd4, hs4⟩
      rw [HEN0.out] at hd4 hs4
      have HF4 := hide (HF3.out.enter hu4 hd4 hs4)
      have HCH := hide (Chain.inner (Chain.kept hk2.size (fun b hb h1 h2 => hk2.block b hb h1 h2) HC.out) HF4.out.kp HF4.out.c0 HF4.out.c1 HF4.out.sp HF4.out.sz hl1 hl2)
      have HAL := hide (all_any ns ks wb tg tc kg kc cg bg f G HG.out [] _ _ _ _ w4 (fun y hy => by cases hy) (by simp) (HF2.out.kept HF4.out.kp) HF4.out.dy HCH.out ((HTV.out.kept hk2).kept HF4.out.kp))
      have HK4 := hide (hk2.trans HF4.out.kp)
      clear hu4 hd4 hs4 HF3 HCH HTV
      go_wp2_with fail
      refine HAL.out.mono ?_
      rintro e w5 ⟨rfl, hk5, hd5⟩
      go_wp2
      (first | go_end0 | refine bodyPost_ret (results_none rfl _ _ _) rfl ?_)
      exact ⟨rfl, HK4.out.trans hk5, hd5⟩
  rcases h14 with rfl | rfl
  all_goals
    go_enter Tryd.func59, Tryd.ntmps59
    go_wp2_with fail
    refine (HG.out x p ch s w hxl.1 hxl.2 HF.out HD.out HC.out).mono ?_
    rintro e w2 ⟨rfl, hk2, hd2⟩
    have HD2 := hide hd2
    have HF2 := hide (HF.out.kept hk2)
    have HST := hide (Fi.start (p := p) hd2)
    clear hd2
    go_wp2_with fail
    refine (inside_any p w2).mono ?_
    rintro e w3 ⟨rfl, hw3⟩
    have HF3 : Hid (Fi ns cg bg w2 p [] (G x ch s) w3) := hide (by rw [hw3]; exact HST.out)
    have hl1 := HF3.out.l1
    have hl2 := HF3.out.l2
    clear hw3 HST
    go_wp2_with fail
    refine (enter_any ns ks wb tg tc kg kc cg bg k (w2.heap.size + 1) w2.heap.size [] _ w3 hn hkn (HF2.out.kept HF3.out.kp) HF3.out.dy HF3.out.c0 HF3.out.sp (by omega) (by omega) (by simp)).mono ?_
    rintro e w4 ⟨rfl, hu4, hd4, hs4⟩
    rw [HEN0.out] at hd4 hs4
    have HF4 := hide (HF3.out.enter hu4 hd4 hs4)
    have HCH := hide (Chain.inner (Chain.kept hk2.size (fun b hb h1 h2 => hk2.block b hb h1 h2) HC.out) HF4.out.kp HF4.out.c0 HF4.out.c1 HF4.out.sp HF4.out.sz hl1 hl2)
    have HAL := hide (all_any ns ks wb tg tc kg kc cg bg f G HG.out r _ _ _ _ w4 (fun y hy => HLS.out y (by simp [hy])) (by omega) (HF2.out.kept HF4.out.kp) HF4.out.dy HCH.out ((HTV.out.kept hk2).kept HF4.out.kp))
    have HK4 := hide (hk2.trans HF4.out.kp)
    clear hu4 hd4 hs4 HF3 HCH HTV
    go_wp2_with fail
    refine HAL.out.mono ?_
    rintro e w5 ⟨rfl, hk5, hd5⟩
    go_wp2
    (first | go_end0 | refine bodyPost_ret (results_none rfl _ _ _) rfl ?_)
    exact ⟨rfl, HK4.out.trans hk5, hd5⟩
end Go.Proofs.YtmklgiononbmmaaDoor
