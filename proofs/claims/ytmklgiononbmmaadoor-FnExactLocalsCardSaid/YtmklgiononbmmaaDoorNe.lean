/- What fits, on the program's side: functions. -/
import Derived.Test.YtmklgiononbmmaaDoorNc
namespace Go.Proofs.YtmklgiononbmmaaDoor
open Go.RowKit

/-- A new scope inside another. -/
abbrev scO (w : World) (p : Option Addr) : Obj := .cells #[.map (some w.heap.size), .pointer p] 118
theorem sc_new (w : World) (p : Option Addr) : ((w.alloc (.map #[] 0)).alloc (scO w p)).cell? ⟨w.heap.size + 1, 0, none⟩ = some (.map (some w.heap.size)) ∧ ((w.alloc (.map #[] 0)).alloc (scO w p)).cell? ⟨w.heap.size + 1, 1, none⟩ = some (.pointer p) ∧
    SpAt ((w.alloc (.map #[] 0)).alloc (scO w p)) w.heap.size [] ∧ Below w.heap.size w ((w.alloc (.map #[] 0)).alloc (scO w p)) ∧ ((w.alloc (.map #[] 0)).alloc (scO w p)).heap.size = w.heap.size + 1 + 1 := by
  have h := heap_alloc_new' (w.alloc (.map #[] 0)) (scO w p)
  rw [World.size_alloc] at h
  refine ⟨by rw [World.cell?, h]; rfl, by rw [World.cell?, h]; rfl, ?_, ((Below.refl _ _).alloc (Nat.le_refl _) _).alloc (by simp) _, by simp⟩
  have hb := (Below.refl (w.heap.size + 1) (w.alloc (.map #[] 0))).alloc (by simp) (scO w p)
  exact (SpAt.made w).same (hb.block _ (Nat.lt_succ_self _))
/-- The scope that is inside, in a later world. -/
theorem Chain.inner {cg bg : Nat} {w wr : World} {p : Option Addr} {ch : List Tr.Sp} {sc : Tr.Sp} (h : Chain cg bg w w.heap.size p ch) (hK : Kp cg bg w wr) (c0 : wr.cell? ⟨w.heap.size + 1, 0, none⟩ = some (.map (some w.heap.size))) (c1 : wr.cell? ⟨w.heap.size + 1, 1, none⟩ = some (.pointer p))
    (hs : SpAt wr w.heap.size sc) (hz : w.heap.size + 1 < wr.heap.size) (h1 : cg < w.heap.size) (h2 : bg < w.heap.size) : Chain cg bg wr wr.heap.size (some ⟨w.heap.size + 1, 0, none⟩) (sc :: ch) :=
  ⟨w.heap.size + 1, w.heap.size, p, rfl, hz, Nat.lt_succ_self _, by omega, by omega, by omega, by omega, c0, c1, hs, Chain.kept (Nat.le_refl _) (fun b hb => hK.block b hb) h⟩

theorem Tr.ifn_at (G : Nat → List Tr.Sp → Tr.St → Tr.St) (ns : List Tr.Nd) (ks : List (List Nat)) (ls : List Nat) (i : Nat) (sc : Tr.Sp) (ch : List Tr.Sp) (df : Bool) (s : Tr.St) (h : i + 1 < ls.length) :
    Tr.ifn G ns ks (ls.drop i) sc ch df s = Tr.ifn G ns ks (ls.drop (i + 1)) (Tr.ipar G ns ks ls[i] sc ch df s).1 ch (df || !decide ((Tr.kidsOf ks ls[i]).length = 0)) (Tr.ipar G ns ks ls[i] sc ch df s).2 := by
  rw [List.drop_eq_getElem_cons (show i < ls.length by omega), List.drop_eq_getElem_cons h]; rfl
theorem Tr.ifn_last (G : Nat → List Tr.Sp → Tr.St → Tr.St) (ns : List Tr.Nd) (ks : List (List Nat)) (ls : List Nat) (i : Nat) (sc : Tr.Sp) (ch : List Tr.Sp) (df : Bool) (s : Tr.St) (h : i + 1 = ls.length) :
    Tr.ifn G ns ks (ls.drop i) sc ch df s = G (ls[i]'(by omega)) (sc :: ch) s := by
  rw [List.drop_eq_getElem_cons (show i < ls.length by omega), List.drop_of_length_le (by omega)]; rfl
theorem Tr.enterS_len (ns : List Tr.Nd) (k : Nat) (e : Tr.Sp × Tr.St) : (Tr.enterS ns k e).1.length ≤ e.1.length + 1 := by
  unfold Tr.enterS; split <;> simp

set_option maxRecDepth 100000 in
set_option maxHeartbeats 1000000 in
theorem ifn_any (ns : List Tr.Nd) (ks : List (List Nat)) (wb tg tc kg kc cg bg f : Nat) (G : Nat → List Tr.Sp → Tr.St → Tr.St) (hG : WkOk ns ks wb tg tc kg kc cg bg f G) (hn : ns.length ≤ 5000) (ls : List Nat) (g o c : Nat) (ch : List Tr.Sp) (p : Option Addr) (s : Tr.St) (w : World)
    (hls : ∀ x ∈ ls, x < f ∧ x < ns.length) (hl : ls.length ≤ 5000) (hl1 : 1 ≤ ls.length) (hkid : ∀ k (h : k < ks.length), ∀ x ∈ ks[k], x < k) (hkl : ∀ k (h : k < ks.length), (ks[k]).length ≤ 5000)
    (hF : Ix ns ks wb tg tc kg kc cg bg w) (hD : Dy ns.length cg bg s w) (hC : Chain cg bg w w.heap.size p ch) (hg1 : g ≠ cg) (hg2 : g ≠ bg) (hcap : ls.length ≤ c) (hI : IntsAt w g o ls) :
    Calls Tryd.prog 85 #[.pointer (some ⟨wb, 0, none⟩), .slice (some ⟨g, o, none⟩) ls.length c, .pointer p] w fun e w' => e = .returned (.tuple #[]) ∧ Kp cg bg w w' ∧ Dy ns.length cg bg (Tr.ifn G ns ks ls [] ch false s) w' := by
  have hcl := (hD.c.lt cg rfl).2
  have hbl := (hD.b.lt bg rfl).2
  have HG := hide hG
  have HF := hide hF
  have HD := hide hD
  have HC := hide hC
  have HI := hide hI
  have HLS := hide hls
  have HKD := hide hkid
  have HKL := hide hkl
  obtain ⟨n0, n1, n2, n3, n4⟩ := sc_new w p
  have HN0 := hide n0
  have HN1 := hide n1
  have HN2 := hide n2
  have HN3 := hide n3
  have HN4 := hide n4
  obtain ⟨m, hm⟩ : ∃ m, ls.length = m + 1 := ⟨ls.length - 1, by omega⟩
  clear hG hF hD hC hI hls hkid hkl n0 n1 n2 n3 n4
  go_enter Tryd.func85, Tryd.ntmps85
  go_wp2_with fail
  refine (inside_any p w).mono ?_
  rintro e w1 ⟨rfl, hw1⟩
  have HW1 := hide hw1
  rw [← HW1.out] at HN0 HN1 HN2 HN3 HN4
  clear hw1
  go_wp2
  go_loopw [8, 21] (fun v8 t wr => ∃ (i : Nat) (sc : Tr.Sp) (df : Bool) (si : Tr.St), i ≤ m ∧ t = .int .i64 i ∧ v8 = .bool df ∧ sc.length ≤ i ∧ Kp cg bg w wr ∧ w.heap.size + 1 < wr.heap.size ∧ wr.cell? ⟨w.heap.size + 1, 0, none⟩ = some (.map (some w.heap.size)) ∧ wr.cell? ⟨w.heap.size + 1, 1, none⟩ = some (.pointer p) ∧ SpAt wr w.heap.size sc ∧
      Dy ns.length cg bg si wr ∧ Tr.ifn G ns ks ls [] ch false s = Tr.ifn G ns ks (ls.drop i) sc ch df si) (fun _ t _ => m - (intOf t).toNat)
  case atStart => exact ⟨0, [], false, s, Nat.zero_le _, rfl, rfl, Nat.le_refl _, Kp.of_below HN3.out, by rw [HN4.out]; omega, HN0.out, HN1.out, HN2.out, HD.out.below HN3.out, rfl⟩
  case round =>
    obtain ⟨i, sc, df, si, hi, rfl, rfl, hsl, hK, hz, c0, c1, hsp, hDr, he⟩ := hrel
    have HE := hide he
    have HDr := hide hDr
    have HSP := hide hsp
    have HC0 := hide c0
    have HC1 := hide c1
    clear he hDr hsp c0 c1
    have HFr := hide (HF.out.kept hK)
    have HCH := hide (HC.out.inner hK HC0.out HC1.out HSP.out hz hcl hbl)
    have hx := (hK.cell (p := ⟨g, o + i, none⟩) HI.out.1 hg1 hg2).trans (HI.out.2 i (by omega))
    have hxl := HLS.out _ (List.getElem_mem (by omega : i < ls.length))
    by_cases hlt : i < m
    · have HS := hide (Tr.ifn_at G ns ks ls i sc ch df si (by omega))
      have f1 := HFr.out.f1
      have hlp : ls[i] < ks.length := by rw [HFr.out.len]; exact hxl.2
      obtain ⟨v2, hkc, hpl⟩ := HFr.out.kids ls[i] hlp
      have HKO : Hid (Tr.kidsOf ks ls[i] = ks[ls[i]]) := hide (by simp [Tr.kidsOf, hlp])
      have hkd := HKD.out ls[i] hlp
      have hkl := HKL.out ls[i] hlp
      rw [HKO.out] at HS
      have HAL := hide (all_any ns ks wb tg tc kg kc cg bg f G HG.out ks[ls[i]] v2 (sc :: ch) _ si wr (fun x hx => by have := hkd x hx; omega) (by omega) HFr.out HDr.out HCH.out hpl)
      obtain ⟨a2, c2, hv2⟩ : ∃ a c, v2 = .slice a (ks[ls[i]]).length c := by
        rcases hpl with ⟨a, c, h, h'⟩ | ⟨g', o', c, h, _⟩
        · exact ⟨a, c, by rw [h', h]; rfl⟩
        · exact ⟨_, c, h⟩
      subst hv2
      clear hkd hpl
      generalize ks[ls[i]] = kp at *
      generalize ls[i] = y at *
      have HIP : Hid (Tr.ipar G ns ks y sc ch df si = ((Tr.enterS ns y (sc, Tr.all G kp (sc :: ch) si)).1, if df = true ∧ kp.length = 0 then Tr.faultS y 10 (Tr.enterS ns y (sc, Tr.all G kp (sc :: ch) si)).2 else (Tr.enterS ns y (sc, Tr.all G kp (sc :: ch) si)).2)) := hide (by unfold Tr.ipar; rw [HKO.out])
      have hkpl : (kp.length : Int) ≤ 5000 := by omega
      have HEL := hide (Tr.enterS_len ns y (sc, Tr.all G kp (sc :: ch) si))
      go_wp2_with fail
      refine HAL.out.mono ?_
      rintro e w2 ⟨rfl, hk2, hd2⟩
      have c0' := (hk2.cell (p := ⟨w.heap.size + 1, 0, none⟩) hz (show w.heap.size + 1 ≠ cg by omega) (show w.heap.size + 1 ≠ bg by omega)).trans HC0.out
      have c1' := (hk2.cell (p := ⟨w.heap.size + 1, 1, none⟩) hz (show w.heap.size + 1 ≠ cg by omega) (show w.heap.size + 1 ≠ bg by omega)).trans HC1.out
      have hz2 := Nat.lt_of_lt_of_le hz hk2.size
      have HEN := hide (enter_any ns ks wb tg tc kg kc cg bg y (w.heap.size + 1) w.heap.size sc _ w2 hn hxl.2 (HFr.out.kept hk2) hd2 c0' (HSP.out.same (hk2.block _ (by omega) (by omega) (by omega))) (by omega) (by omega) (by omega))
      clear hd2
      go_wp2_with fail
      refine HEN.out.mono ?_
      rintro e w3 ⟨rfl, hu3, hd3, hs3⟩
      have c0'' := (hu3.cell (p := ⟨w.heap.size + 1, 0, none⟩) hz2 (show w.heap.size + 1 ≠ cg by omega) (show w.heap.size + 1 ≠ bg by omega) (show w.heap.size + 1 ≠ w.heap.size by omega)).trans c0'
      have c1'' := (hu3.cell (p := ⟨w.heap.size + 1, 1, none⟩) hz2 (show w.heap.size + 1 ≠ cg by omega) (show w.heap.size + 1 ≠ bg by omega) (show w.heap.size + 1 ≠ w.heap.size by omega)).trans c1'
      have hK3 := Ku.kp (hK.trans hk2) hu3 (Nat.le_refl _)
      have hz3 := Nat.lt_of_lt_of_le hz2 hu3.size
      have HC0'' := hide c0''
      have HC1'' := hide c1''
      have HD3 := hide hd3
      have HS3 := hide hs3
      clear c0' c1' c0'' c1'' hd3 hs3 hu3 HEN HAL
      cases df <;> (by_cases hk0 : kp.length = 0)
      · go_wp2
        go_roundw
        case rel => exact ⟨i + 1, _, _, _, by omega, by go_num, rfl, by have := HEL.out; omega, hK3, hz3, HC0''.out, HC1''.out, HS3.out, HD3.out, by rw [HE.out, HS.out, HIP.out]; simp [hk0]⟩
        case measure => simp [intOf]; omega
      · have hpos : (0 : Int) < kp.length := by omega
        go_wp2
        go_roundw
        case rel => exact ⟨i + 1, _, _, _, by omega, by go_num, rfl, by have := HEL.out; omega, hK3, hz3, HC0''.out, HC1''.out, HS3.out, HD3.out, by rw [HE.out, HS.out, HIP.out]; simp [hk0, Nat.pos_of_ne_zero hk0]⟩
        case measure => simp [intOf]; omega
      · go_wp2_with fail
        refine (blame_any ns ks wb tg tc kg kc cg bg y 10 _ _ hxl.2 (HF.out.kept hK3) HD3.out).mono ?_
        rintro e w4 ⟨rfl, hk4, hd4⟩
        have c04 := (hk4.cell (p := ⟨w.heap.size + 1, 0, none⟩) hz3 (show w.heap.size + 1 ≠ cg by omega) (show w.heap.size + 1 ≠ bg by omega)).trans HC0''.out
        have c14 := (hk4.cell (p := ⟨w.heap.size + 1, 1, none⟩) hz3 (show w.heap.size + 1 ≠ cg by omega) (show w.heap.size + 1 ≠ bg by omega)).trans HC1''.out
        have HC04 := hide c04
        have HC14 := hide c14
        have HD4 := hide hd4
        clear c04 c14 hd4
        go_wp2
        go_roundw
        case rel => exact ⟨i + 1, _, _, _, by omega, by go_num, rfl, by have := HEL.out; omega, hK3.trans hk4, Nat.lt_of_lt_of_le hz3 hk4.size, HC04.out, HC14.out, HS3.out.same (hk4.block _ (by omega) (by omega) (by omega)), HD4.out, by rw [HE.out, HS.out, HIP.out]; simp [hk0]⟩
        case measure => simp [intOf]; omega
      · have hpos : (0 : Int) < kp.length := by omega
        have hne : ((kp.length : Int) == 0) = false := by rw [beq_eq_false_iff_ne]; omega
        go_wp2
        go_roundw
        case rel => exact ⟨i + 1, _, _, _, by omega, by go_num, rfl, by have := HEL.out; omega, hK3, hz3, HC0''.out, HC1''.out, HS3.out, HD3.out, by rw [HE.out, HS.out, HIP.out]; simp [hk0]⟩
        case measure => simp [intOf]; omega
    · obtain rfl : i = m := by omega
      have HS := hide (Tr.ifn_last G ns ks ls i sc ch df si (by omega))
      have HGO := hide (HG.out ls[i] _ (sc :: ch) si wr hxl.1 hxl.2 HFr.out HDr.out HCH.out)
      generalize ls[i] = y at *
      go_wp2_with fail
      refine HGO.out.mono ?_
      rintro e w2 ⟨rfl, hk2, hd2⟩
      go_wp2
      (first | go_end0 | refine bodyPost_ret (results_none rfl _ _ _) rfl ?_)
      exact ⟨rfl, hK.trans hk2, by rw [HE.out, HS.out]; exact hd2⟩
end Go.Proofs.YtmklgiononbmmaaDoor
