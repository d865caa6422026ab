/- Walks: fields compared, on the program's side. -/
import Derived.Test.YtfpdoafpimaoaaaOd
namespace Go.Proofs.Ytfpdoafpimaoaaa.Vl
open Go.RowKit T.atoms T.ok T.high T.good T.allPlain DatAt T.ord

set_option maxHeartbeats 400000 in
theorem compareNames_any (na nb : ByteArray) (yv yu : TypeId) (v u : Value) (w : World) :
    Calls Try.prog 79 #[.agg #[.string na, .iface yv v], .agg #[.string nb, .iface yu u]] w fun e w' => e = .returned (.int .i64 (cmpS na nb)) ∧ Below w.heap.size w w' := by
  go_enter Try.func79, Try.ntmps79
  go_wp2_with (go_at_call 86; refine (strCompare_any _ _ _).mono ?_; rintro e w' ⟨rfl, rfl⟩)
  go_ret
  exact ⟨rfl, ((Below.refl _ _).alloc (Nat.le_refl _) _).alloc (by simp) _⟩

theorem cell_fld (X : World) (u v : Value) (t : TypeId) : (X.alloc (.cells #[u, v] t)).cell? ⟨X.heap.size, 1, none⟩ = some v := by simp
/-- Two fields in their order. -/
def ordF (na nb : ByteArray) (od : Int) : Int := if cmpS na nb = 0 then od else cmpS na nb
set_option maxRecDepth 100000 in
set_option maxHeartbeats 1000000 in
theorem compareFields_any (na nb : ByteArray) (yv yu : TypeId) (v u : Value) (od : Int) (w : World) (hC : ∀ w', Below w.heap.size w w' → Calls Try.prog 25 #[.iface yv v, .iface yu u] w' fun e w'' => e = .returned (.int .i64 od) ∧ Below w'.heap.size w' w'') :
    Calls Try.prog 50 #[.agg #[.string na, .iface yv v], .agg #[.string nb, .iface yu u]] w fun e w' => e = .returned (.int .i64 (ordF na nb od)) ∧ Below w.heap.size w w' := by
  have HC := hide hC
  have HN := hide (compareNames_any na nb yv yu v u)
  have r1 : Below w.heap.size w ((w.alloc (.cells #[.string na, .iface yv v] 95)).alloc (.cells #[.string nb, .iface yu u] 95)) := ((Below.refl _ _).alloc (Nat.le_refl _) _).alloc (by simp) _
  have b0 : ((w.alloc (.cells #[.string na, .iface yv v] 95)).alloc (.cells #[.string nb, .iface yu u] 95)).cell? ⟨w.heap.size, 1, none⟩ = some (.iface yv v) := by
    have r2 : Below (w.heap.size + 1) (w.alloc (.cells #[.string na, .iface yv v] 95)) ((w.alloc (.cells #[.string na, .iface yv v] 95)).alloc (.cells #[.string nb, .iface yu u] 95)) := (Below.refl _ _).alloc (by simp) _
    exact (r2.cell (p := ⟨w.heap.size, 1, none⟩) (Nat.lt_succ_self _)).trans (by simp)
  have b1 : ((w.alloc (.cells #[.string na, .iface yv v] 95)).alloc (.cells #[.string nb, .iface yu u] 95)).cell? ⟨w.heap.size + 1, 1, none⟩ = some (.iface yu u) := by
    have := cell_fld (w.alloc (.cells #[.string na, .iface yv v] 95)) (.string nb) (.iface yu u) 95
    rwa [World.size_alloc] at this
  clear hC
  by_cases h0 : cmpS na nb = 0
  · have HR : Hid (ordF na nb od = od) := hide (by unfold ordF; rw [if_pos h0])
    rw [h0] at HN
    clear h0
    go_enter Try.func50, Try.ntmps50
    go_wp2_with fail
    refine (HN.out _).mono ?_
    rintro e w1 ⟨rfl, hb1⟩
    have B1 := r1.trans (hb1.mono r1.size)
    have c0 := (hb1.cell (p := ⟨w.heap.size, 1, none⟩) (by show w.heap.size < _; simp; omega)).trans b0
    have c1 := (hb1.cell (p := ⟨w.heap.size + 1, 1, none⟩) (by show w.heap.size + 1 < _; simp)).trans b1
    clear hb1 b0 b1
    go_wp2_with fail
    refine (HC.out _ B1).mono ?_
    rintro e w2 ⟨rfl, hb2⟩
    go_wp2
    go_ret
    exact ⟨ret_int HR.out.symm, B1.trans (hb2.mono B1.size)⟩
  · have HR : Hid (ordF na nb od = cmpS na nb) := hide (by unfold ordF; rw [if_neg h0])
    generalize cmpS na nb = cc at *
    go_enter Try.func50, Try.ntmps50
    go_wp2_with fail
    refine (HN.out _).mono ?_
    rintro e w1 ⟨rfl, hb1⟩
    have B1 := r1.trans (hb1.mono r1.size)
    go_wp2
    go_ret
    exact ⟨ret_int HR.out.symm, B1⟩

theorem ordL_pair (p q : List T) (j : Nat) (h1 : 2 * j + 1 < p.length) (h2 : 2 * j + 1 < q.length) (hp : (p[2 * j]'(by omega)).kind = 4) (hq : (q[2 * j]'(by omega)).kind = 4) :
    ordL (p.drop (2 * j)) (q.drop (2 * j)) = if ordF (p[2 * j]'(by omega)).text (q[2 * j]'(by omega)).text ((p[2 * j + 1]).ord q[2 * j + 1]) ≠ 0 then ordF (p[2 * j]'(by omega)).text (q[2 * j]'(by omega)).text ((p[2 * j + 1]).ord q[2 * j + 1]) else ordL (p.drop (2 * (j + 1))) (q.drop (2 * (j + 1))) := by
  rw [ordL_step p q (2 * j) (by omega) (by omega)]
  have e : (p[2 * j]'(by omega)).ord (q[2 * j]'(by omega)) = cmpS (p[2 * j]'(by omega)).text (q[2 * j]'(by omega)).text := by
    rw [T.ord_eq, hp, hq]; simp
  rw [e]
  unfold ordF
  by_cases h0 : cmpS (p[2 * j]'(by omega)).text (q[2 * j]'(by omega)).text = 0
  · rw [if_neg (by simpa using h0), if_pos h0, ordL_step p q (2 * j + 1) h1 h2]
    rfl
  · rw [if_pos h0, if_neg h0, if_pos h0]

set_option maxRecDepth 100000 in
set_option maxHeartbeats 1000000 in
theorem cmpFuncF_any (p q : List T) (vs us : List Value) (a b : Option Addr) (ca cb x y m n : Nat) (w : World) (hm : p.length = 2 * m) (hn : q.length = 2 * n) (hm1 : m ≤ 1000) (hn1 : n ≤ 1000) (hD : FldL w x p vs) (hE : FldL w y q us) (hR : RowAt w x a vs) (hS : RowAt w y b us)
    (hkp : ∀ j (h : 2 * j < p.length), (p[2 * j]).kind = 4) (hkq : ∀ j (h : 2 * j < q.length), (q[2 * j]).kind = 4)
    (hC : ∀ i (h1 : i < p.length) (h2 : i < q.length) v u w', DatAt w' x p[i] v → DatAt w' y q[i] u → Calls Try.prog 25 #[v, u] w' fun e w'' => e = .returned (.int .i64 ((p[i]).ord q[i])) ∧ Below w'.heap.size w' w'') :
    Calls Try.prog 49 #[.slice a m ca, .slice b n cb, .func (.func 50) #[] #[]] w fun e w' => e = .returned (.int .i64 (ordL p q)) ∧ Below w.heap.size w w' := by
  have HD := hide hD
  have HE := hide hE
  have HR := hide hR
  have HS := hide hS
  have HC := hide hC
  have HM := hide hm
  have HN := hide hn
  have HKP := hide hkp
  have HKQ := hide hkq
  clear hD hE hR hS hC hm hn hkp hkq
  go_enter Try.func49, Try.ntmps49
  go_wp2
  go_loopw [13] (fun t wr => ∃ i : Nat, i ≤ m ∧ i ≤ n ∧ t = .int .i64 i ∧ Below w.heap.size w wr ∧ ordL p q = ordL (p.drop (2 * i)) (q.drop (2 * i))) (fun t _ => m - (intOf t).toNat)
  case atStart => exact ⟨0, by omega, by omega, rfl, Below.refl _ _, by rw [Nat.mul_zero, List.drop_zero, List.drop_zero]⟩
  case round =>
    obtain ⟨i, hi, hj, rfl, hB, he⟩ := hrel
    have HZ := hide he
    clear he
    by_cases hlt : i < m
    · have h2 : 2 * i < p.length := by have := HM.out; omega
      have h3 : 2 * i + 1 < p.length := by have := HM.out; omega
      obtain ⟨v, hvn, hv, hdv⟩ := FldL.at HD.out i h3
      obtain ⟨yv, uv, hve⟩ := hdv.isIface
      subst hve
      have hne : vs ≠ [] := fun e => by rw [e] at hv; simp at hv
      rcases HR.out with h | ⟨g, o, rfl, -, hgw, hcs⟩
      · exact absurd h hne
      have e0 := (hB.cell (p := ⟨g, o + 2 * i, none⟩) hgw).trans (hcs (2 * i) _ hvn)
      have e1 := (hB.cell (p := ⟨g, o + (2 * i + 1), none⟩) hgw).trans (hcs (2 * i + 1) _ hv)
      have e0' : wr.cell? ⟨g, o + i * 2, none⟩ = some (.string (p[2 * i]).text) := by rw [Nat.mul_comm i 2]; exact e0
      have e1' : wr.cell? ⟨g, o + i * 2 + 1, none⟩ = some (.iface yv uv) := by rw [Nat.mul_comm i 2, Nat.add_assoc]; exact e1
      have HDV := hide (DatAt.moves (Moves.below (x := x) hB) _ _ hdv)
      obtain ⟨pn, hpn⟩ : ∃ pn, (p[2 * i]).text = pn := ⟨_, rfl⟩
      rw [hpn] at e0'
      have HPN := hide hpn
      clear hv hvn hdv hne hcs e0 e1 hpn
      by_cases hlt2 : i < n
      · have h4 : 2 * i < q.length := by have := HN.out; omega
        have h5 : 2 * i + 1 < q.length := by have := HN.out; omega
        obtain ⟨u, hun, hu, hdu⟩ := FldL.at HE.out i h5
        obtain ⟨yu, uu, hue⟩ := hdu.isIface
        subst hue
        have hne : us ≠ [] := fun e => by rw [e] at hu; simp at hu
        rcases HS.out with h | ⟨g2, o2, rfl, -, hgw2, hcs2⟩
        · exact absurd h hne
        have f0 := (hB.cell (p := ⟨g2, o2 + 2 * i, none⟩) hgw2).trans (hcs2 (2 * i) _ hun)
        have f1 := (hB.cell (p := ⟨g2, o2 + (2 * i + 1), none⟩) hgw2).trans (hcs2 (2 * i + 1) _ hu)
        have f0' : wr.cell? ⟨g2, o2 + i * 2, none⟩ = some (.string (q[2 * i]).text) := by rw [Nat.mul_comm i 2]; exact f0
        have f1' : wr.cell? ⟨g2, o2 + i * 2 + 1, none⟩ = some (.iface yu uu) := by rw [Nat.mul_comm i 2, Nat.add_assoc]; exact f1
        have HDU := hide (DatAt.moves (Moves.below (x := y) hB) _ _ hdu)
        obtain ⟨qn, hqn⟩ : ∃ qn, (q[2 * i]).text = qn := ⟨_, rfl⟩
        rw [hqn] at f0'
        have HCC := hide (fun w' (hb : Below wr.heap.size wr w') => compareFields_any pn qn yv yu uv uu ((p[2 * i + 1]).ord q[2 * i + 1]) w' (fun w'' hb' => HC.out (2 * i + 1) h3 h5 _ _ w'' (DatAt.moves (Moves.below (x := x) hb') _ _ (DatAt.moves (Moves.below (x := x) hb) _ _ HDV.out)) (DatAt.moves (Moves.below (x := y) hb') _ _ (DatAt.moves (Moves.below (x := y) hb) _ _ HDU.out))))
        have HST := hide (ordL_pair p q i h3 h5 (HKP.out i h2) (HKQ.out i h4))
        rw [HPN.out, hqn] at HST
        generalize ordF pn qn ((p[2 * i + 1]).ord q[2 * i + 1]) = od at *
        clear hu hun hdu hne hcs2 f0 f1 hqn
        have q1 : Below wr.heap.size wr (wr.alloc (.cells #[.string pn, .iface yv uv] 95)) := (Below.refl _ _).alloc (Nat.le_refl _) _
        have x0 := (q1.cell (p := ⟨g2, o2 + i * 2, none⟩) (by have := hB.size; show g2 < _; omega)).trans f0'
        have x1 := (q1.cell (p := ⟨g2, o2 + i * 2 + 1, none⟩) (by have := hB.size; show g2 < _; omega)).trans f1'
        have q2 : Below wr.heap.size wr ((wr.alloc (.cells #[.string pn, .iface yv uv] 95)).alloc (.cells #[.string qn, .iface yu uu] 95)) := q1.alloc q1.size _
        by_cases hod : od = 0
        · have HGO : Hid (ordL p q = ordL (p.drop (2 * (i + 1))) (q.drop (2 * (i + 1)))) := hide (by rw [HZ.out, HST.out, if_neg (by simpa using hod)])
          subst hod
          go_wp2_with fail
          refine (HCC.out _ q2).mono ?_
          rintro e w1 ⟨rfl, hb1⟩
          have hb2 := q2.trans (hb1.mono q2.size)
          go_wp2
          go_roundw
          case rel => exact ⟨i + 1, by omega, by omega, by go_num, hB.trans (hb2.mono hB.size), HGO.out⟩
          case measure => simp [intOf]; omega
        · have HGO : Hid (ordL p q = od) := hide (by rw [HZ.out, HST.out, if_pos hod])
          go_wp2_with fail
          refine (HCC.out _ q2).mono ?_
          rintro e w1 ⟨rfl, hb1⟩
          have hb2 := q2.trans (hb1.mono q2.size)
          go_wp2
          go_ret
          exact ⟨ret_int HGO.out.symm, hB.trans (hb2.mono hB.size)⟩
      · have HGO : Hid (ordL p q = 1) := hide (by
          rw [HZ.out, ordL_end p q (2 * i) (by have := HN.out; omega) (by have := HM.out; omega) (by have := HN.out; omega)]
          unfold cmpB; rw [if_neg (by have := HN.out; have := HM.out; simp; omega), if_neg (by have := HN.out; have := HM.out; simp; omega)])
        go_wp2
        go_ret
        exact ⟨ret_int HGO.out.symm, hB.alloc hB.size _⟩
    · have HEN := hide (ordL_end p q (2 * i) (by have := HM.out; omega) (by have := HM.out; omega) (by have := HN.out; omega))
      by_cases hll : (m : Int) < (n : Int)
      · have HGO : Hid (ordL p q = -1) := hide (by
          rw [HZ.out, HEN.out]
          unfold cmpB; rw [if_neg (by have := HN.out; have := HM.out; simp; omega), if_pos (by have := HN.out; have := HM.out; simp; omega)])
        go_wp2
        go_ret
        exact ⟨ret_int HGO.out.symm, hB⟩
      · have HGO : Hid (ordL p q = 0) := hide (by
          rw [HZ.out, HEN.out]
          unfold cmpB; rw [if_pos (by have := HN.out; have := HM.out; simp; omega)])
        go_wp2
        go_ret
        exact ⟨ret_int HGO.out.symm, hB⟩
end Go.Proofs.Ytfpdoafpimaoaaa.Vl
