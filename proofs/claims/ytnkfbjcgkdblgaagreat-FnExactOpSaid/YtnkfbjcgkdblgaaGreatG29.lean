/- Joined: En, Eq. -/
import Derived.Test.YtnkfbjcgkdblgaaGreatG23
import Derived.Test.YtnkfbjcgkdblgaaGreatG28
import Derived.Shelf.Spec.SlicesGrow
import Derived.Test.YtnkfbjcgkdblgaaGreatProg
namespace Go.Proofs.YtnkfbjcgkdblgaaGreat.Vl
open Go.RowKit T.atoms T.ok T.high T.good T.allPlain DatAt T.ord

set_option maxRecDepth 100000 in
set_option maxHeartbeats 1000000 in
theorem among1_any (t u : T) (v u' : Value) (x y k : Nat) (w : World) (hc : w.cell? ⟨k, 0, none⟩ = some u') (h1 : t.count ≤ 1000) (h2 : u.count ≤ 1000) (hg : t.good = true) (hg' : u.good = true) (hd : DatAt w x t v) (hd' : DatAt w y u u') :
    Calls Tryz.prog 120 #[v, .pointer (some ⟨k, 0, none⟩)] w fun e w' => e = .returned (.bool (decide (t.ord u = 0))) ∧ Below w.heap.size w w' := by
  have HC := hide (compare_any (t.count + 1) t u v u' x y w (Nat.lt_succ_self _) h1 h2 hg hg' hd hd')
  obtain ⟨a1, b1, rfl⟩ := hd.isIface
  obtain ⟨a2, b2, rfl⟩ := hd'.isIface
  clear hd hd'
  generalize t.ord u = od at *
  by_cases ho : od = 0
  · subst ho
    go_enter Tryz.func120, Tryz.ntmps120
    go_wp2_with fail
    refine HC.out.mono ?_
    rintro e w1 ⟨rfl, hb⟩
    go_wp2
    go_ret
    exact ⟨ret_bool rfl, hb⟩
  · have hob : (od == 0) = false := by simpa using ho
    go_enter Tryz.func120, Tryz.ntmps120
    go_wp2_with fail
    refine HC.out.mono ?_
    rintro e w1 ⟨rfl, hb⟩
    go_wp2
    go_ret
    exact ⟨ret_bool (by simp [ho]), hb⟩

/-- The first place at which a row's test holds. -/
def FirstAt (n : Nat) (b : Nat → Bool) (r : Int) : Prop := (r = -1 ∧ ∀ j, j < n → b j = false) ∨ ∃ i, i < n ∧ r = (i : Int) ∧ b i = true
set_option maxRecDepth 100000 in
set_option maxHeartbeats 1000000 in
theorem indexFunc_any (ks : List T) (vs : List Value) (p : Option Addr) (c x f k : Nat) (b : Nat → Bool) (w : World) (hl : ks.length ≤ 1000) (hD : DatL w x ks vs) (hR : RowAt w x p vs) (hen : ∀ args w, (callFunc f args).run Tryz.prog w = .ok (.enter f args) w)
    (HP : Hid (∀ i (h : i < ks.length) v W, Below w.heap.size w W → DatAt W x ks[i] v → Calls Tryz.prog f #[v, .pointer (some ⟨k, 0, none⟩)] W fun e w' => e = .returned (.bool (b i)) ∧ Below W.heap.size W w')) :
    Calls Tryz.prog 134 #[.slice p ks.length c, .func (.func f) #[] #[.pointer (some ⟨k, 0, none⟩)]] w fun e w' => ∃ r, e = .returned (.int .i64 r) ∧ FirstAt ks.length b r ∧ Below w.heap.size w w' := by
  have HD := hide hD
  have HR := hide hR
  clear hD hR
  go_enter Tryz.func134, Tryz.ntmps134
  go_wp2
  go_loopw [8] (fun q wr => ∃ i : Nat, i ≤ ks.length ∧ q = .int .i64 i ∧ Below w.heap.size w wr ∧ ∀ j, j < i → b j = false) (fun q _ => ks.length - (intOf q).toNat)
  case atStart => exact ⟨0, Nat.zero_le _, rfl, Below.refl _ _, fun j h => absurd h (Nat.not_lt_zero _)⟩
  case round =>
    obtain ⟨i, hi, rfl, hB, hno⟩ := hrel
    have HNO := hide hno
    clear hno
    by_cases hlt : i < ks.length
    · obtain ⟨v, hv, hd⟩ := DatL.at (DatL.moves (Moves.below (x := x) hB) _ _ HD.out) i hlt
      rcases HR.out.moves (Moves.below (x := x) hB) with h | ⟨gp, op, rfl, hg1, hg2, hcl⟩
      · rw [h] at hv; simp at hv
      have e0 := hcl i _ hv
      have HC := hide (HP.out i hlt v wr hB hd)
      obtain ⟨a1, b1, rfl⟩ := hd.isIface
      clear hd hcl
      cases hbi : b i
      · rw [hbi] at HC
        have HN2 : Hid (∀ j, j < i + 1 → b j = false) := hide (fun j hj => by
          rcases Nat.lt_succ_iff_lt_or_eq.1 hj with q | q
          · exact HNO.out j q
          · subst q; exact hbi)
        go_wp2_with fail
        refine HC.out.mono ?_
        rintro e w1 ⟨rfl, hb1⟩
        go_wp2
        go_roundw
        case rel => exact ⟨i + 1, by omega, by go_num, hB.trans (hb1.mono hB.size), HN2.out⟩
        case measure => simp [intOf]; omega
      · rw [hbi] at HC
        go_wp2_with fail
        refine HC.out.mono ?_
        rintro e w1 ⟨rfl, hb1⟩
        go_wp2
        go_ret
        exact ⟨_, rfl, .inr ⟨i, hlt, rfl, hbi⟩, hB.trans (hb1.mono hB.size)⟩
    · go_wp2
      go_ret
      exact ⟨_, rfl, .inl ⟨rfl, fun j hj => HNO.out j (by omega)⟩, hB⟩

def amongR (t u : T) : Out := .inr (boolT (amongT t.ks u))
theorem among_bool (ks : List T) (u : T) (r : Int) (h : FirstAt ks.length (fun i => decide ((ks[i]?.map fun k => k.ord u).getD 1 = 0)) r) : decide (0 ≤ r) = amongT ks u := by
  rcases h with ⟨rfl, h⟩ | ⟨i, hi, rfl, hb⟩
  · rw [amongT_no (fun i hi => by have := h i hi; simpa [hi] using this)]; rfl
  · rw [amongT_yes hi (by simpa [hi] using hb)]; simp
theorem list_of {w : World} {x : Nat} {t : T} {p : Option Addr} {n c : Nat} {a d : Int} (h : DatAt w x t (.iface 95 (.agg #[.slice p n c, .int .i64 a, .int .i64 d]))) : t.kind = 5 ∧ n = t.ks.length ∧ ∃ vs, t.ks.length ≤ c ∧ DatL w x t.ks vs ∧ RowAt w x p vs := by
  cases t with
  | mk k n s ks =>
    rw [DatAt] at h
    rcases h with ⟨_, e⟩ | ⟨_, e⟩ | ⟨_, e⟩ | ⟨_, e⟩ | ⟨hk, p', c', vs, e, h1, h2, h3⟩ | ⟨_, p', c', m, vs, _, e, _⟩
    · cases e
    · cases e
    · cases e
    · cases e
    · cases e
      exact ⟨hk, rfl, vs, h1, h2, h3⟩
    · injection e with h1
      exact absurd h1 (by decide)

set_option maxRecDepth 100000 in
set_option maxHeartbeats 1000000 in
theorem leaf_among : LeafLD 59 amongR := fun W t u x y p n c a d zy zu _ hg hg' hc hc' _ _ h4 h5 => by
  obtain ⟨hk, rfl, vs, hcap, hD, hR⟩ := list_of h4
  have hla := len_le_atomsL t.ks
  have hct := T.count_eq t
  have hgk : goodL t.ks = true := by
    have : t = .mk t.kind t.num t.text t.ks := T.eta t
    rw [this] at hg
    exact good_kids hg
  have HIX : Hid (∀ k W', Below W.heap.size W W' → k < W'.heap.size → W'.cell? ⟨k, 0, none⟩ = some (.iface zy zu) → Calls Tryz.prog 134 #[.slice p t.ks.length c, .func (.func 120) #[] #[.pointer (some ⟨k, 0, none⟩)]] W' fun e w' => ∃ r, e = .returned (.int .i64 r) ∧ FirstAt t.ks.length (fun i => decide ((t.ks[i]?.map fun k => k.ord u).getD 1 = 0)) r ∧ Below W'.heap.size W' w') := hide (by
    intro k W' hB hk hcell
    refine indexFunc_any t.ks vs p c x _ k _ W' (by omega) (DatL.moves (Moves.below (x := x) hB) _ _ hD) (hR.moves (Moves.below (x := x) hB)) (en_of Tryz.func120 (by kernel_rfl) (by kernel_rfl)) (hide (fun i hi v W2 hB2 hd2 => ?_))
    have hci := count_mem t.ks i hi
    have := among1_any t.ks[i] u v (.iface zy zu) x y k W2 ((hB2.cell (p := ⟨k, 0, none⟩) hk).trans hcell) (by omega) hc' (goodL_mem _ hgk _ (List.getElem_mem hi)) hg' hd2 ((h5.moves (Moves.below hB)).moves (Moves.below hB2))
    simpa [hi] using this)
  have HAB := hide (among_bool t.ks u)
  unfold amongR
  clear hcap hD hR h4 h5 hg hg' hc hc' hgk hct hla
  generalize amongT t.ks u = ab at *
  generalize t.ks.length = n at *
  have HCF : Hid (∀ k W', Below W.heap.size W W' → k < W'.heap.size → W'.cell? ⟨k, 0, none⟩ = some (.iface zy zu) → Calls Tryz.prog 119 #[.slice p n c, .func (.func 120) #[] #[.pointer (some ⟨k, 0, none⟩)]] W' fun e w' => e = .returned (.bool ab) ∧ Below W'.heap.size W' w') := hide (by
    intro k W' hB hk hcell
    have HX := hide (HIX.out k W' hB hk hcell)
    go_enter Tryz.func119, Tryz.ntmps119
    go_wp2_with fail
    refine HX.out.mono ?_
    rintro e w1 ⟨r, rfl, hf, hb1⟩
    have hr := HAB.out r hf
    go_wp2
    go_ret
    exact ⟨ret_bool (by rw [← hr]), hb1⟩)
  have HIA : Hid (∀ W', Below W.heap.size W W' → Calls Tryz.prog 89 #[.slice p n c, .iface zy zu] W' fun e w' => e = .returned (.bool ab) ∧ Below W'.heap.size W' w') := hide (by
    intro W' hB
    have hq : Below W'.heap.size W' (W'.alloc (.cells #[.iface zy zu] 77)) := (Below.refl _ _).alloc (Nat.le_refl _) _
    have HX := hide (HCF.out W'.heap.size (W'.alloc (.cells #[.iface zy zu] 77)) (hB.trans (hq.mono hB.size)) (by simp) (cell_new W' (.iface zy zu) 77).1)
    go_enter Tryz.func89, Tryz.ntmps89
    go_wp2_with fail
    refine HX.out.mono ?_
    rintro e w1 ⟨rfl, hb1⟩
    go_wp2
    go_ret
    exact ⟨rfl, hq.trans (hb1.mono hq.size)⟩)
  refine Calls.mono ?_ tup_bool
  have hq : Below W.heap.size W (W.alloc (.cells #[.slice p n c, .int .i64 a, .int .i64 d] 95)) := (Below.refl _ _).alloc (Nat.le_refl _) _
  have HX := hide (HIA.out (W.alloc (.cells #[.slice p n c, .int .i64 a, .int .i64 d] 95)) hq)
  go_enter Tryz.func59, Tryz.ntmps59
  go_wp2_with fail
  refine HX.out.mono ?_
  rintro e w1 ⟨rfl, hb1⟩
  go_wp2
  go_ret2
  exact ⟨_, _, rfl, rfl, rfl, hq.trans (hb1.mono hq.size)⟩
end Go.Proofs.YtnkfbjcgkdblgaaGreat.Vl
namespace Go.Proofs
open Go.Shelf
def Tryz.growD_ren : Go.Shelf.Ren := ⟨fun | 4 => 125 | n => n, fun | 22 => 75 | 25 => 77 | 3 => 3 | 4 => 4 | 9 => 9 | 20 => 20 | 0 => 0 | n => n, fun | n => n⟩
theorem Tryz.growD : Go.Proofs.Lays8.n4 Tryz.prog Tryz.growD_ren := {
  mixed := by kernel_rfl
  f4 := ⟨Tryz.f125.name, by decide, Tryz.func125.trans (congrArg some (by kernel_rfl))⟩
  t0 := Tryz.underlying0
  a0 := Tryz.isAgg0
  z0 := Tryz.sizeOf0
  v0 := Tryz.zeroValue0
  t3 := Tryz.underlying3
  a3 := Tryz.isAgg3
  z3 := Tryz.sizeOf3
  v3 := Tryz.zeroValue3
  t4 := Tryz.underlying4
  a4 := Tryz.isAgg4
  z4 := Tryz.sizeOf4
  v4 := Tryz.zeroValue4
  t9 := Tryz.underlying9
  a9 := Tryz.isAgg9
  z9 := Tryz.sizeOf9
  v9 := Tryz.zeroValue9
  t20 := Tryz.underlying20
  a20 := Tryz.isAgg20
  z20 := Tryz.sizeOf20
  v20 := Tryz.zeroValue20
  t22 := Tryz.underlying75
  a22 := Tryz.isAgg75
  z22 := Tryz.sizeOf75
  v22 := Tryz.zeroValue75 }
end Go.Proofs
