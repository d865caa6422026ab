/- What fits, on the program's side: a tree is gone through; the first fault. -/
import Derived.Test.YtmklgiononbmmaaDoorNj
import Derived.Test.YtmklgiononbmmaaDoorJi
import Derived.Test.YtmklgiononbmmaaDoorKh
import Derived.Deep.RegionHeld3
namespace Go.Proofs.YtmklgiononbmmaaDoor
open Go.RowKit

/-- The places of all kids lie in memory, between two bounds. -/
def KidsI (w : World) (kg U : Nat) (ks : List (List Nat)) : Prop := kg < w.heap.size ∧ U ≤ w.heap.size ∧ kg < U ∧ ∀ k (h : k < ks.length), ∃ v, w.cell? ⟨kg, k, none⟩ = some v ∧ ((v = .slice none 0 0 ∧ ks[k] = []) ∨ ∃ g c, v = .slice (some ⟨g, 0, none⟩) (ks[k]).length c ∧ kg < g ∧ g < U ∧ (ks[k]).length ≤ c ∧ IntsAt w g 0 ks[k])
theorem KidsI.below {w w' : World} {kg U : Nat} {ks : List (List Nat)} (h : KidsI w kg U ks) (hb : Below w.heap.size w w') : KidsI w' kg U ks := by
  obtain ⟨h1, h2, h3, h4⟩ := h
  refine ⟨Nat.lt_of_lt_of_le h1 hb.size, Nat.le_trans h2 hb.size, h3, fun k hk => ?_⟩
  obtain ⟨v, a, b⟩ := h4 k hk
  refine ⟨v, (hb.cell (p := ⟨kg, k, none⟩) h1).trans a, ?_⟩
  rcases b with b | ⟨g, c, b1, b2, b3, b4, b5⟩
  · exact .inl b
  · exact .inr ⟨g, c, b1, b2, b3, b4, b5.below hb⟩
theorem KidsI.of_kd {w : World} {n : Nat} {v3 : Value} {vs : List Value} {ks : List (List Nat)} {op : List Nat} {wr : World} (h : Kd w n n v3 vs ks op wr) : KidsI wr w.heap.size wr.heap.size ks := by
  have hsz := h.sz
  refine ⟨hsz, Nat.le_refl _, hsz, fun k hk => ?_⟩
  obtain ⟨v, hv, hp⟩ := h.rows k hk
  have hkl := h.kl
  have hvl := h.vl
  refine ⟨v, ?_, ?_⟩
  · rw [h.kr.cellAt k (by omega), List.getElem?_append_left (by omega)]; exact hv
  · rcases hp with hp | ⟨g, c, b1, b2, _, b4, b5⟩
    · exact .inl hp
    · exact .inr ⟨g, c, b1, by omega, b5.1, b4, b5⟩
abbrev bdO (tg tc kg bg cg n : Nat) : Obj := .cells #[.slice (some ⟨tg, 0, none⟩) n tc, .slice (some ⟨kg, 0, none⟩) n n, .slice (some ⟨bg, 0, none⟩) n n, .slice (some ⟨cg, 0, none⟩) n n] 57
theorem bind_made (ns : List Tr.Nd) (ks : List (List Nat)) (tg tc kg U cg bg : Nat) (W : World) (hK : KidsI W kg U ks) (hl : ks.length = ns.length) (hx : ∀ x ∈ ns, x.text.size ≤ 1048576) (ht : NodesAt W tg ns) (h1 : cg < kg ∨ U ≤ cg) (h2 : bg < kg ∨ U ≤ bg) (h3 : cg ≠ bg) (h4 : tg ≠ cg) (h5 : tg ≠ bg) (s : Tr.St)
    (hc : W.ownsRow 0 3 1 (.slice (some ⟨cg, 0, none⟩) ns.length ns.length) ns.length (s.codes.map vi)) (hb : W.ownsRow 0 3 1 (.slice (some ⟨bg, 0, none⟩) ns.length ns.length) ns.length (s.binds.map vi)) :
    Ix ns ks W.heap.size tg tc kg ns.length cg bg (W.alloc (bdO tg tc kg bg cg ns.length)) ∧ Dy ns.length cg bg s (W.alloc (bdO tg tc kg bg cg ns.length)) ∧ Below W.heap.size W (W.alloc (bdO tg tc kg bg cg ns.length)) := by
  have hB : Below W.heap.size W (W.alloc (bdO tg tc kg bg cg ns.length)) := (Below.refl _ _).alloc (Nat.le_refl _) _
  have hnew := heap_alloc_new' W (bdO tg tc kg bg cg ns.length)
  have hcl := (hc.lt cg rfl).2
  have hbl := (hb.lt bg rfl).2
  obtain ⟨k1, k2, k3, k4⟩ := hK.below hB
  have hsz : (W.alloc (bdO tg tc kg bg cg ns.length)).heap.size = W.heap.size + 1 := by simp
  refine ⟨⟨by omega, by omega, h4, h5, by omega, by omega, by omega, k1, ?_, ?_, ?_, ?_, ht.below hB, hx, hl, fun k hk => ?_⟩, ⟨h3, hc.alloc _, hb.alloc _⟩, hB⟩
  · rw [World.cell?, hnew]; rfl
  · rw [World.cell?, hnew]; rfl
  · rw [World.cell?, hnew]; rfl
  · rw [World.cell?, hnew]; rfl
  · obtain ⟨v, a, b⟩ := k4 k hk
    refine ⟨v, a, ?_⟩
    rcases b with ⟨b1, b2⟩ | ⟨g, c, b1, b2, b3, b4, b5⟩
    · exact .inl ⟨none, 0, b1, b2⟩
    · exact .inr ⟨g, 0, c, b1, by omega, by omega, b4, b5⟩

set_option maxRecDepth 100000 in
set_option maxHeartbeats 400000 in
theorem firstFault_any (ns : List Tr.Nd) (ks : List (List Nat)) (wb tg tc kg kc cg bg : Nat) (s : Tr.St) (w : World) (hn : ns.length ≤ 5000) (hF : Ix ns ks wb tg tc kg kc cg bg w) (hD : Dy ns.length cg bg s w) :
    Calls Tryd.prog 30 #[.pointer (some ⟨wb, 0, none⟩)] w fun e w' => e = .returned (.agg #[.int .i64 (Tr.firstC s.codes 0).1, .int .i64 (Tr.firstC s.codes 0).2]) ∧ Below w.heap.size w w' := by
  have hB : Below w.heap.size w (w.alloc (.cells #[.int .i64 0, .int .i64 0] 27)) := (Below.refl _ _).alloc (Nat.le_refl _) _
  have f3 := (hB.cell (p := ⟨wb, 3, none⟩) hF.wlt).trans hF.f3
  have hlen := hD.lens.1
  have HD := hide (hD.below hB)
  clear hF hD
  go_enter Tryd.func30, Tryd.ntmps30
  go_wp2
  go_loopw [10] (fun t wr => ∃ i : Nat, i ≤ ns.length ∧ t = .int .i64 i ∧ wr = w.alloc (.cells #[.int .i64 0, .int .i64 0] 27) ∧ Tr.firstC s.codes 0 = Tr.firstC (s.codes.drop i) i) (fun t _ => ns.length - (intOf t).toNat)
  case atStart => exact ⟨0, Nat.zero_le _, rfl, rfl, rfl⟩
  case round =>
    obtain ⟨i, hi, rfl, rfl, he⟩ := hrel
    have HE := hide he
    clear he
    by_cases hlt : i < ns.length
    · have hc := (HD.out.cellC i hlt).1
      have HS := hide (Tr.firstC_at s.codes i (by omega))
      rw [List.getElem?_eq_getElem (by omega), Option.getD_some] at hc
      generalize s.codes[i] = z at *
      by_cases hz : z = 0
      · subst hz
        have HS2 : Hid (Tr.firstC s.codes 0 = Tr.firstC (s.codes.drop (i + 1)) (i + 1)) := hide (by rw [HE.out, HS.out, if_pos rfl])
        go_wp2
        go_roundw
        case rel => exact ⟨i + 1, by omega, by go_num, by trivial, HS2.out⟩
        case measure => simp [intOf]; omega
      · have hzb : (z == 0) = false := by simpa using hz
        have HS2 : Hid (Tr.firstC s.codes 0 = (z, i)) := hide (by rw [HE.out, HS.out, if_neg hz])
        go_wp2
        refine bodyPost_ret (v := .agg #[.int .i64 z, .int .i64 i]) (by simp [results, Tryd.results30, go_sem]) rfl ⟨by rw [HS2.out], ?_⟩
        exact (Below.refl _ _).alloc (Nat.le_refl _) _
    · have HS2 : Hid (Tr.firstC s.codes 0 = (0, 0)) := hide (by rw [HE.out, List.drop_of_length_le (by omega)]; rfl)
      go_wp2
      refine bodyPost_ret (v := .agg #[.int .i64 0, .int .i64 0]) (by simp [results, Tryd.results30, go_sem]) rfl ⟨by rw [HS2.out]; rfl, ?_⟩
      exact (Below.refl _ _).alloc (Nat.le_refl _) _

theorem undrew {B : Nat} {W w' : World} (h : Below B W.drew w') : Below B W w' := ⟨h.os, h.tape, h.output, h.size, h.block⟩
/-- The new binder. -/
def Bd (ns : List Tr.Nd) (ks : List (List Nat)) (tg tc : Nat) (w : World) (v4 : Value) (wx : World) : Prop :=
  ∃ wb kg cg bg, v4 = .pointer (some ⟨wb, 0, none⟩) ∧ w.heap.size ≤ wb ∧ w.heap.size ≤ cg ∧ w.heap.size ≤ bg ∧ Ix ns ks wb tg tc kg ns.length cg bg wx ∧ Dy ns.length cg bg ⟨List.replicate ns.length 0, List.replicate ns.length 0⟩ wx ∧ Below w.heap.size w wx
/-- Both rows are made behind the call. -/
theorem bind_a {ns : List Tr.Nd} {ks : List (List Nat)} {tg tc kg cg bg z : Nat} {w w' : World} (hn : ns.length ≤ 5000) (hK : KidsI w' kg w'.heap.size ks) (hl : ks.length = ns.length) (hx : ∀ x ∈ ns, x.text.size ≤ 1048576) (ht : NodesAt w tg ns) (hB : Below w.heap.size w w')
    (hcb : cg = w'.heap.size ∧ bg = w'.heap.size + 1 ∨ cg = w'.heap.size + 1 ∧ bg = w'.heap.size) (hz : z = w'.heap.size + 1 + 1) : Bd ns ks tg tc w (.pointer (some ⟨z, 0, none⟩)) (((w'.alloc (mdO ns.length)).alloc (mdO ns.length)).alloc (bdO tg tc kg bg cg ns.length)) := by
  have m0 := made_row w' ns.length 0 (Nat.zero_le _) (by unfold maxLen; omega)
  have m1 := made_row (w'.alloc (mdO ns.length)) ns.length 0 (Nat.zero_le _) (by unfold maxLen; omega)
  rw [World.size_alloc] at m1
  have hB1 : Below w'.heap.size w' ((w'.alloc (mdO ns.length)).alloc (mdO ns.length)) := ((Below.refl _ _).alloc (Nat.le_refl _) _).alloc (by simp) _
  have htl := ht.1
  have hsz := hB.size
  have hw : ((w'.alloc (mdO ns.length)).alloc (mdO ns.length)).heap.size = z := by rw [World.size_alloc, World.size_alloc, hz]
  have ht2 : NodesAt ((w'.alloc (mdO ns.length)).alloc (mdO ns.length)) tg ns := ht.below (hB.trans (hB1.mono hsz))
  have hbm := bind_made ns ks tg tc kg w'.heap.size cg bg _ (hK.below hB1) hl hx ht2 (by omega) (by omega) (by omega) (by omega) (by omega) ⟨List.replicate ns.length 0, List.replicate ns.length 0⟩
    (by rcases hcb with ⟨rfl, rfl⟩ | ⟨rfl, rfl⟩; exact m0.alloc _; exact m1) (by rcases hcb with ⟨rfl, rfl⟩ | ⟨rfl, rfl⟩; exact m1; exact m0.alloc _)
  rw [hw] at hbm
  exact ⟨z, kg, cg, bg, rfl, by omega, by omega, by omega, hbm.1, hbm.2.1, hB.trans ((hB1.mono hsz).trans (hbm.2.2.mono (by omega)))⟩
/-- One ahead, one behind. -/
theorem bind_b {ns : List Tr.Nd} {ks : List (List Nat)} {tg tc kg cg bg z x : Nat} {w X w' : World} (hxs : X.heap.size = x) (hn : ns.length ≤ 5000) (hK : KidsI w' kg w'.heap.size ks) (hkg : kg = x + 1) (hl : ks.length = ns.length) (hx : ∀ x ∈ ns, x.text.size ≤ 1048576) (ht : NodesAt w tg ns) (hX : Below w.heap.size w X) (hB : Below (x + 1) (X.alloc (mdO ns.length)) w')
    (hcb : cg = x ∧ bg = w'.heap.size ∨ cg = w'.heap.size ∧ bg = x) (hz : z = w'.heap.size + 1) : Bd ns ks tg tc w (.pointer (some ⟨z, 0, none⟩)) ((w'.alloc (mdO ns.length)).alloc (bdO tg tc kg bg cg ns.length)) := by
  subst hxs
  have m0 := made_row X ns.length 0 (Nat.zero_le _) (by unfold maxLen; omega)
  have m0' := row_same m0 (hB.block X.heap.size (Nat.lt_succ_self _))
  have m1 := made_row w' ns.length 0 (Nat.zero_le _) (by unfold maxLen; omega)
  have hB1 : Below w'.heap.size w' (w'.alloc (mdO ns.length)) := (Below.refl _ _).alloc (Nat.le_refl _) _
  have htl := ht.1
  have hsx := hX.size
  have hsz := hB.size
  rw [World.size_alloc] at hsz
  have hw : (w'.alloc (mdO ns.length)).heap.size = z := by rw [World.size_alloc, hz]
  have hXw : Below w.heap.size w w' := (hX.alloc (by omega) (mdO ns.length)).trans (hB.mono (by omega))
  have ht2 : NodesAt (w'.alloc (mdO ns.length)) tg ns := ht.below (hXw.trans (hB1.mono (by omega)))
  have hbm := bind_made ns ks tg tc kg w'.heap.size cg bg _ (hK.below hB1) hl hx ht2 (by omega) (by omega) (by omega) (by omega) (by omega) ⟨List.replicate ns.length 0, List.replicate ns.length 0⟩
    (by rcases hcb with ⟨rfl, rfl⟩ | ⟨rfl, rfl⟩; exact m0'.alloc _; exact m1) (by rcases hcb with ⟨rfl, rfl⟩ | ⟨rfl, rfl⟩; exact m1; exact m0'.alloc _)
  rw [hw] at hbm
  exact ⟨z, kg, cg, bg, rfl, by omega, by omega, by omega, hbm.1, hbm.2.1, hXw.trans ((hB1.mono (by omega)).trans (hbm.2.2.mono (by omega)))⟩
/-- Both ahead. -/
theorem bind_c {ns : List Tr.Nd} {ks : List (List Nat)} {tg tc kg cg bg z x : Nat} {w X w' : World} (hxs : X.heap.size = x) (hn : ns.length ≤ 5000) (hK : KidsI w' kg w'.heap.size ks) (hkg : kg = x + 1 + 1) (hl : ks.length = ns.length) (hx : ∀ x ∈ ns, x.text.size ≤ 1048576) (ht : NodesAt w tg ns) (hX : Below w.heap.size w X) (hB : Below (x + 1 + 1) ((X.alloc (mdO ns.length)).alloc (mdO ns.length)) w')
    (hcb : cg = x ∧ bg = x + 1 ∨ cg = x + 1 ∧ bg = x) (hz : z = w'.heap.size) : Bd ns ks tg tc w (.pointer (some ⟨z, 0, none⟩)) (w'.alloc (bdO tg tc kg bg cg ns.length)) := by
  subst hxs
  have m0 := (made_row X ns.length 0 (Nat.zero_le _) (by unfold maxLen; omega)).alloc (mdO ns.length)
  have m1 := made_row (X.alloc (mdO ns.length)) ns.length 0 (Nat.zero_le _) (by unfold maxLen; omega)
  rw [World.size_alloc] at m1
  have m0' := row_same m0 (hB.block X.heap.size (by omega))
  have m1' := row_same m1 (hB.block (X.heap.size + 1) (by omega))
  have htl := ht.1
  have hsx := hX.size
  have hsz := hB.size
  rw [World.size_alloc, World.size_alloc] at hsz
  have hXw : Below w.heap.size w w' := ((hX.alloc (by omega) (mdO ns.length)).alloc (by simp; omega) (mdO ns.length)).trans (hB.mono (by omega))
  have hbm := bind_made ns ks tg tc kg w'.heap.size cg bg w' hK hl hx (ht.below hXw) (by omega) (by omega) (by omega) (by omega) (by omega) ⟨List.replicate ns.length 0, List.replicate ns.length 0⟩
    (by rcases hcb with ⟨rfl, rfl⟩ | ⟨rfl, rfl⟩; exact m0'; exact m1') (by rcases hcb with ⟨rfl, rfl⟩ | ⟨rfl, rfl⟩; exact m1'; exact m0')
  rw [← hz] at hbm
  exact ⟨z, kg, cg, bg, rfl, by omega, by omega, by omega, hbm.1, hbm.2.1, hXw.trans (hbm.2.2.mono (by omega))⟩
set_option maxRecDepth 100000 in
set_option maxHeartbeats 1000000 in
theorem bindTree_any (ns : List Tr.Nd) (tg tc : Nat) (w : World) (hn1 : 1 ≤ ns.length) (hn5 : ns.length ≤ 5000) (hgood : Tr.kidsGood ns = true)
    (hlen : ∀ k (h : k < (Tr.kids ns).length), ((Tr.kids ns)[k]).length ≤ 5000 ∧ (Tr.kindOf ns k = 14 → ((Tr.kids ns)[k]).length = 2) ∧ (Tr.kindOf ns k = 16 → 1 ≤ ((Tr.kids ns)[k]).length) ∧ (Tr.kindOf ns k = 15 ∨ Tr.kindOf ns k = 20 → 1 ≤ ((Tr.kids ns)[k]).length))
    (hx : ∀ x ∈ ns, x.text.size ≤ 1048576) (hG : GlobB w) (ht : NodesAt w tg ns) :
    Calls Tryd.prog 29 #[.agg #[.slice (some ⟨tg, 0, none⟩) ns.length tc]] w fun e w' => ∃ wb kg kc cg bg, e = .returned (.pointer (some ⟨wb, 0, none⟩)) ∧ Ix ns (Tr.kids ns) wb tg tc kg kc cg bg w' ∧ Dy ns.length cg bg (Tr.iwalk ns (Tr.kids ns) ns.length (ns.length - 1) [Tr.builtSp] (Tr.st0 ns.length)) w' ∧ w.heap.size ≤ cg ∧ w.heap.size ≤ bg ∧ Below w.heap.size w w' := by
  have r1 : Below w.heap.size w (w.alloc (.cells #[.slice (some ⟨tg, 0, none⟩) ns.length tc] 31)) := (Below.refl _ _).alloc (Nat.le_refl _) _
  have hkl := Tr.kids_len hgood
  have hlt := Tr.kids_lt ns
  have hmk := make_eq ns.length hn5
  have HPL := hide (fun w' (hb : Below w.heap.size w w') => places_any ns tg tc w' hn5 hgood (ht.below hb))
  have HLN := hide hlen
  have HLT := hide hlt
  have HT := hide ht
  have HX := hide hx
  have HG := hide hG
  clear hlen hlt ht hx hG
  generalize hks : Tr.kids ns = ks at *
  go_enter Tryd.func29, Tryd.ntmps29
  have hbx0 : (w.alloc (.cells #[.slice (some ⟨tg, 0, none⟩) ns.length tc] 31)).cell? ⟨w.heap.size, 0, none⟩ = some (.slice (some ⟨tg, 0, none⟩) ns.length tc) := by simp
  have HPC : Hid (∀ (W : World) (z : Nat), Below w.heap.size w W → W.heap.size = z → Calls Tryd.prog 58 #[.slice (some ⟨tg, 0, none⟩) ns.length tc] W fun e w' => e = .returned (.slice (some ⟨z, 0, none⟩) ns.length ns.length) ∧ (KidsI w' z w'.heap.size ks ∧ Below z W w' ∧ z < w'.heap.size)) := hide (by
    rintro W z hb rfl
    refine (HPL.out W hb).mono ?_
    rintro e w' ⟨vs, v3, op, rfl, hk⟩
    exact ⟨rfl, KidsI.of_kd hk, hk.B, hk.sz⟩)
  clear HPL
  have HXS : Hid ((w.alloc (.cells #[.slice (some ⟨tg, 0, none⟩) ns.length tc] 31)).heap.size = w.heap.size + 1) := hide (by simp)
  have HR0 := hide (show Below w.heap.size w (w.alloc (.cells #[.slice (some ⟨tg, 0, none⟩) ns.length tc] 31)).drew from r1.drew)
  have HR1 := hide (show Below w.heap.size w ((w.alloc (.cells #[.slice (some ⟨tg, 0, none⟩) ns.length tc] 31)).alloc (mdO ns.length)).drew from (r1.alloc (by simp) _).drew)
  have HR2 := hide (show Below w.heap.size w (((w.alloc (.cells #[.slice (some ⟨tg, 0, none⟩) ns.length tc] 31)).alloc (mdO ns.length)).alloc (mdO ns.length)).drew from ((r1.alloc (by simp) _).alloc (by rw [World.size_alloc, World.size_alloc]; omega) _).drew)
  have HS0 : Hid ((w.alloc (.cells #[.slice (some ⟨tg, 0, none⟩) ns.length tc] 31)).drew.heap.size = w.heap.size + 1) := hide (by show (w.alloc (.cells #[.slice (some ⟨tg, 0, none⟩) ns.length tc] 31)).heap.size = _; simp)
  have HS1 : Hid (((w.alloc (.cells #[.slice (some ⟨tg, 0, none⟩) ns.length tc] 31)).alloc (mdO ns.length)).drew.heap.size = w.heap.size + 1 + 1) := hide (by show ((w.alloc (.cells #[.slice (some ⟨tg, 0, none⟩) ns.length tc] 31)).alloc (mdO ns.length)).heap.size = _; simp)
  have HS2 : Hid ((((w.alloc (.cells #[.slice (some ⟨tg, 0, none⟩) ns.length tc] 31)).alloc (mdO ns.length)).alloc (mdO ns.length)).drew.heap.size = w.heap.size + 1 + 1 + 1) := hide (by show (((w.alloc (.cells #[.slice (some ⟨tg, 0, none⟩) ns.length tc] 31)).alloc (mdO ns.length)).alloc (mdO ns.length)).heap.size = _; simp)
  have hbx1 : ((w.alloc (.cells #[.slice (some ⟨tg, 0, none⟩) ns.length tc] 31)).alloc (mdO ns.length)).cell? ⟨w.heap.size, 0, none⟩ = some (.slice (some ⟨tg, 0, none⟩) ns.length tc) := (((Below.refl (w.heap.size + 1) _).alloc (by simp) _).cell (p := ⟨w.heap.size, 0, none⟩) (Nat.lt_succ_self _)).trans hbx0
  have hbx2 : (((w.alloc (.cells #[.slice (some ⟨tg, 0, none⟩) ns.length tc] 31)).alloc (mdO ns.length)).alloc (mdO ns.length)).cell? ⟨w.heap.size, 0, none⟩ = some (.slice (some ⟨tg, 0, none⟩) ns.length tc) := (((Below.refl (w.heap.size + 1) _).alloc (by simp) _).cell (p := ⟨w.heap.size, 0, none⟩) (Nat.lt_succ_self _)).trans hbx1
  go_upto_region 2 with fail
  go_cut [4] from 9 to 20 (fun v4 wx => Bd ns ks tg tc w v4 wx)
  case first =>
    go_region_held3 (fun w' => w'.cell? ⟨w.heap.size, 0, none⟩ = some (.slice (some ⟨tg, 0, none⟩) ns.length tc)) (go_keep) (first
      | (refine step_call1 rfl 58 (.tmp 12) 29 rfl (.slice (some ⟨tg, 0, none⟩) ns.length tc) (.slice (some ⟨w.heap.size + 1, 0, none⟩) ns.length ns.length) (by simp [Act.eval]) Tryd.f58 Tryd.func58 (by kernel_rfl) (by kernel_rfl) _ (HPC.out _ (w.heap.size + 1) HR0.out HS0.out) ?_; intro w5 hw5; have hbx : w5.cell? ⟨w.heap.size, 0, none⟩ = some (.slice (some ⟨tg, 0, none⟩) ns.length tc) := (hw5.2.1.cell (p := ⟨w.heap.size, 0, none⟩) (show w.heap.size < w.heap.size + 1 by omega)).trans hbx0)
      | (refine step_call1 rfl 58 (.tmp 12) 29 rfl (.slice (some ⟨tg, 0, none⟩) ns.length tc) (.slice (some ⟨w.heap.size + 1 + 1, 0, none⟩) ns.length ns.length) (by simp [Act.eval]) Tryd.f58 Tryd.func58 (by kernel_rfl) (by kernel_rfl) _ (HPC.out _ (w.heap.size + 1 + 1) HR1.out HS1.out) ?_; intro w5 hw5; have hbx : w5.cell? ⟨w.heap.size, 0, none⟩ = some (.slice (some ⟨tg, 0, none⟩) ns.length tc) := (hw5.2.1.cell (p := ⟨w.heap.size, 0, none⟩) (show w.heap.size < w.heap.size + 1 + 1 by omega)).trans hbx1)
      | (refine step_call1 rfl 58 (.tmp 12) 29 rfl (.slice (some ⟨tg, 0, none⟩) ns.length tc) (.slice (some ⟨w.heap.size + 1 + 1 + 1, 0, none⟩) ns.length ns.length) (by simp [Act.eval]) Tryd.f58 Tryd.func58 (by kernel_rfl) (by kernel_rfl) _ (HPC.out _ (w.heap.size + 1 + 1 + 1) HR2.out HS2.out) ?_; intro w5 hw5; have hbx : w5.cell? ⟨w.heap.size, 0, none⟩ = some (.slice (some ⟨tg, 0, none⟩) ns.length tc) := (hw5.2.1.cell (p := ⟨w.heap.size, 0, none⟩) (show w.heap.size < w.heap.size + 1 + 1 + 1 by omega)).trans hbx2)
      | fail)
    all_goals
      go_wp2_with fail
      go_meet
      case rel =>
        first
        | exact bind_a hn5 hw5.1 hkl HX.out HT.out (HR0.out.trans (hw5.2.1.mono (by omega))) (.inl ⟨rfl, rfl⟩) rfl
        | exact bind_a hn5 hw5.1 hkl HX.out HT.out (HR0.out.trans (hw5.2.1.mono (by omega))) (.inr ⟨rfl, rfl⟩) rfl
        | exact bind_b HXS.out hn5 hw5.1 rfl hkl HX.out HT.out r1 (undrew hw5.2.1) (.inl ⟨rfl, rfl⟩) rfl
        | exact bind_b HXS.out hn5 hw5.1 rfl hkl HX.out HT.out r1 (undrew hw5.2.1) (.inr ⟨rfl, rfl⟩) rfl
        | exact bind_c HXS.out hn5 hw5.1 rfl hkl HX.out HT.out r1 (undrew hw5.2.1) (.inl ⟨rfl, rfl⟩) rfl
        | exact bind_c HXS.out hn5 hw5.1 rfl hkl HX.out HT.out r1 (undrew hw5.2.1) (.inr ⟨rfl, rfl⟩) rfl
  case rest =>
    obtain ⟨wb, kg, cg, bg, rfl, hwb, hcg, hbg, hIx, hDy, hBx⟩ := hcut
    have HIX := hide hIx
    have f2 := hIx.f2
    have HBX := hide hBx
    have hcl := (hDy.c.lt cg rfl).2
    have hbl := (hDy.b.lt bg rfl).2
    have HDY := hide hDy
    clear hIx hDy hBx HPC HR0 HR1 HR2 HS0 HS1 HS2 hbx0 hbx1 hbx2
    go_wp2
    go_loopw [25] (fun t wr => ∃ i : Nat, i ≤ ns.length ∧ t = .int .i64 i ∧ Kp cg bg wc wr ∧ Dy ns.length cg bg ⟨List.replicate ns.length 0, List.replicate i (-1) ++ List.replicate (ns.length - i) 0⟩ wr) (fun t _ => ns.length - (intOf t).toNat)
    case atStart => exact ⟨0, Nat.zero_le _, rfl, Kp.refl _ _ _, HDY.out⟩
    case round =>
      obtain ⟨i, hi, rfl, hK, hDr⟩ := hrel
      have HFr := hide (HIX.out.kept hK)
      have f2r := HFr.out.f2
      have HDr := hide hDr
      by_cases hlt : i < ns.length
      · obtain ⟨cb, fb⟩ := hDr.cellB i hlt
        have HRS := hide (rep_set ns.length i hlt)
        clear hDr
        go_wp2
        go_roundw
        case rel =>
          refine ⟨i + 1, by omega, by go_num, hK.setCell _ _ (.inr rfl), ?_⟩
          have := HDr.out.setB i (-1)
          rw [HRS.out] at this
          exact this
        case measure => simp [intOf]; omega
      · obtain rfl : i = ns.length := by omega
        have hst : (⟨List.replicate ns.length 0, List.replicate ns.length (-1) ++ List.replicate (ns.length - ns.length) 0⟩ : Tr.St) = Tr.st0 ns.length := by unfold Tr.st0; rw [Nat.sub_self, List.replicate_zero, List.append_nil]
        rw [hst] at HDr
        obtain ⟨m, hm⟩ : ∃ m, ns.length = m + 1 := ⟨ns.length - 1, by omega⟩
        have hsz := hK.size
        have hgl := HG.out.1
        have hszx := HBX.out.size
        have HGr : Hid (GlobB wr) := hide ⟨by omega, fun j hj => ((hK.cell (p := ⟨0, j, none⟩) (show 0 < wc.heap.size by omega) (show 0 ≠ cg by omega) (show 0 ≠ bg by omega)).trans (HBX.out.cell (p := ⟨0, j, none⟩) hgl)).trans (HG.out.2 j hj)⟩
        clear hDr hst
        have HM1 : Hid (ns.length - 1 = m) := hide (by omega)
        have hmi : (ns.length : Int) = (m : Int) + 1 := by omega
        go_wp2_with fail
        refine (builtScope_any cg bg _ HGr.out (by omega) (by omega)).mono ?_
        rintro e w6 ⟨rfl, hb6, hch6⟩
        have HWK := hide (walk_any ns ks wb tg tc kg ns.length cg bg hn5 HLT.out HLN.out ns.length m _ _ _ w6 (by omega) (by omega) (HFr.out.kept (Kp.of_below hb6)) (HDr.out.below hb6) hch6)
        clear hch6
        go_wp2_with fail
        refine HWK.out.mono ?_
        rintro e w7 ⟨rfl, hk7, hd7⟩
        have HK7 := hide ((hK.below hb6).trans hk7)
        go_wp2
        go_ret
        refine ⟨wb, kg, ns.length, cg, bg, rfl, HIX.out.kept HK7.out, ?_, hcg, hbg, ?_⟩
        · rw [HM1.out]; exact hd7
        · have h7 := HK7.out
          have hx := HBX.out
          exact ⟨h7.os.trans hx.os, h7.tape.trans hx.tape, h7.output.trans hx.output, Nat.le_trans hx.size h7.size, fun b hb => (h7.block b (by omega) (by omega) (by omega)).trans (hx.block b hb)⟩
end Go.Proofs.YtmklgiononbmmaaDoor
