/- Joined: Em. -/
import Derived.Test.YtnkfbjcgkdblgaaGreatG37
import Derived.Test.YtnkfbjcgkdblgaaGreatG25
import Derived.Deep.RegionWith
namespace Go.Proofs.YtnkfbjcgkdblgaaGreat.Vl
open Go.RowKit T.atoms T.ok T.high T.good T.allPlain DatAt T.ord

/-- What Op comes to, by what its table holds. -/
def opOut (Rs : List (T → T → Out)) (op : Int) (t u : T) : Out := match (if 1 ≤ op then Rs[(op - 1).toNat]? else none) with
  | some R => R t u
  | none => .inl tyW
def opRes (Rs : List (T → T → Out)) (op : Int) (la lb : List At) : List At × List UInt8 :=
  if valid la = true ∧ valid lb = true then match treeOf la, treeOf lb with
    | some t, some u => (opOut Rs op t u).res
    | _, _ => ([], tyW)
  else ([], tyW)
theorem num_of {l : List At} {t : T} (ht : treeOf l = some t) (hx : ∀ x ∈ l, in64 x.n) : in64 t.num := by
  have e := treeOf_some ht
  rw [T.atoms_eq] at e
  exact hx ⟨t.kind, t.num, t.text, t.ks.length⟩ (by rw [e]; simp)

/-- Each deed of the table, done. -/
theorem performOp_any (Rs : List (T → T → Out)) (hfi : ∀ R ∈ Rs, ∀ t u, (R t u).fine) (op : Int) (la lb : List At) (l : List (Nat × Nat)) (g c g' c' gv : Nat) (w0 w : World) (hl : la.length ≤ 1048576) (hl' : lb.length ≤ 1048576) (hx : ∀ x ∈ la, in64 x.n) (hx' : ∀ x ∈ lb, in64 x.n) (ht : AtomsO w g 0 la) (ht' : AtomsO w g' 0 lb) (hgv : gv < w.heap.size) (hc : w.cell? ⟨gv, 0, none⟩ = some (.slice (some ⟨g, 0, none⟩) la.length c)) (hc' : w.cell? ⟨gv, 1, none⟩ = some (.slice (some ⟨g', 0, none⟩) lb.length c')) (T0 : Tab w0 Rs l w) (hG : GI w) :
    Calls Tryz.prog 23 #[tabV l op, .slice (some ⟨gv, 0, none⟩) 2 2] w (PPost2 w (opRes Rs op la lb)) := by
  unfold tabV opRes
  have hlen := T0.len
  by_cases h1 : 1 ≤ op
  · rw [if_pos h1]
    by_cases h2 : (op - 1).toNat < l.length
    · rw [List.getElem?_eq_getElem h2]
      obtain ⟨lo, hi, _, hD⟩ := T0.deeds _ h2 (by omega)
      show Calls _ _ #[deedV 2 (l[(op - 1).toNat]).1 (l[(op - 1).toNat]).2, _] _ _
      by_cases hv : valid la = true
      · by_cases hv' : valid lb = true
        · rw [if_pos ⟨hv, hv'⟩]
          obtain ⟨t, htr, hg, hn⟩ := valid_tree hv
          obtain ⟨u, htr', hg', hn'⟩ := valid_tree hv'
          rw [htr, htr']
          have e1 : t.count = la.length := by rw [treeOf_some htr]; rfl
          have e2 : u.count = lb.length := by rw [treeOf_some htr']; rfl
          have ho : opOut Rs op t u = (Rs[(op - 1).toNat]'(by omega)) t u := by unfold opOut; rw [if_pos h1, List.getElem?_eq_getElem (by omega)]
          show Calls _ _ _ _ (PPost2 w (opOut Rs op t u).res)
          rw [ho]
          exact perform_good _ _ g c _ g' c' _ gv la lb t u _ w hD.en (hD.now hg hg' (by omega) (by omega) (num_of htr hx) (num_of htr' hx') hG) (hfi _ (List.getElem_mem _) t u) htr htr' hv hv' rfl hl ht rfl hl' ht' hgv hc hc'
        · rw [if_neg (fun h => hv' h.2)]
          exact perform_bad2 _ _ g c _ g' c' _ gv la lb w hv (by simpa using hv') rfl hl ht rfl hl' ht' hgv hc hc'
      · rw [if_neg (fun h => hv h.1)]
        exact perform_bad1 _ _ g c _ gv la w (by simpa using hv) rfl hl ht hgv hc
    · rw [List.getElem?_eq_none (by omega)]
      have he : (if valid la = true ∧ valid lb = true then match treeOf la, treeOf lb with | some t, some u => (opOut Rs op t u).res | _, _ => ([], tyW) else ([], tyW)) = (([], tyW) : List At × List UInt8) := by
        split
        · split
          · unfold opOut; rw [if_pos h1, List.getElem?_eq_none (by omega)]; rfl
          · rfl
        · rfl
      rw [he]
      exact perform_none gv w
  · rw [if_neg h1]
    have he : (if valid la = true ∧ valid lb = true then match treeOf la, treeOf lb with | some t, some u => (opOut Rs op t u).res | _, _ => ([], tyW) else ([], tyW)) = (([], tyW) : List At × List UInt8) := by
      split
      · split
        · unfold opOut; rw [if_neg h1]; rfl
        · rfl
      · rfl
    rw [he]
    exact perform_none gv w

theorem PV.slice {w : World} {B : Nat} {v : Value} {r : List At} (h : (v = .slice none 0 0 ∧ r = []) ∨ OwnV w B v r) : ∃ p n c, v = .slice p n c := by
  rcases h with ⟨h, _⟩ | ⟨g, c, h, _⟩ <;> exact ⟨_, _, _, h⟩
theorem PV.move {w : World} {B B' : Nat} {v : Value} {r : List At} (h : (v = .slice none 0 0 ∧ r = []) ∨ OwnV w B v r) {a : Addr} (ha : a.block < B) (x : Value) (hB : B' ≤ B) : (v = .slice none 0 0 ∧ r = []) ∨ OwnV (w.setCell a x) B' v r := by
  rcases h with h | ⟨g, c, rfl, ho⟩
  · exact .inl h
  · exact .inr ⟨g, c, rfl, row_mono (row_sameE ho (Below.heap_setCell _ _ _ _ (show g ≠ a.block by have := (ho.lt g rfl).1; omega))) hB⟩
theorem two_newV (W : World) (a b : Value) (t : TypeId) : (W.alloc (.cells #[a, b] t)).cell? ⟨W.heap.size, 0, none⟩ = some a ∧ (W.alloc (.cells #[a, b] t)).cell? ⟨W.heap.size, 1, none⟩ = some b := ⟨by simp, by simp⟩

set_option maxRecDepth 100000 in
set_option maxHeartbeats 4000000 in
theorem implOp_any {RTH RLH RRH RLL RRR : T → T → Out} (HH : Hard RTH RLH RRH RLL RRR) (hfi : ∀ R ∈ opRs RTH RLH RRH RLL RRR, ∀ t u, (R t u).fine) (op : Int) (la lb : List At) (g c g' c' : Nat) (w : World) (hop : (Lit.int .i64 op).wf = true) (hl : la.length ≤ 1048576) (hl' : lb.length ≤ 1048576) (hx : ∀ x ∈ la, in64 x.n) (hx' : ∀ x ∈ lb, in64 x.n) (ht : AtomsO w g 0 la) (ht' : AtomsO w g' 0 lb) (hGI : GI w) :
    Calls Tryz.prog 7 #[.int .i64 op, .agg #[.slice (some ⟨g, 0, none⟩) la.length c], .agg #[.slice (some ⟨g', 0, none⟩) lb.length c']] w (PPost2 w (opRes (opRs RTH RLH RRH RLL RRR) op la lb)) := by
  have HP : Hid (∀ gv l w0 W, Below w.heap.size w W → gv < W.heap.size → W.cell? ⟨gv, 0, none⟩ = some (.slice (some ⟨g, 0, none⟩) la.length c) → W.cell? ⟨gv, 1, none⟩ = some (.slice (some ⟨g', 0, none⟩) lb.length c') → Tab w0 (opRs RTH RLH RRH RLL RRR) l W → Calls Tryz.prog 23 #[tabV l op, .slice (some ⟨gv, 0, none⟩) 2 2] W (PPost2 W (opRes (opRs RTH RLH RRH RLL RRR) op la lb))) := hide fun gv l w0 W hb h1 h2 h2' h3 => performOp_any _ hfi op la lb l g c g' c' gv w0 W hl hl' hx hx' (ht.below hb) (ht'.below hb) h1 h2 h2' h3 (hGI.below hb)
  generalize opRes (opRs RTH RLH RRH RLL RRR) op la lb = r at *
  generalize la.length = n at *
  generalize lb.length = n' at *
  clear hx ht hl hx' ht' hl' hfi
  generalize Value.slice (some ⟨g, 0, none⟩) n c = va at *
  generalize Value.slice (some ⟨g', 0, none⟩) n' c' = vb at *
  have u0 := OB.start w va vb
  have HU : Hid (∀ k W, OB w va vb W → W.heap.size = k → Calls Tryz.prog 24 #[] W fun e w1 => ∃ l, e = .returned (.map (some k)) ∧ (∃ w0 : World, w0.heap.size = k ∧ Tab w0 (opRs RTH RLH RRH RLL RRR) l w1) ∧ OB w va vb w1 ∧ Below k W w1) := hide (by
    rintro k W hu rfl
    refine (opTable_any HH W).mono ?_
    rintro e w1 ⟨l, rfl, hT⟩
    exact ⟨l, rfl, ⟨W, rfl, hT⟩, hu.below hT.B, hT.B⟩)
  go_enter Tryz.func7, Tryz.ntmps7
  go_wp2_with fail
  have HK : Hid (∀ k l w0 W, w0.heap.size = k → Tab w0 (opRs RTH RLH RRH RLL RRR) l W → (Instr.lookup 52 (.map (some k)) (.int .i64 op) false).run Tryz.prog W = .ok (tabV l op) W) := hide fun k l w0 W hk h => by subst hk; exact tab_look l op _ _ W hop h.map
  have hz0 : (((w.alloc (.cells #[va] 28)).alloc (.cells #[vb] 28)).alloc (.cells #[.slice none 0 0] 28)).heap.size = w.heap.size + 1 + 1 + 1 := by simp
  have HG : Hid (((((w.alloc (.cells #[va] 28)).alloc (.cells #[vb] 28)).alloc (.cells #[.slice none 0 0] 28)).alloc (.cells #[va, vb] 28)).drew.cell? ⟨w.heap.size + 1 + 1 + 1, 0, none⟩ = some va ∧ ((((w.alloc (.cells #[va] 28)).alloc (.cells #[vb] 28)).alloc (.cells #[.slice none 0 0] 28)).alloc (.cells #[va, vb] 28)).drew.cell? ⟨w.heap.size + 1 + 1 + 1, 1, none⟩ = some vb) := hide (by
    have h := two_newV (((w.alloc (.cells #[va] 28)).alloc (.cells #[vb] 28)).alloc (.cells #[.slice none 0 0] 28)) va vb 28
    rw [hz0] at h
    exact h)
  have HU1 := hide (HU.out (w.heap.size + 1 + 1 + 1) (((w.alloc (.cells #[va] 28)).alloc (.cells #[vb] 28)).alloc (.cells #[.slice none 0 0] 28)).drew (u0.below (Below.refl _ _).drew) hz0)
  have b3 : Below (((w.alloc (.cells #[va] 28)).alloc (.cells #[vb] 28)).alloc (.cells #[.slice none 0 0] 28)).heap.size (((w.alloc (.cells #[va] 28)).alloc (.cells #[vb] 28)).alloc (.cells #[.slice none 0 0] 28)) ((((w.alloc (.cells #[va] 28)).alloc (.cells #[vb] 28)).alloc (.cells #[.slice none 0 0] 28)).alloc (.cells #[va, vb] 28)) := (Below.refl _ _).alloc (Nat.le_refl _) _
  have HU2 := hide (HU.out (w.heap.size + 1 + 1 + 1 + 1) ((((w.alloc (.cells #[va] 28)).alloc (.cells #[vb] 28)).alloc (.cells #[.slice none 0 0] 28)).alloc (.cells #[va, vb] 28)).drew (u0.below b3.drew) (by show ((((w.alloc (.cells #[va] 28)).alloc (.cells #[vb] 28)).alloc (.cells #[.slice none 0 0] 28)).alloc (.cells #[va, vb] 28)).heap.size = _; rw [World.size_alloc, hz0]))
  clear b3
  clear HU hz0
  go_region_with (first
    | (go_at_call 24; with_reducible refine (HU1.out).mono ?_; rintro e w1 ⟨l, rfl, ⟨w0, hk0, T1⟩, U1, B1⟩; have hlk := HK.out _ _ _ _ hk0 T1; have hca := U1.a; have hcb := U1.b; have A2 : Below w1.heap.size w1 (w1.alloc (.cells #[va, vb] 28)) := (Below.refl _ _).alloc (Nat.le_refl _) _; have T2 := T1.below A2; have U2 := U1.below A2; have hlk2 := HK.out _ _ _ _ hk0 T2; have hg2 : w1.heap.size < (w1.alloc (.cells #[va, vb] 28)).heap.size := by simp)
    | (go_at_call 24; with_reducible refine (HU2.out).mono ?_; rintro e w1 ⟨l, rfl, ⟨w0, hk0, T1⟩, U1, B1⟩; have hlk := HK.out _ _ _ _ hk0 T1; have T2 := T1; have U2 := U1; have G1 : w1.cell? ⟨w.heap.size + 1 + 1 + 1, 0, none⟩ = some va := (B1.cell (p := ⟨w.heap.size + 1 + 1 + 1, 0, none⟩) (Nat.lt_succ_self _)).trans HG.out.1; have G2 : w1.cell? ⟨w.heap.size + 1 + 1 + 1, 1, none⟩ = some vb := (B1.cell (p := ⟨w.heap.size + 1 + 1 + 1, 1, none⟩) (Nat.lt_succ_self _)).trans HG.out.2)
    | (go_at_call 23; have _hh := G1; refine (HP.out (w.heap.size + 1 + 1 + 1) l w0 w1 U2.B (World.block_lt_of_cell? w1 ⟨w.heap.size + 1 + 1 + 1, 0, none⟩ G1) G1 G2 T2).mono ?_; rintro e w2 ⟨v, rfl, hpv, hb2⟩; obtain ⟨p, m, cc, rfl⟩ := PV.slice hpv; have U3 := U2.below hb2; have cr := U3.r; have fr := U3.f)
    | (go_at_call 23; refine (HP.out w1.heap.size l w0 (w1.alloc (.cells #[va, vb] 28)) U2.B hg2 (two_newV w1 va vb 28).1 (two_newV w1 va vb 28).2 T2).mono ?_; rintro e w2 ⟨v, rfl, hpv, hb2⟩; obtain ⟨p, m, cc, rfl⟩ := PV.slice hpv; have U3 := U2.below hb2; have cr := U3.r; have fr := U3.f))
  all_goals
    have hz2 := U2.z
    have hs2 := U2.B.size
    have HV := hide hpv
    clear hpv hb2 T1 T2 B1 HK HP
    go_wp2
    refine bodyPost_ret (v := .tuple #[.agg #[.slice p m cc], .string ⟨r.2.toArray⟩]) (by simp [results, Tryz.results7, go_sem, cr]) rfl ⟨_, rfl, PV.move HV.out (a := ⟨w.heap.size + 1 + 1, 0, none⟩) hz2 _ hs2, U3.B.setCell (p := ⟨w.heap.size + 1 + 1, 0, none⟩) (by show w.heap.size ≤ w.heap.size + 1 + 1; omega) _⟩
end Go.Proofs.YtnkfbjcgkdblgaaGreat.Vl
