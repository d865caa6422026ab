/- Walks: Un, on the program's side. -/
import Derived.Test.YtfpdoafpimaoaaaUf
import Derived.Deep.RegionWith
namespace Go.Proofs.Ytfpdoafpimaoaaa.Vl
open Go.RowKit T.atoms T.ok T.high T.good T.allPlain

set_option maxRecDepth 100000 in
set_option maxHeartbeats 1000000 in
theorem perform_none (r : List At × List UInt8) (gv : Nat) (w : World) (hr : r = ([], wType)) :
    Calls Try.prog 35 #[.agg #[.int .i64 0, .nilFunc], .slice (some ⟨gv, 0, none⟩) 1 1] w fun e w' => PPost w r e w' := by
  have HR := hide hr
  clear hr
  have hf := fn_none
  go_enter Try.func35, Try.ntmps35
  go_wp2
  refine bodyPost_ret (v := .tuple #[.agg #[.slice none 0 0], .string (txt wType)]) (by simp [results, Try.results35, go_sem, txt, wType]) rfl (ppost_no HR.out ?_)
  have q : Below w.heap.size w ((w.alloc (.cells #[.int .i64 0, .nilFunc] 66)).alloc (.cells #[.slice none 0 0] 25)) := ((Below.refl _ _).alloc (Nat.le_refl _) _).alloc (by simp) _
  exact q

/-- Each deed of the table, done. -/
theorem performUn_any (op : Int) (l : List At) (b d g c gv : Nat) (w : World) (hl : l.length ≤ 1048576) (hx : ∀ x ∈ l, -9223372036854775808 ≤ x.n ∧ x.n ≤ 9223372036854775807) (ht : AtomsO w g 0 l) (hgv : gv < w.heap.size) (hc : w.cell? ⟨gv, 0, none⟩ = some (.slice (some ⟨g, 0, none⟩) l.length c))
    (hb : w.cell? ⟨b, 0, none⟩ = some (.func (.func 59) #[] #[])) (hd : w.cell? ⟨d, 0, none⟩ = some (.func (.func 61) #[] #[])) :
    Calls Try.prog 35 #[unDeed op b d, .slice (some ⟨gv, 0, none⟩) 1 1] w fun e w' => PPost w (unRes op l) e w' := by
  have hbz := World.block_lt_of_cell? w ⟨b, 0, none⟩ hb
  have hdz := World.block_lt_of_cell? w ⟨d, 0, none⟩ hd
  unfold unDeed
  by_cases h1 : op = 1
  · rw [if_pos h1]
    subst h1
    by_cases hv : valid l = true
    · obtain ⟨t, htr, hp⟩ := valid_parts hv
      have hr := unRes_tree 1 hv htr
      by_cases hk : t.kind = 2
      · have hn := plain_bool (by rw [hk] at hp; exact hp)
        have hbz2 : (!(t.num == 1)) = decide (t.num = 0) := by rcases hn with h | h <;> rw [h] <;> rfl
        refine perform_madeB (unRes 1 l) b g c _ gv _ l t w ⟨2, if decide (t.num = 0) then 1 else 0, ⟨#[]⟩, 0⟩ (.iface 78 (.bool !(t.num == 1))) ?_ (hide (atomsOf_bool (!(t.num == 1)) _ (by rw [hbz2]))) ?_ htr hv rfl hl ht hgv hc hbz hb
        · rw [hr]; unfold unOut; rw [if_pos ⟨rfl, hk⟩]
        · rintro xv gg W ⟨y, u, rfl, hy, _⟩ hcx hck
          rw [hy hk] at hcx
          exact takesB1_yes _ gg b W hcx hck
      · refine perform_wordB (unRes 1 l) b g c _ gv _ l t w ?_ ?_ htr hv rfl hl ht hgv hc hbz hb
        · rw [hr]; unfold unOut; rw [if_neg (fun h => hk h.2), if_neg (fun h => by cases h.1)]
        · rintro xv gg W ⟨y, u, rfl, _, _, hy, _⟩ hcx hck
          exact takesB1_no y u (hy hk) gg b W hcx
    · exact perform_bad (unRes 1 l) _ b g c _ gv l w (by unfold unRes; rw [if_neg hv]) (by simpa using hv) rfl hl ht hgv hc
  · rw [if_neg h1]
    by_cases h2 : op = 2
    · rw [if_pos h2]
      subst h2
      by_cases hv : valid l = true
      · obtain ⟨t, htr, hp⟩ := valid_parts hv
        have hr := unRes_tree 2 hv htr
        obtain ⟨hn1, hn2⟩ := tree_num htr hx
        by_cases hk : t.kind = 3
        · by_cases hm : t.num = -9223372036854775808
          · refine perform_wordR (unRes 2 l) d g c _ gv _ l t w ?_ ?_ htr hv rfl hl ht hgv hc hdz hd
            · rw [hr]; unfold unOut; rw [if_neg (fun h => by cases h.1), if_pos ⟨rfl, hk⟩, if_pos hm]
            · rintro xv gg W ⟨y, u, rfl, _, hy, _⟩ hcx hck
              rw [hy hk] at hcx
              have h := takesI1_yes _ hn1 hn2 gg d W hcx hck
              unfold lessV at h
              rw [if_pos hm] at h
              exact h
          · refine perform_madeI (unRes 2 l) d g c _ gv _ l t w ⟨3, -t.num, ⟨#[]⟩, 0⟩ (.iface 81 (.int .i64 (-t.num))) ?_ (hide (atomsOf_int (-t.num))) ?_ htr hv rfl hl ht hgv hc hdz hd
            · rw [hr]; unfold unOut; rw [if_neg (fun h => by cases h.1), if_pos ⟨rfl, hk⟩, if_neg hm]
            · rintro xv gg W ⟨y, u, rfl, _, hy, _⟩ hcx hck
              rw [hy hk] at hcx
              have h := takesI1_yes _ hn1 hn2 gg d W hcx hck
              unfold lessV at h
              rw [if_neg hm] at h
              exact h
        · refine perform_wordI (unRes 2 l) d g c _ gv _ l t w ?_ ?_ htr hv rfl hl ht hgv hc hdz hd
          · rw [hr]; unfold unOut; rw [if_neg (fun h => by cases h.1), if_neg (fun h => hk h.2)]
          · rintro xv gg W ⟨y, u, rfl, _, _, _, hy⟩ hcx hck
            exact takesI1_no y u (hy hk) gg d W hcx
      · exact perform_bad (unRes 2 l) _ d g c _ gv l w (by unfold unRes; rw [if_neg hv]) (by simpa using hv) rfl hl ht hgv hc
    · rw [if_neg h2]
      refine perform_none _ gv w ?_
      unfold unRes
      by_cases hv : valid l = true
      · rw [if_pos hv]
        cases l.getLast? with
        | none => rfl
        | some a => show unOut op a = _; unfold unOut; rw [if_neg (fun h => h1 h.1), if_neg (fun h => h2 h.1)]
      · rw [if_neg hv]

theorem PVal.slice {w : World} {B : Nat} {v : Value} {r : List At} (h : PVal w B v r) : ∃ p n c, v = .slice p n c := by
  rcases h with ⟨h, _⟩ | ⟨a, _, g, c, h, _⟩ <;> exact ⟨_, _, _, h⟩
theorem PVal.move {w : World} {B B' : Nat} {v : Value} {r : List At} (h : PVal w B v r) {a : Addr} (ha : a.block < B) (x : Value) (hB : B' ≤ B) : PVal (w.setCell a x) B' v r := by
  rcases h with h | ⟨y, hy, g, c, rfl, ho⟩
  · exact .inl h
  · exact .inr ⟨y, hy, g, c, rfl, row_mono (row_same ho (Below.heap_setCell _ _ _ _ (show g ≠ a.block by have := (ho.lt g rfl).1; omega))) hB⟩
/-- The table, in a later world: its deeds and what they hold. -/
structure UT (op : Int) (k b d : Nat) (W : World) : Prop where
  m : W.ownsMap Try.prog 3 anyElem k 2 (unDeeds b d)
  b : W.cell? ⟨b, 0, none⟩ = some (.func (.func 59) #[] #[])
  d : W.cell? ⟨d, 0, none⟩ = some (.func (.func 61) #[] #[])
theorem UT.below {op : Int} {k b d : Nat} {W W' : World} (h : UT op k b d W) (hb : Below W.heap.size W W') : UT op k b d W' :=
  ⟨map_below h.m hb, (hb.cell (p := ⟨b, 0, none⟩) (World.block_lt_of_cell? W ⟨b, 0, none⟩ h.b)).trans h.b, (hb.cell (p := ⟨d, 0, none⟩) (World.block_lt_of_cell? W ⟨d, 0, none⟩ h.d)).trans h.d⟩

set_option maxRecDepth 100000 in
set_option maxHeartbeats 4000000 in
theorem implUn_any (op : Int) (l : List At) (g c : Nat) (w : World) (hop : (Lit.int .i64 op).wf = true) (hl : l.length ≤ 1048576) (hx : ∀ x ∈ l, -9223372036854775808 ≤ x.n ∧ x.n ≤ 9223372036854775807) (ht : AtomsO w g 0 l) :
    Calls Try.prog 17 #[.int .i64 op, .agg #[.slice (some ⟨g, 0, none⟩) l.length c]] w fun e w' => PPost w (unRes op l) e w' := by
  have HP : Hid (∀ gv k b d W, Below w.heap.size w W → gv < W.heap.size → W.cell? ⟨gv, 0, none⟩ = some (.slice (some ⟨g, 0, none⟩) l.length c) → UT op k b d W → Calls Try.prog 35 #[unDeed op b d, .slice (some ⟨gv, 0, none⟩) 1 1] W fun e w' => PPost W (unRes op l) e w') := hide fun gv k b d W hb h1 h2 h3 => performUn_any op l b d g c gv W hl hx (ht.below hb) h1 h2 h3.b h3.d
  generalize unRes op l = r at *
  generalize l.length = n at *
  clear hx ht hl
  generalize Value.slice (some ⟨g, 0, none⟩) n c = va at *
  have u0 := UB.start w va
  have HU : Hid (∀ k W, UB w va W → W.heap.size = k → Calls Try.prog 36 #[] W fun e w1 => ∃ b d, e = .returned (.map (some k)) ∧ UT op k b d w1 ∧ UB w va w1 ∧ Below k W w1) := hide (by
    rintro k W hu rfl
    refine (unTable_any W).mono ?_
    rintro e w1 ⟨b, d, rfl, hm, hcb, hcd, hb1⟩
    exact ⟨b, d, rfl, ⟨hm, hcb, hcd⟩, hu.below hb1, hb1⟩)
  go_enter Try.func17, Try.ntmps17
  go_wp2_with fail
  have HK : Hid (∀ k b d W, UT op k b d W → (Instr.lookup 67 (.map (some k)) (.int .i64 op) false).run Try.prog W = .ok (unDeed op b d) W) := hide fun k b d W h => un_look op b d k W hop h.m
  have hz0 : ((w.alloc (.cells #[va] 25)).alloc (.cells #[.slice none 0 0] 25)).heap.size = w.heap.size + 1 + 1 := by simp
  have HG : Hid ((((w.alloc (.cells #[va] 25)).alloc (.cells #[.slice none 0 0] 25)).alloc (.cells #[va] 25)).drew.cell? ⟨w.heap.size + 1 + 1, 0, none⟩ = some va) := hide (by
    have h := (cell_new ((w.alloc (.cells #[va] 25)).alloc (.cells #[.slice none 0 0] 25)) va 25).1
    rw [hz0] at h
    exact h)
  have HU1 := hide (HU.out (w.heap.size + 1 + 1) ((w.alloc (.cells #[va] 25)).alloc (.cells #[.slice none 0 0] 25)).drew (u0.below (Below.refl _ _).drew) hz0)
  have b3 : Below ((w.alloc (.cells #[va] 25)).alloc (.cells #[.slice none 0 0] 25)).heap.size ((w.alloc (.cells #[va] 25)).alloc (.cells #[.slice none 0 0] 25)) (((w.alloc (.cells #[va] 25)).alloc (.cells #[.slice none 0 0] 25)).alloc (.cells #[va] 25)) := (Below.refl _ _).alloc (Nat.le_refl _) _
  have HU2 := hide (HU.out (w.heap.size + 1 + 1 + 1) (((w.alloc (.cells #[va] 25)).alloc (.cells #[.slice none 0 0] 25)).alloc (.cells #[va] 25)).drew (u0.below b3.drew) (by show (((w.alloc (.cells #[va] 25)).alloc (.cells #[.slice none 0 0] 25)).alloc (.cells #[va] 25)).heap.size = _; rw [World.size_alloc, hz0]))
  clear b3
  clear HU hz0
  go_region_with (first
    | (go_at_call 36; with_reducible refine (HU1.out).mono ?_; rintro e w1 ⟨b, d, rfl, T1, U1, B1⟩; have hlk := HK.out _ _ _ _ T1; have hcl := U1.c; have A2 : Below w1.heap.size w1 (w1.alloc (.cells #[va] 25)) := (Below.refl _ _).alloc (Nat.le_refl _) _; have T2 := T1.below A2; have U2 := U1.below A2; have hlk2 := HK.out _ _ _ _ T2; have hg2 : w1.heap.size < (w1.alloc (.cells #[va] 25)).heap.size := by simp)
    | (go_at_call 36; with_reducible refine (HU2.out).mono ?_; rintro e w1 ⟨b, d, rfl, T1, U1, B1⟩; have hlk := HK.out _ _ _ _ T1; have T2 := T1; have U2 := U1; have G1 : w1.cell? ⟨w.heap.size + 1 + 1, 0, none⟩ = some va := (B1.cell (p := ⟨w.heap.size + 1 + 1, 0, none⟩) (Nat.lt_succ_self _)).trans HG.out)
    | (go_at_call 35; have _hh := G1; refine (HP.out (w.heap.size + 1 + 1) _ b d w1 U2.B (World.block_lt_of_cell? w1 ⟨w.heap.size + 1 + 1, 0, none⟩ G1) G1 T2).mono ?_; rintro e w2 ⟨v, rfl, hpv, hb2⟩; obtain ⟨p, m, cc, rfl⟩ := hpv.slice; have U3 := U2.below hb2; have cr := U3.r; have fr := U3.f)
    | (go_at_call 35; refine (HP.out w1.heap.size _ b d (w1.alloc (.cells #[va] 25)) U2.B hg2 (cell_new w1 va 25).1 T2).mono ?_; rintro e w2 ⟨v, rfl, hpv, hb2⟩; obtain ⟨p, m, cc, rfl⟩ := hpv.slice; have U3 := U2.below hb2; have cr := U3.r; have fr := U3.f))
  all_goals
    have hz2 := U2.z
    have hs2 := U2.B.size
    have HV := hide hpv
    clear hpv hb2 T1 T2 B1 HK HP
    go_wp2
    refine bodyPost_ret (v := .tuple #[.agg #[.slice p m cc], .string (txt r.2)]) (by simp [results, Try.results17, go_sem, cr]) rfl ⟨_, rfl, HV.out.move (a := ⟨w.heap.size + 1, 0, none⟩) hz2 _ hs2, U3.set _⟩
end Go.Proofs.Ytfpdoafpimaoaaa.Vl
