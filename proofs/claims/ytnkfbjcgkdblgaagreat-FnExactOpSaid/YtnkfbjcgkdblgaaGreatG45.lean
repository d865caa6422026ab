/- Joined: Ly. -/
import Derived.Test.YtnkfbjcgkdblgaaGreatG44
namespace Go.Proofs.YtnkfbjcgkdblgaaGreat.Vl
open Go.RowKit T.atoms T.ok T.high T.good T.allPlain T.ord

theorem less_selfT : ∀ a : List UInt8, Go.Op.bytesLess a a = false
  | [] => rfl
  | x :: a => by
    have ih := less_selfT a
    simp [Go.Op.bytesLess, UInt8.lt_irrefl, ih]
theorem two_newT (w : World) (a b : Value) (t : TypeId) : ∀ j u, [a, b][j]? = some u → (w.alloc (.cells #[a, b] t)).cell? ((⟨w.heap.size, 0, none⟩ : Addr).add j) = some u := by
  intro j u h
  rw [add_plain, Nat.zero_add, World.cell?, heap_alloc_new]
  simpa using h
/-- A value in a block other than one. -/
def ElT (w : World) (q : Option Nat) (a : Value) (x : T) : Prop := ∃ g o c, a = .slice (some ⟨g, o, none⟩) x.count c ∧ x.count ≤ c ∧ some g ≠ q ∧ AtomsO w g o x.atoms
theorem atomsO_heap {w w' : World} {g o : Nat} {l : List At} (h : AtomsO w g o l) (hs : w.heap.size ≤ w'.heap.size) (hb : w'.heap[g]? = w.heap[g]?) : AtomsO w' g o l := by
  refine ⟨Nat.lt_of_lt_of_le h.1 hs, fun i hi => ?_⟩
  obtain ⟨a, b, c, d⟩ := h.2 i hi
  exact ⟨(World.cell?_of_block (a := ⟨g, _, none⟩) hb).trans a, (World.cell?_of_block (a := ⟨g, _, none⟩) hb).trans b, (World.cell?_of_block (a := ⟨g, _, none⟩) hb).trans c, (World.cell?_of_block (a := ⟨g, _, none⟩) hb).trans d⟩
theorem ElT.below {w w' : World} {q : Option Nat} {a : Value} {x : T} (h : ElT w q a x) (hb : Below w.heap.size w w') : ElT w' q a x := by
  obtain ⟨g, o, c, rfl, h2, h3, h4⟩ := h
  exact ⟨g, o, c, rfl, h2, h3, h4.below hb⟩
theorem ElT.heap {w w' : World} {q row : Option Nat} {a : Value} {x : T} (h : ElT w q a x) (hr : ElT w row a x) (hs : w.heap.size ≤ w'.heap.size) (hb : ∀ b, b < w.heap.size → some b ≠ row → w'.heap[b]? = w.heap[b]?) : ElT w' q a x := by
  obtain ⟨g, o, c, rfl, h2, h3, h4⟩ := h
  obtain ⟨g', o', c', e, _, r3, _⟩ := hr
  cases e
  exact ⟨g, o, c, rfl, h2, h3, atomsO_heap h4 hs (hb g h4.1 r3)⟩
theorem ElT.fresh {w : World} {q : Option Nat} {a : Value} {x : T} (h : ElT w q a x) {k : Nat} (hk : w.heap.size ≤ k) : ElT w (some k) a x := by
  obtain ⟨g, o, c, rfl, h2, h3, h4⟩ := h
  exact ⟨g, o, c, rfl, h2, fun e => by cases e; have := h4.1; omega, h4⟩
def KsT (w : World) (q : Option Nat) (vs : List Value) (ls : List T) : Prop := vs.length = ls.length ∧ ∀ j (h : j < ls.length), ∃ a, vs[j]? = some a ∧ ElT w q a ls[j]
theorem KsT.kids {w : World} {q : Option Nat} {vs : List Value} {ls : List T} (h : KsT w q vs ls) : KidsAt w vs ls := by
  refine ⟨h.1, fun j hj => ?_⟩
  obtain ⟨a, h1, g, o, c, rfl, h2, h3, h4⟩ := h.2 j hj
  exact ⟨g, o, c, h1, h4, h2⟩
theorem kidsT {w : World} {vs : List Value} {ls : List T} (h : KidsAt w vs ls) : KsT w none vs ls := by
  refine ⟨h.1, fun j hj => ?_⟩
  obtain ⟨g, o, c, h1, h4, h2⟩ := h.2 j hj
  exact ⟨_, h1, g, o, c, rfl, h2, (by simp), h4⟩
theorem KsT.snoc {w : World} {q : Option Nat} {vs : List Value} {ls : List T} {a : Value} {x : T} (h : KsT w q vs ls) (hx : ElT w q a x) : KsT w q (vs ++ [a]) (ls ++ [x]) := by
  refine ⟨by simp [h.1], fun j hj => ?_⟩
  by_cases hlt : j < ls.length
  · obtain ⟨b, h1, h2⟩ := h.2 j hlt
    refine ⟨b, ?_, ?_⟩
    · rw [List.getElem?_append_left (by rw [h.1]; exact hlt)]; exact h1
    · rw [List.getElem_append_left hlt]; exact h2
  · have hj2 : j = ls.length := by simp at hj; omega
    subst hj2
    refine ⟨a, ?_, ?_⟩
    · rw [List.getElem?_append_right (by rw [h.1]; exact Nat.le_refl _), h.1, Nat.sub_self]; rfl
    · simpa using hx
theorem KsT.heap {w w' : World} {q row : Option Nat} {vs : List Value} {ls : List T} (h : KsT w q vs ls) (hr : KsT w row vs ls) (hs : w.heap.size ≤ w'.heap.size) (hb : ∀ b, b < w.heap.size → some b ≠ row → w'.heap[b]? = w.heap[b]?) : KsT w' q vs ls := by
  refine ⟨h.1, fun j hj => ?_⟩
  obtain ⟨a, h1, h2⟩ := h.2 j hj
  obtain ⟨b, h3, h4⟩ := hr.2 j hj
  obtain rfl : b = a := Option.some.inj (h3.symm.trans h1)
  exact ⟨_, h1, h2.heap h4 hs hb⟩
theorem KsT.below {w w' : World} {q : Option Nat} {vs : List Value} {ls : List T} (h : KsT w q vs ls) (hb : Below w.heap.size w w') : KsT w' q vs ls :=
  ⟨h.1, fun j hj => by obtain ⟨a, h1, h2⟩ := h.2 j hj; exact ⟨a, h1, h2.below hb⟩⟩
theorem KsT.fresh {w : World} {q : Option Nat} {vs : List Value} {ls : List T} (h : KsT w q vs ls) {k : Nat} (hk : w.heap.size ≤ k) : KsT w (some k) vs ls :=
  ⟨h.1, fun j hj => by obtain ⟨a, h1, h2⟩ := h.2 j hj; exact ⟨a, h1, h2.fresh hk⟩⟩
/-- A row of values of one's own. -/
structure KRT (w : World) (B : Nat) (v : Value) (ls : List T) (vs : List Value) : Prop where
  row : w.ownsRow B 28 1 v ls.length vs
  dis : KsT w v.ownBlock vs ls
theorem KRT.below {w w' : World} {B : Nat} {v : Value} {ls : List T} {vs : List Value} (h : KRT w B v ls vs) (hb : Below w.heap.size w w') : KRT w' B v ls vs := ⟨row_belowZ h.row hb, h.dis.below hb⟩
theorem KRT.grow {w w' : World} {B n : Nat} {v v' : Value} {ls' : List T} {vs' : List Value} (hn : n = ls'.length) (hg : w.grownBy w' v.ownBlock) (ho : w'.ownsRow B 28 1 v' n vs') (h4 : v'.ownBlock = v.ownBlock ∨ v'.ownBlock = some w.heap.size) (k2 : KsT w v.ownBlock vs' ls') : KRT w' B v' ls' vs' := by
  subst hn
  refine ⟨ho, ?_⟩
  rcases h4 with e | e
  · rw [e]; exact k2.heap k2 hg.size (fun b hb hr => hg.block b hb hr)
  · rw [e]; exact (k2.fresh (Nat.le_refl _)).heap k2 hg.size (fun b hb hr => hg.block b hb hr)

/-- What l5Set makes of a record's kids. -/
def setGo (s : ByteArray) (t : T) : List T → Bool → List T
  | a :: b :: r, dn => (if !dn && !(Go.Op.bytesLess a.text.toList s.toList) then [T.mk 4 0 s [], t] else []) ++ ((if a.text.toList == s.toList then [] else [a, b]) ++ setGo s t r (dn || !(Go.Op.bytesLess a.text.toList s.toList)))
  | [_], dn => if dn then [] else [T.mk 4 0 s [], t]
  | [], dn => if dn then [] else [T.mk 4 0 s [], t]
theorem setGo_drop (s : ByteArray) (t : T) (ks : List T) (i : Nat) (h : i + 1 < ks.length) (dn : Bool) : setGo s t (ks.drop i) dn = (if !dn && !(Go.Op.bytesLess (ks[i]).text.toList s.toList) then [T.mk 4 0 s [], t] else []) ++ ((if (ks[i]).text.toList == s.toList then [] else [ks[i], ks[i + 1]]) ++ setGo s t (ks.drop (i + 2)) (dn || !(Go.Op.bytesLess (ks[i]).text.toList s.toList))) := by
  rw [List.drop_eq_getElem_cons (by omega), List.drop_eq_getElem_cons h]
  rfl
def SetPT (w : World) (ks : List T) (e : Ending) (w' : World) : Prop := ∃ v vs, e = .returned v ∧ KRT w' w.heap.size v ks vs ∧ Below w.heap.size w w'
/-- l5Set's state, in a later world. -/
structure SJ (w : World) (va v : Value) (lo : List T) (vo : List Value) (W : World) : Prop where
  B : Below w.heap.size w W
  c : W.cell? ⟨w.heap.size, 0, none⟩ = some va
  z : w.heap.size + 1 < W.heap.size
  k : KRT W (w.heap.size + 1) v lo vo
theorem SJ.below {w W W' : World} {va v : Value} {lo : List T} {vo : List Value} (h : SJ w va v lo vo W) (hb : Below W.heap.size W W') : SJ w va v lo vo W' := by
  have hz := h.z
  exact ⟨h.B.trans (hb.mono h.B.size), (hb.cell (p := ⟨w.heap.size, 0, none⟩) (by show w.heap.size < _; omega)).trans h.c, Nat.lt_of_lt_of_le hz hb.size, h.k.below hb⟩
theorem SJ.add {w W W' : World} {n : Nat} {va v v' : Value} {lo : List T} {vo : List Value} {a b : Value} {x y : T} (h : SJ w va v lo vo W) (hg : W.grownBy W' v.ownBlock) (hn : n = lo.length + 2) (ho : W'.ownsRow (w.heap.size + 1) 28 1 v' n (vo ++ [a, b])) (h4 : v'.ownBlock = v.ownBlock ∨ v'.ownBlock = some W.heap.size)
    (a2 : ElT W v.ownBlock a x) (b2 : ElT W v.ownBlock b y) : SJ w va v' (lo ++ [x, y]) (vo ++ [a, b]) W' := by
  have hz := h.z
  have own : ∀ q, v.ownBlock = some q → w.heap.size + 1 ≤ q := fun q hq => (h.k.row.lt q hq).1
  have hb : Below (w.heap.size + 1) W W' := (Below.refl _ _).grown hg (by omega) (fun q hq => own q hq)
  have e1 : vo ++ [a, b] = vo ++ [a] ++ [b] := by simp
  have e2 : lo ++ [x, y] = lo ++ [x] ++ [y] := by simp
  exact ⟨h.B.trans (hb.mono (by omega)), (hb.cell (p := ⟨w.heap.size, 0, none⟩) (Nat.lt_succ_self _)).trans h.c, Nat.lt_of_lt_of_le hz hb.size, KRT.grow (v := v) (by rw [hn]; simp) hg ho h4 (by rw [e1, e2]; exact (h.k.dis.snoc a2).snoc b2)⟩
theorem SJ.own {w W : World} {va v : Value} {lo : List T} {vo : List Value} (h : SJ w va v lo vo W) {a : Value} {x : T} {q : Option Nat} (ha : ElT w q a x) : ElT W v.ownBlock a x := by
  obtain ⟨g, o, c, rfl, h2, _, h4⟩ := ha
  exact ⟨g, o, c, rfl, h2, fun e => by have := (h.k.row.lt g e.symm).1; have := h4.1; omega, h4.below h.B⟩
set_option maxRecDepth 100000 in
theorem SJ.start (w : World) (va : Value) : SJ w va (.slice (some ⟨w.heap.size + 1, 0, none⟩) 0 0) [] [] ((w.alloc (.cells #[va] 28)).alloc (.cells #[] 28)) := by
  have n1 := cell_new w va 28
  have b2 : Below (w.heap.size + 1) (w.alloc (.cells #[va] 28)) ((w.alloc (.cells #[va] 28)).alloc (.cells #[] 28)) := (Below.refl _ _).alloc (by simp) _
  have hr := World.ownsRow_lit (base := w.heap.size + 1) (e := 28) (size := 1) (w.alloc (.cells #[va] 28)) #[] 0 (by simp) (Nat.zero_le _) rfl
  rw [World.size_alloc] at hr
  exact ⟨((Below.refl _ _).alloc (Nat.le_refl _) _).alloc (by simp) _, (b2.cell (p := ⟨w.heap.size, 0, none⟩) (Nat.lt_succ_self _)).trans n1.1, by simp, ⟨hr, ⟨rfl, fun j hj => absurd hj (Nat.not_lt_zero _)⟩⟩⟩
theorem atoms_leafT (s : ByteArray) : (T.mk 4 0 s []).atoms = [⟨4, 0, s, 0⟩] := by simp [T.atoms, atomsL]
set_option maxRecDepth 100000 in
set_option maxHeartbeats 20000000 in
theorem set5_tree (c gv ov cv nt : Nat) (p : Option Addr) (vs : List Value) (ks : List T) (t : T) (s : ByteArray) (w : World) (hl : ks.length ≤ 2000) (he : ks.length % 2 = 0) (hn1 : ∀ x ∈ ks, x.count ≤ 1000) (hk : KidsAt w vs ks) (hc : CellsV w p vs) (_hnt : t.count = nt) (hv : ElT w none (.slice (some ⟨gv, ov, none⟩) nt cv) t) :
    Calls Tryz.prog 39 #[.slice p ks.length c, .string s, .agg #[.slice (some ⟨gv, ov, none⟩) nt cv]] w (SetPT w (setGo s t ks false)) := by
  obtain ⟨iV, hV, hVz, hVs, hVb⟩ := info_parts Tryz.infoVal
  have HK := hide (kidsT hk)
  have HC := hide hc
  have HN := hide hn1
  have EV := hide hv
  have S0 := hide (SJ.start w (.slice (some ⟨gv, ov, none⟩) nt cv))
  have HT5 : Hid (∀ W : World, Calls Tryz.prog 37 #[.string s] W.drew fun e w' => ∃ r, e = .returned r ∧ ∃ g, W.heap.size ≤ g ∧ r = .agg #[.slice (some ⟨g, 0, none⟩) 1 1] ∧ AtomsO w' g 0 [⟨4, 0, s, 0⟩] ∧ Below W.heap.size W.drew w') := hide (fun W => (text5_any s W.drew).mono (by rintro e w' ⟨g, h1, rfl, h3, h4⟩; exact ⟨_, rfl, g, h1, rfl, h3, h4⟩))
  have HF2 := fld2
  clear hk hc hv hn1
  go_enter Tryz.func39, Tryz.ntmps39
  go_wp2_with fail
  go_loopw [7, 8, 9] (fun o d q wr => ∃ (i : Nat) (dn : Bool) (v : Value) (lo : List T) (vo : List Value), i ≤ ks.length ∧ i % 2 = 0 ∧ q = .int .i64 (i : Int) ∧ d = .bool dn ∧ o = v ∧ (dn = false → lo.length ≤ i) ∧ lo.length ≤ i + 2 ∧ lo ++ setGo s t (ks.drop i) dn = setGo s t ks false ∧ SJ w (.slice (some ⟨gv, ov, none⟩) nt cv) v lo vo wr) (fun _ _ q _ => ks.length - (intOf q).toNat)
  case atStart => exact ⟨0, false, _, [], [], Nat.zero_le _, rfl, rfl, rfl, rfl, fun _ => Nat.le_refl _, by simp, by simp, S0.out⟩
  case round =>
    obtain ⟨i, dn, v, lo, vo, hi, hie, rfl, rfl, rfl, hlo0, hlo2, hst, hS⟩ := hrel
    obtain ⟨pv, cvv, rfl⟩ := row_form hS.k.row
    have HS := hide hS
    have HST := hide hst
    have hlo : lo.length ≤ 2002 := by omega
    clear hS hst
    by_cases hlt : i < ks.length
    · have hlt1 : i + 1 < ks.length := by omega
      obtain ⟨a0, ka, ea⟩ := HK.out.2 i hlt
      obtain ⟨b0, kb, eb⟩ := HK.out.2 (i + 1) hlt1
      have EA := hide ea
      have EB := hide eb
      obtain ⟨g0, o0, c0, rfl, hc0, _, hat0⟩ := ea
      obtain ⟨g1, o1, c1, rfl, hc1, _, hat1⟩ := eb
      have hcell : ∃ gk, p = some ⟨gk, 0, none⟩ ∧ gk < w.heap.size ∧ w.cell? ⟨gk, i, none⟩ = some (.slice (some ⟨g0, o0, none⟩) (ks[i]).count c0) ∧ w.cell? ⟨gk, i + 1, none⟩ = some (.slice (some ⟨g1, o1, none⟩) (ks[i + 1]).count c1) := by
        rcases HC.out with h | ⟨gk, h1, h2, h3⟩
        · rw [h] at ka; simp at ka
        · exact ⟨gk, h1, h2, h3 i _ ka, h3 (i + 1) _ kb⟩
      obtain ⟨gk, rfl, hgk, kc0, kc1⟩ := hcell
      have hw1 : IntKind.i64.wrap ((i : Int) + 1) = ((i + 1 : Nat) : Int) := by rw [IntKind.wrap_i64]; omega
      have HSG := hide (setGo_drop s t ks i hlt1)
      have hm1 := HN.out ks[i] (List.getElem_mem hlt)
      obtain ⟨m0, hm0⟩ : ∃ m, (ks[i]).count = m + 1 := ⟨(ks[i]).count - 1, by have := atoms_pos ks[i]; unfold T.count; omega⟩
      have HLA := hide (fun W (hb : Below w.heap.size w W) => last_any ⟨(ks[i]).kind, (ks[i]).num, (ks[i]).text, (ks[i]).ks.length⟩ (ks[i]).atoms g0 o0 c0 m0 W hm0 (by omega) (atoms_last (ks[i]) m0 hm0) (hat0.below hb))
      clear ka kb hat0 hat1
      generalize ks[i] = xa at *
      generalize ks[i + 1] = xb at *
      rw [hm0] at kc0 EA hc0
      obtain ⟨na, hna⟩ : ∃ n, n = m0 + 1 := ⟨_, rfl⟩
      rw [← hna] at kc0 EA hc0 hm0 HLA
      obtain ⟨nb, hnb⟩ : ∃ n, n = xb.count := ⟨_, rfl⟩
      rw [← hnb] at kc1 EB hc1
      replace EA : Hid (ElT w none (.slice (some ⟨g0, o0, none⟩) na c0) xa) := EA
      replace EB : Hid (ElT w none (.slice (some ⟨g1, o1, none⟩) nb c1) xb) := EB
      have HKC := hide (fun W (hb : Below w.heap.size w W) => And.intro ((hb.cell (p := ⟨gk, i, none⟩) hgk).trans kc0) ((hb.cell (p := ⟨gk, i + 1, none⟩) hgk).trans kc1))
      clear kc0 kc1 hna hnb
      generalize (xa.ks.length : Int) = kq at *
      generalize xa.num = xn at *
      generalize xa.kind = xk at *
      generalize hxt : xa.text = xt at *
      clear hxt
      obtain ⟨k0, k1⟩ := HKC.out _ HS.out.B
      go_wp2_with fail
      refine (HLA.out _ HS.out.B).mono ?_
      rintro e w1 ⟨rfl, hb1⟩
      have HS1 := hide (HS.out.below hb1)
      obtain ⟨j0, j1⟩ := HKC.out _ HS1.out.B
      have cb := HS1.out.c
      clear hb1 k0 k1 HS HLA
      cases dn
      · have hloi := hlo0 rfl
        clear hlo0
        cases hls : Go.Op.bytesLess xt.toList s.toList
        · go_wp2_with fail
          go_region_law (first
            | (refine step_append_own rfl (.tmp 31) (.tmp 35) 60 rfl (w.heap.size + 1) 28 iV _ 1 24 Tryz.underlying60 hV hVz hVs hVb rfl (by decide) (.slice pv lo.length cvv) lo.length vo (by simp [Act.eval]) (S6.k.row.alloc _) ⟨w6.heap.size, 0, none⟩ 2 2 [.slice (some ⟨gt, 0, none⟩) 1 1, .slice (some ⟨gv, ov, none⟩) nt cv] (by simp [Act.eval]) rfl (two_newT _ _ _ _) (by simp [Value.oneCell']) (by unfold maxLen; omega) (by omega) (by have := S6.z; simp; omega) ?_; intro v7 w7 h1 h2 h3 h4; obtain ⟨p7, c7, rfl⟩ := row_form h1; have S7 := SJ.add (x := T.mk 4 0 s []) (y := t) (S6.below ((Below.refl _ _).alloc (Nat.le_refl _) _)) h2 rfl h1 (by simpa using h4) (ET2.below ((Below.refl _ _).alloc (Nat.le_refl _) _)) (((S6.below ((Below.refl _ _).alloc (Nat.le_refl _) _)).own EV.out)))
            | (refine step_call1x rfl 37 (.tmp 32) 9 rfl (.string s) (by first | (simp [Act.eval]; done) | simp [Act.eval, Act.put]) Tryz.f37 Tryz.func37 (by kernel_rfl) (by kernel_rfl) (fun r w' => ∃ g, w1.heap.size ≤ g ∧ r = .agg #[.slice (some ⟨g, 0, none⟩) 1 1] ∧ AtomsO w' g 0 [⟨4, 0, s, 0⟩] ∧ Below w1.heap.size w1.drew w') (HT5.out _) ?_; rintro r w6 ⟨gt, hgt, rfl, hat, hb6⟩; have S6 := HS1.out.below ((Below.refl _ _).drew.trans hb6); have cb6 := S6.c; have ET2 : ElT w6 (Value.slice pv lo.length cvv).ownBlock (.slice (some ⟨gt, 0, none⟩) 1 1) (T.mk 4 0 s []) := ⟨gt, 0, 1, rfl, Nat.le_refl _, fun e => by have := (HS1.out.k.row.lt gt e.symm).2; omega, by rw [atoms_leafT]; exact hat⟩))
          all_goals
            have HS7 := hide S7
            clear S7 h1 h2 h3 h4 ET2 hat S6 cb6
            obtain ⟨j7, l7⟩ := HKC.out _ HS7.out.B
            obtain ⟨lo7, hlo7e⟩ : ∃ q, q = lo ++ [T.mk 4 0 s [], t] := ⟨_, rfl⟩
            have hl7 : lo7.length = lo.length + 2 := by rw [hlo7e]; simp
            have HE7 := hide hlo7e
            rw [← hlo7e] at HS7
            have r7 := HS7.out.k.row
            rw [hl7] at r7
            have HR7 := hide r7
            have HL7 := hide hl7
            clear hlo7e r7 hl7
            generalize vo ++ [.slice (some ⟨gt, 0, none⟩) 1 1, .slice (some ⟨gv, ov, none⟩) nt cv] = vo7 at *
            cases heq : (xt.toList == s.toList)
            · have HG := hide (HSG.out false)
              rw [hls, heq] at HG
              have HG2 : Hid (lo7 ++ [xa, xb] ++ setGo s t (ks.drop (i + 2)) true = setGo s t ks false) := hide (by rw [← HST.out, HG.out, HE7.out]; simp)
              go_wp2_with fail
              have hz01 : (0 : Int) ≤ (i : Int) + 1 := by omega
              have hlt3 : (i : Int) + 1 < (ks.length : Int) := by omega
              go_region_law ((refine step_append_own rfl (.tmp 40) (.tmp 50) 60 rfl (w.heap.size + 1) 28 iV _ 1 24 Tryz.underlying60 hV hVz hVs hVb rfl (by decide) (.slice p7 (lo.length + 2) c7) (lo.length + 2) vo7 (by simp [Act.eval]) (HR7.out.alloc _).drew ⟨w7.heap.size, 0, none⟩ 2 2 [.slice (some ⟨g0, o0, none⟩) na c0, .slice (some ⟨g1, o1, none⟩) nb c1] (by simp [Act.eval]) rfl (two_newT _ _ _ _) (by simp [Value.oneCell']) (by unfold maxLen; omega) (by omega) (by have := HS7.out.z; show w.heap.size + 1 ≤ (w7.alloc _).heap.size; simp; omega) ?_; intro v9 w9 h1 h2 h3 h4; obtain ⟨pv9, cv9, rfl⟩ := row_form h1; have S9 := SJ.add (x := xa) (y := xb) ((HS7.out.below ((Below.refl _ _).alloc (Nat.le_refl _) _)).below (Below.refl _ _).drew) h2 (by have := HL7.out; omega) h1 h4 (((HS7.out.below ((Below.refl _ _).alloc (Nat.le_refl _) _)).below (Below.refl _ _).drew).own EA.out) (((HS7.out.below ((Below.refl _ _).alloc (Nat.le_refl _) _)).below (Below.refl _ _).drew).own EB.out)))
              all_goals
                have HS9 := hide S9
                clear S9 h1 h2 h3 h4
                go_wp2
                go_roundw
                case rel => exact ⟨i + 2, true, _, _, _, by omega, by omega, by go_num, rfl, rfl, (fun h => by cases h), by rw [List.length_append, HL7.out]; simp; omega, HG2.out, HS9.out⟩
                case measure => simp [intOf]; omega
            · have HG := hide (HSG.out false)
              rw [hls, heq] at HG
              have HG2 : Hid (lo7 ++ setGo s t (ks.drop (i + 2)) true = setGo s t ks false) := hide (by rw [← HST.out, HG.out, HE7.out]; simp)
              go_wp2
              go_roundw
              case rel => exact ⟨i + 2, true, .slice p7 (lo.length + 2) c7, lo7, vo7, by omega, by omega, by go_num, rfl, rfl, (fun h => by cases h), by rw [HL7.out]; omega, HG2.out, HS7.out⟩
              case measure => simp [intOf]; omega
        · have hne : (xt.toList == s.toList) = false := by
            cases h : (xt.toList == s.toList)
            · rfl
            · rw [beq_iff_eq] at h; rw [h, less_selfT] at hls; cases hls
          have HG := hide (HSG.out false)
          rw [hls, hne] at HG
          have HG2 : Hid (lo ++ [xa, xb] ++ setGo s t (ks.drop (i + 2)) false = setGo s t ks false) := hide (by rw [← HST.out, HG.out]; simp)
          go_wp2_with fail
          have hz01 : (0 : Int) ≤ (i : Int) + 1 := by omega
          have hlt3 : (i : Int) + 1 < (ks.length : Int) := by omega
          go_region_law ((refine step_append_own rfl (.tmp 40) (.tmp 50) 60 rfl (w.heap.size + 1) 28 iV _ 1 24 Tryz.underlying60 hV hVz hVs hVb rfl (by decide) (.slice pv (lo.length) cvv) (lo.length) vo (by simp [Act.eval]) (HS1.out.k.row.alloc _).drew ⟨w1.heap.size, 0, none⟩ 2 2 [.slice (some ⟨g0, o0, none⟩) na c0, .slice (some ⟨g1, o1, none⟩) nb c1] (by simp [Act.eval]) rfl (two_newT _ _ _ _) (by simp [Value.oneCell']) (by unfold maxLen; omega) (by omega) (by have := HS1.out.z; show w.heap.size + 1 ≤ (w1.alloc _).heap.size; simp; omega) ?_; intro v9 w9 h1 h2 h3 h4; obtain ⟨pv9, cv9, rfl⟩ := row_form h1; have S9 := SJ.add (x := xa) (y := xb) ((HS1.out.below ((Below.refl _ _).alloc (Nat.le_refl _) _)).below (Below.refl _ _).drew) h2 rfl h1 (by simpa using h4) (((HS1.out.below ((Below.refl _ _).alloc (Nat.le_refl _) _)).below (Below.refl _ _).drew).own EA.out) (((HS1.out.below ((Below.refl _ _).alloc (Nat.le_refl _) _)).below (Below.refl _ _).drew).own EB.out)))
          all_goals
            have HS9 := hide S9
            clear S9 h1 h2 h3 h4
            go_wp2
            go_roundw
            case rel => exact ⟨i + 2, false, _, _, _, by omega, by omega, by go_num, rfl, rfl, (fun _ => by simp; omega), by simp; omega, HG2.out, HS9.out⟩
            case measure => simp [intOf]; omega
      · cases heq : (xt.toList == s.toList)
        · have HG := hide (HSG.out true)
          rw [heq] at HG
          have HG2 : Hid (lo ++ [xa, xb] ++ setGo s t (ks.drop (i + 2)) true = setGo s t ks false) := hide (by rw [← HST.out, HG.out]; simp)
          go_wp2_with fail
          have hz01 : (0 : Int) ≤ (i : Int) + 1 := by omega
          have hlt3 : (i : Int) + 1 < (ks.length : Int) := by omega
          go_region_law ((refine step_append_own rfl (.tmp 40) (.tmp 50) 60 rfl (w.heap.size + 1) 28 iV _ 1 24 Tryz.underlying60 hV hVz hVs hVb rfl (by decide) (.slice pv (lo.length) cvv) (lo.length) vo (by simp [Act.eval]) (HS1.out.k.row.alloc _).drew ⟨w1.heap.size, 0, none⟩ 2 2 [.slice (some ⟨g0, o0, none⟩) na c0, .slice (some ⟨g1, o1, none⟩) nb c1] (by simp [Act.eval]) rfl (two_newT _ _ _ _) (by simp [Value.oneCell']) (by unfold maxLen; omega) (by omega) (by have := HS1.out.z; show w.heap.size + 1 ≤ (w1.alloc _).heap.size; simp; omega) ?_; intro v9 w9 h1 h2 h3 h4; obtain ⟨pv9, cv9, rfl⟩ := row_form h1; have S9 := SJ.add (x := xa) (y := xb) ((HS1.out.below ((Below.refl _ _).alloc (Nat.le_refl _) _)).below (Below.refl _ _).drew) h2 rfl h1 (by simpa using h4) (((HS1.out.below ((Below.refl _ _).alloc (Nat.le_refl _) _)).below (Below.refl _ _).drew).own EA.out) (((HS1.out.below ((Below.refl _ _).alloc (Nat.le_refl _) _)).below (Below.refl _ _).drew).own EB.out)))
          all_goals
            have HS9 := hide S9
            clear S9 h1 h2 h3 h4
            go_wp2
            go_roundw
            case rel => exact ⟨i + 2, true, _, _, _, by omega, by omega, by go_num, rfl, rfl, (fun h => by cases h), by simp; omega, HG2.out, HS9.out⟩
            case measure => simp [intOf]; omega
        · have HG := hide (HSG.out true)
          rw [heq] at HG
          have HG2 : Hid (lo ++ setGo s t (ks.drop (i + 2)) true = setGo s t ks false) := hide (by rw [← HST.out, HG.out]; simp)
          go_wp2
          go_roundw
          case rel => exact ⟨i + 2, true, _, lo, vo, by omega, by omega, by go_num, rfl, rfl, (fun h => by cases h), by omega, HG2.out, HS1.out⟩
          case measure => simp [intOf]; omega
    · have hie2 : i = ks.length := by omega
      have cb := HS.out.c
      have HD : Hid (ks.drop i = []) := hide (by rw [hie2, List.drop_length])
      rw [HD.out] at HST
      cases dn
      · have HG2 : Hid (lo ++ [T.mk 4 0 s [], t] = setGo s t ks false) := HST
        go_wp2_with fail
        go_region_law (first
          | (refine step_append_own rfl (.tmp 54) (.tmp 58) 60 rfl (w.heap.size + 1) 28 iV _ 1 24 Tryz.underlying60 hV hVz hVs hVb rfl (by decide) (.slice pv lo.length cvv) lo.length vo (by simp [Act.eval]) (S6.k.row.alloc _) ⟨w6.heap.size, 0, none⟩ 2 2 [.slice (some ⟨gt, 0, none⟩) 1 1, .slice (some ⟨gv, ov, none⟩) nt cv] (by simp [Act.eval]) rfl (two_newT _ _ _ _) (by simp [Value.oneCell']) (by unfold maxLen; omega) (by omega) (by have := S6.z; simp; omega) ?_; intro v7 w7 h1 h2 h3 h4; obtain ⟨p7, c7, rfl⟩ := row_form h1; have S7 := SJ.add (x := T.mk 4 0 s []) (y := t) (S6.below ((Below.refl _ _).alloc (Nat.le_refl _) _)) h2 rfl h1 (by simpa using h4) (ET2.below ((Below.refl _ _).alloc (Nat.le_refl _) _)) (((S6.below ((Below.refl _ _).alloc (Nat.le_refl _) _)).own EV.out)))
          | (refine step_call1x rfl 37 (.tmp 55) 9 rfl (.string s) (by first | (simp [Act.eval]; done) | simp [Act.eval, Act.put]) Tryz.f37 Tryz.func37 (by kernel_rfl) (by kernel_rfl) (fun r w' => ∃ g, wr.heap.size ≤ g ∧ r = .agg #[.slice (some ⟨g, 0, none⟩) 1 1] ∧ AtomsO w' g 0 [⟨4, 0, s, 0⟩] ∧ Below wr.heap.size wr.drew w') (HT5.out _) ?_; rintro r w6 ⟨gt, hgt, rfl, hat, hb6⟩; have S6 := HS.out.below ((Below.refl _ _).drew.trans hb6); have cb6 := S6.c; have ET2 : ElT w6 (Value.slice pv lo.length cvv).ownBlock (.slice (some ⟨gt, 0, none⟩) 1 1) (T.mk 4 0 s []) := ⟨gt, 0, 1, rfl, Nat.le_refl _, fun e => by have := (HS.out.k.row.lt gt e.symm).2; omega, by rw [atoms_leafT]; exact hat⟩))
        all_goals
          have HS7 := hide S7
          clear S7 h1 h2 h3 h4 ET2 hat S6 cb6
          go_wp2
          go_ret
          rw [← HG2.out]
          exact ⟨_, _, by simp, ⟨row_mono HS7.out.k.row (Nat.le_succ _), HS7.out.k.dis⟩, HS7.out.B⟩
      · have HG2 : Hid (lo = setGo s t ks false) := hide (by have := HST.out; simpa [setGo] using this)
        go_wp2
        go_ret
        rw [← HG2.out]
        exact ⟨_, _, rfl, ⟨row_mono HS.out.k.row (Nat.le_succ _), HS.out.k.dis⟩, HS.out.B⟩
end Go.Proofs.YtnkfbjcgkdblgaaGreat.Vl
