/- Mf, Mh, Mi, Mj. -/
import Derived.Test.YtmklgiononbmmaaDoorMe3
import Derived.Lib.SlKeysI
import Derived.Test.YtmklgiononbmmaaDoorNm
import Derived.Test.YtmklgiononbmmaaDoorMcl
import Derived.Test.YtmklgiononbmmaaDoorMg
import Derived.Test.YtmklgiononbmmaaDoorNp
namespace Go.Proofs.YtmklgiononbmmaaDoor
open Go.RowKit

theorem Tr.put_keys (es : List (Lit × DataW Unit)) (x : Int) (h : ∀ p ∈ es, ∃ y, p.1 = Lit.int .i64 y) : ∃ es', (DataW.map es).put (.int .i64 x) (.agg []) = .map es' ∧ ∀ p ∈ es', ∃ y, p.1 = Lit.int .i64 y := by
  refine ⟨_, rfl, fun p hp => ?_⟩
  have hp2 := (WideShapes.insert_perm _ _).subset hp
  rcases List.mem_cons.1 hp2 with rfl | hp3
  · exact ⟨x, rfl⟩
  · exact h p (List.mem_filter.1 hp3).1
theorem Tr.set_keys (L : List Nat) : ∃ es, Maps.setOf (H := Unit) (.agg []) (Tr.keysI L) = .map es ∧ ∀ p ∈ es, ∃ y, p.1 = Lit.int .i64 y := by
  have : ∀ (xs : List Lit) (es : List (Lit × DataW Unit)), (∀ x ∈ xs, ∃ y, x = Lit.int .i64 y) → (∀ p ∈ es, ∃ y, p.1 = Lit.int .i64 y) → ∃ es', xs.foldl (fun m x => m.put x (.agg [])) (DataW.map es) = .map es' ∧ ∀ p ∈ es', ∃ y, p.1 = Lit.int .i64 y := by
    intro xs
    induction xs with
    | nil => intro es _ h; exact ⟨es, rfl, h⟩
    | cons x r ih =>
      intro es hx h
      obtain ⟨y, rfl⟩ := hx x (by simp)
      obtain ⟨es', e, h'⟩ := Tr.put_keys es y h
      rw [List.foldl_cons, e]
      exact ih es' (fun z hz => hx z (by simp [hz])) h'
  exact this (Tr.keysI L) [] (fun x hx => by simp only [Tr.keysI, List.mem_map] at hx; obtain ⟨y, _, rfl⟩ := hx; exact ⟨_, rfl⟩) (fun p hp => by cases hp)
theorem Tr.perm_locals {L : List Nat} (hL : L.Pairwise (· < ·)) : (L.map fun (k : Nat) => (k : Int)).Perm (intKeys (Maps.setOf (H := Unit) (.agg []) (Tr.keysI L))) := by
  obtain ⟨es, he, hk⟩ := Tr.set_keys L
  have ht := Maps.tidy_setOf (H := Unit) (.agg []) (Tr.keysI L) (Tr.keysI_ok L)
  have hh := fun x : Int => Maps.has_setOf (H := Unit) (.agg []) (.int .i64 x) (Tr.keysI L) (Tr.keysI_ok L)
  rw [he] at ht ⊢
  obtain ⟨es', e', hp⟩ := ht
  cases e'
  refine perm_intKeys hp hk ?_ fun x => ?_
  · rw [List.nodup_iff_pairwise_ne, List.pairwise_map]
    exact hL.imp fun h => by omega
  · rw [← he, hh x, List.any_eq_true]
    simp only [List.mem_map, Tr.keysI]
    constructor
    · rintro ⟨k, hk, rfl⟩
      exact ⟨_, ⟨k, hk, rfl⟩, WideAt.sameKey_self trivial⟩
    · rintro ⟨_, ⟨k, hk, rfl⟩, hs⟩
      refine ⟨k, hk, ?_⟩
      by_cases e : (k : Int) = x
      · exact e
      · rw [Maps.sameKey_ne (fun h => e (by injection h))] at hs; cases hs
theorem Tr.sorted_locals {L : List Nat} (hL : L.Pairwise (· < ·)) {ss : List Int} (hp : ss.Perm (intKeys (Maps.setOf (H := Unit) (.agg []) (Tr.keysI L)))) : ss.mergeSort (fun x y => decide (x ≤ y)) = L.map fun (k : Nat) => (k : Int) :=
  Tr.sortI_eq hL (hp.trans (Tr.perm_locals hL).symm)
end Go.Proofs.YtmklgiononbmmaaDoor
namespace Go.Proofs.YtmklgiononbmmaaDoor
open Go.RowKit Go.Maps Go.Sort Go.Shelf

theorem sortsA (m : Nat) : AnyZI.SortsIn Tryd.prog Tryd.sortedA_ren Fence.wide m :=
  ⟨fun blk off cap ss W hH hblk hsz => callsIn_wide.2 (AnyM.slices_Sort_int Tryd.sortA blk off cap ss W hH hblk hsz),
   fun p cap W => callsIn_wide.2 (AnyM.slices_Sort_int_none Tryd.sortA p cap W)⟩
theorem keys_call (mb : Option Nat) (W : World) : Calls Tryd.prog 44 #[.map mb] W fun e w' => e = .returned (.func (.func 72) #[] #[.pointer (some ⟨W.heap.size, 0, none⟩)]) ∧ w' = W.alloc (.cells #[.map mb] 68) :=
  (callsIn_wide (n := 5)).1 (AnyZI.keys_in Tryd.keysA Fence.wide 5 trivial rfl mb W)
theorem sorted_call {H : Type} (b nn : Nat) (D0 : DataW H) (R : Value → Option (DataW H × List MemPlace)) (w : World) (hown : w.ownsMap Tryd.prog 3 R b nn D0) (hmax : Maps.size D0 ≤ maxLen) (hbytes : Maps.size D0 * 8 ≤ 140737488355328) :
    Calls Tryd.prog 43 #[.func (.func 72) #[] #[.pointer (some ⟨w.heap.size, 0, none⟩)]] (w.alloc (.cells #[.map (some b)] 68)) fun e w' => ∃ (v : Value) (ss : List Int), e = .returned v ∧ ss.Perm (intKeys D0) ∧
      w'.ownsRow (w.heap.size + 1) 3 1 v ss.length ((ss.mergeSort (fun x y => decide (x ≤ y))).map encZ) ∧ (v = .slice none 0 0 ↔ ss = []) ∧ Below (w.heap.size + 1) (w.alloc (.cells #[.map (some b)] 68)) w' := by
  have hbl := hown.lt
  have hseq : SeqGives Fence.wide 2 Tryd.prog 72 #[.pointer (some ⟨w.heap.size, 0, none⟩)] encZ (fun ss => ss.Perm (intKeys D0)) (Maps.size D0) (w.alloc (.cells #[.map (some b)] 68)) :=
    AnyZI.keys_gives (ρ := Tryd.keysA_ren) { Tryd.keysA with } Fence.wide _ trivial rfl (by omega) w.heap.size b nn D0 _ (by simp) (by simp) (by
      obtain ⟨es, clock, hb, Ft, hs, hD⟩ := hown
      exact ⟨es, clock, (Below.heap_alloc _ _ b hbl).trans hb, Ft, hs, hD⟩)
  have cS := AnyZI.sorted_in Tryd.sortedA Fence.wide 5 trivial trivial trivial trivial rfl (by omega) (sortsA _) (enters_of Tryd.func71 (by kernel_rfl) rfl) 72 #[.pointer (some ⟨w.heap.size, 0, none⟩)] trivial (enters_of Tryd.func72 (by kernel_rfl) rfl) _ _ hmax hbytes _ hseq
  change CallsIn _ _ Tryd.prog 43 _ _ _ at cS
  refine ((callsIn_wide (n := 5)).1 cS).mono ?_
  rintro e w' ⟨v, ss, rfl, hS, hrow, hnil, hb⟩
  rw [World.size_alloc] at hrow hb
  exact ⟨v, ss, rfl, hS, hrow, hnil, hb⟩
def Tr.localsI (ns : List Tr.Nd) : List Int := (Tr.localsOf ns).map fun (k : Nat) => (k : Int)
theorem Tr.localsI_len (ns : List Tr.Nd) : (Tr.localsI ns).length ≤ ns.length := by
  unfold Tr.localsI Tr.localsOf
  rw [List.length_map]
  split
  · have h : ∀ (ns : List Tr.Nd) (i : Nat), (Tr.localsGo ns i).length ≤ ns.length := by
      intro ns
      induction ns with
      | nil => intro i; exact Nat.le_refl _
      | cons d r ih => intro i; rw [Tr.localsGo, List.length_append, List.length_cons]; have := ih (i + 1); split <;> simp <;> omega
    exact h ns 0
  · simp

set_option maxRecDepth 100000 in
set_option maxHeartbeats 1000000 in
theorem ilocals_v (ns : List Tr.Nd) (tg tc : Nat) (w : World) (hn : ns.length ≤ 1048576) (hx : ∀ x ∈ ns, x.text.size ≤ 1048576) (hG : GlobB w) (ht : NodesAt w tg ns) :
    Calls Tryd.prog 23 #[.agg #[.slice (some ⟨tg, 0, none⟩) ns.length tc]] w fun e w' => ∃ v, e = .returned v ∧ RowI w' w.heap.size v (Tr.localsI ns).length ((Tr.localsI ns).map vi) ∧ (Tr.localsI ns).length ≤ ns.length ∧ Below w.heap.size w w' := by
  have r1 : Below w.heap.size w (w.alloc (.cells #[.slice (some ⟨tg, 0, none⟩) ns.length tc] 31)) := (Below.refl _ _).alloc (Nat.le_refl _) _
  have HCK := hide (icheck_any ns tg tc _ hn hx (hG.below r1) (ht.below r1))
  have HLN := hide (Tr.localsI_len ns)
  have HT := hide ht
  have HFC := hide (Tr.fits_codes (ns := ns))
  clear ht hG hx
  cases hf : Tr.fitsOf ns
  · have HL : Hid (Tr.localsI ns = []) := hide (by unfold Tr.localsI Tr.localsOf; rw [hf]; rfl)
    have hco : ¬ ((Tr.checkOf ns).1 = 0 ∧ (Tr.checkOf ns).2 = 0) := fun h => by
      have := HFC.out.2 (Prod.ext h.1 h.2)
      rw [hf] at this; cases this
    clear HFC hf
    go_enter Tryd.func23, Tryd.ntmps23
    go_wp2_with fail
    refine HCK.out.mono ?_
    rintro e w1 ⟨rfl, hb1⟩
    have hB1 := r1.trans (hb1.mono (by simp))
    clear hb1
    by_cases h0 : (Tr.checkOf ns).1 = 0
    · have h1 : ¬ ((Tr.checkOf ns).2 : Int) = 0 := fun h => hco ⟨h0, by omega⟩
      clear hco
      rw [h0]
      go_wp2
      all_goals
        go_ret
        exact ⟨_, rfl, .inl ⟨rfl, by rw [HL.out]; rfl, by rw [HL.out]; rfl⟩, HLN.out, hB1⟩
    · clear hco
      go_wp2
      all_goals
        go_ret
        exact ⟨_, rfl, .inl ⟨rfl, by rw [HL.out]; rfl, by rw [HL.out]; rfl⟩, HLN.out, hB1⟩
  · have hco := HFC.out.1 hf
    have h0 : (Tr.checkOf ns).1 = 0 := by rw [hco]
    have h1 : (Tr.checkOf ns).2 = 0 := by rw [hco]
    have hn5 := (Tr.valid_facts (Tr.fits_valid hf)).2.1
    have HL : Hid (Tr.localsI ns = (Tr.localsGo ns 0).map fun (k : Nat) => (k : Int)) := hide (by unfold Tr.localsI Tr.localsOf; rw [hf]; rfl)
    have HSE := hide (fun (ss : List Int) h => Tr.sorted_locals (Tr.localsGo_asc ns 0) (ss := ss) h)
    clear HFC hf hco
    go_enter Tryd.func23, Tryd.ntmps23
    go_wp2_with fail
    refine HCK.out.mono ?_
    rintro e w1 ⟨rfl, hb1⟩
    have b0 : w1.cell? ⟨w.heap.size, 0, none⟩ = some (.slice (some ⟨tg, 0, none⟩) ns.length tc) := (hb1.cell (p := ⟨w.heap.size, 0, none⟩) (by simp)).trans (by simp)
    have hB1 := r1.trans (hb1.mono (by simp))
    clear hb1
    rw [h0, h1]
    have HLP := hide (localPlaces_any ns tg tc w1 hn5 (HT.out.below hB1))
    go_wp2_with fail
    refine HLP.out.mono ?_
    rintro e w2 ⟨rfl, hown, hb2⟩
    have hB2 := hB1.trans (hb2.mono hB1.size)
    have hsz := hown.size_le
    have HSC := hide (sorted_call _ _ _ _ w2 hown (by unfold maxLen; omega) (by omega))
    have hz12 := hb2.size
    clear hown hb2
    go_wp2_with fail
    refine (keys_call _ _).mono ?_
    rintro e w3 ⟨rfl, rfl⟩
    go_wp2_with fail
    refine HSC.out.mono ?_
    rintro e w4 ⟨v, ss, rfl, hS, hrow, hnil, hb4⟩
    have hB4 : Below w.heap.size w w4 := (hB2.alloc hB2.size _).trans (hb4.mono (by have := hB2.size; omega))
    have hse := HSE.out ss hS
    have hssl : ss.length = (Tr.localsI ns).length := by
      rw [HL.out, ← hse, List.length_mergeSort]
    have HRI : Hid (RowI w4 w.heap.size v (Tr.localsI ns).length ((Tr.localsI ns).map vi)) := hide (by
      rw [hse, ← HL.out, hssl] at hrow
      rcases hrow.2 with ⟨e1, e2⟩ | ⟨g, c, cur, hv, hg, _⟩
      · exact .inl ⟨e1, e2, by rw [List.eq_nil_of_length_eq_zero e2]; rfl⟩
      · have := hB2.size
        exact .inr ⟨g, c, hv, by omega, row_mono hrow (Nat.zero_le _)⟩)
    clear hrow hnil hb4 hS hse hssl
    go_wp2
    go_ret
    exact ⟨_, rfl, HRI.out, HLN.out, hB4⟩
theorem locals_v (ns : List Tr.Nd) (tg tc : Nat) (w : World) (hn : ns.length ≤ 1048576) (ht : NodesAt w tg ns) :
    Calls Tryd.prog 22 #[.agg #[.slice (some ⟨tg, 0, none⟩) ns.length tc]] w fun e w' => ∃ g c, e = .returned (.slice (some ⟨g, 0, none⟩) (Tr.localsI ns).length c) ∧ w.heap.size ≤ g ∧ w'.ownsRow 0 3 1 (.slice (some ⟨g, 0, none⟩) (Tr.localsI ns).length c) (Tr.localsI ns).length ((Tr.localsI ns).map vi) ∧ Below w.heap.size w w' := by
  refine (locals_any ns tg tc w hn ht).mono ?_
  rintro e w' ⟨g, c, rfl, h1, h2, h3⟩
  have hl : (Tr.localsI ns).length = (Tr.localsOf ns).length := by unfold Tr.localsI; rw [List.length_map]
  have hm : (Tr.localsI ns).map vi = (Tr.localsOf ns).map vint := by unfold Tr.localsI; rw [List.map_map]; rfl
  exact ⟨g, c, by rw [hl], h1, by rw [hl, hm]; exact row_mono h2 (Nat.zero_le _), h3⟩
end Go.Proofs.YtmklgiononbmmaaDoor
namespace Go.Proofs.YtmklgiononbmmaaDoor
open Go.RowKit

set_option maxRecDepth 100000 in
set_option maxHeartbeats 2000000 in
theorem lawL_any (l : List Tr.Nd) (v : Value) (w : World) (hl : l.length ≤ 9223372036854775807) (hx : ∀ x ∈ l, x.text.size ≤ 9223372036854775807) (hG : GlobB w) (ht : NodesV w v l) :
    Calls Tryd.prog 6 #[.agg #[v]] w fun e w' => e = .returned (.bool true) ∧ Below w.heap.size w w' := by
  have r1 : Below w.heap.size w (w.alloc (.cells #[v] 24)) := (Below.refl _ _).alloc (Nat.le_refl _) _
  have HZ := hide (szTree_any l v (w.alloc (.cells #[v] 24)) hl hx (ht.below r1))
  have HT := hide ht
  have HG := hide hG
  clear ht hG
  by_cases hr : Tr.szS l 1048576 < 0
  · have HZ2 := HZ.out
    rw [if_pos hr] at HZ2
    replace HZ2 := hide HZ2
    go_enter Tryd.func6, Tryd.ntmps6
    go_wp2_with fail
    refine HZ2.out.mono ?_
    rintro e w1 ⟨rfl, hb1⟩
    go_wp2
    go_ret
    exact ⟨rfl, r1.trans (hb1.mono (by simp))⟩
  · obtain ⟨hl2, hx2⟩ := Tr.szS_ok l hr
    have HZ2 := HZ.out
    rw [if_neg hr] at HZ2
    replace HZ2 := hide HZ2
    have HX := hide hx2
    clear HZ hx hl hx2
    generalize Tr.szS l 1048576 = r at *
    have HTT : Hid (∀ w', Below w.heap.size w w' → Calls Tryd.prog 9 #[.agg #[v]] w' fun e w'' => ∃ g, e = .returned (.agg #[.slice (some ⟨g, 0, none⟩) l.length l.length]) ∧ OwnN w'' w'.heap.size g l ∧ w'.heap.size ≤ g ∧ Below w'.heap.size w' w'') := hide fun w' hb => toTreeO_any l v w' hl2 (HT.out.below hb)
    have HBS := hide (fun tg w' (h : NodesAt w' tg l) => locals_v l tg l.length w' hl2 h)
    have HBI := hide (fun tg w' (hb : Below w.heap.size w w') (h : NodesAt w' tg l) => ilocals_v l tg l.length w' hl2 HX.out (HG.out.below hb) h)
    generalize Tr.localsI l = b at *
    go_enter Tryd.func6, Tryd.ntmps6
    go_wp2_with fail
    refine HZ2.out.mono ?_
    rintro e w1 ⟨rfl, hb1⟩
    have L1 : LB w v w1 := ⟨r1.trans (hb1.mono (by simp)), (hb1.cell (p := ⟨w.heap.size, 0, none⟩) (by simp)).trans (by simp), Nat.lt_of_lt_of_le (by simp) hb1.size⟩
    clear hb1
    have c1 := L1.c
    have HL1 := hide L1
    go_wp2_with fail
    refine (HTT.out _ HL1.out.B).mono ?_
    rintro e w2 ⟨ga, rfl, na, hga, hb2⟩
    have HL2 := hide (HL1.out.below hb2 HL1.out.z)
    have HNA := hide na.nodes
    clear hb2 na L1 c1 HL1
    go_wp2_with fail
    refine (HBS.out _ _ HNA.out).mono ?_
    rintro e w3 ⟨gs, cs, rfl, hgs, ho3, hb3⟩
    have HL3 := hide (HL2.out.below hb3 HL2.out.z)
    have HO3 := hide ho3
    have c3 := HL3.out.c
    have hgs3 := (ho3.lt gs rfl).2
    clear hb3 ho3 HNA HL2 hga hgs
    go_wp2_with fail
    refine (HTT.out _ HL3.out.B).mono ?_
    rintro e w4 ⟨gb, rfl, nb, hgb, hb4⟩
    have q4 : Below w4.heap.size w4 (w4.alloc (.cells #[.slice (some ⟨gb, 0, none⟩) l.length l.length] 31)) := (Below.refl _ _).alloc (Nat.le_refl _) _
    have HL4 := hide ((HL3.out.below hb4 HL3.out.z).below q4 (Nat.lt_of_lt_of_le HL3.out.z hb4.size))
    have HO4 := hide (row_belowS (row_belowS HO3.out hb4) q4)
    have HNB := hide (nb.alloc (.cells #[.slice (some ⟨gb, 0, none⟩) l.length l.length] 31))
    have hz34 := hb4.size
    have hgb4 := (nb.lt gb rfl).2
    have s4 : (w4.alloc (.cells #[.slice (some ⟨gb, 0, none⟩) l.length l.length] 31)).cell? ⟨w4.heap.size, 0, none⟩ = some (.slice (some ⟨gb, 0, none⟩) l.length l.length) := by simp
    clear hb4 nb q4 c3 HO3
    have HB5 := hide (HBI.out gb _ HL4.out.B (OwnN.nodes HNB.out))
    go_wp2_with fail
    refine HB5.out.mono ?_
    rintro e w5 ⟨vg, rfl, hrg, hbn, hb5⟩
    rw [World.size_alloc] at hb5 hrg
    have HL5 := hide (HL4.out.below hb5 (by have := HL3.out.z; omega))
    have HO5 : Hid (w5.ownsRow 0 3 1 (.slice (some ⟨gs, 0, none⟩) b.length cs) b.length (b.map vi)) := hide (row_same HO4.out (hb5.block gs (by omega)))
    have HNB5 : Hid (OwnN w5 w3.heap.size gb l) := hide (row_same HNB.out (hb5.block gb (by omega)))
    have s5 := (hb5.cell (p := ⟨w4.heap.size, 0, none⟩) (Nat.lt_succ_self _)).trans s4
    have hz5 : w4.heap.size + 1 ≤ w5.heap.size := by have := hb5.size; simpa using this
    have HRG := hide hrg
    clear hb5 s4 hrg HB5 HO4 HNB HL4
    have HNS := hide (fun (W : World) (h : W.ownsRow 0 3 1 (.slice (some ⟨gs, 0, none⟩) b.length cs) b.length (b.map vi)) => RowI.num (B := 0) (.inr ⟨gs, _, rfl, Nat.zero_le _, h⟩))
    have hbl : b.length ≤ 1048576 := by omega
    go_wp2_with fail
    refine (eqI_same b _ _ w5 hbl HRG.out.num (HNS.out _ HO5.out)).mono ?_
    rintro e w6 ⟨rfl, hb6⟩
    have HL6 := hide (HL5.out.below hb6 HL5.out.z)
    have HO6 := hide (row_belowS HO5.out hb6)
    have HNB6 : Hid (OwnN w6 w3.heap.size gb l) := hide (row_belowS HNB5.out hb6)
    have HRG6 := hide (HRG.out.below hb6)
    have s6 := (hb6.cell (p := ⟨w4.heap.size, 0, none⟩) (show w4.heap.size < w5.heap.size by omega)).trans s5
    have hz6 := hb6.size
    have c6 := HL6.out.c
    have hzz6 : w4.heap.size < w6.heap.size := by omega
    clear hb6 s5 HL5 HO5 HNB5 HRG
    go_upto_region 10 with fail
    go_cut [31] from 27 to 31 (fun v31 wx => v31 = .bool false ∧ Below w6.heap.size w6 wx)
    case first =>
      go_region_with (first
        | (go_at_call 9; refine (HTT.out _ HL6.out.B.drew).mono ?_; rintro e w7 ⟨gc, rfl, nc, hgc, hb7⟩; have s7 := (hb7.cell (p := ⟨w4.heap.size, 0, none⟩) hzz6).trans s6; have nb7 := (OwnN.nodes HNB6.out).below ((Below.refl _ _).drew.trans hb7))
        | (go_at_call 12; refine (eqTree_same l gb gc l.length l.length _ hl2 nb7 nc.nodes).mono ?_; rintro e w8 ⟨rfl, hb8⟩))
      all_goals
        go_wp2_with fail
        go_meet
        case rel => exact ⟨rfl, (Below.refl _ _).drew.trans (hb7.trans (hb8.mono hb7.size))⟩
    case rest =>
      obtain ⟨rfl, hb8⟩ := hcut
      have HL8 := hide (HL6.out.below hb8 HL6.out.z)
      have HO8 := hide (row_belowS HO6.out hb8)
      have HNB8 : Hid (OwnN wc w3.heap.size gb l) := hide (row_belowS HNB6.out hb8)
      have HRG8 := hide (HRG6.out.below hb8)
      have s8 := (hb8.cell (p := ⟨w4.heap.size, 0, none⟩) hzz6).trans s6
      have hz8 := hb8.size
      clear hb8 s6 c6 HL6 HO6 HNB6 HRG6
      have HMT := hide (markTree_any l.length gb l.length w3.heap.size _ wc hl2 HNB8.out (by omega))
      go_wp2_with fail
      refine HMT.out.mono ?_
      rintro e w9 ⟨rfl, _, hfr9, hb9⟩
      have hz9 := hb9.size
      have HL9 := hide (HL8.out.below hb9 HL3.out.z)
      have HO9 : Hid (w9.ownsRow 0 3 1 (.slice (some ⟨gs, 0, none⟩) b.length cs) b.length (b.map vi)) := hide (row_same HO8.out (hb9.block gs hgs3))
      have HRG9 := hide (HRG8.out.but (by omega) hfr9)
      clear hb9 hfr9 s8 HL8 HO8 HNB8 HRG8 HMT
      have hkp : ¬ (1 + 5 * (l.length : Int) < 0) := by omega
      have hkd : decide (1 + 5 * (l.length : Int) < 0) = false := by simp; omega
      go_wp2_with fail
      refine (eqI_same b _ _ w9 hbl HRG9.out.num (HNS.out _ HO9.out)).mono ?_
      rintro e w10 ⟨rfl, hb10⟩
      have hz10 := hb10.size
      have HL10 := hide (HL9.out.below hb10 HL9.out.z)
      have HO10 := hide (row_belowS HO9.out hb10)
      have HRG10 := hide (HRG9.out.below hb10)
      clear hb10 HL9 HO9 HRG9
      go_wp2_with fail
      refine (markI_v b.length _ _ _ w10 hbl HRG10.out).mono ?_
      rintro e w11 ⟨rfl, hrg11, hb11⟩
      have hz11 := hb11.size
      have HL11 := hide (HL10.out.below hb11 (by have := HL3.out.z; omega))
      have HO11 : Hid (w11.ownsRow 0 3 1 (.slice (some ⟨gs, 0, none⟩) b.length cs) b.length (b.map vi)) := hide (row_same HO10.out (hb11.block gs (by omega)))
      have HRG11 := hide hrg11
      clear hb11 hrg11 HL10 HO10 HRG10
      go_wp2_with fail
      refine (heldI_v b.length _ _ w11 hbl HRG11.out).mono ?_
      rintro e w12 ⟨rfl, rfl⟩
      have hnn : ¬ (1 + (b.length : Int) < 0) := by omega
      have c11 := HL11.out.c
      go_wp2_with fail
      refine (HTT.out _ HL11.out.B).mono ?_
      rintro e w13 ⟨gd, rfl, nd, hgd, hb13⟩
      have HL13 := hide (HL11.out.below hb13 HL11.out.z)
      have HO13 := hide (row_belowS HO11.out hb13)
      have HRG13 := hide (HRG11.out.below hb13)
      have HND := hide nd.nodes
      clear hb13 nd hgd c11 HL11 HO11 HRG11
      have HB14 := hide (HBI.out gd _ HL13.out.B HND.out)
      go_wp2_with fail
      refine HB14.out.mono ?_
      rintro e w14 ⟨vh, rfl, hrh, _, hb14⟩
      have HL14 := hide (HL13.out.below hb14 HL13.out.z)
      have HO14 := hide (row_belowS HO13.out hb14)
      have HRG14 := hide (HRG13.out.below hb14)
      have HRH := hide hrh
      clear hb14 hrh HL13 HO13 HRG13 HB14 HND
      go_wp2_with fail
      refine (eqI_same b _ _ w14 hbl HRH.out.num (HNS.out _ HO14.out)).mono ?_
      rintro e w15 ⟨rfl, hb15⟩
      have HL15 := hide (HL14.out.below hb15 HL14.out.z)
      have HRG15 := hide (HRG14.out.below hb15)
      clear hb15 HL14 HO14 HRG14 HRH
      go_wp2_with fail
      refine (heldI_v b.length _ _ w15 hbl HRG15.out).mono ?_
      rintro e w16 ⟨rfl, rfl⟩
      go_wp2
      go_ret
      exact ⟨rfl, HL15.out.B⟩
end Go.Proofs.YtmklgiononbmmaaDoor
namespace Go.Proofs.YtmklgiononbmmaaDoor
open Go.ChangeShapes Go.WideShapes Go.ChangeAt Go.RowKit Go.ChangeMaps

theorem door_metL (os : Os) (args : Array Value) : laidMetH Tryd.prog Rows.fnExactLocalsRow.laid ((World.doorLaid Tryd.prog 136 os).forCall (fun _ _ => 0) ⟨#[], args, []⟩).memory :=
  laidMetH_of_parts3 (fuel := 8) (laidMet_of_run' 8 (by kernel_rfl) (by kernel_rfl)) (by kernel_rfl) (by kernel_rfl)

set_option maxRecDepth 100000 in
set_option maxHeartbeats 1000000 in
theorem liftedL (os : Os) (started : os.Started) (H : Type) (enc : TypeId × Value → H) :
    ReturnsInHanded {} Tryd.checked os 6 .any (fun w args => (Rows.fnExactLocalsSpec.pre enc Tryd.prog Tryd.f6 [] false w args ∧ laidMetH Tryd.prog Rows.fnExactLocalsRow.laid w) ∧ sizedMet enc Tryd.prog Tryd.f6 (OpenSpec.ofChange Rows.fnExactLocalsSpec) false w args)
      (Rows.fnExactLocalsSpec.post enc Tryd.prog Tryd.f6 false true false false) := by
  refine returnsInHanded_of_change_and (C := Tryd.checked) (X := fun w _ => laidMetH Tryd.prog Rows.fnExactLocalsRow.laid w) (fun _ _ _ hh h => h.of_heap hh) own started (by kernel_rfl) Tryd.func6
    (ChangeSpec.witness_shaped (enc := enc) (C := Tryd.checked) (os := os) (X := fun w _ => laidMetH Tryd.prog Rows.fnExactLocalsRow.laid w) false (World.doorLaid Tryd.prog 136 os) #[.agg #[.slice none 0 0]] 8 rfl (World.shaped_of_RefB (by kernel_rfl) (by kernel_rfl)) (by kernel_rfl) (by kernel_rfl) (by kernel_rfl) (door_metL os _)) ?_
  intro W base args ds gs before hval0 hW _ _ hL _
  have hval : ∀ (j : Nat) t v, Tryd.f6.params[j]? = some t → args[j]? = some v → Value.okWide Tryd.prog W .any base t v := hval0
  have hW' := hW
  obtain ⟨p, q, hA0, hV, rfl, hfz, hnd⟩ := hW
  have hA : DataW.TrodAll enc Tryd.prog W 0 (fun _ => true) true Tryd.f6.params.toList args.toList ds p := hA0
  rw [Tryd.params6] at hA hval
  obtain ⟨v0, d0, rfl, rfl, h0⟩ := trodAll_one hA
  have hVk : DataW.TrodVars enc Tryd.prog W (fun _ => true) ["loop.example/kilnclay/impl.builtNames"] gs q := hV
  obtain ⟨_, _, _, _, dg, _, rfl, _⟩ := trodVars_one hVk
  have h0k := h0
  have hlt : ∀ x ∈ p, x.block < W.heap.size := fun x hx => by simpa using hW'.lt x (by simp [hx])
  obtain ⟨v, l, rfl, hN, hl, hx⟩ := open_tree (hval 0 24 v0 rfl rfl) h0
  have hG := glob_of hL
  clear hA0 hval0 hL
  refine (lawL_any l v W hl hx hG hN).mono fun e W' ⟨he, hb⟩ => ?_
  subst he
  exact ⟨_, rfl, [d0], [dg], _, [], p, q, hW', trodAll_mk1 (shut_bool Tryd.underlying4 _), trodAll_mk1 (Below.trod laidOut (by kernel_rfl) (of_decide_eq_true (by kernel_rfl)) h0k hb hlt), Below.trodVars laidOut hb (by kernel_rfl) hVk, hb.frame _, fun h => by cases h⟩

theorem saidL : Rows.FnExactLocalsSaid :=
  OpenClaim.holds_of_wide 6 Tryd.f6 rfl rfl rfl rfl rfl rfl rfl ⟨rfl, rfl, rfl, rfl, rfl⟩ rfl rfl rfl rfl rfl (by kernel_rfl) Tryd.func6 (by kernel_rfl)
    (of_decide_eq_true (by kernel_rfl)) (by unfold Func.isWrapper; first | (rw [if_pos (by decide +kernel)]; kernel_rfl) | (rw [if_neg (by decide +kernel)]; exact ⟨rfl, rfl⟩))
    (fun os started H enc _ => liftedL os started H enc)

theorem plainL (f : FuncId) (fn : Func) (hf : Tryd.pinned.checked.prog.funcNamed Rows.fnExactLocalsRow.func = some f) (hfn : Tryd.pinned.checked.prog.funcs[f]? = some fn) :
    false = Tryd.pinned.checked.prog.looks [] ∧ ∀ (j : Nat) t, fn.params[j]? = some t → Tryd.pinned.checked.prog.wantsStandIn t = false := by
  obtain rfl : f = 6 := Option.some.inj ((show Tryd.prog.funcNamed Rows.fnExactLocalsRow.func = some 6 by kernel_rfl).symm.trans hf) |>.symm
  obtain rfl : fn = Tryd.f6 := (Option.some.inj (Tryd.func6.symm.trans hfn)).symm
  refine ⟨by kernel_rfl, fun j t ht => ?_⟩
  rw [Tryd.params6] at ht
  obtain rfl : t = 24 := by simpa using Array.mem_of_getElem? ht
  exact (show Tryd.prog.wantsStandIn 24 = false by kernel_rfl)

theorem cardL : Rows.FnExactLocalsCardSaid :=
  Claim7.holds_tied_plain_at .later [] _ _ _ _ saidL (fun _ h => by cases h) (by kernel_rfl) (fun _ h => by cases h) fnExactLocals_row_tie rfl ⟨rfl, rfl⟩ (by kernel_rfl) rfl plainL (by kernel_rfl)
#print axioms cardL
end Go.Proofs.YtmklgiononbmmaaDoor
