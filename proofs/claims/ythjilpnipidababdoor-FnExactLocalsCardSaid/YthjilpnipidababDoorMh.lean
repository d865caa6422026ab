/- Walks: Locals, on the program's side. -/
import Derived.Test.YthjilpnipidababDoorNm
import Derived.Test.YthjilpnipidababDoorMc
import Derived.Test.YthjilpnipidababDoorMf
import Derived.Test.YthjilpnipidababDoorMg
namespace Go.Proofs.YthjilpnipidababDoor
open Go.RowKit Go.Maps Go.Sort Go.Shelf

theorem sortsA (m : Nat) : AnyZI.SortsIn Tryd.prog Tryd.sortedA_ren Fence.wide m :=
  ⟨fun blk off cap ss W hH hblk hsz => callsIn_wide.2 (AnyM.slices_Sort_int Tryd.sortA blk off cap ss W hH hblk hsz),
   fun p cap W => callsIn_wide.2 (AnyM.slices_Sort_int_none Tryd.sortA p cap W)⟩
theorem keys_call (mb : Option Nat) (W : World) : Calls Tryd.prog 55 #[.map mb] W fun e w' => e = .returned (.func (.func 89) #[] #[.pointer (some ⟨W.heap.size, 0, none⟩)]) ∧ w' = W.alloc (.cells #[.map mb] 83) :=
  (callsIn_wide (n := 5)).1 (AnyZI.keys_in Tryd.keysA Fence.wide 5 trivial rfl mb W)
theorem sorted_call {H : Type} (b nn : Nat) (D0 : DataW H) (R : Value → Option (DataW H × List MemPlace)) (w : World) (hown : w.ownsMap Tryd.prog 3 R b nn D0) (hmax : Maps.size D0 ≤ maxLen) (hbytes : Maps.size D0 * 8 ≤ 140737488355328) :
    Calls Tryd.prog 54 #[.func (.func 89) #[] #[.pointer (some ⟨w.heap.size, 0, none⟩)]] (w.alloc (.cells #[.map (some b)] 83)) fun e w' => ∃ (v : Value) (ss : List Int), e = .returned v ∧ ss.Perm (intKeys D0) ∧
      w'.ownsRow (w.heap.size + 1) 3 1 v ss.length ((ss.mergeSort (fun x y => decide (x ≤ y))).map encZ) ∧ (v = .slice none 0 0 ↔ ss = []) ∧ Below (w.heap.size + 1) (w.alloc (.cells #[.map (some b)] 83)) w' := by
  have hbl := hown.lt
  have hseq : SeqGives Fence.wide 2 Tryd.prog 89 #[.pointer (some ⟨w.heap.size, 0, none⟩)] encZ (fun ss => ss.Perm (intKeys D0)) (Maps.size D0) (w.alloc (.cells #[.map (some b)] 83)) :=
    AnyZI.keys_gives (ρ := Tryd.keysA_ren) { Tryd.keysA with } Fence.wide _ trivial rfl (by omega) w.heap.size b nn D0 _ (by simp) (by simp) (by
      obtain ⟨es, clock, hb, Ft, hs, hD⟩ := hown
      exact ⟨es, clock, (Below.heap_alloc _ _ b hbl).trans hb, Ft, hs, hD⟩)
  have cS := AnyZI.sorted_in Tryd.sortedA Fence.wide 5 trivial trivial trivial trivial rfl (by omega) (sortsA _) (enters_of Tryd.func88 (by kernel_rfl) rfl) 89 #[.pointer (some ⟨w.heap.size, 0, none⟩)] trivial (enters_of Tryd.func89 (by kernel_rfl) rfl) _ _ hmax hbytes _ hseq
  change CallsIn _ _ Tryd.prog 54 _ _ _ at cS
  refine ((callsIn_wide (n := 5)).1 cS).mono ?_
  rintro e w' ⟨v, ss, rfl, hS, hrow, hnil, hb⟩
  rw [World.size_alloc] at hrow hb
  exact ⟨v, ss, rfl, hS, hrow, hnil, hb⟩
def Tr.localsI (ns : List Tr.Nd) : List Int := (Tr.localsOf ns).map fun (k : Nat) => (k : Int)
theorem Tr.localsI_len (ns : List Tr.Nd) : (Tr.localsI ns).length ≤ ns.length := by
  unfold Tr.localsI Tr.localsOf
  rw [List.length_map]
  split
  · have h : ∀ (ns : List Tr.Nd) (i : Nat), (Tr.localsGo ns i).length ≤ ns.length := by
      intro ns
      induction ns with
      | nil => intro i; exact Nat.le_refl _
      | cons d r ih => intro i; rw [Tr.localsGo, List.length_append, List.length_cons]; have := ih (i + 1); split <;> simp <;> omega
    exact h ns 0
  · simp

set_option maxRecDepth 100000 in
set_option maxHeartbeats 1000000 in
theorem ilocals_v (ns : List Tr.Nd) (tg tc : Nat) (w : World) (hn : ns.length ≤ 1048576) (hx : ∀ x ∈ ns, x.text.size ≤ 1048576) (hG : GlobB w) (ht : NodesAt w tg ns) :
    Calls Tryd.prog 29 #[.agg #[.slice (some ⟨tg, 0, none⟩) ns.length tc]] w fun e w' => ∃ v, e = .returned v ∧ RowI w' w.heap.size v (Tr.localsI ns).length ((Tr.localsI ns).map vi) ∧ (Tr.localsI ns).length ≤ ns.length ∧ Below w.heap.size w w' := by
  have r1 : Below w.heap.size w (w.alloc (.cells #[.slice (some ⟨tg, 0, none⟩) ns.length tc] 38)) := (Below.refl _ _).alloc (Nat.le_refl _) _
  have HCK := hide (icheck_any ns tg tc _ hn hx (hG.below r1) (ht.below r1))
  have HLN := hide (Tr.localsI_len ns)
  have HT := hide ht
  have HFC := hide (Tr.fits_codes (ns := ns))
  clear ht hG hx
  cases hf : Tr.fitsOf ns
  · have HL : Hid (Tr.localsI ns = []) := hide (by unfold Tr.localsI Tr.localsOf; rw [hf]; rfl)
    have hco : ¬ ((Tr.checkOf ns).1 = 0 ∧ (Tr.checkOf ns).2 = 0) := fun h => by
      have := HFC.out.2 (Prod.ext h.1 h.2)
      rw [hf] at this; cases this
    clear HFC hf
    go_enter Tryd.func29, Tryd.ntmps29
    go_wp2_with fail
    refine HCK.out.mono ?_
    rintro e w1 ⟨rfl, hb1⟩
    have hB1 := r1.trans (hb1.mono (by simp))
    clear hb1
    by_cases h0 : (Tr.checkOf ns).1 = 0
    · have h1 : ¬ ((Tr.checkOf ns).2 : Int) = 0 := fun h => hco ⟨h0, by omega⟩
      clear hco
      rw [h0]
      go_wp2
      all_goals
        go_ret
        exact ⟨_, rfl, .inl ⟨rfl, by rw [HL.out]; rfl, by rw [HL.out]; rfl⟩, HLN.out, hB1⟩
    · clear hco
      go_wp2
      all_goals
        go_ret
        exact ⟨_, rfl, .inl ⟨rfl, by rw [HL.out]; rfl, by rw [HL.out]; rfl⟩, HLN.out, hB1⟩
  · have hco := HFC.out.1 hf
    have h0 : (Tr.checkOf ns).1 = 0 := by rw [hco]
    have h1 : (Tr.checkOf ns).2 = 0 := by rw [hco]
    have hn5 := (Tr.valid_facts (Tr.fits_valid hf)).2.1
    have HL : Hid (Tr.localsI ns = (Tr.localsGo ns 0).map fun (k : Nat) => (k : Int)) := hide (by unfold Tr.localsI Tr.localsOf; rw [hf]; rfl)
    have HSE := hide (fun (ss : List Int) h => Tr.sorted_locals (Tr.localsGo_asc ns 0) (ss := ss) h)
    clear HFC hf hco
    go_enter Tryd.func29, Tryd.ntmps29
    go_wp2_with fail
    refine HCK.out.mono ?_
    rintro e w1 ⟨rfl, hb1⟩
    have b0 : w1.cell? ⟨w.heap.size, 0, none⟩ = some (.slice (some ⟨tg, 0, none⟩) ns.length tc) := (hb1.cell (p := ⟨w.heap.size, 0, none⟩) (by simp)).trans (by simp)
    have hB1 := r1.trans (hb1.mono (by simp))
    clear hb1
    rw [h0, h1]
    have HLP := hide (localPlaces_any ns tg tc w1 hn5 (HT.out.below hB1))
    go_wp2_with fail
    refine HLP.out.mono ?_
    rintro e w2 ⟨rfl, hown, hb2⟩
    have hB2 := hB1.trans (hb2.mono hB1.size)
    have hsz := hown.size_le
    have HSC := hide (sorted_call _ _ _ _ w2 hown (by unfold maxLen; omega) (by omega))
    have hz12 := hb2.size
    clear hown hb2
    go_wp2_with fail
    refine (keys_call _ _).mono ?_
    rintro e w3 ⟨rfl, rfl⟩
    go_wp2_with fail
    refine HSC.out.mono ?_
    rintro e w4 ⟨v, ss, rfl, hS, hrow, hnil, hb4⟩
    have hB4 : Below w.heap.size w w4 := (hB2.alloc hB2.size _).trans (hb4.mono (by have := hB2.size; omega))
    have hse := HSE.out ss hS
    have hssl : ss.length = (Tr.localsI ns).length := by
      rw [HL.out, ← hse, List.length_mergeSort]
    have HRI : Hid (RowI w4 w.heap.size v (Tr.localsI ns).length ((Tr.localsI ns).map vi)) := hide (by
      rw [hse, ← HL.out, hssl] at hrow
      rcases hrow.2 with ⟨e1, e2⟩ | ⟨g, c, cur, hv, hg, _⟩
      · exact .inl ⟨e1, e2, by rw [List.eq_nil_of_length_eq_zero e2]; rfl⟩
      · have := hB2.size
        exact .inr ⟨g, c, hv, by omega, row_mono hrow (Nat.zero_le _)⟩)
    clear hrow hnil hb4 hS hse hssl
    go_wp2
    go_ret
    exact ⟨_, rfl, HRI.out, HLN.out, hB4⟩
theorem locals_v (ns : List Tr.Nd) (tg tc : Nat) (w : World) (hn : ns.length ≤ 1048576) (ht : NodesAt w tg ns) :
    Calls Tryd.prog 28 #[.agg #[.slice (some ⟨tg, 0, none⟩) ns.length tc]] w fun e w' => ∃ g c, e = .returned (.slice (some ⟨g, 0, none⟩) (Tr.localsI ns).length c) ∧ w.heap.size ≤ g ∧ w'.ownsRow 0 3 1 (.slice (some ⟨g, 0, none⟩) (Tr.localsI ns).length c) (Tr.localsI ns).length ((Tr.localsI ns).map vi) ∧ Below w.heap.size w w' := by
  refine (locals_any ns tg tc w hn ht).mono ?_
  rintro e w' ⟨g, c, rfl, h1, h2, h3⟩
  have hl : (Tr.localsI ns).length = (Tr.localsOf ns).length := by unfold Tr.localsI; rw [List.length_map]
  have hm : (Tr.localsI ns).map vi = (Tr.localsOf ns).map vint := by unfold Tr.localsI; rw [List.map_map]; rfl
  exact ⟨g, c, by rw [hl], h1, by rw [hl, hm]; exact row_mono h2 (Nat.zero_le _), h3⟩
end Go.Proofs.YthjilpnipidababDoor
