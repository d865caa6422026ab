/- Walks: Binds and Locals, on the specification's side. -/
import Derived.Test.YthjilpnipidababDoorKh
namespace Go.Proofs.YthjilpnipidababDoor
open Go.RowKit

def Tr.fitsOf (ns : List Tr.Nd) : Bool := (Tr.checkOf ns).1 == 0
theorem Tr.fits_valid {ns : List Tr.Nd} (h : Tr.fitsOf ns = true) : Tr.valid ns = true := by
  unfold Tr.fitsOf Tr.checkOf at h
  cases hv : Tr.valid ns
  · rw [hv] at h; simp at h
  · rfl
def Tr.bindsOf (ns : List Tr.Nd) : List Int := if Tr.fitsOf ns = true then (Tr.lookS ns (Tr.kids ns)).binds else []
def Tr.isLocal (k : Int) : Bool := k == 14 || k == 16
def Tr.localsGo : List Tr.Nd → Nat → List Nat
  | [], _ => []
  | d :: r, i => (if Tr.isLocal d.kind = true then [i] else []) ++ Tr.localsGo r (i + 1)
def Tr.localsOf (ns : List Tr.Nd) : List Nat := if Tr.fitsOf ns = true then Tr.localsGo ns 0 else []
theorem Tr.localsGo_at (ns : List Tr.Nd) (i : Nat) (h : i < ns.length) : Tr.localsGo (ns.drop i) i = (if Tr.isLocal ns[i].kind = true then [i] else []) ++ Tr.localsGo (ns.drop (i + 1)) (i + 1) := by
  rw [List.drop_eq_getElem_cons h]; rfl
/-- Numbers lie in a block. -/
def NumsAt (w : World) (g : Nat) (l : List Int) : Prop := g < w.heap.size ∧ ∀ j (h : j < l.length), w.cell? ⟨g, j, none⟩ = some (.int .i64 l[j])

set_option maxRecDepth 100000 in
set_option maxHeartbeats 2000000 in
theorem binds_any (ns : List Tr.Nd) (tg tc : Nat) (w : World) (hn : ns.length ≤ 1048576) (ht : NodesAt w tg ns) :
    Calls Tryd.prog 19 #[.agg #[.slice (some ⟨tg, 0, none⟩) ns.length tc]] w fun e w' => ∃ g, e = .returned (.slice (some ⟨g, 0, none⟩) (Tr.bindsOf ns).length (Tr.bindsOf ns).length) ∧ w.heap.size ≤ g ∧ w'.ownsRow 0 3 1 (.slice (some ⟨g, 0, none⟩) (Tr.bindsOf ns).length (Tr.bindsOf ns).length) (Tr.bindsOf ns).length ((Tr.bindsOf ns).map vi) ∧ Below w.heap.size w w' := by
  have r1 : Below w.heap.size w (w.alloc (.cells #[.slice (some ⟨tg, 0, none⟩) ns.length tc] 38)) := (Below.refl _ _).alloc (Nat.le_refl _) _
  have HFT := hide (fits_any ns tg tc _ hn (ht.below r1))
  have HT := hide ht
  clear ht
  cases hf : Tr.fitsOf ns
  · have HFT2 := HFT.out
    rw [show ((Tr.checkOf ns).1 == 0) = false from hf] at HFT2
    replace HFT2 := hide HFT2
    have HB : Hid (Tr.bindsOf ns = []) := hide (by unfold Tr.bindsOf; rw [hf]; rfl)
    go_enter Tryd.func19, Tryd.ntmps19
    go_wp2_with fail
    refine HFT2.out.mono ?_
    rintro e w1 ⟨rfl, hb1⟩
    have hB1 := r1.trans (hb1.mono (by simp))
    go_wp2
    go_ret
    refine ⟨w1.heap.size, by rw [HB.out]; rfl, hB1.size, ?_, hB1.alloc hB1.size _⟩
    rw [HB.out]
    exact World.ownsRow_lit (base := 0) (e := 3) (size := 1) w1 #[] 0 (Nat.zero_le _) (Nat.zero_le _) rfl
  · obtain ⟨hn1, hn5, hgood, hlen⟩ := Tr.valid_facts (Tr.fits_valid hf)
    have HFT2 := HFT.out
    rw [show ((Tr.checkOf ns).1 == 0) = true from hf] at HFT2
    replace HFT2 := hide HFT2
    have HB : Hid (Tr.bindsOf ns = (Tr.lookS ns (Tr.kids ns)).binds) := hide (by unfold Tr.bindsOf; rw [hf]; rfl)
    have HLK := hide (fun w' (hb : Below w.heap.size w w') => look_any ns tg tc w' hn1 hn5 hgood hlen (HT.out.below hb))
    clear hlen HFT
    go_enter Tryd.func19, Tryd.ntmps19
    go_wp2_with fail
    refine HFT2.out.mono ?_
    rintro e w1 ⟨rfl, hb1⟩
    have hB1 := r1.trans (hb1.mono (by simp))
    have b0 : w1.cell? ⟨w.heap.size, 0, none⟩ = some (.slice (some ⟨tg, 0, none⟩) ns.length tc) := (hb1.cell (p := ⟨w.heap.size, 0, none⟩) (by simp)).trans (by simp)
    clear hb1
    go_wp2_with fail
    refine (HLK.out _ hB1).mono ?_
    rintro e w2 ⟨wb, kg, kc, cg, bg, rfl, hF, hD, hcg, hbg, hb2⟩
    have hF3 := hF.f3
    have hbl := hD.lens.2
    have hB2 := hB1.trans (hb2.mono hB1.size)
    have HDD := hide hD
    have hz := hB1.size
    clear hb2 hF hD HLK b0
    go_wp2
    go_ret
    refine ⟨bg, ?_, by omega, ?_, hB2⟩
    · rw [HB.out, hbl]; rfl
    · rw [HB.out, hbl]; exact HDD.out.b

set_option maxRecDepth 100000 in
set_option maxHeartbeats 2000000 in
theorem locals_any (ns : List Tr.Nd) (tg tc : Nat) (w : World) (hn : ns.length ≤ 1048576) (ht : NodesAt w tg ns) :
    Calls Tryd.prog 28 #[.agg #[.slice (some ⟨tg, 0, none⟩) ns.length tc]] w fun e w' => ∃ g c, e = .returned (.slice (some ⟨g, 0, none⟩) (Tr.localsOf ns).length c) ∧ w.heap.size ≤ g ∧ w'.ownsRow w.heap.size 3 1 (.slice (some ⟨g, 0, none⟩) (Tr.localsOf ns).length c) (Tr.localsOf ns).length ((Tr.localsOf ns).map vint) ∧ Below w.heap.size w w' := by
  obtain ⟨iI, hI, hIz, hIs, hIb⟩ := info_parts Tryd.infoInt
  have r2 : Below w.heap.size w ((w.alloc (.cells #[.slice (some ⟨tg, 0, none⟩) ns.length tc] 38)).alloc (.cells #[] 3)) := ((Below.refl _ _).alloc (Nat.le_refl _) _).alloc (by simp) _
  have hrow0 : ((w.alloc (.cells #[.slice (some ⟨tg, 0, none⟩) ns.length tc] 38)).alloc (.cells #[] 3)).ownsRow (w.heap.size + 1) 3 1 (.slice (some ⟨w.heap.size + 1, 0, none⟩) 0 0) 0 [] := by
    have := World.ownsRow_lit (base := w.heap.size + 1) (e := 3) (size := 1) (w.alloc (.cells #[.slice (some ⟨tg, 0, none⟩) ns.length tc] 38)) #[] 0 (by simp) (Nat.zero_le _) rfl
    rwa [World.size_alloc] at this
  have bx : ((w.alloc (.cells #[.slice (some ⟨tg, 0, none⟩) ns.length tc] 38)).alloc (.cells #[] 3)).cell? ⟨w.heap.size, 0, none⟩ = some (.slice (some ⟨tg, 0, none⟩) ns.length tc) := by
    have h1 := (below_al (w.alloc (.cells #[.slice (some ⟨tg, 0, none⟩) ns.length tc] 38)) (.cells #[] 3)).cell (p := ⟨w.heap.size, 0, none⟩) (by simp)
    rw [h1]; simp
  have HFT := hide (fits_any ns tg tc _ hn (ht.below r2))
  have HT := hide ht
  clear ht
  cases hf : Tr.fitsOf ns
  · have HFT2 := HFT.out
    rw [show ((Tr.checkOf ns).1 == 0) = false from hf] at HFT2
    replace HFT2 := hide HFT2
    have HB : Hid (Tr.localsOf ns = []) := hide (by unfold Tr.localsOf; rw [hf]; rfl)
    go_enter Tryd.func28, Tryd.ntmps28
    go_wp2_with fail
    refine HFT2.out.mono ?_
    rintro e w1 ⟨rfl, hb1⟩
    have hB1 := r2.trans (hb1.mono r2.size)
    go_wp2
    go_ret
    refine ⟨w.heap.size + 1, 0, by rw [HB.out]; rfl, by omega, ?_, hB1⟩
    rw [HB.out]
    exact row_mono (row_same hrow0 (hb1.block _ (by simp))) (by omega)
  · have HFT2 := HFT.out
    rw [show ((Tr.checkOf ns).1 == 0) = true from hf] at HFT2
    replace HFT2 := hide HFT2
    have HB : Hid (Tr.localsOf ns = Tr.localsGo ns 0) := hide (by unfold Tr.localsOf; rw [hf]; rfl)
    go_enter Tryd.func28, Tryd.ntmps28
    go_wp2_with fail
    refine HFT2.out.mono ?_
    rintro e w1 ⟨rfl, hb1⟩
    have hB1 := r2.trans (hb1.mono r2.size)
    have hrow1 := row_same hrow0 (hb1.block (w.heap.size + 1) (by simp))
    have bx1 := (hb1.cell (p := ⟨w.heap.size, 0, none⟩) (by simp; omega)).trans bx
    have HR1 := hide hrow1
    have hz1 : w.heap.size + 1 + 1 ≤ w1.heap.size := by have := hb1.size; simpa using this
    clear hb1 hrow0 hrow1 bx
    go_wp2
    go_loopw [3, 4] (fun v3 t wr => ∃ (i g c : Nat) (out : List Nat), i ≤ ns.length ∧ t = .int .i64 i ∧ v3 = .slice (some ⟨g, 0, none⟩) out.length c ∧ w.heap.size < g ∧ out.length ≤ i ∧ wr.ownsRow (w.heap.size + 1) 3 1 (.slice (some ⟨g, 0, none⟩) out.length c) out.length (out.map vint) ∧ Below w.heap.size w wr ∧ w.heap.size < wr.heap.size ∧ wr.cell? ⟨w.heap.size, 0, none⟩ = some (.slice (some ⟨tg, 0, none⟩) ns.length tc) ∧ Tr.localsGo ns 0 = out ++ Tr.localsGo (ns.drop i) i) (fun _ t _ => ns.length - (intOf t).toNat)
    case atStart => exact ⟨0, w.heap.size + 1, 0, [], Nat.zero_le _, rfl, rfl, by omega, Nat.le_refl _, HR1.out, hB1, by omega, bx1, rfl⟩
    case round =>
      obtain ⟨i, g, c, out, hi, rfl, rfl, hg, hol, ho, hB, hzr, bxr, he⟩ := hrel
      have HO := hide ho
      have HE := hide he
      clear ho he
      by_cases hlt : i < ns.length
      · obtain ⟨n0, _⟩ := (HT.out.below hB).2 i hlt
        have HS := hide (Tr.localsGo_at ns i hlt)
        generalize ns[i].kind = kd at *
        by_cases hk : kd = 14 ∨ kd = 16
        · have HS2 : Hid (Tr.localsGo ns 0 = (out ++ [i]) ++ Tr.localsGo (ns.drop (i + 1)) (i + 1)) := hide (by rw [HE.out, HS.out, if_pos (by rcases hk with rfl | rfl <;> rfl)]; simp)
          rcases hk with rfl | rfl
          all_goals
            go_wp2_with (at_builtin; refine wpList_append_own_at _ rfl _ _ 42 rfl (w.heap.size + 1) 3 iI (.int .i64 0) 1 8 Tryd.underlying42 hI hIz hIs hIb rfl (by decide) (.slice (some ⟨g, 0, none⟩) out.length c) out.length (out.map vint) rfl (HO.out.alloc _) ⟨wr.heap.size, 0, none⟩ 1 1 [.int .i64 i] rfl rfl (cell_one _ _ _) (by simp [Value.oneCell']) (by unfold maxLen; omega) (by omega) (by simp; omega) ?_)
            intro v2 w2 hown2 hgrow2 hnil2 hat2
            obtain ⟨g2, c2, rfl, hg2⟩ := lies_formS hown2 hnil2 (by simpa [Value.ownBlock] using hat2)
            have hB2 : Below w.heap.size w w2 := (hB.alloc hB.size _).grown hgrow2 (by have := hB.size; simp; omega) (fun q e => by simp [Value.ownBlock] at e; omega)
            have bx2 := (World.cell?_of_block (a := ⟨w.heap.size, 0, none⟩) (grown_block hgrow2 w.heap.size hzr (by simp [Value.ownBlock]; omega))).trans bxr
            have hz2 : w.heap.size < w2.heap.size := Nat.lt_of_lt_of_le (by simp; omega) hgrow2.size
            have hg2' : w.heap.size < g2 := by rcases hg2 with h | h <;> omega
            clear hgrow2 hnil2 hat2
            go_wp2
            go_roundw
            case rel =>
              refine ⟨i + 1, g2, c2, out ++ [i], by omega, by go_num, by simp, hg2', by simp; omega, ?_, hB2, hz2, bx2, HS2.out⟩
              rw [List.map_append, List.length_append]; exact hown2
            case measure => simp [intOf]; omega
        · have HS2 : Hid (Tr.localsGo ns 0 = out ++ Tr.localsGo (ns.drop (i + 1)) (i + 1)) := hide (by rw [HE.out, HS.out, if_neg (by simp [Tr.isLocal]; omega)]; rfl)
          have q14 : (kd == 14) = false := by simp; omega
          have q16 : (kd == 16) = false := by simp; omega
          go_wp2
          go_roundw
          case rel => exact ⟨i + 1, g, c, out, by omega, by go_num, rfl, hg, by omega, HO.out, hB, hzr, bxr, HS2.out⟩
          case measure => simp [intOf]; omega
      · go_wp2
        go_ret
        have e : Tr.localsOf ns = out := by rw [HB.out, HE.out, List.drop_of_length_le (by omega)]; simp [Tr.localsGo]
        rw [e]
        exact ⟨g, c, rfl, by omega, row_mono HO.out (by omega), hB⟩
end Go.Proofs.YthjilpnipidababDoor
