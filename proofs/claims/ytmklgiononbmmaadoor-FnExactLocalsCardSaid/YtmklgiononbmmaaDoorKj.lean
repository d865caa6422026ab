/- Walks: Binds and Locals, on the specification's side. -/
import Derived.Test.YtmklgiononbmmaaDoorKh
namespace Go.Proofs.YtmklgiononbmmaaDoor
open Go.RowKit

def Tr.fitsOf (ns : List Tr.Nd) : Bool := (Tr.checkOf ns).1 == 0
theorem Tr.fits_valid {ns : List Tr.Nd} (h : Tr.fitsOf ns = true) : Tr.valid ns = true := by
  unfold Tr.fitsOf Tr.checkOf at h
  cases hv : Tr.valid ns
  · rw [hv] at h; simp at h
  · rfl
def Tr.bindsOf (ns : List Tr.Nd) : List Int := if Tr.fitsOf ns = true then (Tr.lookS ns (Tr.kids ns)).binds else []
def Tr.isLocal (k : Int) : Bool := k == 14 || k == 16
def Tr.localsGo : List Tr.Nd → Nat → List Nat
  | [], _ => []
  | d :: r, i => (if Tr.isLocal d.kind = true then [i] else []) ++ Tr.localsGo r (i + 1)
def Tr.localsOf (ns : List Tr.Nd) : List Nat := if Tr.fitsOf ns = true then Tr.localsGo ns 0 else []
theorem Tr.localsGo_at (ns : List Tr.Nd) (i : Nat) (h : i < ns.length) : Tr.localsGo (ns.drop i) i = (if Tr.isLocal ns[i].kind = true then [i] else []) ++ Tr.localsGo (ns.drop (i + 1)) (i + 1) := by
  rw [List.drop_eq_getElem_cons h]; rfl
/-- Numbers lie in a block. -/
def NumsAt (w : World) (g : Nat) (l : List Int) : Prop := g < w.heap.size ∧ ∀ j (h : j < l.length), w.cell? ⟨g, j, none⟩ = some (.int .i64 l[j])

set_option maxRecDepth 100000 in
set_option maxHeartbeats 2000000 in
theorem binds_any (ns : List Tr.Nd) (tg tc : Nat) (w : World) (hn : ns.length ≤ 1048576) (ht : NodesAt w tg ns) :
    Calls Tryd.prog 13 #[.agg #[.slice (some ⟨tg, 0, none⟩) ns.length tc]] w fun e w' => ∃ g, e = .returned (.slice (some ⟨g, 0, none⟩) (Tr.bindsOf ns).length (Tr.bindsOf ns).length) ∧ w.heap.size ≤ g ∧ w'.ownsRow 0 3 1 (.slice (some ⟨g, 0, none⟩) (Tr.bindsOf ns).length (Tr.bindsOf ns).length) (Tr.bindsOf ns).length ((Tr.bindsOf ns).map vi) ∧ Below w.heap.size w w' := by
  have r1 : Below w.heap.size w (w.alloc (.cells #[.slice (some ⟨tg, 0, none⟩) ns.length tc] 31)) := (Below.refl _ _).alloc (Nat.le_refl _) _
  have HFT := hide (fits_any ns tg tc _ hn (ht.below r1))
  have HT := hide ht
  clear ht
  cases hf : Tr.fitsOf ns
  · have HFT2 := HFT.out
    rw [show ((Tr.checkOf ns).1 == 0) = false from hf] at HFT2
    replace HFT2 := hide HFT2
    have HB : Hid (Tr.bindsOf ns = []) := hide (by unfold Tr.bindsOf; rw [hf]; rfl)
    go_enter Tryd.func13, Tryd.ntmps13
    go_wp2_with fail
    refine HFT2.out.mono ?_
    rintro e w1 ⟨rfl, hb1⟩
    have hB1 := r1.trans (hb1.mono (by simp))
    go_wp2
    go_ret
    refine ⟨w1.heap.size, by rw [HB.out]; rfl, hB1.size, ?_, hB1.alloc hB1.size _⟩
    rw [HB.out]
    exact World.ownsRow_lit (base := 0) (e := 3) (size := 1) w1 #[] 0 (Nat.zero_le _) (Nat.zero_le _) rfl
  · obtain ⟨hn1, hn5, hgood, hlen⟩ := Tr.valid_facts (Tr.fits_valid hf)
    have HFT2 := HFT.out
    rw [show ((Tr.checkOf ns).1 == 0) = true from hf] at HFT2
    replace HFT2 := hide HFT2
    have HB : Hid (Tr.bindsOf ns = (Tr.lookS ns (Tr.kids ns)).binds) := hide (by unfold Tr.bindsOf; rw [hf]; rfl)
    have HLK := hide (fun w' (hb : Below w.heap.size w w') => look_any ns tg tc w' hn1 hn5 hgood hlen (HT.out.below hb))
    clear hlen HFT
    go_enter Tryd.func13, Tryd.ntmps13
    go_wp2_with fail
    refine HFT2.out.mono ?_
    rintro e w1 ⟨rfl, hb1⟩
    have hB1 := r1.trans (hb1.mono (by simp))
    have b0 : w1.cell? ⟨w.heap.size, 0, none⟩ = some (.slice (some ⟨tg, 0, none⟩) ns.length tc) := (hb1.cell (p := ⟨w.heap.size, 0, none⟩) (by simp)).trans (by simp)
    clear hb1
    go_wp2_with fail
    refine (HLK.out _ hB1).mono ?_
    rintro e w2 ⟨wb, kg, kc, cg, bg, rfl, hF, hD, hcg, hbg, hb2⟩
    have hF3 := hF.f3
    have hbl := hD.lens.2
    have hB2 := hB1.trans (hb2.mono hB1.size)
    have HDD := hide hD
    have hz := hB1.size
    clear hb2 hF hD HLK b0
    go_wp2
    go_ret
    refine ⟨bg, ?_, by omega, ?_, hB2⟩
    · rw [HB.out, hbl]; rfl
    · rw [HB.out, hbl]; exact HDD.out.b

end Go.Proofs.YtmklgiononbmmaaDoor
