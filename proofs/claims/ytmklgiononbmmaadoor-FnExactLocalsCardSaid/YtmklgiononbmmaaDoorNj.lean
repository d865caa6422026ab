/- What fits, on the program's side: the built names; a tree is gone through. -/
import Derived.Test.YtmklgiononbmmaaDoorNh
import Derived.Test.YtmklgiononbmmaaDoorNi
namespace Go.Proofs.YtmklgiononbmmaaDoor
open Go.RowKit

/-- The built names lie in their variable. -/
def builtBA : List ByteArray := [[108, 101, 110], [116, 101, 120, 116], [105, 110, 116], [114, 97, 110, 103, 101], [115, 111, 114, 116, 101, 100], [117, 110, 105, 113, 117, 101], [106, 111, 105, 110], [115, 112, 108, 105, 116], [107, 101, 121, 115], [114, 101, 99, 111, 114, 100], [119, 105, 116, 104, 111, 117, 116], [98, 101, 103, 105, 110, 115], [99, 117, 116], [102, 105, 108, 101, 115], [102, 97, 105, 108]].map fun l => ⟨l.toArray⟩
def GlobB (w : World) : Prop := 0 < w.heap.size ∧ ∀ j (h : j < builtBA.length), w.cell? ⟨0, j, none⟩ = some (.string builtBA[j])
theorem GlobB.below {w w' : World} (h : GlobB w) (hb : Below w.heap.size w w') : GlobB w' := ⟨Nat.lt_of_lt_of_le h.1 hb.size, fun j hj => (hb.cell (p := ⟨0, j, none⟩) h.1).trans (h.2 j hj)⟩
def builtSc (j : Nat) : Tr.Sp := ((builtBA.take j).map fun x => (x, (-2 : Int))).reverse
theorem builtSc_end : builtSc 15 = Tr.builtSp := rfl
theorem builtSc_len (j : Nat) : (builtSc j).length ≤ 15 := by
  unfold builtSc
  rw [List.length_reverse, List.length_map, List.length_take]
  exact Nat.min_le_right _ _
theorem builtSc_at (j : Nat) (h : j < builtBA.length) : builtSc (j + 1) = (builtBA[j], -2) :: builtSc j := by
  unfold builtSc
  rw [List.take_succ_eq_append_getElem h, List.map_append, List.reverse_append]; rfl

theorem idx_arr (cs : Array Value) (j : Nat) (x : ByteArray) (W : World) (hj : j < 15) (h : cs[j]? = some (.string x)) : (Instr.index 119 (.agg cs) (.int .i64 j)).run Tryd.prog W = .ok (.string x) W := by
  simp [Instr.index, part, asIntOf, run_underlying Tryd.underlying119, h, Result.andThen]
  omega

set_option maxRecDepth 100000 in
set_option maxHeartbeats 1000000 in
theorem builtScope_any (cg bg : Nat) (w : World) (hG : GlobB w) (h1 : cg < w.heap.size) (h2 : bg < w.heap.size) :
    Calls Tryd.prog 60 #[] w fun e w' => e = .returned (.pointer (some ⟨w.heap.size + 1, 0, none⟩)) ∧ Below w.heap.size w w' ∧ Chain cg bg w' w'.heap.size (some ⟨w.heap.size + 1, 0, none⟩) [Tr.builtSp] := by
  have hmm := @run_makeMap Tryd.prog
  obtain ⟨n0, n1, n2, n3, n4⟩ := sc_new w none
  have HGX := hide (hG.below n3)
  have e0 := HGX.out.2 0 (by decide)
  have e1 := HGX.out.2 1 (by decide)
  have e2 := HGX.out.2 2 (by decide)
  have e3 := HGX.out.2 3 (by decide)
  have e4 := HGX.out.2 4 (by decide)
  have e5 := HGX.out.2 5 (by decide)
  have e6 := HGX.out.2 6 (by decide)
  have e7 := HGX.out.2 7 (by decide)
  have e8 := HGX.out.2 8 (by decide)
  have e9 := HGX.out.2 9 (by decide)
  have e10 := HGX.out.2 10 (by decide)
  have e11 := HGX.out.2 11 (by decide)
  have e12 := HGX.out.2 12 (by decide)
  have e13 := HGX.out.2 13 (by decide)
  have e14 := HGX.out.2 14 (by decide)
  have HN0 := hide n0
  have HN1 := hide n1
  have HN2 := hide n2
  have HN3 := hide n3
  have HN4 := hide n4
  clear hG n0 n1 n2 n3 n4
  go_enter Tryd.func60, Tryd.ntmps60
  go_wp2
  generalize hcs : (#[Value.string builtBA[0], Value.string builtBA[1], Value.string builtBA[2], Value.string builtBA[3], Value.string builtBA[4], Value.string builtBA[5], Value.string builtBA[6], Value.string builtBA[7], Value.string builtBA[8], Value.string builtBA[9], Value.string builtBA[10], Value.string builtBA[11], Value.string builtBA[12], Value.string builtBA[13], Value.string builtBA[14]] : Array Value) = cs at *
  have hcz : cs.size = 15 := by rw [← hcs]; rfl
  have HCS : Hid (∀ j (h : j < builtBA.length), cs[j]? = some (.string builtBA[j])) := hide (by
    intro j h
    rw [← hcs]
    match j, h with
    | 0, _ => rfl
    | 1, _ => rfl
    | 2, _ => rfl
    | 3, _ => rfl
    | 4, _ => rfl
    | 5, _ => rfl
    | 6, _ => rfl
    | 7, _ => rfl
    | 8, _ => rfl
    | 9, _ => rfl
    | 10, _ => rfl
    | 11, _ => rfl
    | 12, _ => rfl
    | 13, _ => rfl
    | 14, _ => rfl
    | n + 15, h => exact absurd h (by rw [show builtBA.length = 15 from rfl]; omega))
  clear hcs e0 e1 e2 e3 e4 e5 e6 e7 e8 e9 e10 e11 e12 e13 e14
  go_loopw [8] (fun t wr => ∃ j : Nat, j ≤ 15 ∧ t = .int .i64 j ∧ Below w.heap.size w wr ∧ w.heap.size + 1 < wr.heap.size ∧ wr.cell? ⟨w.heap.size + 1, 0, none⟩ = some (.map (some w.heap.size)) ∧ wr.cell? ⟨w.heap.size + 1, 1, none⟩ = some (.pointer none) ∧ SpAt wr w.heap.size (builtSc j)) (fun t _ => 15 - (intOf t).toNat)
  case atStart => exact ⟨0, Nat.zero_le _, rfl, HN3.out, by rw [HN4.out]; omega, HN0.out, HN1.out, HN2.out⟩
  case round =>
    obtain ⟨j, hj, rfl, hB, hz, c0, c1, hsp⟩ := hrel
    by_cases hlt : j < 15
    · have hcj := HCS.out j hlt
      have HS := hide (builtSc_at j hlt)
      have hxs : builtBA[j].size ≤ 1048576 := by
        have : ∀ x ∈ builtBA, x.size ≤ 1048576 := by decide
        exact this _ (List.getElem_mem hlt)
      generalize builtBA[j] = x at *
      have hix := idx_arr cs j x wr hlt hcj
      have hbl := builtSc_len j
      obtain ⟨D, hown, hDD⟩ := hsp
      have HO := hide hown
      have HDD := hide hDD
      have HC1 := hide c1
      have HY : Hid (keyOf Tryd.prog 9 (.string x) = some (.string x.data.toList)) := hide (WideMaps.keyOf_string_mk Tryd.underlying9 (by unfold maxLen; omega))
      have HPE : Hid (plainElem (H := Unit) Tryd.prog 3 (.int .i64 (-2)) = some (.lit (.int .i64 (-2)), [])) := hide (plainElem_int Tryd.underlying3 (by decide))
      clear hown hDD c1
      go_wp2_with (at_mapUpdate; refine wpList_mapUpdate_own _ rfl _ _ _ 116 rfl 9 3 lawT Tryd.underlying116 _ w.heap.size _ D rfl HO.out (by unfold maxLen; omega) _ _ _ rfl rfl HY.out _ [] HPE.out ?_)
      intro w1 hown1 hgrow1
      have HSP : Hid (SpAt w1 w.heap.size (builtSc (j + 1))) := hide (by rw [HS.out]; exact SpAt.put HDD.out HO.out.isMap hown1)
      have c0' : w1.cell? ⟨w.heap.size + 1, 0, none⟩ = some (.map (some w.heap.size)) := (World.cell?_of_block (hgrow1.block (w.heap.size + 1) hz (by simp))).trans c0
      have HC1' : Hid (w1.cell? ⟨w.heap.size + 1, 1, none⟩ = some (.pointer none)) := hide ((World.cell?_of_block (hgrow1.block (w.heap.size + 1) hz (by simp))).trans HC1.out)
      have hB1 : Below w.heap.size w w1 := hB.grown hgrow1 (by omega) (fun k e => by cases e; exact Nat.le_refl _)
      have hz1 := Nat.lt_of_lt_of_le hz hgrow1.size
      clear hown1 hgrow1
      go_wp2
      go_roundw
      case rel => exact ⟨j + 1, by omega, by go_num, hB1, hz1, c0', HC1'.out, HSP.out⟩
      case measure => simp [intOf]; omega
    · obtain rfl : j = 15 := by omega
      go_wp2
      go_ret
      exact ⟨rfl, hB, ⟨w.heap.size + 1, w.heap.size, none, rfl, hz, Nat.lt_succ_self _, by omega, by omega, by omega, by omega, c0, c1, by rw [← builtSc_end]; exact hsp, rfl⟩⟩
end Go.Proofs.YtmklgiononbmmaaDoor
