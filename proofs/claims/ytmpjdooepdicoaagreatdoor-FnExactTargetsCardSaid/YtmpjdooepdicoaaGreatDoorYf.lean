/- Targets, the specification's side: texts put in order. -/
import Derived.Test.YtmpjdooepdicoaaGreatDoorYe
namespace Go.Proofs.YtmpjdooepdicoaaGreatDoor.Vl
open Go.RowKit T.atoms T.ok T.high T.good T.allPlain

/-- A row of texts of one's own, grown by one. -/
theorem strs_grow {w W w' : World} {p : Option Addr} {cc : Nat} {acc : List ByteArray} {s : ByteArray} {v' : Value} {o : Obj} (hB : Below w.heap.size w W) (hown : W.ownsRow w.heap.size 9 1 (.slice p acc.length cc) acc.length (cellsT acc)) (hz : w.heap.size ≤ W.heap.size)
    (h1 : w'.ownsRow w.heap.size 9 1 v' (acc.length + 1) (cellsT acc ++ [.string s])) (h2 : (W.alloc o).grownBy w' (Value.slice p acc.length cc).ownBlock) :
    Below w.heap.size w w' ∧ ∃ p' c', v' = .slice p' (acc ++ [s]).length c' ∧ w'.ownsRow w.heap.size 9 1 (.slice p' (acc ++ [s]).length c') (acc ++ [s]).length (cellsT (acc ++ [s])) := by
  have hb : Below w.heap.size w (W.alloc o) := hB.alloc hz _
  refine ⟨hb.grown h2 hb.size (fun k hk => ?_), ?_⟩
  · rcases hown.2 with ⟨e, _⟩ | ⟨g, c, _, e, _⟩
    · rw [e] at hk; cases hk
    · have hlt := (hown.lt k hk).1
      exact hlt
  · obtain ⟨p', c', rfl⟩ := row_form h1
    have hl : (acc ++ [s]).length = acc.length + 1 := by simp
    rw [show cellsT acc ++ [Value.string s] = cellsT (acc ++ [s]) from by simp [cellsT]] at h1
    exact ⟨p', c', by rw [hl], by rw [hl]; exact h1⟩
theorem putGo_at (s : ByteArray) (l : List ByteArray) (i : Nat) (d : Bool) (h : i < l.length) : putGo s (l.drop i) d = (if !d && geS l[i] s then [s] else []) ++ ((if l[i] = s then [] else [l[i]]) ++ putGo s (l.drop (i + 1)) (d || geS l[i] s)) := by
  rw [List.drop_eq_getElem_cons h, putGo]
set_option maxRecDepth 100000 in
set_option maxHeartbeats 4000000 in
theorem put7_some (l : List ByteArray) (s : ByteArray) (g o c : Nat) (w : World) (hl : l.length ≤ 1099511627776) (hc : StrsO w g o l) :
    Calls Tryz.prog 38 #[.slice (some ⟨g, o, none⟩) l.length c, .string s] w fun e w' => Below w.heap.size w w' ∧ ∃ p cc, e = .returned (.slice p (putS s l).length cc) ∧ w'.ownsRow w.heap.size 9 1 (.slice p (putS s l).length cc) (putS s l).length (cellsT (putS s l)) := by
  obtain ⟨iS, hS, hSz, hSs, hSb⟩ := info_parts Tryz.infoStr
  have HC := hide hc
  clear hc
  have hpl := putS_len s l
  have R0 := hide (World.ownsRow_lit (base := w.heap.size) (e := 9) (size := 1) w #[] 0 (Nat.le_refl _) (Nat.zero_le _) rfl)
  have B0 : Below w.heap.size w (w.alloc (.cells #[] 9)) := (Below.refl _ _).alloc (Nat.le_refl _) _
  have HPS : Hid (putGo s l false = putS s l) := hide rfl
  generalize putS s l = r at *
  go_enter Tryz.func38, Tryz.ntmps38
  go_wp2
  go_loopw [5, 6, 7] (fun u v q wr => ∃ (i : Nat) (p : Option Addr) (cc : Nat) (acc : List ByteArray) (d : Bool), i ≤ l.length ∧ u = .slice p acc.length cc ∧ v = .bool d ∧ q = .int .i64 i ∧ wr.ownsRow w.heap.size 9 1 (.slice p acc.length cc) acc.length (cellsT acc) ∧ Below w.heap.size w wr ∧ acc ++ putGo s (l.drop i) d = r) (fun _ _ q _ => l.length - (intOf q).toNat)
  case atStart => exact ⟨0, _, _, [], false, Nat.zero_le _, rfl, rfl, rfl, R0.out, B0, HPS.out⟩
  case round =>
    obtain ⟨i, p, cc, acc, d, hi, rfl, rfl, rfl, hrow, hB, hacc⟩ := hrel
    have HRwr := hide hrow
    have HBwr := hide hB
    have hzwr := hB.size
    have HAC := hide hacc
    have hal : acc.length ≤ 1099511627777 := by have h := congrArg List.length hacc; rw [List.length_append] at h; omega
    clear hrow hB hacc
    by_cases hlt : i < l.length
    · have HCX := hide (fun W (hb : Below w.heap.size w W) => (hb.cell (p := ⟨g, o + i, none⟩) HC.out.1).trans (HC.out.2 i hlt))
      have hx := HCX.out _ HBwr.out
      have HPA := hide (putGo_at s l i d hlt)
      have hbe := ba_eq l[i] s
      have HGE : Hid (geS l[i] s = !Go.Op.bytesLess l[i].toList s.toList) := hide rfl
      generalize l[i] = x at *
      cases d
      · cases hls : Go.Op.bytesLess x.toList s.toList
        · rw [hls] at HGE
          have hgt : geS x s = true := HGE.out
          by_cases hxs : x = s
          · rw [decide_eq_true hxs] at hbe
            have HF : Hid ((acc ++ [s]) ++ putGo s (l.drop (i + 1)) true = r) := hide (by rw [← HAC.out, HPA.out, hgt, if_pos hxs]; simp)
            have hnx : (x.toList != s.toList) = false := by rw [bne, hbe]; rfl
            clear hgt HGE HPA hxs
            go_wp2_with (at_builtin; refine wpList_append_own_at _ rfl _ _ 41 rfl w.heap.size 9 iS _ 1 16 Tryz.underlying41 hS hSz hSs hSb rfl (by decide) (.slice p (acc).length cc) (acc).length (cellsT (acc)) rfl (HRwr.out.alloc _) ⟨wr.heap.size, 0, none⟩ 1 1 [.string s] rfl rfl (cell_one _ _ _) (by simp [Value.oneCell']) (by unfold maxLen; omega) (by omega) (by simp; omega) ?_)
            intro v2 w2 ho2 hg2 _ _
            skip
            obtain ⟨hB2, p2, c2, rfl, hr2⟩ := strs_grow HBwr.out HRwr.out hzwr ho2 hg2
            have HBw2 := hide hB2
            have HRw2 := hide hr2
            have hzw2 := hB2.size
            clear ho2 hg2 hB2 hr2
            have hx2 := HCX.out _ HBw2.out
            go_wp2
            go_roundw
            case rel => exact ⟨i + 1, p2, c2, acc ++ [s], true, by omega, rfl, rfl, by go_num, HRw2.out, HBw2.out, HF.out⟩
            case measure => simp [intOf]; omega
          · rw [decide_eq_false hxs] at hbe
            have HF : Hid ((acc ++ [s] ++ [x]) ++ putGo s (l.drop (i + 1)) true = r) := hide (by rw [← HAC.out, HPA.out, hgt, if_neg hxs]; simp)
            have hnx : (x.toList != s.toList) = true := by rw [bne, hbe]; rfl
            clear hgt HGE HPA hxs
            go_wp2_with (at_builtin; refine wpList_append_own_at _ rfl _ _ 41 rfl w.heap.size 9 iS _ 1 16 Tryz.underlying41 hS hSz hSs hSb rfl (by decide) (.slice p (acc).length cc) (acc).length (cellsT (acc)) rfl (HRwr.out.alloc _) ⟨wr.heap.size, 0, none⟩ 1 1 [.string s] rfl rfl (cell_one _ _ _) (by simp [Value.oneCell']) (by unfold maxLen; omega) (by omega) (by simp; omega) ?_)
            intro v2 w2 ho2 hg2 _ _
            skip
            obtain ⟨hB2, p2, c2, rfl, hr2⟩ := strs_grow HBwr.out HRwr.out hzwr ho2 hg2
            have HBw2 := hide hB2
            have HRw2 := hide hr2
            have hzw2 := hB2.size
            clear ho2 hg2 hB2 hr2
            have hx2 := HCX.out _ HBw2.out
            have hal2 : (acc ++ [s]).length ≤ 1099511627778 := by rw [List.length_append]; simp; omega
            go_wp2_with (at_builtin; refine wpList_append_own_at _ rfl _ _ 41 rfl w.heap.size 9 iS _ 1 16 Tryz.underlying41 hS hSz hSs hSb rfl (by decide) (.slice p2 (acc ++ [s]).length c2) (acc ++ [s]).length (cellsT (acc ++ [s])) rfl (HRw2.out.alloc _) ⟨w2.heap.size, 0, none⟩ 1 1 [.string x] rfl rfl (cell_one _ _ _) (by simp [Value.oneCell']) (by unfold maxLen; omega) (by omega) (by simp; omega) ?_)
            intro v3 w3 ho3 hg3 _ _
            rw [show acc.length + 1 = (acc ++ [s]).length from by simp] at ho3 hg3
            obtain ⟨hB3, p3, c3, rfl, hr3⟩ := strs_grow HBw2.out HRw2.out hzw2 ho3 hg3
            have HBw3 := hide hB3
            have HRw3 := hide hr3
            have hzw3 := hB3.size
            clear ho3 hg3 hB3 hr3
            go_wp2
            go_roundw
            case rel => exact ⟨i + 1, p3, c3, acc ++ [s] ++ [x], true, by omega, rfl, rfl, by go_num, HRw3.out, HBw3.out, HF.out⟩
            case measure => simp [intOf]; omega
        · rw [hls] at HGE
          have hgt : geS x s = false := HGE.out
          by_cases hxs : x = s
          · rw [decide_eq_true hxs] at hbe
            have HF : Hid (acc ++ putGo s (l.drop (i + 1)) false = r) := hide (by rw [← HAC.out, HPA.out, hgt, if_pos hxs]; simp)
            have hnx : (x.toList != s.toList) = false := by rw [bne, hbe]; rfl
            clear hgt HGE HPA hxs
            go_wp2
            go_roundw
            case rel => exact ⟨i + 1, p, cc, acc, false, by omega, rfl, rfl, by go_num, HRwr.out, HBwr.out, HF.out⟩
            case measure => simp [intOf]; omega
          · rw [decide_eq_false hxs] at hbe
            have HF : Hid ((acc ++ [x]) ++ putGo s (l.drop (i + 1)) false = r) := hide (by rw [← HAC.out, HPA.out, hgt, if_neg hxs]; simp)
            have hnx : (x.toList != s.toList) = true := by rw [bne, hbe]; rfl
            clear hgt HGE HPA hxs
            go_wp2_with (at_builtin; refine wpList_append_own_at _ rfl _ _ 41 rfl w.heap.size 9 iS _ 1 16 Tryz.underlying41 hS hSz hSs hSb rfl (by decide) (.slice p (acc).length cc) (acc).length (cellsT (acc)) rfl (HRwr.out.alloc _) ⟨wr.heap.size, 0, none⟩ 1 1 [.string x] rfl rfl (cell_one _ _ _) (by simp [Value.oneCell']) (by unfold maxLen; omega) (by omega) (by simp; omega) ?_)
            intro v2 w2 ho2 hg2 _ _
            skip
            obtain ⟨hB2, p2, c2, rfl, hr2⟩ := strs_grow HBwr.out HRwr.out hzwr ho2 hg2
            have HBw2 := hide hB2
            have HRw2 := hide hr2
            have hzw2 := hB2.size
            clear ho2 hg2 hB2 hr2
            go_wp2
            go_roundw
            case rel => exact ⟨i + 1, p2, c2, acc ++ [x], false, by omega, rfl, rfl, by go_num, HRw2.out, HBw2.out, HF.out⟩
            case measure => simp [intOf]; omega
      · by_cases hxs : x = s
        · rw [decide_eq_true hxs] at hbe
          have HF : Hid (acc ++ putGo s (l.drop (i + 1)) true = r) := hide (by rw [← HAC.out, HPA.out, if_pos hxs]; simp)
          have hnx : (x.toList != s.toList) = false := by rw [bne, hbe]; rfl
          clear HGE HPA hxs
          go_wp2
          go_roundw
          case rel => exact ⟨i + 1, p, cc, acc, true, by omega, rfl, rfl, by go_num, HRwr.out, HBwr.out, HF.out⟩
          case measure => simp [intOf]; omega
        · rw [decide_eq_false hxs] at hbe
          have HF : Hid ((acc ++ [x]) ++ putGo s (l.drop (i + 1)) true = r) := hide (by rw [← HAC.out, HPA.out, if_neg hxs]; simp)
          have hnx : (x.toList != s.toList) = true := by rw [bne, hbe]; rfl
          clear HGE HPA hxs
          go_wp2_with (at_builtin; refine wpList_append_own_at _ rfl _ _ 41 rfl w.heap.size 9 iS _ 1 16 Tryz.underlying41 hS hSz hSs hSb rfl (by decide) (.slice p (acc).length cc) (acc).length (cellsT (acc)) rfl (HRwr.out.alloc _) ⟨wr.heap.size, 0, none⟩ 1 1 [.string x] rfl rfl (cell_one _ _ _) (by simp [Value.oneCell']) (by unfold maxLen; omega) (by omega) (by simp; omega) ?_)
          intro v2 w2 ho2 hg2 _ _
          skip
          obtain ⟨hB2, p2, c2, rfl, hr2⟩ := strs_grow HBwr.out HRwr.out hzwr ho2 hg2
          have HBw2 := hide hB2
          have HRw2 := hide hr2
          have hzw2 := hB2.size
          clear ho2 hg2 hB2 hr2
          go_wp2
          go_roundw
          case rel => exact ⟨i + 1, p2, c2, acc ++ [x], true, by omega, rfl, rfl, by go_num, HRw2.out, HBw2.out, HF.out⟩
          case measure => simp [intOf]; omega
    · obtain rfl : i = l.length := by omega
      have hend := HAC.out
      rw [List.drop_length] at hend
      cases d
      · have HF : Hid (acc ++ [s] = r) := hide (by rw [← hend]; simp [putGo])
        clear hend
        go_wp2_with (at_builtin; refine wpList_append_own_at _ rfl _ _ 41 rfl w.heap.size 9 iS _ 1 16 Tryz.underlying41 hS hSz hSs hSb rfl (by decide) (.slice p (acc).length cc) (acc).length (cellsT (acc)) rfl (HRwr.out.alloc _) ⟨wr.heap.size, 0, none⟩ 1 1 [.string s] rfl rfl (cell_one _ _ _) (by simp [Value.oneCell']) (by unfold maxLen; omega) (by omega) (by simp; omega) ?_)
        intro v2 w2 ho2 hg2 _ _
        skip
        obtain ⟨hB2, p2, c2, rfl, hr2⟩ := strs_grow HBwr.out HRwr.out hzwr ho2 hg2
        have HBw2 := hide hB2
        have HRw2 := hide hr2
        have hzw2 := hB2.size
        clear ho2 hg2 hB2 hr2
        go_wp2
        go_ret
        rw [← HF.out]
        exact ⟨HBw2.out, p2, c2, rfl, HRw2.out⟩
      · have HF : Hid (acc = r) := hide (by rw [← hend]; simp [putGo])
        clear hend
        go_wp2
        go_ret
        rw [← HF.out]
        exact ⟨HBwr.out, p, cc, rfl, HRwr.out⟩
set_option maxRecDepth 100000 in
set_option maxHeartbeats 4000000 in
theorem put7_none (s : ByteArray) (p0 : Option Addr) (c0 : Nat) (w : World) :
    Calls Tryz.prog 38 #[.slice p0 0 c0, .string s] w fun e w' => Below w.heap.size w w' ∧ ∃ p cc, e = .returned (.slice p (putS s []).length cc) ∧ w'.ownsRow w.heap.size 9 1 (.slice p (putS s []).length cc) (putS s []).length (cellsT (putS s [])) := by
  obtain ⟨iS, hS, hSz, hSs, hSb⟩ := info_parts Tryz.infoStr
  have R0 := hide (World.ownsRow_lit (base := w.heap.size) (e := 9) (size := 1) w #[] 0 (Nat.le_refl _) (Nat.zero_le _) rfl)
  have B0 : Below w.heap.size w (w.alloc (.cells #[] 9)) := (Below.refl _ _).alloc (Nat.le_refl _) _
  have HPS : Hid (putS s [] = [s]) := hide rfl
  generalize putS s [] = r at *
  go_enter Tryz.func38, Tryz.ntmps38
  go_wp2
  go_loopw [5, 6, 7] (fun u v q wr => u = .slice (some ⟨w.heap.size, 0, none⟩) ([] : List ByteArray).length 0 ∧ v = .bool false ∧ q = .int .i64 0 ∧ wr = w.alloc (.cells #[] 9)) (fun _ _ _ _ => 0)
  case atStart => exact ⟨rfl, rfl, rfl, rfl⟩
  case round =>
    obtain ⟨rfl, rfl, rfl, rfl⟩ := hrel
    obtain ⟨wr, hwr⟩ : ∃ x, x = w.alloc (.cells #[] 9) := ⟨_, rfl⟩
    rw [← hwr] at R0 B0 ⊢
    have hzwr := B0.size
    have HRwr : Hid (wr.ownsRow w.heap.size 9 1 (.slice (some ⟨w.heap.size, 0, none⟩) ([] : List ByteArray).length 0) ([] : List ByteArray).length (cellsT [])) := R0
    have HBwr := hide B0
    clear R0 B0 hwr
    go_wp2_with (at_builtin; refine wpList_append_own_at _ rfl _ _ 41 rfl w.heap.size 9 iS _ 1 16 Tryz.underlying41 hS hSz hSs hSb rfl (by decide) (.slice (some ⟨w.heap.size, 0, none⟩) 0 0) 0 (cellsT []) rfl (HRwr.out.alloc _) ⟨wr.heap.size, 0, none⟩ 1 1 [.string s] rfl rfl (cell_one _ _ _) (by simp [Value.oneCell']) (by unfold maxLen; omega) (by omega) (by simp; omega) ?_)
    intro v2 w2 ho2 hg2 _ _
    skip
    obtain ⟨hB2, p2, c2, rfl, hr2⟩ := strs_grow HBwr.out HRwr.out hzwr ho2 hg2
    have HBw2 := hide hB2
    have HRw2 := hide hr2
    have hzw2 := hB2.size
    clear ho2 hg2 hB2 hr2
    go_wp2
    go_ret
    rw [HPS.out]
    exact ⟨HBw2.out, p2, c2, rfl, HRw2.out⟩
theorem put7_any (l : List ByteArray) (s : ByteArray) (v : Value) (w : World) (hl : l.length ≤ 1099511627776) (hv : StrsV w v l) :
    Calls Tryz.prog 38 #[v, .string s] w fun e w' => Below w.heap.size w w' ∧ ∃ p cc, e = .returned (.slice p (putS s l).length cc) ∧ w'.ownsRow w.heap.size 9 1 (.slice p (putS s l).length cc) (putS s l).length (cellsT (putS s l)) := by
  rcases hv with ⟨p, c, rfl, rfl⟩ | ⟨g, o, c, rfl, h⟩
  · exact put7_none s p c w
  · exact put7_some l s g o c w hl h
end Go.Proofs.YtmpjdooepdicoaaGreatDoor.Vl
