/- Walks: ValidWorld, on the program's side. -/
import Derived.Test.YthlddankekghbaaZd
namespace Go.Proofs.Ythlddankekghbaa.Wd
open Go.RowKit

theorem empty_size (s : ByteArray) : (s.toList == []) = decide (s.size = 0) := by
  rw [Lib.toList_data]
  have h : s.size = s.data.toList.length := by simp
  rw [h]
  cases s.data.toList <;> simp
set_option maxRecDepth 100000 in
set_option maxHeartbeats 20000000 in
theorem implW_any (fs : List Fl) (ns : List ByteArray) (g h cf cn : Nat) (w : World) (hf : fs.length ≤ 1048576) (hfx : ∀ x ∈ fs, x.name.size ≤ 1048576) (hn : ns.length ≤ 1048576) (htf : FilesO w g 0 fs) (htn : StrsO w h 0 ns) :
    Calls Try.prog 7 #[.agg #[.slice (some ⟨g, 0, none⟩) fs.length cf, .slice (some ⟨h, 0, none⟩) ns.length cn]] w fun e w' => e = .returned (.bool (worldOk fs ns)) ∧ Below w.heap.size w w' := by
  have HF := hide htf
  have HN := hide htn
  have HX := hide hfx
  clear htf htn hfx
  have U0 := hide (WB.start w (.slice (some ⟨g, 0, none⟩) fs.length cf) (.slice (some ⟨h, 0, none⟩) ns.length cn))
  by_cases h1 : (20 : Int) < (fs.length : Int)
  · have HR := hide (worldOk_many (fs := fs) (ns := ns) (fun q => by omega))
    go_enter Try.func7, Try.ntmps7
    go_wp2
    go_ret
    exact ⟨ret_bool HR.out.symm, U0.out.B⟩
  by_cases h2 : (60 : Int) < (ns.length : Int)
  · have HR := hide (worldOk_many (fs := fs) (ns := ns) (fun q => by omega))
    go_enter Try.func7, Try.ntmps7
    go_wp2
    go_ret
    exact ⟨ret_bool HR.out.symm, U0.out.B⟩
  go_enter Try.func7, Try.ntmps7
  go_wp2
  go_loopw [20] (fun t wr => ∃ i : Nat, i ≤ fs.length ∧ t = .int .i64 i ∧ WB w (.slice (some ⟨g, 0, none⟩) fs.length cf) (.slice (some ⟨h, 0, none⟩) ns.length cn) wr ∧ ∀ j, j < i → fileOk fs j = true) (fun t _ => fs.length - (intOf t).toNat)
  case atStart => exact ⟨0, Nat.zero_le _, rfl, U0.out, fun j hj => by omega⟩
  case round =>
    obtain ⟨i, hi, rfl, hU, hall⟩ := hrel
    have HA := hide hall
    have cf_ := hU.f
    have cn_ := hU.n
    have HU := hide hU
    clear hall hU
    by_cases hlt : i < fs.length
    · obtain ⟨c0, c1⟩ := (HF.out.below HU.out.B).2 i hlt
      have HO := hide (fileOk_at hlt)
      have hsz := HX.out fs[i] (List.getElem_mem hlt)
      have HGW : Hid (g < wr.heap.size) := hide (Nat.lt_of_lt_of_le HF.out.1 HU.out.B.size)
      simp only [Nat.zero_add] at c0 c1
      cases hp : pkgOk fs[i].name
      · have HR := hide (worldOk_files (ns := ns) hlt (by rw [HO.out, hp]; rfl))
        have HK : Hid (∀ w, Calls Try.prog 15 #[.string fs[i].name] w fun e w' => e = .returned (.bool false) ∧ w' = w) := hide (fun w => by have := isPkg_any fs[i].name w hsz; rw [hp] at this; exact this)
        clear HO hp hsz
        generalize fs[i] = d at *
        go_wp2
        have AW : Below wr.heap.size wr (wr.alloc (.cells #[.string d.name, .string d.text] 38)) := (Below.refl _ _).alloc (Nat.le_refl _) _
        have UW := hide (HU.out.below AW)
        have cfW := UW.out.f
        have e0 : (wr.alloc (.cells #[.string d.name, .string d.text] 38)).cell? ⟨wr.heap.size, 0, none⟩ = some (.string d.name) := by simp
        have e1 : (wr.alloc (.cells #[.string d.name, .string d.text] 38)).cell? ⟨wr.heap.size, 1, none⟩ = some (.string d.text) := by simp
        clear AW cf_ cn_ c0 c1
        generalize wr.alloc (.cells #[.string d.name, .string d.text] 38) = W1 at *
        go_quiet ((go_at_call 15; exact Calls.quiet_of_same (HK.out _)))
        go_wp2
        go_ret
        exact ⟨ret_bool HR.out.symm, below_drewN UW.out.B _⟩
      · have HK : Hid (∀ w, Calls Try.prog 15 #[.string fs[i].name] w fun e w' => e = .returned (.bool true) ∧ w' = w) := hide (fun w => by have := isPkg_any fs[i].name w hsz; rw [hp] at this; exact this)
        rw [hp] at HO
        clear hp hsz
        by_cases hz : (8000 : Int) < (fs[i].text.size : Int)
        · have HR := hide (worldOk_files (ns := ns) hlt (by rw [HO.out, decide_eq_false (by omega)]; rfl))
          clear HO
          generalize fs[i] = d at *
          go_wp2
          have AW : Below wr.heap.size wr (wr.alloc (.cells #[.string d.name, .string d.text] 38)) := (Below.refl _ _).alloc (Nat.le_refl _) _
          have UW := hide (HU.out.below AW)
          have cfW := UW.out.f
          have e0 : (wr.alloc (.cells #[.string d.name, .string d.text] 38)).cell? ⟨wr.heap.size, 0, none⟩ = some (.string d.name) := by simp
          have e1 : (wr.alloc (.cells #[.string d.name, .string d.text] 38)).cell? ⟨wr.heap.size, 1, none⟩ = some (.string d.text) := by simp
          clear AW cf_ cn_ c0 c1
          generalize wr.alloc (.cells #[.string d.name, .string d.text] 38) = W1 at *
          go_quiet ((go_at_call 15; exact Calls.quiet_of_same (HK.out _)))
          go_wp2
          go_ret
          exact ⟨ret_bool HR.out.symm, below_drewN UW.out.B _⟩
        · rw [decide_eq_true (by omega)] at HO
          by_cases hpos : ¬ (0 : Int) < (i : Int)
          · have HY : Hid (fileOk fs i = true) := hide (by rw [HO.out, show (i == 0) = true from by simp; omega]; rfl)
            clear HO
            generalize fs[i] = d at *
            go_wp2
            have hz1 : ¬ (8000 : Int) < (d.text.size : Int) := by omega
            have hp1 : decide (0 < i) = false := by simp; omega
            have AW : Below wr.heap.size wr (wr.alloc (.cells #[.string d.name, .string d.text] 38)) := (Below.refl _ _).alloc (Nat.le_refl _) _
            have UW := hide (HU.out.below AW)
            have cfW := UW.out.f
            have e0 : (wr.alloc (.cells #[.string d.name, .string d.text] 38)).cell? ⟨wr.heap.size, 0, none⟩ = some (.string d.name) := by simp
            have e1 : (wr.alloc (.cells #[.string d.name, .string d.text] 38)).cell? ⟨wr.heap.size, 1, none⟩ = some (.string d.text) := by simp
            clear AW cf_ cn_ c0 c1
            generalize wr.alloc (.cells #[.string d.name, .string d.text] 38) = W1 at *
            go_quiet ((go_at_call 15; exact Calls.quiet_of_same (HK.out _)))
            go_wp2
            go_roundw
            case rel => exact ⟨i + 1, by omega, by go_num, UW.out.below (below_drewN (Below.refl _ _) _), fun j hj => by
              by_cases hji : j = i
              · rw [hji]; exact HY.out
              · exact HA.out j (by omega)⟩
            case measure => simp [intOf]; omega
          · obtain ⟨k, rfl⟩ : ∃ k, i = k + 1 := ⟨i - 1, by omega⟩
            obtain ⟨p0, p1⟩ := (HF.out.below HU.out.B).2 k (by omega)
            simp only [Nat.zero_add] at p0 p1
            have hpk : (fs[k + 1 - 1]?.map Fl.name).getD ⟨#[]⟩ = fs[k].name := by rw [Nat.add_sub_cancel, List.getElem?_eq_getElem (by omega)]; rfl
            rw [hpk] at HO
            have HLT := hide (less_total fs[k + 1].name.toList fs[k].name.toList)
            cases hs : slt fs[k].name fs[k + 1].name
            · have hq : (Go.Op.bytesLess fs[k + 1].name.toList fs[k].name.toList || (fs[k + 1].name.toList == fs[k].name.toList)) = true := by rw [HLT.out]; have : Go.Op.bytesLess fs[k].name.toList fs[k + 1].name.toList = false := hs; rw [this]; rfl
              have HR := hide (worldOk_files (ns := ns) hlt (by rw [HO.out, hs]; simp))
              clear HO hs hpk HLT
              generalize fs[k + 1] = d at *
              generalize fs[k] = dp at *
              go_wp2
              have hz1 : ¬ (8000 : Int) < (d.text.size : Int) := by omega
              have hp1 : (0 : Int) < (k : Int) + 1 := by omega
              have AW : Below wr.heap.size wr (wr.alloc (.cells #[.string d.name, .string d.text] 38)) := (Below.refl _ _).alloc (Nat.le_refl _) _
              have UW := hide (HU.out.below AW)
              have cfW := UW.out.f
              have e0 : (wr.alloc (.cells #[.string d.name, .string d.text] 38)).cell? ⟨wr.heap.size, 0, none⟩ = some (.string d.name) := by simp
              have e1 : (wr.alloc (.cells #[.string d.name, .string d.text] 38)).cell? ⟨wr.heap.size, 1, none⟩ = some (.string d.text) := by simp
              have p0W := (AW.cell (p := ⟨g, k * 2, none⟩) HGW.out).trans p0
              clear p0 p1
              clear AW cf_ cn_ c0 c1
              generalize wr.alloc (.cells #[.string d.name, .string d.text] 38) = W1 at *
              go_quiet ((go_at_call 15; exact Calls.quiet_of_same (HK.out _)))
              go_wp2
              go_ret
              exact ⟨ret_bool HR.out.symm, below_drewN UW.out.B _⟩
            · have hq : (Go.Op.bytesLess fs[k + 1].name.toList fs[k].name.toList || (fs[k + 1].name.toList == fs[k].name.toList)) = false := by rw [HLT.out]; have : Go.Op.bytesLess fs[k].name.toList fs[k + 1].name.toList = true := hs; rw [this]; rfl
              have HY : Hid (fileOk fs (k + 1) = true) := hide (by rw [HO.out, hs]; simp)
              clear HO hs hpk HLT
              generalize fs[k + 1] = d at *
              generalize fs[k] = dp at *
              go_wp2
              have hz1 : ¬ (8000 : Int) < (d.text.size : Int) := by omega
              have hp1 : (0 : Int) < (k : Int) + 1 := by omega
              have AW : Below wr.heap.size wr (wr.alloc (.cells #[.string d.name, .string d.text] 38)) := (Below.refl _ _).alloc (Nat.le_refl _) _
              have UW := hide (HU.out.below AW)
              have cfW := UW.out.f
              have e0 : (wr.alloc (.cells #[.string d.name, .string d.text] 38)).cell? ⟨wr.heap.size, 0, none⟩ = some (.string d.name) := by simp
              have e1 : (wr.alloc (.cells #[.string d.name, .string d.text] 38)).cell? ⟨wr.heap.size, 1, none⟩ = some (.string d.text) := by simp
              have p0W := (AW.cell (p := ⟨g, k * 2, none⟩) HGW.out).trans p0
              clear p0 p1
              clear AW cf_ cn_ c0 c1
              generalize wr.alloc (.cells #[.string d.name, .string d.text] 38) = W1 at *
              go_quiet ((go_at_call 15; exact Calls.quiet_of_same (HK.out _)))
              go_wp2
              go_roundw
              case rel => exact ⟨k + 1 + 1, by omega, by go_num, UW.out.below (below_drewN (Below.refl _ _) _), fun j hj => by
                by_cases hjk : j = k + 1
                · rw [hjk]; exact HY.out
                · exact HA.out j (by omega)⟩
              case measure => simp [intOf]; omega
    · have HAF : Hid (∀ j, j < fs.length → fileOk fs j = true) := hide (fun j hj => HA.out j (by omega))
      have U1 := hide HU.out
      clear HA HU
      go_wp2
      go_loopw [55] (fun t wr => ∃ i : Nat, i ≤ ns.length ∧ t = .int .i64 i ∧ WB w (.slice (some ⟨g, 0, none⟩) fs.length cf) (.slice (some ⟨h, 0, none⟩) ns.length cn) wr ∧ ∀ j, j < i → nameOk ns j = true) (fun t _ => ns.length - (intOf t).toNat)
      case atStart => exact ⟨0, Nat.zero_le _, rfl, U1.out, fun j hj => by omega⟩
      case round =>
        clear cf_ cn_ hlt hi U1
        obtain ⟨i, hi, rfl, hU, hall⟩ := hrel
        have HA := hide hall
        have cf_ := hU.f
        have cn_ := hU.n
        have HU := hide hU
        clear hall hU
        by_cases hlt : i < ns.length
        · have c0 := (HN.out.below HU.out.B).2 i hlt
          have HO := hide (nameOk_at hlt)
          simp only [Nat.zero_add] at c0
          have HE : Hid ((ns[i].toList == []) = decide (ns[i].size = 0)) := hide (empty_size ns[i])
          cases he : (ns[i].toList == [])
          · have hsz : 1 ≤ ns[i].size := by
              have := HE.out; rw [he] at this; have h0 := of_decide_eq_false this.symm; omega
            by_cases hz : (1000 : Int) < (ns[i].size : Int)
            · have HR := hide (worldOk_names (fs := fs) hlt (by rw [HO.out, show inr ns[i].size 1 1000 = false from by simp [inr]; omega]; rfl))
              clear HO HE
              generalize ns[i] = d at *
              go_wp2
              go_ret
              exact ⟨ret_bool HR.out.symm, HU.out.B⟩
            · rw [show inr ns[i].size 1 1000 = true from by simp [inr]; omega] at HO
              by_cases hpos : ¬ (0 : Int) < (i : Int)
              · have HY : Hid (nameOk ns i = true) := hide (by rw [HO.out, show (i == 0) = true from by simp; omega]; rfl)
                have hp1 : decide (0 < i) = false := by simp; omega
                have hz1 : decide ((1000 : Int) < (ns[i].size : Int)) = false := by simp; omega
                clear HO HE
                generalize ns[i] = d at *
                go_wp2
                go_roundw
                case rel => exact ⟨i + 1, by omega, by go_num, HU.out, fun j hj => by
                  by_cases hji : j = i
                  · rw [hji]; exact HY.out
                  · exact HA.out j (by omega)⟩
                case measure => simp [intOf]; omega
              · obtain ⟨k, rfl⟩ : ∃ k, i = k + 1 := ⟨i - 1, by omega⟩
                have p0 := (HN.out.below HU.out.B).2 k (by omega)
                simp only [Nat.zero_add] at p0
                have hpk : ns[k + 1 - 1]?.getD ⟨#[]⟩ = ns[k] := by rw [Nat.add_sub_cancel, List.getElem?_eq_getElem (by omega)]; rfl
                rw [hpk] at HO
                have HLT := hide (less_total ns[k + 1].toList ns[k].toList)
                have hp1 : (0 : Int) < (k : Int) + 1 := by omega
                cases hs : slt ns[k] ns[k + 1]
                · have hq : (Go.Op.bytesLess ns[k + 1].toList ns[k].toList || (ns[k + 1].toList == ns[k].toList)) = true := by rw [HLT.out]; have : Go.Op.bytesLess ns[k].toList ns[k + 1].toList = false := hs; rw [this]; rfl
                  have HR := hide (worldOk_names (fs := fs) hlt (by rw [HO.out, hs]; simp))
                  clear HO hs hpk HLT HE
                  generalize ns[k + 1] = d at *
                  generalize ns[k] = dp at *
                  go_wp2
                  go_ret
                  exact ⟨ret_bool HR.out.symm, HU.out.B⟩
                · have hq : (Go.Op.bytesLess ns[k + 1].toList ns[k].toList || (ns[k + 1].toList == ns[k].toList)) = false := by rw [HLT.out]; have : Go.Op.bytesLess ns[k].toList ns[k + 1].toList = true := hs; rw [this]; rfl
                  have HY : Hid (nameOk ns (k + 1) = true) := hide (by rw [HO.out, hs]; simp)
                  clear HO hs hpk HLT HE
                  generalize ns[k + 1] = d at *
                  generalize ns[k] = dp at *
                  go_wp2
                  go_roundw
                  case rel => exact ⟨k + 1 + 1, by omega, by go_num, HU.out, fun j hj => by
                    by_cases hjk : j = k + 1
                    · rw [hjk]; exact HY.out
                    · exact HA.out j (by omega)⟩
                  case measure => simp [intOf]; omega
          · have HR := hide (worldOk_names (fs := fs) hlt (by
              have h0 := HE.out; rw [he] at h0
              have h1 := of_decide_eq_true h0.symm
              rw [HO.out, h1]; rfl))
            clear HO HE
            generalize ns[i] = d at *
            go_wp2
            go_ret
            exact ⟨ret_bool HR.out.symm, HU.out.B⟩
        · have HR := hide (worldOk_yes (fs := fs) (ns := ns) (by omega) (by omega) HAF.out (fun j hj => HA.out j (by omega)))
          go_wp2
          go_ret
          exact ⟨ret_bool HR.out.symm, HU.out.B⟩
end Go.Proofs.Ythlddankekghbaa.Wd
