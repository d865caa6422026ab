/- Walks: ValidWorld, on both sides. -/
import Derived.Test.YthlddankekghbaaZc
namespace Go.Proofs.Ythlddankekghbaa.Wd
open Go.RowKit

theorem less_total : ∀ a b : List UInt8, (Go.Op.bytesLess a b || (a == b)) = !Go.Op.bytesLess b a
  | [], [] => rfl
  | [], _ :: _ => rfl
  | _ :: _, [] => rfl
  | x :: a, y :: b => by
    have ih := less_total a b
    simp only [Go.Op.bytesLess, List.cons_beq_cons]
    have h3 : x < y ∨ x = y ∨ y < x := by
      rcases Nat.lt_trichotomy x.toNat y.toNat with h | h | h
      · exact .inl (UInt8.lt_iff_toNat_lt.2 h)
      · exact .inr (.inl (UInt8.toNat_inj.1 h))
      · exact .inr (.inr (UInt8.lt_iff_toNat_lt.2 h))
    rcases h3 with h | h | h
    · have h1 : ¬ y < x := UInt8.lt_asymm h
      have h2 : ¬ y = x := fun e => by subst e; exact UInt8.lt_irrefl _ h
      simp [h, h1, h2]
    · subst h
      have h1 : ¬ x < x := UInt8.lt_irrefl _
      simpa [h1] using ih
    · have h1 : ¬ x < y := UInt8.lt_asymm h
      have h2 : ¬ x = y := fun e => by subst e; exact UInt8.lt_irrefl _ h
      simp [h, h1, h2]

def slt (a b : ByteArray) : Bool := Go.Op.bytesLess a.toList b.toList
/-- File i of a world is as it has to be; name i. -/
def fileOk (l : List Fl) (i : Nat) : Bool := match l[i]? with
  | none => true
  | some d => pkgOk d.name && decide (d.text.size ≤ 8000) && (i == 0 || slt ((l[i - 1]?.map Fl.name).getD ⟨#[]⟩) d.name)
def nameOk (l : List ByteArray) (i : Nat) : Bool := match l[i]? with
  | none => true
  | some d => inr d.size 1 1000 && (i == 0 || slt (l[i - 1]?.getD ⟨#[]⟩) d)
def worldOk (fs : List Fl) (ns : List ByteArray) : Bool := decide (fs.length ≤ 20) && decide (ns.length ≤ 60) && (List.range fs.length).all (fileOk fs) && (List.range ns.length).all (nameOk ns)
theorem all_yes {n : Nat} {p : Nat → Bool} (h : ∀ j, j < n → p j = true) : (List.range n).all p = true := by simpa using h
theorem all_no {n i : Nat} {p : Nat → Bool} (hi : i < n) (h : p i = false) : (List.range n).all p = false := by
  rw [← Bool.not_eq_true, List.all_eq_true]
  intro q
  have := q i (List.mem_range.2 hi)
  rw [h] at this; cases this
theorem worldOk_files {fs : List Fl} {ns : List ByteArray} {i : Nat} (hi : i < fs.length) (h : fileOk fs i = false) : worldOk fs ns = false := by
  unfold worldOk; rw [all_no hi h]; simp
theorem worldOk_names {fs : List Fl} {ns : List ByteArray} {i : Nat} (hi : i < ns.length) (h : nameOk ns i = false) : worldOk fs ns = false := by
  unfold worldOk; rw [all_no hi h]; simp
theorem worldOk_yes {fs : List Fl} {ns : List ByteArray} (h1 : fs.length ≤ 20) (h2 : ns.length ≤ 60) (hf : ∀ j, j < fs.length → fileOk fs j = true) (hn : ∀ j, j < ns.length → nameOk ns j = true) : worldOk fs ns = true := by
  unfold worldOk; rw [all_yes hf, all_yes hn]; simp [h1, h2]
theorem worldOk_many {fs : List Fl} {ns : List ByteArray} (h : ¬ (fs.length ≤ 20 ∧ ns.length ≤ 60)) : worldOk fs ns = false := by
  unfold worldOk
  by_cases h1 : fs.length ≤ 20
  · have h2 : ¬ ns.length ≤ 60 := fun q => h ⟨h1, q⟩
    simp [h2]
  · simp [h1]
theorem fileOk_at {l : List Fl} {i : Nat} (h : i < l.length) : fileOk l i = (pkgOk l[i].name && decide (l[i].text.size ≤ 8000) && (i == 0 || slt ((l[i - 1]?.map Fl.name).getD ⟨#[]⟩) l[i].name)) := by
  unfold fileOk; rw [List.getElem?_eq_getElem h]
theorem nameOk_at {l : List ByteArray} {i : Nat} (h : i < l.length) : nameOk l i = (inr l[i].size 1 1000 && (i == 0 || slt (l[i - 1]?.getD ⟨#[]⟩) l[i])) := by
  unfold nameOk; rw [List.getElem?_eq_getElem h]

/-- ValidWorld's own box, in a later world. -/
structure WB (w : World) (vf vn : Value) (W : World) : Prop where
  B : Below w.heap.size w W
  f : W.cell? ⟨w.heap.size, 0, none⟩ = some vf
  n : W.cell? ⟨w.heap.size, 1, none⟩ = some vn
  z : w.heap.size < W.heap.size
theorem WB.start (w : World) (vf vn : Value) : WB w vf vn (w.alloc (.cells #[vf, vn] 30)) := ⟨(Below.refl _ _).alloc (Nat.le_refl _) _, by simp, by simp, by simp⟩
theorem WB.below {w W W' : World} {vf vn : Value} (h : WB w vf vn W) (hb : Below W.heap.size W W') : WB w vf vn W' :=
  ⟨h.B.trans (hb.mono h.B.size), (hb.cell (p := ⟨w.heap.size, 0, none⟩) h.z).trans h.f, (hb.cell (p := ⟨w.heap.size, 1, none⟩) h.z).trans h.n, Nat.lt_of_lt_of_le h.z hb.size⟩

set_option maxRecDepth 100000 in
set_option maxHeartbeats 20000000 in
theorem specW_any (fs : List Fl) (ns : List ByteArray) (g h cf cn : Nat) (w : World) (hf : fs.length ≤ 1048576) (hn : ns.length ≤ 1048576) (htf : FilesO w g 0 fs) (htn : StrsO w h 0 ns) :
    Calls Try.prog 5 #[.agg #[.slice (some ⟨g, 0, none⟩) fs.length cf, .slice (some ⟨h, 0, none⟩) ns.length cn]] w fun e w' => e = .returned (.bool (worldOk fs ns)) ∧ Below w.heap.size w w' := by
  have HF := hide htf
  have HN := hide htn
  clear htf htn
  have U0 := hide (WB.start w (.slice (some ⟨g, 0, none⟩) fs.length cf) (.slice (some ⟨h, 0, none⟩) ns.length cn))
  by_cases h1 : (20 : Int) < (fs.length : Int)
  · have HR := hide (worldOk_many (fs := fs) (ns := ns) (fun q => by omega))
    go_enter Try.func5, Try.ntmps5
    go_wp2
    go_ret
    exact ⟨ret_bool HR.out.symm, U0.out.B⟩
  by_cases h2 : (60 : Int) < (ns.length : Int)
  · have HR := hide (worldOk_many (fs := fs) (ns := ns) (fun q => by omega))
    go_enter Try.func5, Try.ntmps5
    go_wp2
    go_ret
    exact ⟨ret_bool HR.out.symm, U0.out.B⟩
  go_enter Try.func5, Try.ntmps5
  go_wp2
  go_loopw [3] (fun t wr => ∃ i : Nat, i ≤ fs.length ∧ t = .int .i64 i ∧ WB w (.slice (some ⟨g, 0, none⟩) fs.length cf) (.slice (some ⟨h, 0, none⟩) ns.length cn) wr ∧ ∀ j, j < i → fileOk fs j = true) (fun t _ => fs.length - (intOf t).toNat)
  case atStart => exact ⟨0, Nat.zero_le _, rfl, U0.out, fun j hj => by omega⟩
  case round =>
    obtain ⟨i, hi, rfl, hU, hall⟩ := hrel
    have HA := hide hall
    have cf_ := hU.f
    have cn_ := hU.n
    have HU := hide hU
    clear hall hU
    by_cases hlt : i < fs.length
    · obtain ⟨c0, c1⟩ := (HF.out.below HU.out.B).2 i hlt
      have HO := hide (fileOk_at hlt)
      simp only [Nat.zero_add] at c0 c1
      cases hp : pkgOk fs[i].name
      · have HR := hide (worldOk_files (ns := ns) hlt (by rw [HO.out, hp]; rfl))
        have HK : Hid (∀ w, Calls Try.prog 11 #[.string fs[i].name] w fun e w' => e = .returned (.bool false) ∧ w' = w) := hide (fun w => by have := pkg_any fs[i].name w; rw [hp] at this; exact this)
        clear HO hp
        generalize fs[i] = d at *
        go_wp2
        go_quiet ((go_at_call 11; exact Calls.quiet_of_same (HK.out _)))
        go_wp2
        go_ret
        exact ⟨ret_bool HR.out.symm, below_drewN HU.out.B _⟩
      · have HK : Hid (∀ w, Calls Try.prog 11 #[.string fs[i].name] w fun e w' => e = .returned (.bool true) ∧ w' = w) := hide (fun w => by have := pkg_any fs[i].name w; rw [hp] at this; exact this)
        rw [hp] at HO
        clear hp
        by_cases hz : (8000 : Int) < (fs[i].text.size : Int)
        · have HR := hide (worldOk_files (ns := ns) hlt (by rw [HO.out, decide_eq_false (by omega)]; rfl))
          clear HO
          generalize fs[i] = d at *
          go_wp2
          go_quiet ((go_at_call 11; exact Calls.quiet_of_same (HK.out _)))
          go_wp2
          go_ret
          exact ⟨ret_bool HR.out.symm, below_drewN HU.out.B _⟩
        · rw [decide_eq_true (by omega)] at HO
          by_cases hpos : ¬ (0 : Int) < (i : Int)
          · have HY : Hid (fileOk fs i = true) := hide (by rw [HO.out, show (i == 0) = true from by simp; omega]; rfl)
            have hi0 : Hid (i = 0) := hide (by omega)
            clear HO
            generalize fs[i] = d at *
            go_wp2
            have hz1 : ¬ (8000 : Int) < (d.text.size : Int) := by omega
            have hp1 : decide (0 < i) = false := by simp; omega
            go_quiet ((go_at_call 11; exact Calls.quiet_of_same (HK.out _)))
            go_wp2
            go_roundw
            case rel => exact ⟨i + 1, by omega, by go_num, HU.out.below (below_drewN (Below.refl _ _) _), fun j hj => by
              by_cases hji : j = i
              · rw [hji]; exact HY.out
              · exact HA.out j (by omega)⟩
            case measure => simp [intOf]; omega
          · obtain ⟨k, rfl⟩ : ∃ k, i = k + 1 := ⟨i - 1, by omega⟩
            obtain ⟨p0, p1⟩ := (HF.out.below HU.out.B).2 k (by omega)
            simp only [Nat.zero_add] at p0 p1
            have hg0 : (0 : Int) < (k : Int) + 1 := by omega
            have hpk : (fs[k + 1 - 1]?.map Fl.name).getD ⟨#[]⟩ = fs[k].name := by rw [Nat.add_sub_cancel, List.getElem?_eq_getElem (by omega)]; rfl
            rw [hpk] at HO
            cases hs : slt fs[k].name fs[k + 1].name
            · have hs' : Go.Op.bytesLess fs[k].name.toList fs[k + 1].name.toList = false := hs
              have HR := hide (worldOk_files (ns := ns) hlt (by rw [HO.out, hs]; simp))
              clear HO hs hpk
              generalize fs[k + 1] = d at *
              generalize fs[k] = dp at *
              go_wp2
              have hz1 : ¬ (8000 : Int) < (d.text.size : Int) := by omega
              have hp1 : (0 : Int) < (k : Int) + 1 := by omega
              go_quiet ((go_at_call 11; exact Calls.quiet_of_same (HK.out _)))
              go_wp2
              go_ret
              exact ⟨ret_bool HR.out.symm, below_drewN HU.out.B _⟩
            · have hs' : Go.Op.bytesLess fs[k].name.toList fs[k + 1].name.toList = true := hs
              have HY : Hid (fileOk fs (k + 1) = true) := hide (by rw [HO.out, hs]; simp)
              clear HO hs hpk
              generalize fs[k + 1] = d at *
              generalize fs[k] = dp at *
              go_wp2
              have hz1 : ¬ (8000 : Int) < (d.text.size : Int) := by omega
              have hp1 : (0 : Int) < (k : Int) + 1 := by omega
              go_quiet ((go_at_call 11; exact Calls.quiet_of_same (HK.out _)))
              go_wp2
              go_roundw
              case rel => exact ⟨k + 1 + 1, by omega, by go_num, HU.out.below (below_drewN (Below.refl _ _) _), fun j hj => by
                by_cases hjk : j = k + 1
                · rw [hjk]; exact HY.out
                · exact HA.out j (by omega)⟩
              case measure => simp [intOf]; omega
    · have HAF : Hid (∀ j, j < fs.length → fileOk fs j = true) := hide (fun j hj => HA.out j (by omega))
      have U1 := hide HU.out
      clear HA HU
      go_wp2
      go_loopw [4] (fun t wr => ∃ i : Nat, i ≤ ns.length ∧ t = .int .i64 i ∧ WB w (.slice (some ⟨g, 0, none⟩) fs.length cf) (.slice (some ⟨h, 0, none⟩) ns.length cn) wr ∧ ∀ j, j < i → nameOk ns j = true) (fun t _ => ns.length - (intOf t).toNat)
      case atStart => exact ⟨0, Nat.zero_le _, rfl, U1.out, fun j hj => by omega⟩
      case round =>
        clear cf_ cn_ hlt hi U1
        obtain ⟨i, hi, rfl, hU, hall⟩ := hrel
        have HA := hide hall
        have cf_ := hU.f
        have cn_ := hU.n
        have HU := hide hU
        clear hall hU
        by_cases hlt : i < ns.length
        · have c0 := (HN.out.below HU.out.B).2 i hlt
          have HO := hide (nameOk_at hlt)
          simp only [Nat.zero_add] at c0
          cases hp : inr ns[i].size 1 1000
          · have HR := hide (worldOk_names (fs := fs) hlt (by rw [HO.out, hp]; rfl))
            have HK : Hid (∀ w, Calls Try.prog 12 #[.int .i64 ns[i].size, .int .i64 1, .int .i64 1000] w fun e w' => e = .returned (.bool false) ∧ w' = w) := hide (fun w => by have := in_any ns[i].size 1 1000 w; rw [hp] at this; exact this)
            clear HO hp
            generalize ns[i] = d at *
            go_wp2
            go_quiet ((go_at_call 12; exact Calls.quiet_of_same (HK.out _)))
            go_wp2
            go_ret
            exact ⟨ret_bool HR.out.symm, below_drewN HU.out.B _⟩
          · have HK : Hid (∀ w, Calls Try.prog 12 #[.int .i64 ns[i].size, .int .i64 1, .int .i64 1000] w fun e w' => e = .returned (.bool true) ∧ w' = w) := hide (fun w => by have := in_any ns[i].size 1 1000 w; rw [hp] at this; exact this)
            rw [hp] at HO
            clear hp
            by_cases hpos : ¬ (0 : Int) < (i : Int)
            · have HY : Hid (nameOk ns i = true) := hide (by rw [HO.out, show (i == 0) = true from by simp; omega]; rfl)
              clear HO
              generalize ns[i] = d at *
              go_wp2
              have hp1 : decide (0 < i) = false := by simp; omega
              go_quiet ((go_at_call 12; exact Calls.quiet_of_same (HK.out _)))
              go_wp2
              go_roundw
              case rel => exact ⟨i + 1, by omega, by go_num, HU.out.below (below_drewN (Below.refl _ _) _), fun j hj => by
                by_cases hji : j = i
                · rw [hji]; exact HY.out
                · exact HA.out j (by omega)⟩
              case measure => simp [intOf]; omega
            · obtain ⟨k, rfl⟩ : ∃ k, i = k + 1 := ⟨i - 1, by omega⟩
              have p0 := (HN.out.below HU.out.B).2 k (by omega)
              simp only [Nat.zero_add] at p0
              have hpk : ns[k + 1 - 1]?.getD ⟨#[]⟩ = ns[k] := by rw [Nat.add_sub_cancel, List.getElem?_eq_getElem (by omega)]; rfl
              rw [hpk] at HO
              cases hs : slt ns[k] ns[k + 1]
              · have hs' : Go.Op.bytesLess ns[k].toList ns[k + 1].toList = false := hs
                have HR := hide (worldOk_names (fs := fs) hlt (by rw [HO.out, hs]; simp))
                clear HO hs hpk
                generalize ns[k + 1] = d at *
                generalize ns[k] = dp at *
                go_wp2
                have hp1 : (0 : Int) < (k : Int) + 1 := by omega
                go_quiet ((go_at_call 12; exact Calls.quiet_of_same (HK.out _)))
                go_wp2
                go_ret
                exact ⟨ret_bool HR.out.symm, below_drewN HU.out.B _⟩
              · have hs' : Go.Op.bytesLess ns[k].toList ns[k + 1].toList = true := hs
                have HY : Hid (nameOk ns (k + 1) = true) := hide (by rw [HO.out, hs]; simp)
                clear HO hs hpk
                generalize ns[k + 1] = d at *
                generalize ns[k] = dp at *
                go_wp2
                have hp1 : (0 : Int) < (k : Int) + 1 := by omega
                go_quiet ((go_at_call 12; exact Calls.quiet_of_same (HK.out _)))
                go_wp2
                go_roundw
                case rel => exact ⟨k + 1 + 1, by omega, by go_num, HU.out.below (below_drewN (Below.refl _ _) _), fun j hj => by
                  by_cases hjk : j = k + 1
                  · rw [hjk]; exact HY.out
                  · exact HA.out j (by omega)⟩
                case measure => simp [intOf]; omega
        · have HR := hide (worldOk_yes (fs := fs) (ns := ns) (by omega) (by omega) HAF.out (fun j hj => HA.out j (by omega)))
          go_wp2
          go_ret
          exact ⟨ret_bool HR.out.symm, HU.out.B⟩
end Go.Proofs.Ythlddankekghbaa.Wd
