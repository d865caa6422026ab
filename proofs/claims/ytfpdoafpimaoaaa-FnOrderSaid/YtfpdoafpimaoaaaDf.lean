/- Walks: a name set in a record's kids: l5Set. -/
import Derived.Test.YtfpdoafpimaoaaaDe
namespace Go.Proofs.Ytfpdoafpimaoaaa.Vl
open Go.RowKit T.atoms T.ok T.high T.good T.allPlain

theorem less_self' : ∀ a : List UInt8, Go.Op.bytesLess a a = false
  | [] => rfl
  | x :: a => by
    have ih := less_self' a
    simp [Go.Op.bytesLess, UInt8.lt_irrefl, ih]
set_option maxRecDepth 100000 in
set_option maxHeartbeats 20000000 in
theorem set5_any (rb c gv cv : Nat) (p : Option Addr) (vs : List Value) (ls : List (List At)) (l : List At) (s : ByteArray) (w : World) (hl : ls.length ≤ 100) (he : ls.length % 2 = 0) (hpos : ∀ x ∈ ls, 0 < x.length) (ht : total ls ≤ 10000) (hk : Kds w rb vs ls) (hc : CellsV w p vs) (hv : AtomsO w gv 0 l) (hv1 : 0 < l.length) (hv2 : l.length ≤ cv) (hv3 : gv ≠ rb) (hrb : rb < w.heap.size) :
    Calls Try.prog 69 #[.slice p ls.length c, .string s, .agg #[.slice (some ⟨gv, 0, none⟩) l.length cv]] w fun e w' => SetPost w rb (ls.length + 2) (total ls + 1 + l.length) e w' := by
  obtain ⟨iV, hV, hVz, hVs, hVb⟩ := info_parts Try.infoVal
  have HK := hide hk
  have HC := hide hc
  have HPS := hide hpos
  have EV : Hid (El w (some rb) (.slice (some ⟨gv, 0, none⟩) l.length cv) l) := hide ⟨gv, cv, rfl, hv2, fun e => by cases e; exact hv3 rfl, hv⟩
  have S0 := hide (SI.start w rb l.length (.slice (some ⟨gv, 0, none⟩) l.length cv))
  have HT5 : Hid (∀ W : World, Calls Try.prog 67 #[.string s] W.drew fun e w' => ∃ r, e = .returned r ∧ ∃ g, W.heap.size ≤ g ∧ r = .agg #[.slice (some ⟨g, 0, none⟩) 1 1] ∧ AtomsO w' g 0 [⟨4, 0, s, 0⟩] ∧ Below W.heap.size W.drew w') := hide (fun W => (text5_any s W.drew).mono (by rintro e w' ⟨g, h1, rfl, h3, h4⟩; exact ⟨_, rfl, g, h1, rfl, h3, h4⟩))
  have HF2 := fld2
  clear hk hc hv hpos hv2 hv3
  go_enter Try.func69, Try.ntmps69
  go_wp2_with fail
  go_loopw [7, 8, 9] (fun o d t wr => ∃ (i ti : Nat) (dn : Bool) (v : Value) (lo : List (List At)) (vo : List Value), i ≤ ls.length ∧ i % 2 = 0 ∧ t = .int .i64 (i : Int) ∧ d = .bool dn ∧ o = v ∧ ti = total (ls.take i) ∧ SI w rb (.slice (some ⟨gv, 0, none⟩) l.length cv) l.length i ti dn v lo vo wr) (fun _ _ t _ => ls.length - (intOf t).toNat)
  case atStart => exact ⟨0, 0, false, _, [], [], Nat.zero_le _, rfl, rfl, rfl, rfl, rfl, S0.out⟩
  case round =>
    obtain ⟨i, ti, dn, v, lo, vo, hi, hie, rfl, rfl, rfl, hti, hS⟩ := hrel
    obtain ⟨pv, cvv, rfl⟩ := row_form hS.k.row
    have HS := hide hS
    have hTL := total_le ls i
    clear hS
    by_cases hlt : i < ls.length
    · have hlt1 : i + 1 < ls.length := by omega
      obtain ⟨a0, ka, ea⟩ := HK.out.el i hlt
      obtain ⟨b0, kb, eb⟩ := HK.out.el (i + 1) hlt1
      have EA := hide ea
      have EB := hide eb
      obtain ⟨g0, c0, rfl, hc0, _, hat0⟩ := ea
      obtain ⟨g1, c1, rfl, hc1, _, hat1⟩ := eb
      have hcell : ∃ gk, p = some ⟨gk, 0, none⟩ ∧ gk < w.heap.size ∧ w.cell? ⟨gk, i, none⟩ = some (.slice (some ⟨g0, 0, none⟩) (ls[i]).length c0) ∧ w.cell? ⟨gk, i + 1, none⟩ = some (.slice (some ⟨g1, 0, none⟩) (ls[i + 1]).length c1) := by
        rcases HC.out with h | ⟨gk, h1, h2, h3⟩
        · rw [h] at ka; simp at ka
        · exact ⟨gk, h1, h2, h3 i _ ka, h3 (i + 1) _ kb⟩
      obtain ⟨gk, rfl, hgk, kc0, kc1⟩ := hcell
      have hp0 := HPS.out ls[i] (List.getElem_mem hlt)
      have hp1 := HPS.out ls[i + 1] (List.getElem_mem hlt1)
      have t1 := total_step ls i hlt
      have t2 := total_step ls (i + 1) hlt1
      have t3 := total_le ls (i + 1 + 1)
      rw [show i + 1 + 1 = i + 2 from rfl] at t2 t3
      have hlt2 : ((i + 1 : Nat) : Int) < (ls.length : Int) := by omega
      have hw1 : IntKind.i64.wrap ((i : Int) + 1) = ((i + 1 : Nat) : Int) := by rw [IntKind.wrap_i64]; omega
      have HTI : Hid (ti + ((ls[i]).length + (ls[i + 1]).length) = total (ls.take (i + 2))) := hide (by omega)
      have hb0 : ti + ((ls[i]).length + (ls[i + 1]).length) ≤ 10000 := by omega
      obtain ⟨m0, hm0⟩ : ∃ m, (ls[i]).length = m + 1 := ⟨(ls[i]).length - 1, by omega⟩
      have hla : (ls[i])[m0]? = some (ls[i])[m0] := List.getElem?_eq_getElem (by omega)
      have HLA := hide (fun W (hb : Below w.heap.size w W) => last_any _ _ g0 0 c0 m0 W hm0 (by omega) hla (hat0.below hb))
      clear ka kb t1 t2 t3 hat0 hat1
      generalize (ls[i])[m0] = la at *
      generalize ls[i] = x0 at *
      generalize ls[i + 1] = y0 at *
      obtain ⟨n1, hn1⟩ : ∃ n, y0.length = n := ⟨_, rfl⟩
      rw [hm0] at kc0 EA HTI hb0 hc0
      rw [hn1] at kc1 EB HTI hb0 hc1 hp1
      replace EA : Hid (El w (some rb) (.slice (some ⟨g0, 0, none⟩) (m0 + 1) c0) x0) := EA
      have hKC : ∀ W, Below w.heap.size w W → W.cell? ⟨gk, i, none⟩ = some (.slice (some ⟨g0, 0, none⟩) (m0 + 1) c0) ∧ W.cell? ⟨gk, i + 1, none⟩ = some (.slice (some ⟨g1, 0, none⟩) n1 c1) := fun W hb => ⟨(hb.cell (p := ⟨gk, i, none⟩) hgk).trans kc0, (hb.cell (p := ⟨gk, i + 1, none⟩) hgk).trans kc1⟩
      have HKC := hide hKC
      clear hKC kc0 kc1
      obtain ⟨k0, k1⟩ := HKC.out _ HS.out.B
      have hlo : lo.length ≤ 110 := by have := HS.out.n1; omega
      go_wp2_with fail
      refine (HLA.out _ HS.out.B).mono ?_
      rintro e w1 ⟨rfl, hb1⟩
      have HS1 := hide (HS.out.below hb1)
      obtain ⟨j0, j1⟩ := HKC.out _ HS1.out.B
      have cb := HS1.out.c
      clear hb1 k0 k1 HS HLA
      cases dn
      · cases hls : Go.Op.bytesLess la.text.toList s.toList
        · -- at or behind the name: put it in first
          go_wp2_with fail
          go_region_law (first
            | (refine step_append_own rfl (.tmp 31) (.tmp 35) 98 rfl (w.heap.size + 1) 25 iV _ 1 24 Try.underlying98 hV hVz hVs hVb rfl (by decide) (.slice pv lo.length cvv) lo.length vo (by simp [Act.eval]) (S6.k.row.alloc _) ⟨w6.heap.size, 0, none⟩ 2 2 [.slice (some ⟨gt, 0, none⟩) 1 1, .slice (some ⟨gv, 0, none⟩) l.length cv] (by simp [Act.eval]) rfl (two_new _ _ _ _) (by simp [Value.oneCell']) (by unfold maxLen; omega) (by omega) (by have := S6.z; simp; omega) ?_; intro v7 w7 h1 h2 h3 h4; obtain ⟨p7, c7, rfl⟩ := row_form h1; have S7 := SI.add (i' := i) (ti' := ti) (done' := true) (x := [⟨4, 0, s, 0⟩]) (y := l) (S6.below ((Below.refl _ _).alloc (Nat.le_refl _) _)) h2 rfl h1 h4 (ET.below ((Below.refl _ _).alloc (Nat.le_refl _) _)) (ET2.below ((Below.refl _ _).alloc (Nat.le_refl _) _)) (EV.out.below (S6.B.trans (((Below.refl _ _).alloc (Nat.le_refl _) _).mono S6.B.size))) ((S6.below ((Below.refl _ _).alloc (Nat.le_refl _) _)).own EV.out) (by simp) hv1 (fun h => by cases h) (by have := HS1.out.n0 rfl; simp; omega))
            | (refine step_call1x rfl 67 (.tmp 32) 9 rfl (.string s) (by first | (simp [Act.eval]; done) | simp [Act.eval, Act.put]) Try.f67 Try.func67 (by kernel_rfl) (by kernel_rfl) (fun r w' => ∃ g, w1.heap.size ≤ g ∧ r = .agg #[.slice (some ⟨g, 0, none⟩) 1 1] ∧ AtomsO w' g 0 [⟨4, 0, s, 0⟩] ∧ Below w1.heap.size w1.drew w') (HT5.out _) ?_; rintro r w6 ⟨gt, hgt, rfl, hat, hb6⟩; have S6 := HS1.out.below ((Below.refl _ _).drew.trans hb6); have cb6 := S6.c; have ET : El w6 (some rb) (.slice (some ⟨gt, 0, none⟩) 1 1) [⟨4, 0, s, 0⟩] := ⟨gt, 1, rfl, Nat.le_refl _, fun e => by cases e; have := HS1.out.B.size; omega, hat⟩; have ET2 : El w6 (Value.slice pv lo.length cvv).ownBlock (.slice (some ⟨gt, 0, none⟩) 1 1) [⟨4, 0, s, 0⟩] := ⟨gt, 1, rfl, Nat.le_refl _, fun e => by have := (HS1.out.k.row.lt gt e.symm).2; omega, hat⟩))
          all_goals
            have HS7 := hide S7
            clear S7 h1 h2 h3 h4 ET ET2 hat S6 cb6
            obtain ⟨j7, l7⟩ := HKC.out _ HS7.out.B
            have hlo7 : (lo ++ [[⟨4, 0, s, 0⟩], l]).length ≤ 112 := by simp; omega
            obtain ⟨lo7, hlo7e⟩ : ∃ q, q = lo ++ [[⟨4, 0, s, 0⟩], l] := ⟨_, rfl⟩
            have hl7 : lo7.length = lo.length + 2 := by rw [hlo7e]; simp
            rw [← hlo7e] at HS7 hlo7
            have r7 := HS7.out.k.row
            rw [hl7] at r7
            have HR7 := hide r7
            have HL7 := hide hl7
            clear hlo7e r7 hl7
            generalize vo ++ [.slice (some ⟨gt, 0, none⟩) 1 1, .slice (some ⟨gv, 0, none⟩) l.length cv] = vo7 at *
            cases heq : (la.text.toList == s.toList)
            · go_wp2_with fail
              have hz01 : (0 : Int) ≤ (i : Int) + 1 := by omega
              have hlt3 : (i : Int) + 1 < (ls.length : Int) := by omega
              go_region_law ((refine step_append_own rfl (.tmp 40) (.tmp 50) 98 rfl (w.heap.size + 1) 25 iV _ 1 24 Try.underlying98 hV hVz hVs hVb rfl (by decide) (.slice p7 (lo.length + 2) c7) (lo.length + 2) vo7 (by simp [Act.eval]) (HR7.out.alloc _).drew ⟨w7.heap.size, 0, none⟩ 2 2 [.slice (some ⟨g0, 0, none⟩) (m0 + 1) c0, .slice (some ⟨g1, 0, none⟩) n1 c1] (by simp [Act.eval]) rfl (two_new _ _ _ _) (by simp [Value.oneCell']) (by unfold maxLen; omega) (by omega) (by have := HS7.out.z; show w.heap.size + 1 ≤ (w7.alloc _).heap.size; simp; omega) ?_; intro v9 w9 h1 h2 h3 h4; obtain ⟨pv9, cv9, rfl⟩ := row_form h1; have S9 := SI.add (i' := i + 2) (ti' := ti + (m0 + 1 + n1)) (done' := true) (x := x0) (y := y0) (HS7.out.below ((Below.refl _ _).alloc (Nat.le_refl _) _).drew) h2 (by have := HL7.out; omega) h1 h4 (EA.out.below (HS7.out.B.trans ((((Below.refl _ _).alloc (Nat.le_refl _) _).drew).mono HS7.out.B.size))) ((HS7.out.below ((Below.refl _ _).alloc (Nat.le_refl _) _).drew).own EA.out) (EB.out.below (HS7.out.B.trans ((((Below.refl _ _).alloc (Nat.le_refl _) _).drew).mono HS7.out.B.size))) ((HS7.out.below ((Below.refl _ _).alloc (Nat.le_refl _) _).drew).own EB.out) (by omega) (by omega) (fun h => by cases h) (by have := HS7.out.n1; omega)))
              all_goals
                have HS9 := hide S9
                clear S9 h1 h2 h3 h4
                go_wp2
                go_roundw
                case rel => exact ⟨i + 2, ti + (m0 + 1 + n1), _, _, _, _, by omega, by omega, by go_num, rfl, rfl, HTI.out, HS9.out⟩
                case measure => simp [intOf]; omega
            · go_wp2
              go_roundw
              case rel => exact ⟨i + 2, ti + (m0 + 1 + n1), _, _, _, _, by omega, by omega, by go_num, rfl, rfl, HTI.out, SI.next (i' := i + 2) (ti' := ti + (m0 + 1 + n1)) HS7.out (Nat.le_add_right _ _) (Nat.le_add_right _ _)⟩
              case measure => simp [intOf]; omega
        · have hne : (la.text.toList == s.toList) = false := by
            cases h : (la.text.toList == s.toList)
            · rfl
            · rw [beq_iff_eq] at h; rw [h, less_self'] at hls; cases hls
          go_wp2_with fail
          have hz01 : (0 : Int) ≤ (i : Int) + 1 := by omega
          have hlt3 : (i : Int) + 1 < (ls.length : Int) := by omega
          go_region_law ((refine step_append_own rfl (.tmp 40) (.tmp 50) 98 rfl (w.heap.size + 1) 25 iV _ 1 24 Try.underlying98 hV hVz hVs hVb rfl (by decide) (.slice pv lo.length cvv) lo.length vo (by simp [Act.eval]) (HS1.out.k.row.alloc _).drew ⟨w1.heap.size, 0, none⟩ 2 2 [.slice (some ⟨g0, 0, none⟩) (m0 + 1) c0, .slice (some ⟨g1, 0, none⟩) n1 c1] (by simp [Act.eval]) rfl (two_new _ _ _ _) (by simp [Value.oneCell']) (by unfold maxLen; omega) (by omega) (by have := HS1.out.z; show w.heap.size + 1 ≤ (w1.alloc _).heap.size; simp; omega) ?_; intro v9 w9 h1 h2 h3 h4; obtain ⟨pv9, cv9, rfl⟩ := row_form h1; have S9 := SI.add (i' := i + 2) (ti' := ti + (m0 + 1 + n1)) (done' := false) (x := x0) (y := y0) (HS1.out.below ((Below.refl _ _).alloc (Nat.le_refl _) _).drew) h2 rfl h1 h4 (EA.out.below (HS1.out.B.trans ((((Below.refl _ _).alloc (Nat.le_refl _) _).drew).mono HS1.out.B.size))) ((HS1.out.below ((Below.refl _ _).alloc (Nat.le_refl _) _).drew).own EA.out) (EB.out.below (HS1.out.B.trans ((((Below.refl _ _).alloc (Nat.le_refl _) _).drew).mono HS1.out.B.size))) ((HS1.out.below ((Below.refl _ _).alloc (Nat.le_refl _) _).drew).own EB.out) (by omega) (by omega) (fun _ => by have := HS1.out.n0 rfl; omega) (by have := HS1.out.n1; omega)))
          all_goals
            have HS9 := hide S9
            clear S9 h1 h2 h3 h4
            go_wp2
            go_roundw
            case rel => exact ⟨i + 2, ti + (m0 + 1 + n1), _, _, _, _, by omega, by omega, by go_num, rfl, rfl, HTI.out, HS9.out⟩
            case measure => simp [intOf]; omega
      · cases heq : (la.text.toList == s.toList)
        · go_wp2_with fail
          have hz01 : (0 : Int) ≤ (i : Int) + 1 := by omega
          have hlt3 : (i : Int) + 1 < (ls.length : Int) := by omega
          go_region_law ((refine step_append_own rfl (.tmp 40) (.tmp 50) 98 rfl (w.heap.size + 1) 25 iV _ 1 24 Try.underlying98 hV hVz hVs hVb rfl (by decide) (.slice pv lo.length cvv) lo.length vo (by simp [Act.eval]) (HS1.out.k.row.alloc _).drew ⟨w1.heap.size, 0, none⟩ 2 2 [.slice (some ⟨g0, 0, none⟩) (m0 + 1) c0, .slice (some ⟨g1, 0, none⟩) n1 c1] (by simp [Act.eval]) rfl (two_new _ _ _ _) (by simp [Value.oneCell']) (by unfold maxLen; omega) (by omega) (by have := HS1.out.z; show w.heap.size + 1 ≤ (w1.alloc _).heap.size; simp; omega) ?_; intro v9 w9 h1 h2 h3 h4; obtain ⟨pv9, cv9, rfl⟩ := row_form h1; have S9 := SI.add (i' := i + 2) (ti' := ti + (m0 + 1 + n1)) (done' := true) (x := x0) (y := y0) (HS1.out.below ((Below.refl _ _).alloc (Nat.le_refl _) _).drew) h2 rfl h1 h4 (EA.out.below (HS1.out.B.trans ((((Below.refl _ _).alloc (Nat.le_refl _) _).drew).mono HS1.out.B.size))) ((HS1.out.below ((Below.refl _ _).alloc (Nat.le_refl _) _).drew).own EA.out) (EB.out.below (HS1.out.B.trans ((((Below.refl _ _).alloc (Nat.le_refl _) _).drew).mono HS1.out.B.size))) ((HS1.out.below ((Below.refl _ _).alloc (Nat.le_refl _) _).drew).own EB.out) (by omega) (by omega) (fun h => by cases h) (by have := HS1.out.n1; omega)))
          all_goals
            have HS9 := hide S9
            clear S9 h1 h2 h3 h4
            go_wp2
            go_roundw
            case rel => exact ⟨i + 2, ti + (m0 + 1 + n1), _, _, _, _, by omega, by omega, by go_num, rfl, rfl, HTI.out, HS9.out⟩
            case measure => simp [intOf]; omega
        · go_wp2
          go_roundw
          case rel => exact ⟨i + 2, ti + (m0 + 1 + n1), _, _, _, _, by omega, by omega, by go_num, rfl, rfl, HTI.out, SI.next (i' := i + 2) (ti' := ti + (m0 + 1 + n1)) HS1.out (Nat.le_add_right _ _) (Nat.le_add_right _ _)⟩
          case measure => simp [intOf]; omega
    · have hie2 : i = ls.length := by omega
      have HTT : Hid (ti = total ls) := hide (by rw [hti, hie2, List.take_length])
      have hlo : lo.length ≤ 110 := by have := HS.out.n1; omega
      have cb := HS.out.c
      cases dn
      · go_wp2_with fail
        go_region_law (first
          | (refine step_append_own rfl (.tmp 54) (.tmp 58) 98 rfl (w.heap.size + 1) 25 iV _ 1 24 Try.underlying98 hV hVz hVs hVb rfl (by decide) (.slice pv lo.length cvv) lo.length vo (by simp [Act.eval]) (S6.k.row.alloc _) ⟨w6.heap.size, 0, none⟩ 2 2 [.slice (some ⟨gt, 0, none⟩) 1 1, .slice (some ⟨gv, 0, none⟩) l.length cv] (by simp [Act.eval]) rfl (two_new _ _ _ _) (by simp [Value.oneCell']) (by unfold maxLen; omega) (by omega) (by have := S6.z; simp; omega) ?_; intro v7 w7 h1 h2 h3 h4; obtain ⟨p7, c7, rfl⟩ := row_form h1; have S7 := SI.add (i' := i) (ti' := ti) (done' := true) (x := [⟨4, 0, s, 0⟩]) (y := l) (S6.below ((Below.refl _ _).alloc (Nat.le_refl _) _)) h2 rfl h1 h4 (ET.below ((Below.refl _ _).alloc (Nat.le_refl _) _)) (ET2.below ((Below.refl _ _).alloc (Nat.le_refl _) _)) (EV.out.below (S6.B.trans (((Below.refl _ _).alloc (Nat.le_refl _) _).mono S6.B.size))) ((S6.below ((Below.refl _ _).alloc (Nat.le_refl _) _)).own EV.out) (by simp) hv1 (fun h => by cases h) (by have := HS.out.n0 rfl; simp; omega))
          | (refine step_call1x rfl 67 (.tmp 55) 9 rfl (.string s) (by first | (simp [Act.eval]; done) | simp [Act.eval, Act.put]) Try.f67 Try.func67 (by kernel_rfl) (by kernel_rfl) (fun r w' => ∃ g, wr.heap.size ≤ g ∧ r = .agg #[.slice (some ⟨g, 0, none⟩) 1 1] ∧ AtomsO w' g 0 [⟨4, 0, s, 0⟩] ∧ Below wr.heap.size wr.drew w') (HT5.out _) ?_; rintro r w6 ⟨gt, hgt, rfl, hat, hb6⟩; have S6 := HS.out.below ((Below.refl _ _).drew.trans hb6); have cb6 := S6.c; have ET : El w6 (some rb) (.slice (some ⟨gt, 0, none⟩) 1 1) [⟨4, 0, s, 0⟩] := ⟨gt, 1, rfl, Nat.le_refl _, fun e => by cases e; have := HS.out.B.size; omega, hat⟩; have ET2 : El w6 (Value.slice pv lo.length cvv).ownBlock (.slice (some ⟨gt, 0, none⟩) 1 1) [⟨4, 0, s, 0⟩] := ⟨gt, 1, rfl, Nat.le_refl _, fun e => by have := (HS.out.k.row.lt gt e.symm).2; omega, hat⟩))
        all_goals
          have HS7 := hide S7
          clear S7 h1 h2 h3 h4 ET ET2 hat S6 cb6
          go_wp2
          go_ret
          exact ⟨_, _, _, rfl, ⟨row_mono HS7.out.k.row (Nat.le_succ _), HS7.out.k.kds, HS7.out.k.dis⟩, by have := HS7.out.n1; omega, HS7.out.ev, by have := HS7.out.n1; have := HTT.out; omega, HS7.out.ps, HS7.out.B⟩
      · go_wp2
        go_ret
        exact ⟨_, _, _, rfl, ⟨row_mono HS.out.k.row (Nat.le_succ _), HS.out.k.kds, HS.out.k.dis⟩, by have := HS.out.n1; omega, HS.out.ev, by have := HS.out.n1; have := HTT.out; omega, HS.out.ps, HS.out.B⟩
end Go.Proofs.Ytfpdoafpimaoaaa.Vl
