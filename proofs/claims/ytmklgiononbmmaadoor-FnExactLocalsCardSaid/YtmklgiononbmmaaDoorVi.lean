/- Walks: ValidTree, on the specification's side. -/
import Derived.Test.YtmklgiononbmmaaDoorVh
namespace Go.Proofs.YtmklgiononbmmaaDoor
open Go.RowKit

/-- The worlds in which all that lay in w lies as it was. -/
def KB (w : World) : Type := { x : World // Below w.heap.size w x }
def KB.w {w : World} (q : KB w) : World := q.1
theorem KB.below {w : World} (q : KB w) : Below w.heap.size w q.w := q.2
theorem kb_call {P : Program} {f : FuncId} {args : Array Value} {r : Value} {w : World} (h : ∀ w1, Below w.heap.size w w1 → Calls P f args w1 fun e w' => e = .returned r ∧ Below w1.heap.size w1 w') (q : KB w) :
    Calls P f args q.w fun e w'' => e = .returned r ∧ ∃ q' : KB w, w'' = q'.w :=
  (h q.w q.2).mono fun _ w2 hw => ⟨hw.1, ⟨⟨w2, q.2.trans (hw.2.mono q.2.size)⟩, rfl⟩⟩
theorem row_below {w w1 : World} {base : Nat} {e : TypeId} {size : Nat} {v : Value} {n : Nat} {xs : List Value} (h : w.ownsRow base e size v n xs) (hb : Below w.heap.size w w1) : w1.ownsRow base e size v n xs := by
  have hg : w.grownBy w1 none := ⟨hb.os, hb.tape, hb.output, hb.size, fun k hk _ => hb.block k hk⟩
  refine h.kept hg ?_
  cases hv : v.ownBlock with
  | none => exact .inl rfl
  | some k => exact .inr (by simp)

/-- The height of a node over kids whose heights are known. -/
def Tr.hmax (hs : List Nat) : List Nat → Nat → Nat
  | [], h => h
  | x :: r, h => Tr.hmax hs r (if h < hs[x]?.getD 0 + 1 then hs[x]?.getD 0 + 1 else h)
def Tr.vgo (ns : List Tr.Nd) : List (Tr.Nd × List Nat) → List Nat → Bool
  | [], _ => true
  | (d, k) :: r, hs => !decide (50 < Tr.hmax hs k 0) && Tr.plain d && Tr.kidsOk ns d.kind k && Tr.vgo ns r (hs ++ [Tr.hmax hs k 0])
def Tr.lastKind (ns : List Tr.Nd) : Int := match ns.getLast? with
  | some d => d.kind
  | none => 0
def Tr.valid (ns : List Tr.Nd) : Bool := Tr.inr ns.length 1 5000 && (Tr.lastKind ns == 24) && Tr.kidsGood ns && Tr.vgo ns (ns.zip (Tr.kids ns)) []

theorem Tr.hmax_at (hs ls : List Nat) (j h : Nat) (hj : j < ls.length) (hx : ls[j] < hs.length) : Tr.hmax hs (ls.drop j) h = Tr.hmax hs (ls.drop (j + 1)) (if h < hs[ls[j]] + 1 then hs[ls[j]] + 1 else h) := by
  rw [List.drop_eq_getElem_cons hj, Tr.hmax]; simp [hx]
theorem Tr.vgo_at (ns : List Tr.Nd) (ks : List (List Nat)) (i : Nat) (hs : List Nat) (h1 : i < ns.length) (h2 : i < ks.length) :
    Tr.vgo ns ((ns.zip ks).drop i) hs = (!decide (50 < Tr.hmax hs ks[i] 0) && Tr.plain ns[i] && Tr.kidsOk ns ns[i].kind ks[i] && Tr.vgo ns ((ns.zip ks).drop (i + 1)) (hs ++ [Tr.hmax hs ks[i] 0])) := by
  rw [List.drop_eq_getElem_cons (by simp; omega), List.getElem_zip]; rfl

set_option maxRecDepth 100000 in
set_option maxHeartbeats 4000000 in
theorem valid_any (ns : List Tr.Nd) (tg tc : Nat) (w : World) (hn : ns.length ≤ 1048576) (ht : NodesAt w tg ns) :
    Calls Tryd.prog 25 #[.agg #[.slice (some ⟨tg, 0, none⟩) ns.length tc]] w fun e w' => e = .returned (.bool (Tr.valid ns)) ∧ Below w.heap.size w w' := by
  obtain ⟨iI, hI, hIz, hIs, hIb⟩ := info_parts Tryd.infoInt
  have r1 : Below w.heap.size w (w.alloc (.cells #[.slice (some ⟨tg, 0, none⟩) ns.length tc] 31)) := (Below.refl _ _).alloc (Nat.le_refl _) _
  have HT := hide ht
  cases hin : Tr.inr ns.length 1 5000
  · have HD : Hid (Tr.valid ns = false) := hide (by simp [Tr.valid, hin])
    clear ht
    go_enter Tryd.func25, Tryd.ntmps25
    go_wp2_with (go_at_call 34; refine (in_any _ _ _ _).mono ?_; rintro e w' ⟨rfl, rfl⟩)
    go_ret
    exact ⟨ret_bool HD.out.symm, r1⟩
  · obtain ⟨hn1, hn2⟩ := Tr.inr_true hin
    obtain ⟨m, hm⟩ : ∃ m, ns.length = m + 1 := ⟨ns.length - 1, by omega⟩
    obtain ⟨a0, _⟩ := ht.2 m (by omega)
    have HLK := hide (show Tr.lastKind ns = (ns[m]'(by omega)).kind by
      have e : ns.getLast? = some (ns[m]'(by omega)) := by rw [List.getLast?_eq_getElem?, show ns.length - 1 = m from by omega, List.getElem?_eq_getElem (by omega)]
      unfold Tr.lastKind; rw [e])
    rw [hm] at r1
    have a1 := (r1.cell (p := ⟨tg, m * 5, none⟩) ht.1).trans a0
    clear ht a0
    generalize (ns[m]'(by omega)).kind = lk at *
    have hin2 : Tr.inr ((m : Int) + 1) 1 5000 = true := by rw [← hin, hm]; rfl
    cases hk : (lk != 24)
    · have HLK2 : Hid (Tr.lastKind ns = 24) := hide (by simp at hk; rw [HLK.out, hk])
      have HB0 := hide r1
      cases hkg : Tr.kidsGood ns
      · have HD : Hid (Tr.valid ns = false) := hide (by simp [Tr.valid, hkg])
        go_enter Tryd.func25, Tryd.ntmps25
        go_wp2_with (first | (go_at_call 34; refine (in_any _ _ _ _).mono ?_; rintro e w' ⟨rfl, rfl⟩) | (go_at_call 46; rw [← hm]; refine (kids_any ns tg tc _ hn (by have := HT.out.below HB0.out; rwa [← hm] at this)).mono ?_; rintro e w1 ⟨g4, c4, vs, rfl, ho4, hrows, hb1⟩; rw [hm, World.size_alloc] at hb1 ho4 hrows))
        go_ret
        exact ⟨ret_bool HD.out.symm, r1.trans (hb1.mono (Nat.le_succ _))⟩
      · have hkl := Tr.kids_len hkg
        have HD : Hid (Tr.valid ns = Tr.vgo ns (ns.zip (Tr.kids ns)) []) := hide (by simp [Tr.valid, hkg, HLK2.out, hin])
        have HKL := hide (Tr.kids_lt ns)
        have HKN := hide hkl
        go_enter Tryd.func25, Tryd.ntmps25
        go_wp2_with (first | (go_at_call 34; refine (in_any _ _ _ _).mono ?_; rintro e w' ⟨rfl, rfl⟩) | (go_at_call 46; rw [← hm]; refine (kids_any ns tg tc _ hn (by have := HT.out.below HB0.out; rwa [← hm] at this)).mono ?_; rintro e w1 ⟨g4, c4, vs, rfl, ho4, hrows, hb1⟩; rw [hm, World.size_alloc] at hb1 ho4 hrows))
        have HB1 : Hid (Below w.heap.size w w1) := hide (r1.trans (hb1.mono (Nat.le_succ _)))
        have HO4 := hide ho4
        have HRW := hide hrows
        have hbox : w1.cell? ⟨w.heap.size, 0, none⟩ = some (.slice (some ⟨tg, 0, none⟩) (m + 1) tc) := (hb1.cell (p := ⟨w.heap.size, 0, none⟩) (Nat.lt_succ_self _)).trans (by simp)
        have hbl : w.heap.size < w1.heap.size := Nat.lt_of_lt_of_le (by simp) hb1.size
        have HBX := hide hbox
        clear hrows ho4 hb1 hbox a1
        go_wp2
        go_loopw [6, 7] (fun v6 t wr => ∃ (i : Nat) (hs : List Nat) (g6 c6 : Nat), i ≤ m + 1 ∧ t = .int .i64 i ∧ v6 = .slice (some ⟨g6, 0, none⟩) i c6 ∧ hs.length = i ∧ wr.ownsRow w1.heap.size 3 1 (.slice (some ⟨g6, 0, none⟩) i c6) i (hs.map vint) ∧ Below w1.heap.size w1 wr ∧ (∀ x ∈ hs, x ≤ 50) ∧
            Tr.vgo ns (ns.zip (Tr.kids ns)) [] = Tr.vgo ns ((ns.zip (Tr.kids ns)).drop i) hs) (fun _ t _ => m + 1 - (intOf t).toNat)
        case atStart =>
          refine ⟨0, [], w1.heap.size, 0, Nat.zero_le _, rfl, rfl, rfl, ?_, ?_, (fun x h => by cases h), rfl⟩
          · exact World.ownsRow_lit (base := w1.heap.size) (e := 3) (size := 1) w1 #[] 0 (Nat.le_refl _) (Nat.zero_le _) rfl
          · exact (Below.refl _ _).alloc (Nat.le_refl _) _
        case round =>
          obtain ⟨i, hs, g6, c6, him, rfl, rfl, hhl, ho6, hB, h50, he⟩ := hrel
          have HE := hide he
          have H50 := hide h50
          clear he h50
          by_cases hlt : i < m + 1
          · have hik : i < (Tr.kids ns).length := by have := HKN.out; omega
            obtain ⟨gi, ci, hv, _, _, _, hints, hci⟩ := HRW.out.2 i hik
            have HKT := hide (HKL.out i hik)
            have hshort := Tr.kids_short ns i hik
            have c4i := (hB.cell (p := ⟨g4, i, none⟩) (row_room HO4.out).2.2).trans ((HO4.out.cellAt i (by omega)).trans hv)
            have HI2 := hide (hints.below hB)
            have HV := hide (Tr.vgo_at ns (Tr.kids ns) i hs (by omega) hik)
            have HC4 := hide ((HO4.out.cellAt i (by omega)).trans hv)
            have HIW := hide hints
            clear hv hints
            generalize (Tr.kids ns)[i] = ls at *
            obtain ⟨_, hg6b, hg6⟩ := row_room ho6
            go_wp2
            go_loop [8, 9] (fun a b => ∃ k h : Nat, k ≤ ls.length ∧ b = .int .i64 k ∧ a = .int .i64 h ∧ h ≤ 51 ∧ Tr.hmax hs (ls.drop k) h = Tr.hmax hs ls 0) (fun _ b => ls.length - (intOf b).toNat)
            case atStart => exact ⟨0, 0, Nat.zero_le _, rfl, rfl, by omega, by rw [List.drop_zero]⟩
            case round =>
              obtain ⟨k, h, hk, rfl, rfl, hh, hm2⟩ := hrel
              have HM := hide hm2
              clear hm2
              by_cases hkl2 : k < ls.length
              · have b0 := HI2.out.2 k hkl2
                rw [Nat.zero_add] at b0
                have hx : ls[k] < hs.length := by have := HKT.out ls[k] (List.getElem_mem _); omega
                have b1 : wr.cell? ⟨g6, ls[k], none⟩ = some (.int .i64 hs[ls[k]]) := by rw [ho6.cellAt ls[k] (by omega)]; simp [hx, vint]
                have HN := hide (Tr.hmax_at hs ls k h hkl2 hx)
                have hy := H50.out hs[ls[k]] (List.getElem_mem _)
                generalize hs[ls[k]] = y at *
                generalize ls[k] = x at *
                by_cases hc : (h : Int) < (y : Int) + 1
                · go_wp2
                  go_round
                  case rel => exact ⟨k + 1, y + 1, by omega, by go_num, by go_num, by omega, by rw [← HM.out, HN.out, if_pos (by omega)]⟩
                  case measure => simp [intOf]; omega
                · go_wp2
                  go_round
                  case rel => exact ⟨k + 1, h, by omega, by go_num, rfl, by omega, by rw [← HM.out, HN.out, if_neg (by omega)]⟩
                  case measure => simp [intOf]; omega
              · have HH := hide (show Tr.hmax hs ls 0 = h by rw [← HM.out, List.drop_of_length_le (by omega)]; rfl)
                have hw1 := hB.size
                go_wp2_with (at_builtin; refine wpList_append_own_at _ rfl _ _ 36 rfl w1.heap.size 3 iI (.int .i64 0) 1 8 Tryd.underlying36 hI hIz hIs hIb rfl (by decide) (.slice (some ⟨g6, 0, none⟩) i c6) i (hs.map vint) rfl (ho6.alloc _) ⟨wr.heap.size, 0, none⟩ 1 1 [.int .i64 h] rfl rfl (cell_one _ _ _) (by simp [Value.oneCell']) (by unfold maxLen; omega) (by omega) (by simp; omega) ?_)
                intro v7 w2 hown2 hgrow2 hnil2 hat2
                obtain ⟨g7, c7, rfl, hg7⟩ := lies_form hown2 hnil2 (by simpa [Value.ownBlock] using hat2)
                have hB2 : Below w1.heap.size w1 w2 := (hB.alloc hw1 _).grown hgrow2 (by simp; omega) (fun q e => by simp [Value.ownBlock] at e; omega)
                clear hgrow2 hnil2 hat2 c4i
                have hBw : Below w.heap.size w w2 := HB1.out.trans (hB2.mono (Nat.le_of_lt hbl))
                have hN2 := HT.out.below hBw
                obtain ⟨n0, n1, n2, n3, n4⟩ := hN2.2 i (by omega)
                have x0 := (hB2.cell (p := ⟨w.heap.size, 0, none⟩) hbl).trans HBX.out
                have x1 := (hB2.cell (p := ⟨g4, i, none⟩) (row_room HO4.out).2.2).trans HC4.out
                have hsz := hB2.size
                have htg := hN2.1
                have hg42 : g4 < w2.heap.size := Nat.lt_of_lt_of_le (row_room HO4.out).2.2 hsz
                have f0 := fun q : KB w2 => (q.below.cell (p := ⟨w.heap.size, 0, none⟩) (Nat.lt_of_lt_of_le hbl hsz)).trans x0
                have f1 := fun q : KB w2 => (q.below.cell (p := ⟨g4, i, none⟩) hg42).trans x1
                have f2 := fun q : KB w2 => (q.below.cell (p := ⟨tg, i * 5, none⟩) htg).trans n0
                have f3 := fun q : KB w2 => (q.below.cell (p := ⟨tg, i * 5 + 1, none⟩) htg).trans n1
                have f4 := fun q : KB w2 => (q.below.cell (p := ⟨tg, i * 5 + 2, none⟩) htg).trans n2
                have f5 := fun q : KB w2 => (q.below.cell (p := ⟨tg, i * 5 + 3, none⟩) htg).trans n3
                have f6 := fun q : KB w2 => (q.below.cell (p := ⟨tg, i * 5 + 4, none⟩) htg).trans n4
                have hP := fun w' (_ : Below w2.heap.size w2 w') => plain_any (ns[i]'(by omega)).kind (ns[i]'(by omega)).op (ns[i]'(by omega)).n (ns[i]'(by omega)).kids (ns[i]'(by omega)).text w'
                have hKK := fun w' (hb : Below w2.heap.size w2 w') => kidsOk_any (ns[i]'(by omega)).kind ns ls tg tc gi ci w' (by omega) (hN2.below hb) ((HIW.out.below hB2).below hb) (fun x hx => by have := HKT.out x hx; omega) hci
                have HFIN : Hid (Tr.valid ns = (!decide (50 < h) && Tr.plain (ns[i]'(by omega)) && Tr.kidsOk ns (ns[i]'(by omega)).kind ls && Tr.vgo ns ((ns.zip (Tr.kids ns)).drop (i + 1)) (hs ++ [h]))) := hide (by rw [HD.out, HE.out, HV.out, HH.out])
                clear n0 n1 n2 n3 n4 x0 x1 hN2 HV HE
                generalize (ns[i]'(by omega)) = d at *
                rw [hm] at hKK
                have HP := hide hP
                have HK := hide hKK
                clear hP hKK
                haveI hne : Nonempty (KB w2) := ⟨⟨_, Below.refl _ _⟩⟩
                by_cases h51 : 50 < h
                · go_wp2
                  have hg50 : (50 : Int) < (h : Int) := by omega
                  refine region_class (KB.w (w := w2)) (by kernel_rfl) (by kernel_rfl) ⟨⟨_, below_drewN (Below.refl _ _) _⟩, rfl⟩ ?_
                  repeat (go_big_quiet_step (fail))
                  refine wpQuiet_nil ?_
                  rintro _ ⟨q, rfl⟩
                  have hBq := q.below
                  go_wp2
                  go_ret
                  refine ⟨ret_bool ?_, hBw.trans (hBq.mono (by omega))⟩
                  rw [HFIN.out]; simp [h51]
                · cases hp : Tr.plain d
                  · have hP2 := HP.out
                    simp only [show Tr.plain ⟨d.kind, d.op, d.n, d.text, d.kids⟩ = false from hp] at hP2
                    have HP2 := hide hP2
                    clear hP2
                    go_wp2
                    have hg50 : ¬ ((50 : Int) < (h : Int)) := by omega
                    refine region_class (KB.w (w := w2)) (by kernel_rfl) (by kernel_rfl) ⟨⟨_, below_drewN (Below.refl _ _) _⟩, rfl⟩ ?_
                    repeat (go_big_quiet_step ((go_at_call 47; exact kb_call HP2.out _)))
                    refine wpQuiet_nil ?_
                    rintro _ ⟨q, rfl⟩
                    have hBq := q.below
                    go_wp2
                    go_ret
                    refine ⟨ret_bool ?_, hBw.trans (hBq.mono (by omega))⟩
                    rw [HFIN.out, hp]; simp
                  · have hP2 := HP.out
                    simp only [show Tr.plain ⟨d.kind, d.op, d.n, d.text, d.kids⟩ = true from hp] at hP2
                    have HP2 := hide hP2
                    clear hP2
                    cases hko : Tr.kidsOk ns d.kind ls
                    · have hK2 := HK.out
                      simp only [hko] at hK2
                      have HK2 := hide hK2
                      clear hK2
                      go_wp2
                      have hg50 : ¬ ((50 : Int) < (h : Int)) := by omega
                      refine region_class (KB.w (w := w2)) (by kernel_rfl) (by kernel_rfl) ⟨⟨_, below_drewN (Below.refl _ _) _⟩, rfl⟩ ?_
                      repeat (go_big_quiet_step (first | (go_at_call 47; exact kb_call HP2.out _) | (go_at_call 48; exact kb_call HK2.out _)))
                      refine wpQuiet_nil ?_
                      rintro _ ⟨q, rfl⟩
                      have hBq := q.below
                      go_wp2
                      go_ret
                      refine ⟨ret_bool ?_, hBw.trans (hBq.mono (by omega))⟩
                      rw [HFIN.out, hko]; simp
                    · have hK2 := HK.out
                      simp only [hko] at hK2
                      have HK2 := hide hK2
                      clear hK2
                      go_wp2
                      have hg50 : ¬ ((50 : Int) < (h : Int)) := by omega
                      refine region_class (KB.w (w := w2)) (by kernel_rfl) (by kernel_rfl) ⟨⟨_, below_drewN (Below.refl _ _) _⟩, rfl⟩ ?_
                      repeat (go_big_quiet_step (first | (go_at_call 47; exact kb_call HP2.out _) | (go_at_call 48; exact kb_call HK2.out _)))
                      refine wpQuiet_nil ?_
                      rintro _ ⟨q, rfl⟩
                      have hBq := q.below
                      have hownq := row_below hown2 hBq
                      go_wp2
                      go_roundw
                      case rel =>
                        refine ⟨i + 1, hs ++ [h], g7, c7, by omega, by go_num, rfl, by simp; omega, ?_, hB2.trans (hBq.mono hsz), ?_, ?_⟩
                        · rw [List.map_append]; exact hownq
                        · intro x hx
                          rcases List.mem_append.1 hx with hx | hx
                          · exact H50.out x hx
                          · have : x = h := by simpa using hx
                            omega
                        · rw [← HD.out, HFIN.out, hp, hko, decide_eq_false (by omega)]; rfl
                      case measure => simp [intOf]; omega
          · go_wp2
            go_ret
            refine ⟨ret_bool ?_, HB1.out.trans (hB.mono (Nat.le_of_lt hbl))⟩
            rw [HD.out, HE.out, List.drop_of_length_le (by simp; omega)]; rfl
    · have HD : Hid (Tr.valid ns = false) := hide (by simp at hk; simp [Tr.valid, HLK.out, hk])
      go_enter Tryd.func25, Tryd.ntmps25
      go_wp2_with (go_at_call 34; refine (in_any _ _ _ _).mono ?_; rintro e w' ⟨rfl, rfl⟩)
      go_ret
      exact ⟨ret_bool HD.out.symm, r1⟩
end Go.Proofs.YtmklgiononbmmaaDoor
