/- What fits, on the program's side: a file. -/
import Derived.Test.YtmklgiononbmmaaDoorNe
namespace Go.Proofs.YtmklgiononbmmaaDoor
open Go.RowKit

theorem row_sameV {w w' : World} {base size : Nat} {e : TypeId} {v : Value} {n : Nat} {xs : List Value} (h : w.ownsRow base e size v n xs) (hb : ∀ g, base ≤ g → g < w.heap.size → w'.heap[g]? = w.heap[g]?) : w'.ownsRow base e size v n xs := by
  refine ⟨h.1, ?_⟩
  rcases h.2 with h1 | ⟨g', cap', cur, hv, h2, h3, h4⟩
  · exact .inl h1
  · exact .inr ⟨g', cap', cur, hv, h2, (hb g' h2 (Array.getElem?_eq_some_iff.1 h3).1).trans h3, h4⟩
theorem Tr.ents_append (ns : List Tr.Nd) (a b : List Nat) (e : Tr.Sp × Tr.St) : Tr.ents ns (a ++ b) e = Tr.ents ns b (Tr.ents ns a e) := by
  unfold Tr.ents; rw [List.foldl_append]
theorem Tr.ents_at (ns : List Tr.Nd) (ls : List Nat) (i : Nat) (e : Tr.Sp × Tr.St) (h : i < ls.length) : Tr.ents ns (ls.take (i + 1)) e = Tr.enterS ns ls[i] (Tr.ents ns (ls.take i) e) := by
  rw [List.take_succ_eq_append_getElem h, Tr.ents_append]; rfl
theorem Tr.ents_len (ns : List Tr.Nd) (ls : List Nat) (e : Tr.Sp × Tr.St) : (Tr.ents ns ls e).1.length ≤ e.1.length + ls.length := by
  unfold Tr.ents
  induction ls generalizing e with
  | nil => simp
  | cons x r ih =>
    rw [List.foldl_cons]
    have h1 := ih (Tr.enterS ns x e)
    have h2 := Tr.enterS_len ns x e
    rw [List.length_cons]; omega
theorem Tr.flt_at (ns : List Tr.Nd) (ls : List Nat) (i : Nat) (h : i < ls.length) : (ls.take (i + 1)).filter (fun x => Tr.kindOf ns x != 23) = (ls.take i).filter (fun x => Tr.kindOf ns x != 23) ++ (if Tr.kindOf ns ls[i] = 23 then [] else [ls[i]]) := by
  rw [List.take_succ_eq_append_getElem h, List.filter_append]
  congr 1
  by_cases e : Tr.kindOf ns ls[i] = 23 <;> simp [e]

/-- What holds while a file's names are entered. -/
structure Fi (ns : List Tr.Nd) (cg bg : Nat) (w : World) (p : Option Addr) (sc : Tr.Sp) (s : Tr.St) (wr : World) : Prop where
  kp : Kp cg bg w wr
  sz : w.heap.size + 1 < wr.heap.size
  c0 : wr.cell? ⟨w.heap.size + 1, 0, none⟩ = some (.map (some w.heap.size))
  c1 : wr.cell? ⟨w.heap.size + 1, 1, none⟩ = some (.pointer p)
  sp : SpAt wr w.heap.size sc
  dy : Dy ns.length cg bg s wr
  l1 : cg < w.heap.size
  l2 : bg < w.heap.size
theorem Fi.start {ns : List Tr.Nd} {cg bg : Nat} {w : World} {p : Option Addr} {s : Tr.St} (hD : Dy ns.length cg bg s w) : Fi ns cg bg w p [] s ((w.alloc (.map #[] 0)).alloc (scO w p)) := by
  obtain ⟨n0, n1, n2, n3, n4⟩ := sc_new w p
  exact ⟨Kp.of_below n3, by omega, n0, n1, n2, hD.below n3, (hD.c.lt cg rfl).2, (hD.b.lt bg rfl).2⟩
theorem Fi.enter {ns : List Tr.Nd} {cg bg : Nat} {w : World} {p : Option Addr} {sc sc' : Tr.Sp} {s s' : Tr.St} {wr wx : World} (h : Fi ns cg bg w p sc s wr) (hu : Ku cg bg w.heap.size wr wx) (hd : Dy ns.length cg bg s' wx) (hs : SpAt wx w.heap.size sc') : Fi ns cg bg w p sc' s' wx := by
  have h1 := h.l1
  have h2 := h.l2
  refine ⟨Ku.kp h.kp hu (Nat.le_refl _), Nat.lt_of_lt_of_le h.sz hu.size, ?_, ?_, hs, hd, h.l1, h.l2⟩
  · exact (hu.cell (p := ⟨w.heap.size + 1, 0, none⟩) h.sz (show w.heap.size + 1 ≠ cg by omega) (show w.heap.size + 1 ≠ bg by omega) (show w.heap.size + 1 ≠ w.heap.size by omega)).trans h.c0
  · exact (hu.cell (p := ⟨w.heap.size + 1, 1, none⟩) h.sz (show w.heap.size + 1 ≠ cg by omega) (show w.heap.size + 1 ≠ bg by omega) (show w.heap.size + 1 ≠ w.heap.size by omega)).trans h.c1
theorem Fi.row {ns : List Tr.Nd} {cg bg : Nat} {w : World} {p : Option Addr} {sc : Tr.Sp} {s : Tr.St} {wr wx : World} (h : Fi ns cg bg w p sc s wr) (hu : Ku cg bg w.heap.size wr wx) {v : Value} {n : Nat} {xs : List Value} (ho : wr.ownsRow (w.heap.size + 2) 3 1 v n xs) : wx.ownsRow (w.heap.size + 2) 3 1 v n xs := by
  have h1 := h.l1
  have h2 := h.l2
  exact row_sameV ho fun g hg hl => hu.block g hl (by omega) (by omega) (by omega)
theorem Fi.grown {ns : List Tr.Nd} {cg bg : Nat} {w : World} {p : Option Addr} {sc : Tr.Sp} {s : Tr.St} {wr wx : World} (h : Fi ns cg bg w p sc s wr) {row : Option Nat} (hg : wr.grownBy wx row) (hr : ∀ q, row = some q → w.heap.size + 2 ≤ q) : Fi ns cg bg w p sc s wx := by
  have h1 := h.l1
  have h2 := h.l2
  have h3 := h.sz
  have hb : ∀ b, b < w.heap.size + 2 → wx.heap[b]? = wr.heap[b]? := fun b hb => hg.block b (by omega) (fun e => by have := hr b e.symm; omega)
  exact ⟨h.kp.grown hg (fun q e => by have := hr q e; omega), Nat.lt_of_lt_of_le h.sz hg.size, (World.cell?_of_block (a := ⟨w.heap.size + 1, 0, none⟩) (hb (w.heap.size + 1) (by omega))).trans h.c0, (World.cell?_of_block (a := ⟨w.heap.size + 1, 1, none⟩) (hb (w.heap.size + 1) (by omega))).trans h.c1, h.sp.same (hb _ (by omega)),
    h.dy.grown hg (fun e => by have := hr _ e; omega) (fun e => by have := hr _ e; omega), h.l1, h.l2⟩
theorem Fi.alloc {ns : List Tr.Nd} {cg bg : Nat} {w : World} {p : Option Addr} {sc : Tr.Sp} {s : Tr.St} {wr : World} (h : Fi ns cg bg w p sc s wr) (o : Obj) : Fi ns cg bg w p sc s (wr.alloc o) :=
  h.grown (World.grownBy_alloc wr o none) (fun q e => by cases e)
theorem own_of {v : Value} {n : Nat} {w : World} {base : Nat} {e : TypeId} {size : Nat} {xs : List Value} (h : w.ownsRow base e size v n xs) : ∀ q, v.ownBlock = some q → base ≤ q := fun q e => (h.lt q e).1
theorem lens_of {v : Value} {n : Nat} {w : World} {base : Nat} {e : TypeId} {xs : List Value} (h : w.ownsRow base e 1 v n xs) : ∃ a c, v = .slice a n c := by
  rcases h.2 with ⟨h1, h2⟩ | ⟨g', cap', cur, hv, _⟩
  · refine ⟨none, 0, ?_⟩
    rw [h1]
    have : n = 0 := by have := h.1; simp [h2] at this; omega
    rw [this]
  · exact ⟨_, _, hv⟩
theorem plv_of {cg bg : Nat} {w : World} {B : Nat} {v : Value} {ls : List Nat} (h : w.ownsRow B 3 1 v ls.length (ls.map vint)) (h1 : cg < B) (h2 : bg < B) : PlV cg bg w v ls := by
  have hh := h
  rcases h.2 with ⟨h3, h4⟩ | ⟨g', cap', cur, hv, hb, _⟩
  · exact .inl ⟨none, 0, h3, by simpa using h4⟩
  · subst hv
    exact .inr ⟨g', 0, cap', rfl, by omega, by omega, (row_room hh).1, ints_of_row hh⟩
theorem flt_len (ns : List Tr.Nd) (ls : List Nat) : (ls.filter fun x => Tr.kindOf ns x != 23).length ≤ ls.length := List.length_filter_le _ _
theorem Tr.makes_len (ns : List Tr.Nd) (ks : List (List Nat)) (hkl : ∀ k, (Tr.kidsOf ks k).length ≤ 5000) (ls : List Nat) : (Tr.makesOf ns ks ls).length ≤ ls.length * 5000 := by
  unfold Tr.makesOf
  induction ls with
  | nil => simp
  | cons x r ih =>
    rw [List.flatMap_cons, List.length_append, List.length_cons]
    have : (Tr.mk1 ns ks x).length ≤ 5000 := by
      unfold Tr.mk1
      split
      · simp
      · split
        · exact hkl x
        · simp
    omega

set_option maxRecDepth 100000 in
set_option maxHeartbeats 1000000 in
theorem ifile_some (ns : List Tr.Nd) (ks : List (List Nat)) (wb tg tc kg kc cg bg f : Nat) (G : Nat → List Tr.Sp → Tr.St → Tr.St) (hG : WkOk ns ks wb tg tc kg kc cg bg f G) (hn : ns.length ≤ 5000) (ls : List Nat) (g o c : Nat) (ch : List Tr.Sp) (p : Option Addr) (s : Tr.St) (w : World)
    (hls : ∀ x ∈ ls, x < f ∧ x < ns.length) (hl : ls.length ≤ 5000) (hks : ∀ k (h : k < ks.length), ∀ x ∈ ks[k], x < ns.length) (hkl : ∀ k, (Tr.kidsOf ks k).length ≤ 5000)
    (hF : Ix ns ks wb tg tc kg kc cg bg w) (hD : Dy ns.length cg bg s w) (hC : Chain cg bg w w.heap.size p ch) (hg1 : g ≠ cg) (hg2 : g ≠ bg) (hI : IntsAt w g o ls) :
    Calls Tryd.prog 86 #[.pointer (some ⟨wb, 0, none⟩), .slice (some ⟨g, o, none⟩) ls.length c, .pointer p] w fun e w' => e = .returned (.tuple #[]) ∧ Kp cg bg w w' ∧ Dy ns.length cg bg (Tr.ifile G ns ks ls ch s) w' := by
  obtain ⟨iI, hInt, hIz, hIs, hIb⟩ := info_parts Tryd.infoInt
  have HG := hide hG
  have HF := hide hF
  have HD := hide hD
  have HC := hide hC
  have HI := hide hI
  have HLS := hide hls
  have HKS := hide hks
  have HKL := hide hkl
  have HST := hide (Fi.start (p := p) hD)
  clear hG hF hD hC hI hls hks hkl
  go_enter Tryd.func86, Tryd.ntmps86
  go_wp2_with fail
  refine (inside_any p w).mono ?_
  rintro e w1 ⟨rfl, hw1⟩
  have HST1 : Hid (Fi ns cg bg w p [] s w1) := hide (by rw [hw1]; exact HST.out)
  clear hw1 HST
  go_wp2
  go_loopw [7, 16] (fun v7 t wr => ∃ (i : Nat), i ≤ ls.length ∧ t = .int .i64 i ∧ Fi ns cg bg w p (Tr.ents ns (Tr.makesOf ns ks (ls.take i)) ([], s)).1 (Tr.ents ns (Tr.makesOf ns ks (ls.take i)) ([], s)).2 wr ∧
      wr.ownsRow (w.heap.size + 2) 3 1 v7 ((ls.take i).filter (fun x => Tr.kindOf ns x != 23)).length (((ls.take i).filter (fun x => Tr.kindOf ns x != 23)).map vint)) (fun _ t _ => ls.length - (intOf t).toNat)
  case atStart => exact ⟨0, Nat.zero_le _, rfl, HST1.out, ⟨rfl, .inl ⟨rfl, rfl⟩⟩⟩
  case round =>
    obtain ⟨i, hi, rfl, hFi, ho⟩ := hrel
    have hsz := hFi.sz
    have hl1 := hFi.l1
    have hl2 := hFi.l2
    have HFI := hide hFi
    have HO := hide ho
    have HIX := hide (HF.out.kept hFi.kp)
    by_cases hlt : i < ls.length
    · have hx := (hFi.kp.cell (p := ⟨g, o + i, none⟩) HI.out.1 hg1 hg2).trans (HI.out.2 i hlt)
      have hxl := HLS.out _ (List.getElem_mem hlt)
      have hlk : ls[i] < ks.length := by rw [HIX.out.len]; exact hxl.2
      have f0 := HIX.out.f0
      have f1 := HIX.out.f1
      obtain ⟨a0, _⟩ := HIX.out.nodes.2 ls[i] hxl.2
      obtain ⟨v2, hkc0, hpl⟩ := HF.out.kids ls[i] (by rw [HF.out.len]; exact hxl.2)
      have hkc := (hFi.kp.cell (p := ⟨kg, ls[i], none⟩) HF.out.klt HF.out.kg1 HF.out.kg2).trans hkc0
      obtain ⟨a7, c7, hv7⟩ := lens_of ho
      subst hv7
      clear hkc0
      have HM := hide (Tr.makesOf_at ns ks ls i hlt)
      have HM1 := hide (show Tr.mk1 ns ks ls[i] = if ns[ls[i]].kind = 20 ∨ ns[ls[i]].kind = 21 then [ls[i]] else if ns[ls[i]].kind = 23 then ks[ls[i]] else [] by
        unfold Tr.mk1; rw [Tr.kindOf_at hxl.2, show Tr.kidsOf ks ls[i] = ks[ls[i]] from by simp [Tr.kidsOf, hlk]])
      have HFL := hide (show (ls.take (i + 1)).filter (fun x => Tr.kindOf ns x != 23) = (ls.take i).filter (fun x => Tr.kindOf ns x != 23) ++ (if ns[ls[i]].kind = 23 then [] else [ls[i]]) by rw [Tr.flt_at ns ls i hlt, Tr.kindOf_at hxl.2])
      have hkk := HKS.out ls[i] hlk
      have hk5 : (ks[ls[i]]).length ≤ 5000 := by have := HKL.out ls[i]; rwa [show Tr.kidsOf ks ls[i] = ks[ls[i]] from by simp [Tr.kidsOf, hlk]] at this
      have hel := Tr.ents_len ns (Tr.makesOf ns ks (ls.take i)) ([], s)
      have hml := Tr.makes_len ns ks HKL.out (ls.take i)
      have hfl := flt_len ns (ls.take i)
      rw [List.length_take, Nat.min_eq_left hi] at hml hfl
      have hsl : (Tr.ents ns (Tr.makesOf ns ks (ls.take i)) ([], s)).1.length ≤ 25000000 := by simp only [List.length_nil] at hel; omega
      have HE := hide (Tr.ents_append ns (Tr.makesOf ns ks (ls.take i)) (Tr.mk1 ns ks ls[i]) ([], s))
      rw [← HM.out] at HE
      clear hFi ho hel hml HM
      generalize hee : Tr.ents ns (Tr.makesOf ns ks (ls.take i)) ([], s) = ee at *
      obtain ⟨sc, si⟩ := ee
      clear hee
      simp only at hsl
      generalize (ls.take i).filter (fun x => Tr.kindOf ns x != 23) = fl at *
      generalize ns[ls[i]].kind = kx at *
      generalize ks[ls[i]] = kp at *
      generalize hyy : ls[i] = y at *
      by_cases h23 : kx = 23
      · subst h23
        have HE2 : Hid (Tr.ents ns (Tr.makesOf ns ks (ls.take (i + 1))) ([], s) = Tr.ents ns kp (sc, si)) := hide (by rw [HE.out, HM1.out, if_neg (by omega), if_pos rfl])
        have HFL2 : Hid ((ls.take (i + 1)).filter (fun x => Tr.kindOf ns x != 23) = fl) := hide (by rw [HFL.out, if_pos rfl, List.append_nil])
        clear HE HFL HM1
        rcases hpl with ⟨a2, c2, rfl, rfl⟩ | ⟨g2, o2, c2, rfl, hq1, hq2, hq3, hq4⟩
        · go_wp2
          go_loopw [38] (fun t wq => t = .int .i64 0 ∧ wq = wr) (fun _ _ => 0)
          case atStart => exact ⟨rfl, rfl⟩
          case round =>
            obtain ⟨rfl, rfl⟩ := hrel
            go_wp2
            go_roundw
            case rel => exact ⟨i + 1, by omega, by go_num, by rw [HE2.out]; exact HFI.out, by rw [HFL2.out]; exact HO.out⟩
            case measure => simp [intOf]; omega
        · have HQ4 := hide hq4
          have HKK := hide hkk
          clear hq4 hkk
          go_wp2
          go_loopw [38] (fun t wq => ∃ j : Nat, j ≤ kp.length ∧ t = .int .i64 j ∧ Fi ns cg bg w p (Tr.ents ns (kp.take j) (sc, si)).1 (Tr.ents ns (kp.take j) (sc, si)).2 wq ∧ wq.ownsRow (w.heap.size + 2) 3 1 (.slice a7 fl.length c7) fl.length (fl.map vint)) (fun t _ => kp.length - (intOf t).toNat)
          case atStart => exact ⟨0, Nat.zero_le _, rfl, HFI.out, HO.out⟩
          case round =>
            obtain ⟨j, hj, rfl, hFq, hoq⟩ := hrel
            have HFQ := hide hFq
            have HOQ := hide hoq
            by_cases hlj : j < kp.length
            · have hxj := (hFq.kp.cell (p := ⟨g2, o2 + j, none⟩) HQ4.out.1 hq1 hq2).trans (HQ4.out.2 j hlj)
              have HA := hide (Tr.ents_at ns kp j (sc, si) hlj)
              have hkj := HKK.out _ (List.getElem_mem hlj)
              have hel := Tr.ents_len ns (kp.take j) (sc, si)
              rw [List.length_take, Nat.min_eq_left hj] at hel
              simp only at hel
              have HEN := hide (enter_any ns ks wb tg tc kg kc cg bg kp[j] (w.heap.size + 1) w.heap.size _ _ _ hn hkj (HF.out.kept hFq.kp) hFq.dy hFq.c0 hFq.sp (by omega) (by omega) (by omega))
              clear hFq hoq
              generalize kp[j] = z at *
              go_wp2_with fail
              refine HEN.out.mono ?_
              rintro e w3 ⟨rfl, hu3, hd3, hs3⟩
              go_wp2
              go_roundw
              case rel => exact ⟨j + 1, by omega, by go_num, by rw [HA.out]; exact HFQ.out.enter hu3 hd3 hs3, HFQ.out.row hu3 HOQ.out⟩
              case measure => simp [intOf]; omega
            · have ej : kp.take j = kp := List.take_of_length_le (by omega)
              rw [ej] at HFQ
              clear hFq hoq
              go_wp2
              go_roundw
              case rel => exact ⟨i + 1, by omega, by go_num, by rw [HE2.out]; exact HFQ.out, by rw [HFL2.out]; exact HOQ.out⟩
              case measure => simp [intOf]; omega
      · have q23 : (kx == 23) = false := by simpa using h23
        have HFL2 : Hid ((ls.take (i + 1)).filter (fun x => Tr.kindOf ns x != 23) = fl ++ [y]) := hide (by rw [HFL.out, if_neg h23])
        clear HFL hpl hkc hkk
        by_cases h20 : kx = 20 ∨ kx = 21
        · have HE2 : Hid (Tr.ents ns (Tr.makesOf ns ks (ls.take (i + 1))) ([], s) = Tr.enterS ns y (sc, si)) := hide (by rw [HE.out, HM1.out, if_pos h20]; rfl)
          have HEN := hide (enter_any ns ks wb tg tc kg kc cg bg y (w.heap.size + 1) w.heap.size sc si wr hn hxl.2 HIX.out HFI.out.dy HFI.out.c0 HFI.out.sp (by omega) (by omega) (by omega))
          clear HE HM1
          rcases h20 with rfl | rfl
          all_goals
            go_wp2_with fail
            refine HEN.out.mono ?_
            rintro e w3 ⟨rfl, hu3, hd3, hs3⟩
            have HF3 := hide (HFI.out.enter hu3 hd3 hs3)
            have HO3 := hide (HFI.out.row hu3 HO.out)
            have hz3 := HF3.out.sz
            clear hu3 hd3 hs3 HEN
            go_wp2_with (at_builtin; refine wpList_append_own_at _ rfl _ _ 36 rfl (w.heap.size + 2) 3 iI (.int .i64 0) 1 8 Tryd.underlying36 hInt hIz hIs hIb rfl (by decide) (.slice a7 fl.length c7) fl.length (fl.map vint) rfl (HO3.out.alloc _) ⟨w3.heap.size, 0, none⟩ 1 1 [.int .i64 y] rfl rfl (cell_one _ _ _) (by simp [Value.oneCell']) (by unfold maxLen; omega) (by omega) (by simp; omega) ?_)
            intro v4 w4 hown4 hgrow4 hnil4 hat4
            have HF4 := hide ((HF3.out.alloc _).grown hgrow4 (own_of HO3.out))
            have HO4 : Hid (w4.ownsRow (w.heap.size + 2) 3 1 v4 (fl ++ [y]).length ((fl ++ [y]).map vint)) := hide (by rw [List.map_append, List.length_append]; exact hown4)
            clear hgrow4 hnil4 hat4 hown4
            go_wp2
            go_roundw
            case rel => exact ⟨i + 1, by omega, by go_num, by rw [HE2.out]; exact HF4.out, by rw [HFL2.out]; exact HO4.out⟩
            case measure => simp [intOf]; omega
        · have q20 : (kx == 20) = false := by simp; omega
          have q21 : (kx == 21) = false := by simp; omega
          have HE2 : Hid (Tr.ents ns (Tr.makesOf ns ks (ls.take (i + 1))) ([], s) = (sc, si)) := hide (by rw [HE.out, HM1.out, if_neg h20, if_neg h23]; rfl)
          clear HE HM1
          go_wp2_with (at_builtin; refine wpList_append_own_at _ rfl _ _ 36 rfl (w.heap.size + 2) 3 iI (.int .i64 0) 1 8 Tryd.underlying36 hInt hIz hIs hIb rfl (by decide) (.slice a7 fl.length c7) fl.length (fl.map vint) rfl (HO.out.alloc _) ⟨wr.heap.size, 0, none⟩ 1 1 [.int .i64 y] rfl rfl (cell_one _ _ _) (by simp [Value.oneCell']) (by unfold maxLen; omega) (by omega) (by simp; omega) ?_)
          intro v4 w4 hown4 hgrow4 hnil4 hat4
          have HF4 := hide ((HFI.out.alloc _).grown hgrow4 (own_of HO.out))
          have HO4 : Hid (w4.ownsRow (w.heap.size + 2) 3 1 v4 (fl ++ [y]).length ((fl ++ [y]).map vint)) := hide (by rw [List.map_append, List.length_append]; exact hown4)
          clear hgrow4 hnil4 hat4 hown4
          go_wp2
          go_roundw
          case rel => exact ⟨i + 1, by omega, by go_num, by rw [HE2.out]; exact HF4.out, by rw [HFL2.out]; exact HO4.out⟩
          case measure => simp [intOf]; omega
    · have e : ls.take i = ls := List.take_of_length_le (by omega)
      rw [e] at HFI HO
      have HCH := hide (HC.out.inner HFI.out.kp HFI.out.c0 HFI.out.c1 HFI.out.sp HFI.out.sz hl1 hl2)
      have HAL := hide (all_any ns ks wb tg tc kg kc cg bg f G HG.out (ls.filter fun x => Tr.kindOf ns x != 23) _ _ _ _ wr (fun x hx => HLS.out x (List.mem_filter.1 hx).1) (by have := flt_len ns ls; omega) HIX.out HFI.out.dy HCH.out (plv_of HO.out (by omega) (by omega)))
      have HKR := hide hFi.kp
      clear hFi ho
      go_wp2_with fail
      refine HAL.out.mono ?_
      rintro e w2 ⟨rfl, hk2, hd2⟩
      go_wp2
      (first | go_end0 | refine bodyPost_ret (results_none rfl _ _ _) rfl ?_)
      exact ⟨rfl, HKR.out.trans hk2, hd2⟩
end Go.Proofs.YtmklgiononbmmaaDoor
