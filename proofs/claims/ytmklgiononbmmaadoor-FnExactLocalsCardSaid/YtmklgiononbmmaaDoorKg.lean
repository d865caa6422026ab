/- Walks: a tree is gone through, on the specification's side. -/
import Derived.Test.YtmklgiononbmmaaDoorKe
namespace Go.Proofs.YtmklgiononbmmaaDoor
open Go.RowKit

def Tr.dupK (ns : List Tr.Nd) (x : Nat) (kn : List Tr.Kn) (s : Tr.St) : Tr.St := kn.foldl (fun s p => if p.1 = Tr.textOf ns x then Tr.faultS x 8 s else s) s
def Tr.mkS (ns : List Tr.Nd) : List Nat → List Tr.Kn → Tr.St → List Tr.Kn × Tr.St
  | [], kn, s => (kn, s)
  | x :: r, kn, s => Tr.mkS ns r (kn ++ [(Tr.textOf ns x, x)]) (Tr.dupK ns x kn s)
def Tr.st0 (n : Nat) : Tr.St := ⟨List.replicate n 0, List.replicate n (-1)⟩
def Tr.lookS (ns : List Tr.Nd) (ks : List (List Nat)) : Tr.St :=
  Tr.go1 ns ks ns.length (ns.length - 1) (Tr.mkS ns (Tr.makesOf ns ks (Tr.kidsOf ks (ns.length - 1))) [] (Tr.st0 ns.length)).1 (Tr.mkS ns (Tr.makesOf ns ks (Tr.kidsOf ks (ns.length - 1))) [] (Tr.st0 ns.length)).2
theorem Tr.dupK_at (ns : List Tr.Nd) (x : Nat) (kn : List Tr.Kn) (j : Nat) (s : Tr.St) (h : j < kn.length) : Tr.dupK ns x (kn.take (j + 1)) s = if kn[j].1 = Tr.textOf ns x then Tr.faultS x 8 (Tr.dupK ns x (kn.take j) s) else Tr.dupK ns x (kn.take j) s := by
  unfold Tr.dupK
  rw [List.take_succ_eq_append_getElem h, List.foldl_append]; rfl
theorem Tr.mkS_at (ns : List Tr.Nd) (ms : List Nat) (i : Nat) (kn : List Tr.Kn) (s : Tr.St) (h : i < ms.length) : Tr.mkS ns (ms.drop i) kn s = Tr.mkS ns (ms.drop (i + 1)) (kn ++ [(Tr.textOf ns ms[i], ms[i])]) (Tr.dupK ns ms[i] kn s) := by
  rw [List.drop_eq_getElem_cons h]; rfl

theorem Tr.makes_lt (ns : List Tr.Nd) (ks : List (List Nat)) (m : Nat) (hks : ∀ k (h : k < ks.length), ∀ x ∈ ks[k], x < ns.length) : ∀ x ∈ Tr.makesOf ns ks (Tr.kidsOf ks m), x < ns.length := by
  have hk : ∀ k, ∀ x ∈ Tr.kidsOf ks k, x < ns.length := by
    intro k x hx
    unfold Tr.kidsOf at hx
    by_cases h : k < ks.length
    · rw [List.getElem?_eq_getElem h] at hx; exact hks k h x hx
    · rw [List.getElem?_eq_none (by omega)] at hx; cases hx
  intro x hx
  obtain ⟨y, hy, hxy⟩ := List.mem_flatMap.1 hx
  unfold Tr.mk1 at hxy
  split at hxy
  · have : x = y := by simpa using hxy
    subst this; exact hk m x hy
  · split at hxy
    · exact hk y x hxy
    · cases hxy
theorem rep_set (n i : Nat) (h : i < n) : (List.replicate i (-1 : Int) ++ List.replicate (n - i) 0).set i (-1) = List.replicate (i + 1) (-1) ++ List.replicate (n - (i + 1)) 0 := by
  obtain ⟨k, rfl⟩ : ∃ k, n = i + 1 + k := ⟨n - (i + 1), by omega⟩
  rw [show i + 1 + k - i = k + 1 from by omega, show i + 1 + k - (i + 1) = k from by omega, List.replicate_succ, List.set_append_right (h := by simp), List.replicate_succ']
  simp
theorem made_row (w : World) (n base : Nat) (hb : base ≤ w.heap.size) (hn : n ≤ maxLen) : (w.alloc (.cells (madeCells #[.int .i64 0] n) 3)).ownsRow base 3 1 (.slice (some ⟨w.heap.size, 0, none⟩) n n) n ((List.replicate n (0 : Int)).map vi) := by
  refine ⟨by simp, .inr ⟨w.heap.size, n, _, rfl, hb, heap_alloc_new' w _, Nat.le_refl _, hn, by rw [size_madeCells, Nat.mul_one], ?_⟩⟩
  rw [List.take_of_length_le (by simp [size_madeCells])]
  apply List.ext_getElem
  · simp [size_madeCells]
  · intro i h1 h2
    simp [madeCells, vi, Nat.mod_one]
abbrev mdO (n : Nat) : Obj := .cells (madeCells #[.int .i64 0] n) 3
theorem look_made (ns : List Tr.Nd) (ks : List (List Nat)) (tg tc g4 c4 base cg bg : Nat) (vs : List Value) (w1 : World) (hn : ns.length ≤ 5000) (hcb : (cg = w1.heap.size ∧ bg = w1.heap.size + 1) ∨ (cg = w1.heap.size + 1 ∧ bg = w1.heap.size))
    (ht : NodesAt w1 tg ns) (ho : w1.ownsRow base 36 1 (.slice (some ⟨g4, 0, none⟩) ks.length c4) ks.length vs) (hr : Rows w1 base g4 g4 vs ks) (hl : ks.length = ns.length) :
    Fx ns ks (w1.heap.size + 1 + 1) tg tc g4 c4 cg bg (((w1.alloc (mdO ns.length)).alloc (mdO ns.length)).alloc (.cells #[.slice (some ⟨tg, 0, none⟩) ns.length tc, .slice (some ⟨g4, 0, none⟩) ns.length c4, .slice (some ⟨cg, 0, none⟩) ns.length ns.length, .slice (some ⟨bg, 0, none⟩) ns.length ns.length] 50)).drew ∧
    Dy ns.length cg bg ⟨List.replicate ns.length 0, List.replicate ns.length 0⟩ (((w1.alloc (mdO ns.length)).alloc (mdO ns.length)).alloc (.cells #[.slice (some ⟨tg, 0, none⟩) ns.length tc, .slice (some ⟨g4, 0, none⟩) ns.length c4, .slice (some ⟨cg, 0, none⟩) ns.length ns.length, .slice (some ⟨bg, 0, none⟩) ns.length ns.length] 50)).drew ∧
    Below w1.heap.size w1 (((w1.alloc (mdO ns.length)).alloc (mdO ns.length)).alloc (.cells #[.slice (some ⟨tg, 0, none⟩) ns.length tc, .slice (some ⟨g4, 0, none⟩) ns.length c4, .slice (some ⟨cg, 0, none⟩) ns.length ns.length, .slice (some ⟨bg, 0, none⟩) ns.length ns.length] 50)).drew := by
  have hm0 := made_row w1 ns.length 0 (Nat.zero_le _) (by unfold maxLen; omega)
  have hm1 := made_row (w1.alloc (mdO ns.length)) ns.length 0 (Nat.zero_le _) (by unfold maxLen; omega)
  rw [World.size_alloc] at hm1
  have hB : Below w1.heap.size w1 ((((w1.alloc (mdO ns.length)).alloc (mdO ns.length)).alloc (.cells #[.slice (some ⟨tg, 0, none⟩) ns.length tc, .slice (some ⟨g4, 0, none⟩) ns.length c4, .slice (some ⟨cg, 0, none⟩) ns.length ns.length, .slice (some ⟨bg, 0, none⟩) ns.length ns.length] 50)).drew) := ((((Below.refl _ _).alloc (Nat.le_refl _) _).alloc (by simp) _).alloc (by simp; omega) _).drew
  have hnew := heap_alloc_new' ((w1.alloc (mdO ns.length)).alloc (mdO ns.length)) (.cells #[.slice (some ⟨tg, 0, none⟩) ns.length tc, .slice (some ⟨g4, 0, none⟩) ns.length c4, .slice (some ⟨cg, 0, none⟩) ns.length ns.length, .slice (some ⟨bg, 0, none⟩) ns.length ns.length] 50)
  rw [World.size_alloc, World.size_alloc] at hnew
  have hg4 := (ho.lt g4 rfl).2
  have htg := ht.1
  have hcell : ∀ (j : Nat) (v : Value), (#[.slice (some ⟨tg, 0, none⟩) ns.length tc, .slice (some ⟨g4, 0, none⟩) ns.length c4, .slice (some ⟨cg, 0, none⟩) ns.length ns.length, .slice (some ⟨bg, 0, none⟩) ns.length ns.length] : Array Value)[j]? = some v → ((((w1.alloc (mdO ns.length)).alloc (mdO ns.length)).alloc (.cells #[.slice (some ⟨tg, 0, none⟩) ns.length tc, .slice (some ⟨g4, 0, none⟩) ns.length c4, .slice (some ⟨cg, 0, none⟩) ns.length ns.length, .slice (some ⟨bg, 0, none⟩) ns.length ns.length] 50)).drew).cell? ⟨w1.heap.size + 1 + 1, j, none⟩ = some v := by
    intro j v hv
    show World.cell? (((w1.alloc (mdO ns.length)).alloc (mdO ns.length)).alloc (.cells #[.slice (some ⟨tg, 0, none⟩) ns.length tc, .slice (some ⟨g4, 0, none⟩) ns.length c4, .slice (some ⟨cg, 0, none⟩) ns.length ns.length, .slice (some ⟨bg, 0, none⟩) ns.length ns.length] 50)) _ = _
    rw [World.cell?, hnew]
    exact hv
  refine ⟨⟨by omega, by omega, by omega, by omega, by omega, by omega, ?_, Nat.lt_of_lt_of_le hg4 hB.size, ?_, ?_, ?_, ?_, ht.below hB, hl, fun k hk => ?_⟩, ⟨by omega, ?_, ?_⟩, hB⟩
  · show _ < (((w1.alloc (mdO ns.length)).alloc (mdO ns.length)).alloc (.cells #[.slice (some ⟨tg, 0, none⟩) ns.length tc, .slice (some ⟨g4, 0, none⟩) ns.length c4, .slice (some ⟨cg, 0, none⟩) ns.length ns.length, .slice (some ⟨bg, 0, none⟩) ns.length ns.length] 50)).heap.size; simp
  · exact hcell 0 _ rfl
  · exact hcell 1 _ rfl
  · exact hcell 2 _ rfl
  · exact hcell 3 _ rfl
  · obtain ⟨g, c, hv, _, _, _, hi, _⟩ := hr.2 k hk
    have hgl := hi.1
    exact ⟨g, c, (hB.cell (p := ⟨g4, k, none⟩) hg4).trans ((ho.cellAt k (by omega)).trans hv), by omega, by omega, hi.below hB⟩
  · rcases hcb with ⟨rfl, rfl⟩ | ⟨rfl, rfl⟩
    · exact ((hm0.alloc _).alloc _).drew
    · exact (hm1.alloc _).drew
  · rcases hcb with ⟨rfl, rfl⟩ | ⟨rfl, rfl⟩
    · exact (hm1.alloc _).drew
    · exact ((hm0.alloc _).alloc _).drew
theorem make_eq (n : Nat) (hn : n ≤ 5000) (W : World) : (Instr.makeSlice 36 (.int .i64 (n : Int)) (.int .i64 (n : Int))).run Tryd.prog W = .ok (.slice (some ⟨W.heap.size, 0, none⟩) n n) (W.alloc (.cells (madeCells (Value.cells (.int .i64 0)) (n * 1)) 3)) := by
  obtain ⟨iI, hI, hIz, hIs, hIb⟩ := info_parts Tryd.infoInt
  have := run_make (P := Tryd.prog) W 36 3 iI (.int .i64 0) Tryd.underlying36 hI hIz .i64 .i64 (n : Int) (n : Int) (by omega) (Int.le_refl _) (by rw [hIb]; omega) (by omega)
  rw [hIs, Int.toNat_natCast] at this
  exact this

set_option maxRecDepth 100000 in
set_option maxHeartbeats 1000000 in
theorem look_any (ns : List Tr.Nd) (tg tc : Nat) (w : World) (hn1 : 1 ≤ ns.length) (hn5 : ns.length ≤ 5000) (hgood : Tr.kidsGood ns = true)
    (hlen : ∀ k (h : k < (Tr.kids ns).length), ((Tr.kids ns)[k]).length ≤ 5000 ∧ (Tr.kindOf ns k = 14 → ((Tr.kids ns)[k]).length = 2) ∧ (Tr.kindOf ns k = 16 → 1 ≤ ((Tr.kids ns)[k]).length) ∧ (Tr.kindOf ns k = 15 ∨ Tr.kindOf ns k = 20 → 1 ≤ ((Tr.kids ns)[k]).length))
    (ht : NodesAt w tg ns) :
    Calls Tryd.prog 26 #[.agg #[.slice (some ⟨tg, 0, none⟩) ns.length tc]] w fun e w' => ∃ wb kg kc cg bg, e = .returned (.pointer (some ⟨wb, 0, none⟩)) ∧ Fx ns (Tr.kids ns) wb tg tc kg kc cg bg w' ∧ Dy ns.length cg bg (Tr.lookS ns (Tr.kids ns)) w' ∧ w.heap.size ≤ cg ∧ w.heap.size ≤ bg ∧ Below w.heap.size w w' := by
  obtain ⟨iK, hKi, hKz, hKs, hKb⟩ := info_parts Tryd.infoKn
  have r1 : Below w.heap.size w (w.alloc (.cells #[.slice (some ⟨tg, 0, none⟩) ns.length tc] 31)) := (Below.refl _ _).alloc (Nat.le_refl _) _
  have hkl := Tr.kids_len hgood
  have hlt := Tr.kids_lt ns
  have hmk := make_eq ns.length hn5
  have HKC := hide (fun w' (hb : Below w.heap.size w w') => kids_any ns tg tc w' (by omega) (ht.below hb))
  have HLN := hide hlen
  have HLT := hide hlt
  have HT := hide ht
  clear hlen hlt ht
  rw [hgood] at HKC
  generalize hks : Tr.kids ns = ks at *
  go_enter Tryd.func26, Tryd.ntmps26
  go_wp2_with fail
  refine (HKC.out _ r1).mono ?_
  rintro e w1 ⟨g4, c4, vs, rfl, ho4, hrows, hb1⟩
  have hB1 := r1.trans (hb1.mono (by simp))
  have hbox : w1.cell? ⟨w.heap.size, 0, none⟩ = some (.slice (some ⟨tg, 0, none⟩) ns.length tc) := (hb1.cell (p := ⟨w.heap.size, 0, none⟩) (by simp)).trans (by simp)
  have hz1 : w.heap.size < w1.heap.size := Nat.lt_of_lt_of_le (by simp) hb1.size
  have HO4 := hide ho4
  have HRW := hide hrows
  clear ho4 hrows hb1
  go_upto_region 2 with fail
  go_cut [5] from 16 to 27 (fun v5 wx => ∃ wb cg bg, v5 = .pointer (some ⟨wb, 0, none⟩) ∧ w1.heap.size ≤ wb ∧ w1.heap.size ≤ cg ∧ w1.heap.size ≤ bg ∧ Fx ns ks wb tg tc g4 c4 cg bg wx ∧ Dy ns.length cg bg ⟨List.replicate ns.length 0, List.replicate ns.length 0⟩ wx ∧ Below w1.heap.size w1 wx)
  case first =>
    have HLM1 := hide (look_made ns ks tg tc g4 c4 _ w1.heap.size (w1.heap.size + 1) vs w1 hn5 (.inl ⟨rfl, rfl⟩) (HT.out.below hB1) HO4.out HRW.out hkl)
    have HLM2 := hide (look_made ns ks tg tc g4 c4 _ (w1.heap.size + 1) w1.heap.size vs w1 hn5 (.inr ⟨rfl, rfl⟩) (HT.out.below hB1) HO4.out HRW.out hkl)
    go_region
    all_goals
      go_wp2_with fail
      go_meet
      case rel =>
        first
        | exact ⟨_, _, _, rfl, by omega, by omega, by omega, HLM1.out.1, HLM1.out.2.1, HLM1.out.2.2⟩
        | exact ⟨_, _, _, rfl, by omega, by omega, by omega, HLM2.out.1, HLM2.out.2.1, HLM2.out.2.2⟩
  case rest =>
    obtain ⟨wb, cg, bg, rfl, hwb, hcg, hbg, hFx, hDx, hBx⟩ := hcut
    have HFX := hide hFx
    have HDX := hide hDx
    have hzc := hBx.size
    have bx0 := (hBx.cell (p := ⟨w.heap.size, 0, none⟩) hz1).trans hbox
    have HBX := hide (hB1.trans (hBx.mono (Nat.le_of_lt hz1)))
    have hcgl := (hDx.c.lt cg rfl).2
    have hbgl := (hDx.b.lt bg rfl).2
    clear hFx hDx hBx hbox
    go_wp2
    go_loopw [6] (fun t wr => ∃ i : Nat, i ≤ ns.length ∧ t = .int .i64 i ∧ Kp cg bg wc wr ∧ Dy ns.length cg bg ⟨List.replicate ns.length 0, List.replicate i (-1) ++ List.replicate (ns.length - i) 0⟩ wr) (fun t _ => ns.length - (intOf t).toNat)
    case atStart => exact ⟨0, Nat.zero_le _, rfl, Kp.refl _ _ _, by simpa using HDX.out⟩
    case round =>
      obtain ⟨i, hi, rfl, hKr, hDr⟩ := hrel
      have f3 := (HFX.out.kept hKr).f3
      by_cases hlt : i < ns.length
      · obtain ⟨cb, fb⟩ := hDr.cellB i hlt
        have HDr := hide hDr
        clear hDr
        have hset : (List.replicate i (-1 : Int) ++ List.replicate (ns.length - i) 0).set i (-1) = List.replicate (i + 1) (-1) ++ List.replicate (ns.length - (i + 1)) 0 := rep_set ns.length i hlt
        have HST := hide hset
        clear hset
        go_wp2
        go_roundw
        case rel => exact ⟨i + 1, by omega, by go_num, hKr.setCell _ _ (.inr rfl), by have := HDr.out.setB i (-1); rwa [HST.out] at this⟩
        case measure => simp [intOf]; omega
      · have e : i = ns.length := by omega
        have hD0 : Dy ns.length cg bg (Tr.st0 ns.length) wr := by
          rw [e] at hDr
          simpa [Tr.st0] using hDr
        have hF0 := HFX.out.kept hKr
        have HD0 := hide hD0
        have HF0 := hide hF0
        have hzr := hKr.size
        have bx1 := (hKr.cell (p := ⟨w.heap.size, 0, none⟩) (by show w.heap.size < wc.heap.size; omega) (by show w.heap.size ≠ cg; omega) (by show w.heap.size ≠ bg; omega)).trans bx0
        have HB0 : Hid (Below w.heap.size w wr) := hide ⟨hKr.os.trans HBX.out.os, hKr.tape.trans HBX.out.tape, hKr.output.trans HBX.out.output, Nat.le_trans HBX.out.size hKr.size, fun b hb => (hKr.block b (Nat.lt_of_lt_of_le hb HBX.out.size) (by omega) (by omega)).trans (HBX.out.block b hb)⟩
        clear hDr hD0 hF0 bx0
        subst e
        have hwlt : w.heap.size < wr.heap.size := by omega
        have bx2 := ((below_al wr emO).cell (p := ⟨w.heap.size, 0, none⟩) hwlt).trans bx1
        have HMK := hide (makes_any ns ks tg tc g4 c4 (ns.length - 1) (wr.alloc emO) (by omega) hn5 hkl (fun k h x hx => by have := HLT.out k h x hx; omega) (fun k h => (HLN.out k h).1) (HF0.out.nodes.below (below_al wr emO)) (KidsAt.below ⟨HF0.out.klt, fun k h => by obtain ⟨g, c, h1, _, _, h4⟩ := HF0.out.kids k h; exact ⟨g, c, h1, h4⟩⟩ (below_al wr emO)))
        have HML := hide (Tr.makes_lt ns ks (ns.length - 1) (fun k h x hx => by have := HLT.out k h x hx; omega))
        have HLK := hide (show Tr.lookS ns ks = Tr.go1 ns ks ns.length (ns.length - 1) (Tr.mkS ns (Tr.makesOf ns ks (Tr.kidsOf ks (ns.length - 1))) [] (Tr.st0 ns.length)).1 (Tr.mkS ns (Tr.makesOf ns ks (Tr.kidsOf ks (ns.length - 1))) [] (Tr.st0 ns.length)).2 from rfl)
        generalize Tr.makesOf ns ks (Tr.kidsOf ks (ns.length - 1)) = ms at *
        go_wp2_with fail
        refine HMK.out.mono ?_
        rintro e w3 ⟨g5, c5, rfl, hg5, hI5, hm5, hb3⟩
        rw [World.size_alloc] at hg5
        have hz3 : wr.heap.size + 1 ≤ w3.heap.size := by have := hb3.size; rwa [World.size_alloc] at this
        have hbr : Below wr.heap.size wr w3 := (below_al wr emO).trans (hb3.mono (by simp))
        have bx3 := (hbr.cell (p := ⟨w.heap.size, 0, none⟩) hwlt).trans bx1
        have hrow0 : w3.ownsRow wr.heap.size 86 2 (.slice (some ⟨wr.heap.size, 0, none⟩) 0 0) 0 [] := by
          have h0 := World.ownsRow_lit (base := wr.heap.size) (e := 86) (size := 2) wr #[] 0 (Nat.le_refl _) (Nat.zero_le _) rfl
          exact row_same h0 (hb3.block _ (by simp))
        have HR0 := hide hrow0
        have HF3 := hide (HF0.out.kept (Kp.of_below (cg := cg) (bg := bg) hbr))
        have HD3 := hide (HD0.out.below hbr)
        have HI5 := hide hI5
        have HB3 := hide (HB0.out.trans (hbr.mono HB0.out.size))
        clear hb3 bx1 bx2 hrow0 hI5
        have h5c : g5 ≠ cg := by omega
        have h5b : g5 ≠ bg := by omega
        obtain ⟨H, hH⟩ : ∃ H, H = wr.heap.size := ⟨_, rfl⟩
        rw [← hH] at HR0 hz3 hg5 hzr hwlt
        go_wp2
        go_loopw [7, 9] (fun v7 t wy => ∃ (i g7 c7 : Nat) (kni : List Tr.Kn) (si : Tr.St), i ≤ ms.length ∧ t = .int .i64 i ∧ v7 = .slice (some ⟨g7, 0, none⟩) kni.length c7 ∧ g7 ≠ g5 ∧ g7 ≠ cg ∧ g7 ≠ bg ∧ w.heap.size < g7 ∧ kni.length = i ∧ wy.ownsRow H 86 2 (.slice (some ⟨g7, 0, none⟩) kni.length c7) kni.length (Tr.knCells kni) ∧ Kp cg bg wr wy ∧ Dy ns.length cg bg si wy ∧ Tr.mkS ns ms [] (Tr.st0 ns.length) = Tr.mkS ns (ms.drop i) kni si ∧ wy.cell? ⟨w.heap.size, 0, none⟩ = some (.slice (some ⟨tg, 0, none⟩) ns.length tc) ∧ IntsAt wy g5 0 ms) (fun _ t _ => ms.length - (intOf t).toNat)
        case atStart => exact ⟨0, H, 0, [], Tr.st0 ns.length, Nat.zero_le _, rfl, by rw [hH]; rfl, by omega, by omega, by omega, hwlt, rfl, HR0.out, Kp.of_below hbr, HD3.out, rfl, bx3, HI5.out⟩
        case round =>
          obtain ⟨i, g7, c7, kni, si, hi, rfl, rfl, h75, h7c, h7b, h7w, hkli, ho, hKy, hDy, he, bxy, hIy⟩ := hrel
          have HKLI := hide hkli
          have hkle : kni.length ≤ i := Nat.le_of_eq hkli
          have HOy := hide ho
          have HE := hide he
          have HDy := hide hDy
          have HIy := hide hIy
          have HFy := hide (HF0.out.kept hKy)
          clear hkli ho he hDy hIy
          by_cases hlt : i < ms.length
          · have hlti : (i : Int) < (ms.length : Int) := by omega
            have hx := HIy.out.2 i hlt
            rw [Nat.zero_add] at hx
            have hxn := HML.out _ (List.getElem_mem hlt)
            have HS := hide (Tr.mkS_at ns ms i kni si hlt)
            have HTX := hide (Tr.textOf_at hxn)
            have HDU := hide (fun j (hj : j < kni.length) => Tr.dupK_at ns ms[i] kni j si hj)
            have htx := (HFy.out.nodes.2 ms[i] hxn).2.2.2.1
            generalize ms[i] = x at *
            have HNT0 := hide (show ∃ t, ns[x].text = t from ⟨_, rfl⟩)
            obtain ⟨tp, hnt⟩ := HNT0.out
            have HNT := hide hnt
            rw [hnt] at htx
            clear hnt HNT0
            go_wp2
            go_loopw [10] (fun t wq => ∃ (j : Nat), j ≤ kni.length ∧ t = .int .i64 j ∧ Kp cg bg wr wq ∧ Dy ns.length cg bg (Tr.dupK ns x (kni.take j) si) wq ∧ wq.ownsRow H 86 2 (.slice (some ⟨g7, 0, none⟩) kni.length c7) kni.length (Tr.knCells kni)) (fun t _ => kni.length - (intOf t).toNat)
            case atStart => exact ⟨0, Nat.zero_le _, rfl, Kp.refl _ _ _, HDy.out, HOy.out⟩
            case round =>
              obtain ⟨j, hj, rfl, hKq, hDq, hoq⟩ := hrel
              obtain ⟨wo, hwo⟩ : ∃ wo, Kp cg bg wo wr ∧ wo.cell? ⟨w.heap.size, 0, none⟩ = some (.slice (some ⟨tg, 0, none⟩) ns.length tc) ∧ wo.cell? ⟨g5, i, none⟩ = some (.int .i64 x) ∧ IntsAt wo g5 0 ms ∧ Fx ns ks wb tg tc g4 c4 cg bg wo := ⟨_, hKq, bxy, hx, HIy.out, HFy.out⟩
              obtain ⟨hKo, bxo, hxo, hIo, hFo⟩ := hwo
              have hFq := hFo.kept hKo
              have HFq := hide hFq
              have HDq := hide hDq
              have HOq := hide hoq
              have hwy : w.heap.size < wo.heap.size := World.block_lt_of_cell? wo ⟨w.heap.size, 0, none⟩ bxo
              have f0q := (hKo.cell (p := ⟨w.heap.size, 0, none⟩) hwy (by show w.heap.size ≠ cg; omega) (by show w.heap.size ≠ bg; omega)).trans bxo
              have hxq := (hKo.cell (p := ⟨g5, i, none⟩) hIo.1 h5c h5b).trans hxo
              have HIQ := hide (hIo.heap (hKo.block g5 hIo.1 h5c h5b))
              clear hKo bxo hxo hIo hFo
              have htq := (hFq.nodes.2 x hxn).2.2.2.1
              rw [HNT.out] at htq
              clear hFq hDq
              by_cases hjl : j < kni.length
              · obtain ⟨e0, e1⟩ := (kn_of_row hoq).2 j hjl
                have HDJ := hide (HDU.out j hjl)
                have hba := ba_eq kni[j].1 tp
                generalize kni[j].1 = tj at *
                generalize kni[j].2 = aj at *
                clear hoq
                cases hqq : (tj.toList == tp.toList)
                · have HD2 : Hid (Tr.dupK ns x (kni.take (j + 1)) si = Tr.dupK ns x (kni.take j) si) := hide (by rw [HDJ.out, HTX.out, HNT.out, if_neg (fun h => by rw [hba.2 h] at hqq; cases hqq)])
                  go_wp2
                  go_quiet (fail)
                  go_wp2
                  go_roundw
                  case rel => exact ⟨j + 1, by omega, by go_num, hKq.below (below_drewN (Below.refl _ _) _), by rw [HD2.out]; exact HDq.out.below (below_drewN (Below.refl _ _) _), row_same HOq.out rfl⟩
                  case measure => simp [intOf]; omega
                · have HD2 : Hid (Tr.dupK ns x (kni.take (j + 1)) si = Tr.faultS x 8 (Tr.dupK ns x (kni.take j) si)) := hide (by rw [HDJ.out, HTX.out, HNT.out, if_pos (hba.1 hqq)])
                  go_wp2
                  go_quiet (fail)
                  go_wp2_with fail
                  refine (fault_any ns ks wb tg tc g4 c4 cg bg x 8 _ _ hxn (HFq.out.kept (Kp.of_below (below_drewN (Below.refl _ _) _))) (HDq.out.below (below_drewN (Below.refl _ _) _))).mono ?_
                  rintro e w4 ⟨rfl, hk4, hd4⟩
                  go_wp2
                  go_roundw
                  case rel => exact ⟨j + 1, by omega, by go_num, (hKq.below (below_drewN (Below.refl _ _) _)).trans hk4, by rw [HD2.out]; exact hd4, row_kept (w := wr.drewN _) (row_same HOq.out rfl) hk4 h7c h7b⟩
                  case measure => simp [intOf]; omega
              · have HDF : Hid (Dy ns.length cg bg (Tr.dupK ns x kni si) wr) := hide (by have := HDq.out; rwa [List.take_of_length_le (by omega)] at this)
                have HKN := hide (show ∀ (j : Nat) (u : Value), (Tr.knCells [(tp, x)])[j]? = some u → (wr.alloc (knO tp x)).drew.cell? ((⟨wr.heap.size, 0, none⟩ : Addr).add j) = some u from kn_cells wr tp x)
                have hzq := hKq.size
                have hHq := HOq.out.lt g7 rfl
                clear hoq
                go_wp2
                go_region_law (refine step_append_own rfl (.tmp 80) (.tmp 95) 83 rfl H 86 iK _ 2 24 Tryd.underlying83 hKi hKz hKs hKb rfl (by decide) (.slice (some ⟨g7, 0, none⟩) kni.length c7) kni.length (Tr.knCells kni) (by first | (simp [Act.eval]; done) | simp [Act.eval, Act.put]) (HOq.out.alloc _).drew ⟨wr.heap.size, 0, none⟩ 1 1 (Tr.knCells [(tp, x)]) (by first | (simp [Act.eval]; done) | simp [Act.eval, Act.put]) rfl HKN.out (Tr.knCells_one _) (by unfold maxLen; omega) (by omega) (by simp; omega) ?_; intro v8 w8 hown8 hgrow8 hnil8 hat8)
                all_goals
                  obtain ⟨g8, c8, rfl, hg8⟩ := lies_formS hown8 (fun e => by simpa using hnil8.1 e) (by simpa [Value.ownBlock] using hat8)
                  have hg7l := HOq.out.lt g7 rfl
                  have hK8 : Kp cg bg _ w8 := (((hKy.trans hKq).alloc _).drew).grown hgrow8 (fun q e => by simp [Value.ownBlock] at e; omega)
                  have hD8 := ((HDF.out.below (below_al wr (knO tp x))).below (Below.refl _ _).drew).grown hgrow8 (by simp [Value.ownBlock]; omega) (by simp [Value.ownBlock]; omega)
                  have hbk : ∀ b, b < wr.heap.size → b ≠ g7 → w8.heap[b]? = wr.heap[b]? := fun b hb hne => (hgrow8.block b (by show b < (wr.alloc (knO tp x)).heap.size; simp; omega) (by simp [Value.ownBlock]; omega)).trans ((below_al wr (knO tp x)).block b hb)
                  have bx8 := (World.cell?_of_block (a := ⟨w.heap.size, 0, none⟩) (hbk w.heap.size (by omega) (by omega))).trans f0q
                  have hI8 := HIQ.out.heap (hbk g5 HIQ.out.1 (by omega))
                  have hg8' : w.heap.size < g8 ∧ g8 ≠ g5 ∧ g8 ≠ cg ∧ g8 ≠ bg := by
                    have h5l := HIQ.out.1
                    have hcl := (HDF.out.c.lt cg rfl).2
                    have hbl := (HDF.out.b.lt bg rfl).2
                    rcases hg8 with h | h
                    · subst h; exact ⟨by omega, by omega, by omega, by omega⟩
                    · omega
                  clear hgrow8 hnil8 hat8
                  go_wp2
                  go_roundw
                  case rel =>
                    refine ⟨i + 1, g8, c8, kni ++ [(tp, x)], Tr.dupK ns x kni si, by omega, by go_num, by simp, hg8'.2.1, hg8'.2.2.1, hg8'.2.2.2, hg8'.1, by have := HKLI.out; simp; omega, ?_, hK8, hD8, ?_, bx8, hI8⟩
                    · rw [List.length_append, List.length_singleton, Tr.knCells_snoc]; exact hown8
                    · rw [HE.out, HS.out, HTX.out, HNT.out]
                  case measure => simp [intOf]; omega
          · have HFIN : Hid (Tr.lookS ns ks = Tr.go1 ns ks ns.length (ns.length - 1) kni si) := hide (by rw [HLK.out, HE.out, List.drop_of_length_le (by omega)]; rfl)
            have HGG := hide (go1_any ns ks wb tg tc g4 c4 cg bg hn5 HLT.out HLN.out ns.length (ns.length - 1) g7 c7 kni si wr (by omega) (by omega) (by omega) HFy.out HDy.out (kn_of_row HOy.out) h7c h7b)
            obtain ⟨m, hm⟩ : ∃ m, ns.length - 1 = m := ⟨_, rfl⟩
            have hmi : (ns.length : Int) - 1 = (m : Int) := by omega
            rw [hm] at HGG HFIN
            go_wp2_with fail
            refine HGG.out.mono ?_
            rintro e w9 ⟨rfl, hk9, hd9⟩
            go_wp2
            go_ret
            have hK9 := hKy.trans hk9
            refine ⟨wb, g4, c4, cg, bg, rfl, HFy.out.kept hk9, by rw [HFIN.out]; exact hd9, by omega, by omega, ?_⟩
            exact ⟨hK9.os.trans HB0.out.os, hK9.tape.trans HB0.out.tape, hK9.output.trans HB0.out.output, Nat.le_trans HB0.out.size hK9.size, fun b hb => (hK9.block b (Nat.lt_of_lt_of_le hb HB0.out.size) (by omega) (by omega)).trans (HB0.out.block b hb)⟩
end Go.Proofs.YtmklgiononbmmaaDoor
