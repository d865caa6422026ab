/- Hs, Hu, Hv. -/
import Derived.Test.YtfjoecbkagedbaaGreatDoorY35
import Derived.BigQuiet
namespace Go.Proofs.YtfjoecbkagedbaaGreatDoor
open Go.RowKit
abbrev treeO : Obj := .cells #[.slice none 0 0] 24
abbrev fltO (a b : Int) : Obj := .cells #[.int .i64 a, .int .i64 b] 26
/-- Parse's two boxes. -/
structure PB (w W : World) : Prop where
  B : Below w.heap.size w W
  z : w.heap.size + 1 < W.heap.size
  t0 : W.cell? ⟨w.heap.size, 0, none⟩ = some (.slice none 0 0)
  f0 : W.cell? ⟨w.heap.size + 1, 0, none⟩ = some (.int .i64 0)
  f1 : W.cell? ⟨w.heap.size + 1, 1, none⟩ = some (.int .i64 0)
  ft : W.frozen? ⟨w.heap.size, 0, none⟩ = false
  ff : ∀ j, W.frozen? ⟨w.heap.size + 1, j, none⟩ = false
theorem PB.new (w : World) : PB w ((w.alloc treeO).alloc (fltO 0 0)) := by
  have hb := (Below.refl (w.heap.size + 1) (w.alloc treeO)).alloc (by simp) (fltO 0 0)
  refine ⟨((Below.refl _ _).alloc (Nat.le_refl _) _).alloc (by simp) _, by simp, (hb.cell (p := ⟨w.heap.size, 0, none⟩) (Nat.lt_succ_self _)).trans (by simp), ?_, ?_, (hb.frozen (p := ⟨w.heap.size, 0, none⟩) (Nat.lt_succ_self _)).trans (by simp), fun j => ?_⟩
  · rw [World.cell?, show w.heap.size + 1 = (w.alloc treeO).heap.size from by simp, heap_alloc_new']; rfl
  · rw [World.cell?, show w.heap.size + 1 = (w.alloc treeO).heap.size from by simp, heap_alloc_new']; rfl
  · rw [World.frozen?, show w.heap.size + 1 = (w.alloc treeO).heap.size from by simp, heap_alloc_new']; simp
theorem PB.below {w W W' : World} (h : PB w W) (hb : Below W.heap.size W W') : PB w W' :=
  ⟨h.B.trans (hb.mono h.B.size), Nat.lt_of_lt_of_le h.z hb.size, (hb.cell (p := ⟨w.heap.size, 0, none⟩) (show w.heap.size < W.heap.size by have := h.z; omega)).trans h.t0, (hb.cell (p := ⟨w.heap.size + 1, 0, none⟩) h.z).trans h.f0, (hb.cell (p := ⟨w.heap.size + 1, 1, none⟩) h.z).trans h.f1, (hb.frozen (p := ⟨w.heap.size, 0, none⟩) (show w.heap.size < W.heap.size by have := h.z; omega)).trans h.ft, fun j => (hb.frozen (p := ⟨w.heap.size + 1, j, none⟩) h.z).trans (h.ff j)⟩
set_option maxRecDepth 100000 in
set_option maxHeartbeats 2000000 in
theorem parse_fault (s : ByteArray) (w : World) (hs : s.size ≤ 1048576) (hc : Sc.code s ≠ 0) :
    Calls Tryz.prog 4 #[.string s] w fun e w' => e = .returned (.tuple #[.agg #[.slice none 0 0], .agg #[.int .i64 (Sc.code s), .int .i64 (Sc.at_ s)]]) ∧ Below w.heap.size w w' := by
  have HP0 := hide (PB.new w)
  have HQ := hide (sscan_any s ((w.alloc treeO).alloc (fltO 0 0)) hs)
  have hci : ¬ ((Sc.code s : Nat) : Int) = 0 := by omega
  have hcb : (((Sc.code s : Nat) : Int) != 0) = true := by simpa using hc
  go_enter Tryz.func4, Tryz.ntmps4
  go_wp2_with fail
  refine HQ.out.mono ?_
  rintro e w1 ⟨v, rfl, hown, hb1⟩
  have hp1 := HP0.out.below hb1
  have hp2 := hp1.below ((Below.refl _ _).alloc (Nat.le_refl _) (fltO (Sc.code s) (Sc.at_ s)))
  have t0 := hp2.t0
  have f0 := hp2.f0
  have f1 := hp2.f1
  have ft := hp2.ft
  have ff0 := hp2.ff 0
  have ff1 := hp2.ff 1
  have hz := hp1.z
  have HP2 := hide hp2
  clear hp1 hp2 hb1 hown HQ
  go_wp2
  go_region
  all_goals
    try go_wp2
    refine bodyPost_ret (v := .tuple #[.agg #[.slice none 0 0], .agg #[.int .i64 (Sc.code s), .int .i64 (Sc.at_ s)]]) (by simp [results, Tryz.results4, go_sem, t0, f0, f1]) rfl ⟨rfl, ?_⟩
    repeat (first | (refine Below.setCell ?_ (by show w.heap.size ≤ _; simp) _) | (refine Below.drew ?_))
    exact HP2.out.B
end Go.Proofs.YtfjoecbkagedbaaGreatDoor
namespace Go.Proofs.YtfjoecbkagedbaaGreatDoor
open Go.RowKit
theorem PB.gr {w W W' : World} {b : Nat} {v v' : Value} (h : PB w W) (hg : Pr.Gr b v v' W W') (hb : w.heap.size + 1 < b) (hv : ∀ q, v.ownBlock = some q → b < q) : PB w W' := by
  have k : ∀ q, q ≤ w.heap.size + 1 → W'.heap[q]? = W.heap[q]? := fun q hq => hg.mv.block q (by have := h.z; omega) (fun e => e.elim (fun e => by omega) (fun e => by have := hv q e; omega))
  refine ⟨⟨hg.mv.os.trans h.B.os, hg.mv.tape.trans h.B.tape, hg.mv.output.trans h.B.output, Nat.le_trans h.B.size hg.mv.size, fun q hq => (k q (by omega)).trans (h.B.block q hq)⟩, Nat.lt_of_lt_of_le h.z hg.mv.size, (World.cell?_of_block (a := ⟨w.heap.size, 0, none⟩) (k w.heap.size (by omega))).trans h.t0, (World.cell?_of_block (a := ⟨w.heap.size + 1, 0, none⟩) (k (w.heap.size + 1) (Nat.le_refl _))).trans h.f0, (World.cell?_of_block (a := ⟨w.heap.size + 1, 1, none⟩) (k (w.heap.size + 1) (Nat.le_refl _))).trans h.f1, (World.frozen?_of_block (a := ⟨w.heap.size, 0, none⟩) (k w.heap.size (by omega))).trans h.ft, fun j => (World.frozen?_of_block (a := ⟨w.heap.size + 1, j, none⟩) (k (w.heap.size + 1) (Nat.le_refl _))).trans (h.ff j)⟩
theorem Tr.cellsOf_atP (l : List Tr.Nd) (i : Nat) (h : i < l.length) : (Tr.cellsOf l)[i * 5]? = some (.int .i64 l[i].kind) ∧ (Tr.cellsOf l)[i * 5 + 1]? = some (.int .i64 l[i].op) ∧ (Tr.cellsOf l)[i * 5 + 2]? = some (.int .i64 l[i].n) ∧ (Tr.cellsOf l)[i * 5 + 3]? = some (.string l[i].text) ∧ (Tr.cellsOf l)[i * 5 + 4]? = some (.int .i64 l[i].kids) := by
  induction l generalizing i with
  | nil => simp at h
  | cons x r ih =>
    rw [show Tr.cellsOf (x :: r) = x.cells ++ Tr.cellsOf r from rfl]
    match i, h with
    | 0, _ => simp [Tr.Nd.cells]
    | i + 1, h =>
      have := ih i (by simpa using h)
      have hl : x.cells.length = 5 := rfl
      refine ⟨?_, ?_, ?_, ?_, ?_⟩
      all_goals rw [List.getElem?_append_right (by omega), hl]
      · rw [show (i + 1) * 5 - 5 = i * 5 from by omega]; exact this.1
      · rw [show (i + 1) * 5 + 1 - 5 = i * 5 + 1 from by omega]; exact this.2.1
      · rw [show (i + 1) * 5 + 2 - 5 = i * 5 + 2 from by omega]; exact this.2.2.1
      · rw [show (i + 1) * 5 + 3 - 5 = i * 5 + 3 from by omega]; exact this.2.2.2.1
      · rw [show (i + 1) * 5 + 4 - 5 = i * 5 + 4 from by omega]; exact this.2.2.2.2
theorem nodesAt_row {w : World} {B g c : Nat} {l : List Tr.Nd} (h : w.ownsRow B 41 5 (.slice (some ⟨g, 0, none⟩) l.length c) l.length (Tr.cellsOf l)) : NodesAt w g l :=
  ⟨(h.lt g rfl).2, fun i hi => by
    obtain ⟨a, b, c', d, e⟩ := Tr.cellsOf_atP l i hi
    exact ⟨row_cellP h a, row_cellP h b, row_cellP h c', row_cellP h d, row_cellP h e⟩⟩
/-- What Parse hands back. -/
def ParsePost (w : World) (r : List Tr.Nd × Nat × Nat) (e : Ending) (w' : World) : Prop := ∃ v, e = .returned (.tuple #[.agg #[v], .agg #[.int .i64 r.2.1, .int .i64 r.2.2]]) ∧ w'.ownsRow w.heap.size 41 5 v r.1.length (Tr.cellsOf r.1) ∧ Below w.heap.size w w'
end Go.Proofs.YtfjoecbkagedbaaGreatDoor
namespace Go.Proofs.YtfjoecbkagedbaaGreatDoor
open Go.RowKit
theorem rowLeP {w : World} {base base' size : Nat} {e : TypeId} {v : Value} {n : Nat} {xs : List Value} (h : w.ownsRow base e size v n xs) (hb : base' ≤ base) : w.ownsRow base' e size v n xs := by
  refine ⟨h.1, ?_⟩
  rcases h.2 with h1 | ⟨g', cap', cur, hv, h2, h3⟩
  · exact .inl h1
  · exact .inr ⟨g', cap', cur, hv, Nat.le_trans hb h2, h3⟩
theorem Pr.result_no {q : Pr.Dk} {n : Nat} {l : List Tr.Nd} (hl : (Pr.put q 24 0 0 [] n).out = l) (hb : q.bad = false) (hv : Tr.valid l = false) : Pr.result (q, n) = ([], 7, 0) := by
  have e : q.out ++ [⟨24, 0, 0, ⟨#[]⟩, (n : Int)⟩] = l := hl
  unfold Pr.result
  rw [if_neg (by simp [hb]), if_neg (by simp only [e, hv]; decide)]
theorem Pr.result_yes {q : Pr.Dk} {n : Nat} {l : List Tr.Nd} (hl : (Pr.put q 24 0 0 [] n).out = l) (hb : q.bad = false) (hv : Tr.valid l = true) : Pr.result (q, n) = (l, 0, 0) := by
  have e : q.out ++ [⟨24, 0, 0, ⟨#[]⟩, (n : Int)⟩] = l := hl
  unfold Pr.result
  rw [if_neg (by simp [hb]), if_pos (by simp only [e, hv])]
  simp only [e]
set_option maxRecDepth 100000 in
set_option maxHeartbeats 4000000 in
theorem parse_toks (s : ByteArray) (w : World) (hs : s.size ≤ 1048576) (hc : Sc.code s = 0) (hne : (Sc.toks s) ≠ []) :
    Calls Tryz.prog 4 #[.string s] w fun e w' => ∃ r, Pr.Comes s r ∧ ParsePost w (Pr.result r) e w' := by
  have HP0 := hide (PB.new w)
  have HQ := hide (sscan_any s ((w.alloc treeO).alloc (fltO 0 0)) hs)
  have hci : ((Sc.code s : Nat) : Int) = 0 := by omega
  have hln := Sc.toks_lenP s
  have HCO : Hid (∀ r, Pr.Cv (Sc.toks s) s.size (.fileL 0) Pr.dk0 r → Pr.Comes s r) := hide (fun _ h => h)
  rw [hci] at HQ
  have HNE := hide hne
  clear hci hne
  go_enter Tryz.func4, Tryz.ntmps4
  go_wp2_with fail
  refine HQ.out.mono ?_
  rintro e w1 ⟨v, rfl, hown, hb1⟩
  have hp2 := (HP0.out.below hb1).below ((Below.refl _ _).alloc (Nat.le_refl _) (fltO 0 (Sc.at_ s)))
  have hz2 := hp2.z
  generalize Sc.toks s = ts at *
  rcases hown.2 with ⟨_, h0⟩ | ⟨tg, tc, cur, hv, _⟩
  · exact absurd (List.eq_nil_of_length_eq_zero h0) HNE.out
  · subst hv
    have hrow := row_belowP hown ((Below.refl w1.heap.size w1).alloc (Nat.le_refl _) (fltO 0 (Sc.at_ s)))
    have hd := DK.init (sz := s.size) hrow (by omega)
    have hp3 := hp2.below ((Below.refl _ _).alloc (Nat.le_refl _) (.cells #[.slice (some ⟨tg, 0, none⟩) ts.length tc, .int .i64 s.size, .int .i64 0, .bool false, .int .i64 0, .slice none 0 0] 38))
    rw [World.size_alloc] at hd
    have HD0 := hide hd
    have HPH : Hid (Pr.phi ts Pr.dk0 ≤ 1000000) := hide (by unfold Pr.phi Pr.dk0; simp; omega)
    have HP3 := hide hp3
    have HZ2 := hide hz2
    clear hd hp2 hp3 hrow hown hb1 HQ hz2
    go_wp2_with fail
    go_loopw [7] (fun t wr => ∃ (n : Nat) (q : Pr.Dk) (vq : Value), t = .int .i64 n ∧ n ≤ q.p + 1 ∧ (q.bad = false → n ≤ q.p) ∧ DK (w1.heap.size + 1) tg tc ts s.size vq q wr ∧ Pr.Gr (w1.heap.size + 1) (.slice none 0 0) vq ((w1.alloc (fltO 0 (Sc.at_ s))).alloc (.cells #[.slice (some ⟨tg, 0, none⟩) ts.length tc, .int .i64 s.size, .int .i64 0, .bool false, .int .i64 0, .slice none 0 0] 38)) wr ∧ Pr.Stp ts Pr.dk0 q 0 ∧ ∀ rr, Pr.Cv ts s.size (.fileL n) q rr → Pr.Comes s rr) (fun _ wr => Pr.leftB (w1.heap.size + 1) ts wr)
    case atStart => exact ⟨0, Pr.dk0, _, rfl, Nat.zero_le _, fun _ => Nat.zero_le _, HD0.out, .refl _ _ _, .refl (Nat.zero_le _), HCO.out⟩
    case round =>
      obtain ⟨n, q, v30, rfl, hn1, hn2, hd30, hg30, hs30, hi30⟩ := hrel
      have c0 := hd30.c0
      have c2 := hd30.c2
      have c3 := hd30.c3
      have hle := hd30.le
      have HD30 := hide hd30
      have HG30 := hide hg30
      have HS30 := hide hs30
      have HI30 := hide hi30
      clear hd30 hg30 hs30 hi30
      cases hbad : q.bad
      · rw [hbad] at c3
        have hnp := hn2 hbad
        by_cases hlt : q.p < ts.length
        · have hlti : (q.p : Int) < (ts.length : Int) := by omega
          have HF := hide (show (q.bad || decide (ts.length ≤ q.p)) = false from by rw [hbad]; simp; omega)
          have hd31 := HD30.out.below (Below.refl _ _).drew
          have HD31 := hide hd31
          have HG31 := hide (HG30.out.trans (.below (Below.refl _ _).drew))
          clear hd31
          go_wp2_with fail
          go_region
          all_goals
            have Q32 := hide (Pr.statement_any _ _ _ _ _ q _ _ HD31.out (HS30.out.phi (by first | omega | (simp only [Pr.extra]; omega)) (Nat.zero_le _) HPH.out))
            go_wp2_with fail
            refine Q32.out.mono ?_
            rintro e32 w32 ⟨r32, rfl, hc32, v32, hd32, hg32⟩
            have HC32 := hide hc32
            have HD32 := hide hd32
            have HG32 := hide (HG31.out.trans hg32)
            have hst := hc32.stp hle
            have HS32 : Hid (Pr.Stp ts Pr.dk0 r32.1 0) := hide ((HS30.out.trans hst).mono (by simp only [Pr.extra]; omega))
            have hon := hc32.on
            have HNA := hide (show n + 1 ≤ r32.1.p + 1 from by have := hst.ge; omega)
            have HNB := hide (show r32.1.bad = false → n + 1 ≤ r32.1.p from fun h => by rcases hon with h1 | h1; rw [h] at h1; cases h1; omega)
            have HM := hide (show Pr.leftB (w1.heap.size + 1) ts w32 < Pr.leftB (w1.heap.size + 1) ts wr from by
              rw [HD32.out.leftB, HD30.out.leftB, hbad]
              rcases hon with h1 | h1
              · rw [h1]; simp
              · have := HD32.out.le
                simp only [Bool.false_eq_true, if_false]
                split <;> omega)
            clear hc32 hd32 hg32 hst hon Q32
            go_wp2
            go_roundw
            case rel => exact ⟨n + 1, r32.1, v32, by go_num, HNA.out, HNB.out, HD32.out, HG32.out, HS32.out, fun rr h => HI30.out _ (Pr.Cv.fileL_go HF.out HC32.out h)⟩
            case measure => exact HM.out
        · have hlti : ¬ (q.p : Int) < (ts.length : Int) := by omega
          have hltd : decide ((q.p : Int) < (ts.length : Int)) = false := by simpa using hlti
          have HR := hide (HI30.out _ (Pr.Cv.fileL_end (by rw [hbad]; simp; omega)))
          have hd31 := HD30.out.below (Below.refl _ _).drew
          have c3d := hd31.c3
          rw [hbad] at c3d
          have HD31 := hide hd31
          have HG31 := hide (HG30.out.trans (.below (Below.refl _ _).drew))
          have hol : q.out.length ≤ 100000000 := HS30.out.len (by first | omega | (simp only [Pr.extra]; omega)) (Nat.zero_le _) HPH.out
          have hol2 : q.out.length ≤ 1000000 := by have h1 := HS30.out.phi (by first | omega | (simp only [Pr.extra]; omega)) (Nat.zero_le _) HPH.out; unfold Pr.phi at h1; omega
          have hb4 : w.heap.size + 1 < w1.heap.size + 1 := by have := HZ2.out; simp at this; omega
          have HB4 := hide hb4
          clear hd31 hb4
          go_wp2_with fail
          go_region
          all_goals
            have Q32 := hide (put_any HD31.out hol 24 0 0 [] n)
            go_wp2_with fail
            refine Q32.out.mono ?_
            rintro e32 w32 ⟨rfl, v32, hd32, hg32⟩
            obtain ⟨L, hL⟩ : ∃ L, (Pr.put q 24 0 0 [] n).out = L := ⟨_, rfl⟩
            have hLl : L.length = q.out.length + 1 := by rw [← hL, Pr.put_len]
            have hrL := hd32.row
            rw [hL] at hrL
            rcases hrL.2 with ⟨_, h0⟩ | ⟨g, cp, cur2, hv, _⟩
            · omega
            subst hv
            have hpb := (HP3.out.gr (HG31.out.trans hg32) HB4.out (fun _ e => by cases e)).below ((Below.refl _ _).alloc (Nat.le_refl _) (.cells #[.slice (some ⟨g, 0, none⟩) L.length cp] 24))
            have c5 := hd32.c5
            have hrow3 := row_belowP hrL ((Below.refl w32.heap.size w32).alloc (Nat.le_refl _) (.cells #[.slice (some ⟨g, 0, none⟩) L.length cp] 24))
            have hll : L.length ≤ 1048576 := by omega
            have HV := hide (valid_any L g cp _ hll (nodesAt_row hrow3))
            have HROW := hide hrow3
            have HPB := hide hpb
            have HLL := hide hL
            clear hd32 hg32 hrow3 hpb Q32 hrL hL
            obtain ⟨bv, hval⟩ : ∃ b, Tr.valid L = b := ⟨_, rfl⟩
            rw [hval] at HV
            have HVL := hide hval
            clear hval hll hLl
            cases bv
            · go_wp2_with fail
              refine HV.out.mono ?_
              rintro e33 w33 ⟨rfl, hb33⟩
              have hpb3 := HPB.out.below hb33
              have t0 := hpb3.t0
              have f0 := hpb3.f0
              have f1 := hpb3.f1
              have ft := hpb3.ft
              have ff0 := hpb3.ff 0
              have ff1 := hpb3.ff 1
              have HPB3 := hide hpb3
              have HRR := hide (Pr.result_no HLL.out hbad HVL.out)
              clear hb33 hpb3
              go_wp2
              refine bodyPost_ret (v := .tuple #[.agg #[.slice none 0 0], .agg #[.int .i64 7, .int .i64 0]]) (by simp [results, Tryz.results4, go_sem, t0, f0, f1]) rfl ⟨(q, n), HR.out, ?_⟩
              rw [HRR.out]
              refine ⟨_, rfl, World.ownsRow_nil _ _ _ _, ?_⟩
              repeat (first | (refine Below.setCell ?_ (by show w.heap.size ≤ _; simp) _) | (refine Below.drew ?_))
              exact HPB3.out.B
            · go_wp2_with fail
              refine HV.out.mono ?_
              rintro e33 w33 ⟨rfl, hb33⟩
              have hpb3 := HPB.out.below hb33
              have t0 := hpb3.t0
              have f0 := hpb3.f0
              have f1 := hpb3.f1
              have ft := hpb3.ft
              have ff0 := hpb3.ff 0
              have ff1 := hpb3.ff 1
              have x0 : w33.cell? ⟨w32.heap.size, 0, none⟩ = some (Value.slice (some ⟨g, 0, none⟩) L.length cp) := (hb33.cell (p := ⟨w32.heap.size, 0, none⟩) (show w32.heap.size < (w32.alloc (.cells #[.slice (some ⟨g, 0, none⟩) L.length cp] 24)).heap.size by simp)).trans (by simp [go_sem])
              have HROW3 := hide (rowLeP (row_belowP HROW.out hb33) (show w.heap.size + 2 ≤ w1.heap.size + 1 + 1 by have := HB4.out; omega))
              have HPB3 := hide hpb3
              have HRR := hide (Pr.result_yes HLL.out hbad HVL.out)
              clear hb33 hpb3
              go_wp2
              refine bodyPost_ret (v := .tuple #[.agg #[.slice (some ⟨g, 0, none⟩) L.length cp], .agg #[.int .i64 0, .int .i64 0]]) (by simp [results, Tryz.results4, go_sem, t0, f0, f1]) rfl ⟨(q, n), HR.out, ?_⟩
              rw [HRR.out]
              refine ⟨_, rfl, ?_, ?_⟩
              · refine rowLeP (base := w.heap.size + 2) ?_ (by omega)
                repeat (refine ownsRow_setCell_below ?_ (by show _ < w.heap.size + 2; simp) _)
                exact HROW3.out
              · repeat (first | (refine Below.setCell ?_ (by show w.heap.size ≤ _; simp) _) | (refine Below.drew ?_))
                exact HPB3.out.B
      · rw [hbad] at c3
        have c4 := HD30.out.c4
        have hpb := HP3.out.gr HG30.out (by have := HZ2.out; simp at this; omega) (fun _ e => by cases e)
        have t0 := hpb.t0
        have f0 := hpb.f0
        have f1 := hpb.f1
        have ft := hpb.ft
        have ff0 := hpb.ff 0
        have ff1 := hpb.ff 1
        have HPB := hide hpb
        have HR := hide (HI30.out _ (Pr.Cv.fileL_end (by rw [hbad]; rfl)))
        have HRR := hide (show Pr.result (q, n) = ([], 6, q.place) from by unfold Pr.result; simp [hbad])
        clear hpb
        go_wp2_with fail
        go_region
        all_goals
          go_wp2
          go_region
          all_goals
            try go_wp2
            refine bodyPost_ret (v := .tuple #[.agg #[.slice none 0 0], .agg #[.int .i64 6, .int .i64 q.place]]) (by simp [results, Tryz.results4, go_sem, t0, f0, f1]) rfl ⟨(q, n), HR.out, ?_⟩
            rw [HRR.out]
            refine ⟨_, rfl, World.ownsRow_nil _ _ _ _, ?_⟩
            repeat (first | (refine Below.setCell ?_ (by show w.heap.size ≤ _; simp) _) | (refine Below.drew ?_))
            exact HPB.out.B
end Go.Proofs.YtfjoecbkagedbaaGreatDoor
