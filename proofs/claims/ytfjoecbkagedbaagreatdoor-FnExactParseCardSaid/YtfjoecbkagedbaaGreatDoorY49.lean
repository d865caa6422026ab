/- P8, Hw, P9, Jp. -/
import Derived.Test.YtfjoecbkagedbaaGreatDoorY36
import Derived.Test.YtfjoecbkagedbaaGreatDoorY43
import Derived.Test.YtfjoecbkagedbaaGreatDoorY44
import Derived.Test.YtfjoecbkagedbaaGreatDoorY45
import Derived.Test.YtfjoecbkagedbaaGreatDoorY48
import Derived.BigQuiet
import Derived.Test.YtfjoecbkagedbaaGreatDoorY01
import Derived.OwnWalk
namespace Go.Proofs.YtfjoecbkagedbaaGreatDoor
open Go.RowKit
set_option maxRecDepth 100000 in
set_option maxHeartbeats 2000000 in
theorem iparse_fault (s : ByteArray) (w : World) (hs : s.size ≤ 1048576) (hG : Glob w) (hc : Sc.code s ≠ 0) :
    Calls Tryz.prog 5 #[.string s] w fun e w' => e = .returned (.tuple #[.agg #[.slice none 0 0], .agg #[.int .i64 (Sc.code s), .int .i64 (Sc.at_ s)]]) ∧ Below w.heap.size w w' := by
  have HP0 := hide (PB.new w)
  have HQ := hide (iscan_any s ((w.alloc treeO).alloc (fltO 0 0)) hs (hG.below HP0.out.B hG.2.2))
  have hci : ¬ ((Sc.code s : Nat) : Int) = 0 := by omega
  have hcb : (((Sc.code s : Nat) : Int) != 0) = true := by simpa using hc
  clear hG
  go_enter Tryz.func5, Tryz.ntmps5
  go_wp2_with fail
  refine HQ.out.mono ?_
  rintro e w1 ⟨v, rfl, hown, hb1⟩
  obtain ⟨vp, vc, rfl⟩ := row_formP hown
  have hp1 := HP0.out.below hb1
  have hp2 := hp1.below ((Below.refl _ _).alloc (Nat.le_refl _) (fltO (Sc.code s) (Sc.at_ s)))
  have t0 := hp2.t0
  have f0 := hp2.f0
  have f1 := hp2.f1
  have ft := hp2.ft
  have ff0 := hp2.ff 0
  have ff1 := hp2.ff 1
  have hz := hp1.z
  have HP2 := hide hp2
  clear hp1 hp2 hb1 hown HQ
  go_wp2
  go_region
  all_goals
    try go_wp2
    refine bodyPost_ret (v := .tuple #[.agg #[.slice none 0 0], .agg #[.int .i64 (Sc.code s), .int .i64 (Sc.at_ s)]]) (by simp [results, Tryz.results5, go_sem, t0, f0, f1]) rfl ⟨rfl, ?_⟩
    repeat (first | (refine Below.setCell ?_ (by show w.heap.size ≤ _; simp) _) | (refine Below.drew ?_))
    exact HP2.out.B
theorem PB.mv {w W W' : World} {b : Nat} (h : PB w W) (hm : Ip.Mv b W W') (hb : w.heap.size + 1 < b) : PB w W' := by
  have k : ∀ q, q ≤ w.heap.size + 1 → W'.heap[q]? = W.heap[q]? := fun q hq => hm.block q (by have := h.z; omega) (by omega)
  exact ⟨⟨hm.os.trans h.B.os, hm.tape.trans h.B.tape, hm.output.trans h.B.output, Nat.le_trans h.B.size hm.size, fun q hq => (k q (by omega)).trans (h.B.block q hq)⟩, Nat.lt_of_lt_of_le h.z hm.size, (World.cell?_of_block (a := ⟨w.heap.size, 0, none⟩) (k w.heap.size (by omega))).trans h.t0, (World.cell?_of_block (a := ⟨w.heap.size + 1, 0, none⟩) (k (w.heap.size + 1) (Nat.le_refl _))).trans h.f0, (World.cell?_of_block (a := ⟨w.heap.size + 1, 1, none⟩) (k (w.heap.size + 1) (Nat.le_refl _))).trans h.f1, (World.frozen?_of_block (a := ⟨w.heap.size, 0, none⟩) (k w.heap.size (by omega))).trans h.ft, fun j => (World.frozen?_of_block (a := ⟨w.heap.size + 1, j, none⟩) (k (w.heap.size + 1) (Nat.le_refl _))).trans (h.ff j)⟩
theorem PB.fresh {w W W' : World} {n : Nat} (h : PB w W) (hb : Below n W W') (hn : w.heap.size + 1 < n) : PB w W' :=
  have k : ∀ q, q ≤ w.heap.size + 1 → W'.heap[q]? = W.heap[q]? := fun q hq => hb.block q (by omega)
  ⟨⟨hb.os.trans h.B.os, hb.tape.trans h.B.tape, hb.output.trans h.B.output, Nat.le_trans h.B.size hb.size, fun q hq => (k q (by omega)).trans (h.B.block q hq)⟩, Nat.lt_of_lt_of_le h.z hb.size, (World.cell?_of_block (a := ⟨w.heap.size, 0, none⟩) (k w.heap.size (by omega))).trans h.t0, (World.cell?_of_block (a := ⟨w.heap.size + 1, 0, none⟩) (k (w.heap.size + 1) (Nat.le_refl _))).trans h.f0, (World.cell?_of_block (a := ⟨w.heap.size + 1, 1, none⟩) (k (w.heap.size + 1) (Nat.le_refl _))).trans h.f1, (World.frozen?_of_block (a := ⟨w.heap.size, 0, none⟩) (k w.heap.size (by omega))).trans h.ft, fun j => (World.frozen?_of_block (a := ⟨w.heap.size + 1, j, none⟩) (k (w.heap.size + 1) (Nat.le_refl _))).trans (h.ff j)⟩
/-- A new parser over tokens. -/
theorem IP.init {w : World} {B sz tc : Nat} {tp : Option Addr} {ts : List Sc.T} (h : w.ownsRow B 54 4 (.slice tp ts.length tc) ts.length (Sc.cellsOf ts)) (hn : ts.length ≤ 1048576) (hf : ∀ x ∈ ts, Sc.Fine x) (h0 : 0 < w.heap.size) (hg : Ip.Glob w) :
    IP w.heap.size tp tc ts sz 0 (w.alloc (.cells #[.slice tp ts.length tc, .int .i64 0, .int .i64 sz] 44)) := by
  have hb := (Below.refl w.heap.size w).alloc (Nat.le_refl _) (.cells #[.slice tp ts.length tc, .int .i64 0, .int .i64 sz] 44)
  refine ⟨by simp, by simp, by simp, fun j => by simp, ?_, Nat.zero_le _, hn, fun i hi hk => (hf _ (List.getElem_mem hi)).2 hk, h0, fun o ho => ⟨(hb.cell (p := ⟨0, o * 2, none⟩) h0).trans (hg o ho).1, (hb.cell (p := ⟨0, o * 2 + 1, none⟩) h0).trans (hg o ho).2⟩⟩
  rcases h.2 with ⟨_, h1⟩ | ⟨g, cap, cur, hv, _⟩
  · exact .inl (List.eq_nil_of_length_eq_zero h1)
  · cases hv
    have hl : g < w.heap.size := (h.lt g rfl).2
    have ct : ∀ j u, (Sc.cellsOf ts)[j]? = some u → (w.alloc (.cells #[.slice (some ⟨g, 0, none⟩) ts.length tc, .int .i64 0, .int .i64 sz] 44)).cell? ⟨g, j, none⟩ = some u := fun j u hu => (hb.cell (p := ⟨g, j, none⟩) hl).trans (row_cellP h hu)
    exact .inr ⟨g, rfl, hl, fun i hi => by
      obtain ⟨a, b, c, d⟩ := Sc.cellsOf_atP ts i hi
      exact ⟨ct _ _ a, ct _ _ b, ct _ _ c, ct _ _ d⟩⟩
end Go.Proofs.YtfjoecbkagedbaaGreatDoor
namespace Go.Proofs.YtfjoecbkagedbaaGreatDoor
open Go.RowKit
set_option maxRecDepth 100000 in
set_option maxHeartbeats 1000000 in
theorem put_first {b : Nat} {w : World} (hc : w.cell? ⟨b, 5, none⟩ = some (.slice none 0 0)) (hf : w.frozen? ⟨b, 5, none⟩ = false) (k o n : Int) (t : List UInt8) (c : Nat) :
    Calls Tryz.prog 12 #[.pointer (some ⟨b, 0, none⟩), .agg #[.int .i64 k, .int .i64 o, .int .i64 n, .string ⟨t.toArray⟩, .int .i64 c]] w fun e w' => e = .returned (.tuple #[]) ∧ ∃ v', w'.cell? ⟨b, 5, none⟩ = some v' ∧ w'.ownsRow (b + 1) 41 5 v' 1 (Tr.Nd.cells ⟨k, o, n, ⟨t.toArray⟩, c⟩) ∧ Pr.Gr b (.slice none 0 0) v' w w' := by
  obtain ⟨iN, hN, hNz, hNs, hNb⟩ := info_parts Tryz.infoNdP
  have hl : b < w.heap.size := World.block_lt_of_cell? w ⟨b, 5, none⟩ hc
  have bb : Below w.heap.size w (w.alloc (.cells #[.int .i64 k, .int .i64 o, .int .i64 n, .string ⟨t.toArray⟩, .int .i64 c] 41)) := (Below.refl _ _).alloc (Nat.le_refl _) _
  have c5 : (w.alloc (.cells #[.int .i64 k, .int .i64 o, .int .i64 n, .string ⟨t.toArray⟩, .int .i64 c] 41)).cell? ⟨b, 5, none⟩ = some (.slice none 0 0) := (bb.cell (p := ⟨b, 5, none⟩) hl).trans hc
  have f5 : (w.alloc (.cells #[.int .i64 k, .int .i64 o, .int .i64 n, .string ⟨t.toArray⟩, .int .i64 c] 41)).frozen? ⟨b, 5, none⟩ = false := (bb.frozen (p := ⟨b, 5, none⟩) hl).trans hf
  have hz1 : (w.alloc (.cells #[.int .i64 k, .int .i64 o, .int .i64 n, .string ⟨t.toArray⟩, .int .i64 c] 41)).heap.size = w.heap.size + 1 := by simp
  have b2 : Below w.heap.size w ((w.alloc (.cells #[.int .i64 k, .int .i64 o, .int .i64 n, .string ⟨t.toArray⟩, .int .i64 c] 41)).alloc (.cells #[.int .i64 k, .int .i64 o, .int .i64 n, .string ⟨t.toArray⟩, .int .i64 c] 41)).drew := (bb.alloc (by simp) (.cells #[.int .i64 k, .int .i64 o, .int .i64 n, .string ⟨t.toArray⟩, .int .i64 c] 41)).drew
  have C3 := hide ((b2.cell (p := ⟨b, 5, none⟩) hl).trans hc)
  have F3 := hide ((b2.frozen (p := ⟨b, 5, none⟩) hl).trans hf)
  have G3 : Hid (Pr.Gr b (.slice none 0 0) (.slice none 0 0) w ((w.alloc (.cells #[.int .i64 k, .int .i64 o, .int .i64 n, .string ⟨t.toArray⟩, .int .i64 c] 41)).alloc (.cells #[.int .i64 k, .int .i64 o, .int .i64 n, .string ⟨t.toArray⟩, .int .i64 c] 41)).drew) := hide (.below b2)
  have L3 : Hid (b < ((w.alloc (.cells #[.int .i64 k, .int .i64 o, .int .i64 n, .string ⟨t.toArray⟩, .int .i64 c] 41)).alloc (.cells #[.int .i64 k, .int .i64 o, .int .i64 n, .string ⟨t.toArray⟩, .int .i64 c] 41)).drew.heap.size) := hide (Nat.lt_of_lt_of_le hl b2.size)
  clear b2 bb hc hf
  go_enter Tryz.func12, Tryz.ntmps12
  go_wp2_with fail
  go_region_law ((refine step_append_ownP rfl (.tmp 8) (.tmp 10) 22 rfl (b + 1) 41 iN _ 5 48 Tryz.underlying22 hN hNz hNs hNb rfl (by decide) (.slice none 0 0) 0 [] (by simp [Act.eval]) (World.ownsRow_nil _ _ _ _) ⟨w.heap.size + 1, 0, none⟩ 1 1 [.int .i64 k, .int .i64 o, .int .i64 n, .string ⟨t.toArray⟩, .int .i64 c] (by simp [Act.eval]) rfl (cells_litP _ [_, _, _, _, _] _ _ (by simp)) (by simp [Value.oneCell']) (by unfold maxLen; omega) (by omega) (by have := L3.out; omega) ?_; intro v5 w5 r1 r2 r3 r4; obtain ⟨p5, c5', rfl⟩ := row_formP r1; have q5 := (World.cell?_of_block (a := ⟨b, 5, none⟩) (r2.block b L3.out (fun e => by cases e))).trans C3.out; have q6 := (World.frozen?_of_block (a := ⟨b, 5, none⟩) (r2.block b L3.out (fun e => by cases e))).trans F3.out))
  all_goals
    have HR1 := hide r1
    have HR2 := hide r2
    have HR4 := hide r4
    have HQ5 := hide q5
    clear r1 r2 r3 r4
    go_wp2
    (first | go_end0 | refine bodyPost_ret (results_none rfl _ _ _) rfl ?_)
    refine ⟨rfl, _, World.cell?_setCell_same _ _ _ HQ5.out, ?_, (G3.out.trans (.grown HR2.out HR4.out)).trans (.set _ _ _ _ _)⟩
    exact row_sameP HR1.out (fun g hg' _ => Below.heap_setCell _ _ _ _ (show g ≠ b by omega))
set_option maxRecDepth 100000 in
set_option maxHeartbeats 4000000 in
theorem parse_none (s : ByteArray) (w : World) (hs : s.size ≤ 1048576) (hc : Sc.code s = 0) (hne : Sc.toks s = []) :
    Calls Tryz.prog 4 #[.string s] w fun e w' => ∃ r, Pr.Comes s r ∧ ParsePost w (Pr.result r) e w' := by
  have HP0 := hide (PB.new w)
  have HQ := hide (sscan_any s ((w.alloc treeO).alloc (fltO 0 0)) hs)
  have hci : ((Sc.code s : Nat) : Int) = 0 := by omega
  have HR : Hid (Pr.Comes s (Pr.dk0, 0)) := hide (by unfold Pr.Comes; rw [hne]; exact Pr.Cv.fileL_end rfl)
  rw [hci, hne] at HQ
  clear hci hne
  go_enter Tryz.func4, Tryz.ntmps4
  go_wp2_with fail
  refine HQ.out.mono ?_
  rintro e w1 ⟨v, rfl, hown, hb1⟩
  have hp2 := (HP0.out.below hb1).below ((Below.refl _ _).alloc (Nat.le_refl _) (fltO 0 (Sc.at_ s)))
  obtain ⟨tp, tq, hv⟩ := row_formP hown
  simp only [List.length_nil] at hv
  subst hv
  have hb4 : w.heap.size + 1 < w1.heap.size + 1 := by have := hp2.z; simp at this; omega
  have HB4 := hide hb4
  have hp3 := hp2.below ((Below.refl _ _).alloc (Nat.le_refl _) (.cells #[.slice tp 0 tq, .int .i64 s.size, .int .i64 0, .bool false, .int .i64 0, .slice none 0 0] 38))
  have c0 : ((w1.alloc (fltO 0 (Sc.at_ s))).alloc (.cells #[.slice tp 0 tq, .int .i64 s.size, .int .i64 0, .bool false, .int .i64 0, .slice none 0 0] 38)).cell? ⟨w1.heap.size + 1, 0, none⟩ = some (.slice tp 0 tq) := by rw [show w1.heap.size + 1 = (w1.alloc (fltO 0 (Sc.at_ s))).heap.size from by simp]; simp
  have c2 : ((w1.alloc (fltO 0 (Sc.at_ s))).alloc (.cells #[.slice tp 0 tq, .int .i64 s.size, .int .i64 0, .bool false, .int .i64 0, .slice none 0 0] 38)).cell? ⟨w1.heap.size + 1, 2, none⟩ = some (.int .i64 0) := by rw [show w1.heap.size + 1 = (w1.alloc (fltO 0 (Sc.at_ s))).heap.size from by simp]; simp
  have c3 : ((w1.alloc (fltO 0 (Sc.at_ s))).alloc (.cells #[.slice tp 0 tq, .int .i64 s.size, .int .i64 0, .bool false, .int .i64 0, .slice none 0 0] 38)).cell? ⟨w1.heap.size + 1, 3, none⟩ = some (.bool false) := by rw [show w1.heap.size + 1 = (w1.alloc (fltO 0 (Sc.at_ s))).heap.size from by simp]; simp
  have c5 : ((w1.alloc (fltO 0 (Sc.at_ s))).alloc (.cells #[.slice tp 0 tq, .int .i64 s.size, .int .i64 0, .bool false, .int .i64 0, .slice none 0 0] 38)).cell? ⟨w1.heap.size + 1, 5, none⟩ = some (.slice none 0 0) := by rw [show w1.heap.size + 1 = (w1.alloc (fltO 0 (Sc.at_ s))).heap.size from by simp]; simp
  have f5 : ((w1.alloc (fltO 0 (Sc.at_ s))).alloc (.cells #[.slice tp 0 tq, .int .i64 s.size, .int .i64 0, .bool false, .int .i64 0, .slice none 0 0] 38)).frozen? ⟨w1.heap.size + 1, 5, none⟩ = false := by rw [show w1.heap.size + 1 = (w1.alloc (fltO 0 (Sc.at_ s))).heap.size from by simp]; simp
  have HP3 := hide hp3
  obtain ⟨W2, hW2⟩ : ∃ W, (w1.alloc (fltO 0 (Sc.at_ s))).alloc (.cells #[.slice tp 0 tq, .int .i64 s.size, .int .i64 0, .bool false, .int .i64 0, .slice none 0 0] 38) = W := ⟨_, rfl⟩
  rw [hW2] at c0 c2 c3 c5 f5 HP3
  have HC5 := hide c5
  have HF5 := hide f5
  have HW2 := hide hW2
  clear hp2 hp3 hown hb1 HQ hb4 hW2 c5 f5
  go_wp2_with fail
  rw [HW2.out]
  go_loopw [7] (fun t wr => t = .int .i64 0 ∧ wr = W2) (fun _ _ => 0)
  case atStart => exact ⟨rfl, rfl⟩
  case round =>
    obtain ⟨rfl, rfl⟩ := hrel
    have c3d : wr.drew.cell? ⟨w1.heap.size + 1, 3, none⟩ = some (.bool false) := c3
    go_wp2_with fail
    go_region
    all_goals
      have Q32 := hide (put_first (show wr.drew.cell? ⟨w1.heap.size + 1, 5, none⟩ = _ from HC5.out) (show wr.drew.frozen? ⟨w1.heap.size + 1, 5, none⟩ = _ from HF5.out) 24 0 0 [] 0)
      go_wp2_with fail
      refine Q32.out.mono ?_
      rintro e32 w32 ⟨rfl, v32, c5, hrL, hg32⟩
      obtain ⟨L, hL⟩ : ∃ L, (Pr.put Pr.dk0 24 0 0 [] 0).out = L := ⟨_, rfl⟩
      have hLl : L.length = 1 := by rw [← hL, Pr.put_len]; rfl
      have hrL : w32.ownsRow (w1.heap.size + 1 + 1) 41 5 v32 L.length (Tr.cellsOf L) := by rw [hLl, ← hL]; exact hrL
      rcases hrL.2 with ⟨_, h0⟩ | ⟨g, cp, cur2, hv, _⟩
      · omega
      subst hv
      have hpb := ((HP3.out.below (Below.refl _ _).drew).gr hg32 HB4.out (fun _ e => by cases e)).below ((Below.refl _ _).alloc (Nat.le_refl _) (.cells #[.slice (some ⟨g, 0, none⟩) L.length cp] 24))
      have hrow3 := row_belowP hrL ((Below.refl w32.heap.size w32).alloc (Nat.le_refl _) (.cells #[.slice (some ⟨g, 0, none⟩) L.length cp] 24))
      have hll : L.length ≤ 1048576 := by omega
      have HV := hide (valid_any L g cp _ hll (nodesAt_row hrow3))
      have HROW := hide hrow3
      have HPB := hide hpb
      have HLL := hide hL
      clear hg32 hrow3 hpb Q32 hrL hL
      obtain ⟨bv, hval⟩ : ∃ b, Tr.valid L = b := ⟨_, rfl⟩
      rw [hval] at HV
      have HVL := hide hval
      clear hval hll hLl
      cases bv
      · go_wp2_with fail
        refine HV.out.mono ?_
        rintro e33 w33 ⟨rfl, hb33⟩
        have hpb3 := HPB.out.below hb33
        have t0 := hpb3.t0
        have f0 := hpb3.f0
        have f1 := hpb3.f1
        have ft := hpb3.ft
        have ff0 := hpb3.ff 0
        have ff1 := hpb3.ff 1
        have HPB3 := hide hpb3
        have HRR := hide (Pr.result_no HLL.out rfl HVL.out)
        clear hb33 hpb3
        go_wp2
        refine bodyPost_ret (v := .tuple #[.agg #[.slice none 0 0], .agg #[.int .i64 7, .int .i64 0]]) (by simp [results, Tryz.results4, go_sem, t0, f0, f1]) rfl ⟨(Pr.dk0, 0), HR.out, ?_⟩
        rw [HRR.out]
        refine ⟨_, rfl, World.ownsRow_nil _ _ _ _, ?_⟩
        repeat (first | (refine Below.setCell ?_ (by show w.heap.size ≤ _; simp) _) | (refine Below.drew ?_))
        exact HPB3.out.B
      · go_wp2_with fail
        refine HV.out.mono ?_
        rintro e33 w33 ⟨rfl, hb33⟩
        have hpb3 := HPB.out.below hb33
        have t0 := hpb3.t0
        have f0 := hpb3.f0
        have f1 := hpb3.f1
        have ft := hpb3.ft
        have ff0 := hpb3.ff 0
        have ff1 := hpb3.ff 1
        have x0 : w33.cell? ⟨w32.heap.size, 0, none⟩ = some (Value.slice (some ⟨g, 0, none⟩) L.length cp) := (hb33.cell (p := ⟨w32.heap.size, 0, none⟩) (show w32.heap.size < (w32.alloc (.cells #[.slice (some ⟨g, 0, none⟩) L.length cp] 24)).heap.size by simp)).trans (by simp [go_sem])
        have HROW3 := hide (rowLeP (row_belowP HROW.out hb33) (show w.heap.size + 2 ≤ w1.heap.size + 1 + 1 by have := HB4.out; omega))
        have HPB3 := hide hpb3
        have HRR := hide (Pr.result_yes HLL.out rfl HVL.out)
        clear hb33 hpb3
        go_wp2
        refine bodyPost_ret (v := .tuple #[.agg #[.slice (some ⟨g, 0, none⟩) L.length cp], .agg #[.int .i64 0, .int .i64 0]]) (by simp [results, Tryz.results4, go_sem, t0, f0, f1]) rfl ⟨(Pr.dk0, 0), HR.out, ?_⟩
        rw [HRR.out]
        refine ⟨_, rfl, ?_, ?_⟩
        · refine rowLeP (base := w.heap.size + 2) ?_ (by omega)
          repeat (refine ownsRow_setCell_below ?_ (by show _ < w.heap.size + 2; simp) _)
          exact HROW3.out
        · repeat (first | (refine Below.setCell ?_ (by show w.heap.size ≤ _; simp) _) | (refine Below.drew ?_))
          exact HPB3.out.B
/-- What the document's Parse makes of a text: its nodes, the fault's code and place. -/
def Pr.Parsed (s : ByteArray) (r : List Tr.Nd × Nat × Nat) : Prop := (Sc.code s ≠ 0 ∧ r = ([], Sc.code s, Sc.at_ s)) ∨ (Sc.code s = 0 ∧ ∃ d, Pr.Comes s d ∧ r = Pr.result d)
theorem Pr.Parsed.same {s : ByteArray} {r q : List Tr.Nd × Nat × Nat} (h : Pr.Parsed s r) (k : Pr.Parsed s q) : r = q := by
  rcases h with ⟨h1, rfl⟩ | ⟨h1, d, hd, rfl⟩ <;> rcases k with ⟨k1, rfl⟩ | ⟨k1, d', hd', rfl⟩
  · rfl
  · exact absurd k1 h1
  · exact absurd h1 k1
  · rw [hd.same hd']
theorem sparse_any (s : ByteArray) (w : World) (hs : s.size ≤ 1048576) :
    Calls Tryz.prog 4 #[.string s] w fun e w' => ∃ r, Pr.Parsed s r ∧ ParsePost w r e w' := by
  by_cases hc : Sc.code s = 0
  · by_cases hn : Sc.toks s = []
    · exact (parse_none s w hs hc hn).mono (fun e w' ⟨r, hr, hp⟩ => ⟨_, .inr ⟨hc, r, hr, rfl⟩, hp⟩)
    · exact (parse_toks s w hs hc hn).mono (fun e w' ⟨r, hr, hp⟩ => ⟨_, .inr ⟨hc, r, hr, rfl⟩, hp⟩)
  · exact (parse_fault s w hs hc).mono (fun e w' ⟨he, hb⟩ => ⟨_, .inl ⟨hc, rfl⟩, _, he, World.ownsRow_nil _ _ _ _, hb⟩)
theorem Tr.valid_len {l : List Tr.Nd} (h : Tr.valid l = true) : l.length ≤ 5000 := by
  unfold Tr.valid at h
  simp only [Bool.and_eq_true] at h
  have := Tr.inr_true h.1.1.1
  omega
theorem Pr.Parsed.len {s : ByteArray} {r : List Tr.Nd × Nat × Nat} (h : Pr.Parsed s r) : r.1.length ≤ 5000 := by
  rcases h with ⟨h1, rfl⟩ | ⟨h1, d, hd, rfl⟩
  · exact Nat.zero_le _
  · unfold Pr.result
    split
    · exact Nat.zero_le _
    · split
      · rename_i _ hv
        exact Tr.valid_len hv
      · exact Nat.zero_le _
end Go.Proofs.YtfjoecbkagedbaaGreatDoor
namespace Go.Proofs.YtfjoecbkagedbaaGreatDoor
open Go.RowKit
set_option maxRecDepth 100000 in
set_option maxHeartbeats 4000000 in
theorem iparse_toks (s : ByteArray) (w : World) (hs : s.size ≤ 1048576) (hG : Glob w) (hO : Ip.Glob w) (hc : Sc.code s = 0) :
    Calls Tryz.prog 5 #[.string s] w fun e w' => ∃ r, Pr.Comes s r ∧ ParsePost w (Pr.result r) e w' := by
  have HP0 := hide (PB.new w)
  have h3 : 0 < w.heap.size := by have := hG.2.2; omega
  have HQ := hide (iscan_any s ((w.alloc treeO).alloc (fltO 0 0)) hs (hG.below HP0.out.B hG.2.2))
  have hci : ((Sc.code s : Nat) : Int) = 0 := by omega
  have hln := Sc.toks_lenP s
  have HFN := hide (Sc.toks_fine s)
  have HCO : Hid (∀ r, Pr.Cv (Sc.toks s) s.size (.fileL 0) Pr.dk0 r → Pr.Comes s r) := hide (fun _ h => h)
  rw [hci] at HQ
  have HO := hide hO
  clear hci hG hO
  go_enter Tryz.func5, Tryz.ntmps5
  go_wp2_with fail
  refine HQ.out.mono ?_
  rintro e w1 ⟨v, rfl, hown, hb1⟩
  generalize Sc.toks s = ts at *
  obtain ⟨vp, vc, rfl⟩ := row_formP hown
  have hbf := below_new w1 (fltO 0 (Sc.at_ s))
  have hp2 := (HP0.out.below hb1).below hbf
  have hz1 := (HP0.out.below hb1).z
  have hrow := row_belowP hown hbf
  have hbw : Below w.heap.size w (w1.alloc (fltO 0 (Sc.at_ s))) := hp2.B
  have hd := IP.init (sz := s.size) hrow (by omega) HFN.out (by have := hp2.z; omega) (fun o ho => ⟨(hbw.cell (p := ⟨0, o * 2, none⟩) h3).trans (HO.out o ho).1, (hbw.cell (p := ⟨0, o * 2 + 1, none⟩) h3).trans (HO.out o ho).2⟩)
  rw [World.size_alloc] at hd
  have hbp := below_new (w1.alloc (fltO 0 (Sc.at_ s))) (.cells #[.slice vp ts.length vc, .int .i64 0, .int .i64 s.size] 44)
  have hp3 := hp2.below hbp
  have hx : ((w1.alloc (fltO 0 (Sc.at_ s))).alloc (.cells #[.slice vp ts.length vc, .int .i64 0, .int .i64 s.size] 44)).heap[w1.heap.size]? = some (.cells #[.int .i64 0, .int .i64 (Sc.at_ s)] 26 (0, 0)) := (hbp.block _ (by simp)).trans (heap_alloc_new w1 _)
  have hzz : ((w1.alloc (fltO 0 (Sc.at_ s))).alloc (.cells #[.slice vp ts.length vc, .int .i64 0, .int .i64 s.size] 44)).heap.size = w1.heap.size + 2 := by simp
  have Q := hide (ifile_any (s := Pr.dk0) rfl _ hd)
  have HP3 := hide hp3
  have HX := hide hx
  clear hd hp2 hp3 hrow hown hb1 hbf hbp hbw hx HQ HO
  go_wp2_with fail
  refine Q.out.mono ?_
  rintro e w4 (⟨r, v4, l, rfl, hcv, hbad, hout, hm4, hp4⟩ | ⟨q, rfl, hen, hm4⟩)
  · -- all has been read
    have hcell := (hm4.block w1.heap.size (by rw [hzz]; omega) (by omega)).trans HX.out
    have hPB := HP3.out.mv hm4 (by omega)
    have x0 : w4.cell? ⟨w1.heap.size, 0, none⟩ = some (.int .i64 0) := by simp only [World.cell?, hcell]; rfl
    have x1 : w4.cell? ⟨w1.heap.size, 1, none⟩ = some (.int .i64 (Sc.at_ s)) := by simp only [World.cell?, hcell]; rfl
    have y0 : w4.frozen? ⟨w1.heap.size, 0, none⟩ = false := by simp only [World.frozen?, hcell]; rfl
    have y1 : w4.frozen? ⟨w1.heap.size, 1, none⟩ = false := by simp only [World.frozen?, hcell]; rfl
    obtain ⟨tv, uv, rfl⟩ := hp4.iface
    have hs4 := hm4.size
    rw [hzz] at hs4
    rw [hzz] at hp4
    have hset : Below w1.heap.size w4 ((w4.setCell ⟨w1.heap.size, 0, none⟩ (.int .i64 0)).setCell ⟨w1.heap.size, 1, none⟩ (.int .i64 0)) := ((Below.refl _ w4).setCell (p := ⟨w1.heap.size, 0, none⟩) (Nat.le_refl _) _).setCell (p := ⟨w1.heap.size, 1, none⟩) (Nat.le_refl _) _
    have hz5 : ((w4.setCell ⟨w1.heap.size, 0, none⟩ (.int .i64 0)).setCell ⟨w1.heap.size, 1, none⟩ (.int .i64 0)).heap.size = w4.heap.size := by simp [World.setCell]
    have hp5 := hp4.go (lo' := w1.heap.size + 2) (w' := (w4.setCell ⟨w1.heap.size, 0, none⟩ (.int .i64 0)).setCell ⟨w1.heap.size, 1, none⟩ (.int .i64 0)) (Nat.le_refl _) hset.size (fun q hq _ => by
      rw [Below.heap_setCell _ _ _ _ (show q ≠ w1.heap.size by omega), Below.heap_setCell _ _ _ _ (show q ≠ w1.heap.size by omega)])
    have HP5 := hide (hPB.fresh hset hz1)
    have hst := hcv.stp (Nat.zero_le _)
    have hlen : l.length ≤ 40000 := by
      have h1 := hst.most
      have h2 := hst.le
      rw [hout] at h1
      simp [Pr.dk0, Pr.extra] at h1
      omega
    have hsm : Pr.Sm r.1 := hcv.sm HFN.out (fun x hx => by simp [Pr.dk0] at hx)
    have hout' : r.1.out = l := by rw [hout]; simp [Pr.dk0]
    obtain ⟨n, hat⟩ := hp5
    have Q2 := hide (nodesOf_any w.heap.size n _ _ _ _ hat (fun q h => h.2) (.slice none 0 0) [] (World.ownsRow_nil _ _ _ _) (fun q e => by simp [Value.ownBlock] at e) (by simp; omega) (by have := HP5.out.z; omega))
    have HR := hide (HCO.out _ hcv)
    have HL : Hid ((Pr.put r.1 24 0 0 [] r.2).out = l ++ [⟨24, 0, 0, ⟨#[]⟩, r.2⟩]) := hide (by rw [← hout']; rfl)
    have HTX : Hid (∀ x ∈ l ++ [(⟨24, 0, 0, ⟨#[]⟩, r.2⟩ : Tr.Nd)], x.text.size ≤ 1048576) := hide (fun x hx => by
      rcases List.mem_append.1 hx with hx | hx
      · have := hsm x (by rw [hout']; exact hx); omega
      · simp only [List.mem_cons, List.not_mem_nil, or_false] at hx
        rw [hx]; exact Nat.zero_le _)
    have hL2 : 1 ≤ (l ++ [(⟨24, 0, 0, ⟨#[]⟩, r.2⟩ : Tr.Nd)]).length ∧ (l ++ [(⟨24, 0, 0, ⟨#[]⟩, r.2⟩ : Tr.Nd)]).length ≤ 50000 := by simp; omega
    clear hcv hout hout' hsm hst hp4 hat hm4 hPB hcell Q HP3 HX
    generalize l ++ [(⟨24, 0, 0, ⟨#[]⟩, r.2⟩ : Tr.Nd)] = L at *
    go_wp2_with fail
    refine Q2.out.mono ?_
    rintro e w6 ⟨sv, rfl, hr6, hg6⟩
    rw [List.nil_append] at hr6
    have hb6 : Below ((w4.setCell ⟨w1.heap.size, 0, none⟩ (.int .i64 0)).setCell ⟨w1.heap.size, 1, none⟩ (.int .i64 0)).heap.size ((w4.setCell ⟨w1.heap.size, 0, none⟩ (.int .i64 0)).setCell ⟨w1.heap.size, 1, none⟩ (.int .i64 0)) w6 := ⟨hg6.mv.os, hg6.mv.tape, hg6.mv.output, hg6.mv.size, fun q hq => hg6.mv.block q hq (fun e => by simp [Value.ownBlock] at e)⟩
    obtain ⟨g, gc, rfl⟩ : ∃ g gc, sv = .slice (some ⟨g, 0, none⟩) L.length gc := by
      rcases hr6.2 with ⟨_, h0⟩ | ⟨g, cap, cur, hv, _⟩
      · omega
      · exact ⟨g, cap, hv⟩
    have hgl : w4.heap.size ≤ g := by
      rcases hg6.own with h | h
      · simp [Value.ownBlock] at h
      · have := h g rfl; rw [hz5] at this; exact this
    have hbt := below_new w6 (.cells #[.slice (some ⟨g, 0, none⟩) L.length gc] 24)
    have hr7 := row_belowP hr6 hbt
    have hp7 := (HP5.out.below hb6).below hbt
    have hz6 := hb6.size
    rw [hz5] at hz6
    have hx7 := heap_alloc_new w6 (.cells #[.slice (some ⟨g, 0, none⟩) L.length gc] 24)
    have hz7 : (w6.alloc (.cells #[.slice (some ⟨g, 0, none⟩) L.length gc] 24)).heap.size = w6.heap.size + 1 := by simp
    have Q3 := hide (ivalid_any L g gc (w6.alloc (.cells #[.slice (some ⟨g, 0, none⟩) L.length gc] 24)) (by omega) HTX.out (nodesAt_row hr7))
    rw [Tr.ivalid_eq] at Q3
    have HR7 := hide hr7
    have HP7 := hide hp7
    have HX7 := hide hx7
    clear hr6 hr7 hp7 hx7 hbt hb6 hg6 Q2 HP5 HTX hset hz5 x0 x1 y0 y1
    go_wp2_with fail
    refine Q3.out.mono ?_
    rintro e w8 ⟨rfl, hb8⟩
    have hp8 := HP7.out.below hb8
    have t0 := hp8.t0
    have f0 := hp8.f0
    have f1 := hp8.f1
    have ft := hp8.ft
    have ff0 := hp8.ff 0
    have ff1 := hp8.ff 1
    have hx8 := (hb8.block w6.heap.size (by rw [hz7]; exact Nat.lt_succ_self _)).trans HX7.out
    have x8 : w8.cell? ⟨w6.heap.size, 0, none⟩ = some (.slice (some ⟨g, 0, none⟩) L.length gc) := by simp only [World.cell?, hx8]; rfl
    have hz8 := hb8.size
    rw [hz7] at hz8
    have HR8 := hide (row_belowP HR7.out hb8)
    have HP8 := hide hp8
    have n1 : ¬ w6.heap.size = w.heap.size := by omega
    have n2 : ¬ w6.heap.size = w.heap.size + 1 := by omega
    clear hp8 hb8 hx8 Q3 HR7 HP7 HX7
    cases hval : Tr.valid L
    · have HV : Hid (Pr.result (r.1, r.2) = ([], 7, 0)) := hide (Pr.result_no HL.out hbad hval)
      go_wp2
      refine bodyPost_ret (v := .tuple #[.agg #[.slice none 0 0], .agg #[.int .i64 7, .int .i64 0]]) (by simp [results, Tryz.results5, go_sem, t0, f0, f1]) rfl ?_
      refine ⟨r, HR.out, ?_⟩
      rw [show Pr.result r = ([], 7, 0) from HV.out]
      refine ⟨.slice none 0 0, rfl, World.ownsRow_nil _ _ _ _, ?_⟩
      repeat (first | (refine Below.setCell ?_ (by show w.heap.size ≤ _; simp) _) | (refine Below.drew ?_))
      exact HP8.out.B
    · have HV : Hid (Pr.result (r.1, r.2) = (L, 0, 0)) := hide (Pr.result_yes HL.out hbad hval)
      go_wp2
      refine bodyPost_ret (v := .tuple #[.agg #[.slice (some ⟨g, 0, none⟩) L.length gc], .agg #[.int .i64 0, .int .i64 0]]) (by simp [results, Tryz.results5, go_sem, t0, f0, f1]) rfl ?_
      refine ⟨r, HR.out, ?_⟩
      rw [show Pr.result r = (L, 0, 0) from HV.out]
      refine ⟨.slice (some ⟨g, 0, none⟩) L.length gc, rfl, ?_, ?_⟩
      · refine row_own HR8.out (fun q e => (HR8.out.lt q e).1) (fun q e => ?_)
        cases e
        rw [Below.heap_setCell _ _ _ _ (show g ≠ w.heap.size + 1 by omega), Below.heap_setCell _ _ _ _ (show g ≠ w.heap.size + 1 by omega), Below.heap_setCell _ _ _ _ (show g ≠ w.heap.size by omega)]
      · repeat (first | (refine Below.setCell ?_ (by show w.heap.size ≤ _; simp) _) | (refine Below.drew ?_))
        exact HP8.out.B
  · -- it is stuck
    have hcell := (hm4.block w1.heap.size (by rw [hzz]; omega) (by omega)).trans HX.out
    have hPB := HP3.out.mv hm4 (by omega)
    have x0 : w4.cell? ⟨w1.heap.size, 0, none⟩ = some (.int .i64 0) := by simp only [World.cell?, hcell]; rfl
    have x1 : w4.cell? ⟨w1.heap.size, 1, none⟩ = some (.int .i64 (Sc.at_ s)) := by simp only [World.cell?, hcell]; rfl
    have y0 : w4.frozen? ⟨w1.heap.size, 0, none⟩ = false := by simp only [World.frozen?, hcell]; rfl
    have y1 : w4.frozen? ⟨w1.heap.size, 1, none⟩ = false := by simp only [World.frozen?, hcell]; rfl
    have t0 := hPB.t0
    have f0 := hPB.f0
    have f1 := hPB.f1
    have ft := hPB.ft
    have ff0 := hPB.ff 0
    have ff1 := hPB.ff 1
    have n1 : ¬ w1.heap.size = w.heap.size := by omega
    have n2 : ¬ w1.heap.size = w.heap.size + 1 := by omega
    have n3 : ¬ w.heap.size = w1.heap.size := by omega
    have n4 : ¬ w.heap.size + 1 = w1.heap.size := by omega
    obtain ⟨r, hcv, hrb, hrp⟩ := hen
    have HR := hide (HCO.out _ hcv)
    have HV : Hid (Pr.result r = ([], 6, q)) := hide (by unfold Pr.result; rw [if_pos hrb, hrp])
    have HPB := hide hPB
    clear hcv hrb hrp hPB hm4 hcell Q HP3 HX
    go_wp2
    go_region
    all_goals
      try go_wp2
      refine bodyPost_ret (v := .tuple #[.agg #[.slice none 0 0], .agg #[.int .i64 6, .int .i64 (q : Int)]]) (by simp [results, Tryz.results5, go_sem, t0, f0, f1]) rfl ?_
      refine ⟨r, HR.out, ?_⟩
      rw [HV.out]
      refine ⟨.slice none 0 0, rfl, World.ownsRow_nil _ _ _ _, ?_⟩
      repeat (first | (refine Below.setCell ?_ (by simp <;> omega) _) | (refine Below.drew ?_))
      exact HPB.out.B
theorem iparse_any (s : ByteArray) (w : World) (hs : s.size ≤ 1048576) (hG : Glob w) (hO : Ip.Glob w) :
    Calls Tryz.prog 5 #[.string s] w fun e w' => ∃ r, Pr.Parsed s r ∧ ParsePost w r e w' := by
  by_cases hc : Sc.code s = 0
  · exact (iparse_toks s w hs hG hO hc).mono (fun e w' ⟨r, hr, hp⟩ => ⟨_, .inr ⟨hc, r, hr, rfl⟩, hp⟩)
  · exact (iparse_fault s w hs hG hc).mono (fun e w' ⟨he, hb⟩ => ⟨_, .inl ⟨hc, rfl⟩, _, he, World.ownsRow_nil _ _ _ _, hb⟩)
end Go.Proofs.YtfjoecbkagedbaaGreatDoor
namespace Go.Proofs.YtfjoecbkagedbaaGreatDoor
open Go.RowKit

theorem Tr.cellsOf_len (l : List Tr.Nd) : (Tr.cellsOf l).length = l.length * 5 := by
  induction l with
  | nil => rfl
  | cons x r ih => rw [show Tr.cellsOf (x :: r) = x.cells ++ Tr.cellsOf r from rfl, List.length_append, ih, List.length_cons]; simp [Tr.Nd.cells]; omega
theorem Tr.cellsOf_at (l : List Tr.Nd) (i : Nat) (h : i < l.length) : (Tr.cellsOf l)[i * 5]? = some (.int .i64 l[i].kind) ∧ (Tr.cellsOf l)[i * 5 + 1]? = some (.int .i64 l[i].op) ∧ (Tr.cellsOf l)[i * 5 + 2]? = some (.int .i64 l[i].n) ∧ (Tr.cellsOf l)[i * 5 + 3]? = some (.string l[i].text) ∧ (Tr.cellsOf l)[i * 5 + 4]? = some (.int .i64 l[i].kids) := by
  induction l generalizing i with
  | nil => simp at h
  | cons x r ih =>
    rw [show Tr.cellsOf (x :: r) = x.cells ++ Tr.cellsOf r from rfl]
    match i, h with
    | 0, _ => simp [Tr.Nd.cells]
    | i + 1, h =>
      have := ih i (by simpa using h)
      have hl : x.cells.length = 5 := rfl
      refine ⟨?_, ?_, ?_, ?_, ?_⟩
      all_goals rw [List.getElem?_append_right (by omega), hl]
      · rw [show (i + 1) * 5 - 5 = i * 5 from by omega]; exact this.1
      · rw [show (i + 1) * 5 + 1 - 5 = i * 5 + 1 from by omega]; exact this.2.1
      · rw [show (i + 1) * 5 + 2 - 5 = i * 5 + 2 from by omega]; exact this.2.2.1
      · rw [show (i + 1) * 5 + 3 - 5 = i * 5 + 3 from by omega]; exact this.2.2.2.1
      · rw [show (i + 1) * 5 + 4 - 5 = i * 5 + 4 from by omega]; exact this.2.2.2.2
theorem cell_new (X : World) (v : Value) (t : TypeId) : (X.alloc (.cells #[v] t)).cell? ⟨X.heap.size, 0, none⟩ = some v ∧ (X.alloc (.cells #[v] t)).frozen? ⟨X.heap.size, 0, none⟩ = false := by simp
theorem size_set5 (w : World) (a : Addr) (v : Value) : (w.setCell a v).heap.size = w.heap.size := by simp
theorem Tryz.infoNd : (Tryz.prog.info? 41).map (fun i => (i.zero, i.size, i.bytes)) = some (some (.agg #[.int .i64 0, .int .i64 0, .int .i64 0, .string ⟨#[]⟩, .int .i64 0]), 5, 48) := by kernel_rfl

end Go.Proofs.YtfjoecbkagedbaaGreatDoor
