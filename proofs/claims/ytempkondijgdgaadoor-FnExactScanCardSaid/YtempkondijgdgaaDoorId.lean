/- Walks: the program's iterator over the tokens. -/
import Derived.Test.YtempkondijgdgaaDoorIc
import Derived.RangeFuncNested
import Derived.RangeFuncBound
import Derived.RangeFuncCalls
import Derived.RangeFuncLeaves
import Derived.Shelf.Abstract
import Derived.Shelf.RegionOpen
import Derived.OwnWalkIn
import Derived.TacticsInMore
import Derived.LoopNIn
import Derived.LoopIn
import Derived.Maps.AppendAt
import Derived.WalkMore
namespace Go.Proofs.YtempkondijgdgaaDoor
open Go.RowKit Go.Shelf

attribute [local go_sem] Oper.semAt_some

namespace Sc
abbrev Y := T × Nat
def encs (x : Y) : Array Value := #[.agg #[.int .i64 x.1.kind, .string ⟨x.1.text.toArray⟩, .int .i64 x.1.n, .int .i64 x.1.place], .int .i64 x.2]
def seqOf (p : List T × Nat × Nat) : List Y := p.1.map (fun t => (t, 0)) ++ if p.2.1 = 0 then [] else [(⟨0, [], 0, p.2.2⟩, p.2.1)]
def seq (l : List UInt8) (k : Nat) : List Y := seqOf (from_ l k)
theorem seq_end (l : List UInt8) (k : Nat) (h : l.length ≤ k + gapLen false (l.drop k)) : seq l k = [] := by unfold seq; rw [from_end l k h]; rfl
theorem seq_bad (l : List UInt8) (k : Nat) (hk : k < l.length) (hg : gapLen false (l.drop k) = 0) (hc : (one (l.drop k)).code ≠ 0) : seq l k = [(⟨0, [], 0, k⟩, (one (l.drop k)).code)] := by
  unfold seq; rw [from_bad l k hk hg hc]; simp [seqOf, hc]
theorem seq_tok (l : List UInt8) (k : Nat) (hk : k < l.length) (hg : gapLen false (l.drop k) = 0) (hc : (one (l.drop k)).code = 0) :
    seq l k = (⟨(one (l.drop k)).kind, (one (l.drop k)).text, (one (l.drop k)).n, k⟩, 0) :: seq l (k + (one (l.drop k)).size) := by
  unfold seq; rw [from_tok l k hk hg hc]; simp [seqOf]
theorem seq_gap (l : List UInt8) (k k' : Nat) (h : k + gapLen false (l.drop k) = k' + gapLen false (l.drop k')) : seq l k = seq l k' := by
  have a : ∀ k, seq l k = seq l (k + gapLen false (l.drop k)) := by
    intro k
    have hg : gapLen false (l.drop (k + gapLen false (l.drop k))) = 0 := by have := gap_gap false (l.drop k); rwa [List.drop_drop] at this
    unfold seq; rw [← from_gap l k hg]
  rw [a k, a k', h]
theorem ext_drop (s : ByteArray) (k : Nat) : (s.extract k s.size).data.toList = s.data.toList.drop k := by
  rw [Lib.extract_data, List.take_of_length_le (by simp)]
end Sc

theorem below_grown {A B : World} (h : Below A.heap.size A B) : A.grownBy B none := ⟨h.os, h.tape, h.output, h.size, fun k hk _ => h.block k hk⟩

set_option maxHeartbeats 400000 in
theorem each_any (s : ByteArray) (w : World) : Calls Tryd.prog 12 #[.string s] w fun e w' => e = .returned (.func (.func 23) #[] #[.pointer (some ⟨w.heap.size, 0, none⟩)]) ∧ w' = w.alloc (.cells #[.string s] 9) := by
  go_enter Tryd.func12, Tryd.ntmps12
  go_wp2
  go_ret
  exact ⟨rfl, rfl⟩

theorem map_keeps {P : Program} {A B : World} {b n : Nat} {D : DataW Unit} (hm : A.ownsMap P 9 unitElem b n D) (h : KeepsWalks A B) : B.ownsMap P 9 unitElem b n D := by
  obtain ⟨es, clock, hb, r⟩ := hm
  exact ⟨es, clock, h.same _ _ hb rfl, r⟩
theorem below_walks {A B : World} (h : Below A.heap.size A B) : KeepsWalks A B := KeepsWalks.of_grownBy (below_grown h) (fun _ _ e => by cases e)
theorem cast0 : ((0 : Nat) : Int) = 0 := rfl

/-- What a round keeps. -/
def Kp (n₀ Bn : Nat) (A B : World) : Prop := Below n₀ A B ∧ KeepsWalks A B ∧ B.heap[Bn]? = A.heap[Bn]?

set_option maxRecDepth 100000 in
set_option maxHeartbeats 2000000 in
theorem each1_in (n : Nat) (hn : 3 ≤ n) (l Bn n₀ : Nat) (s : ByteArray) (hs : s.size ≤ 8000) (J Jx : List Sc.Y → World → Prop) (W : World) (hJ : AbidesFrom W.heap.size J)
    (hY : ∀ pre x W1, J pre W1 → pre.length < s.size + 1 → YieldAt Fence.wide (n - 1) Tryd.prog l (Sc.encs x) W1 fun e W' =>
      (e = .returned (.bool true) ∧ J (pre ++ [x]) W' ∧ Kp n₀ Bn W1 W') ∨ (e = .returned (.bool false) ∧ Jx (pre ++ [x]) W'))
    (hBn : Bn < W.heap.size) (h2 : 2 < n₀) (hn₀ : n₀ ≤ W.heap.size) (hcn : W.cell? ⟨Bn, 0, none⟩ = some (.string s)) (hG : Glob W) (h0 : J [] W) :
    CallsIn Fence.wide n Tryd.prog 23 #[.func (.yield l) #[] #[], .pointer (some ⟨Bn, 0, none⟩)] W fun e W' => (∃ v, e = .returned v) ∧
      ((∃ ys, ys = Sc.seq s.data.toList 0 ∧ J ys W') ∨ (∃ pre, pre <+: Sc.seq s.data.toList 0 ∧ Jx pre W')) := by
  have hfw : ∀ f, Fence.wide.fn f := fun _ => trivial
  have hn1 : 1 ≤ n := by omega
  refine callsIn_of_wp Tryd.func23 rfl trivial ?_ rfl
  simp only [Tryd.ntmps23, List.size_toArray, List.length_cons, List.length_nil, Nat.reduceAdd, Nat.reduceSub, Array.replicate_succ, Array.replicate_zero, List.push_toArray, List.append_toArray, List.nil_append, List.cons_append]
  refine wpIn_wide.2 (wp_scope_straight ((wpIn_wide (n := n)).1 ?_))
  gi_wp2_with (gi_at_call 24; refine (callsIn_wide.2 (wordSet_any (H := Unit) _)).mono ?_; rintro e w1 ⟨rfl, hm, hb⟩)
  apply wpIn_label
  gi_wp2
  gi_loopw [4] (fun t wr => ∃ (k : Nat) (pre : List Sc.Y), k ≤ s.size ∧ t = .int .i64 k ∧ Sc.seq s.data.toList 0 = pre ++ Sc.seq s.data.toList k ∧ J pre wr ∧ wr.cell? ⟨Bn, 0, none⟩ = some (.string s) ∧ wr.ownsMap (H := Unit) Tryd.prog 9 unitElem W.heap.size 17 Sc.wordMap ∧ Glob wr ∧ pre.length ≤ k ∧ W.heap.size ≤ wr.heap.size)
    (fun t _ => s.size - (intOf t).toNat)
  case atStart =>
    exact ⟨0, [], Nat.zero_le _, rfl, rfl, hJ _ _ _ none h0 (below_grown hb) (fun r e => by cases e), (hb.cell (p := ⟨Bn, 0, none⟩) (by show Bn < _; omega)).trans hcn, hm, hG.below hb (by omega), Nat.zero_le _, hb.size⟩
  case round =>
    obtain ⟨k, pre, hk, rfl, hx, hJs, hcw, hmw, hGw, hlen, hszw⟩ := hrel
    obtain ⟨wo, rfl⟩ : ∃ wo : World, wo = wr := ⟨_, rfl⟩
    have HX := hide hx
    clear hx
    gi_wp2
    gi_loopw [4] (fun t w2 => ∃ j : Nat, k ≤ j ∧ j ≤ s.size ∧ t = .int .i64 j ∧ k + Sc.gapLen false (s.data.toList.drop k) = j + Sc.gapLen false (s.data.toList.drop j) ∧ w2 = wo) (fun t _ => s.size - (intOf t).toNat)
    case atStart => exact ⟨k, Nat.le_refl _, hk, rfl, rfl, rfl⟩
    case round =>
      obtain ⟨j, hkj, hj, rfl, hgp, rfl⟩ := hrel
      have HGP := hide hgp
      clear hgp
      by_cases hend : j = s.size
      · have he : ((j : Int) == (s.size : Int)) = true := by simp [hend]
        have HEND := hide hend
        clear hend
        gi_wp2
        rw [Exit.noGoto_normal]
        go_end0
        refine ⟨⟨_, rfl⟩, .inl ⟨pre, ?_, hJs⟩⟩
        have h1 := HEND.out
        have h2 := HGP.out
        rw [HX.out, Sc.seq_gap _ k j h2, Sc.seq_end _ j (by simp; omega), List.append_nil]
      · have he : ((j : Int) == (s.size : Int)) = false := by simp; omega
        have hlt : j < s.size := by omega
        have hxl : (s.extract j s.size).size = s.size - j := by simp
        have hG1 := gapSize_any (s.extract j s.size) wr (by omega)
        rw [Sc.ext_drop] at hG1
        have hsl := Sc.gstep_le (s.data.toList.drop j)
        have hst := Sc.gap_step (s.data.toList.drop j)
        have hz0 := Sc.gstep_zero (s.data.toList.drop j)
        simp only [List.length_drop, Array.length_toList] at hsl
        have hds : s.data.size = s.size := rfl
        generalize Sc.gstep (s.data.toList.drop j) = gs at hG1 hsl hst hz0
        rw [hds] at hsl
        have HG1 := hide hG1
        have HST := hide hst
        have HZ0 := hide hz0
        clear hG1 hst hz0 hds hxl
        by_cases hg0 : gs = 0
        · have hgb : ((gs : Int) == 0) = true := by simp [hg0]
          have HG0 := hide hg0
          clear hg0
          gi_wp2_with (gi_at_call 25; refine (callsIn_wide.2 HG1.out).mono ?_; rintro e w3 ⟨rfl, hww⟩; rw [hww]; clear hww)
          have hg00 : Sc.gapLen false (s.data.toList.drop j) = 0 := HZ0.out HG0.out
          have hsq : Sc.seq s.data.toList 0 = pre ++ Sc.seq s.data.toList j := by rw [HX.out, Sc.seq_gap _ k j HGP.out]
          have hR := readToken_any (s.extract j s.size) W.heap.size wr (by simp; omega) (by simp; omega) hGw hmw
          rw [Sc.ext_drop] at hR
          by_cases hcode : (Sc.one (s.data.toList.drop j)).code = 0
          · have hsz := Sc.one_size _ hcode
            have hft := Sc.seq_tok s.data.toList j (by simpa using hlt) hg00 hcode
            have e : implOut (Sc.one (s.data.toList.drop j)) = .tuple #[.agg #[.int .i64 (Sc.one (s.data.toList.drop j)).kind, .string ⟨(Sc.one (s.data.toList.drop j)).text.toArray⟩, .int .i64 (Sc.one (s.data.toList.drop j)).n, .int .i64 0], .int .i64 (Sc.one (s.data.toList.drop j)).size, .int .i64 0] := by
              unfold implOut; rw [if_pos hcode]
            rw [e] at hR
            clear e hcode
            generalize Sc.one (s.data.toList.drop j) = r at *
            simp only [List.length_drop, Array.length_toList] at hsz
            obtain ⟨hsz1, hsz2⟩ := hsz
            have hsz3 : j + r.size ≤ s.size := by have : s.data.size = s.size := rfl; omega
            have HR := hide hR
            have HFT := hide hft
            have HSQ := hide hsq
            clear hR hft hsq hsz2 hg00 hsl
            gi_wp2_with (gi_at_call 26; refine (callsIn_wide.2 HR.out).mono ?_; rintro e w1 ⟨rfl, hb⟩; have hJ1 : J pre (w1.alloc (.cells #[.int .i64 r.kind, .string ⟨r.text.toArray⟩, .int .i64 r.n, .int .i64 j] 33)) := hJ _ _ _ none (hJ _ _ _ none hJs (below_grown hb) (fun r e => by cases e)) (World.grownBy_alloc w1 _ none) (fun r e => by cases e); obtain ⟨fn, tmps, assign, body, hy, hR2⟩ := hY pre (⟨r.kind, r.text, r.n, j⟩, 0) _ hJ1 (by omega); simp only [Sc.encs, cast0] at hy)
            refine hR2.mono ?_
            rintro e W3 (⟨rfl, hJ3, hk3⟩ | ⟨rfl, hJx3⟩)
            · have hB1 : Below wr.heap.size wr (w1.alloc (.cells #[.int .i64 r.kind, .string ⟨r.text.toArray⟩, .int .i64 r.n, .int .i64 j] 33)) := hb.alloc hb.size _
              have HB1 := hide hB1
              clear hB1
              gi_wp2
              go_roundw
              case rel =>
                have hB1 := HB1.out
                refine ⟨j + r.size, pre ++ [(⟨r.kind, r.text, r.n, j⟩, 0)], hsz3, by go_num, ?_, hJ3, ?_, ?_, ?_, by simp; omega, ?_⟩
                · rw [HSQ.out, HFT.out]; simp
                · exact (World.cell?_of_block (a := ⟨Bn, 0, none⟩) hk3.2.2).trans ((hB1.cell (p := ⟨Bn, 0, none⟩) (by show Bn < _; omega)).trans hcw)
                · exact map_keeps (map_keeps hmw (below_walks hB1)) hk3.2.1
                · exact (hGw.below hB1 (by omega)).below hk3.1 h2
                · have := hk3.1.size; have := hB1.size; omega
              case measure => simp [intOf]; omega
            · gi_wp2
              rw [Exit.noGoto_normal]
              go_end0
              exact ⟨⟨_, rfl⟩, .inr ⟨_, ⟨Sc.seq s.data.toList (j + r.size), by rw [HSQ.out, HFT.out]; simp⟩, hJx3⟩⟩
          · have hft := Sc.seq_bad s.data.toList j (by simpa using hlt) hg00 hcode
            have e : implOut (Sc.one (s.data.toList.drop j)) = .tuple #[.agg #[.int .i64 0, .string ⟨#[]⟩, .int .i64 0, .int .i64 0], .int .i64 0, .int .i64 (Sc.one (s.data.toList.drop j)).code] := by
              unfold implOut; rw [if_neg hcode]
            rw [e] at hR
            have hcb : (((Sc.one (s.data.toList.drop j)).code : Int) != 0) = true := by simp [hcode]
            clear e hcode
            generalize Sc.one (s.data.toList.drop j) = r at *
            have HR := hide hR
            have HFT := hide hft
            have HSQ := hide hsq
            clear hR hft hsq hg00 hsl
            gi_wp2_with (gi_at_call 26; refine (callsIn_wide.2 HR.out).mono ?_; rintro e w1 ⟨rfl, hb⟩; have hJ1 : J pre (w1.alloc (.cells #[.int .i64 0, .string ⟨#[]⟩, .int .i64 0, .int .i64 j] 33)) := hJ _ _ _ none (hJ _ _ _ none hJs (below_grown hb) (fun r e => by cases e)) (World.grownBy_alloc w1 _ none) (fun r e => by cases e); obtain ⟨fn, tmps, assign, body, hy, hR2⟩ := hY pre (⟨0, [], 0, j⟩, r.code) _ hJ1 (by omega); simp only [Sc.encs, cast0] at hy)
            refine hR2.mono ?_
            rintro e W3 (⟨rfl, hJ3, hk3⟩ | ⟨rfl, hJx3⟩)
            · gi_wp2
              rw [Exit.noGoto_normal]
              go_end0
              exact ⟨⟨_, rfl⟩, .inl ⟨_, by rw [HSQ.out, HFT.out], hJ3⟩⟩
            · gi_wp2
              rw [Exit.noGoto_normal]
              go_end0
              exact ⟨⟨_, rfl⟩, .inr ⟨_, ⟨[], by rw [HSQ.out, HFT.out]; simp⟩, hJx3⟩⟩
        · have hgb : ((gs : Int) == 0) = false := by simp [hg0]
          gi_wp2_with (gi_at_call 25; refine (callsIn_wide.2 HG1.out).mono ?_; rintro e w3 ⟨rfl, hww⟩; rw [hww]; clear hww)
          go_roundw
          case rel =>
            refine ⟨j + gs, by omega, by omega, by go_num, ?_, by first | rfl | trivial⟩
            have e := HST.out
            rw [List.drop_drop] at e
            have := HGP.out
            omega
          case measure => simp [intOf]; omega

/-- The iterator keeps its word. -/
theorem each_stops (n : Nat) (hn : 3 ≤ n) (Bn n₀ : Nat) (s : ByteArray) (hs : s.size ≤ 8000) (w : World) (hBn : Bn < w.heap.size) (h2 : 2 < n₀) (hn₀ : n₀ ≤ w.heap.size) (hcn : w.cell? ⟨Bn, 0, none⟩ = some (.string s)) (hG : Glob w) :
    SeqStopsK Fence.wide n Tryd.prog 23 #[.pointer (some ⟨Bn, 0, none⟩)] Sc.encs (Kp n₀ Bn) (fun ys => ys = Sc.seq s.data.toList 0) (fun pre => pre <+: Sc.seq s.data.toList 0) (s.size + 1) w := fun l J Jx W hW hJ _ hY h0 =>
  each1_in n hn l Bn n₀ s hs J Jx W hJ hY (Nat.lt_of_lt_of_le hBn hW.size) h2 (Nat.le_trans hn₀ hW.size) ((hW.cell (p := ⟨Bn, 0, none⟩) hBn).trans hcn) (hG.below hW (Nat.lt_of_lt_of_le h2 hn₀)) h0
end Go.Proofs.YtempkondijgdgaaDoor
