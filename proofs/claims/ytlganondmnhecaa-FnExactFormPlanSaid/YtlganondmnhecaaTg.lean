/- The walk of the law on FormPlan. -/
import Derived.Test.YtlganondmnhecaaTf
import Derived.Deep.CutRange
namespace Go.Proofs.Ytlganondmnhecaa.Pl
open Go.RowKit

theorem wt_mem (l : List Tg) (x : Tg) (h : x ∈ l) : x.wt ≤ wtT l := by
  unfold wtT
  induction l with
  | nil => cases h
  | cons y r ih =>
    rw [List.map_cons, List.sum_cons]
    rcases List.mem_cons.1 h with rfl | h
    · omega
    · have := ih h; omega
/-- What is asked of the program. -/
def ImplPlan : Prop := ∀ (l : List Tg) (g c : Nat) (w : World), l.length + wtT l ≤ 1048576 → TgsC w g l →
    Calls Try.prog 7 #[.slice (some ⟨g, 0, none⟩) l.length c] w fun e w' => e = .returned (.string ⟨(planForm l).toArray⟩) ∧ Below w.heap.size w w'
theorem str_same (s : ByteArray) : (s.toList == s.toList) = true := by simp

set_option maxRecDepth 100000 in
set_option maxHeartbeats 2000000 in
theorem lawP_any (himp : ImplPlan) (l : List Tg) (v : Value) (w : World) (hl : l.length ≤ 9223372036854775807) (hx : ∀ x ∈ l, x.Small) (ht : TgsV w v l) :
    Calls Try.prog 3 #[v] w fun e w' => e = .returned (.bool true) ∧ Below w.heap.size w w' := by
  have HZ := hide (szP_any 1048576 (by omega) (by omega) l v w hl hx ht)
  have HT := hide ht
  clear ht
  by_cases hr : lessW 1048576 (l.length + wtT l) < 0
  · generalize lessW 1048576 (l.length + wtT l) = r at *
    go_enter Try.func3, Try.ntmps3
    go_wp2_with fail
    refine HZ.out.mono ?_
    rintro e w1 ⟨rfl, hb1⟩
    go_wp2
    go_ret
    exact ⟨rfl, hb1⟩
  · have hw : l.length + wtT l ≤ 1048576 := by unfold lessW at hr; split at hr <;> omega
    generalize lessW 1048576 (l.length + wtT l) = r at *
    have hl2 : l.length ≤ 1048576 := by omega
    have hx2 : ∀ x ∈ l, x.ins.length ≤ 1048576 ∧ x.outs.length ≤ 1048576 := fun x hm => by
      have h1 := wt_mem l x hm
      have h2 : x.wt = x.name.size + x.tool.size + x.arg.size + wtS x.ins + wtS x.outs := rfl
      have := wtS_len x.ins
      have := wtS_len x.outs
      omega
    have HTT := hide (fun w' (hb : Below w.heap.size w w') => toP_any l v w' hl2 hx2 (HT.out.below hb))
    have HS := hide (fun g w' (a : TgsC w' g l) => specPlan_any l g l.length w' hw a)
    have HI := hide (fun g w' (a : TgsC w' g l) => himp l g l.length w' hw a)
    have HQ := hide (fun ga gb w' (a : TgsC w' ga l) (b : TgsC w' gb l) => eqP_same l ga gb w' hl2 hx2 a b)
    clear hl hx hx2 hw
    generalize (⟨(planForm l).toArray⟩ : ByteArray) = res at *
    go_enter Try.func3, Try.ntmps3
    go_wp2_with fail
    refine HZ.out.mono ?_
    rintro e w1 ⟨rfl, hb1⟩
    go_wp2_with fail
    refine (HTT.out _ hb1).mono ?_
    rintro e w2 ⟨rfl, fa, hb2⟩
    have B2 := hb1.trans (hb2.mono hb1.size)
    have HA2 := hide (HS.out _ w2 fa)
    clear fa
    go_wp2_with fail
    refine HA2.out.mono ?_
    rintro e w3 ⟨rfl, hb3⟩
    have B3 := B2.trans (hb3.mono B2.size)
    go_wp2_with fail
    refine (HTT.out _ B3).mono ?_
    rintro e w4 ⟨rfl, fb, hb4⟩
    have B4 := B3.trans (hb4.mono B3.size)
    have HI5 := hide (HI.out _ w4 fb)
    have HFB := hide fb
    clear fb
    go_wp2_with fail
    refine HI5.out.mono ?_
    rintro e w6 ⟨rfl, hb6⟩
    have B6 := B4.trans (hb6.mono B4.size)
    have HF6 := hide (HFB.out.below hb6)
    clear hb1 hb2 hb3 hb4 hb6 HA2 HI5 HFB HZ
    go_wp2_with fail
    refine (HTT.out _ B6).mono ?_
    rintro e w7 ⟨rfl, fc, hb7⟩
    have f7 := HF6.out.below hb7
    have B7 := B6.trans (hb7.mono B6.size)
    have HQ7 := hide (HQ.out _ _ w7 f7 fc)
    clear f7 fc hb7
    go_wp2_with fail
    refine HQ7.out.mono ?_
    rintro e w8 ⟨rfl, hb8⟩
    go_wp2
    go_ret
    exact ⟨rfl, B7.trans (hb8.mono B7.size)⟩
end Go.Proofs.Ytlganondmnhecaa.Pl
