/- Targets: the law's own functions: sizes of what is told. -/
import Derived.Test.YtmpjdooepdicoaaGreatDoorYh
import Derived.Test.YtmpjdooepdicoaaGreatDoorQw
namespace Go.Proofs.YtmpjdooepdicoaaGreatDoor.Vl
open Go.RowKit T.atoms T.ok T.high T.good T.allPlain

/-- What is left behind a weight; below 0: too much. -/
def lessW (L : Int) (n : Nat) : Int := if L - n < 0 then -1 else L - n
def wtA (l : List At) : Nat := l.length + (l.map fun x => x.text.size).sum
theorem szGo_eq (l : List At) (L : Int) (h : 0 ≤ L) : szGo l L = lessW L (l.map fun x => x.text.size).sum := by
  induction l generalizing L with
  | nil => simp [szGo, lessW]; omega
  | cons x r ih =>
    rw [szGo, List.map_cons, List.sum_cons]
    by_cases hc : L - x.text.size < 0
    · rw [if_pos hc]; unfold lessW; rw [if_pos (by omega)]
    · rw [if_neg hc, ih _ (by omega)]; unfold lessW
      by_cases hd : L - x.text.size - ((r.map fun x => x.text.size).sum : Nat) < 0
      · rw [if_pos hd, if_pos (by omega)]
      · rw [if_neg hd, if_neg (by omega)]; omega
theorem szS_eq (l : List At) (L : Int) (_h : 0 ≤ L) : szS l L = lessW L (wtA l) := by
  unfold szS wtA
  by_cases hc : L - l.length < 0
  · rw [if_pos hc]; unfold lessW; rw [if_pos (by omega)]
  · rw [if_neg hc, szGo_eq _ _ (by omega)]; unfold lessW
    by_cases hd : L - l.length - ((l.map fun x => x.text.size).sum : Nat) < 0
    · rw [if_pos hd, if_pos (by omega)]
    · rw [if_neg hd, if_neg (by omega)]; omega
theorem lessW_ge (L : Int) (n : Nat) : (if lessW L n < 0 then -1 else lessW L n) = lessW L n := by
  unfold lessW
  by_cases h : L - n < 0
  · rw [if_pos h, if_pos (by omega)]
  · rw [if_neg h, if_neg h]
theorem lessW_lessW (L : Int) (a b : Nat) : lessW L (a + b) = if lessW L a < 0 then -1 else lessW (lessW L a) b := by
  unfold lessW
  by_cases h : L - a < 0
  · rw [if_pos h, if_pos (by omega), if_pos (by omega)]
  · rw [if_neg h, if_neg h]
    by_cases h2 : L - (a : Nat) - b < 0
    · rw [if_pos h2, if_pos (by omega)]
    · rw [if_neg h2, if_neg (by omega)]; omega
theorem lessW_add (L : Int) (a b : Nat) (_h : ¬ L - a < 0) : lessW L (a + b) = lessW (L - a) b := by
  unfold lessW
  by_cases h2 : L - (a : Nat) - b < 0
  · rw [if_pos h2, if_pos (by omega)]
  · rw [if_neg h2, if_neg (by omega)]; omega
theorem szV_wt (L : Int) (hL0 : 0 ≤ L) (hL1 : L ≤ 1048576) (l : List At) (v : Value) (w : World) (hl : l.length ≤ 9223372036854775807) (hx : ∀ x ∈ l, x.text.size ≤ 9223372036854775807) (ht : AtomsV w v l) :
    Calls Tryz.prog 31 #[.agg #[v], .int .i64 L] w fun e w' => e = .returned (.int .i64 (lessW L (wtA l))) ∧ Below w.heap.size w w' := by
  have h := szValue_any L hL0 hL1 l v w hl hx ht
  rw [szS_eq l L hL0, lessW_ge] at h
  exact h
def Td.wt (d : Td) : Nat := d.fr.size + wtA d.at_
def wtD (l : List Td) : Nat := (l.map Td.wt).sum
def Td.Small (d : Td) : Prop := d.fr.size ≤ 9223372036854775807 ∧ d.at_.length ≤ 9223372036854775807 ∧ ∀ x ∈ d.at_, x.text.size ≤ 9223372036854775807
theorem wtD_drop (l : List Td) (i : Nat) (h : i < l.length) : wtD (l.drop i) = (l[i]).wt + wtD (l.drop (i + 1)) := by
  unfold wtD
  rw [List.drop_eq_getElem_cons h, List.map_cons, List.sum_cons]
theorem box2 (w : World) (a b : Value) (t : TypeId) : Below w.heap.size w (w.alloc (.cells #[a, b] t)) ∧ (w.alloc (.cells #[a, b] t)).cell? ⟨w.heap.size, 0, none⟩ = some a ∧ (w.alloc (.cells #[a, b] t)).cell? ⟨w.heap.size, 1, none⟩ = some b ∧ (w.alloc (.cells #[a, b] t)).heap.size = w.heap.size + 1 :=
  ⟨(Below.refl _ _).alloc (Nat.le_refl _) _, by simp, by simp, World.size_alloc _ _⟩

set_option maxRecDepth 100000 in
set_option maxHeartbeats 1000000 in
theorem szTold_any (L : Int) (hL0 : 0 ≤ L) (hL1 : L ≤ 1048576) (d : Td) (v : Value) (w : World) (hs : d.Small) (hv : AtomsV w v d.at_) :
    Calls Tryz.prog 13 #[.agg #[.string d.fr, v], .int .i64 L] w fun e w' => e = .returned (.int .i64 (lessW L d.wt)) ∧ Below w.heap.size w w' := by
  obtain ⟨s1, s2, s3⟩ := hs
  have m := box2 w (.string d.fr) v 40
  have HV := hide (fun (M : Int) (h0 : 0 ≤ M) (h1 : M ≤ 1048576) w' (hb : Below w.heap.size w w') => szV_wt M h0 h1 d.at_ v w' s2 s3 (hv.below hb))
  have HW : Hid (d.wt = d.fr.size + wtA d.at_) := hide rfl
  clear hv s2 s3
  obtain ⟨m0, m1, m2, m6⟩ := m
  generalize d.fr = a at *
  generalize wtA d.at_ = n at *
  generalize d.wt = wt at *
  have hw := HW.out
  have e1 : wrap64 (L - (a.size : Int)) = L - a.size := by unfold wrap64; omega
  by_cases c1 : L - (a.size : Int) < 0
  · go_enter Tryz.func13, Tryz.ntmps13
    go_wp2
    go_ret
    exact ⟨ret_int (by unfold lessW; rw [if_pos (by omega)]), m0⟩
  · by_cases c2 : L - (a.size : Int) - n < 0
    all_goals
      have HV2 := HV.out (L - a.size) (by omega) (by omega) _ m0
      first
        | rw [show lessW (L - a.size) n = -1 from by unfold lessW; rw [if_pos c2]] at HV2
        | rw [show lessW (L - a.size) n = L - a.size - n from by unfold lessW; rw [if_neg c2]] at HV2
      replace HV2 := hide HV2
      clear HV
      go_enter Tryz.func13, Tryz.ntmps13
      go_wp2_with fail
      refine HV2.out.mono ?_
      rintro e w1 ⟨rfl, hb1⟩
      go_wp2
      go_ret
      exact ⟨ret_int (by unfold lessW; first | rw [if_pos (by omega)] | (rw [if_neg (by omega)]; omega)), m0.trans (hb1.mono (by omega))⟩

/-- What is told, as it comes in. -/
def TdsI (w : World) (g o : Nat) (l : List Td) : Prop := g < w.heap.size ∧ ∀ i (h : i < l.length), ∃ v, w.cell? ⟨g, o + i * 2, none⟩ = some (.string l[i].fr) ∧ w.cell? ⟨g, o + i * 2 + 1, none⟩ = some v ∧ AtomsV w v l[i].at_
theorem TdsI.below {w w' : World} {g o : Nat} {l : List Td} (h : TdsI w g o l) (hb : Below w.heap.size w w') : TdsI w' g o l := by
  refine ⟨Nat.lt_of_lt_of_le h.1 hb.size, fun i hi => ?_⟩
  obtain ⟨v, h1, h2, h3⟩ := h.2 i hi
  exact ⟨v, (hb.cell (p := ⟨g, o + i * 2, none⟩) h.1).trans h1, (hb.cell (p := ⟨g, o + i * 2 + 1, none⟩) h.1).trans h2, h3.below hb⟩
def TdsV (w : World) (v : Value) (l : List Td) : Prop := (∃ p c, v = .slice p 0 c ∧ l = []) ∨ ∃ g o c, v = .slice (some ⟨g, o, none⟩) l.length c ∧ TdsI w g o l
theorem TdsV.below {w w' : World} {v : Value} {l : List Td} (h : TdsV w v l) (hb : Below w.heap.size w w') : TdsV w' v l := by
  rcases h with h | ⟨g, o, c, h1, h2⟩
  · exact .inl h
  · exact .inr ⟨g, o, c, h1, h2.below hb⟩

set_option maxHeartbeats 400000 in
theorem szD_nil (L : Int) (h0 : 0 ≤ L) (h1 : L ≤ 1048576) (p : Option Addr) (c : Nat) (w : World) :
    Calls Tryz.prog 4 #[.slice p 0 c, .int .i64 L] w fun e w' => e = .returned (.int .i64 L) ∧ Below w.heap.size w w' := by
  go_enter Tryz.func4, Tryz.ntmps4
  go_wp2
  go_loop [1, 5] (fun a t => a = .int .i64 L ∧ t = .int .i64 0) (fun _ _ => 0)
  case atStart => exact ⟨rfl, rfl⟩
  case round =>
    obtain ⟨rfl, rfl⟩ := hrel
    go_wp2
    go_ret
    exact ⟨rfl, Below.refl _ _⟩

set_option maxRecDepth 100000 in
set_option maxHeartbeats 1000000 in
theorem szD_some (L : Int) (hL0 : 0 ≤ L) (hL1 : L ≤ 1048576) (l : List Td) (g o c : Nat) (w : World) (hl : l.length ≤ 9223372036854775807) (hx : ∀ x ∈ l, x.Small) (ht : TdsI w g o l) :
    Calls Tryz.prog 4 #[.slice (some ⟨g, o, none⟩) l.length c, .int .i64 L] w fun e w' => e = .returned (.int .i64 (lessW L (l.length + wtD l))) ∧ Below w.heap.size w w' := by
  have HT := hide ht
  have HX := hide hx
  clear ht hx
  have hsub : wrap64 (L - (l.length : Int)) = L - l.length := by unfold wrap64; omega
  by_cases hc : L - l.length < 0
  · have HD : Hid (lessW L (l.length + wtD l) = -1) := hide (by unfold lessW; rw [if_pos (by omega)])
    go_enter Tryz.func4, Tryz.ntmps4
    go_wp2
    go_ret
    exact ⟨ret_int HD.out.symm, Below.refl _ _⟩
  · have HD : Hid (lessW L (l.length + wtD l) = lessW (L - l.length) (wtD (l.drop 0))) := hide (by rw [List.drop_zero, lessW_add _ _ _ hc])
    go_enter Tryz.func4, Tryz.ntmps4
    go_wp2
    go_loopw [1, 5] (fun a t wr => ∃ (i : Nat) (left : Int), i ≤ l.length ∧ t = .int .i64 i ∧ a = .int .i64 left ∧ 0 ≤ left ∧ left ≤ 1048576 ∧ Below w.heap.size w wr ∧ lessW L (l.length + wtD l) = lessW left (wtD (l.drop i))) (fun _ t _ => l.length - (intOf t).toNat)
    case atStart => exact ⟨0, _, Nat.zero_le _, rfl, rfl, by omega, by omega, Below.refl _ _, HD.out⟩
    case round =>
      obtain ⟨i, left, hi, rfl, rfl, h0, h1, hB, he⟩ := hrel
      have HE := hide he
      clear he
      by_cases hlt : i < l.length
      · obtain ⟨v, c0, c1, si⟩ := (HT.out.below hB).2 i hlt
        have HS := hide (show lessW L (l.length + wtD l) = if lessW left (l[i]).wt < 0 then -1 else lessW (lessW left (l[i]).wt) (wtD (l.drop (i + 1))) by rw [HE.out, wtD_drop l i hlt, lessW_lessW])
        have hlw : lessW left (l[i]).wt ≤ 1048576 := by unfold lessW; split <;> omega
        have HC := hide (szTold_any left h0 h1 l[i] v wr (HX.out _ (List.getElem_mem hlt)) si)
        clear si
        generalize l[i] = d at *
        generalize lessW left d.wt = r at *
        go_wp2_with fail
        refine HC.out.mono ?_
        rintro e w1 ⟨rfl, hb1⟩
        by_cases hq : r < 0
        · go_wp2
          go_ret
          exact ⟨ret_int (by rw [HS.out, if_pos hq]), hB.trans (hb1.mono hB.size)⟩
        · go_wp2
          go_roundw
          case rel => exact ⟨i + 1, r, by omega, by go_num, rfl, by omega, by omega, hB.trans (hb1.mono hB.size), by rw [HS.out, if_neg (by omega)]⟩
          case measure => simp [intOf]; omega
      · go_wp2
        go_ret
        refine ⟨ret_int ?_, hB⟩
        rw [HE.out, List.drop_of_length_le (by omega)]; unfold lessW wtD; simp; omega
theorem szD_any (L : Int) (hL0 : 0 ≤ L) (hL1 : L ≤ 1048576) (l : List Td) (v : Value) (w : World) (hl : l.length ≤ 9223372036854775807) (hx : ∀ x ∈ l, x.Small) (ht : TdsV w v l) :
    Calls Tryz.prog 4 #[v, .int .i64 L] w fun e w' => e = .returned (.int .i64 (lessW L (l.length + wtD l))) ∧ Below w.heap.size w w' := by
  rcases ht with ⟨p, c, rfl, rfl⟩ | ⟨g, o, c, rfl, h⟩
  · rw [show lessW L (([] : List Td).length + wtD []) = L from by unfold lessW wtD; simp; omega]
    exact szD_nil L hL0 hL1 p c w
  · exact szD_some L hL0 hL1 l g o c w hl hx h
end Go.Proofs.YtmpjdooepdicoaaGreatDoor.Vl
