/- Walks: the law's marks in values. -/
import Derived.Test.YtfpdoafpimaoaaaQv
import Derived.Test.YtfpdoafpimaoaaaQn
import Derived.Laws.BytesArg
namespace Go.Proofs.Ytfpdoafpimaoaaa.Vl
open Go.RowKit T.atoms T.ok T.high T.good T.allPlain

theorem row_same {w w' : World} {base size : Nat} {e : TypeId} {g n cap : Nat} {xs : List Value} (h : w.ownsRow base e size (.slice (some ⟨g, 0, none⟩) n cap) n xs) (hb : w'.heap[g]? = w.heap[g]?) : w'.ownsRow base e size (.slice (some ⟨g, 0, none⟩) n cap) n xs := by
  refine ⟨h.1, ?_⟩
  rcases h.2 with ⟨h1, _⟩ | ⟨g', cap', cur, hv, h2, h3, h4⟩
  · cases h1
  · cases hv
    exact .inr ⟨g, cap, cur, rfl, h2, hb.trans h3, h4⟩
/-- Nodes in a row of one's own. -/
def OwnA (w : World) (base g : Nat) (l : List At) : Prop := w.ownsRow base 55 4 (.slice (some ⟨g, 0, none⟩) l.length l.length) l.length (cellsOf l)
theorem OwnA.atoms {w : World} {base g : Nat} {l : List At} (h : OwnA w base g l) : AtomsAt w g l := atoms_of_row h

set_option maxRecDepth 100000 in
set_option maxHeartbeats 1000000 in
theorem toSO_some (l : List At) (g o c : Nat) (w : World) (hl : l.length ≤ 1048576) (ht : AtomsO w g o l) :
    Calls Try.prog 29 #[.slice (some ⟨g, o, none⟩) l.length c] w fun e w' => e = .returned (.slice (some ⟨w.heap.size, 0, none⟩) l.length l.length) ∧ OwnA w' w.heap.size w.heap.size l ∧ Below w.heap.size w w' := by
  obtain ⟨iN, hN, hNz, hNs, hNb⟩ := info_parts Try.infoAt
  have HT := hide ht
  clear ht
  go_enter Try.func29, Try.ntmps29
  go_wp2_with (at_make; refine wpList_make_full _ rfl _ _ 23 rfl w.heap.size 55 iN _ 4 Try.underlying23 hN hNz hNs _ _ _ _ l.length rfl rfl rfl rfl (by rw [hNb]; omega) (by unfold maxLen; omega) (Nat.le_refl _) ?_)
  intro w1 hown hgrow
  have hb1 : Below w.heap.size w w1 := (Below.refl _ _).grown hgrow (Nat.le_refl _) (fun q e => by cases e)
  have hz1 : w.heap.size < w1.heap.size := (hown.lt _ rfl).2
  replace hown : ∃ xs, w1.ownsRow w.heap.size 55 4 (.slice (some ⟨w.heap.size, 0, none⟩) l.length l.length) l.length xs := ⟨_, hown⟩
  obtain ⟨xs, hown⟩ := hown
  have hxl : xs.length = l.length * 4 := hown.1
  have HO := hide hown
  clear hown hgrow
  go_wp2
  go_loopw [4] (fun t wr => ∃ i : Nat, i ≤ l.length ∧ t = .int .i64 i ∧ wr.ownsRow w.heap.size 55 4 (.slice (some ⟨w.heap.size, 0, none⟩) l.length l.length) l.length (cellsOf (l.take i) ++ xs.drop (i * 4)) ∧ Below w.heap.size w wr ∧ w.heap.size < wr.heap.size) (fun t _ => l.length - (intOf t).toNat)
  case atStart => exact ⟨0, Nat.zero_le _, rfl, by simpa [cellsOf] using HO.out, hb1, hz1⟩
  case round =>
    obtain ⟨i, hi, rfl, ho, hB, hsz⟩ := hrel
    by_cases hlt : i < l.length
    · obtain ⟨c0, c1, c2, c3⟩ := (HT.out.below hB).2 i hlt
      have htk : cellsOf (l.take (i + 1)) = cellsOf (l.take i) ++ l[i].cells := by unfold cellsOf; rw [List.take_succ_eq_append_getElem hlt, List.flatMap_append, List.flatMap_cons, List.flatMap_nil, List.append_nil]
      have hml : (cellsOf (l.take i)).length = i * 4 := by rw [cellsOf_len, List.length_take]; congr 1; omega
      obtain ⟨a0, a1, a2, a3, hd5⟩ := drop4 xs i (by omega)
      rw [hd5] at ho
      have HTK := hide htk
      have HO2 := hide ho
      have HTN := hide (toAtom_any l[i].kind l[i].n l[i].kids l[i].text wr)
      have hcell : l[i].cells = [.int .i64 l[i].kind, .int .i64 l[i].n, .string l[i].text, .int .i64 l[i].kids] := rfl
      rw [hcell] at HTK
      clear hd5 ho htk hcell
      generalize l[i] = d at *
      go_wp2_with fail
      refine HTN.out.mono ?_
      rintro e w2 ⟨rfl, hb2⟩
      have ho2 : w2.ownsRow w.heap.size 55 4 (.slice (some ⟨w.heap.size, 0, none⟩) l.length l.length) l.length (cellsOf (l.take i) ++ a0 :: a1 :: a2 :: a3 :: xs.drop ((i + 1) * 4)) := by
        have hg : wr.grownBy w2 none := ⟨hb2.os, hb2.tape, hb2.output, hb2.size, fun k hk _ => hb2.block k hk⟩
        exact HO2.out.kept hg (.inr (by simp [Value.ownBlock]))
      have hB2 := hB.trans (hb2.mono hB.size)
      have hsz2 : w.heap.size < w2.heap.size := Nat.lt_of_lt_of_le hsz hb2.size
      have q : ∀ j v, (a0 :: a1 :: a2 :: a3 :: xs.drop ((i + 1) * 4))[j]? = some v → j < 4 → w2.cell? ⟨w.heap.size, i * 4 + j, none⟩ = some v := by
        intro j v hv hj
        rw [ho2.cellAt (i * 4 + j) (by omega), List.getElem?_append_right (by omega), hml, show i * 4 + j - i * 4 = j from by omega]; exact hv
      have q0 := q 0 a0 rfl (by omega)
      have q1 := q 1 a1 rfl (by omega)
      have q2 := q 2 a2 rfl (by omega)
      have q3 := q 3 a3 rfl (by omega)
      rw [Nat.add_zero] at q0
      have z0 := ho2.frozenAt (i * 4)
      have z1 := ho2.frozenAt (i * 4 + 1)
      have z2 := ho2.frozenAt (i * 4 + 2)
      have z3 := ho2.frozenAt (i * 4 + 3)
      have HO3 := hide ho2
      clear ho2 q c0 c1 c2 c3
      go_wp2
      go_roundw
      case rel =>
        have t0 := (HO3.out.stored (i * 4) (.int .i64 d.kind)).1
        rw [set4_0 _ _ _ _ _ _ _ _ hml] at t0
        have t1 := (t0.stored (i * 4 + 1) (.int .i64 d.n)).1
        rw [set4_1 _ _ _ _ _ _ _ _ hml] at t1
        have t2 := (t1.stored (i * 4 + 2) (.string d.text)).1
        rw [set4_2 _ _ _ _ _ _ _ _ hml] at t2
        have t3 := (t2.stored (i * 4 + 3) (.int .i64 d.kids)).1
        rw [set4_3 _ _ _ _ _ _ _ _ hml] at t3
        refine ⟨i + 1, by omega, by go_num, ?_, (((hB2.setCell (p := ⟨w.heap.size, i * 4, none⟩) (Nat.le_refl _) _).setCell (p := ⟨w.heap.size, i * 4 + 1, none⟩) (Nat.le_refl _) _).setCell (p := ⟨w.heap.size, i * 4 + 2, none⟩) (Nat.le_refl _) _).setCell (p := ⟨w.heap.size, i * 4 + 3, none⟩) (Nat.le_refl _) _, by simp only [size_set4]; exact hsz2⟩
        rw [HTK.out, List.append_assoc]
        exact t3
      case measure => simp [intOf]; omega
    · go_wp2
      go_ret
      obtain rfl : i = l.length := by omega
      rw [List.take_length, List.drop_of_length_le (by omega), List.append_nil] at ho
      exact ⟨rfl, ho, hB⟩

set_option maxRecDepth 100000 in
set_option maxHeartbeats 1000000 in
theorem toSO_nil (p : Option Addr) (c : Nat) (w : World) :
    Calls Try.prog 29 #[.slice p 0 c] w fun e w' => e = .returned (.slice (some ⟨w.heap.size, 0, none⟩) 0 0) ∧ OwnA w' w.heap.size w.heap.size [] ∧ Below w.heap.size w w' := by
  obtain ⟨iN, hN, hNz, hNs, hNb⟩ := info_parts Try.infoAt
  go_enter Try.func29, Try.ntmps29
  go_wp2_with (at_make; refine wpList_make_full _ rfl _ _ 23 rfl w.heap.size 55 iN _ 4 Try.underlying23 hN hNz hNs _ _ _ _ 0 rfl rfl rfl rfl (by omega) (by unfold maxLen; omega) (Nat.le_refl _) ?_)
  intro w1 hown hgrow
  have hb1 : Below w.heap.size w w1 := (Below.refl _ _).grown hgrow (Nat.le_refl _) (fun q e => by cases e)
  have HW := hide (Exists.intro _ hown)
  clear hown hgrow
  go_wp2
  go_loopw [4] (fun t wr => t = .int .i64 0 ∧ wr = w1) (fun _ _ => 0)
  case atStart => exact ⟨rfl, rfl⟩
  case round =>
    obtain ⟨rfl, rfl⟩ := hrel
    go_wp2
    go_ret
    obtain ⟨xs, hxs⟩ := HW.out
    have hx0 : xs = [] := List.eq_nil_of_length_eq_zero (by have := hxs.1; omega)
    subst hx0
    exact ⟨rfl, hxs, hb1⟩
theorem toSO_any (l : List At) (v : Value) (w : World) (hl : l.length ≤ 1048576) (ht : AtomsV w v l) :
    Calls Try.prog 29 #[v] w fun e w' => e = .returned (.slice (some ⟨w.heap.size, 0, none⟩) l.length l.length) ∧ OwnA w' w.heap.size w.heap.size l ∧ Below w.heap.size w w' := by
  rcases ht with ⟨p, c, rfl, rfl⟩ | ⟨g, o, c, rfl, h, -⟩
  · exact toSO_nil p c w
  · exact toSO_some l g o c w hl h

set_option maxRecDepth 100000 in
set_option maxHeartbeats 1000000 in
theorem toValueO_any (l : List At) (v : Value) (w : World) (hl : l.length ≤ 1048576) (ht : AtomsV w v l) :
    Calls Try.prog 13 #[.agg #[v]] w fun e w' => ∃ g, e = .returned (.agg #[.slice (some ⟨g, 0, none⟩) l.length l.length]) ∧ OwnA w' w.heap.size g l ∧ w.heap.size ≤ g ∧ Below w.heap.size w w' := by
  have HS := hide (fun w' (hb : Below w.heap.size w w') => toSO_any l v w' hl (ht.below hb))
  clear ht
  go_enter Try.func13, Try.ntmps13
  go_wp2_with fail
  have hq : Below w.heap.size w (((w.alloc (.cells #[v] 34)).alloc (.cells #[.slice none 0 0] 25)).alloc (.cells #[.slice none 0 0] 25)) := (((Below.refl _ _).alloc (Nat.le_refl _) _).alloc (by simp) _).alloc (by simp; omega) _
  refine (HS.out _ hq).mono ?_
  rintro e w1 ⟨rfl, hN, hb1⟩
  simp only [World.size_alloc] at hN hb1 ⊢
  have hn2 := cell_new ((w.alloc (.cells #[v] 34)).alloc (.cells #[.slice none 0 0] 25)) (.slice none 0 0) 25
  have hn1 := cell_new (w.alloc (.cells #[v] 34)) (.slice none 0 0) 25
  have hk1 := ((Below.refl ((w.alloc (.cells #[v] 34)).alloc (.cells #[.slice none 0 0] 25)).heap.size ((w.alloc (.cells #[v] 34)).alloc (.cells #[.slice none 0 0] 25))).alloc (Nat.le_refl _) (.cells #[.slice none 0 0] 25))
  simp only [World.size_alloc] at hn2 hn1 hk1
  have hx : w1.cell? ⟨w.heap.size + 1 + 1, 0, none⟩ = some (.slice none 0 0) := (hb1.cell (p := ⟨w.heap.size + 1 + 1, 0, none⟩) (Nat.lt_succ_self _)).trans hn2.1
  have hy : w1.cell? ⟨w.heap.size + 1, 0, none⟩ = some (.slice none 0 0) := (hb1.cell (p := ⟨w.heap.size + 1, 0, none⟩) (Nat.lt_succ_of_lt (Nat.lt_succ_self _))).trans ((hk1.cell (p := ⟨w.heap.size + 1, 0, none⟩) (Nat.lt_succ_self _)).trans hn1.1)
  have fx : w1.frozen? ⟨w.heap.size + 1 + 1, 0, none⟩ = false := (hb1.frozen (p := ⟨w.heap.size + 1 + 1, 0, none⟩) (Nat.lt_succ_self _)).trans hn2.2
  have fy : w1.frozen? ⟨w.heap.size + 1, 0, none⟩ = false := (hb1.frozen (p := ⟨w.heap.size + 1, 0, none⟩) (Nat.lt_succ_of_lt (Nat.lt_succ_self _))).trans ((hk1.frozen (p := ⟨w.heap.size + 1, 0, none⟩) (Nat.lt_succ_self _)).trans hn1.2)
  have hB1 : Below w.heap.size w w1 := hq.trans (by have := hb1.mono (show w.heap.size ≤ w.heap.size + 1 + 1 + 1 by omega); exact this)
  clear hb1 hq
  go_wp2
  refine bodyPost_ret (v := .agg #[.slice (some ⟨w.heap.size + 1 + 1 + 1, 0, none⟩) l.length l.length]) (by simp [results, Try.results13, go_sem, hy]) rfl ⟨_, rfl, ?_, by omega, ?_⟩
  · exact row_mono (row_same (row_same hN (Below.heap_setCell _ _ _ _ (show w.heap.size + 1 + 1 + 1 ≠ w.heap.size + 1 + 1 by omega))) (Below.heap_setCell _ _ _ _ (show w.heap.size + 1 + 1 + 1 ≠ w.heap.size + 1 by omega))) (by omega)
  · exact (hB1.setCell (p := ⟨w.heap.size + 1 + 1, 0, none⟩) (by simp; omega) _).setCell (p := ⟨w.heap.size + 1, 0, none⟩) (by simp) _


namespace Mk
def dg (k : Nat) : UInt8 := UInt8.ofNat (48 + k % 10)
/-- The decimal digits of k ahead of o. -/
def fin : Nat → Nat → List UInt8 → List UInt8
  | 0, _, o => o
  | f + 1, k, o => if k = 0 then o else fin f (k / 10) (dg k :: o)
theorem fin_fuel : ∀ (f g k : Nat) (o : List UInt8), k < f → k < g → fin f k o = fin g k o
  | 0, _, _, _, h, _ => by omega
  | _ + 1, 0, _, _, _, h => by omega
  | f + 1, g + 1, k, o, hf, hg => by
    unfold fin
    by_cases h : k = 0
    · rw [if_pos h, if_pos h]
    · rw [if_neg h, if_neg h]
      exact fin_fuel f g (k / 10) _ (by omega) (by omega)
theorem fin_step (k : Nat) (o : List UInt8) (h : k ≠ 0) : fin (k + 1) k o = fin (k / 10 + 1) (k / 10) (dg k :: o) := by
  conv => lhs; unfold fin
  rw [if_neg h]
  exact fin_fuel _ _ _ _ (by omega) (by omega)
def mt (k : Nat) : List UInt8 := 109 :: fin (k + 1) k []
end Mk

theorem str1 (j : Nat) : strOfNums [48 + (j : Int) % 10] = ⟨#[Mk.dg j]⟩ := by
  have e : (48 + (j : Int) % 10).toNat = 48 + j % 10 := by omega
  simp [strOfNums, e, Mk.dg]
theorem str_cons (c : UInt8) (o : List UInt8) : (⟨#[c]⟩ : ByteArray) ++ ⟨o.toArray⟩ = ⟨(c :: o).toArray⟩ := by
  rw [← Lib.mk_data (⟨#[c]⟩ ++ ⟨o.toArray⟩)]
  congr 2

set_option maxRecDepth 100000 in
set_option maxHeartbeats 1000000 in
theorem markText_any (k : Nat) (a : Int) (w : World) (h1 : 1 ≤ k) (hk : k ≤ 10000000) (ha : a = (k : Int)) :
    Calls Try.prog 63 #[.int .i64 a] w fun e w' => e = .returned (.string ⟨(Mk.mt k).toArray⟩) ∧ Below w.heap.size w w' := by
  subst ha
  have hk0 : decide (k = 0) = false := by simp; omega
  go_enter Try.func63, Try.ntmps63
  go_wp2
  go_loopw [0, 3] (fun t v wr => ∃ (j : Nat) (o : List UInt8), j ≤ k ∧ t = .int .i64 j ∧ v = .string ⟨o.toArray⟩ ∧ Mk.fin (j + 1) j o = Mk.fin (k + 1) k [] ∧ o.length + j ≤ k ∧ Below w.heap.size w wr) (fun t _ _ => (intOf t).toNat)
  case atStart => exact ⟨k, [], Nat.le_refl _, rfl, rfl, rfl, by simp, Below.refl _ _⟩
  case round =>
    obtain ⟨j, o, hj, rfl, rfl, he, hlen, hB⟩ := hrel
    have HE := hide he
    clear he
    by_cases hz : 0 < j
    · have hcv := run_convert_bytes_arg (P := Try.prog) (wr.alloc (.cells #[.int .u8 (48 + (j : Int) % 10)] 5)) 22 5 Try.underlying22 Try.underlying5 wr.heap.size 0 1 1 [48 + (j : Int) % 10] rfl (fun i hi => by
        obtain rfl : i = 0 := by omega
        simp) 9 Try.underlying9
      rw [str1] at hcv
      go_wp2
      go_roundw
      case rel =>
        refine ⟨j / 10, Mk.dg j :: o, by omega, by go_num, ?_, ?_, by simp; omega, hB.alloc hB.size _⟩
        · rw [str_cons]
        · rw [← HE.out, Mk.fin_step j o (by omega)]
      case measure => simp [intOf]; omega
    · go_wp2
      go_ret
      refine ⟨?_, hB⟩
      obtain rfl : j = 0 := by omega
      have e := HE.out
      rw [str_cons]
      show _ = Ending.returned (.string ⟨(109 :: Mk.fin (k + 1) k []).toArray⟩)
      rw [← e]; rfl

end Go.Proofs.Ytfpdoafpimaoaaa.Vl
