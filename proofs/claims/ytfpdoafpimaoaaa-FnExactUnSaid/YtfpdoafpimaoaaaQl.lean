/- Walks: newDatum, on the program's side. -/
import Derived.Test.YtfpdoafpimaoaaaQk
import Derived.Laws.StructEq
namespace Go.Proofs.Ytfpdoafpimaoaaa.Vl
open Go.RowKit T.atoms T.ok T.high T.good T.allPlain DatAt

def atomV (a : At) : Value := .agg #[.int .i64 a.kind, .int .i64 a.n, .string a.text, .int .i64 a.kids]
theorem eql_atom (k n q k' n' q' : Int) (s s' : ByteArray) (w : World) : (binOp .eql 55 (.agg #[.int .i64 k, .int .i64 n, .string s, .int .i64 q]) (.agg #[.int .i64 k', .int .i64 n', .string s', .int .i64 q'])).run Try.prog w = .ok (.bool (k == k' && (n == n' && ((s.toList == s'.toList) && q == q')))) w := by
  have u1 := Try.underlying3
  have u2 := Try.underlying2
  have u3 := Try.underlying9
  have hS : Try.prog.underlying 55 = some (.struct (Try.prog.fieldsOf 55)) := by kernel_rfl
  have hp : Try.prog.stoodInHeld 55 = false := by kernel_rfl
  rw [run_eql_struct, show (10000 : Nat) = 9999 + 1 from rfl, run_equalIn_agg w 9999 55 _ _ hS hp]
  simp only [Program.fieldsOf, Try.underlying55]
  go_simp
  by_cases h1 : k = k' <;> by_cases h2 : n = n' <;> by_cases h3 : s.toList = s'.toList <;> by_cases h4 : q = q' <;> simp [h1, h2, h3, h4]
def nodeOk (k n : Int) (s : ByteArray) (ks : List T) : Bool := plain k n s ks && decide (highL ks ≤ 12)
/-- What newDatum answers. -/
def NPost (w : World) (x : Nat) (k n : Int) (s : ByteArray) (ks : List T) (e : Ending) (w' : World) : Prop :=
  Below w.heap.size w w' ∧ ∃ v ok, e = .returned (.tuple #[v, .bool ok]) ∧ (nodeOk k n s ks = true → ok = true ∧ DatAt w' x (.mk k n s ks) v) ∧ (nodeOk k n s ks = false → ok = false)
theorem npost_no {w w' : World} {x : Nat} {k n : Int} {s : ByteArray} {ks : List T} {v : Value} (h : nodeOk k n s ks = false) (hb : Below w.heap.size w w') : NPost w x k n s ks (.returned (.tuple #[v, .bool false])) w' :=
  ⟨hb, v, false, rfl, fun e => (by rw [h] at e; cases e), fun _ => rfl⟩
theorem npost_yes {w w' : World} {x : Nat} {k n : Int} {s : ByteArray} {ks : List T} {v : Value} (h : nodeOk k n s ks = true) (hb : Below w.heap.size w w') (hd : DatAt w' x (.mk k n s ks) v) : NPost w x k n s ks (.returned (.tuple #[v, .bool true])) w' :=
  ⟨hb, v, true, rfl, fun _ => ⟨rfl, hd⟩, fun e => (by rw [h] at e; cases e)⟩
theorem goodL_mem : ∀ (l : List T), goodL l = true → ∀ t ∈ l, t.good = true
  | a :: r, h, t, ht => by
    rw [goodL, Bool.and_eq_true] at h
    rcases List.mem_cons.1 ht with rfl | ht
    · exact h.1
    · exact goodL_mem r h.2 t ht
theorem names_kind : ∀ (ks : List T), names ks = true → ∀ j (h : 2 * j < ks.length), (ks[2 * j]).kind = 4
  | [_], hn, _, _ => by simp [names] at hn
  | [a, b], hn, 0, _ => by simpa [names] using hn
  | [a, b], hn, j + 1, h => by simp at h; omega
  | a :: b :: c :: r, hn, 0, _ => by simp [names] at hn; exact hn.1.1.1
  | a :: b :: c :: r, hn, j + 1, h => by
    rw [names] at hn
    simp only [Bool.and_eq_true] at hn
    exact names_kind (c :: r) hn.2 j (by simp at h ⊢; omega)
theorem bare_names (ks : List T) (hn : names ks = true) (hg : goodL ks = true) : ∀ j (h : 2 * j < ks.length), Bare ks[2 * j] := by
  intro j h
  have hk := names_kind ks hn j h
  have hl := leafy_of_good (goodL_mem ks hg ks[2 * j] (List.getElem_mem h))
  generalize ks[2 * j] = t at *
  cases t with
  | mk k n s l =>
    have hk : k = 4 := hk
    rcases hl with h5 | h6 | h0
    · omega
    · omega
    · subst h0; exact ⟨rfl, rfl⟩

set_option maxRecDepth 100000 in
set_option maxHeartbeats 2000000 in
theorem newDatum_any (k n : Int) (s : ByteArray) (ks : List T) (vs : List Value) (p : Option Addr) (c x : Nat) (w : World) (hlen : (atomsL ks).length ≤ 999) (hhi : highL ks ≤ 1000) (hD : DatL w x ks vs) (hR : RowC w p vs) (hx : x < w.heap.size) (hg : goodL ks = true) :
    Calls Try.prog 42 #[.agg #[.int .i64 k, .int .i64 n, .string s, .int .i64 (ks.length : Int)], .slice p ks.length c] w fun e w' => NPost w x k n s ks e w' := by
  have HD := hide hD
  have HR := hide hR
  have HG := hide hg
  have HLF := hide (fun t ht => leafy_of_good (goodL_mem ks hg t ht))
  have r1 : Below w.heap.size w (w.alloc (.cells #[.int .i64 k, .int .i64 n, .string s, .int .i64 (ks.length : Int)] 55)) := (Below.refl _ _).alloc (Nat.le_refl _) _
  have hEq := eql_atom
  have hkl : ks.length ≤ 999 := by have := len_le_atomsL ks; omega
  clear hD hR hg
  have hk7 : k = 1 ∨ k = 2 ∨ k = 3 ∨ k = 4 ∨ k = 5 ∨ k = 6 ∨ (k ≠ 1 ∧ k ≠ 2 ∧ k ≠ 3 ∧ k ≠ 4 ∧ k ≠ 5 ∧ k ≠ 6) := by omega
  go_enter Try.func42, Try.ntmps42
  rcases hk7 with rfl | rfl | rfl | rfl | rfl | rfl | ⟨q1, q2, q3, q4, q5, q6⟩
  · cases hn0 : (n == 0)
    · have HZ := hide (npost_no (v := .nilIface) (x := x) (show nodeOk 1 n s ks = false from by simp at hn0; simp [nodeOk, plain, hn0]) r1)
      go_wp2
      exact bodyPost_ret (v := .tuple #[.nilIface, .bool false]) (by simp [results, Try.results42, go_sem]) rfl HZ.out
    · cases hs0 : (s.toList == [])
      · have HZ := hide (npost_no (v := .nilIface) (x := x) (show nodeOk 1 n s ks = false from by rw [str_empty] at hs0; simp at hs0; simp [nodeOk, plain, hs0]) r1)
        go_wp2
        exact bodyPost_ret (v := .tuple #[.nilIface, .bool false]) (by simp [results, Try.results42, go_sem]) rfl HZ.out
      · cases hk0 : ((ks.length : Int) == 0)
        · have HZ := hide (npost_no (v := .nilIface) (x := x) (show nodeOk 1 n s ks = false from by simp at hk0; simp [nodeOk, plain, hk0]) r1)
          go_wp2
          exact bodyPost_ret (v := .tuple #[.nilIface, .bool false]) (by simp [results, Try.results42, go_sem]) rfl HZ.out
        · have HZ := hide (npost_yes (v := .iface 123 (.agg #[])) (x := x) (show nodeOk 1 n s ks = true from by simp at hn0; simp at hk0; rw [str_empty] at hs0; simp at hs0; simp [nodeOk, plain, hn0, hs0, hk0, highL]) r1 (by unfold DatAt; exact .inl ⟨rfl, rfl⟩))
          go_wp2
          exact bodyPost_ret (v := .tuple #[.iface 123 (.agg #[]), .bool true]) (by simp [results, Try.results42, go_sem]) rfl HZ.out
  · cases hs0 : (s.toList == [])
    · have HZ := hide (npost_no (v := .nilIface) (x := x) (show nodeOk 2 n s ks = false from by rw [str_empty] at hs0; simp at hs0; simp [nodeOk, plain, hs0]) r1)
      go_wp2
      exact bodyPost_ret (v := .tuple #[.nilIface, .bool false]) (by simp [results, Try.results42, go_sem]) rfl HZ.out
    · cases hk0 : ((ks.length : Int) == 0)
      · have HZ := hide (npost_no (v := .nilIface) (x := x) (show nodeOk 2 n s ks = false from by simp at hk0; simp [nodeOk, plain, hk0]) r1)
        go_wp2
        exact bodyPost_ret (v := .tuple #[.nilIface, .bool false]) (by simp [results, Try.results42, go_sem]) rfl HZ.out
      · cases h0 : (n == 0)
        · cases h1 : (n == 1)
          · have HZ := hide (fun nq => npost_no (v := .iface 78 (.bool false)) (x := x) (show nodeOk 2 n s ks = false from by simp at h0 h1; simp [nodeOk, plain, h0, h1]) (below_drewN r1 nq))
            have h0' : decide (n = 0) = false := by simpa using h0
            have h1' : decide (n = 1) = false := by simpa using h1
            go_wp2
            go_quiet (fail)
            go_wp2
            exact bodyPost_ret (v := .tuple #[.iface 78 (.bool false), .bool false]) (by simp [results, Try.results42, go_sem]) rfl (HZ.out _)
          · obtain rfl : n = 1 := by simpa using h1
            have HZ := hide (fun nq => npost_yes (v := .iface 78 (.bool true)) (x := x) (show nodeOk 2 1 s ks = true from by simp at hk0; rw [str_empty] at hs0; simp at hs0; simp [nodeOk, plain, hs0, hk0, highL]) (below_drewN r1 nq) (by unfold DatAt; exact .inr (.inl ⟨rfl, rfl⟩)))
            go_wp2
            go_quiet (fail)
            go_wp2
            exact bodyPost_ret (v := .tuple #[.iface 78 (.bool true), .bool true]) (by simp [results, Try.results42, go_sem]) rfl (HZ.out _)
        · obtain rfl : n = 0 := by simpa using h0
          have HZ := hide (fun nq => npost_yes (v := .iface 78 (.bool false)) (x := x) (show nodeOk 2 0 s ks = true from by simp at hk0; rw [str_empty] at hs0; simp at hs0; simp [nodeOk, plain, hs0, hk0, highL]) (below_drewN r1 nq) (by unfold DatAt; exact .inr (.inl ⟨rfl, rfl⟩)))
          go_wp2
          go_quiet (fail)
          go_wp2
          exact bodyPost_ret (v := .tuple #[.iface 78 (.bool false), .bool true]) (by simp [results, Try.results42, go_sem]) rfl (HZ.out _)
  · cases hs0 : (s.toList == [])
    · have HZ := hide (npost_no (v := .nilIface) (x := x) (show nodeOk 3 n s ks = false from by rw [str_empty] at hs0; simp at hs0; simp [nodeOk, plain, hs0]) r1)
      go_wp2
      exact bodyPost_ret (v := .tuple #[.nilIface, .bool false]) (by simp [results, Try.results42, go_sem]) rfl HZ.out
    · cases hk0 : ((ks.length : Int) == 0)
      · have HZ := hide (npost_no (v := .nilIface) (x := x) (show nodeOk 3 n s ks = false from by simp at hk0; simp [nodeOk, plain, hk0]) r1)
        go_wp2
        exact bodyPost_ret (v := .tuple #[.nilIface, .bool false]) (by simp [results, Try.results42, go_sem]) rfl HZ.out
      · have HZ := hide (npost_yes (v := .iface 81 (.int .i64 n)) (x := x) (show nodeOk 3 n s ks = true from by simp at hk0; rw [str_empty] at hs0; simp at hs0; simp [nodeOk, plain, hs0, hk0, highL]) r1 (by unfold DatAt; exact .inr (.inr (.inl ⟨rfl, rfl⟩))))
        go_wp2
        exact bodyPost_ret (v := .tuple #[.iface 81 (.int .i64 n), .bool true]) (by simp [results, Try.results42, go_sem]) rfl HZ.out
  · cases hn0 : (n == 0)
    · have HZ := hide (npost_no (v := .nilIface) (x := x) (show nodeOk 4 n s ks = false from by simp at hn0; simp [nodeOk, plain, hn0]) r1)
      go_wp2
      exact bodyPost_ret (v := .tuple #[.nilIface, .bool false]) (by simp [results, Try.results42, go_sem]) rfl HZ.out
    · cases hk0 : ((ks.length : Int) == 0)
      · have HZ := hide (npost_no (v := .nilIface) (x := x) (show nodeOk 4 n s ks = false from by simp at hk0; simp [nodeOk, plain, hk0]) r1)
        go_wp2
        exact bodyPost_ret (v := .tuple #[.nilIface, .bool false]) (by simp [results, Try.results42, go_sem]) rfl HZ.out
      · by_cases h1000 : (s.size : Int) ≤ 1000
        · have HZ := hide (npost_yes (v := .iface 83 (.string s)) (x := x) (show nodeOk 4 n s ks = true from by simp at hn0 hk0; simp [nodeOk, plain, hn0, hk0, highL]; omega) r1 (by unfold DatAt; exact .inr (.inr (.inr (.inl ⟨rfl, rfl⟩)))))
          have hd : decide ((s.size : Int) ≤ 1000) = true := by simpa using h1000
          have HT := hide (newText_any s)
          rw [hd] at HT
          go_wp2_with fail
          refine (HT.out _).mono ?_
          rintro e w1 ⟨rfl, rfl⟩
          go_wp2
          exact bodyPost_ret (v := .tuple #[.iface 83 (.string s), .bool true]) (by simp [results, Try.results42, go_sem]) rfl HZ.out
        · have HZ := hide (npost_no (v := .iface 83 (.string s)) (x := x) (show nodeOk 4 n s ks = false from by simp [nodeOk, plain]; omega) r1)
          have hd : decide ((s.size : Int) ≤ 1000) = false := by simpa using h1000
          have HT := hide (newText_any s)
          rw [hd] at HT
          go_wp2_with fail
          refine (HT.out _).mono ?_
          rintro e w1 ⟨rfl, rfl⟩
          go_wp2
          exact bodyPost_ret (v := .tuple #[.iface 83 (.string s), .bool false]) (by simp [results, Try.results42, go_sem]) rfl HZ.out
  · cases hn0 : (n == 0)
    · have HZ := hide (npost_no (v := .nilIface) (x := x) (show nodeOk 5 n s ks = false from by simp at hn0; simp [nodeOk, plain, hn0]) r1)
      go_wp2
      exact bodyPost_ret (v := .tuple #[.nilIface, .bool false]) (by simp [results, Try.results42, go_sem]) rfl HZ.out
    · cases hs0 : (s.toList == [])
      · have HZ := hide (npost_no (v := .nilIface) (x := x) (show nodeOk 5 n s ks = false from by rw [str_empty] at hs0; simp at hs0; simp [nodeOk, plain, hs0]) r1)
        go_wp2
        exact bodyPost_ret (v := .tuple #[.nilIface, .bool false]) (by simp [results, Try.results42, go_sem]) rfl HZ.out
      · have HN : Hid (nodeOk 5 n s ks = listOk ks) := hide (by simp at hn0; rw [str_empty] at hs0; simp at hs0; simp [nodeOk, plain, listOk, hn0, hs0]; rw [Bool.eq_iff_iff]; simp; omega)
        have HCL := hide (fun w' (hb : Below w.heap.size w w') => cloneD_any vs p c x w' (by have := DatL.len HD.out; omega) (DatL.one HD.out) (HR.out.below hb) (Nat.lt_of_lt_of_le hx hb.size))
        rw [DatL.len HD.out] at HCL
        go_wp2_with fail
        refine (HCL.out _ r1).mono ?_
        rintro e w1 ⟨p', c', rfl, hrow, hc', hb1⟩
        have hB1 := r1.trans (hb1.mono (by simp))
        have hD1 := DatL.moves (Moves.below (x := x) hB1) ks vs HD.out
        have HD1 := hide hD1
        have HRW := hide hrow
        clear hrow hD1
        go_wp2_with fail
        refine (newList_any ks vs p' c' x _ (by omega) hhi HD1.out HRW.out HLF.out).mono ?_
        rintro e w2 ⟨rfl, hb2⟩
        have hB2 := hB1.trans (hb2.mono hB1.size)
        cases hlo : listOk ks
        · have HZ := hide (npost_no (v := .iface 88 (.agg #[.slice p' ks.length c', .int .i64 (1 + (atomsL ks).length : Nat), .int .i64 (highL ks : Nat)])) (x := x) (HN.out.trans hlo) hB2)
          go_wp2
          exact bodyPost_ret (v := .tuple #[.iface 88 (.agg #[.slice p' ks.length c', .int .i64 (1 + (atomsL ks).length : Nat), .int .i64 (highL ks : Nat)]), .bool false]) (by simp [results, Try.results42, go_sem]) rfl HZ.out
        · have HZ := hide (npost_yes (v := .iface 88 (.agg #[.slice p' ks.length c', .int .i64 (1 + (atomsL ks).length : Nat), .int .i64 (highL ks : Nat)])) (x := x) (HN.out.trans hlo) hB2 (by
            unfold DatAt
            exact .inr (.inr (.inr (.inr (.inl ⟨rfl, p', c', vs, rfl, hc', DatL.moves (Moves.below hb2) ks vs HD1.out, HRW.out.moves (Moves.below hb2)⟩))))))
          go_wp2
          exact bodyPost_ret (v := .tuple #[.iface 88 (.agg #[.slice p' ks.length c', .int .i64 (1 + (atomsL ks).length : Nat), .int .i64 (highL ks : Nat)]), .bool true]) (by simp [results, Try.results42, go_sem]) rfl HZ.out
  · cases hn0 : (n == 0)
    · have HZ := hide (npost_no (v := .nilIface) (x := x) (show nodeOk 6 n s ks = false from by simp at hn0; simp [nodeOk, plain, hn0]) r1)
      go_wp2
      exact bodyPost_ret (v := .tuple #[.nilIface, .bool false]) (by simp [results, Try.results42, go_sem]) rfl HZ.out
    · cases hs0 : (s.toList == [])
      · have HZ := hide (npost_no (v := .nilIface) (x := x) (show nodeOk 6 n s ks = false from by rw [str_empty] at hs0; simp at hs0; simp [nodeOk, plain, hs0]) r1)
        go_wp2
        exact bodyPost_ret (v := .tuple #[.nilIface, .bool false]) (by simp [results, Try.results42, go_sem]) rfl HZ.out
      · have HFO := hide (fun w' (hb : Below w.heap.size w w') => fieldsOf_any ks vs p c x w' (by have := len_le_atomsL ks; omega) (DatL.moves (Moves.below (x := x) hb) ks vs HD.out) (HR.out.below hb) (Nat.lt_of_lt_of_le hx hb.size))
        go_wp2_with fail
        refine (HFO.out _ r1).mono ?_
        rintro e w1 (⟨hnm, p', c', fvs, m, hm, rfl, hfl, hrow, hmc, hb1⟩ | ⟨hnm, rfl, hb1⟩)
        · have hB1 := r1.trans (hb1.mono (by simp))
          have HFL := hide (FldL.moves (Moves.below (x := x) hb1) ks fvs hfl)
          have HRW := hide hrow
          have HN : Hid (nodeOk 6 n s ks = recOk ks) := hide (by simp at hn0; rw [str_empty] at hs0; simp at hs0; simp [nodeOk, plain, recOk, hn0, hs0, hnm]; rw [Bool.eq_iff_iff]; simp; omega)
          have HBR := hide (bare_names ks hnm HG.out)
          clear hfl hrow
          go_wp2_with fail
          refine (newRecord_any ks fvs p' c' x m _ hm (by omega) hhi HFL.out HRW.out HLF.out HBR.out).mono ?_
          rintro e w2 ⟨rfl, hb2⟩
          have hB2 := hB1.trans (hb2.mono hB1.size)
          cases hlo : recOk ks
          · have HZ := hide (npost_no (v := .iface 92 (.agg #[.slice p' m c', .int .i64 (1 + (atomsL ks).length : Nat), .int .i64 (highL ks : Nat)])) (x := x) (HN.out.trans hlo) hB2)
            go_wp2
            exact bodyPost_ret (v := .tuple #[.iface 92 (.agg #[.slice p' m c', .int .i64 (1 + (atomsL ks).length : Nat), .int .i64 (highL ks : Nat)]), .bool false]) (by simp [results, Try.results42, go_sem]) rfl HZ.out
          · have HZ := hide (npost_yes (v := .iface 92 (.agg #[.slice p' m c', .int .i64 (1 + (atomsL ks).length : Nat), .int .i64 (highL ks : Nat)])) (x := x) (HN.out.trans hlo) hB2 (by
              unfold DatAt
              exact .inr (.inr (.inr (.inr (.inr ⟨rfl, p', c', m, fvs, hm, rfl, hmc, FldL.moves (Moves.below hb2) ks fvs HFL.out, HRW.out.moves (Moves.below hb2)⟩))))))
            go_wp2
            exact bodyPost_ret (v := .tuple #[.iface 92 (.agg #[.slice p' m c', .int .i64 (1 + (atomsL ks).length : Nat), .int .i64 (highL ks : Nat)]), .bool true]) (by simp [results, Try.results42, go_sem]) rfl HZ.out
        · have hB1 := r1.trans (hb1.mono (by simp))
          have HZ := hide (npost_no (v := .nilIface) (x := x) (show nodeOk 6 n s ks = false from by simp [nodeOk, plain, hnm]) hB1)
          go_wp2
          exact bodyPost_ret (v := .tuple #[.nilIface, .bool false]) (by simp [results, Try.results42, go_sem]) rfl HZ.out
  · have p1 : ¬ k = 1 := q1
    have p2 : ¬ k = 2 := q2
    have p3 : ¬ k = 3 := q3
    have p4 : ¬ k = 4 := q4
    have p5 : ¬ k = 5 := q5
    have p6 : ¬ k = 6 := q6
    have b1 : (k == 1) = false := by simpa using p1
    have b2 : (k == 2) = false := by simpa using p2
    have b3 : (k == 3) = false := by simpa using p3
    have b4 : (k == 4) = false := by simpa using p4
    have b5 : (k == 5) = false := by simpa using p5
    have b6 : (k == 6) = false := by simpa using p6
    clear q1 q2 q3 q4 q5 q6
    have HZ := hide (npost_no (v := .nilIface) (x := x) (show nodeOk k n s ks = false from by simp [nodeOk, plain, p1, p2, p3, p4, p5, p6]) r1)
    go_wp2
    exact bodyPost_ret (v := .tuple #[.nilIface, .bool false]) (by simp [results, Try.results42, go_sem]) rfl HZ.out
end Go.Proofs.Ytfpdoafpimaoaaa.Vl
