/- Walks: the scan, on the specification's side. -/
import Derived.Test.YtempkondijgdgaaDoorWf
namespace Go.Proofs.YtempkondijgdgaaDoor
open Go.RowKit

theorem cells_new (w : World) (cs : List Value) (t : TypeId) (j : Nat) (u : Value) (h : cs[j]? = some u) : (w.alloc (.cells cs.toArray t)).cell? ((⟨w.heap.size, 0, none⟩ : Addr).add j) = some u := by
  have e : ((⟨w.heap.size, 0, none⟩ : Addr).add j) = ⟨w.heap.size, j, none⟩ := by simp [Addr.add]; exact fun h => h.symm
  rw [e, World.cell?, heap_alloc_new']
  simpa using h
theorem size_setCell' (w : World) (a : Addr) (v : Value) : (w.setCell a v).heap.size = w.heap.size := by simp [World.setCell]
theorem row_below {w w1 : World} {base : Nat} {e : TypeId} {size : Nat} {v : Value} {n : Nat} {xs : List Value} (h : w.ownsRow base e size v n xs) (hb : Below w.heap.size w w1) : w1.ownsRow base e size v n xs := by
  have hg : w.grownBy w1 none := ⟨hb.os, hb.tape, hb.output, hb.size, fun k hk _ => hb.block k hk⟩
  refine h.kept hg ?_
  cases hv : v.ownBlock with
  | none => exact .inl rfl
  | some k => exact .inr (by simp)
theorem row_mono {w : World} {base base' : Nat} {e : TypeId} {size : Nat} {v : Value} {n : Nat} {xs : List Value} (h : w.ownsRow base e size v n xs) (hb : base' ≤ base) : w.ownsRow base' e size v n xs := by
  refine ⟨h.1, ?_⟩
  rcases h.2 with h | ⟨g, cap, cur, h1, h2, h3⟩
  · exact .inl h
  · exact .inr ⟨g, cap, cur, h1, Nat.le_trans hb h2, h3⟩
/-- Behind 'out = append(out, x)', x a struct that was boxed ahead of it. -/
theorem app2_step {w wr w1 : World} {base : Nat} {o1 o2 : Obj} {v : Value} {n : Nat} {xs : List Value} (hown : wr.ownsRow base 33 4 v n xs) (hB : Below base w wr) (hs : base ≤ wr.heap.size)
    (hg : ((wr.alloc o1).alloc o2).grownBy w1 v.ownBlock) : Below base w w1 :=
  ((hB.alloc hs _).alloc (by simp; omega) _).grown hg (by simp; omega) (fun k e => (hown.lt k e).1)

theorem code_big {s : ByteArray} (h : 8000 < s.size) : Sc.code s = 1 ∧ Sc.at_ s = 0 ∧ Sc.toks s = [] := by simp [Sc.code, Sc.at_, Sc.toks, h]
theorem code_small {s : ByteArray} (h : ¬ 8000 < s.size) : Sc.code s = (Sc.from_ s.data.toList 0).2.1 ∧ Sc.at_ s = (Sc.from_ s.data.toList 0).2.2 ∧ Sc.toks s = if (Sc.from_ s.data.toList 0).2.1 = 0 then (Sc.from_ s.data.toList 0).1 else [] := by simp [Sc.code, Sc.at_, Sc.toks, h]

theorem fin_ok {s : ByteArray} {ts : List Sc.T} {k : Nat} (h : Sc.code s = (Sc.from_ s.data.toList 0).2.1 ∧ Sc.at_ s = (Sc.from_ s.data.toList 0).2.2 ∧ Sc.toks s = if (Sc.from_ s.data.toList 0).2.1 = 0 then (Sc.from_ s.data.toList 0).1 else [])
    (he : Sc.from_ s.data.toList 0 = (ts ++ (Sc.from_ s.data.toList k).1, (Sc.from_ s.data.toList k).2)) (hf : Sc.from_ s.data.toList k = ([], 0, 0)) : Sc.code s = 0 ∧ Sc.at_ s = 0 ∧ Sc.toks s = ts := by
  rw [he, hf] at h; simpa using h
theorem fin_bad {s : ByteArray} {ts : List Sc.T} {k c : Nat} (h : Sc.code s = (Sc.from_ s.data.toList 0).2.1 ∧ Sc.at_ s = (Sc.from_ s.data.toList 0).2.2 ∧ Sc.toks s = if (Sc.from_ s.data.toList 0).2.1 = 0 then (Sc.from_ s.data.toList 0).1 else [])
    (he : Sc.from_ s.data.toList 0 = (ts ++ (Sc.from_ s.data.toList k).1, (Sc.from_ s.data.toList k).2)) (hf : Sc.from_ s.data.toList k = ([], c, k)) (hc : c ≠ 0) : Sc.code s = c ∧ Sc.at_ s = k ∧ Sc.toks s = [] := by
  rw [he, hf] at h; simpa [hc] using h

set_option maxRecDepth 100000 in
set_option maxHeartbeats 1000000 in
theorem sscan_any (s : ByteArray) (w : World) (hs : s.size ≤ 1048576) :
    Calls Tryd.prog 4 #[.string s] w fun e w' => ∃ v, e = .returned (.tuple #[v, .agg #[.int .i64 (Sc.code s), .int .i64 (Sc.at_ s)]]) ∧ w'.ownsRow w.heap.size 33 4 v (Sc.toks s).length (Sc.cellsOf (Sc.toks s)) ∧ Below w.heap.size w w' := by
  obtain ⟨i0, hi, hz0, hz1, hz2⟩ := info_parts Tryd.info33
  by_cases hbig : 8000 < s.size
  · obtain ⟨c1, c2, c3⟩ := code_big hbig
    rw [c1, c2, c3]
    clear c1 c2 c3
    go_enter Tryd.func4, Tryd.ntmps4
    go_wp2
    refine bodyPost_ret (v := .tuple #[.slice (some ⟨w.heap.size + 1, 0, none⟩) 0 0, .agg #[.int .i64 1, .int .i64 0]]) (by simp [results, Tryd.results4, go_sem]) rfl ⟨_, rfl, ?_, ?_⟩
    · have := World.ownsRow_lit (base := w.heap.size) (e := 33) (size := 4) (w.alloc (.cells #[.int .i64 1, .int .i64 0] 24)) #[] 0 (by simp) (Nat.zero_le _) rfl
      rw [World.size_alloc] at this
      exact this
    · exact ((Below.refl _ _).alloc (Nat.le_refl _) _).alloc (by simp) _
  · have h0 := fun w => gap_any s 0 0 w hs (Nat.zero_le _) rfl
    have H0 := hide h0
    clear h0
    have hg0 := hide (Sc.gapLen_le false s.data.toList)
    have HC := hide (code_small hbig)
    go_enter Tryd.func4, Tryd.ntmps4
    go_wp2_with (go_at_call 10; refine (H0.out _).mono ?_; rintro e w' ⟨rfl, rfl⟩)
    go_loopw [4, 5] (fun v t wr => ∃ (k : Nat) (ts : List Sc.T), k ≤ s.size ∧ t = .int .i64 k ∧ Sc.gapLen false (s.data.toList.drop k) = 0 ∧ wr.ownsRow (w.heap.size + 1) 33 4 v ts.length (Sc.cellsOf ts) ∧ Below w.heap.size w wr ∧ w.heap.size < wr.heap.size ∧
        wr.cell? ⟨w.heap.size, 0, none⟩ = some (.int .i64 0) ∧ wr.cell? ⟨w.heap.size, 1, none⟩ = some (.int .i64 0) ∧ wr.frozen? ⟨w.heap.size, 0, none⟩ = false ∧ wr.frozen? ⟨w.heap.size, 1, none⟩ = false ∧ ts.length ≤ k ∧
        Sc.from_ s.data.toList 0 = (ts ++ (Sc.from_ s.data.toList k).1, (Sc.from_ s.data.toList k).2)) (fun _ t _ => s.size - (intOf t).toNat)
    case atStart =>
      have hg := hg0.out
      refine ⟨Sc.gapLen false s.data.toList, [], by simpa using hg, rfl, Sc.gap_gap _ _, ?_, ?_, by simp; omega, by simp, by simp, by simp, by simp, Nat.zero_le _, ?_⟩
      · have := World.ownsRow_lit (base := w.heap.size + 1) (e := 33) (size := 4) (w.alloc (.cells #[.int .i64 0, .int .i64 0] 24)) #[] 0 (by simp) (Nat.zero_le _) rfl
        rw [World.size_alloc] at this
        exact this
      · exact ((Below.refl _ _).alloc (Nat.le_refl _) _).alloc (by simp) _
      · have := Sc.from_gap s.data.toList 0 (by simpa using Sc.gap_gap false s.data.toList)
        simp only [List.drop_zero, Nat.zero_add] at this
        rw [← this]; simp
    case round =>
      obtain ⟨k, ts, hk, rfl, hgk, hown, hB, hlt0, hc0, hc1, hf0, hf1, hlen, he⟩ := hrel
      have HE := hide he
      have HG := hide hgk
      clear he hgk
      by_cases hlt : k < s.size
      · have hO := fun w => one_any s k k w hs hlt rfl
        by_cases hcode : (Sc.one (s.data.toList.drop k)).code = 0
        · have hsz := Sc.one_size _ hcode
          have hft := Sc.from_tok s.data.toList k (by simpa using hlt) HG.out hcode
          have e : oneOut k (Sc.one (s.data.toList.drop k)) = .tuple #[.agg #[.int .i64 (Sc.one (s.data.toList.drop k)).kind, .string ⟨(Sc.one (s.data.toList.drop k)).text.toArray⟩, .int .i64 (Sc.one (s.data.toList.drop k)).n, .int .i64 k], .int .i64 ((k : Int) + (Sc.one (s.data.toList.drop k)).size), .int .i64 0] := by
            unfold oneOut; rw [if_pos hcode]
          rw [e] at hO
          clear e hcode
          generalize Sc.one (s.data.toList.drop k) = r at *
          have HO := hide hO
          have HFT := hide hft
          obtain ⟨hsz1, hsz2⟩ := hsz
          simp only [List.length_drop, Array.length_toList] at hsz2
          have hsz3 : k + r.size ≤ s.size := by have : s.data.size = s.size := rfl; omega
          clear hO hft hsz2
          go_wp2_with (first
            | (go_at_call 11; refine (HO.out _).mono ?_; rintro e w1 ⟨rfl, hb⟩; obtain ⟨hc, hf⟩ := bcell hb; have hlt1 : w.heap.size < w1.heap.size := Nat.lt_of_lt_of_le hlt0 hb.size; have hown1 := row_below hown hb)
            | (at_builtin; refine wpList_append_own _ rfl _ _ 22 rfl (w.heap.size + 1) 33 i0 (.agg #[.int .i64 0, .string ⟨#[]⟩, .int .i64 0, .int .i64 0]) 4 40 Tryd.underlying22 hi hz0 hz1 hz2 rfl (by decide) _ _ _ rfl ((hown1.alloc _).alloc _) ⟨w1.heap.size + 1, 0, none⟩ 1 1 [.int .i64 r.kind, .string ⟨r.text.toArray⟩, .int .i64 r.n, .int .i64 k] rfl rfl ?_ ?_ ?_ ?_ ?_ ?_))
          · intro j u h
            have := cells_new (w1.alloc (.cells #[.int .i64 r.kind, .string ⟨r.text.toArray⟩, .int .i64 r.n, .int .i64 k] 33)) _ 33 j u h
            rw [World.size_alloc] at this
            exact this
          · simp [Value.oneCell']
          · unfold maxLen; omega
          · omega
          · simp; omega
          · intro v' w2 hown' hgrow _
            have hB2 : Below w.heap.size w w2 := ((app2_step hown1 ((Below.refl _ _)) (by omega) hgrow).mono (by omega)) |> fun h => (hB.trans (hb.mono (by omega))).trans h
            have hlt2 : w.heap.size < w2.heap.size := by have := hgrow.size; simp at this; omega
            have hb2 : Below (w.heap.size + 1) w1 w2 := app2_step hown1 ((Below.refl _ _)) (by omega) hgrow
            have q0 : w2.cell? ⟨w.heap.size, 0, none⟩ = some (.int .i64 0) := (hb2.cell (p := ⟨w.heap.size, 0, none⟩) (Nat.lt_succ_self _)).trans ((hc _ _ hlt0).trans hc0)
            have q1 : w2.cell? ⟨w.heap.size, 1, none⟩ = some (.int .i64 0) := (hb2.cell (p := ⟨w.heap.size, 1, none⟩) (Nat.lt_succ_self _)).trans ((hc _ _ hlt0).trans hc1)
            have q2 : w2.frozen? ⟨w.heap.size, 0, none⟩ = false := (hb2.frozen (p := ⟨w.heap.size, 0, none⟩) (Nat.lt_succ_self _)).trans ((hf _ _ hlt0).trans hf0)
            have q3 : w2.frozen? ⟨w.heap.size, 1, none⟩ = false := (hb2.frozen (p := ⟨w.heap.size, 1, none⟩) (Nat.lt_succ_self _)).trans ((hf _ _ hlt0).trans hf1)
            clear hgrow hb2 hc hf hc0 hc1 hf0 hf1 hown hown1
            go_wp2_with (go_at_call 10; refine (gap_any s (k + r.size) _ _ hs hsz3 (by omega)).mono ?_; rintro e w3 ⟨rfl, rfl⟩)
            go_roundw
            case rel =>
              have hgl := Sc.gapLen_le false (s.data.toList.drop (k + r.size))
              have hgg : Sc.gapLen false (s.data.toList.drop (k + r.size + Sc.gapLen false (s.data.toList.drop (k + r.size)))) = 0 := by have := Sc.gap_gap false (s.data.toList.drop (k + r.size)); rwa [List.drop_drop] at this
              simp only [List.length_drop, Array.length_toList] at hgl
              have hds : s.data.size = s.size := rfl
              refine ⟨k + r.size + Sc.gapLen false (s.data.toList.drop (k + r.size)), ts ++ [⟨r.kind, r.text, r.n, k⟩], by omega, by go_num, hgg, ?_, hB2, hlt2, q0, q1, q2, q3, by simp; omega, ?_⟩
              · rw [Sc.cellsOf_snoc, List.length_append]; exact hown'
              · rw [HE.out, HFT.out, ← Sc.from_gap s.data.toList (k + r.size) hgg]; simp
            case measure => simp [intOf]; omega
        · have hft := Sc.from_bad s.data.toList k (by simpa using hlt) HG.out hcode
          have e : oneOut k (Sc.one (s.data.toList.drop k)) = .tuple #[.agg #[.int .i64 0, .string ⟨#[]⟩, .int .i64 0, .int .i64 0], .int .i64 0, .int .i64 (Sc.one (s.data.toList.drop k)).code] := by
            unfold oneOut; rw [if_neg hcode]
          rw [e] at hO
          have hcb : (((Sc.one (s.data.toList.drop k)).code : Int) != 0) = true := by simp [hcode]
          clear e
          generalize Sc.one (s.data.toList.drop k) = r at *
          have HO := hide hO
          have HFT := hide hft
          have HCD := hide hcode
          clear hO hft hcode
          go_wp2_with (go_at_call 11; refine (HO.out _).mono ?_; rintro e w1 ⟨rfl, hb⟩; obtain ⟨hc, hf⟩ := bcell hb; have hlt1 : w.heap.size < w1.heap.size := Nat.lt_of_lt_of_le hlt0 hb.size)
          refine bodyPost_ret (v := .tuple #[.slice (some ⟨w1.heap.size + 1, 0, none⟩) 0 0, .agg #[.int .i64 r.code, .int .i64 k]]) (by simp [results, Tryd.results4, go_sem, hc, hc0, hc1, hlt0, hlt1]) rfl ⟨.slice (some ⟨w1.heap.size + 1, 0, none⟩) 0 0, ?_, ?_, ?_⟩
          · have h := fin_bad HC.out HE.out HFT.out HCD.out; rw [h.1, h.2.1]
          · have h := fin_bad HC.out HE.out HFT.out HCD.out
            rw [h.2.2]
            have := World.ownsRow_lit (base := w.heap.size) (e := 33) (size := 4) (((w1.setCell ⟨w.heap.size, 0, none⟩ (.int .i64 r.code)).setCell ⟨w.heap.size, 1, none⟩ (.int .i64 k)).alloc (.cells #[.int .i64 0, .string ⟨#[]⟩, .int .i64 0, .int .i64 0] 33)) #[] 0 (by simp [World.setCell]; omega) (Nat.zero_le _) rfl
            simp only [World.size_alloc, size_setCell'] at this
            exact this
          · have hB1 := hB.trans (hb.mono (Nat.le_of_lt hlt0))
            exact ((((hB1.setCell (p := ⟨w.heap.size, 0, none⟩) (Nat.le_refl _) _).setCell (p := ⟨w.heap.size, 1, none⟩) (Nat.le_refl _) _).alloc (by simp; omega) _).alloc (by simp; omega) _)
      · have hft := hide (Sc.from_end s.data.toList k (by simp; omega))
        go_wp2
        refine bodyPost_ret (v := .tuple #[u4, .agg #[.int .i64 0, .int .i64 0]]) (by simp [results, Tryd.results4, go_sem, hc0, hc1]) rfl ⟨u4, ?_, ?_, ?_⟩
        · have h := fin_ok HC.out HE.out hft.out; rw [h.1, h.2.1]; rfl
        · have h := fin_ok HC.out HE.out hft.out; rw [h.2.2]; exact row_mono (ownsRow_setCell_below (ownsRow_setCell_below hown (by simp) _) (by simp) _) (by omega)
        · exact (hB.setCell (p := ⟨w.heap.size, 0, none⟩) (Nat.le_refl _) _).setCell (p := ⟨w.heap.size, 1, none⟩) (Nat.le_refl _) _
end Go.Proofs.YtempkondijgdgaaDoor
