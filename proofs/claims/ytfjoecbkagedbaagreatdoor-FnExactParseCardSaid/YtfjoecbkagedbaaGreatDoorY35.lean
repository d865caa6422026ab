/- If, Hr, Ht. -/
import Derived.Test.YtfjoecbkagedbaaGreatDoorY34
import Derived.Test.YtfjoecbkagedbaaGreatDoorY32
namespace Go.Proofs.YtfjoecbkagedbaaGreatDoor
open Go.RowKit

theorem cells_new (w : World) (cs : List Value) (t : TypeId) (j : Nat) (u : Value) (h : cs[j]? = some u) : (w.alloc (.cells cs.toArray t)).cell? ((⟨w.heap.size, 0, none⟩ : Addr).add j) = some u := by
  have e : ((⟨w.heap.size, 0, none⟩ : Addr).add j) = ⟨w.heap.size, j, none⟩ := by simp [Addr.add]; exact fun h => h.symm
  rw [e, World.cell?, heap_alloc_new']
  simpa using h
theorem size_setCell' (w : World) (a : Addr) (v : Value) : (w.setCell a v).heap.size = w.heap.size := by simp [World.setCell]
/-- Behind 'out = append(out, x)', x a struct that was boxed ahead of it. -/
theorem app2_step {w wr w1 : World} {base : Nat} {o1 o2 : Obj} {v : Value} {n : Nat} {xs : List Value} (hown : wr.ownsRow base 54 4 v n xs) (hB : Below base w wr) (hs : base ≤ wr.heap.size)
    (hg : ((wr.alloc o1).alloc o2).grownBy w1 v.ownBlock) : Below base w w1 :=
  ((hB.alloc hs _).alloc (by simp; omega) _).grown hg (by simp; omega) (fun k e => (hown.lt k e).1)

theorem code_big {s : ByteArray} (h : 8000 < s.size) : Sc.code s = 1 ∧ Sc.at_ s = 0 ∧ Sc.toks s = [] := by simp [Sc.code, Sc.at_, Sc.toks, h]
theorem code_small {s : ByteArray} (h : ¬ 8000 < s.size) : Sc.code s = (Sc.from_ s.data.toList 0).2.1 ∧ Sc.at_ s = (Sc.from_ s.data.toList 0).2.2 ∧ Sc.toks s = if (Sc.from_ s.data.toList 0).2.1 = 0 then (Sc.from_ s.data.toList 0).1 else [] := by simp [Sc.code, Sc.at_, Sc.toks, h]

theorem fin_ok {s : ByteArray} {ts : List Sc.T} {k : Nat} (h : Sc.code s = (Sc.from_ s.data.toList 0).2.1 ∧ Sc.at_ s = (Sc.from_ s.data.toList 0).2.2 ∧ Sc.toks s = if (Sc.from_ s.data.toList 0).2.1 = 0 then (Sc.from_ s.data.toList 0).1 else [])
    (he : Sc.from_ s.data.toList 0 = (ts ++ (Sc.from_ s.data.toList k).1, (Sc.from_ s.data.toList k).2)) (hf : Sc.from_ s.data.toList k = ([], 0, 0)) : Sc.code s = 0 ∧ Sc.at_ s = 0 ∧ Sc.toks s = ts := by
  rw [he, hf] at h; simpa using h
theorem fin_bad {s : ByteArray} {ts : List Sc.T} {k c : Nat} (h : Sc.code s = (Sc.from_ s.data.toList 0).2.1 ∧ Sc.at_ s = (Sc.from_ s.data.toList 0).2.2 ∧ Sc.toks s = if (Sc.from_ s.data.toList 0).2.1 = 0 then (Sc.from_ s.data.toList 0).1 else [])
    (he : Sc.from_ s.data.toList 0 = (ts ++ (Sc.from_ s.data.toList k).1, (Sc.from_ s.data.toList k).2)) (hf : Sc.from_ s.data.toList k = ([], c, k)) (hc : c ≠ 0) : Sc.code s = c ∧ Sc.at_ s = k ∧ Sc.toks s = [] := by
  rw [he, hf] at h; simpa [hc] using h

set_option maxRecDepth 100000 in
set_option maxHeartbeats 1000000 in
theorem sscan_any (s : ByteArray) (w : World) (hs : s.size ≤ 1048576) :
    Calls Tryz.prog 10 #[.string s] w fun e w' => ∃ v, e = .returned (.tuple #[v, .agg #[.int .i64 (Sc.code s), .int .i64 (Sc.at_ s)]]) ∧ w'.ownsRow w.heap.size 54 4 v (Sc.toks s).length (Sc.cellsOf (Sc.toks s)) ∧ Below w.heap.size w w' := by
  obtain ⟨i0, hi, hz0, hz1, hz2⟩ := info_parts Tryz.infoS33
  by_cases hbig : 8000 < s.size
  · obtain ⟨c1, c2, c3⟩ := code_big hbig
    rw [c1, c2, c3]
    clear c1 c2 c3
    go_enter Tryz.func10, Tryz.ntmps10
    go_wp2
    refine bodyPost_ret (v := .tuple #[.slice (some ⟨w.heap.size + 1, 0, none⟩) 0 0, .agg #[.int .i64 1, .int .i64 0]]) (by simp [results, Tryz.results10, go_sem]) rfl ⟨_, rfl, ?_, ?_⟩
    · have := World.ownsRow_lit (base := w.heap.size) (e := 54) (size := 4) (w.alloc (.cells #[.int .i64 1, .int .i64 0] 26)) #[] 0 (by simp) (Nat.zero_le _) rfl
      rw [World.size_alloc] at this
      exact this
    · exact ((Below.refl _ _).alloc (Nat.le_refl _) _).alloc (by simp) _
  · have h0 := fun w => gap_any s 0 0 w hs (Nat.zero_le _) rfl
    have H0 := hide h0
    clear h0
    have hg0 := hide (Sc.gapLen_le false s.data.toList)
    have HC := hide (code_small hbig)
    go_enter Tryz.func10, Tryz.ntmps10
    go_wp2_with (go_at_call 21; refine (H0.out _).mono ?_; rintro e w' ⟨rfl, rfl⟩)
    go_loopw [4, 5] (fun v t wr => ∃ (k : Nat) (ts : List Sc.T), k ≤ s.size ∧ t = .int .i64 k ∧ Sc.gapLen false (s.data.toList.drop k) = 0 ∧ wr.ownsRow (w.heap.size + 1) 54 4 v ts.length (Sc.cellsOf ts) ∧ Below w.heap.size w wr ∧ w.heap.size < wr.heap.size ∧
        wr.cell? ⟨w.heap.size, 0, none⟩ = some (.int .i64 0) ∧ wr.cell? ⟨w.heap.size, 1, none⟩ = some (.int .i64 0) ∧ wr.frozen? ⟨w.heap.size, 0, none⟩ = false ∧ wr.frozen? ⟨w.heap.size, 1, none⟩ = false ∧ ts.length ≤ k ∧
        Sc.from_ s.data.toList 0 = (ts ++ (Sc.from_ s.data.toList k).1, (Sc.from_ s.data.toList k).2)) (fun _ t _ => s.size - (intOf t).toNat)
    case atStart =>
      have hg := hg0.out
      refine ⟨Sc.gapLen false s.data.toList, [], by simpa using hg, rfl, Sc.gap_gap _ _, ?_, ?_, by simp; omega, by simp, by simp, by simp, by simp, Nat.zero_le _, ?_⟩
      · have := World.ownsRow_lit (base := w.heap.size + 1) (e := 54) (size := 4) (w.alloc (.cells #[.int .i64 0, .int .i64 0] 26)) #[] 0 (by simp) (Nat.zero_le _) rfl
        rw [World.size_alloc] at this
        exact this
      · exact ((Below.refl _ _).alloc (Nat.le_refl _) _).alloc (by simp) _
      · have := Sc.from_gap s.data.toList 0 (by simpa using Sc.gap_gap false s.data.toList)
        simp only [List.drop_zero, Nat.zero_add] at this
        rw [← this]; simp
    case round =>
      obtain ⟨k, ts, hk, rfl, hgk, hown, hB, hlt0, hc0, hc1, hf0, hf1, hlen, he⟩ := hrel
      have HE := hide he
      have HG := hide hgk
      clear he hgk
      by_cases hlt : k < s.size
      · have hO := fun w => one_any s k k w hs hlt rfl
        by_cases hcode : (Sc.one (s.data.toList.drop k)).code = 0
        · have hsz := Sc.one_size _ hcode
          have hft := Sc.from_tok s.data.toList k (by simpa using hlt) HG.out hcode
          have e : oneOut k (Sc.one (s.data.toList.drop k)) = .tuple #[.agg #[.int .i64 (Sc.one (s.data.toList.drop k)).kind, .string ⟨(Sc.one (s.data.toList.drop k)).text.toArray⟩, .int .i64 (Sc.one (s.data.toList.drop k)).n, .int .i64 k], .int .i64 ((k : Int) + (Sc.one (s.data.toList.drop k)).size), .int .i64 0] := by
            unfold oneOut; rw [if_pos hcode]
          rw [e] at hO
          clear e hcode
          generalize Sc.one (s.data.toList.drop k) = r at *
          have HO := hide hO
          have HFT := hide hft
          obtain ⟨hsz1, hsz2⟩ := hsz
          simp only [List.length_drop, Array.length_toList] at hsz2
          have hsz3 : k + r.size ≤ s.size := by have : s.data.size = s.size := rfl; omega
          clear hO hft hsz2
          go_wp2_with (first
            | (go_at_call 22; refine (HO.out _).mono ?_; rintro e w1 ⟨rfl, hb⟩; obtain ⟨hc, hf⟩ := bcell hb; have hlt1 : w.heap.size < w1.heap.size := Nat.lt_of_lt_of_le hlt0 hb.size; have hown1 := row_below hown hb)
            | (at_builtin; refine wpList_append_own _ rfl _ _ 33 rfl (w.heap.size + 1) 54 i0 (.agg #[.int .i64 0, .string ⟨#[]⟩, .int .i64 0, .int .i64 0]) 4 40 Tryz.underlying33 hi hz0 hz1 hz2 rfl (by decide) _ _ _ rfl ((hown1.alloc _).alloc _) ⟨w1.heap.size + 1, 0, none⟩ 1 1 [.int .i64 r.kind, .string ⟨r.text.toArray⟩, .int .i64 r.n, .int .i64 k] rfl rfl ?_ ?_ ?_ ?_ ?_ ?_))
          · intro j u h
            have := cells_new (w1.alloc (.cells #[.int .i64 r.kind, .string ⟨r.text.toArray⟩, .int .i64 r.n, .int .i64 k] 54)) _ 54 j u h
            rw [World.size_alloc] at this
            exact this
          · simp [Value.oneCell']
          · unfold maxLen; omega
          · omega
          · simp; omega
          · intro v' w2 hown' hgrow _
            have hB2 : Below w.heap.size w w2 := ((app2_step hown1 ((Below.refl _ _)) (by omega) hgrow).mono (by omega)) |> fun h => (hB.trans (hb.mono (by omega))).trans h
            have hlt2 : w.heap.size < w2.heap.size := by have := hgrow.size; simp at this; omega
            have hb2 : Below (w.heap.size + 1) w1 w2 := app2_step hown1 ((Below.refl _ _)) (by omega) hgrow
            have q0 : w2.cell? ⟨w.heap.size, 0, none⟩ = some (.int .i64 0) := (hb2.cell (p := ⟨w.heap.size, 0, none⟩) (Nat.lt_succ_self _)).trans ((hc _ _ hlt0).trans hc0)
            have q1 : w2.cell? ⟨w.heap.size, 1, none⟩ = some (.int .i64 0) := (hb2.cell (p := ⟨w.heap.size, 1, none⟩) (Nat.lt_succ_self _)).trans ((hc _ _ hlt0).trans hc1)
            have q2 : w2.frozen? ⟨w.heap.size, 0, none⟩ = false := (hb2.frozen (p := ⟨w.heap.size, 0, none⟩) (Nat.lt_succ_self _)).trans ((hf _ _ hlt0).trans hf0)
            have q3 : w2.frozen? ⟨w.heap.size, 1, none⟩ = false := (hb2.frozen (p := ⟨w.heap.size, 1, none⟩) (Nat.lt_succ_self _)).trans ((hf _ _ hlt0).trans hf1)
            clear hgrow hb2 hc hf hc0 hc1 hf0 hf1 hown hown1
            go_wp2_with (go_at_call 21; refine (gap_any s (k + r.size) _ _ hs hsz3 (by omega)).mono ?_; rintro e w3 ⟨rfl, rfl⟩)
            go_roundw
            case rel =>
              have hgl := Sc.gapLen_le false (s.data.toList.drop (k + r.size))
              have hgg : Sc.gapLen false (s.data.toList.drop (k + r.size + Sc.gapLen false (s.data.toList.drop (k + r.size)))) = 0 := by have := Sc.gap_gap false (s.data.toList.drop (k + r.size)); rwa [List.drop_drop] at this
              simp only [List.length_drop, Array.length_toList] at hgl
              have hds : s.data.size = s.size := rfl
              refine ⟨k + r.size + Sc.gapLen false (s.data.toList.drop (k + r.size)), ts ++ [⟨r.kind, r.text, r.n, k⟩], by omega, by go_num, hgg, ?_, hB2, hlt2, q0, q1, q2, q3, by simp; omega, ?_⟩
              · rw [Sc.cellsOf_snoc, List.length_append]; exact hown'
              · rw [HE.out, HFT.out, ← Sc.from_gap s.data.toList (k + r.size) hgg]; simp
            case measure => simp [intOf]; omega
        · have hft := Sc.from_bad s.data.toList k (by simpa using hlt) HG.out hcode
          have e : oneOut k (Sc.one (s.data.toList.drop k)) = .tuple #[.agg #[.int .i64 0, .string ⟨#[]⟩, .int .i64 0, .int .i64 0], .int .i64 0, .int .i64 (Sc.one (s.data.toList.drop k)).code] := by
            unfold oneOut; rw [if_neg hcode]
          rw [e] at hO
          have hcb : (((Sc.one (s.data.toList.drop k)).code : Int) != 0) = true := by simp [hcode]
          clear e
          generalize Sc.one (s.data.toList.drop k) = r at *
          have HO := hide hO
          have HFT := hide hft
          have HCD := hide hcode
          clear hO hft hcode
          go_wp2_with (go_at_call 22; refine (HO.out _).mono ?_; rintro e w1 ⟨rfl, hb⟩; obtain ⟨hc, hf⟩ := bcell hb; have hlt1 : w.heap.size < w1.heap.size := Nat.lt_of_lt_of_le hlt0 hb.size)
          refine bodyPost_ret (v := .tuple #[.slice (some ⟨w1.heap.size + 1, 0, none⟩) 0 0, .agg #[.int .i64 r.code, .int .i64 k]]) (by simp [results, Tryz.results10, go_sem, hc, hc0, hc1, hlt0, hlt1]) rfl ⟨.slice (some ⟨w1.heap.size + 1, 0, none⟩) 0 0, ?_, ?_, ?_⟩
          · have h := fin_bad HC.out HE.out HFT.out HCD.out; rw [h.1, h.2.1]
          · have h := fin_bad HC.out HE.out HFT.out HCD.out
            rw [h.2.2]
            have := World.ownsRow_lit (base := w.heap.size) (e := 54) (size := 4) (((w1.setCell ⟨w.heap.size, 0, none⟩ (.int .i64 r.code)).setCell ⟨w.heap.size, 1, none⟩ (.int .i64 k)).alloc (.cells #[.int .i64 0, .string ⟨#[]⟩, .int .i64 0, .int .i64 0] 54)) #[] 0 (by simp [World.setCell]; omega) (Nat.zero_le _) rfl
            simp only [World.size_alloc, size_setCell'] at this
            exact this
          · have hB1 := hB.trans (hb.mono (Nat.le_of_lt hlt0))
            exact ((((hB1.setCell (p := ⟨w.heap.size, 0, none⟩) (Nat.le_refl _) _).setCell (p := ⟨w.heap.size, 1, none⟩) (Nat.le_refl _) _).alloc (by simp; omega) _).alloc (by simp; omega) _)
      · have hft := hide (Sc.from_end s.data.toList k (by simp; omega))
        go_wp2
        refine bodyPost_ret (v := .tuple #[u4, .agg #[.int .i64 0, .int .i64 0]]) (by simp [results, Tryz.results10, go_sem, hc0, hc1]) rfl ⟨u4, ?_, ?_, ?_⟩
        · have h := fin_ok HC.out HE.out hft.out; rw [h.1, h.2.1]; rfl
        · have h := fin_ok HC.out HE.out hft.out; rw [h.2.2]; exact row_mono (ownsRow_setCell_below (ownsRow_setCell_below hown (by simp) _) (by simp) _) (by omega)
        · exact (hB.setCell (p := ⟨w.heap.size, 0, none⟩) (Nat.le_refl _) _).setCell (p := ⟨w.heap.size, 1, none⟩) (Nat.le_refl _) _
end Go.Proofs.YtfjoecbkagedbaaGreatDoor
namespace Go.Proofs.YtfjoecbkagedbaaGreatDoor
open Go.RowKit
theorem Sc.cellsOf_atP (l : List Sc.T) (i : Nat) (h : i < l.length) : (Sc.cellsOf l)[i * 4]? = some (.int .i64 l[i].kind) ∧ (Sc.cellsOf l)[i * 4 + 1]? = some (.string ⟨l[i].text.toArray⟩) ∧ (Sc.cellsOf l)[i * 4 + 2]? = some (.int .i64 l[i].n) ∧ (Sc.cellsOf l)[i * 4 + 3]? = some (.int .i64 l[i].place) := by
  induction l generalizing i with
  | nil => simp at h
  | cons x r ih =>
    have e : Sc.cellsOf (x :: r) = [.int .i64 x.kind, .string ⟨x.text.toArray⟩, .int .i64 x.n, .int .i64 x.place] ++ Sc.cellsOf r := by simp [Sc.cellsOf, Sc.T.cells]
    rw [e]
    match i, h with
    | 0, _ => simp
    | i + 1, h =>
      have := ih i (by simpa using h)
      refine ⟨?_, ?_, ?_, ?_⟩
      all_goals rw [List.getElem?_append_right (by simp; omega)]
      · rw [show (i + 1) * 4 - ([.int .i64 x.kind, .string ⟨x.text.toArray⟩, .int .i64 x.n, .int .i64 x.place] : List Value).length = i * 4 from by simp; omega]; exact this.1
      · rw [show (i + 1) * 4 + 1 - ([.int .i64 x.kind, .string ⟨x.text.toArray⟩, .int .i64 x.n, .int .i64 x.place] : List Value).length = i * 4 + 1 from by simp; omega]; exact this.2.1
      · rw [show (i + 1) * 4 + 2 - ([.int .i64 x.kind, .string ⟨x.text.toArray⟩, .int .i64 x.n, .int .i64 x.place] : List Value).length = i * 4 + 2 from by simp; omega]; exact this.2.2.1
      · rw [show (i + 1) * 4 + 3 - ([.int .i64 x.kind, .string ⟨x.text.toArray⟩, .int .i64 x.n, .int .i64 x.place] : List Value).length = i * 4 + 3 from by simp; omega]; exact this.2.2.2
def Pr.dk0 : Pr.Dk := ⟨0, false, 0, []⟩
/-- A new desk over tokens that lie in a block. -/
theorem DK.init {w : World} {B tg tc sz : Nat} {ts : List Sc.T} (h : w.ownsRow B 54 4 (.slice (some ⟨tg, 0, none⟩) ts.length tc) ts.length (Sc.cellsOf ts)) (hn : ts.length ≤ 1048576) :
    DK w.heap.size tg tc ts sz (.slice none 0 0) Pr.dk0 (w.alloc (.cells #[.slice (some ⟨tg, 0, none⟩) ts.length tc, .int .i64 sz, .int .i64 0, .bool false, .int .i64 0, .slice none 0 0] 38)) := by
  have hl : tg < w.heap.size := (h.lt tg rfl).2
  have hb := (Below.refl w.heap.size w).alloc (Nat.le_refl _) (.cells #[.slice (some ⟨tg, 0, none⟩) ts.length tc, .int .i64 sz, .int .i64 0, .bool false, .int .i64 0, .slice none 0 0] 38)
  have ct : ∀ j u, (Sc.cellsOf ts)[j]? = some u → (w.alloc (.cells #[.slice (some ⟨tg, 0, none⟩) ts.length tc, .int .i64 sz, .int .i64 0, .bool false, .int .i64 0, .slice none 0 0] 38)).cell? ⟨tg, j, none⟩ = some u := fun j u hu => (hb.cell (p := ⟨tg, j, none⟩) hl).trans (row_cellP h hu)
  refine ⟨by simp, by simp, by simp [Pr.dk0], by simp [Pr.dk0], by simp [Pr.dk0], by simp, fun j => by simp, hl, fun i hi => ?_, Nat.zero_le _, hn, World.ownsRow_nil _ _ _ _⟩
  obtain ⟨a, b, c, d⟩ := Sc.cellsOf_atP ts i hi
  exact ⟨ct _ _ a, ct _ _ b, ct _ _ c, ct _ _ d⟩
theorem Sc.scan_lenP : ∀ (f k : Nat) (l : List UInt8), (Sc.scan f k l).1.length ≤ l.length
  | 0, _, _ => by simp [Sc.scan]
  | f + 1, k, l => by
    rw [Sc.scan]
    split
    · simp
    · split
      · simp
      · rename_i h1 h2
        have hc : (Sc.one (l.drop (Sc.gapLen false l))).code = 0 := by omega
        have hs := Sc.one_size _ hc
        have ih := Sc.scan_lenP f (k + Sc.gapLen false l + (Sc.one (l.drop (Sc.gapLen false l))).size) ((l.drop (Sc.gapLen false l)).drop (Sc.one (l.drop (Sc.gapLen false l))).size)
        simp only [List.length_cons, List.length_drop] at *
        omega
theorem Sc.toks_lenP (s : ByteArray) : (Sc.toks s).length ≤ 8000 := by
  by_cases h : 8000 < s.size
  · rw [(code_big h).2.2]; simp
  · rw [(code_small h).2.2]
    split
    · have := Sc.scan_lenP (s.data.toList.length + 1) 0 (s.data.toList.drop 0)
      simp only [List.drop_zero, Array.length_toList] at this
      unfold Sc.from_
      simp only [List.drop_zero, Array.length_toList]
      have e : s.data.size = s.size := rfl
      omega
    · simp
/-- The desk of a text comes to this, statement by statement. -/
def Pr.Comes (s : ByteArray) (r : Pr.Dk × Nat) : Prop := Pr.Cv (Sc.toks s) s.size (.fileL 0) Pr.dk0 r
theorem Pr.Comes.same {s : ByteArray} {r q : Pr.Dk × Nat} (h : Pr.Comes s r) (k : Pr.Comes s q) : r = q := Pr.Cv.same h k
/-- What Parse hands back: nodes, and a fault's code and place. -/
def Pr.result (r : Pr.Dk × Nat) : List Tr.Nd × Nat × Nat :=
  if r.1.bad then ([], 6, r.1.place)
  else if Tr.valid (r.1.out ++ [⟨24, 0, 0, ⟨#[]⟩, r.2⟩]) then (r.1.out ++ [⟨24, 0, 0, ⟨#[]⟩, r.2⟩], 0, 0)
  else ([], 7, 0)
end Go.Proofs.YtfjoecbkagedbaaGreatDoor
namespace Go.Proofs.YtfjoecbkagedbaaGreatDoor
open Go.RowKit
section
variable {ts : List Sc.T} {sz : Nat}
theorem Pr.stopB_bad (s : Pr.Dk) : (Pr.stop ts sz s).bad = true := by unfold Pr.stop; split; assumption; rfl
theorem Pr.needB_stop (s : Pr.Dk) (t : List UInt8) : (Pr.need ts sz (Pr.stop ts sz s) t).bad = true := by
  have h := Pr.stopB_bad (ts := ts) (sz := sz) s
  have hi : Pr.is ts sz (Pr.stop ts sz s) t = false := by unfold Pr.is; rw [h]; rfl
  unfold Pr.need
  rw [hi]
  exact Pr.stopB_bad _
theorem Pr.pe_on (f : Nat) (s : Pr.Dk) : (Pr.pe ts sz (f + 1) .statement s).1.bad = true ∨ s.p < (Pr.pe ts sz (f + 1) .statement s).1.p := by
  have st : ∀ (c : Pr.Cmd) (s : Pr.Dk), s.p ≤ ts.length → Pr.Stp ts s (Pr.pe ts sz f c s).1 (Pr.extra c) := Pr.pe_stp f
  unfold Pr.pe
  split
  · rename_i hi
    have h1 : (Pr.adv s).p ≤ ts.length := Pr.is_lt hi
    exact .inr ((((((((Pr.Stp.refl h1).name (sz := sz)).run st .params).need (sz := sz) [61]).run st .e).put 20 0 0 (Pr.nameT ts sz (Pr.adv s)) ((Pr.pe ts sz f .params (Pr.name ts sz (Pr.adv s))).2 + 1)).need (sz := sz) [59]).ge)
  · split
    · rename_i _ hi
      have h1 : (Pr.adv s).p ≤ ts.length := Pr.is_lt hi
      exact .inr (((((((Pr.Stp.refl h1).name (sz := sz)).need (sz := sz) [61]).run st .e).put 21 0 0 (Pr.nameT ts sz (Pr.adv s)) 1).need (sz := sz) [59]).ge)
    · split
      · rename_i _ _ hi
        have h1 : (Pr.adv s).p ≤ ts.length := Pr.is_lt hi
        exact .inr (((((Pr.Stp.refl h1).run st .e).put 22 0 0 [] 1).need (sz := sz) [59]).ge)
      · split
        · rename_i _ _ _ hi
          have h1 : (Pr.adv s).p ≤ ts.length := Pr.is_lt hi
          split
          · rename_i hk
            have hl : (Pr.adv s).p < ts.length := Pr.tok_lt (sz := sz) (by simp only [beq_iff_eq] at hk; omega)
            exact .inr (((((((Pr.Stp.refl h1).advL hl).need (sz := sz) [58]).run st (.loadL 0)).put 23 0 0 (Pr.tok ts sz (Pr.adv s)).text (Pr.pe ts sz f (.loadL 0) (Pr.need ts sz (Pr.adv (Pr.adv s)) [58])).2).need (sz := sz) [59]).ge)
          · exact .inl (Pr.stopB_bad _)
        · exact .inl (Pr.needB_stop _ _)
/-- A statement that is not stuck has gone on. -/
theorem Pr.Cv.on {s : Pr.Dk} {r : Pr.Dk × Nat} (h : Pr.Cv ts sz .statement s r) : r.1.bad = true ∨ s.p < r.1.p := by
  obtain ⟨f, hf⟩ := h
  have := Pr.pe_on (ts := ts) (sz := sz) f s
  rwa [hf (f + 1) (by omega)] at this
end
/-- What is left to the desk in b, none where it is stuck. -/
def Pr.leftB (b : Nat) (ts : List Sc.T) (w : World) : Nat :=
  match w.cell? ⟨b, 3, none⟩ with
  | some (.bool true) => 0
  | _ => Pr.left b ts w + 1
theorem DK.leftB {b tg tc : Nat} {ts : List Sc.T} {sz : Nat} {v : Value} {s : Pr.Dk} {w : World} (h : DK b tg tc ts sz v s w) : Pr.leftB b ts w = if s.bad then 0 else ts.length - s.p + 1 := by
  unfold Pr.leftB
  rw [h.c3, h.left]
  cases s.bad <;> rfl
end Go.Proofs.YtfjoecbkagedbaaGreatDoor
