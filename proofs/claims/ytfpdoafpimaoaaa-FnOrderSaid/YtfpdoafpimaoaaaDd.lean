/- Walks: the reader opened; values made of others, on the specification's side. -/
import Derived.Test.YtfpdoafpimaoaaaDc
import Derived.Test.YtfpdoafpimaoaaaDz
namespace Go.Proofs.Ytfpdoafpimaoaaa.Vl
open Go.RowKit T.atoms T.ok T.high T.good T.allPlain

/-- Bytes in a slice. -/
def ByV (w : World) (v : Value) (n : Nat) : Prop := (∃ q c, v = .slice q 0 c ∧ n = 0) ∨ ∃ g o c, v = .slice (some ⟨g, o, none⟩) n c ∧ 0 < n ∧ n ≤ c ∧ g < w.heap.size ∧ ∀ i, i < n → ∃ k : Nat, k < 256 ∧ w.cell? ⟨g, o + i, none⟩ = some (.int .u8 (k : Int))
def OpenPost (w : World) (e : Ending) (w' : World) : Prop := ∃ rb vb n, e = .returned (.pointer (some ⟨rb, 0, none⟩)) ∧ w.heap.size ≤ rb ∧ Rd w' rb vb n 0 ∧ Below w.heap.size w w'
set_option maxRecDepth 100000 in
set_option maxHeartbeats 1000000 in
theorem open_any (n : Nat) (v : Value) (w : World) (h : ByV w v n) : Calls Try.prog 20 #[v] w fun e w' => OpenPost w e w' := by
  rcases h with ⟨q, c, rfl, rfl⟩ | ⟨g, o, c, rfl, h1, h2, h3, h4⟩
  · go_enter Try.func20, Try.ntmps20
    go_wp2
    go_ret
    refine ⟨w.heap.size, .slice q 0 c, 0, rfl, Nat.le_refl _, ⟨by simp, by simp, by simp, .inl ⟨q, c, rfl, rfl⟩⟩, (Below.refl _ _).alloc (Nat.le_refl _) _⟩
  · have H4 := hide h4
    clear h4
    have hk : ∀ (X : Obj) (m : Nat), m ≤ n → ∀ i, i < m → ∃ k : Nat, k < 256 ∧ (w.alloc X).cell? ⟨g, o + i, none⟩ = some (.int .u8 (k : Int)) := fun X m hm i hi => by
      obtain ⟨k, hk, hc⟩ := H4.out i (by omega)
      exact ⟨k, hk, (((Below.refl w.heap.size w).alloc (Nat.le_refl _) X).cell (p := ⟨g, o + i, none⟩) h3).trans hc⟩
    have HK := hide hk
    clear hk
    by_cases hb : (2000 : Int) < (n : Int)
    · go_enter Try.func20, Try.ntmps20
      go_wp2
      go_ret
      refine ⟨w.heap.size, .slice (some ⟨g, o, none⟩) 2000 c, 2000, rfl, Nat.le_refl _, ⟨by simp, by simp, by simp, .inr ⟨g, o, c, rfl, by omega, by omega, by omega, HK.out _ 2000 (by omega)⟩⟩, (Below.refl _ _).alloc (Nat.le_refl _) _⟩
    · go_enter Try.func20, Try.ntmps20
      go_wp2
      go_ret
      refine ⟨w.heap.size, .slice (some ⟨g, o, none⟩) n c, n, rfl, Nat.le_refl _, ⟨by simp, by simp, by simp, .inr ⟨g, o, c, rfl, by omega, by omega, by omega, HK.out _ n (by omega)⟩⟩, (Below.refl _ _).alloc (Nat.le_refl _) _⟩

set_option maxHeartbeats 400000 in
theorem text5_any (s : ByteArray) (w : World) : Calls Try.prog 67 #[.string s] w fun e w' => ∃ g, w.heap.size ≤ g ∧ e = .returned (.agg #[.slice (some ⟨g, 0, none⟩) 1 1]) ∧ AtomsO w' g 0 [⟨4, 0, s, 0⟩] ∧ Below w.heap.size w w' := by
  have HO := hide (fun w => one5_any ⟨4, 0, s, 0⟩ w)
  go_enter Try.func67, Try.ntmps67
  go_wp2_with fail
  have hq : Below w.heap.size w (w.alloc (.cells #[.slice none 0 0] 25)) := (Below.refl _ _).alloc (Nat.le_refl _) _
  refine (HO.out _).mono ?_
  rintro e w1 ⟨g, hg, rfl, ha, hb1⟩
  simp only [World.size_alloc] at hg
  have hn := cell_new w (.slice none 0 0) 25
  have hx : w1.cell? ⟨w.heap.size, 0, none⟩ = some (.slice none 0 0) := (hb1.cell (p := ⟨w.heap.size, 0, none⟩) (by simp)).trans hn.1
  have fx : w1.frozen? ⟨w.heap.size, 0, none⟩ = false := (hb1.frozen (p := ⟨w.heap.size, 0, none⟩) (by simp)).trans hn.2
  have hB := hq.trans (hb1.mono hq.size)
  clear hb1 hq hn
  go_wp2
  refine bodyPost_ret (v := .agg #[.slice (some ⟨g, 0, none⟩) 1 1]) (by simp [results, Try.results67, go_sem, hx]) rfl ⟨g, by omega, rfl, atomsO_set ha _ (by simp; omega) _, hB.setCell (p := ⟨w.heap.size, 0, none⟩) (Nat.le_refl _) _⟩
set_option maxHeartbeats 400000 in
theorem none5_any (w : World) : Calls Try.prog 64 #[] w fun e w' => ∃ g, w.heap.size ≤ g ∧ e = .returned (.agg #[.slice (some ⟨g, 0, none⟩) 1 1]) ∧ AtomsO w' g 0 [⟨1, 0, ⟨#[]⟩, 0⟩] ∧ Below w.heap.size w w' := by
  have HO := hide (fun w => one5_any ⟨1, 0, ⟨#[]⟩, 0⟩ w)
  go_enter Try.func64, Try.ntmps64
  go_wp2_with fail
  have hq : Below w.heap.size w (w.alloc (.cells #[.slice none 0 0] 25)) := (Below.refl _ _).alloc (Nat.le_refl _) _
  refine (HO.out _).mono ?_
  rintro e w1 ⟨g, hg, rfl, ha, hb1⟩
  simp only [World.size_alloc] at hg
  have hn := cell_new w (.slice none 0 0) 25
  have hx : w1.cell? ⟨w.heap.size, 0, none⟩ = some (.slice none 0 0) := (hb1.cell (p := ⟨w.heap.size, 0, none⟩) (by simp)).trans hn.1
  have fx : w1.frozen? ⟨w.heap.size, 0, none⟩ = false := (hb1.frozen (p := ⟨w.heap.size, 0, none⟩) (by simp)).trans hn.2
  have hB := hq.trans (hb1.mono hq.size)
  clear hb1 hq hn
  go_wp2
  refine bodyPost_ret (v := .agg #[.slice (some ⟨g, 0, none⟩) 1 1]) (by simp [results, Try.results64, go_sem, hx]) rfl ⟨g, by omega, rfl, atomsO_set ha _ (by simp; omega) _, hB.setCell (p := ⟨w.heap.size, 0, none⟩) (Nat.le_refl _) _⟩

/-- Values in a row, none of them in the reader's block. -/
def Kds (w : World) (rb : Nat) (vs : List Value) (ls : List (List At)) : Prop := vs.length = ls.length ∧ ∀ j (h : j < ls.length), ∃ g c, vs[j]? = some (.slice (some ⟨g, 0, none⟩) (ls[j]).length c) ∧ (ls[j]).length ≤ c ∧ g ≠ rb ∧ AtomsO w g 0 ls[j]
def CellsV (w : World) (p : Option Addr) (vs : List Value) : Prop := vs = [] ∨ ∃ g, p = some ⟨g, 0, none⟩ ∧ g < w.heap.size ∧ ∀ j u, vs[j]? = some u → w.cell? ⟨g, j, none⟩ = some u
def total (ls : List (List At)) : Nat := (ls.map List.length).sum
theorem Kds.below {w w' : World} {rb : Nat} {vs : List Value} {ls : List (List At)} (h : Kds w rb vs ls) (hb : Below w.heap.size w w') : Kds w' rb vs ls :=
  ⟨h.1, fun j hj => by obtain ⟨g, c, a, b, d, e⟩ := h.2 j hj; exact ⟨g, c, a, b, d, e.below hb⟩⟩
theorem CellsV.below {w w' : World} {p : Option Addr} {vs : List Value} (h : CellsV w p vs) (hb : Below w.heap.size w w') : CellsV w' p vs := by
  rcases h with h | ⟨g, h1, h2, h3⟩
  · exact .inl h
  · exact .inr ⟨g, h1, Nat.lt_of_lt_of_le h2 hb.size, fun j u hu => (hb.cell (p := ⟨g, j, none⟩) h2).trans (h3 j u hu)⟩

theorem row_form {w : World} {base : Nat} {e : TypeId} {size n : Nat} {v : Value} {xs : List Value} (h : w.ownsRow base e size v n xs) : ∃ p c, v = .slice p n c := by
  rcases h.2 with ⟨h1, h2⟩ | ⟨g, c, _, h1, _⟩
  · refine ⟨none, 0, ?_⟩
    first | (rw [h1, h2.1]; done) | (rw [h1, h2]; done) | (simp_all; done)
  · exact ⟨_, _, h1⟩
theorem cells_one (l : List At) : ∀ u ∈ cellsOf l, u.oneCell' = true := by
  intro u hu
  unfold cellsOf at hu
  obtain ⟨x, _, hx⟩ := List.mem_flatMap.1 hu
  simp [At.cells] at hx
  rcases hx with rfl | rfl | rfl | rfl <;> rfl
theorem cells_news {w : World} {g : Nat} {l : List At} (h : AtomsO w g 0 l) : ∀ j u, (cellsOf l)[j]? = some u → w.cell? ((⟨g, 0, none⟩ : Addr).add j) = some u := by
  intro j u hu
  rw [add_plain, Nat.zero_add]
  have hj : j < (cellsOf l).length := (List.getElem?_eq_some_iff.1 hu).1
  rw [cellsOf_len] at hj
  have hi : j / 4 < l.length := by omega
  obtain ⟨a0, a1, a2, a3⟩ := cellsOf_at l (j / 4) hi
  obtain ⟨b0, b1, b2, b3⟩ := h.2 (j / 4) hi
  simp only [Nat.zero_add] at b0 b1 b2 b3
  have h4 : j = j / 4 * 4 ∨ j = j / 4 * 4 + 1 ∨ j = j / 4 * 4 + 2 ∨ j = j / 4 * 4 + 3 := by omega
  rcases h4 with e | e | e | e
  · rw [e] at hu ⊢; rw [a0] at hu; rw [b0]; exact hu
  · rw [e] at hu ⊢; rw [a1] at hu; rw [b1]; exact hu
  · rw [e] at hu ⊢; rw [a2] at hu; rw [b2]; exact hu
  · rw [e] at hu ⊢; rw [a3] at hu; rw [b3]; exact hu
theorem cells_app (a b : List At) : cellsOf a ++ cellsOf b = cellsOf (a ++ b) := by unfold cellsOf; rw [List.flatMap_append]
theorem total_step (ls : List (List At)) (i : Nat) (h : i < ls.length) : total (ls.take (i + 1)) = total (ls.take i) + (ls[i]).length := by
  unfold total
  rw [List.take_succ_eq_append_getElem h, List.map_append, List.sum_append]
  simp
theorem total_le (ls : List (List At)) (i : Nat) : total (ls.take i) ≤ total ls := by
  unfold total
  conv => rhs; rw [← List.take_append_drop i ls]
  rw [List.map_append, List.sum_append]
  omega
theorem four_new (w : World) (a b d : Int) (c : ByteArray) (t : TypeId) : ∀ j u, (cellsOf [⟨a, b, c, d⟩])[j]? = some u → (w.alloc (.cells #[.int .i64 a, .int .i64 b, .string c, .int .i64 d] t)).cell? ((⟨w.heap.size, 0, none⟩ : Addr).add j) = some u := by
  intro j u h
  rw [add_plain, Nat.zero_add, World.cell?, heap_alloc_new]
  simpa [cellsOf, At.cells] using h
theorem row_posD {w : World} {base : Nat} {e : TypeId} {size n : Nat} {v : Value} {xs : List Value} (h : w.ownsRow base e size v n xs) (hn : 0 < n) : ∃ g c, v = .slice (some ⟨g, 0, none⟩) n c := by
  rcases h.2 with ⟨h1, h2⟩ | ⟨g, c, _, h1, _⟩
  · first | omega | (simp_all; done)
  · exact ⟨_, _, h1⟩
/-- l5Make's own boxes, in a later world. -/
structure MB (w : World) (v : Value) (acc : List At) (W : World) : Prop where
  B : Below w.heap.size w W
  r : W.cell? ⟨w.heap.size, 0, none⟩ = some (.slice none 0 0)
  rf : W.frozen? ⟨w.heap.size, 0, none⟩ = false
  o : W.cell? ⟨w.heap.size + 1, 0, none⟩ = some v
  of : W.frozen? ⟨w.heap.size + 1, 0, none⟩ = false
  row : W.ownsRow (w.heap.size + 1 + 1) 55 4 v acc.length (cellsOf acc)
  z : w.heap.size + 1 + 1 ≤ W.heap.size
theorem MB.start (w : World) : MB w (.slice none 0 0) [] ((w.alloc (.cells #[.slice none 0 0] 25)).alloc (.cells #[.slice none 0 0] 25)) := by
  have n1 := cell_new w (.slice none 0 0) 25
  have n2 := cell_new (w.alloc (.cells #[.slice none 0 0] 25)) (.slice none 0 0) 25
  have b2 : Below (w.heap.size + 1) (w.alloc (.cells #[.slice none 0 0] 25)) ((w.alloc (.cells #[.slice none 0 0] 25)).alloc (.cells #[.slice none 0 0] 25)) := (Below.refl _ _).alloc (by simp) _
  simp only [World.size_alloc] at n2
  exact ⟨((Below.refl _ _).alloc (Nat.le_refl _) _).alloc (by simp) _, (b2.cell (p := ⟨w.heap.size, 0, none⟩) (Nat.lt_succ_self _)).trans n1.1, (b2.frozen (p := ⟨w.heap.size, 0, none⟩) (Nat.lt_succ_self _)).trans n1.2, n2.1, n2.2, World.ownsRow_nil _ _ _ _, by simp⟩
/-- The row grown, and laid into its box again. -/
theorem MB.put {w W W' : World} {v v' : Value} {acc acc' : List At} {n : Nat} (h : MB w v acc W) (hg : W.grownBy W' v.ownBlock) (hn : n = acc'.length) (ho : W'.ownsRow (w.heap.size + 1 + 1) 55 4 v' n (cellsOf acc')) : W'.cell? ⟨w.heap.size + 1, 0, none⟩ = some v ∧ W'.frozen? ⟨w.heap.size + 1, 0, none⟩ = false ∧ MB w v' acc' (W'.setCell ⟨w.heap.size + 1, 0, none⟩ v') := by
  subst hn
  have hz := h.z
  have own : ∀ q, v.ownBlock = some q → w.heap.size + 1 + 1 ≤ q := fun q hq => (h.row.lt q hq).1
  have hb : Below (w.heap.size + 1 + 1) W W' := (Below.refl _ _).grown hg hz (fun q hq => own q hq)
  have k1 := (hb.cell (p := ⟨w.heap.size + 1, 0, none⟩) (Nat.lt_succ_self _)).trans h.o
  have k2 := (hb.frozen (p := ⟨w.heap.size + 1, 0, none⟩) (Nat.lt_succ_self _)).trans h.of
  have k3 := (hb.cell (p := ⟨w.heap.size, 0, none⟩) (by show w.heap.size < _; omega)).trans h.r
  have k4 := (hb.frozen (p := ⟨w.heap.size, 0, none⟩) (by show w.heap.size < _; omega)).trans h.rf
  have e : ∀ a : Addr, (⟨w.heap.size + 1, 0, none⟩ : Addr) ≠ a → (W'.setCell ⟨w.heap.size + 1, 0, none⟩ v').cell? a = W'.cell? a := fun a ha => World.cell?_setCell_other _ _ _ _ ha
  have hs : (W'.setCell ⟨w.heap.size + 1, 0, none⟩ v').heap.size = W'.heap.size := by simp
  refine ⟨k1, k2, (h.B.trans (hb.mono (by omega))).setCell (p := ⟨w.heap.size + 1, 0, none⟩) (by simp) _, (e _ (by simp)).trans k3, by simpa using k4, World.cell?_setCell_same _ _ _ k1, by simpa using k2, ?_, by rw [hs]; have := hb.size; omega⟩
  obtain ⟨p, c, rfl⟩ := row_form ho
  rcases ho.2 with hn | ⟨g', c', cur, hv, h2, h3, h4⟩
  · exact ⟨ho.1, .inl hn⟩
  · cases hv
    have hgl := (ho.lt g' rfl).1
    exact ⟨ho.1, .inr ⟨g', _, cur, rfl, h2, (Below.heap_setCell _ _ _ _ (show g' ≠ w.heap.size + 1 by omega)).trans h3, h4⟩⟩
theorem MB.same {w W W' : World} {v : Value} {acc : List At} (h : MB w v acc W) (hb : Below W.heap.size W W') : MB w v acc W' := by
  have hz := h.z
  exact ⟨h.B.trans (hb.mono h.B.size), (hb.cell (p := ⟨w.heap.size, 0, none⟩) (by show w.heap.size < _; omega)).trans h.r, (hb.frozen (p := ⟨w.heap.size, 0, none⟩) (by show w.heap.size < _; omega)).trans h.rf, (hb.cell (p := ⟨w.heap.size + 1, 0, none⟩) (by show w.heap.size + 1 < _; omega)).trans h.o, (hb.frozen (p := ⟨w.heap.size + 1, 0, none⟩) (by show w.heap.size + 1 < _; omega)).trans h.of, row_belowZ h.row hb, Nat.le_trans hz hb.size⟩

def MakePost (w : World) (n : Nat) (e : Ending) (w' : World) : Prop := ∃ g c l, e = .returned (.agg #[.slice (some ⟨g, 0, none⟩) l.length c]) ∧ l.length = n ∧ l.length ≤ c ∧ w.heap.size ≤ g ∧ AtomsO w' g 0 l ∧ Below w.heap.size w w'
set_option maxRecDepth 100000 in
set_option maxHeartbeats 4000000 in
theorem make5_any (kind : Int) (rb c : Nat) (p : Option Addr) (vs : List Value) (ls : List (List At)) (w : World) (hl : ls.length ≤ 1000) (ht : total ls ≤ 100000) (hk : Kds w rb vs ls) (hc : CellsV w p vs) :
    Calls Try.prog 65 #[.int .i64 kind, .slice p ls.length c] w fun e w' => MakePost w (total ls + 1) e w' := by
  obtain ⟨iN, hN, hNz, hNs, hNb⟩ := info_parts Try.infoAt
  have HK := hide hk
  have HC := hide hc
  clear hk hc
  have M0 := hide (MB.start w)
  go_enter Try.func65, Try.ntmps65
  go_wp2_with fail
  go_loopw [6] (fun t wr => ∃ (i : Nat) (v : Value) (acc : List At), i ≤ ls.length ∧ t = .int .i64 (i : Int) ∧ acc.length = total (ls.take i) ∧ MB w v acc wr) (fun t _ => ls.length - (intOf t).toNat)
  case atStart => exact ⟨0, _, [], Nat.zero_le _, rfl, rfl, M0.out⟩
  case round =>
    obtain ⟨i, v, acc, hi, rfl, hacc, hM⟩ := hrel
    obtain ⟨pv, cv, rfl⟩ := row_form hM.row
    have HM := hide hM
    have HA := hide hacc
    have o1 := hM.o
    have o2 := hM.of
    have hTL := total_le ls i
    clear hM hacc
    by_cases hlt : i < ls.length
    · obtain ⟨gi, ci, k1, k2, _, k4⟩ := (HK.out.below HM.out.B).2 i hlt
      have hTS := total_step ls i hlt
      have hTM := total_le ls (i + 1)
      have hcell : ∃ gk, p = some ⟨gk, 0, none⟩ ∧ wr.cell? ⟨gk, i, none⟩ = some (.slice (some ⟨gi, 0, none⟩) (ls[i]).length ci) := by
        rcases HC.out.below HM.out.B with h | ⟨gk, h1, _, h3⟩
        · rw [h] at k1; simp at k1
        · exact ⟨gk, h1, h3 i _ k1⟩
      obtain ⟨gk, rfl, kc⟩ := hcell
      have HGK : Hid (w.heap.size + 1 ≠ gk) := hide (by
        rcases HC.out with h | ⟨g', h1, h2, _⟩
        · have := HK.out.1; rw [h] at this; simp at this; omega
        · cases h1; omega)
      have HKP : Hid (∀ w5, wr.drew.grownBy w5 (Value.slice pv acc.length cv).ownBlock → w5.cell? ⟨gk, i, none⟩ = some (.slice (some ⟨gi, 0, none⟩) (ls[i]).length ci)) := hide (by
        intro w5 hg
        have hgk : gk < w.heap.size := by
          rcases HC.out with h | ⟨g', h1, h2, _⟩
          · have := HK.out.1; rw [h] at this; simp at this; omega
          · cases h1; exact h2
        have hzz := HM.out.z
        refine (World.cell?_of_block (a := ⟨gk, i, none⟩) (hg.block gk (by show gk < wr.heap.size; omega) ?_)).trans kc
        intro e
        have := (HM.out.row.lt gk e.symm).1
        omega)
      have H4 := hide k4
      have hz := HM.out.z
      have hal : acc.length ≤ 100000 := by have := HA.out; omega
      have hal2 : acc.length + (ls[i]).length ≤ 100000 := by have := HA.out; omega
      have HT2 : Hid (acc.length + (ls[i]).length = total (ls.take (i + 1))) := hide (by have := HA.out; omega)
      clear hTS hTM k1 k4
      generalize ls[i] = li at *
      go_wp2_with fail
      go_region_law ((refine step_append_own rfl (.tmp 15) (.tmp 20) 23 rfl (w.heap.size + 1 + 1) 55 iN _ 4 40 Try.underlying23 hN hNz hNs hNb rfl (by decide) (.slice pv acc.length cv) acc.length (cellsOf acc) (by simp [Act.eval]) HM.out.row.drew ⟨gi, 0, none⟩ li.length ci (cellsOf li) (by simp [Act.eval]) (cellsOf_len _) (cells_news H4.out) (cells_one _) (by unfold maxLen; omega) (by omega) hz ?_; intro v5 w5 h1 h2 h3 h4; rw [cells_app] at h1; obtain ⟨p5, c5, rfl⟩ := row_form h1; obtain ⟨q1, q2, q3⟩ := (HM.out.same (Below.refl _ _).drew).put h2 (List.length_append).symm h1; have q4 := HKP.out _ h2))
      all_goals
        have HQ := hide q3
        clear q3 h1 h2 h3 h4
        go_wp2
        go_roundw
        case rel => exact ⟨i + 1, _, acc ++ li, by omega, by go_num, by rw [List.length_append]; exact HT2.out, HQ.out⟩
        case measure => simp [intOf]; omega
    · have hz := HM.out.z
      have hie : i = ls.length := by omega
      have hal : acc.length = total ls := by have := HA.out; rw [hie, List.take_length] at this; exact this
      have HAL := hide hal
      have hal3 : acc.length ≤ 100000 := by omega
      clear hal hie hTL
      go_wp2_with (at_builtin; refine wpList_append_own_at _ rfl _ _ 23 rfl (w.heap.size + 1 + 1) 55 iN _ 4 40 Try.underlying23 hN hNz hNs hNb rfl (by decide) (.slice pv acc.length cv) acc.length (cellsOf acc) rfl (HM.out.row.alloc _) ⟨wr.heap.size, 0, none⟩ 1 1 (cellsOf [⟨kind, 0, ⟨#[]⟩, (ls.length : Int)⟩]) rfl rfl (four_new _ _ _ _ _ _) (cells_one _) (by unfold maxLen; omega) (by omega) (by simp; omega) ?_)
      intro v5 w5 h1 h2 h3 h4
      rw [cells_app] at h1
      obtain ⟨g5, c5, rfl⟩ := row_posD h1 (by omega)
      obtain ⟨q1, q2, q3⟩ := (HM.out.same ((Below.refl _ _).alloc (Nat.le_refl _) _)).put h2 (by simp) h1
      have q4 := q3.r
      have q5 := q3.rf
      have HQ := hide q3
      clear h1 h2 h3 h4 q3
      go_wp2
      have hgl := (HQ.out.row.lt g5 rfl).1
      refine bodyPost_ret (v := .agg #[.slice (some ⟨g5, 0, none⟩) (acc.length + 1) c5]) (by simp [results, Try.results65, go_sem, q4]) rfl ⟨g5, c5, acc ++ [⟨kind, 0, ⟨#[]⟩, (ls.length : Int)⟩], by simp, by simp [HAL.out], ?_, by omega, ?_, HQ.out.B.setCell (p := ⟨w.heap.size, 0, none⟩) (Nat.le_refl _) _⟩
      · have hr := HQ.out.row
        rcases hr.2 with ⟨h, _⟩ | ⟨_, _, _, h, _, _, hle, _⟩
        · cases h
        · have hc := h; simp only [Value.slice.injEq] at hc; rw [hc.2.2]; exact hle
      · have hr := HQ.out.row
        have he : acc.length + 1 = (acc ++ [(⟨kind, 0, ⟨#[]⟩, (ls.length : Int)⟩ : At)]).length := by simp
        rw [← he] at hr
        exact atomsO_set (atoms_of_row (l := acc ++ [(⟨kind, 0, ⟨#[]⟩, (ls.length : Int)⟩ : At)]) (cap := c5) (by rw [← he]; exact hr)) ⟨w.heap.size, 0, none⟩ (by show w.heap.size ≠ g5; omega) _
end Go.Proofs.Ytfpdoafpimaoaaa.Vl
