/- Walks: the program's readers of marks, of texts, of one token. -/
import Derived.Test.YtempkondijgdgaaDoorIb
namespace Go.Proofs.YtempkondijgdgaaDoor
open Go.RowKit

theorem Sc.mark_cases (l : List UInt8) : Sc.oneMark l = Sc.bad 2 ∨ ∃ m, Sc.oneMark l = ⟨0, 5, m, 0, m.length⟩ ∧ 1 ≤ m.length ∧ m <+: l := by
  unfold Sc.oneMark
  cases h : Sc.marks.find? (fun m => m.isPrefixOf l) with
  | none => exact .inl rfl
  | some m => exact .inr ⟨m, rfl, (Sc.marks_pos m (List.mem_of_find?_eq_some h)).1, List.isPrefixOf_iff_prefix.1 (by simpa using List.find?_some h)⟩

set_option maxRecDepth 100000 in
set_option maxHeartbeats 1000000 in
theorem readMark_any (s : ByteArray) (w : World) (hs : s.size ≤ 1048576) (h0 : 0 < s.size) :
    Calls Tryd.prog 34 #[.string s] w fun e w' => e = .returned (implOut (Sc.oneMark s.data.toList)) ∧ Below w.heap.size w w' := by
  have hM := fun w => markSize_any s w h0
  rcases Sc.mark_cases s.data.toList with hb | ⟨m, hm, h1, hp⟩
  · have HB := hide hb
    rw [hb] at hM
    have hM : ∀ w, Calls Tryd.prog 40 #[.string s] w fun e w' => e = .returned (.int .i64 0) ∧ w' = w := hM
    have HM := hide hM
    clear hM hb
    go_enter Tryd.func34, Tryd.ntmps34
    go_wp2_with (go_at_call 40; refine (HM.out _).mono ?_; rintro e w' ⟨rfl, rfl⟩)
    refine bodyPost_ret (v := .tuple #[.agg #[.int .i64 0, .string ⟨#[]⟩, .int .i64 0, .int .i64 0], .int .i64 0, .int .i64 2]) (by simp [results, Tryd.results34, go_sem]) rfl ⟨by rw [implOut_bad HB.out (by decide)]; rfl, ?_⟩
    exact (Below.refl _ _).alloc (Nat.le_refl _) _
  · have HB := hide hm
    rw [hm] at hM
    have hM : ∀ w, Calls Tryd.prog 40 #[.string s] w fun e w' => e = .returned (.int .i64 m.length) ∧ w' = w := hM
    have HM := hide hM
    have hx : (s.extract 0 m.length).data.toList = m := by
      rw [Lib.extract_data, Nat.sub_zero, List.drop_zero]; exact (List.prefix_iff_eq_take.1 hp).symm
    have HX := hide hx
    have hle : m.length ≤ s.size := by have := hp.length_le; simpa using this
    have hne : ((m.length : Int) == 0) = false := by rw [beq_eq_false_iff_ne]; omega
    clear hM hm hp hx
    go_enter Tryd.func34, Tryd.ntmps34
    go_wp2_with (first | (go_at_call 40; refine (HM.out _).mono ?_; rintro e w' ⟨rfl, rfl⟩) | (go_at_call 38; refine (newToken_any 5 _ _ ?_).mono ?_))
    · simp; omega
    · rintro e w1 ⟨rfl, hb⟩
      obtain ⟨hc, hf⟩ := bcell hb
      have hb0 : Below w.heap.size w w1 := ((Below.refl _ _).alloc (Nat.le_refl _) _).trans (hb.mono (by simp))
      go_wp2
      refine bodyPost_ret (v := .tuple #[.agg #[.int .i64 5, .string (s.extract 0 m.length), .int .i64 0, .int .i64 0], .int .i64 m.length, .int .i64 0]) (by simp [results, Tryd.results34, go_sem, hc]) rfl ⟨by rw [implOut_good HB.out, ext_mk HX.out]; rfl, ?_⟩
      exact below4 hb0 (Nat.le_refl _)

abbrev O33 : Obj := .cells #[.int .i64 0, .string ⟨#[]⟩, .int .i64 0, .int .i64 0] 33
theorem box4 {w wr : World} (h : Below (w.heap.size + 1) (w.alloc O33) wr) :
    (wr.cell? ⟨w.heap.size, 0, none⟩ = some (.int .i64 0) ∧ wr.cell? ⟨w.heap.size, 1, none⟩ = some (.string ⟨#[]⟩) ∧ wr.cell? ⟨w.heap.size, 2, none⟩ = some (.int .i64 0) ∧ wr.cell? ⟨w.heap.size, 3, none⟩ = some (.int .i64 0)) ∧
    (wr.frozen? ⟨w.heap.size, 0, none⟩ = false ∧ wr.frozen? ⟨w.heap.size, 1, none⟩ = false ∧ wr.frozen? ⟨w.heap.size, 2, none⟩ = false ∧ wr.frozen? ⟨w.heap.size, 3, none⟩ = false) := by
  have hb := (h.block w.heap.size (Nat.lt_succ_self _)).trans (heap_alloc_new' w O33)
  simp only [World.cell?, World.frozen?, hb]
  simp
theorem app_stepG {B : Nat} {w wr w1 : World} {t : List UInt8} {c : UInt8} {v v' : Value} {o : Obj} (hown : wr.ownsRow B 5 1 v t.length (Sc.bytesOf t)) (hB : Below B w wr) (hs : B ≤ wr.heap.size)
    (hown' : w1.ownsRow B 5 1 v' (t.length + 1) (Sc.bytesOf t ++ [.int .u8 c.toNat])) (hg : (wr.alloc o).grownBy w1 v.ownBlock) :
    w1.ownsRow B 5 1 v' (t ++ [c]).length (Sc.bytesOf (t ++ [c])) ∧ Below B w w1 ∧ B ≤ w1.heap.size := by
  refine ⟨by rw [Sc.bytesOf_snoc, List.length_append]; exact hown', (hB.alloc hs _).grown hg (by simp; omega) (fun k e => (hown.lt k e).1), ?_⟩
  have := hg.size; simp at this; omega
/-- A row of bytes: nil, or written out. -/
theorem row_cases {w : World} {B n : Nat} {v : Value} {xs : List Value} (h : w.ownsRow B 5 1 v n xs) : (v = .slice none 0 0 ∧ n = 0) ∨ ∃ g cap, v = .slice (some ⟨g, 0, none⟩) n cap := by
  rcases h.2 with h | ⟨g, cap, _, hv, _⟩
  · exact .inl h
  · exact .inr ⟨g, cap, hv⟩
theorem conv_nil (w : World) : (convert 52 9 (.slice none 0 0)).run Tryd.prog w = .ok (.string ⟨#[]⟩) w :=
  run_convert_bytes_nil (P := Tryd.prog) w 52 5 Tryd.underlying52 Tryd.underlying5 0 0 9 Tryd.underlying9

theorem Sc.hex_at (s : ByteArray) (j : Nat) (h : j + 2 < s.size) : hexOut ((s.extract (j + 1) s.size).data.toList) = if Sc.hexv s[j + 1] < 0 ∨ Sc.hexv s[j + 2] < 0 then .tuple #[.int .u8 0, .bool false] else .tuple #[.int .u8 (Sc.hexv s[j + 1] * (16 : Int) + Sc.hexv s[j + 2]), .bool true] := by
  have e : (s.extract (j + 1) s.size).data.toList = s[j + 1] :: s[j + 2] :: s.data.toList.drop (j + 3) := by
    rw [Lib.extract_data, List.take_of_length_le (by simp), Sc.drop_cons s (j + 1) (by omega), Sc.drop_cons s (j + 2) (by omega)]
  rw [e]; rfl
theorem Sc.hex_short (s : ByteArray) (j : Nat) (h : s.size ≤ j + 2) : hexOut ((s.extract (j + 1) s.size).data.toList) = .tuple #[.int .u8 0, .bool false] := by
  have e : ((s.extract (j + 1) s.size).data.toList).length < 2 := by simp; omega
  match hl : (s.extract (j + 1) s.size).data.toList, e with
  | [], _ => rfl
  | [_], _ => rfl

set_option maxRecDepth 100000 in
set_option maxHeartbeats 2000000 in
theorem readText_any (s : ByteArray) (w : World) (hs : s.size ≤ 1048576) (h0 : 0 < s.size) :
    Calls Tryd.prog 33 #[.string s] w fun e w' => e = .returned (implOut (Sc.oneText s.data.toList)) ∧ Below w.heap.size w w' := by
  obtain ⟨i0, hi, hz0, hz1, hz2⟩ := info_parts Tryd.info5
  have htl : s.data.toList.tail = s.data.toList.drop 1 := by simp
  have ho : Sc.oneText s.data.toList = match Sc.unq (s.data.toList.drop 1) with
    | none => Sc.bad 4
    | some p => if 1000 < p.1.length then Sc.bad 5 else ⟨0, 4, p.1, 0, p.2 + 1⟩ := by unfold Sc.oneText; rw [htl]; rfl
  have HO := hide ho
  have hC := fun j => hexByte_any (s.extract (j + 1) s.size)
  have HC0 := hide hC
  clear htl ho hC
  go_enter Tryd.func33, Tryd.ntmps33
  go_wp2
  go_loopw [5, 6] (fun v i wr => ∃ (j : Nat) (t : List UInt8), 1 ≤ j ∧ j ≤ s.size ∧ i = .int .i64 j ∧ wr.ownsRow (w.heap.size + 1) 5 1 v t.length (Sc.bytesOf t) ∧ Below (w.heap.size + 1) (w.alloc O33) wr ∧ w.heap.size + 1 ≤ wr.heap.size ∧ t.length ≤ j ∧
      Sc.unq (s.data.toList.drop 1) = (Sc.unq (s.data.toList.drop j)).map fun p => (t ++ p.1, p.2 + (j - 1))) (fun _ i _ => s.size - (intOf i).toNat)
  case atStart =>
    exact ⟨1, [], Nat.le_refl _, h0, rfl, World.ownsRow_nil _ _ _ _, Below.refl _ _, by simp, Nat.zero_le _, by simp⟩
  case round =>
    obtain ⟨j, t, hj1, hj, rfl, hown, hB, hsz, htl, he⟩ := hrel
    have HE := hide he
    clear he
    obtain ⟨⟨c0, c1, c2, c3⟩, f0, f1, f2, f3⟩ := box4 hB
    have hBw : Below w.heap.size w wr := ((Below.refl _ _).alloc (Nat.le_refl _) _).trans (hB.mono (by omega))
    have HBW := hide hBw
    clear hBw
    by_cases hlt : j < s.size
    · have hd := hide (Sc.drop_cons s j hlt)
      cases h34 : ((s[j].toNat : Int) == 34)
      · have H34 : Hid (s[j].toNat ≠ 34) := by simp at h34; exact hide (by omega)
        cases h92 : ((s[j].toNat : Int) == 92)
        · have H92 : Hid (s[j].toNat ≠ 92) := by simp at h92; exact hide (by omega)
          by_cases hlo : (s[j].toNat : Int) < 32
          · have HB : Hid (Sc.oneText s.data.toList = Sc.bad 4) := hide (by rw [HO.out, HE.out, hd.out, Sc.unq_out _ H34.out H92.out (.inl (by omega))]; rfl)
            go_wp2
            refine bodyPost_ret (v := .tuple #[.agg #[.int .i64 0, .string ⟨#[]⟩, .int .i64 0, .int .i64 0], .int .i64 0, .int .i64 4]) (by simp [results, Tryd.results33, go_sem, c0, c1, c2, c3]) rfl ⟨by rw [implOut_bad HB.out (by decide)]; rfl, ?_⟩
            exact below4 HBW.out (Nat.le_refl _)
          · by_cases hhi : 126 < (s[j].toNat : Int)
            · have HB : Hid (Sc.oneText s.data.toList = Sc.bad 4) := hide (by rw [HO.out, HE.out, hd.out, Sc.unq_out _ H34.out H92.out (.inr (by omega))]; rfl)
              go_wp2
              refine bodyPost_ret (v := .tuple #[.agg #[.int .i64 0, .string ⟨#[]⟩, .int .i64 0, .int .i64 0], .int .i64 0, .int .i64 4]) (by simp [results, Tryd.results33, go_sem, c0, c1, c2, c3]) rfl ⟨by rw [implOut_bad HB.out (by decide)]; rfl, ?_⟩
              exact below4 HBW.out (Nat.le_refl _)
            · go_wp2_with (first | (at_builtin; refine wpList_append_own _ rfl _ _ 52 rfl (w.heap.size + 1) 5 i0 (.int .u8 0) 1 1 Tryd.underlying52 hi hz0 hz1 hz2 rfl (by decide) _ _ _ rfl (hown.alloc _) ⟨wr.heap.size, 0, none⟩ 1 1 [.int .u8 s[j].toNat] rfl rfl (cell_one_new _ _ _) (by simp [Value.oneCell']) ?_ ?_ ?_ ?_))
              · unfold maxLen; omega
              · omega
              · first | omega | (simp; omega)
              · intro v' w1 hown' hgrow _
                obtain ⟨ho2, hb2, hs2⟩ := app_stepG hown hB hsz hown' hgrow
                clear hown' hgrow hown c0 c1 c2 c3 f0 f1 f2 f3
                go_wp2
                go_roundw
                case rel =>
                  refine ⟨j + 1, t ++ [s[j]], by omega, by omega, by go_num, ho2, hb2, hs2, by simp; omega, ?_⟩
                  rw [HE.out, hd.out, Sc.unq_in _ H34.out H92.out (by omega), Option.map_map]
                  congr 1; funext p; simp; omega
                case measure => simp [intOf]; omega
        · have H92 : Hid (s[j].toNat = 92) := by simp at h92; exact hide (by omega)
          by_cases h2 : s.size ≤ j + 2
          · have HB : Hid (Sc.oneText s.data.toList = Sc.bad 4) := hide (by rw [HO.out, HE.out, hd.out, Sc.unq_92s _ H92.out (by simp; omega)]; rfl)
            have hC := HC0.out j
            rw [Sc.hex_short s j h2] at hC
            have HC := hide (fun w => hC w (by simp; omega))
            clear hC
            go_wp2_with (go_at_call 39; refine (HC.out _).mono ?_; rintro e w' ⟨rfl, rfl⟩)
            refine bodyPost_ret (v := .tuple #[.agg #[.int .i64 0, .string ⟨#[]⟩, .int .i64 0, .int .i64 0], .int .i64 0, .int .i64 4]) (by simp [results, Tryd.results33, go_sem, c0, c1, c2, c3]) rfl ⟨by rw [implOut_bad HB.out (by decide)]; rfl, ?_⟩
            exact below4 HBW.out (Nat.le_refl _)
          · have hd2 := hide (show s.data.toList.drop j = s[j] :: s[j + 1] :: s[j + 2] :: s.data.toList.drop (j + 3) by rw [Sc.drop_cons s j hlt, Sc.drop_cons s (j + 1) (by omega), Sc.drop_cons s (j + 2) (by omega)])
            have hC := HC0.out j
            rw [Sc.hex_at s j (by omega)] at hC
            obtain ⟨hx1a, hx1b⟩ := Sc.hexv_le s[j + 1]
            obtain ⟨hx2a, hx2b⟩ := Sc.hexv_le s[j + 2]
            by_cases hn : Sc.hexv s[j + 1] < 0 ∨ Sc.hexv s[j + 2] < 0
            · have HB : Hid (Sc.oneText s.data.toList = Sc.bad 4) := hide (by rw [HO.out, HE.out, hd2.out, Sc.unq_92n _ H92.out hn]; rfl)
              rw [if_pos hn] at hC
              have HC := hide (fun w => hC w (by simp; omega))
              clear hC hn
              go_wp2_with (go_at_call 39; refine (HC.out _).mono ?_; rintro e w' ⟨rfl, rfl⟩)
              refine bodyPost_ret (v := .tuple #[.agg #[.int .i64 0, .string ⟨#[]⟩, .int .i64 0, .int .i64 0], .int .i64 0, .int .i64 4]) (by simp [results, Tryd.results33, go_sem, c0, c1, c2, c3]) rfl ⟨by rw [implOut_bad HB.out (by decide)]; rfl, ?_⟩
              exact below4 HBW.out (Nat.le_refl _)
            · rw [if_neg hn] at hC
              have HC := hide (fun w => hC w (by simp; omega))
              have HU := hide (Sc.unq_92 (s.data.toList.drop (j + 3)) H92.out (x := s[j + 1]) (y := s[j + 2]) (by omega) (by omega))
              have hy1 : 0 ≤ Sc.hexv s[j + 1] := by omega
              have hy2 : 0 ≤ Sc.hexv s[j + 2] := by omega
              clear hC hn hx1a hx2a
              go_wp2_with (first | (go_at_call 39; refine (HC.out _).mono ?_; rintro e w' ⟨rfl, hww⟩; rw [hww]; clear hww) | (at_builtin; refine wpList_append_own _ rfl _ _ 52 rfl (w.heap.size + 1) 5 i0 (.int .u8 0) 1 1 Tryd.underlying52 hi hz0 hz1 hz2 rfl (by decide) _ _ _ rfl (hown.alloc _) ⟨wr.heap.size, 0, none⟩ 1 1 [.int .u8 (Sc.hexv s[j + 1] * (16 : Int) + Sc.hexv s[j + 2])] rfl rfl (cell_one_new _ _ _) (by simp [Value.oneCell']) ?_ ?_ ?_ ?_))
              · unfold maxLen; omega
              · omega
              · first | omega | (simp; omega)
              · intro v' w1 hown' hgrow _
                rw [show Sc.hexv s[j + 1] * (16 : Int) + Sc.hexv s[j + 2] = 16 * Sc.hexv s[j + 1] + Sc.hexv s[j + 2] from by omega, ← hexb hy1 hx1b hy2 hx2b] at hown'
                obtain ⟨ho2, hb2, hs2⟩ := app_stepG hown hB hsz hown' hgrow
                clear hown' hgrow hown c0 c1 c2 c3 f0 f1 f2 f3
                go_wp2
                go_roundw
                case rel =>
                  refine ⟨j + 3, _, by omega, by omega, by go_num, ho2, hb2, hs2, by simp; omega, ?_⟩
                  rw [HE.out, hd2.out, HU.out, Option.map_map]
                  congr 1; funext p; simp; omega
                case measure => simp [intOf]; omega
      · have HU : Hid (Sc.unq (s.data.toList.drop 1) = some (t, j)) := hide (by rw [HE.out, hd.out, Sc.unq_34 _ (by simp at h34; omega)]; simp; omega)
        by_cases hl : 1000 < t.length
        · have HB : Hid (Sc.oneText s.data.toList = Sc.bad 5) := hide (by rw [HO.out, HU.out]; simp only; rw [if_pos hl])
          rcases row_cases hown with ⟨hv, hn⟩ | ⟨g, cap, hv⟩
          · omega
          · rw [hv]
            rw [hv] at hown
            clear hv
            go_wp2
            refine bodyPost_ret (v := .tuple #[.agg #[.int .i64 0, .string ⟨#[]⟩, .int .i64 0, .int .i64 0], .int .i64 0, .int .i64 5]) (by simp [results, Tryd.results33, go_sem, c0, c1, c2, c3]) rfl ⟨by rw [implOut_bad HB.out (by decide)]; rfl, ?_⟩
            exact below4 HBW.out (Nat.le_refl _)
        · have HB : Hid (Sc.oneText s.data.toList = ⟨0, 4, t, 0, j + 1⟩) := hide (by rw [HO.out, HU.out]; simp only; rw [if_neg hl])
          rcases row_cases hown with ⟨hv, hn⟩ | ⟨g, cap, hv⟩
          · have ht : t = [] := List.eq_nil_of_length_eq_zero hn
            subst ht
            rw [hv]
            have hcv := conv_nil wr
            clear hv hn hl hown
            go_wp2
            refine bodyPost_ret (v := .tuple #[.agg #[.int .i64 4, .string ⟨#[]⟩, .int .i64 0, .int .i64 0], .int .i64 ((j : Int) + 1), .int .i64 0]) (by simp [results, Tryd.results33, go_sem, c0, c1, c2, c3]) rfl ⟨by rw [implOut_good HB.out]; rfl, ?_⟩
            exact below4 HBW.out (Nat.le_refl _)
          · rw [hv]
            rw [hv] at hown
            have hcv := conv_own hown
            clear hv
            go_wp2
            refine bodyPost_ret (v := .tuple #[.agg #[.int .i64 4, .string ⟨t.toArray⟩, .int .i64 0, .int .i64 0], .int .i64 ((j : Int) + 1), .int .i64 0]) (by simp [results, Tryd.results33, go_sem, c0, c1, c2, c3]) rfl ⟨by rw [implOut_good HB.out]; rfl, ?_⟩
            exact below4 HBW.out (Nat.le_refl _)
    · have HB : Hid (Sc.oneText s.data.toList = Sc.bad 4) := hide (by rw [HO.out, HE.out, List.drop_of_length_le (i := j) (by simp; omega)]; rfl)
      go_wp2
      refine bodyPost_ret (v := .tuple #[.agg #[.int .i64 0, .string ⟨#[]⟩, .int .i64 0, .int .i64 0], .int .i64 0, .int .i64 4]) (by simp [results, Tryd.results33, go_sem, c0, c1, c2, c3]) rfl ⟨by rw [implOut_bad HB.out (by decide)]; rfl, ?_⟩
      exact below4 HBW.out (Nat.le_refl _)

theorem implOut_shape (r : Sc.R) : ∃ (kd : Int) (tx : ByteArray) (n en cd : Int), implOut r = .tuple #[.agg #[.int .i64 kd, .string tx, .int .i64 n, .int .i64 0], .int .i64 en, .int .i64 cd] := by
  unfold implOut; split <;> exact ⟨_, _, _, _, _, rfl⟩

set_option maxRecDepth 100000 in
set_option maxHeartbeats 1000000 in
theorem readToken_any (s : ByteArray) (b : Nat) (w : World) (hs : s.size ≤ 1048576) (h0 : 0 < s.size) (hG : Glob w) (hm : w.ownsMap (H := Unit) Tryd.prog 9 unitElem b 17 Sc.wordMap) :
    Calls Tryd.prog 26 #[.string s, .map (some b)] w fun e w' => e = .returned (implOut (Sc.one s.data.toList)) ∧ Below w.heap.size w w' := by
  have hG1 : Glob (w.alloc O33) := hG.below ((Below.refl _ _).alloc (Nat.le_refl _) _) hG.2.2
  have hm1 := hm.alloc O33
  obtain ⟨kd, tx, n, en, cd, heq⟩ := implOut_shape (Sc.one s.data.toList)
  cases hd : Sc.dig s[0]
  · have hnb : Sc.nm s[0] = Sc.beg s[0] := by simp [Sc.nm, hd]
    cases hb : Sc.beg s[0]
    · rw [hb] at hnb
      cases hq : ((s[0].toNat : Int) == 34)
      · have h1 : Sc.one s.data.toList = Sc.oneMark s.data.toList := by simpa using Sc.one_mark s 0 h0 hd hb (by simp at hq; omega)
        have hR := readMark_any s (w.alloc O33) hs h0
        rw [h1] at heq ⊢
        rw [heq] at hR ⊢
        have HR := hide hR
        clear hR heq h1 hG1 hm1
        go_enter Tryd.func26, Tryd.ntmps26
        go_wp2_with (first | (go_at_call 29; refine (idigit_any _ _).mono ?_; rintro e w' ⟨rfl, rfl⟩) | (go_at_call 31; refine (iname_any _ _).mono ?_; rintro e w' ⟨rfl, rfl⟩) | (go_at_call 34; refine HR.out.mono ?_; rintro e w1 ⟨rfl, hb⟩; obtain ⟨hc, hf⟩ := bcell hb))
        have hb0 : Below w.heap.size w w1 := ((Below.refl _ _).alloc (Nat.le_refl _) _).trans (hb.mono (by simp))
        refine bodyPost_ret (v := .tuple #[.agg #[.int .i64 kd, .string tx, .int .i64 n, .int .i64 0], .int .i64 en, .int .i64 cd]) (by simp [results, Tryd.results26, go_sem, hc]) rfl ⟨rfl, ?_⟩
        exact below4 hb0 (Nat.le_refl _)
      · have h1 : Sc.one s.data.toList = Sc.oneText s.data.toList := by simpa using Sc.one_text s 0 h0 hd hb (by simp at hq; omega)
        have hR := readText_any s (w.alloc O33) hs h0
        rw [h1] at heq ⊢
        rw [heq] at hR ⊢
        have HR := hide hR
        clear hR heq h1 hG1 hm1
        go_enter Tryd.func26, Tryd.ntmps26
        go_wp2_with (first | (go_at_call 29; refine (idigit_any _ _).mono ?_; rintro e w' ⟨rfl, rfl⟩) | (go_at_call 31; refine (iname_any _ _).mono ?_; rintro e w' ⟨rfl, rfl⟩) | (go_at_call 33; refine HR.out.mono ?_; rintro e w1 ⟨rfl, hb⟩; obtain ⟨hc, hf⟩ := bcell hb))
        have hb0 : Below w.heap.size w w1 := ((Below.refl _ _).alloc (Nat.le_refl _) _).trans (hb.mono (by simp))
        refine bodyPost_ret (v := .tuple #[.agg #[.int .i64 kd, .string tx, .int .i64 n, .int .i64 0], .int .i64 en, .int .i64 cd]) (by simp [results, Tryd.results26, go_sem, hc]) rfl ⟨rfl, ?_⟩
        exact below4 hb0 (Nat.le_refl _)
    · rw [hb] at hnb
      have h1 : Sc.one s.data.toList = Sc.oneName s.data.toList := by simpa using Sc.one_name s 0 h0 hd hb
      have hR := readName_any s b (w.alloc O33) hs hm1
      rw [h1] at heq ⊢
      rw [heq] at hR ⊢
      have HR := hide hR
      clear hR heq h1 hG1 hm1
      go_enter Tryd.func26, Tryd.ntmps26
      go_wp2_with (first | (go_at_call 29; refine (idigit_any _ _).mono ?_; rintro e w' ⟨rfl, rfl⟩) | (go_at_call 31; refine (iname_any _ _).mono ?_; rintro e w' ⟨rfl, rfl⟩) | (go_at_call 32; refine HR.out.mono ?_; rintro e w1 ⟨rfl, hb⟩; obtain ⟨hc, hf⟩ := bcell hb))
      have hb0 : Below w.heap.size w w1 := ((Below.refl _ _).alloc (Nat.le_refl _) _).trans (hb.mono (by simp))
      refine bodyPost_ret (v := .tuple #[.agg #[.int .i64 kd, .string tx, .int .i64 n, .int .i64 0], .int .i64 en, .int .i64 cd]) (by simp [results, Tryd.results26, go_sem, hc]) rfl ⟨rfl, ?_⟩
      exact below4 hb0 (Nat.le_refl _)
  · have h1 : Sc.one s.data.toList = Sc.oneNum s.data.toList := by simpa using Sc.one_num s 0 h0 hd
    have hR := readNumber_any s (w.alloc O33) hs h0 hd hG1
    rw [h1] at heq ⊢
    rw [heq] at hR ⊢
    have HR := hide hR
    clear hR heq h1 hG1 hm1
    go_enter Tryd.func26, Tryd.ntmps26
    go_wp2_with (first | (go_at_call 29; refine (idigit_any _ _).mono ?_; rintro e w' ⟨rfl, rfl⟩) | (go_at_call 31; refine (iname_any _ _).mono ?_; rintro e w' ⟨rfl, rfl⟩) | (go_at_call 30; refine HR.out.mono ?_; rintro e w1 ⟨rfl, hb⟩; obtain ⟨hc, hf⟩ := bcell hb))
    have hb0 : Below w.heap.size w w1 := ((Below.refl _ _).alloc (Nat.le_refl _) _).trans (hb.mono (by simp))
    refine bodyPost_ret (v := .tuple #[.agg #[.int .i64 kd, .string tx, .int .i64 n, .int .i64 0], .int .i64 en, .int .i64 cd]) (by simp [results, Tryd.results26, go_sem, hc]) rfl ⟨rfl, ?_⟩
    exact below4 hb0 (Nat.le_refl _)
end Go.Proofs.YtempkondijgdgaaDoor
