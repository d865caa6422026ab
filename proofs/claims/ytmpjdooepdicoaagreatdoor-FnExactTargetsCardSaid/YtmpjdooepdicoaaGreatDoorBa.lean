/- Targets, the program's side: a datum read as a text, as a list of texts. -/
import Derived.Test.YtmpjdooepdicoaaGreatDoorYg
import Derived.Test.YtmpjdooepdicoaaGreatDoorQn
namespace Go.Proofs.YtmpjdooepdicoaaGreatDoor.Vl
open Go.RowKit T.atoms T.ok T.high T.good T.allPlain DatAt

theorem ret_tb {v : Value} {b c : Bool} (h : b = c) : Ending.returned (.tuple #[v, .bool b]) = .returned (.tuple #[v, .bool c]) := by rw [h]
theorem dat_text {w : World} {x : Nat} {t : T} {v : Value} (h : DatAt w x t v) : (t.kind = 4 ∧ v = .iface 189 (.string t.text)) ∨ (t.kind ≠ 4 ∧ ∃ y u, v = .iface y u ∧ ¬ y = 189) := by
  obtain ⟨k, n, s, ks⟩ := t
  unfold DatAt at h
  rcases h with ⟨rfl, rfl⟩ | ⟨rfl, rfl⟩ | ⟨rfl, rfl⟩ | ⟨rfl, rfl⟩ | ⟨rfl, p, c, vs, rfl, _⟩ | ⟨rfl, p, c, m, vs, _, rfl, _⟩
  · exact .inr ⟨by simp [T.kind], _, _, rfl, by decide⟩
  · exact .inr ⟨by simp [T.kind], _, _, rfl, by decide⟩
  · exact .inr ⟨by simp [T.kind], _, _, rfl, by decide⟩
  · exact .inl ⟨rfl, rfl⟩
  · exact .inr ⟨by simp [T.kind], _, _, rfl, by decide⟩
  · exact .inr ⟨by simp [T.kind], _, _, rfl, by decide⟩
theorem dat_list {w : World} {x : Nat} {t : T} {v : Value} (h : DatAt w x t v) : (t.kind = 5 ∧ ∃ p c vs a d, v = .iface 192 (.agg #[.slice p t.ks.length c, .int .i64 a, .int .i64 d]) ∧ DatL w x t.ks vs ∧ RowAt w x p vs) ∨ (t.kind ≠ 5 ∧ ∃ y u, v = .iface y u ∧ ¬ y = 192) := by
  obtain ⟨k, n, s, ks⟩ := t
  unfold DatAt at h
  rcases h with ⟨rfl, rfl⟩ | ⟨rfl, rfl⟩ | ⟨rfl, rfl⟩ | ⟨rfl, rfl⟩ | ⟨rfl, p, c, vs, rfl, _, h1, h2⟩ | ⟨rfl, p, c, m, vs, _, rfl, _⟩
  · exact .inr ⟨by simp [T.kind], _, _, rfl, by decide⟩
  · exact .inr ⟨by simp [T.kind], _, _, rfl, by decide⟩
  · exact .inr ⟨by simp [T.kind], _, _, rfl, by decide⟩
  · exact .inr ⟨by simp [T.kind], _, _, rfl, by decide⟩
  · exact .inl ⟨rfl, p, c, vs, _, _, rfl, h1, h2⟩
  · exact .inr ⟨by simp [T.kind], _, _, rfl, by decide⟩
theorem dat_rec {w : World} {x : Nat} {t : T} {v : Value} (h : DatAt w x t v) : (t.kind = 6 ∧ ∃ p c m vs a d, t.ks.length = 2 * m ∧ v = .iface 164 (.agg #[.slice p m c, .int .i64 a, .int .i64 d]) ∧ FldL w x t.ks vs ∧ RowAt w x p vs) ∨ (t.kind ≠ 6 ∧ ∃ y u, v = .iface y u ∧ ¬ y = 164) := by
  obtain ⟨k, n, s, ks⟩ := t
  unfold DatAt at h
  rcases h with ⟨rfl, rfl⟩ | ⟨rfl, rfl⟩ | ⟨rfl, rfl⟩ | ⟨rfl, rfl⟩ | ⟨rfl, p, c, vs, rfl, _⟩ | ⟨rfl, p, c, m, vs, h0, rfl, _, h1, h2⟩
  · exact .inr ⟨by simp [T.kind], _, _, rfl, by decide⟩
  · exact .inr ⟨by simp [T.kind], _, _, rfl, by decide⟩
  · exact .inr ⟨by simp [T.kind], _, _, rfl, by decide⟩
  · exact .inr ⟨by simp [T.kind], _, _, rfl, by decide⟩
  · exact .inr ⟨by simp [T.kind], _, _, rfl, by decide⟩
  · exact .inl ⟨rfl, p, c, m, vs, _, _, h0, rfl, h1, h2⟩
theorem ta_list_yes (p : Option Addr) (n c : Nat) (a d : Int) (w : World) : (Instr.typeAssert (.iface 192 (.agg #[.slice p n c, .int .i64 a, .int .i64 d])) 121 192 true).run Tryz.prog w = .ok (.tuple #[.agg #[.slice p n c, .int .i64 a, .int .i64 d], .bool true]) w := by kernel_rfl
theorem zero_list (w : World) : (zeroValue 192).run Tryz.prog w = .ok (.agg #[.slice none 0 0, .int .i64 0, .int .i64 0]) w := by kernel_rfl
theorem ta_list_no (t : TypeId) (v : Value) (w : World) (h : ¬ t = 192) : (Instr.typeAssert (.iface t v) 121 192 true).run Tryz.prog w = .ok (.tuple #[.agg #[.slice none 0 0, .int .i64 0, .int .i64 0], .bool false]) w := by
  unfold Instr.typeAssert
  simp only [Sem.run_bind, run_underlying Tryz.underlying192, Result.andThen_ok, if_neg h, if_true, zero_list]
  rfl
theorem ta_rec_yes (p : Option Addr) (n c : Nat) (a d : Int) (w : World) : (Instr.typeAssert (.iface 164 (.agg #[.slice p n c, .int .i64 a, .int .i64 d])) 121 164 true).run Tryz.prog w = .ok (.tuple #[.agg #[.slice p n c, .int .i64 a, .int .i64 d], .bool true]) w := by kernel_rfl
theorem zero_rec (w : World) : (zeroValue 164).run Tryz.prog w = .ok (.agg #[.slice none 0 0, .int .i64 0, .int .i64 0]) w := by kernel_rfl
theorem ta_rec_no (t : TypeId) (v : Value) (w : World) (h : ¬ t = 164) : (Instr.typeAssert (.iface t v) 121 164 true).run Tryz.prog w = .ok (.tuple #[.agg #[.slice none 0 0, .int .i64 0, .int .i64 0], .bool false]) w := by
  unfold Instr.typeAssert
  simp only [Sem.run_bind, run_underlying Tryz.underlying164, Result.andThen_ok, if_neg h, if_true, zero_rec]
  rfl

/-- A datum as a text. -/
def txtI (t : T) : ByteArray × Bool := if t.kind = 4 then (t.text, true) else (⟨#[]⟩, false)
set_option maxRecDepth 100000 in
set_option maxHeartbeats 400000 in
theorem textOf_any (t : T) (v : Value) (x : Nat) (w : World) (h : DatAt w x t v) :
    Calls Tryz.prog 78 #[v] w fun e w' => e = .returned (.tuple #[.string (txtI t).1, .bool (txtI t).2]) ∧ w' = w := by
  unfold txtI
  rcases dat_text h with ⟨hk, rfl⟩ | ⟨hk, y, u, rfl, hy⟩
  · rw [if_pos hk]
    have ht := fun w => ta_text_yes t.text w
    clear h
    go_enter Tryz.func78, Tryz.ntmps78
    go_wp2
    go_ret2
    exact ⟨rfl, rfl⟩
  · rw [if_neg hk]
    have ht := fun w => ta_text_no y u w hy
    clear h
    go_enter Tryz.func78, Tryz.ntmps78
    go_wp2
    go_ret2
    exact ⟨rfl, rfl⟩
theorem take_any (s : ByteArray) (w : World) : Calls Tryz.prog 93 #[.string s] w fun e w' => e = .returned (.string s) ∧ w' = w := by
  go_enter Tryz.func93, Tryz.ntmps93
  go_wp2
  go_ret
  exact ⟨rfl, rfl⟩
/-- The texts of a list. -/
def textsT (ks : List T) : List ByteArray := (ks.filter fun k => decide (k.kind = 4)).map T.text
theorem textsT_len (ks : List T) : (textsT ks).length ≤ ks.length := by unfold textsT; rw [List.length_map]; exact List.length_filter_le _ _
theorem textsT_take (ks : List T) (i : Nat) (h : i < ks.length) : textsT (ks.take (i + 1)) = textsT (ks.take i) ++ (if (ks[i]).kind = 4 then [(ks[i]).text] else []) := by
  unfold textsT
  rw [List.take_succ_eq_append_getElem h, List.filter_append, List.map_append]
  congr 1
  by_cases hk : (ks[i]).kind = 4
  · rw [if_pos hk]; simp [hk]
  · rw [if_neg hk]; simp [hk]
theorem RowAt.below {w w' : World} {x : Nat} {p : Option Addr} {vs : List Value} (h : RowAt w x p vs) (hb : Below w.heap.size w w') : RowAt w' x p vs := h.moves (Moves.below hb)
theorem datL_below {w w' : World} {x : Nat} {l : List T} {vs : List Value} (h : DatL w x l vs) (hb : Below w.heap.size w w') : DatL w' x l vs := DatL.moves (Moves.below hb) _ _ h
theorem RowAt.get {w : World} {x : Nat} {p : Option Addr} {vs : List Value} (h : RowAt w x p vs) (j : Nat) (u : Value) (hu : vs[j]? = some u) : ∃ g o, p = some ⟨g, o, none⟩ ∧ g < w.heap.size ∧ w.cell? ⟨g, o + j, none⟩ = some u := by
  rcases h with h | ⟨g, o, h1, _, h3, h4⟩
  · rw [h] at hu; simp at hu
  · exact ⟨g, o, h1, h3, h4 j u hu⟩
set_option maxRecDepth 100000 in
set_option maxHeartbeats 1000000 in
theorem allOf_any (ks : List T) (vs : List Value) (p : Option Addr) (c x : Nat) (w : World) (hn : ks.length ≤ 1000) (hD : DatL w x ks vs) (hR : RowAt w x p vs) :
    Calls Tryz.prog 92 #[.slice p ks.length c, .func (.func 93) #[] #[]] w fun e w' => ∃ p' c', e = .returned (.tuple #[.slice p' (textsT ks).length c', .bool (decide ((textsT ks).length = ks.length))]) ∧ w'.ownsRow w.heap.size 9 1 (.slice p' (textsT ks).length c') (textsT ks).length (cellsT (textsT ks)) ∧ Below w.heap.size w w' := by
  obtain ⟨iS, hS, hSz, hSs, hSb⟩ := info_parts Tryz.infoStr
  have HD := hide hD
  have HR := hide hR
  clear hD hR
  go_enter Tryz.func92, Tryz.ntmps92
  go_wp2
  go_loopw [6, 13] (fun u q wr => ∃ (i : Nat) (p : Option Addr) (cc : Nat) (acc : List ByteArray), i ≤ ks.length ∧ u = .slice p acc.length cc ∧ q = .int .i64 i ∧ wr.ownsRow w.heap.size 9 1 (.slice p acc.length cc) acc.length (cellsT acc) ∧ Below w.heap.size w wr ∧ acc = textsT (ks.take i)) (fun _ q _ => ks.length - (intOf q).toNat)
  case atStart => exact ⟨0, _, _, [], Nat.zero_le _, rfl, rfl, World.ownsRow_nil _ _ _ _, Below.refl _ _, rfl⟩
  case round =>
    obtain ⟨i, p1, cc, acc, hi, rfl, rfl, hrow, hB, hacc⟩ := hrel
    have HRW := hide hrow
    have HB := hide hB
    have hz := hB.size
    have hal : acc.length ≤ 1000 := by rw [hacc]; have := textsT_len (ks.take i); rw [List.length_take] at this; omega
    have HAC := hide hacc
    clear hrow hB hacc
    by_cases hlt : i < ks.length
    · obtain ⟨v, hv, hdv⟩ := DatL.at (datL_below HD.out HB.out) i hlt
      obtain ⟨g, o, rfl, hg, hc⟩ := (HR.out.below HB.out).get i v hv
      have HTK := hide (textsT_take ks i hlt)
      clear hv
      rcases dat_text hdv with ⟨hk, rfl⟩ | ⟨hk, y, u, rfl, hy⟩
      · have HTK2 : Hid (textsT (ks.take (i + 1)) = acc ++ [(ks[i]).text]) := hide (by rw [HTK.out, if_pos hk, HAC.out])
        have ht := fun w => ta_text_yes (ks[i]).text w
        clear HTK hdv hk
        generalize (ks[i]).text = s at *
        go_wp2_with fail
        refine (take_any s _).mono ?_
        rintro e w1 ⟨rfl, rfl⟩
        go_wp2_with (at_builtin; refine wpList_append_own_at _ rfl _ _ 41 rfl w.heap.size 9 iS _ 1 16 Tryz.underlying41 hS hSz hSs hSb rfl (by decide) (.slice p1 acc.length cc) acc.length (cellsT acc) rfl (HRW.out.alloc _) ⟨w1.heap.size, 0, none⟩ 1 1 [.string s] rfl rfl (cell_one _ _ _) (by simp [Value.oneCell']) (by unfold maxLen; omega) (by omega) (by simp; omega) ?_)
        intro v2 w2 ho2 hg2 _ _
        obtain ⟨hB2, p2, c2, rfl, hr2⟩ := strs_grow HB.out HRW.out hz ho2 hg2
        have HB2 := hide hB2
        have HR2 := hide hr2
        clear ho2 hg2 hB2 hr2
        go_wp2
        go_roundw
        case rel => exact ⟨i + 1, p2, c2, acc ++ [s], by omega, rfl, by go_num, HR2.out, HB2.out, HTK2.out.symm⟩
        case measure => simp [intOf]; omega
      · have HTK2 : Hid (textsT (ks.take (i + 1)) = acc) := hide (by rw [HTK.out, if_neg hk, HAC.out, List.append_nil])
        have ht := fun w => ta_text_no y u w hy
        clear HTK hdv hk
        go_wp2
        go_roundw
        case rel => exact ⟨i + 1, p1, cc, acc, by omega, rfl, by go_num, HRW.out, HB.out, HTK2.out.symm⟩
        case measure => simp [intOf]; omega
    · have HE : Hid (acc = textsT ks) := hide (by rw [HAC.out, List.take_of_length_le (by omega)])
      clear HAC
      go_wp2
      go_ret2
      rw [← HE.out]
      exact ⟨p1, cc, ret_tb (b := ((acc.length : Int) == (ks.length : Int))) (by rw [Bool.eq_iff_iff, beq_iff_eq, decide_eq_true_eq]; omega), HRW.out, HB.out⟩
set_option maxRecDepth 100000 in
set_option maxHeartbeats 400000 in
theorem index_some (l : List ByteArray) (s : ByteArray) (g o c : Nat) (w : World) (hl : l.length ≤ 1048576) (hc : StrsO w g o l) :
    Calls Tryz.prog 108 #[.slice (some ⟨g, o, none⟩) l.length c, .string s] w fun e w' => (∃ n : Int, e = .returned (.int .i64 n) ∧ decide (0 ≤ n) = memS s l) ∧ Below w.heap.size w w' := by
  have HC := hide hc
  clear hc
  go_enter Tryz.func108, Tryz.ntmps108
  go_wp2
  go_loopw [8] (fun t wr => ∃ j : Nat, j ≤ l.length ∧ t = .int .i64 j ∧ (∀ i (h : i < l.length), i < j → l[i] ≠ s) ∧ Below w.heap.size w wr) (fun t _ => l.length - (intOf t).toNat)
  case atStart => exact ⟨0, Nat.zero_le _, rfl, fun i _ h => by omega, Below.refl _ _⟩
  case round =>
    obtain ⟨j, hj, rfl, he, hB⟩ := hrel
    have HE := hide he
    clear he
    by_cases hlt : j < l.length
    · have hcj := (HC.out.below hB).2 j hlt
      have hb := ba_eq s l[j]
      by_cases hq : s = l[j]
      · rw [decide_eq_true hq] at hb
        have HM : Hid (memS s l = true) := hide (by rw [memS_iff, hq]; exact List.getElem_mem _)
        generalize l[j] = y at *
        go_wp2
        all_goals
          go_ret
          exact ⟨⟨_, rfl, by rw [HM.out]; simp⟩, by first | exact hB | exact hB.drew | exact below_drewN hB _⟩
      · rw [decide_eq_false hq] at hb
        have HQ : Hid (l[j] ≠ s) := hide (fun h => hq h.symm)
        have HN : Hid (∀ i (h : i < l.length), i < j + 1 → l[i] ≠ s) := hide (fun i hi hij => by
          by_cases e : i = j
          · subst e; exact HQ.out
          · exact HE.out i hi (by omega))
        clear HE HQ
        generalize l[j] = y at *
        go_wp2
        all_goals
          go_roundw
          case rel => exact ⟨j + 1, by omega, by go_num, HN.out, by first | exact hB | exact hB.drew | exact below_drewN hB _⟩
          case measure => simp [intOf]; omega
    · have HM : Hid (memS s l = false) := hide (by
        rw [memS_not]
        intro hm
        obtain ⟨i, hi, e⟩ := List.getElem_of_mem hm
        exact HE.out i hi (by omega) e)
      go_wp2
      go_ret
      exact ⟨⟨_, rfl, by rw [HM.out]; rfl⟩, hB⟩
set_option maxRecDepth 100000 in
set_option maxHeartbeats 400000 in
theorem index_none (s : ByteArray) (p : Option Addr) (c : Nat) (w : World) :
    Calls Tryz.prog 108 #[.slice p 0 c, .string s] w fun e w' => (∃ n : Int, e = .returned (.int .i64 n) ∧ decide (0 ≤ n) = false) ∧ Below w.heap.size w w' := by
  go_enter Tryz.func108, Tryz.ntmps108
  go_wp2
  go_loopw [8] (fun u wr => u = .int .i64 0 ∧ wr = w) (fun _ _ => 0)
  case atStart => exact ⟨rfl, rfl⟩
  case round =>
    obtain ⟨rfl, rfl⟩ := hrel
    go_wp2
    go_ret
    exact ⟨⟨_, rfl, rfl⟩, Below.refl _ _⟩
theorem index_any (l : List ByteArray) (s : ByteArray) (v : Value) (w : World) (hl : l.length ≤ 1048576) (hv : StrsV w v l) :
    Calls Tryz.prog 108 #[v, .string s] w fun e w' => (∃ n : Int, e = .returned (.int .i64 n) ∧ decide (0 ≤ n) = memS s l) ∧ Below w.heap.size w w' := by
  rcases hv with ⟨p, c, rfl, rfl⟩ | ⟨g, o, c, rfl, h⟩
  · exact index_none s p c w
  · exact index_some l s g o c w hl h
set_option maxRecDepth 100000 in
set_option maxHeartbeats 400000 in
theorem contains_any (l : List ByteArray) (s : ByteArray) (v : Value) (w : World) (hl : l.length ≤ 1048576) (hv : StrsV w v l) :
    Calls Tryz.prog 94 #[v, .string s] w fun e w' => e = .returned (.bool (memS s l)) ∧ Below w.heap.size w w' := by
  have HI := hide (index_any l s v w hl hv)
  clear hv
  go_enter Tryz.func94, Tryz.ntmps94
  go_wp2_with fail
  refine HI.out.mono ?_
  rintro e w1 ⟨⟨n, rfl, hn⟩, hb⟩
  have HN := hide hn
  clear hn
  go_wp2
  go_ret
  exact ⟨ret_bool HN.out, hb⟩
/-- A datum as a list of texts that are not empty. -/
def placesI (t : T) : Option (List ByteArray) := if t.kind = 5 ∧ (textsT t.ks).length = t.ks.length ∧ memS ⟨#[]⟩ (textsT t.ks) = false then some (textsT t.ks) else none
def PPostI (w : World) (r : Option (List ByteArray)) (e : Ending) (w' : World) : Prop := Below w.heap.size w w' ∧ ∃ p n c, e = .returned (.tuple #[.slice p n c, .bool r.isSome]) ∧ ∀ l, r = some l → n = l.length ∧ w'.ownsRow w.heap.size 9 1 (.slice p n c) n (cellsT l)
set_option maxRecDepth 100000 in
set_option maxHeartbeats 1000000 in
theorem placesOf_list (l : List ByteArray) (n : Nat) (p : Option Addr) (c : Nat) (a d : Int) (w : World) (r : Option (List ByteArray)) (hlb : l.length ≤ 1000) (h1 : l.length = n → memS ⟨#[]⟩ l = false → r = some l) (h0 : ¬ (l.length = n ∧ memS ⟨#[]⟩ l = false) → r = none)
    (HA : Hid (∀ w1, Below w.heap.size w w1 → Calls Tryz.prog 92 #[.slice p n c, .func (.func 93) #[] #[]] w1 fun e w' => ∃ p' c', e = .returned (.tuple #[.slice p' l.length c', .bool (decide (l.length = n))]) ∧ w'.ownsRow w1.heap.size 9 1 (.slice p' l.length c') l.length (cellsT l) ∧ Below w1.heap.size w1 w')) :
    Calls Tryz.prog 79 #[.iface 192 (.agg #[.slice p n c, .int .i64 a, .int .i64 d])] w (PPostI w r) := by
  have ht := fun w => ta_list_yes p n c a d w
  have H1 := hide h1
  have H0 := hide h0
  clear h1 h0
  have hb0 : Below w.heap.size w (w.alloc (.cells #[.slice p n c, .int .i64 a, .int .i64 d] 192)) := (Below.refl _ _).alloc (Nat.le_refl _) _
  go_enter Tryz.func79, Tryz.ntmps79
  go_wp2_with fail
  refine (HA.out _ hb0).mono ?_
  rintro e w1 ⟨p1, c1, rfl, ho, hb1⟩
  have B1 := hb0.trans (hb1.mono hb0.size)
  have HO := hide (row_mono ho hb0.size)
  have HC := hide (contains_any l ⟨#[]⟩ (.slice p1 l.length c1) w1 (by omega) (strsV_of_row ho))
  clear ho hb1
  by_cases hq : l.length = n
  · rw [decide_eq_true hq]
    have HQ := hide hq
    clear hq
    cases hm : memS ⟨#[]⟩ l
    · rw [hm] at HC
      have HRR := hide (H1.out HQ.out hm)
      go_wp2_with fail
      refine HC.out.mono ?_
      rintro e w2 ⟨rfl, hb2⟩
      have HR2 := hide (row_belowY HO.out hb2)
      have HB2 := hide (B1.trans (hb2.mono B1.size))
      go_wp2
      go_ret2
      rw [show r = some l from HRR.out]
      exact ⟨HB2.out, p1, _, c1, rfl, fun l' hl' => by cases hl'; exact ⟨rfl, HR2.out⟩⟩
    · have HRR := hide (H0.out (fun h => by rw [hm] at h; cases h.2))
      rw [hm] at HC
      go_wp2_with fail
      refine HC.out.mono ?_
      rintro e w2 ⟨rfl, hb2⟩
      have HB2 := hide (B1.trans (hb2.mono B1.size))
      go_wp2
      go_ret2
      rw [show r = none from HRR.out]
      exact ⟨HB2.out, p1, _, c1, rfl, fun l' hl' => by cases hl'⟩
  · rw [decide_eq_false hq]
    have HRR := hide (H0.out (fun h => hq h.1))
    clear hq
    go_wp2
    go_ret2
    rw [show r = none from HRR.out]
    exact ⟨B1, p1, _, c1, rfl, fun l' hl' => by cases hl'⟩
set_option maxRecDepth 100000 in
set_option maxHeartbeats 1000000 in
theorem placesOf_any (t : T) (v : Value) (x : Nat) (w : World) (hn : t.ks.length ≤ 1000) (h : DatAt w x t v) : Calls Tryz.prog 79 #[v] w (PPostI w (placesI t)) := by
  rcases dat_list h with ⟨hk, p, c, vs, a, d, rfl, hL, hR⟩ | ⟨hk, y, u, rfl, hy⟩
  · have hlen := textsT_len t.ks
    refine placesOf_list (textsT t.ks) t.ks.length p c a d w (placesI t) (by omega) (fun h1 h2 => ?_) (fun h0 => ?_) (hide (fun w1 hb => allOf_any t.ks vs p c x w1 hn (datL_below hL hb) (hR.below hb)))
    · unfold placesI; rw [if_pos ⟨hk, h1, h2⟩]
    · unfold placesI; rw [if_neg (fun h => h0 h.2)]
  · have ht := fun w => ta_list_no y u w hy
    unfold placesI
    rw [if_neg (fun h => hk h.1)]
    clear h
    have hb0 : Below w.heap.size w (w.alloc (.cells #[.slice none 0 0, .int .i64 0, .int .i64 0] 192)) := (Below.refl _ _).alloc (Nat.le_refl _) _
    go_enter Tryz.func79, Tryz.ntmps79
    go_wp2
    go_ret2
    exact ⟨hb0, none, 0, 0, rfl, fun l' hl' => by cases hl'⟩
end Go.Proofs.YtmpjdooepdicoaaGreatDoor.Vl
