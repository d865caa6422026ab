/- Walks: compare and Order, on the program's side. -/
import Derived.Test.YtfpdoafpimaoaaaOe
namespace Go.Proofs.Ytfpdoafpimaoaaa.Vl
open Go.RowKit T.atoms T.ok T.high T.good T.allPlain DatAt T.ord

theorem zero_b (w : World) : (zeroValue 78).run Try.prog w = .ok (.bool false) w := by kernel_rfl
theorem tan_b (t : TypeId) (v : Value) (w : World) (h : ¬ t = 78) : (Instr.typeAssert (.iface t v) 49 78 true).run Try.prog w = .ok (.tuple #[.bool false, .bool false]) w := by
  unfold Instr.typeAssert
  simp only [Sem.run_bind, run_underlying Try.underlying78, Result.andThen_ok, if_neg h, if_true, zero_b]
  rfl
theorem zero_i (w : World) : (zeroValue 81).run Try.prog w = .ok (.int .i64 0) w := by kernel_rfl
theorem tan_i (t : TypeId) (v : Value) (w : World) (h : ¬ t = 81) : (Instr.typeAssert (.iface t v) 49 81 true).run Try.prog w = .ok (.tuple #[.int .i64 0, .bool false]) w := by
  unfold Instr.typeAssert
  simp only [Sem.run_bind, run_underlying Try.underlying81, Result.andThen_ok, if_neg h, if_true, zero_i]
  rfl
theorem zero_l (w : World) : (zeroValue 88).run Try.prog w = .ok (.agg #[.slice none 0 0, .int .i64 0, .int .i64 0]) w := by kernel_rfl
theorem tan_l (t : TypeId) (v : Value) (w : World) (h : ¬ t = 88) : (Instr.typeAssert (.iface t v) 49 88 true).run Try.prog w = .ok (.tuple #[.agg #[.slice none 0 0, .int .i64 0, .int .i64 0], .bool false]) w := by
  unfold Instr.typeAssert
  simp only [Sem.run_bind, run_underlying Try.underlying88, Result.andThen_ok, if_neg h, if_true, zero_l]
  rfl
theorem zero_r (w : World) : (zeroValue 92).run Try.prog w = .ok (.agg #[.slice none 0 0, .int .i64 0, .int .i64 0]) w := by kernel_rfl
theorem tan_r (t : TypeId) (v : Value) (w : World) (h : ¬ t = 92) : (Instr.typeAssert (.iface t v) 49 92 true).run Try.prog w = .ok (.tuple #[.agg #[.slice none 0 0, .int .i64 0, .int .i64 0], .bool false]) w := by
  unfold Instr.typeAssert
  simp only [Sem.run_bind, run_underlying Try.underlying92, Result.andThen_ok, if_neg h, if_true, zero_r]
  rfl
theorem tay_b (b : Bool) (w : World) : (Instr.typeAssert (.iface 78 (.bool b)) 49 78 true).run Try.prog w = .ok (.tuple #[.bool b, .bool true]) w := by kernel_rfl
theorem taf_b (b : Bool) (w : World) : (Instr.typeAssert (.iface 78 (.bool b)) 49 78 false).run Try.prog w = .ok (.bool b) w := by kernel_rfl
theorem tay_i (n : Int) (w : World) : (Instr.typeAssert (.iface 81 (.int .i64 n)) 49 81 true).run Try.prog w = .ok (.tuple #[.int .i64 n, .bool true]) w := by kernel_rfl
theorem taf_i (n : Int) (w : World) : (Instr.typeAssert (.iface 81 (.int .i64 n)) 49 81 false).run Try.prog w = .ok (.int .i64 n) w := by kernel_rfl
theorem tay_t (x : ByteArray) (w : World) : (Instr.typeAssert (.iface 83 (.string x)) 49 83 true).run Try.prog w = .ok (.tuple #[.string x, .bool true]) w := by kernel_rfl
theorem taf_t (x : ByteArray) (w : World) : (Instr.typeAssert (.iface 83 (.string x)) 49 83 false).run Try.prog w = .ok (.string x) w := by kernel_rfl
theorem tay_l (p : Option Addr) (n c : Nat) (a d : Int) (w : World) : (Instr.typeAssert (.iface 88 (.agg #[.slice p n c, .int .i64 a, .int .i64 d])) 49 88 true).run Try.prog w = .ok (.tuple #[.agg #[.slice p n c, .int .i64 a, .int .i64 d], .bool true]) w := by kernel_rfl
theorem taf_l (p : Option Addr) (n c : Nat) (a d : Int) (w : World) : (Instr.typeAssert (.iface 88 (.agg #[.slice p n c, .int .i64 a, .int .i64 d])) 49 88 false).run Try.prog w = .ok (.agg #[.slice p n c, .int .i64 a, .int .i64 d]) w := by kernel_rfl
theorem tay_r (p : Option Addr) (n c : Nat) (a d : Int) (w : World) : (Instr.typeAssert (.iface 92 (.agg #[.slice p n c, .int .i64 a, .int .i64 d])) 49 92 true).run Try.prog w = .ok (.tuple #[.agg #[.slice p n c, .int .i64 a, .int .i64 d], .bool true]) w := by kernel_rfl
theorem taf_r (p : Option Addr) (n c : Nat) (a d : Int) (w : World) : (Instr.typeAssert (.iface 92 (.agg #[.slice p n c, .int .i64 a, .int .i64 d])) 49 92 false).run Try.prog w = .ok (.agg #[.slice p n c, .int .i64 a, .int .i64 d]) w := by kernel_rfl
theorem fld_l (p : Option Addr) (n c : Nat) (a d : Int) (w : World) : (Instr.field 88 (.agg #[.slice p n c, .int .i64 a, .int .i64 d]) 0).run Try.prog w = .ok (.slice p n c) w := by kernel_rfl
theorem fld_r (p : Option Addr) (n c : Nat) (a d : Int) (w : World) : (Instr.field 92 (.agg #[.slice p n c, .int .i64 a, .int .i64 d]) 0).run Try.prog w = .ok (.slice p n c) w := by kernel_rfl
theorem cmpI_ne {k k' : Int} (h : k ≠ k') : cmpI k k' ≠ 0 ∧ cmpI k k' = cmpB (decide (k < k')) false := by
  unfold cmpI
  have : (k == k') = false := by simpa using h
  rw [this]
  refine ⟨?_, rfl⟩
  unfold cmpB
  by_cases hl : k < k' <;> simp [hl]
theorem cmpI_same (k : Int) : cmpI k k = 0 := by unfold cmpI cmpB; simp
theorem good_num {n : Int} {s : ByteArray} {ks : List T} (h : (T.mk 2 n s ks).good = true) : n = 0 ∨ n = 1 := by
  rw [T.good] at h
  simp [plain] at h
  omega
theorem good_kids {k n : Int} {s : ByteArray} {ks : List T} (h : (T.mk k n s ks).good = true) : goodL ks = true := by
  rw [T.good, Bool.and_eq_true] at h
  exact h.2
theorem good_names {n : Int} {s : ByteArray} {ks : List T} (h : (T.mk 6 n s ks).good = true) : names ks = true := by
  rw [T.good] at h
  simp [plain] at h
  exact h.1.1.2.2
theorem good_bare {n : Int} {s : ByteArray} {ks : List T} (h : (T.mk 1 n s ks).good = true) : ks = [] := by
  rw [T.good] at h
  simp [plain] at h
  exact h.1.1.2

set_option maxRecDepth 100000 in
set_option maxHeartbeats 2000000 in
theorem compare_any : ∀ (N : Nat) (t t' : T) (v v' : Value) (x x' : Nat) (w : World), t.count < N → t.count ≤ 1000 → t'.count ≤ 1000 → t.good = true → t'.good = true → DatAt w x t v → DatAt w x' t' v' →
    Calls Try.prog 25 #[v, v'] w fun e w' => e = .returned (.int .i64 (t.ord t')) ∧ Below w.heap.size w w' := by
  intro N
  induction N with
  | zero => intro t t' v v' x x' w h; omega
  | succ N ih =>
  intro t t' v v' x x' w hN hc hc' hg hg' hd hd'
  have IH := hide ih
  have HK := hide (kinds_of hd)
  have HK' := hide (kinds_of hd')
  have HO := hide (T.ord_eq t t')
  have HD := hide hd
  have HD' := hide hd'
  clear ih
  by_cases hk : t.kind = t'.kind
  · have HG := hide hg
    have HG' := hide hg'
    have HN := hide hN
    cases t with
    | mk k n s ks =>
    cases t' with
    | mk k' n' s' ks' =>
    have hk : k = k' := hk
    subst hk
    have HK : Hid (Kinds v k) := HK
    have HK' : Hid (Kinds v' k) := HK'
    have HO : Hid ((T.mk k n s ks).ord (.mk k n' s' ks') = if k = 2 ∨ k = 3 then cmpI n n' else if k = 4 then cmpS s s' else ordL ks ks') := hide (by rw [HO.out]; simp [T.kind, T.num, T.text, T.ks]; rfl)
    have hca : 1 + (atomsL ks).length ≤ 1000 := by have := T.count_eq (.mk k n s ks); simp only [T.ks] at this; omega
    have hcb : 1 + (atomsL ks').length ≤ 1000 := by have := T.count_eq (.mk k n' s' ks'); simp only [T.ks] at this; omega
    have hla := len_le_atomsL ks
    have hlb := len_le_atomsL ks'
    have HIH : Hid (∀ y y' i (h1 : i < ks.length) (h2 : i < ks'.length) v u w', DatAt w' y ks[i] v → DatAt w' y' ks'[i] u → Calls Try.prog 25 #[v, u] w' fun e w'' => e = .returned (.int .i64 ((ks[i]).ord ks'[i])) ∧ Below w'.heap.size w' w'') := hide (by
      intro y y' i h1 h2 v u w' hv hu
      have a1 := count_mem ks i h1
      have a2 := count_mem ks' i h2
      have := T.count_eq (.mk k n s ks); simp only [T.ks] at this
      exact IH.out ks[i] ks'[i] v u y y' w' (by have := HN.out; omega) (by omega) (by omega) (goodL_mem ks (good_kids HG.out) _ (List.getElem_mem h1)) (goodL_mem ks' (good_kids HG'.out) _ (List.getElem_mem h2)) hv hu)
    have HCI := hide (cmpInt_any k k)
    rw [cmpI_same] at HCI
    have hdd := HD.out
    have hdd' := HD'.out
    unfold DatAt at hdd hdd'
    clear hd hd' hg hg' hN hc hc' IH HD HD'
    have n1 := tan_b
    have n2 := tan_i
    have n3 := ta_text_no
    have n4 := tan_l
    have n5 := tan_r
    rcases hdd with ⟨rfl, rfl⟩ | ⟨rfl, rfl⟩ | ⟨rfl, rfl⟩ | ⟨rfl, rfl⟩ | ⟨rfl, p, c, vs, rfl, hpc, hdl, hrow⟩ | ⟨rfl, p, c, m, vs, hm, rfl, hpc, hdl, hrow⟩
    · rcases hdd' with ⟨_, rfl⟩ | ⟨h, _⟩ | ⟨h, _⟩ | ⟨h, _⟩ | ⟨h, _⟩ | ⟨h, _⟩
      any_goals (exfalso; revert h; decide)
      have HR : Hid ((T.mk 1 n s ks).ord (.mk 1 n' s' ks') = 0) := hide (by rw [HO.out, good_bare HG.out, good_bare HG'.out]; rfl)
      go_enter Try.func25, Try.ntmps25
      go_wp2_with (show wpList _ _ _ ({ dst := _, op := Op.call { callee := Callee.invoke _ _, args := _, argTypes := _ }, type := _, pos := _, after := _, guard := _ } :: _) _ _; first
        | (refine wpList_kind rfl (.tmp 11) rfl _ _ (by first | (simp [Act.eval]; done) | simp [Act.eval, Act.put]) HK.out ?_; intro w1 hb1)
        | (refine wpList_kind rfl (.tmp 13) rfl _ _ (by first | (simp [Act.eval]; done) | simp [Act.eval, Act.put]) HK'.out ?_; intro w2 hb2))
      refine (HCI.out _).mono ?_
      rintro e w3 ⟨rfl, rfl⟩
      have BK := hb1.trans (hb2.mono hb1.size)
      go_wp2
      go_ret
      exact ⟨ret_int HR.out.symm, BK⟩
    · rcases hdd' with ⟨h, _⟩ | ⟨_, rfl⟩ | ⟨h, _⟩ | ⟨h, _⟩ | ⟨h, _⟩ | ⟨h, _⟩
      any_goals (exfalso; revert h; decide)
      have HR : Hid ((T.mk 2 n s ks).ord (.mk 2 n' s' ks') = cmpI (if (n == 1) then 1 else 0) (if (n' == 1) then 1 else 0)) := hide (by
        rw [HO.out, if_pos (.inl rfl)]
        rcases good_num HG.out with rfl | rfl <;> rcases good_num HG'.out with rfl | rfl <;> rfl)
      generalize (n == 1) = b at *
      generalize (n' == 1) = b' at *
      cases b
      all_goals cases b'
      all_goals
        have y1 := tay_b
        have y2 := taf_b
        go_enter Try.func25, Try.ntmps25
        go_wp2_with (show wpList _ _ _ ({ dst := _, op := Op.call { callee := Callee.invoke _ _, args := _, argTypes := _ }, type := _, pos := _, after := _, guard := _ } :: _) _ _; first
          | (refine wpList_kind rfl (.tmp 11) rfl _ _ (by first | (simp [Act.eval]; done) | simp [Act.eval, Act.put]) HK.out ?_; intro w1 hb1)
          | (refine wpList_kind rfl (.tmp 13) rfl _ _ (by first | (simp [Act.eval]; done) | simp [Act.eval, Act.put]) HK'.out ?_; intro w2 hb2))
        refine (HCI.out _).mono ?_
        rintro e w3 ⟨rfl, rfl⟩
        have BK := hb1.trans (hb2.mono hb1.size)
        go_wp2
        go_quiet (first | (go_at_call 45; exact Calls.quiet_of_same (bit_any _ _)) | (go_at_call 44; exact Calls.quiet_of_same (cmpInt64_any _ _ _)))
        go_wp2
        go_ret
        exact ⟨ret_int HR.out.symm, below_drewN BK _⟩
    · rcases hdd' with ⟨h, _⟩ | ⟨h, _⟩ | ⟨_, rfl⟩ | ⟨h, _⟩ | ⟨h, _⟩ | ⟨h, _⟩
      any_goals (exfalso; revert h; decide)
      have HR : Hid ((T.mk 3 n s ks).ord (.mk 3 n' s' ks') = cmpI n n') := hide (by rw [HO.out, if_pos (.inr rfl)])
      have y1 := tay_i n
      have y2 := taf_i n'
      go_enter Try.func25, Try.ntmps25
      go_wp2_with (show wpList _ _ _ ({ dst := _, op := Op.call { callee := Callee.invoke _ _, args := _, argTypes := _ }, type := _, pos := _, after := _, guard := _ } :: _) _ _; first
        | (refine wpList_kind rfl (.tmp 11) rfl _ _ (by first | (simp [Act.eval]; done) | simp [Act.eval, Act.put]) HK.out ?_; intro w1 hb1)
        | (refine wpList_kind rfl (.tmp 13) rfl _ _ (by first | (simp [Act.eval]; done) | simp [Act.eval, Act.put]) HK'.out ?_; intro w2 hb2))
      refine (HCI.out _).mono ?_
      rintro e w3 ⟨rfl, rfl⟩
      have BK := hb1.trans (hb2.mono hb1.size)
      go_wp2_with (go_at_call 46; refine (cmpIntD_any _ _ _).mono ?_; rintro e w4 ⟨rfl, rfl⟩)
      go_ret
      exact ⟨ret_int HR.out.symm, BK⟩
    · rcases hdd' with ⟨h, _⟩ | ⟨h, _⟩ | ⟨h, _⟩ | ⟨_, rfl⟩ | ⟨h, _⟩ | ⟨h, _⟩
      any_goals (exfalso; revert h; decide)
      have HR : Hid ((T.mk 4 n s ks).ord (.mk 4 n' s' ks') = cmpS s s') := hide (by rw [HO.out, if_neg (by decide), if_pos rfl])
      have y1 := tay_t s
      have y2 := taf_t s'
      go_enter Try.func25, Try.ntmps25
      go_wp2_with (show wpList _ _ _ ({ dst := _, op := Op.call { callee := Callee.invoke _ _, args := _, argTypes := _ }, type := _, pos := _, after := _, guard := _ } :: _) _ _; first
        | (refine wpList_kind rfl (.tmp 11) rfl _ _ (by first | (simp [Act.eval]; done) | simp [Act.eval, Act.put]) HK.out ?_; intro w1 hb1)
        | (refine wpList_kind rfl (.tmp 13) rfl _ _ (by first | (simp [Act.eval]; done) | simp [Act.eval, Act.put]) HK'.out ?_; intro w2 hb2))
      refine (HCI.out _).mono ?_
      rintro e w3 ⟨rfl, rfl⟩
      have BK := hb1.trans (hb2.mono hb1.size)
      go_wp2_with (go_at_call 47; refine (cmpT_any _ _ _).mono ?_; rintro e w4 ⟨rfl, rfl⟩)
      go_ret
      exact ⟨ret_int HR.out.symm, BK⟩
    · rcases hdd' with ⟨h, _⟩ | ⟨h, _⟩ | ⟨h, _⟩ | ⟨h, _⟩ | ⟨_, p', c', vs', rfl, hpc', hdl', hrow'⟩ | ⟨h, _⟩
      any_goals (exfalso; revert h; decide)
      have HR : Hid ((T.mk 5 n s ks).ord (.mk 5 n' s' ks') = ordL ks ks') := hide (by rw [HO.out, if_neg (by decide), if_neg (by decide)])
      have HCF := hide (fun w' (hb : Below w.heap.size w w') => cmpFuncD_any ks ks' vs vs' p p' c c' x x' w' (by omega) (by omega) (DatL.moves (Moves.below (x := x) hb) _ _ hdl) (DatL.moves (Moves.below (x := x') hb) _ _ hdl') (hrow.moves (Moves.below (x := x) hb)) (hrow'.moves (Moves.below (x := x') hb)) (HIH.out x x'))
      have y1 := tay_l p ks.length c (1 + (atomsL ks).length : Nat) (highL ks : Nat)
      have y2 := taf_l p' ks'.length c' (1 + (atomsL ks').length : Nat) (highL ks' : Nat)
      have y3 := fld_l p' ks'.length c' (1 + (atomsL ks').length : Nat) (highL ks' : Nat)
      generalize ((1 + (atomsL ks).length : Nat) : Int) = z1 at *
      generalize ((highL ks : Nat) : Int) = z2 at *
      generalize ((1 + (atomsL ks').length : Nat) : Int) = z3 at *
      generalize ((highL ks' : Nat) : Int) = z4 at *
      clear hdl hdl' hrow hrow' HIH
      go_enter Try.func25, Try.ntmps25
      go_wp2_with (show wpList _ _ _ ({ dst := _, op := Op.call { callee := Callee.invoke _ _, args := _, argTypes := _ }, type := _, pos := _, after := _, guard := _ } :: _) _ _; first
        | (refine wpList_kind rfl (.tmp 11) rfl _ _ (by first | (simp [Act.eval]; done) | simp [Act.eval, Act.put]) HK.out ?_; intro w1 hb1)
        | (refine wpList_kind rfl (.tmp 13) rfl _ _ (by first | (simp [Act.eval]; done) | simp [Act.eval, Act.put]) HK'.out ?_; intro w2 hb2))
      refine (HCI.out _).mono ?_
      rintro e w3 ⟨rfl, rfl⟩
      have BK := hb1.trans (hb2.mono hb1.size)
      go_wp2
      have hq : Below w.heap.size w (w3.alloc (.cells #[.slice p ks.length c, .int .i64 z1, .int .i64 z2] 88)) := BK.alloc BK.size _
      have b0 : (w3.alloc (.cells #[.slice p ks.length c, .int .i64 z1, .int .i64 z2] 88)).cell? ⟨w3.heap.size, 0, none⟩ = some (.slice p ks.length c) := by simp
      have f0 := fun q : KB (w3.alloc (.cells #[.slice p ks.length c, .int .i64 z1, .int .i64 z2] 88)) => (q.below.cell (p := ⟨w3.heap.size, 0, none⟩) (by simp)).trans b0
      haveI hne : Nonempty (KB (w3.alloc (.cells #[.slice p ks.length c, .int .i64 z1, .int .i64 z2] 88))) := ⟨⟨_, Below.refl _ _⟩⟩
      have HCG := hide (fun w' (hb : Below (w3.alloc (.cells #[.slice p ks.length c, .int .i64 z1, .int .i64 z2] 88)).heap.size (w3.alloc (.cells #[.slice p ks.length c, .int .i64 z1, .int .i64 z2] 88)) w') => HCF.out w' (hq.trans (hb.mono hq.size)))
      refine region_class (KB.w (w := w3.alloc (.cells #[.slice p ks.length c, .int .i64 z1, .int .i64 z2] 88))) (by kernel_rfl) (by kernel_rfl) ⟨⟨_, below_drewN (Below.refl _ _) _⟩, rfl⟩ ?_
      repeat (go_big_quiet_step ((go_at_call 48; exact kb_call HCG.out _)))
      refine wpQuiet_nil ?_
      rintro _ ⟨q, rfl⟩
      have hBq := q.below
      go_wp2
      go_ret
      exact ⟨ret_int HR.out.symm, hq.trans (hBq.mono hq.size)⟩
    · rcases hdd' with ⟨h, _⟩ | ⟨h, _⟩ | ⟨h, _⟩ | ⟨h, _⟩ | ⟨h, _⟩ | ⟨_, p', c', m', vs', hm', rfl, hpc', hdl', hrow'⟩
      any_goals (exfalso; revert h; decide)
      have HR : Hid ((T.mk 6 n s ks).ord (.mk 6 n' s' ks') = ordL ks ks') := hide (by rw [HO.out, if_neg (by decide), if_neg (by decide)])
      have HCF := hide (fun w' (hb : Below w.heap.size w w') => cmpFuncF_any ks ks' vs vs' p p' c c' x x' m m' w' hm hm' (by omega) (by omega) (FldL.moves (Moves.below (x := x) hb) _ _ hdl) (FldL.moves (Moves.below (x := x') hb) _ _ hdl') (hrow.moves (Moves.below (x := x) hb)) (hrow'.moves (Moves.below (x := x') hb)) (names_kind ks (good_names HG.out)) (names_kind ks' (good_names HG'.out)) (HIH.out x x'))
      have y1 := tay_r p m c (1 + (atomsL ks).length : Nat) (highL ks : Nat)
      have y2 := taf_r p' m' c' (1 + (atomsL ks').length : Nat) (highL ks' : Nat)
      have y3 := fld_r p' m' c' (1 + (atomsL ks').length : Nat) (highL ks' : Nat)
      generalize ((1 + (atomsL ks).length : Nat) : Int) = z1 at *
      generalize ((highL ks : Nat) : Int) = z2 at *
      generalize ((1 + (atomsL ks').length : Nat) : Int) = z3 at *
      generalize ((highL ks' : Nat) : Int) = z4 at *
      clear hdl hdl' hrow hrow' HIH hm hm'
      go_enter Try.func25, Try.ntmps25
      go_wp2_with (show wpList _ _ _ ({ dst := _, op := Op.call { callee := Callee.invoke _ _, args := _, argTypes := _ }, type := _, pos := _, after := _, guard := _ } :: _) _ _; first
        | (refine wpList_kind rfl (.tmp 11) rfl _ _ (by first | (simp [Act.eval]; done) | simp [Act.eval, Act.put]) HK.out ?_; intro w1 hb1)
        | (refine wpList_kind rfl (.tmp 13) rfl _ _ (by first | (simp [Act.eval]; done) | simp [Act.eval, Act.put]) HK'.out ?_; intro w2 hb2))
      refine (HCI.out _).mono ?_
      rintro e w3 ⟨rfl, rfl⟩
      have BK := hb1.trans (hb2.mono hb1.size)
      go_wp2
      have hq : Below w.heap.size w (w3.alloc (.cells #[.slice p m c, .int .i64 z1, .int .i64 z2] 92)) := BK.alloc BK.size _
      have b0 : (w3.alloc (.cells #[.slice p m c, .int .i64 z1, .int .i64 z2] 92)).cell? ⟨w3.heap.size, 0, none⟩ = some (.slice p m c) := by simp
      have f0 := fun q : KB (w3.alloc (.cells #[.slice p m c, .int .i64 z1, .int .i64 z2] 92)) => (q.below.cell (p := ⟨w3.heap.size, 0, none⟩) (by simp)).trans b0
      haveI hne : Nonempty (KB (w3.alloc (.cells #[.slice p m c, .int .i64 z1, .int .i64 z2] 92))) := ⟨⟨_, Below.refl _ _⟩⟩
      have HCG := hide (fun w' (hb : Below (w3.alloc (.cells #[.slice p m c, .int .i64 z1, .int .i64 z2] 92)).heap.size (w3.alloc (.cells #[.slice p m c, .int .i64 z1, .int .i64 z2] 92)) w') => HCF.out w' (hq.trans (hb.mono hq.size)))
      refine region_class (KB.w (w := w3.alloc (.cells #[.slice p m c, .int .i64 z1, .int .i64 z2] 92))) (by kernel_rfl) (by kernel_rfl) ⟨⟨_, below_drewN (Below.refl _ _) _⟩, rfl⟩ ?_
      repeat (go_big_quiet_step ((go_at_call 49; exact kb_call HCG.out _)))
      refine wpQuiet_nil ?_
      rintro _ ⟨q, rfl⟩
      have hBq := q.below
      go_wp2
      go_ret
      exact ⟨ret_int HR.out.symm, hq.trans (hBq.mono hq.size)⟩
  · have HR : Hid (t.ord t' = cmpI t.kind t'.kind) := hide (by rw [HO.out, if_pos hk, (cmpI_ne hk).2])
    have hne := (cmpI_ne hk).1
    have HCI := hide (cmpInt_any t.kind t'.kind)
    obtain ⟨y, u, rfl⟩ := hd.isIface
    obtain ⟨y', u', rfl⟩ := hd'.isIface
    generalize t.kind = k at *
    generalize t'.kind = k' at *
    generalize cmpI k k' = cc at *
    clear hd hd' HD HD' HO
    go_enter Try.func25, Try.ntmps25
    go_wp2_with (show wpList _ _ _ ({ dst := _, op := Op.call { callee := Callee.invoke _ _, args := _, argTypes := _ }, type := _, pos := _, after := _, guard := _ } :: _) _ _; first
      | (refine wpList_kind rfl (.tmp 11) rfl _ _ (by first | (simp [Act.eval]; done) | simp [Act.eval, Act.put]) HK.out ?_; intro w1 hb1)
      | (refine wpList_kind rfl (.tmp 13) rfl _ _ (by first | (simp [Act.eval]; done) | simp [Act.eval, Act.put]) HK'.out ?_; intro w2 hb2))
    refine (HCI.out _).mono ?_
    rintro e w3 ⟨rfl, rfl⟩
    go_wp2
    go_ret
    exact ⟨ret_int HR.out.symm, hb1.trans (hb2.mono hb1.size)⟩
end Go.Proofs.Ytfpdoafpimaoaaa.Vl
