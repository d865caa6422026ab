/- Walks: small comparisons, on the program's side. -/
import Derived.Test.YtfpdoafpimaoaaaOa
import Derived.Lib.Bytealg
import Derived.Laws.Externs
namespace Go.Proofs.Ytfpdoafpimaoaaa.Vl
open Go.RowKit T.atoms T.ok T.high T.good T.allPlain DatAt T.ord

theorem compare_cmp : ∀ a b : List UInt8, Lib.compareBytes a b = cmpB (Go.Op.bytesLess a b) (a == b)
  | [], [] => rfl
  | [], _ :: _ => rfl
  | _ :: _, [] => rfl
  | x :: a, y :: b => by
    have ih := compare_cmp a b
    simp only [Lib.compareBytes, Go.Op.bytesLess, List.cons_beq_cons]
    have h3 : x < y ∨ x = y ∨ y < x := by
      rcases Nat.lt_trichotomy x.toNat y.toNat with h | h | h
      · exact .inl (UInt8.lt_iff_toNat_lt.2 h)
      · exact .inr (.inl (UInt8.toNat_inj.1 h))
      · exact .inr (.inr (UInt8.lt_iff_toNat_lt.2 h))
    rcases h3 with h | h | h
    · have h2 : ¬ x = y := fun e => by subst e; exact UInt8.lt_irrefl _ h
      simp [h, h2, cmpB]
    · subst h
      have h1 : ¬ x < x := UInt8.lt_irrefl _
      simpa [h1] using ih
    · have h1 : ¬ x < y := UInt8.lt_asymm h
      have h2 : ¬ x = y := fun e => by subst e; exact UInt8.lt_irrefl _ h
      simp [h, h1, h2, cmpB]
theorem cmpS_compare (a b : ByteArray) : Lib.compareBytes a.data.toList b.data.toList = cmpS a b := by
  rw [compare_cmp]; unfold cmpS slt; rw [Lib.toList_data, Lib.toList_data]

set_option maxRecDepth 100000 in
set_option maxHeartbeats 1000000 in
theorem cmpString_any (a b : ByteArray) (w : World) : Calls Try.prog 87 #[.string a, .string b] w fun e w' => e = .returned (.int .i64 (cmpS a b)) ∧ w' = w := by
  rw [← cmpS_compare]
  go_enter Try.func87, Try.ntmps87
  go_wp2
  rw [run_callFunc_extern Try.func88 (by kernel_rfl) (by kernel_rfl) (by kernel_rfl) (e := Extern.BytealgCompare.compare) (by kernel_rfl), Lib.run_compareString]
  simp only [Result.andThen]
  rw [Oper.upon_value]
  go_wp2
  go_ret
  exact ⟨rfl, rfl⟩
set_option maxHeartbeats 1000000 in
theorem strCompare_any (a b : ByteArray) (w : World) : Calls Try.prog 86 #[.string a, .string b] w fun e w' => e = .returned (.int .i64 (cmpS a b)) ∧ w' = w := by
  go_enter Try.func86, Try.ntmps86
  go_wp2_with (go_at_call 87; refine (cmpString_any _ _ _).mono ?_; rintro e w' ⟨rfl, rfl⟩)
  go_ret
  exact ⟨rfl, rfl⟩

set_option maxHeartbeats 400000 in
theorem nanInt (a : Int) (w : World) : Calls Try.prog 75 #[.int .i64 a] w fun e w' => e = .returned (.bool false) ∧ w' = w := by
  go_enter Try.func75, Try.ntmps75
  go_wp2
  go_ret
  exact ⟨rfl, rfl⟩
set_option maxHeartbeats 400000 in
theorem cmpInt_any (a b : Int) (w : World) : Calls Try.prog 43 #[.int .i64 a, .int .i64 b] w fun e w' => e = .returned (.int .i64 (cmpI a b)) ∧ w' = w := by
  have h3 : a < b ∨ a = b ∨ b < a := by omega
  rcases h3 with h | h | h
  · have hr : cmpI a b = -1 := by unfold cmpI cmpB; simp; omega
    rw [hr]
    go_enter Try.func43, Try.ntmps43
    go_wp2_with (go_at_call 75; refine (nanInt _ _).mono ?_; rintro e w' ⟨rfl, rfl⟩)
    go_ret
    exact ⟨rfl, rfl⟩
  · subst h
    have hr : cmpI a a = 0 := by unfold cmpI cmpB; simp
    rw [hr]
    go_enter Try.func43, Try.ntmps43
    go_wp2_with (go_at_call 75; refine (nanInt _ _).mono ?_; rintro e w' ⟨rfl, rfl⟩)
    go_ret
    exact ⟨rfl, rfl⟩
  · have hr : cmpI a b = 1 := by unfold cmpI cmpB; simp; omega
    have h' : ¬ a < b := by omega
    rw [hr]
    go_enter Try.func43, Try.ntmps43
    go_wp2_with (go_at_call 75; refine (nanInt _ _).mono ?_; rintro e w' ⟨rfl, rfl⟩)
    go_ret
    exact ⟨rfl, rfl⟩

set_option maxHeartbeats 400000 in
theorem nanInt64 (a : Int) (w : World) : Calls Try.prog 76 #[.int .i64 a] w fun e w' => e = .returned (.bool false) ∧ w' = w := by
  go_enter Try.func76, Try.ntmps76
  go_wp2
  go_ret
  exact ⟨rfl, rfl⟩
set_option maxHeartbeats 400000 in
theorem cmpInt64_any (a b : Int) (w : World) : Calls Try.prog 44 #[.int .i64 a, .int .i64 b] w fun e w' => e = .returned (.int .i64 (cmpI a b)) ∧ w' = w := by
  have h3 : a < b ∨ a = b ∨ b < a := by omega
  rcases h3 with h | h | h
  · have hr : cmpI a b = -1 := by unfold cmpI cmpB; simp; omega
    rw [hr]
    go_enter Try.func44, Try.ntmps44
    go_wp2_with (go_at_call 76; refine (nanInt64 _ _).mono ?_; rintro e w' ⟨rfl, rfl⟩)
    go_ret
    exact ⟨rfl, rfl⟩
  · subst h
    have hr : cmpI a a = 0 := by unfold cmpI cmpB; simp
    rw [hr]
    go_enter Try.func44, Try.ntmps44
    go_wp2_with (go_at_call 76; refine (nanInt64 _ _).mono ?_; rintro e w' ⟨rfl, rfl⟩)
    go_ret
    exact ⟨rfl, rfl⟩
  · have hr : cmpI a b = 1 := by unfold cmpI cmpB; simp; omega
    have h' : ¬ a < b := by omega
    rw [hr]
    go_enter Try.func44, Try.ntmps44
    go_wp2_with (go_at_call 76; refine (nanInt64 _ _).mono ?_; rintro e w' ⟨rfl, rfl⟩)
    go_ret
    exact ⟨rfl, rfl⟩

set_option maxHeartbeats 400000 in
theorem nanIntD (a : Int) (w : World) : Calls Try.prog 77 #[.int .i64 a] w fun e w' => e = .returned (.bool false) ∧ w' = w := by
  go_enter Try.func77, Try.ntmps77
  go_wp2
  go_ret
  exact ⟨rfl, rfl⟩
set_option maxHeartbeats 400000 in
theorem cmpIntD_any (a b : Int) (w : World) : Calls Try.prog 46 #[.int .i64 a, .int .i64 b] w fun e w' => e = .returned (.int .i64 (cmpI a b)) ∧ w' = w := by
  have h3 : a < b ∨ a = b ∨ b < a := by omega
  rcases h3 with h | h | h
  · have hr : cmpI a b = -1 := by unfold cmpI cmpB; simp; omega
    rw [hr]
    go_enter Try.func46, Try.ntmps46
    go_wp2_with (go_at_call 77; refine (nanIntD _ _).mono ?_; rintro e w' ⟨rfl, rfl⟩)
    go_ret
    exact ⟨rfl, rfl⟩
  · subst h
    have hr : cmpI a a = 0 := by unfold cmpI cmpB; simp
    rw [hr]
    go_enter Try.func46, Try.ntmps46
    go_wp2_with (go_at_call 77; refine (nanIntD _ _).mono ?_; rintro e w' ⟨rfl, rfl⟩)
    go_ret
    exact ⟨rfl, rfl⟩
  · have hr : cmpI a b = 1 := by unfold cmpI cmpB; simp; omega
    have h' : ¬ a < b := by omega
    rw [hr]
    go_enter Try.func46, Try.ntmps46
    go_wp2_with (go_at_call 77; refine (nanIntD _ _).mono ?_; rintro e w' ⟨rfl, rfl⟩)
    go_ret
    exact ⟨rfl, rfl⟩

set_option maxHeartbeats 400000 in
theorem nanT (a : ByteArray) (w : World) : Calls Try.prog 78 #[.string a] w fun e w' => e = .returned (.bool false) ∧ w' = w := by
  go_enter Try.func78, Try.ntmps78
  go_wp2
  go_ret
  exact ⟨ret_bool (by simp), rfl⟩
set_option maxHeartbeats 400000 in
theorem cmpT_any (a b : ByteArray) (w : World) : Calls Try.prog 47 #[.string a, .string b] w fun e w' => e = .returned (.int .i64 (cmpS a b)) ∧ w' = w := by
  have ht := less_total a.toList b.toList
  have HR : Hid (cmpS a b = cmpB (Go.Op.bytesLess a.toList b.toList) (a.toList == b.toList)) := hide rfl
  cases hl : Go.Op.bytesLess a.toList b.toList
  all_goals cases he : (a.toList == b.toList)
  all_goals
    rw [hl, he] at HR ht
    first
    | (exfalso; have e : a.toList = b.toList := by simpa using he
       rw [e] at hl ht; rw [hl] at ht; simp at ht; done)
    | (have HX := hide ht
       clear ht
       go_enter Try.func47, Try.ntmps47
       go_wp2_with (go_at_call 78; refine (nanT _ _).mono ?_; rintro e w' ⟨rfl, rfl⟩)
       go_ret
       exact ⟨ret_int HR.out.symm, rfl⟩)
set_option maxHeartbeats 400000 in
theorem bit_any (b : Bool) (w : World) : Calls Try.prog 45 #[.bool b] w fun e w' => e = .returned (.int .i64 (if b then 1 else 0)) ∧ w' = w := by
  cases b
  all_goals
    go_enter Try.func45, Try.ntmps45
    go_wp2
    go_ret
    exact ⟨rfl, rfl⟩

/-- How a value of the interface tells its kind. -/
def Kinds (v : Value) (k : Int) : Prop := ∃ f r, (∀ w, (callMethod v "loop.example/kilnclay/impl.kind" #[]).run Try.prog w = .ok (.enter f #[r]) w) ∧ ∀ w, Calls Try.prog f #[r] w fun e w' => e = .returned (.int .i64 k) ∧ Below w.heap.size w w'
theorem kd_none (w : World) : (callMethod (.iface 123 (.agg #[])) "loop.example/kilnclay/impl.kind" #[]).run Try.prog w = .ok (.enter 113 #[.agg #[]]) w := by kernel_rfl
set_option maxHeartbeats 400000 in
theorem kind_none (w : World) : Calls Try.prog 113 #[.agg #[]] w fun e w' => e = .returned (.int .i64 1) ∧ Below w.heap.size w w' := by
  go_enter Try.func113, Try.ntmps113
  go_wp2
  go_ret
  exact ⟨rfl, (Below.refl _ _).alloc (Nat.le_refl _) _⟩
theorem kd_bool (b : Bool) (w : World) : (callMethod (.iface 78 (.bool b)) "loop.example/kilnclay/impl.kind" #[]).run Try.prog w = .ok (.enter 104 #[.bool b]) w := by kernel_rfl
set_option maxHeartbeats 400000 in
theorem kind_bool (b : Bool) (w : World) : Calls Try.prog 104 #[.bool b] w fun e w' => e = .returned (.int .i64 2) ∧ Below w.heap.size w w' := by
  go_enter Try.func104, Try.ntmps104
  go_wp2
  go_ret
  exact ⟨rfl, Below.refl _ _⟩
theorem kd_int (n : Int) (w : World) : (callMethod (.iface 81 (.int .i64 n)) "loop.example/kilnclay/impl.kind" #[]).run Try.prog w = .ok (.enter 106 #[.int .i64 n]) w := by kernel_rfl
set_option maxHeartbeats 400000 in
theorem kind_int (n : Int) (w : World) : Calls Try.prog 106 #[.int .i64 n] w fun e w' => e = .returned (.int .i64 3) ∧ Below w.heap.size w w' := by
  go_enter Try.func106, Try.ntmps106
  go_wp2
  go_ret
  exact ⟨rfl, Below.refl _ _⟩
theorem kd_text (x : ByteArray) (w : World) : (callMethod (.iface 83 (.string x)) "loop.example/kilnclay/impl.kind" #[]).run Try.prog w = .ok (.enter 108 #[.string x]) w := by kernel_rfl
set_option maxHeartbeats 400000 in
theorem kind_text (x : ByteArray) (w : World) : Calls Try.prog 108 #[.string x] w fun e w' => e = .returned (.int .i64 4) ∧ Below w.heap.size w w' := by
  go_enter Try.func108, Try.ntmps108
  go_wp2
  go_ret
  exact ⟨rfl, Below.refl _ _⟩
theorem kd_list (p : Option Addr) (n c : Nat) (a d : Int) (w : World) : (callMethod (.iface 88 (.agg #[.slice p n c, .int .i64 a, .int .i64 d])) "loop.example/kilnclay/impl.kind" #[]).run Try.prog w = .ok (.enter 111 #[.agg #[.slice p n c, .int .i64 a, .int .i64 d]]) w := by kernel_rfl
set_option maxHeartbeats 400000 in
theorem kind_list (p : Option Addr) (n c : Nat) (a d : Int) (w : World) : Calls Try.prog 111 #[.agg #[.slice p n c, .int .i64 a, .int .i64 d]] w fun e w' => e = .returned (.int .i64 5) ∧ Below w.heap.size w w' := by
  go_enter Try.func111, Try.ntmps111
  go_wp2
  go_ret
  exact ⟨rfl, (Below.refl _ _).alloc (Nat.le_refl _) _⟩
theorem kd_rec (p : Option Addr) (n c : Nat) (a d : Int) (w : World) : (callMethod (.iface 92 (.agg #[.slice p n c, .int .i64 a, .int .i64 d])) "loop.example/kilnclay/impl.kind" #[]).run Try.prog w = .ok (.enter 112 #[.agg #[.slice p n c, .int .i64 a, .int .i64 d]]) w := by kernel_rfl
set_option maxHeartbeats 400000 in
theorem kind_rec (p : Option Addr) (n c : Nat) (a d : Int) (w : World) : Calls Try.prog 112 #[.agg #[.slice p n c, .int .i64 a, .int .i64 d]] w fun e w' => e = .returned (.int .i64 6) ∧ Below w.heap.size w w' := by
  go_enter Try.func112, Try.ntmps112
  go_wp2
  go_ret
  exact ⟨rfl, (Below.refl _ _).alloc (Nat.le_refl _) _⟩
theorem kinds_of {w : World} {x : Nat} {t : T} {v : Value} (h : DatAt w x t v) : Kinds v t.kind := by
  cases t with
  | mk k n s ks =>
    unfold DatAt at h
    show Kinds v k
    rcases h with ⟨rfl, rfl⟩ | ⟨rfl, rfl⟩ | ⟨rfl, rfl⟩ | ⟨rfl, rfl⟩ | ⟨rfl, p, c, vs, rfl, _⟩ | ⟨rfl, p, c, m, vs, _, rfl, _⟩
    · exact ⟨_, _, kd_none, kind_none⟩
    · exact ⟨_, _, kd_bool _, kind_bool _⟩
    · exact ⟨_, _, kd_int _, kind_int _⟩
    · exact ⟨_, _, kd_text _, kind_text _⟩
    · exact ⟨_, _, kd_list _ _ _ _ _, kind_list _ _ _ _ _⟩
    · exact ⟨_, _, kd_rec _ _ _ _ _, kind_rec _ _ _ _ _⟩
theorem wpList_kind {ops : Array Oper} {Q : Exit → Act → World → Prop} {a : Act} {w : World} {rest : List Oper} {o : Oper}
    (hg : o.guard = none) (x : Operand) (hop : o.op = Op.call { callee := Callee.invoke x "loop.example/kilnclay/impl.kind", args := #[], argTypes := #[] })
    (v : Value) (k : Int) (hx : a.eval x = v) (hv : Kinds v k) (hK : ∀ w', Below w.heap.size w w' → wpList Try.prog ops Q rest (a.put o.dst (.int .i64 k)) w') : wpList Try.prog ops Q (o :: rest) a w := by
  refine wpList_step (fun K hKK => ?_)
  have hw : Region.wanted o (yielded ops a.tmps) = true := by simp [Region.wanted, hg]
  rw [if_pos hw]
  obtain ⟨f, r, hm, hC⟩ := hv
  unfold Oper.wp
  simp only [execOp, hop, resolve, invoke, List.map_toArray, List.map_nil, hx, Sem.run_bind, Sem.run_pure, Result.andThen_ok]
  simp [hm]
  refine (hC w).mono fun e w2 h => ?_
  obtain ⟨rfl, h2⟩ := h
  exact hKK _ _ (hK _ h2)
end Go.Proofs.Ytfpdoafpimaoaaa.Vl
