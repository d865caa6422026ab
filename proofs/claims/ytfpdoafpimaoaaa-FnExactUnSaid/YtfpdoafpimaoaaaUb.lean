/- Walks: a deed of one arg, and the atoms of a leaf, on the program's side. -/
import Derived.Test.YtfpdoafpimaoaaaUa
import Derived.Test.YtfpdoafpimaoaaaQv
namespace Go.Proofs.Ytfpdoafpimaoaaa.Vl
open Go.RowKit T.atoms T.ok T.high T.good T.allPlain DatAt T.ord

set_option maxHeartbeats 1000000 in
theorem takesB1_yes (b : Bool) (g k : Nat) (w : World) (hc : w.cell? ⟨g, 0, none⟩ = some (.iface 78 (.bool b))) (hk : w.cell? ⟨k, 0, none⟩ = some (.func (.func 59) #[] #[])) :
    Calls Try.prog 81 #[.slice (some ⟨g, 0, none⟩) 1 1, .pointer (some ⟨k, 0, none⟩)] w fun e w' => e = .returned (.tuple #[.iface 78 (.bool !b), .string ⟨#[]⟩]) ∧ w' = w := by
  have y1 := tay_b b
  go_enter Try.func81, Try.ntmps81
  go_wp2_with (go_at_call 59; refine (notC_any _ _).mono ?_; rintro e w' ⟨rfl, rfl⟩)
  go_ret2
  exact ⟨rfl, rfl⟩
set_option maxHeartbeats 1000000 in
theorem takesB1_no (y : TypeId) (u : Value) (hy : ¬ y = 78) (g k : Nat) (w : World) (hc : w.cell? ⟨g, 0, none⟩ = some (.iface y u)) :
    Calls Try.prog 81 #[.slice (some ⟨g, 0, none⟩) 1 1, .pointer (some ⟨k, 0, none⟩)] w fun e w' => e = .returned (.tuple #[.nilIface, .string (txt wType)]) ∧ w' = w := by
  have y1 := fun w => tan_b y u w hy
  go_enter Try.func81, Try.ntmps81
  go_wp2
  go_ret2
  exact ⟨rfl, rfl⟩
set_option maxHeartbeats 1000000 in
theorem takesI1_yes (n : Int) (h1 : -9223372036854775808 ≤ n) (h2 : n ≤ 9223372036854775807) (g k : Nat) (w : World) (hc : w.cell? ⟨g, 0, none⟩ = some (.iface 81 (.int .i64 n))) (hk : w.cell? ⟨k, 0, none⟩ = some (.func (.func 61) #[] #[])) :
    Calls Try.prog 82 #[.slice (some ⟨g, 0, none⟩) 1 1, .pointer (some ⟨k, 0, none⟩)] w fun e w' => e = .returned (lessV n) ∧ w' = w := by
  have y1 := tay_i n
  have HC := hide (fun w => negC_any n w h1 h2)
  by_cases hm : n = -9223372036854775808
  · subst hm
    have hv : lessV (-9223372036854775808) = .tuple #[.nilIface, .string (txt wRange)] := by unfold lessV; rw [if_pos rfl]
    rw [hv] at HC
    rw [hv]
    clear hv h1 h2
    go_enter Try.func82, Try.ntmps82
    go_wp2_with (go_at_call 61; refine (HC.out _).mono ?_; rintro e w' ⟨rfl, rfl⟩)
    go_ret2
    exact ⟨rfl, rfl⟩
  · have hv : lessV n = .tuple #[.iface 81 (.int .i64 (-n)), .string ⟨#[]⟩] := by unfold lessV; rw [if_neg hm]
    rw [hv] at HC
    rw [hv]
    clear hv h1 h2 hm
    go_enter Try.func82, Try.ntmps82
    go_wp2_with (go_at_call 61; refine (HC.out _).mono ?_; rintro e w' ⟨rfl, rfl⟩)
    go_ret2
    exact ⟨rfl, rfl⟩
set_option maxHeartbeats 1000000 in
theorem takesI1_no (y : TypeId) (u : Value) (hy : ¬ y = 81) (g k : Nat) (w : World) (hc : w.cell? ⟨g, 0, none⟩ = some (.iface y u)) :
    Calls Try.prog 82 #[.slice (some ⟨g, 0, none⟩) 1 1, .pointer (some ⟨k, 0, none⟩)] w fun e w' => e = .returned (.tuple #[.nilIface, .string (txt wType)]) ∧ w' = w := by
  have y1 := fun w => tan_i y u w hy
  go_enter Try.func82, Try.ntmps82
  go_wp2
  go_ret2
  exact ⟨rfl, rfl⟩

theorem cells_four (w1 : World) (A : Obj) (a b c d : Value) (t : TypeId) : ∀ (j : Nat) (y : Value), ([a, b, c, d] : List Value)[j]? = some y → ((w1.alloc A).alloc (.cells #[a, b, c, d] t)).cell? ((⟨w1.heap.size + 1, 0, none⟩ : Addr).add j) = some y := by
  intro j y h
  have hs : w1.heap.size + 1 = (w1.alloc A).heap.size := by simp
  rw [hs, add_plain, Nat.zero_add, World.cell?, heap_alloc_new]
  simpa using h

set_option maxRecDepth 100000 in
set_option maxHeartbeats 1000000 in
theorem atomsOf_bool (b : Bool) (z : Int) (hz : (if b then (1 : Int) else 0) = z) (w : World) :
    Calls Try.prog 80 #[.iface 78 (.bool b), .slice none 0 0] w fun e w' => ∃ g c, e = .returned (.slice (some ⟨g, 0, none⟩) 1 c) ∧ w'.ownsRow w.heap.size 55 4 (.slice (some ⟨g, 0, none⟩) 1 c) 1 [.int .i64 2, .int .i64 z, .string ⟨#[]⟩, .int .i64 0] ∧ Below w.heap.size w w' := by
  obtain ⟨iN, hN, hNz, hNs, hNb⟩ := info_parts Try.infoAt
  have HK : Hid (Kinds (.iface 78 (.bool b)) 2) := hide ⟨_, _, kd_bool _, kind_bool _⟩
  have y1 := tay_b b
  have HB := hide (bit_any b)
  rw [hz] at HB
  clear hz
  go_enter Try.func80, Try.ntmps80
  go_wp2_with (show wpList _ _ _ ({ dst := _, op := Op.call { callee := Callee.invoke _ _, args := _, argTypes := _ }, type := _, pos := _, after := _, guard := _ } :: _) _ _; refine wpList_kind rfl (.tmp 15) rfl _ _ (by first | (simp [Act.eval]; done) | simp [Act.eval, Act.put]) HK.out ?_; intro w1 hb1)
  refine (HB.out _).mono ?_
  rintro e w2 ⟨rfl, rfl⟩
  go_wp2_with (at_builtin; refine wpList_append_own_at _ rfl _ _ 23 rfl w.heap.size 55 iN _ 4 40 Try.underlying23 hN hNz hNs hNb rfl (by decide) (.slice none 0 0) 0 [] rfl (World.ownsRow_nil _ _ _ _) ⟨w1.heap.size + 1, 0, none⟩ 1 1 [.int .i64 2, .int .i64 z, .string ⟨#[]⟩, .int .i64 0] rfl rfl (cells_four _ _ _ _ _ _ _) (by simp [Value.oneCell']) (by unfold maxLen; omega) (by omega) (by have := hb1.size; simp; omega) ?_)
  intro v5 w5 h1 h2 h3 h4
  obtain ⟨g5, c5, rfl⟩ := row_pos h1 (by omega)
  have B5 : Below w.heap.size w w5 := ((hb1.alloc hb1.size _).alloc (by have := hb1.size; simp; omega) _).grown h2 (by have := hb1.size; simp; omega) (fun q e => by simp [Value.ownBlock] at e)
  have HO := hide h1
  clear h1 h2 h3 h4
  go_wp2
  go_ret
  exact ⟨g5, c5, rfl, HO.out, B5⟩

set_option maxRecDepth 100000 in
set_option maxHeartbeats 1000000 in
theorem atomsOf_int (z : Int) (w : World) :
    Calls Try.prog 80 #[.iface 81 (.int .i64 z), .slice none 0 0] w fun e w' => ∃ g c, e = .returned (.slice (some ⟨g, 0, none⟩) 1 c) ∧ w'.ownsRow w.heap.size 55 4 (.slice (some ⟨g, 0, none⟩) 1 c) 1 [.int .i64 3, .int .i64 z, .string ⟨#[]⟩, .int .i64 0] ∧ Below w.heap.size w w' := by
  obtain ⟨iN, hN, hNz, hNs, hNb⟩ := info_parts Try.infoAt
  have HK : Hid (Kinds (.iface 81 (.int .i64 z)) 3) := hide ⟨_, _, kd_int _, kind_int _⟩
  have y1 := tay_i z
  have n1 := tan_b
  go_enter Try.func80, Try.ntmps80
  go_wp2_with (first | (show wpList _ _ _ ({ dst := _, op := Op.call { callee := Callee.invoke _ _, args := _, argTypes := _ }, type := _, pos := _, after := _, guard := _ } :: _) _ _; refine wpList_kind rfl (.tmp 15) rfl _ _ (by first | (simp [Act.eval]; done) | simp [Act.eval, Act.put]) HK.out ?_; intro w1 hb1) | (at_builtin; refine wpList_append_own_at _ rfl _ _ 23 rfl w.heap.size 55 iN _ 4 40 Try.underlying23 hN hNz hNs hNb rfl (by decide) (.slice none 0 0) 0 [] rfl (World.ownsRow_nil _ _ _ _) ⟨w1.heap.size + 1, 0, none⟩ 1 1 [.int .i64 3, .int .i64 z, .string ⟨#[]⟩, .int .i64 0] rfl rfl (cells_four _ _ _ _ _ _ _) (by simp [Value.oneCell']) (by unfold maxLen; omega) (by omega) (by have := hb1.size; simp; omega) ?_))
  intro v5 w5 h1 h2 h3 h4
  obtain ⟨g5, c5, rfl⟩ := row_pos h1 (by omega)
  have B5 : Below w.heap.size w w5 := ((hb1.alloc hb1.size _).alloc (by have := hb1.size; simp; omega) _).grown h2 (by have := hb1.size; simp; omega) (fun q e => by simp [Value.ownBlock] at e)
  have HO := hide h1
  clear h1 h2 h3 h4
  go_wp2
  go_ret
  exact ⟨g5, c5, rfl, HO.out, B5⟩
end Go.Proofs.Ytfpdoafpimaoaaa.Vl
