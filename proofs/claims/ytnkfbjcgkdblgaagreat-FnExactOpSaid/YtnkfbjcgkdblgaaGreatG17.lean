/- Joined: Ec. -/
import Derived.Test.YtnkfbjcgkdblgaaGreatG14
namespace Go.Proofs.YtnkfbjcgkdblgaaGreat.Vl
open Go.RowKit T.atoms T.ok T.high T.good T.allPlain DatAt T.ord

/-- A word, or nothing to say and a datum: what a deed hands back. -/
def TupPost (K : Value → ByteArray → World → Prop) (e : Ending) (w' : World) : Prop := ∃ dv s, e = .returned (.tuple #[dv, .string s]) ∧ K dv s w'
/-- The type of a datum. -/
def DTy (y : TypeId) : Prop := y = 137 ∨ y = 83 ∨ y = 103 ∨ y = 89 ∨ y = 95 ∨ y = 100
theorem tay_d (y : TypeId) (u : Value) (w : World) (h : DTy y) : (Instr.typeAssert (.iface y u) 77 77 true).run Tryz.prog w = .ok (.tuple #[.iface y u, .bool true]) w := by
  rcases h with rfl | rfl | rfl | rfl | rfl | rfl <;> kernel_rfl
theorem dty_of {w : World} {x : Nat} {t : T} {v : Value} (h : DatAt w x t v) : ∃ y u, v = .iface y u ∧ DTy y := by
  cases t with
  | mk k n s ks =>
    rw [DatAt] at h
    rcases h with ⟨_, rfl⟩ | ⟨_, rfl⟩ | ⟨_, rfl⟩ | ⟨_, rfl⟩ | ⟨_, p, c, vs, rfl, _⟩ | ⟨_, p, c, m, vs, _, rfl, _⟩ <;> exact ⟨_, _, rfl, by unfold DTy; simp⟩
theorem run_store_func (P : Program) (w : World) (a : Addr) (fn : Fn) (x y : Array Value) : (store a (.func fn x y)).run P w = stored P w a (.func fn x y) .plain := run_store P w a _ _ rfl
def deedV (n : Int) (f b : Nat) : Value := .agg #[.int .i64 n, .func (.func f) #[] #[.pointer (some ⟨b, 0, none⟩)]]
/-- What makes a deed leaves: its box, and what lay before. -/
def Makes (w : World) (f : Nat) (fv : Value) (e : Ending) (w' : World) : Prop := e = .returned (deedV 2 f w.heap.size) ∧ w'.cell? ⟨w.heap.size, 0, none⟩ = some fv ∧ Below w.heap.size w w' ∧ w.heap.size < w'.heap.size
set_option maxHeartbeats 400000 in
theorem twoBB_any (f : FuncId) (caps : Array Value) (w : World) : Calls Tryz.prog 44 #[.func (.func f) #[] caps] w (Makes w 77 (.func (.func f) #[] caps)) := by
  have hsf := run_store_func Tryz.prog
  go_enter Tryz.func44, Tryz.ntmps44
  go_wp2
  refine bodyPost_ret (v := deedV 2 77 w.heap.size) (by simp [results, Tryz.results44, go_sem, deedV]) rfl ⟨rfl, ?_, ?_, by simp; omega⟩
  · exact (((Below.refl (w.heap.size + 1) (w.alloc (.cells #[.func (.func f) #[] caps] 84))).alloc (by simp) _).cell (p := ⟨w.heap.size, 0, none⟩) (Nat.lt_succ_self _)).trans (by simp)
  · exact ((Below.refl _ _).alloc (Nat.le_refl _) _).alloc (by simp) _
set_option maxRecDepth 100000 in
set_option maxHeartbeats 1000000 in
theorem twoBB_yes (f : FuncId) (xb : Bool) (zb : Bool) (g k : Nat) (K : Value → ByteArray → World → Prop) (w : World) (h0 : w.cell? ⟨g, 0, none⟩ = some (.iface 83 (.bool xb))) (h1 : w.cell? ⟨g, 1, none⟩ = some (.iface 83 (.bool zb))) (hk : w.cell? ⟨k, 0, none⟩ = some (.func (.func f) #[] #[])) (_hg : g < w.heap.size) (_hkl : k < w.heap.size) (hen : ∀ args w, (callFunc f args).run Tryz.prog w = .ok (.enter f args) w) (HC : Hid (∀ W, Below w.heap.size w W → Calls Tryz.prog f #[.bool xb, .bool zb] W (TupPost K))) :
    Calls Tryz.prog 77 #[.slice (some ⟨g, 0, none⟩) 2 2, .pointer (some ⟨k, 0, none⟩)] w (TupPost K) := by
  have y1 := tay_b xb
  have y2 := tay_b zb
  go_enter Tryz.func77, Tryz.ntmps77
  go_wp2_with fail
  refine (HC.out _ (Below.refl w.heap.size w)).mono ?_
  rintro e w' ⟨dv, s, rfl, hK⟩
  go_wp2
  go_ret2
  exact ⟨dv, s, rfl, hK⟩
set_option maxRecDepth 100000 in
set_option maxHeartbeats 1000000 in
theorem twoBB_yesc (f : FuncId) (q : Nat) (xb : Bool) (zb : Bool) (g k : Nat) (K : Value → ByteArray → World → Prop) (w : World) (h0 : w.cell? ⟨g, 0, none⟩ = some (.iface 83 (.bool xb))) (h1 : w.cell? ⟨g, 1, none⟩ = some (.iface 83 (.bool zb))) (hk : w.cell? ⟨k, 0, none⟩ = some (.func (.func f) #[] #[.pointer (some ⟨q, 0, none⟩)])) (_hg : g < w.heap.size) (_hkl : k < w.heap.size) (hen : ∀ args w, (callFunc f args).run Tryz.prog w = .ok (.enter f args) w) (HC : Hid (∀ W, Below w.heap.size w W → Calls Tryz.prog f #[.bool xb, .bool zb, .pointer (some ⟨q, 0, none⟩)] W (TupPost K))) :
    Calls Tryz.prog 77 #[.slice (some ⟨g, 0, none⟩) 2 2, .pointer (some ⟨k, 0, none⟩)] w (TupPost K) := by
  have y1 := tay_b xb
  have y2 := tay_b zb
  go_enter Tryz.func77, Tryz.ntmps77
  go_wp2_with fail
  refine (HC.out _ (Below.refl w.heap.size w)).mono ?_
  rintro e w' ⟨dv, s, rfl, hK⟩
  go_wp2
  go_ret2
  exact ⟨dv, s, rfl, hK⟩
set_option maxHeartbeats 1000000 in
theorem twoBB_no1 (y : TypeId) (u : Value) (hy : ¬ y = 83) (g k : Nat) (w : World) (h0 : w.cell? ⟨g, 0, none⟩ = some (.iface y u)) :
    Calls Tryz.prog 77 #[.slice (some ⟨g, 0, none⟩) 2 2, .pointer (some ⟨k, 0, none⟩)] w fun e w' => e = .returned (.tuple #[.nilIface, .string ⟨#[116, 121, 112, 101]⟩]) ∧ Below w.heap.size w w' := by
  have y1 := fun w => tan_b y u w hy
  go_enter Tryz.func77, Tryz.ntmps77
  go_wp2
  go_ret2
  first | exact ⟨rfl, Below.refl _ _⟩ | exact ⟨rfl, (Below.refl _ _).alloc (Nat.le_refl _) _⟩ | exact ⟨rfl, ((Below.refl _ _).alloc (Nat.le_refl _) _).alloc (by simp) _⟩
set_option maxHeartbeats 1000000 in
theorem twoBB_no2 (xb : Bool) (y : TypeId) (u : Value) (hy : ¬ y = 83) (g k : Nat) (w : World) (h0 : w.cell? ⟨g, 0, none⟩ = some (.iface 83 (.bool xb))) (h1 : w.cell? ⟨g, 1, none⟩ = some (.iface y u)) (_hg : g < w.heap.size) :
    Calls Tryz.prog 77 #[.slice (some ⟨g, 0, none⟩) 2 2, .pointer (some ⟨k, 0, none⟩)] w fun e w' => e = .returned (.tuple #[.nilIface, .string ⟨#[116, 121, 112, 101]⟩]) ∧ Below w.heap.size w w' := by
  have y1 := tay_b xb
  have y2 := fun w => tan_b y u w hy
  go_enter Tryz.func77, Tryz.ntmps77
  go_wp2
  go_ret2
  first | exact ⟨rfl, Below.refl _ _⟩ | exact ⟨rfl, (Below.refl _ _).alloc (Nat.le_refl _) _⟩ | exact ⟨rfl, ((Below.refl _ _).alloc (Nat.le_refl _) _).alloc (by simp) _⟩
set_option maxHeartbeats 400000 in
theorem twoTT_any (f : FuncId) (caps : Array Value) (w : World) : Calls Tryz.prog 56 #[.func (.func f) #[] caps] w (Makes w 86 (.func (.func f) #[] caps)) := by
  have hsf := run_store_func Tryz.prog
  go_enter Tryz.func56, Tryz.ntmps56
  go_wp2
  refine bodyPost_ret (v := deedV 2 86 w.heap.size) (by simp [results, Tryz.results56, go_sem, deedV]) rfl ⟨rfl, ?_, ?_, by simp; omega⟩
  · exact (((Below.refl (w.heap.size + 1) (w.alloc (.cells #[.func (.func f) #[] caps] 90))).alloc (by simp) _).cell (p := ⟨w.heap.size, 0, none⟩) (Nat.lt_succ_self _)).trans (by simp)
  · exact ((Below.refl _ _).alloc (Nat.le_refl _) _).alloc (by simp) _
set_option maxRecDepth 100000 in
set_option maxHeartbeats 1000000 in
theorem twoTT_yes (f : FuncId) (xs : ByteArray) (zs : ByteArray) (g k : Nat) (K : Value → ByteArray → World → Prop) (w : World) (h0 : w.cell? ⟨g, 0, none⟩ = some (.iface 89 (.string xs))) (h1 : w.cell? ⟨g, 1, none⟩ = some (.iface 89 (.string zs))) (hk : w.cell? ⟨k, 0, none⟩ = some (.func (.func f) #[] #[])) (_hg : g < w.heap.size) (_hkl : k < w.heap.size) (hen : ∀ args w, (callFunc f args).run Tryz.prog w = .ok (.enter f args) w) (HC : Hid (∀ W, Below w.heap.size w W → Calls Tryz.prog f #[.string xs, .string zs] W (TupPost K))) :
    Calls Tryz.prog 86 #[.slice (some ⟨g, 0, none⟩) 2 2, .pointer (some ⟨k, 0, none⟩)] w (TupPost K) := by
  have y1 := tay_t xs
  have y2 := tay_t zs
  go_enter Tryz.func86, Tryz.ntmps86
  go_wp2_with fail
  refine (HC.out _ (Below.refl w.heap.size w)).mono ?_
  rintro e w' ⟨dv, s, rfl, hK⟩
  go_wp2
  go_ret2
  exact ⟨dv, s, rfl, hK⟩
set_option maxRecDepth 100000 in
set_option maxHeartbeats 1000000 in
theorem twoTT_yesc (f : FuncId) (q : Nat) (xs : ByteArray) (zs : ByteArray) (g k : Nat) (K : Value → ByteArray → World → Prop) (w : World) (h0 : w.cell? ⟨g, 0, none⟩ = some (.iface 89 (.string xs))) (h1 : w.cell? ⟨g, 1, none⟩ = some (.iface 89 (.string zs))) (hk : w.cell? ⟨k, 0, none⟩ = some (.func (.func f) #[] #[.pointer (some ⟨q, 0, none⟩)])) (_hg : g < w.heap.size) (_hkl : k < w.heap.size) (hen : ∀ args w, (callFunc f args).run Tryz.prog w = .ok (.enter f args) w) (HC : Hid (∀ W, Below w.heap.size w W → Calls Tryz.prog f #[.string xs, .string zs, .pointer (some ⟨q, 0, none⟩)] W (TupPost K))) :
    Calls Tryz.prog 86 #[.slice (some ⟨g, 0, none⟩) 2 2, .pointer (some ⟨k, 0, none⟩)] w (TupPost K) := by
  have y1 := tay_t xs
  have y2 := tay_t zs
  go_enter Tryz.func86, Tryz.ntmps86
  go_wp2_with fail
  refine (HC.out _ (Below.refl w.heap.size w)).mono ?_
  rintro e w' ⟨dv, s, rfl, hK⟩
  go_wp2
  go_ret2
  exact ⟨dv, s, rfl, hK⟩
set_option maxHeartbeats 1000000 in
theorem twoTT_no1 (y : TypeId) (u : Value) (hy : ¬ y = 89) (g k : Nat) (w : World) (h0 : w.cell? ⟨g, 0, none⟩ = some (.iface y u)) :
    Calls Tryz.prog 86 #[.slice (some ⟨g, 0, none⟩) 2 2, .pointer (some ⟨k, 0, none⟩)] w fun e w' => e = .returned (.tuple #[.nilIface, .string ⟨#[116, 121, 112, 101]⟩]) ∧ Below w.heap.size w w' := by
  have y1 := fun w => ta_text_no y u w hy
  go_enter Tryz.func86, Tryz.ntmps86
  go_wp2
  go_ret2
  first | exact ⟨rfl, Below.refl _ _⟩ | exact ⟨rfl, (Below.refl _ _).alloc (Nat.le_refl _) _⟩ | exact ⟨rfl, ((Below.refl _ _).alloc (Nat.le_refl _) _).alloc (by simp) _⟩
set_option maxHeartbeats 1000000 in
theorem twoTT_no2 (xs : ByteArray) (y : TypeId) (u : Value) (hy : ¬ y = 89) (g k : Nat) (w : World) (h0 : w.cell? ⟨g, 0, none⟩ = some (.iface 89 (.string xs))) (h1 : w.cell? ⟨g, 1, none⟩ = some (.iface y u)) (_hg : g < w.heap.size) :
    Calls Tryz.prog 86 #[.slice (some ⟨g, 0, none⟩) 2 2, .pointer (some ⟨k, 0, none⟩)] w fun e w' => e = .returned (.tuple #[.nilIface, .string ⟨#[116, 121, 112, 101]⟩]) ∧ Below w.heap.size w w' := by
  have y1 := tay_t xs
  have y2 := fun w => ta_text_no y u w hy
  go_enter Tryz.func86, Tryz.ntmps86
  go_wp2
  go_ret2
  first | exact ⟨rfl, Below.refl _ _⟩ | exact ⟨rfl, (Below.refl _ _).alloc (Nat.le_refl _) _⟩ | exact ⟨rfl, ((Below.refl _ _).alloc (Nat.le_refl _) _).alloc (by simp) _⟩
set_option maxHeartbeats 400000 in
theorem twoLD_any (f : FuncId) (caps : Array Value) (w : World) : Calls Tryz.prog 58 #[.func (.func f) #[] caps] w (Makes w 88 (.func (.func f) #[] caps)) := by
  have hsf := run_store_func Tryz.prog
  go_enter Tryz.func58, Tryz.ntmps58
  go_wp2
  refine bodyPost_ret (v := deedV 2 88 w.heap.size) (by simp [results, Tryz.results58, go_sem, deedV]) rfl ⟨rfl, ?_, ?_, by simp; omega⟩
  · exact (((Below.refl (w.heap.size + 1) (w.alloc (.cells #[.func (.func f) #[] caps] 96))).alloc (by simp) _).cell (p := ⟨w.heap.size, 0, none⟩) (Nat.lt_succ_self _)).trans (by simp)
  · exact ((Below.refl _ _).alloc (Nat.le_refl _) _).alloc (by simp) _
set_option maxRecDepth 100000 in
set_option maxHeartbeats 1000000 in
theorem twoLD_yes (f : FuncId) (xp : Option Addr) (xn xc : Nat) (xa xd : Int) (zy : TypeId) (zu : Value) (zh : DTy zy) (g k : Nat) (K : Value → ByteArray → World → Prop) (w : World) (h0 : w.cell? ⟨g, 0, none⟩ = some (.iface 95 (.agg #[.slice xp xn xc, .int .i64 xa, .int .i64 xd]))) (h1 : w.cell? ⟨g, 1, none⟩ = some (.iface zy zu)) (hk : w.cell? ⟨k, 0, none⟩ = some (.func (.func f) #[] #[])) (_hg : g < w.heap.size) (_hkl : k < w.heap.size) (hen : ∀ args w, (callFunc f args).run Tryz.prog w = .ok (.enter f args) w) (HC : Hid (∀ W, Below w.heap.size w W → Calls Tryz.prog f #[.agg #[.slice xp xn xc, .int .i64 xa, .int .i64 xd], .iface zy zu] W (TupPost K))) :
    Calls Tryz.prog 88 #[.slice (some ⟨g, 0, none⟩) 2 2, .pointer (some ⟨k, 0, none⟩)] w (TupPost K) := by
  have y1 := tay_l xp xn xc xa xd
  have y2 := fun w => tay_d zy zu w zh
  have h1' : (w.alloc (.cells #[.slice xp xn xc, .int .i64 xa, .int .i64 xd] 95)).cell? ⟨g, 1, none⟩ = some (.iface zy zu) := (((Below.refl w.heap.size w).alloc (Nat.le_refl _) (.cells #[.slice xp xn xc, .int .i64 xa, .int .i64 xd] 95)).cell (p := ⟨g, 1, none⟩) _hg).trans h1
  have hk' : (w.alloc (.cells #[.slice xp xn xc, .int .i64 xa, .int .i64 xd] 95)).cell? ⟨k, 0, none⟩ = some (.func (.func f) #[] #[]) := (((Below.refl w.heap.size w).alloc (Nat.le_refl _) (.cells #[.slice xp xn xc, .int .i64 xa, .int .i64 xd] 95)).cell (p := ⟨k, 0, none⟩) _hkl).trans hk
  go_enter Tryz.func88, Tryz.ntmps88
  go_wp2_with fail
  refine (HC.out _ ((Below.refl w.heap.size w).alloc (Nat.le_refl _) (.cells #[.slice xp xn xc, .int .i64 xa, .int .i64 xd] 95))).mono ?_
  rintro e w' ⟨dv, s, rfl, hK⟩
  go_wp2
  go_ret2
  exact ⟨dv, s, rfl, hK⟩
set_option maxHeartbeats 1000000 in
theorem twoLD_no1 (y : TypeId) (u : Value) (hy : ¬ y = 95) (g k : Nat) (w : World) (h0 : w.cell? ⟨g, 0, none⟩ = some (.iface y u)) :
    Calls Tryz.prog 88 #[.slice (some ⟨g, 0, none⟩) 2 2, .pointer (some ⟨k, 0, none⟩)] w fun e w' => e = .returned (.tuple #[.nilIface, .string ⟨#[116, 121, 112, 101]⟩]) ∧ Below w.heap.size w w' := by
  have y1 := fun w => tan_l y u w hy
  go_enter Tryz.func88, Tryz.ntmps88
  go_wp2
  go_ret2
  first | exact ⟨rfl, Below.refl _ _⟩ | exact ⟨rfl, (Below.refl _ _).alloc (Nat.le_refl _) _⟩ | exact ⟨rfl, ((Below.refl _ _).alloc (Nat.le_refl _) _).alloc (by simp) _⟩
set_option maxHeartbeats 400000 in
theorem twoRT_any (f : FuncId) (caps : Array Value) (w : World) : Calls Tryz.prog 60 #[.func (.func f) #[] caps] w (Makes w 90 (.func (.func f) #[] caps)) := by
  have hsf := run_store_func Tryz.prog
  go_enter Tryz.func60, Tryz.ntmps60
  go_wp2
  refine bodyPost_ret (v := deedV 2 90 w.heap.size) (by simp [results, Tryz.results60, go_sem, deedV]) rfl ⟨rfl, ?_, ?_, by simp; omega⟩
  · exact (((Below.refl (w.heap.size + 1) (w.alloc (.cells #[.func (.func f) #[] caps] 101))).alloc (by simp) _).cell (p := ⟨w.heap.size, 0, none⟩) (Nat.lt_succ_self _)).trans (by simp)
  · exact ((Below.refl _ _).alloc (Nat.le_refl _) _).alloc (by simp) _
set_option maxRecDepth 100000 in
set_option maxHeartbeats 1000000 in
theorem twoRT_yes (f : FuncId) (xp : Option Addr) (xn xc : Nat) (xa xd : Int) (zs : ByteArray) (g k : Nat) (K : Value → ByteArray → World → Prop) (w : World) (h0 : w.cell? ⟨g, 0, none⟩ = some (.iface 100 (.agg #[.slice xp xn xc, .int .i64 xa, .int .i64 xd]))) (h1 : w.cell? ⟨g, 1, none⟩ = some (.iface 89 (.string zs))) (hk : w.cell? ⟨k, 0, none⟩ = some (.func (.func f) #[] #[])) (_hg : g < w.heap.size) (_hkl : k < w.heap.size) (hen : ∀ args w, (callFunc f args).run Tryz.prog w = .ok (.enter f args) w) (HC : Hid (∀ W, Below w.heap.size w W → Calls Tryz.prog f #[.agg #[.slice xp xn xc, .int .i64 xa, .int .i64 xd], .string zs] W (TupPost K))) :
    Calls Tryz.prog 90 #[.slice (some ⟨g, 0, none⟩) 2 2, .pointer (some ⟨k, 0, none⟩)] w (TupPost K) := by
  have y1 := tay_r xp xn xc xa xd
  have y2 := tay_t zs
  have h1' : (w.alloc (.cells #[.slice xp xn xc, .int .i64 xa, .int .i64 xd] 100)).cell? ⟨g, 1, none⟩ = some (.iface 89 (.string zs)) := (((Below.refl w.heap.size w).alloc (Nat.le_refl _) (.cells #[.slice xp xn xc, .int .i64 xa, .int .i64 xd] 100)).cell (p := ⟨g, 1, none⟩) _hg).trans h1
  have hk' : (w.alloc (.cells #[.slice xp xn xc, .int .i64 xa, .int .i64 xd] 100)).cell? ⟨k, 0, none⟩ = some (.func (.func f) #[] #[]) := (((Below.refl w.heap.size w).alloc (Nat.le_refl _) (.cells #[.slice xp xn xc, .int .i64 xa, .int .i64 xd] 100)).cell (p := ⟨k, 0, none⟩) _hkl).trans hk
  go_enter Tryz.func90, Tryz.ntmps90
  go_wp2_with fail
  refine (HC.out _ ((Below.refl w.heap.size w).alloc (Nat.le_refl _) (.cells #[.slice xp xn xc, .int .i64 xa, .int .i64 xd] 100))).mono ?_
  rintro e w' ⟨dv, s, rfl, hK⟩
  go_wp2
  go_ret2
  exact ⟨dv, s, rfl, hK⟩
set_option maxHeartbeats 1000000 in
theorem twoRT_no1 (y : TypeId) (u : Value) (hy : ¬ y = 100) (g k : Nat) (w : World) (h0 : w.cell? ⟨g, 0, none⟩ = some (.iface y u)) :
    Calls Tryz.prog 90 #[.slice (some ⟨g, 0, none⟩) 2 2, .pointer (some ⟨k, 0, none⟩)] w fun e w' => e = .returned (.tuple #[.nilIface, .string ⟨#[116, 121, 112, 101]⟩]) ∧ Below w.heap.size w w' := by
  have y1 := fun w => tan_r y u w hy
  go_enter Tryz.func90, Tryz.ntmps90
  go_wp2
  go_ret2
  first | exact ⟨rfl, Below.refl _ _⟩ | exact ⟨rfl, (Below.refl _ _).alloc (Nat.le_refl _) _⟩ | exact ⟨rfl, ((Below.refl _ _).alloc (Nat.le_refl _) _).alloc (by simp) _⟩
set_option maxHeartbeats 1000000 in
theorem twoRT_no2 (xp : Option Addr) (xn xc : Nat) (xa xd : Int) (y : TypeId) (u : Value) (hy : ¬ y = 89) (g k : Nat) (w : World) (h0 : w.cell? ⟨g, 0, none⟩ = some (.iface 100 (.agg #[.slice xp xn xc, .int .i64 xa, .int .i64 xd]))) (h1 : w.cell? ⟨g, 1, none⟩ = some (.iface y u)) (_hg : g < w.heap.size) :
    Calls Tryz.prog 90 #[.slice (some ⟨g, 0, none⟩) 2 2, .pointer (some ⟨k, 0, none⟩)] w fun e w' => e = .returned (.tuple #[.nilIface, .string ⟨#[116, 121, 112, 101]⟩]) ∧ Below w.heap.size w w' := by
  have y1 := tay_r xp xn xc xa xd
  have y2 := fun w => ta_text_no y u w hy
  have h1' : (w.alloc (.cells #[.slice xp xn xc, .int .i64 xa, .int .i64 xd] 100)).cell? ⟨g, 1, none⟩ = some (.iface y u) := (((Below.refl w.heap.size w).alloc (Nat.le_refl _) _).cell (p := ⟨g, 1, none⟩) _hg).trans h1
  go_enter Tryz.func90, Tryz.ntmps90
  go_wp2
  go_ret2
  first | exact ⟨rfl, Below.refl _ _⟩ | exact ⟨rfl, (Below.refl _ _).alloc (Nat.le_refl _) _⟩ | exact ⟨rfl, ((Below.refl _ _).alloc (Nat.le_refl _) _).alloc (by simp) _⟩
set_option maxHeartbeats 400000 in
theorem twoII_any (f : FuncId) (caps : Array Value) (w : World) : Calls Tryz.prog 62 #[.func (.func f) #[] caps] w (Makes w 92 (.func (.func f) #[] caps)) := by
  have hsf := run_store_func Tryz.prog
  go_enter Tryz.func62, Tryz.ntmps62
  go_wp2
  refine bodyPost_ret (v := deedV 2 92 w.heap.size) (by simp [results, Tryz.results62, go_sem, deedV]) rfl ⟨rfl, ?_, ?_, by simp; omega⟩
  · exact (((Below.refl (w.heap.size + 1) (w.alloc (.cells #[.func (.func f) #[] caps] 104))).alloc (by simp) _).cell (p := ⟨w.heap.size, 0, none⟩) (Nat.lt_succ_self _)).trans (by simp)
  · exact ((Below.refl _ _).alloc (Nat.le_refl _) _).alloc (by simp) _
set_option maxRecDepth 100000 in
set_option maxHeartbeats 1000000 in
theorem twoII_yes (f : FuncId) (xn : Int) (zn : Int) (g k : Nat) (K : Value → ByteArray → World → Prop) (w : World) (h0 : w.cell? ⟨g, 0, none⟩ = some (.iface 103 (.int .i64 xn))) (h1 : w.cell? ⟨g, 1, none⟩ = some (.iface 103 (.int .i64 zn))) (hk : w.cell? ⟨k, 0, none⟩ = some (.func (.func f) #[] #[])) (_hg : g < w.heap.size) (_hkl : k < w.heap.size) (hen : ∀ args w, (callFunc f args).run Tryz.prog w = .ok (.enter f args) w) (HC : Hid (∀ W, Below w.heap.size w W → Calls Tryz.prog f #[.int .i64 xn, .int .i64 zn] W (TupPost K))) :
    Calls Tryz.prog 92 #[.slice (some ⟨g, 0, none⟩) 2 2, .pointer (some ⟨k, 0, none⟩)] w (TupPost K) := by
  have y1 := tay_i xn
  have y2 := tay_i zn
  go_enter Tryz.func92, Tryz.ntmps92
  go_wp2_with fail
  refine (HC.out _ (Below.refl w.heap.size w)).mono ?_
  rintro e w' ⟨dv, s, rfl, hK⟩
  go_wp2
  go_ret2
  exact ⟨dv, s, rfl, hK⟩
set_option maxRecDepth 100000 in
set_option maxHeartbeats 1000000 in
theorem twoII_yesc (f : FuncId) (q : Nat) (xn : Int) (zn : Int) (g k : Nat) (K : Value → ByteArray → World → Prop) (w : World) (h0 : w.cell? ⟨g, 0, none⟩ = some (.iface 103 (.int .i64 xn))) (h1 : w.cell? ⟨g, 1, none⟩ = some (.iface 103 (.int .i64 zn))) (hk : w.cell? ⟨k, 0, none⟩ = some (.func (.func f) #[] #[.pointer (some ⟨q, 0, none⟩)])) (_hg : g < w.heap.size) (_hkl : k < w.heap.size) (hen : ∀ args w, (callFunc f args).run Tryz.prog w = .ok (.enter f args) w) (HC : Hid (∀ W, Below w.heap.size w W → Calls Tryz.prog f #[.int .i64 xn, .int .i64 zn, .pointer (some ⟨q, 0, none⟩)] W (TupPost K))) :
    Calls Tryz.prog 92 #[.slice (some ⟨g, 0, none⟩) 2 2, .pointer (some ⟨k, 0, none⟩)] w (TupPost K) := by
  have y1 := tay_i xn
  have y2 := tay_i zn
  go_enter Tryz.func92, Tryz.ntmps92
  go_wp2_with fail
  refine (HC.out _ (Below.refl w.heap.size w)).mono ?_
  rintro e w' ⟨dv, s, rfl, hK⟩
  go_wp2
  go_ret2
  exact ⟨dv, s, rfl, hK⟩
set_option maxHeartbeats 1000000 in
theorem twoII_no1 (y : TypeId) (u : Value) (hy : ¬ y = 103) (g k : Nat) (w : World) (h0 : w.cell? ⟨g, 0, none⟩ = some (.iface y u)) :
    Calls Tryz.prog 92 #[.slice (some ⟨g, 0, none⟩) 2 2, .pointer (some ⟨k, 0, none⟩)] w fun e w' => e = .returned (.tuple #[.nilIface, .string ⟨#[116, 121, 112, 101]⟩]) ∧ Below w.heap.size w w' := by
  have y1 := fun w => tan_i y u w hy
  go_enter Tryz.func92, Tryz.ntmps92
  go_wp2
  go_ret2
  first | exact ⟨rfl, Below.refl _ _⟩ | exact ⟨rfl, (Below.refl _ _).alloc (Nat.le_refl _) _⟩ | exact ⟨rfl, ((Below.refl _ _).alloc (Nat.le_refl _) _).alloc (by simp) _⟩
set_option maxHeartbeats 1000000 in
theorem twoII_no2 (xn : Int) (y : TypeId) (u : Value) (hy : ¬ y = 103) (g k : Nat) (w : World) (h0 : w.cell? ⟨g, 0, none⟩ = some (.iface 103 (.int .i64 xn))) (h1 : w.cell? ⟨g, 1, none⟩ = some (.iface y u)) (_hg : g < w.heap.size) :
    Calls Tryz.prog 92 #[.slice (some ⟨g, 0, none⟩) 2 2, .pointer (some ⟨k, 0, none⟩)] w fun e w' => e = .returned (.tuple #[.nilIface, .string ⟨#[116, 121, 112, 101]⟩]) ∧ Below w.heap.size w w' := by
  have y1 := tay_i xn
  have y2 := fun w => tan_i y u w hy
  go_enter Tryz.func92, Tryz.ntmps92
  go_wp2
  go_ret2
  first | exact ⟨rfl, Below.refl _ _⟩ | exact ⟨rfl, (Below.refl _ _).alloc (Nat.le_refl _) _⟩ | exact ⟨rfl, ((Below.refl _ _).alloc (Nat.le_refl _) _).alloc (by simp) _⟩
set_option maxHeartbeats 400000 in
theorem twoLL_any (f : FuncId) (caps : Array Value) (w : World) : Calls Tryz.prog 65 #[.func (.func f) #[] caps] w (Makes w 95 (.func (.func f) #[] caps)) := by
  have hsf := run_store_func Tryz.prog
  go_enter Tryz.func65, Tryz.ntmps65
  go_wp2
  refine bodyPost_ret (v := deedV 2 95 w.heap.size) (by simp [results, Tryz.results65, go_sem, deedV]) rfl ⟨rfl, ?_, ?_, by simp; omega⟩
  · exact (((Below.refl (w.heap.size + 1) (w.alloc (.cells #[.func (.func f) #[] caps] 106))).alloc (by simp) _).cell (p := ⟨w.heap.size, 0, none⟩) (Nat.lt_succ_self _)).trans (by simp)
  · exact ((Below.refl _ _).alloc (Nat.le_refl _) _).alloc (by simp) _
set_option maxRecDepth 100000 in
set_option maxHeartbeats 1000000 in
theorem twoLL_yes (f : FuncId) (xp : Option Addr) (xn xc : Nat) (xa xd : Int) (zp : Option Addr) (zn zc : Nat) (za zd : Int) (g k : Nat) (K : Value → ByteArray → World → Prop) (w : World) (h0 : w.cell? ⟨g, 0, none⟩ = some (.iface 95 (.agg #[.slice xp xn xc, .int .i64 xa, .int .i64 xd]))) (h1 : w.cell? ⟨g, 1, none⟩ = some (.iface 95 (.agg #[.slice zp zn zc, .int .i64 za, .int .i64 zd]))) (hk : w.cell? ⟨k, 0, none⟩ = some (.func (.func f) #[] #[])) (_hg : g < w.heap.size) (_hkl : k < w.heap.size) (hen : ∀ args w, (callFunc f args).run Tryz.prog w = .ok (.enter f args) w) (HC : Hid (∀ W, Below w.heap.size w W → Calls Tryz.prog f #[.agg #[.slice xp xn xc, .int .i64 xa, .int .i64 xd], .agg #[.slice zp zn zc, .int .i64 za, .int .i64 zd]] W (TupPost K))) :
    Calls Tryz.prog 95 #[.slice (some ⟨g, 0, none⟩) 2 2, .pointer (some ⟨k, 0, none⟩)] w (TupPost K) := by
  have y1 := tay_l xp xn xc xa xd
  have y2 := tay_l zp zn zc za zd
  have h1' : (w.alloc (.cells #[.slice xp xn xc, .int .i64 xa, .int .i64 xd] 95)).cell? ⟨g, 1, none⟩ = some (.iface 95 (.agg #[.slice zp zn zc, .int .i64 za, .int .i64 zd])) := (((Below.refl w.heap.size w).alloc (Nat.le_refl _) (.cells #[.slice xp xn xc, .int .i64 xa, .int .i64 xd] 95)).cell (p := ⟨g, 1, none⟩) _hg).trans h1
  have hk' : ((w.alloc (.cells #[.slice xp xn xc, .int .i64 xa, .int .i64 xd] 95)).alloc (.cells #[.slice zp zn zc, .int .i64 za, .int .i64 zd] 95)).cell? ⟨k, 0, none⟩ = some (.func (.func f) #[] #[]) := ((((Below.refl w.heap.size w).alloc (Nat.le_refl _) (.cells #[.slice xp xn xc, .int .i64 xa, .int .i64 xd] 95)).alloc (by simp) (.cells #[.slice zp zn zc, .int .i64 za, .int .i64 zd] 95)).cell (p := ⟨k, 0, none⟩) _hkl).trans hk
  go_enter Tryz.func95, Tryz.ntmps95
  go_wp2_with fail
  refine (HC.out _ (((Below.refl w.heap.size w).alloc (Nat.le_refl _) (.cells #[.slice xp xn xc, .int .i64 xa, .int .i64 xd] 95)).alloc (by simp) (.cells #[.slice zp zn zc, .int .i64 za, .int .i64 zd] 95))).mono ?_
  rintro e w' ⟨dv, s, rfl, hK⟩
  go_wp2
  go_ret2
  exact ⟨dv, s, rfl, hK⟩
set_option maxRecDepth 100000 in
set_option maxHeartbeats 1000000 in
theorem twoLL_yesc (f : FuncId) (q : Nat) (xp : Option Addr) (xn xc : Nat) (xa xd : Int) (zp : Option Addr) (zn zc : Nat) (za zd : Int) (g k : Nat) (K : Value → ByteArray → World → Prop) (w : World) (h0 : w.cell? ⟨g, 0, none⟩ = some (.iface 95 (.agg #[.slice xp xn xc, .int .i64 xa, .int .i64 xd]))) (h1 : w.cell? ⟨g, 1, none⟩ = some (.iface 95 (.agg #[.slice zp zn zc, .int .i64 za, .int .i64 zd]))) (hk : w.cell? ⟨k, 0, none⟩ = some (.func (.func f) #[] #[.pointer (some ⟨q, 0, none⟩)])) (_hg : g < w.heap.size) (_hkl : k < w.heap.size) (hen : ∀ args w, (callFunc f args).run Tryz.prog w = .ok (.enter f args) w) (HC : Hid (∀ W, Below w.heap.size w W → Calls Tryz.prog f #[.agg #[.slice xp xn xc, .int .i64 xa, .int .i64 xd], .agg #[.slice zp zn zc, .int .i64 za, .int .i64 zd], .pointer (some ⟨q, 0, none⟩)] W (TupPost K))) :
    Calls Tryz.prog 95 #[.slice (some ⟨g, 0, none⟩) 2 2, .pointer (some ⟨k, 0, none⟩)] w (TupPost K) := by
  have y1 := tay_l xp xn xc xa xd
  have y2 := tay_l zp zn zc za zd
  have h1' : (w.alloc (.cells #[.slice xp xn xc, .int .i64 xa, .int .i64 xd] 95)).cell? ⟨g, 1, none⟩ = some (.iface 95 (.agg #[.slice zp zn zc, .int .i64 za, .int .i64 zd])) := (((Below.refl w.heap.size w).alloc (Nat.le_refl _) (.cells #[.slice xp xn xc, .int .i64 xa, .int .i64 xd] 95)).cell (p := ⟨g, 1, none⟩) _hg).trans h1
  have hk' : ((w.alloc (.cells #[.slice xp xn xc, .int .i64 xa, .int .i64 xd] 95)).alloc (.cells #[.slice zp zn zc, .int .i64 za, .int .i64 zd] 95)).cell? ⟨k, 0, none⟩ = some (.func (.func f) #[] #[.pointer (some ⟨q, 0, none⟩)]) := ((((Below.refl w.heap.size w).alloc (Nat.le_refl _) (.cells #[.slice xp xn xc, .int .i64 xa, .int .i64 xd] 95)).alloc (by simp) (.cells #[.slice zp zn zc, .int .i64 za, .int .i64 zd] 95)).cell (p := ⟨k, 0, none⟩) _hkl).trans hk
  go_enter Tryz.func95, Tryz.ntmps95
  go_wp2_with fail
  refine (HC.out _ (((Below.refl w.heap.size w).alloc (Nat.le_refl _) (.cells #[.slice xp xn xc, .int .i64 xa, .int .i64 xd] 95)).alloc (by simp) (.cells #[.slice zp zn zc, .int .i64 za, .int .i64 zd] 95))).mono ?_
  rintro e w' ⟨dv, s, rfl, hK⟩
  go_wp2
  go_ret2
  exact ⟨dv, s, rfl, hK⟩
set_option maxHeartbeats 1000000 in
theorem twoLL_no1 (y : TypeId) (u : Value) (hy : ¬ y = 95) (g k : Nat) (w : World) (h0 : w.cell? ⟨g, 0, none⟩ = some (.iface y u)) :
    Calls Tryz.prog 95 #[.slice (some ⟨g, 0, none⟩) 2 2, .pointer (some ⟨k, 0, none⟩)] w fun e w' => e = .returned (.tuple #[.nilIface, .string ⟨#[116, 121, 112, 101]⟩]) ∧ Below w.heap.size w w' := by
  have y1 := fun w => tan_l y u w hy
  go_enter Tryz.func95, Tryz.ntmps95
  go_wp2
  go_ret2
  first | exact ⟨rfl, Below.refl _ _⟩ | exact ⟨rfl, (Below.refl _ _).alloc (Nat.le_refl _) _⟩ | exact ⟨rfl, ((Below.refl _ _).alloc (Nat.le_refl _) _).alloc (by simp) _⟩
set_option maxHeartbeats 1000000 in
theorem twoLL_no2 (xp : Option Addr) (xn xc : Nat) (xa xd : Int) (y : TypeId) (u : Value) (hy : ¬ y = 95) (g k : Nat) (w : World) (h0 : w.cell? ⟨g, 0, none⟩ = some (.iface 95 (.agg #[.slice xp xn xc, .int .i64 xa, .int .i64 xd]))) (h1 : w.cell? ⟨g, 1, none⟩ = some (.iface y u)) (_hg : g < w.heap.size) :
    Calls Tryz.prog 95 #[.slice (some ⟨g, 0, none⟩) 2 2, .pointer (some ⟨k, 0, none⟩)] w fun e w' => e = .returned (.tuple #[.nilIface, .string ⟨#[116, 121, 112, 101]⟩]) ∧ Below w.heap.size w w' := by
  have y1 := tay_l xp xn xc xa xd
  have y2 := fun w => tan_l y u w hy
  have h1' : (w.alloc (.cells #[.slice xp xn xc, .int .i64 xa, .int .i64 xd] 95)).cell? ⟨g, 1, none⟩ = some (.iface y u) := (((Below.refl w.heap.size w).alloc (Nat.le_refl _) _).cell (p := ⟨g, 1, none⟩) _hg).trans h1
  go_enter Tryz.func95, Tryz.ntmps95
  go_wp2
  go_ret2
  first | exact ⟨rfl, Below.refl _ _⟩ | exact ⟨rfl, (Below.refl _ _).alloc (Nat.le_refl _) _⟩ | exact ⟨rfl, ((Below.refl _ _).alloc (Nat.le_refl _) _).alloc (by simp) _⟩
set_option maxHeartbeats 400000 in
theorem twoRR_any (f : FuncId) (caps : Array Value) (w : World) : Calls Tryz.prog 67 #[.func (.func f) #[] caps] w (Makes w 98 (.func (.func f) #[] caps)) := by
  have hsf := run_store_func Tryz.prog
  go_enter Tryz.func67, Tryz.ntmps67
  go_wp2
  refine bodyPost_ret (v := deedV 2 98 w.heap.size) (by simp [results, Tryz.results67, go_sem, deedV]) rfl ⟨rfl, ?_, ?_, by simp; omega⟩
  · exact (((Below.refl (w.heap.size + 1) (w.alloc (.cells #[.func (.func f) #[] caps] 108))).alloc (by simp) _).cell (p := ⟨w.heap.size, 0, none⟩) (Nat.lt_succ_self _)).trans (by simp)
  · exact ((Below.refl _ _).alloc (Nat.le_refl _) _).alloc (by simp) _
set_option maxRecDepth 100000 in
set_option maxHeartbeats 1000000 in
theorem twoRR_yes (f : FuncId) (xp : Option Addr) (xn xc : Nat) (xa xd : Int) (zp : Option Addr) (zn zc : Nat) (za zd : Int) (g k : Nat) (K : Value → ByteArray → World → Prop) (w : World) (h0 : w.cell? ⟨g, 0, none⟩ = some (.iface 100 (.agg #[.slice xp xn xc, .int .i64 xa, .int .i64 xd]))) (h1 : w.cell? ⟨g, 1, none⟩ = some (.iface 100 (.agg #[.slice zp zn zc, .int .i64 za, .int .i64 zd]))) (hk : w.cell? ⟨k, 0, none⟩ = some (.func (.func f) #[] #[])) (_hg : g < w.heap.size) (_hkl : k < w.heap.size) (hen : ∀ args w, (callFunc f args).run Tryz.prog w = .ok (.enter f args) w) (HC : Hid (∀ W, Below w.heap.size w W → Calls Tryz.prog f #[.agg #[.slice xp xn xc, .int .i64 xa, .int .i64 xd], .agg #[.slice zp zn zc, .int .i64 za, .int .i64 zd]] W (TupPost K))) :
    Calls Tryz.prog 98 #[.slice (some ⟨g, 0, none⟩) 2 2, .pointer (some ⟨k, 0, none⟩)] w (TupPost K) := by
  have y1 := tay_r xp xn xc xa xd
  have y2 := tay_r zp zn zc za zd
  have h1' : (w.alloc (.cells #[.slice xp xn xc, .int .i64 xa, .int .i64 xd] 100)).cell? ⟨g, 1, none⟩ = some (.iface 100 (.agg #[.slice zp zn zc, .int .i64 za, .int .i64 zd])) := (((Below.refl w.heap.size w).alloc (Nat.le_refl _) (.cells #[.slice xp xn xc, .int .i64 xa, .int .i64 xd] 100)).cell (p := ⟨g, 1, none⟩) _hg).trans h1
  have hk' : ((w.alloc (.cells #[.slice xp xn xc, .int .i64 xa, .int .i64 xd] 100)).alloc (.cells #[.slice zp zn zc, .int .i64 za, .int .i64 zd] 100)).cell? ⟨k, 0, none⟩ = some (.func (.func f) #[] #[]) := ((((Below.refl w.heap.size w).alloc (Nat.le_refl _) (.cells #[.slice xp xn xc, .int .i64 xa, .int .i64 xd] 100)).alloc (by simp) (.cells #[.slice zp zn zc, .int .i64 za, .int .i64 zd] 100)).cell (p := ⟨k, 0, none⟩) _hkl).trans hk
  go_enter Tryz.func98, Tryz.ntmps98
  go_wp2_with fail
  refine (HC.out _ (((Below.refl w.heap.size w).alloc (Nat.le_refl _) (.cells #[.slice xp xn xc, .int .i64 xa, .int .i64 xd] 100)).alloc (by simp) (.cells #[.slice zp zn zc, .int .i64 za, .int .i64 zd] 100))).mono ?_
  rintro e w' ⟨dv, s, rfl, hK⟩
  go_wp2
  go_ret2
  exact ⟨dv, s, rfl, hK⟩
set_option maxHeartbeats 1000000 in
theorem twoRR_no1 (y : TypeId) (u : Value) (hy : ¬ y = 100) (g k : Nat) (w : World) (h0 : w.cell? ⟨g, 0, none⟩ = some (.iface y u)) :
    Calls Tryz.prog 98 #[.slice (some ⟨g, 0, none⟩) 2 2, .pointer (some ⟨k, 0, none⟩)] w fun e w' => e = .returned (.tuple #[.nilIface, .string ⟨#[116, 121, 112, 101]⟩]) ∧ Below w.heap.size w w' := by
  have y1 := fun w => tan_r y u w hy
  go_enter Tryz.func98, Tryz.ntmps98
  go_wp2
  go_ret2
  first | exact ⟨rfl, Below.refl _ _⟩ | exact ⟨rfl, (Below.refl _ _).alloc (Nat.le_refl _) _⟩ | exact ⟨rfl, ((Below.refl _ _).alloc (Nat.le_refl _) _).alloc (by simp) _⟩
set_option maxHeartbeats 1000000 in
theorem twoRR_no2 (xp : Option Addr) (xn xc : Nat) (xa xd : Int) (y : TypeId) (u : Value) (hy : ¬ y = 100) (g k : Nat) (w : World) (h0 : w.cell? ⟨g, 0, none⟩ = some (.iface 100 (.agg #[.slice xp xn xc, .int .i64 xa, .int .i64 xd]))) (h1 : w.cell? ⟨g, 1, none⟩ = some (.iface y u)) (_hg : g < w.heap.size) :
    Calls Tryz.prog 98 #[.slice (some ⟨g, 0, none⟩) 2 2, .pointer (some ⟨k, 0, none⟩)] w fun e w' => e = .returned (.tuple #[.nilIface, .string ⟨#[116, 121, 112, 101]⟩]) ∧ Below w.heap.size w w' := by
  have y1 := tay_r xp xn xc xa xd
  have y2 := fun w => tan_r y u w hy
  have h1' : (w.alloc (.cells #[.slice xp xn xc, .int .i64 xa, .int .i64 xd] 100)).cell? ⟨g, 1, none⟩ = some (.iface y u) := (((Below.refl w.heap.size w).alloc (Nat.le_refl _) _).cell (p := ⟨g, 1, none⟩) _hg).trans h1
  go_enter Tryz.func98, Tryz.ntmps98
  go_wp2
  go_ret2
  first | exact ⟨rfl, Below.refl _ _⟩ | exact ⟨rfl, (Below.refl _ _).alloc (Nat.le_refl _) _⟩ | exact ⟨rfl, ((Below.refl _ _).alloc (Nat.le_refl _) _).alloc (by simp) _⟩
set_option maxHeartbeats 400000 in
theorem twoDD_any (f : FuncId) (caps : Array Value) (w : World) : Calls Tryz.prog 78 #[.func (.func f) #[] caps] w (Makes w 106 (.func (.func f) #[] caps)) := by
  have hsf := run_store_func Tryz.prog
  go_enter Tryz.func78, Tryz.ntmps78
  go_wp2
  refine bodyPost_ret (v := deedV 2 106 w.heap.size) (by simp [results, Tryz.results78, go_sem, deedV]) rfl ⟨rfl, ?_, ?_, by simp; omega⟩
  · exact (((Below.refl (w.heap.size + 1) (w.alloc (.cells #[.func (.func f) #[] caps] 117))).alloc (by simp) _).cell (p := ⟨w.heap.size, 0, none⟩) (Nat.lt_succ_self _)).trans (by simp)
  · exact ((Below.refl _ _).alloc (Nat.le_refl _) _).alloc (by simp) _
set_option maxRecDepth 100000 in
set_option maxHeartbeats 1000000 in
theorem twoDD_yesc (f : FuncId) (q : Nat) (xy : TypeId) (xu : Value) (xh : DTy xy) (zy : TypeId) (zu : Value) (zh : DTy zy) (g k : Nat) (K : Value → ByteArray → World → Prop) (w : World) (h0 : w.cell? ⟨g, 0, none⟩ = some (.iface xy xu)) (h1 : w.cell? ⟨g, 1, none⟩ = some (.iface zy zu)) (hk : w.cell? ⟨k, 0, none⟩ = some (.func (.func f) #[] #[.pointer (some ⟨q, 0, none⟩)])) (_hg : g < w.heap.size) (_hkl : k < w.heap.size) (hen : ∀ args w, (callFunc f args).run Tryz.prog w = .ok (.enter f args) w) (HC : Hid (∀ W, Below w.heap.size w W → Calls Tryz.prog f #[.iface xy xu, .iface zy zu, .pointer (some ⟨q, 0, none⟩)] W (TupPost K))) :
    Calls Tryz.prog 106 #[.slice (some ⟨g, 0, none⟩) 2 2, .pointer (some ⟨k, 0, none⟩)] w (TupPost K) := by
  have y1 := fun w => tay_d xy xu w xh
  have y2 := fun w => tay_d zy zu w zh
  go_enter Tryz.func106, Tryz.ntmps106
  go_wp2_with fail
  refine (HC.out _ (Below.refl w.heap.size w)).mono ?_
  rintro e w' ⟨dv, s, rfl, hK⟩
  go_wp2
  go_ret2
  exact ⟨dv, s, rfl, hK⟩
end Go.Proofs.YtnkfbjcgkdblgaaGreat.Vl
