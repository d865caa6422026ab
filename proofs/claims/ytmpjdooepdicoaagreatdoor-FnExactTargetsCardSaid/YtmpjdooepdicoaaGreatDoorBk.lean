/- Targets, the program's side: errors.As walked. -/
import Derived.Test.YtmpjdooepdicoaaGreatDoorBj
import Derived.WalkKit
namespace Go.Proofs.YtmpjdooepdicoaaGreatDoor.Vl
open Go.RowKit Go.Extern.Stop Go.Stop Go.Extern

/-- What errors.errorType holds. -/
def ErrT (w : World) : Prop := w.cell? ⟨0, 0, none⟩ = some (.iface 128 (.agg #[.pointer (some ⟨2, 57, none⟩)]))
theorem ErrT.below {w w' : World} (h : ErrT w) (hb : Below w.heap.size w w') : ErrT w' := by
  have hlt : 0 < w.heap.size := World.block_lt_of_cell? w ⟨0, 0, none⟩ h
  exact (hb.cell (p := ⟨0, 0, none⟩) hlt).trans h
theorem old_cell (X : World) (o : Obj) (a : Addr) (v : Value) (h : X.cell? a = some v) : (X.alloc o).cell? a = some v := by
  have hl := World.block_lt_of_cell? X a h
  rw [World.cell?_alloc_lt _ _ a hl]; exact h
theorem new_cell (X : World) (o : Array Value) (ty : TypeId) (b j : Nat) (hb : X.heap.size = b) : (X.alloc (.cells o ty)).cell? ⟨b, j, none⟩ = o[j]? := by subst hb; simp
theorem old_froz (X : World) (o : Obj) (a : Addr) (hl : a.block < X.heap.size) (h : X.frozen? a = false) : (X.alloc o).frozen? a = false := by
  rw [World.frozen?_alloc_old _ _ a (Nat.ne_of_lt hl)]; exact h
set_option maxRecDepth 100000 in
set_option maxHeartbeats 4000000 in
theorem as_place (n k : Int) (t : Nat) (o0 o1 : Value) (w : World) (hg : ErrT w) (ht0 : w.cell? ⟨t, 0, none⟩ = some o0) (ht1 : w.cell? ⟨t, 1, none⟩ = some o1) (hf0 : w.frozen? ⟨t, 0, none⟩ = false) (hf1 : w.frozen? ⟨t, 1, none⟩ = false) :
    Calls Tryz.prog 21 #[.iface 61 (.agg #[.int .i64 n, .iface 63 (.agg #[.int .i64 k])]), .iface 65 (.pointer (some ⟨t, 0, none⟩))] w fun ev w' => ev = .returned (.bool true) ∧ ∃ W, Below w.heap.size w W ∧ w' = (W.setCell ⟨t, 0, none⟩ (.int .i64 n)).setCell ⟨t, 1, none⟩ (.iface 63 (.agg #[.int .i64 k])) := by
  have htl : t < w.heap.size := World.block_lt_of_cell? w ⟨t, 0, none⟩ ht0
  unfold ErrT at hg
  have hA := @run_callFunc_extern Tryz.prog 41 _ (fun args => ReflectliteValue.unpack (args.getD 0 (.tuple #[]))) Tryz.func41 (by kernel_rfl) (by kernel_rfl) (by kernel_rfl) (by kernel_rfl)
  have hB := @run_callFunc_extern Tryz.prog 42 _ (ReflectliteValue.methodAny (ReflectliteValue.valueError "reflectlite.Value.Type" 0) (fun t _ _ _ => ReflectliteType.toType t)) Tryz.func42 (by kernel_rfl) (by kernel_rfl) (by kernel_rfl) (by kernel_rfl)
  have hC := @run_callFunc_extern Tryz.prog 43 _ (ReflectliteValue.method (ReflectliteValue.valueError "reflectlite.Value.IsNil" 0) ReflectliteValue.isNil) Tryz.func43 (by kernel_rfl) (by kernel_rfl) (by kernel_rfl) (by kernel_rfl)
  have hD := @run_callFunc_extern Tryz.prog 128 _ (ReflectliteType.abiMethod fun t => do pure (.int .u8 (← Rtype.kind t))) Tryz.func128 (by kernel_rfl) (by kernel_rfl) (by kernel_rfl) (by kernel_rfl)
  have hE := @run_callFunc_extern Tryz.prog 140 _ (ReflectliteType.method ReflectliteType.elem) Tryz.func140 (by kernel_rfl) (by kernel_rfl) (by kernel_rfl) (by kernel_rfl)
  have hF := @run_callFunc_extern Tryz.prog 141 _ (ReflectliteType.relation "Implements" ReflectliteType.implements_) Tryz.func141 (by kernel_rfl) (by kernel_rfl) (by kernel_rfl) (by kernel_rfl)
  have hG := @run_callFunc_extern Tryz.prog 59 _ (ReflectliteType.typeOf) Tryz.func59 (by kernel_rfl) (by kernel_rfl) (by kernel_rfl) (by kernel_rfl)
  have hH := @run_callFunc_extern Tryz.prog 138 _ (ReflectliteType.relation "AssignableTo" ReflectliteType.assignableTo) Tryz.func138 (by kernel_rfl) (by kernel_rfl) (by kernel_rfl) (by kernel_rfl)
  have hI := @run_callFunc_extern Tryz.prog 60 _ (ReflectliteValue.method (ReflectliteValue.valueError "reflectlite.Value.Elem" 0) ReflectliteValue.elem) Tryz.func60 (by kernel_rfl) (by kernel_rfl) (by kernel_rfl) (by kernel_rfl)
  have hJ := @run_callFunc_extern Tryz.prog 61 _ (ReflectliteValue.set) Tryz.func61 (by kernel_rfl) (by kernel_rfl) (by kernel_rfl) (by kernel_rfl)
  have f1 := as.typeOfS_m
  have f2 := as.mAss
  have f3 := as.assS_m
  have f4 := as.valueOfS_m
  have f5 := as.valueOfP_m
  have f6 := as.typeP_m
  have f7 := as.mKind
  have f8 := as.mElem
  have f9 := as.mImpl
  have g1 := as.kindP_m
  have g2 := as.kindS_m
  have g3 := as.elemP_m
  have g4 := as.implS_m
  have B1 : Below w.heap.size w (w.alloc (.cells #[.pointer (some ⟨t, 0, none⟩)] 65)) := (Below.refl _ _).alloc (Nat.le_refl _) _
  have B4 : Hid (Below w.heap.size w ((((w.alloc (.cells #[.pointer (some ⟨t, 0, none⟩)] 65)).alloc (.cells #[.pointer (some ⟨2, 65, none⟩), .pointer (some ⟨w.heap.size, 0, none⟩), .int .u64 150] 98)).alloc (.cells #[.pointer (some ⟨2, 65, none⟩), .pointer (some ⟨w.heap.size, 0, none⟩), .int .u64 150] 98)).alloc (.cells #[.int .i64 n, .iface 63 (.agg #[.int .i64 k])] 61))) := (((B1.alloc (by simp) _).alloc (by simp; omega) _).alloc (by simp; omega) _)
  have c1 : (w.alloc (.cells #[.pointer (some ⟨t, 0, none⟩)] 65)).cell? ⟨w.heap.size, 0, none⟩ = some (.pointer (some ⟨t, 0, none⟩)) := by simp
  have c2 := old_cell _ (.cells #[.pointer (some ⟨2, 65, none⟩), .pointer (some ⟨w.heap.size, 0, none⟩), .int .u64 150] 98) _ _ c1
  have c3 := old_cell _ (.cells #[.pointer (some ⟨2, 65, none⟩), .pointer (some ⟨w.heap.size, 0, none⟩), .int .u64 150] 98) _ _ c2
  have n8 := as.isNilP_m _ _ _ c2
  have el := as.elemVP_m _ _ _ c3
  have hg2 := old_cell _ (.cells #[.pointer (some ⟨2, 65, none⟩), .pointer (some ⟨w.heap.size, 0, none⟩), .int .u64 150] 98) _ _ (old_cell _ (.cells #[.pointer (some ⟨t, 0, none⟩)] 65) _ _ hg)
  have s1 : (w.alloc (.cells #[.pointer (some ⟨t, 0, none⟩)] 65)).heap.size = w.heap.size + 1 := World.size_alloc _ _
  have s2 : ((w.alloc (.cells #[.pointer (some ⟨t, 0, none⟩)] 65)).alloc (.cells #[.pointer (some ⟨2, 65, none⟩), .pointer (some ⟨w.heap.size, 0, none⟩), .int .u64 150] 98)).heap.size = w.heap.size + 1 + 1 := by rw [World.size_alloc, s1]
  have s3 : (((w.alloc (.cells #[.pointer (some ⟨t, 0, none⟩)] 65)).alloc (.cells #[.pointer (some ⟨2, 65, none⟩), .pointer (some ⟨w.heap.size, 0, none⟩), .int .u64 150] 98)).alloc (.cells #[.pointer (some ⟨2, 65, none⟩), .pointer (some ⟨w.heap.size, 0, none⟩), .int .u64 150] 98)).heap.size = w.heap.size + 1 + 1 + 1 := by rw [World.size_alloc, s2]
  have d0 : ((((w.alloc (.cells #[.pointer (some ⟨t, 0, none⟩)] 65)).alloc (.cells #[.pointer (some ⟨2, 65, none⟩), .pointer (some ⟨w.heap.size, 0, none⟩), .int .u64 150] 98)).alloc (.cells #[.pointer (some ⟨2, 65, none⟩), .pointer (some ⟨w.heap.size, 0, none⟩), .int .u64 150] 98)).alloc (.cells #[.int .i64 n, .iface 63 (.agg #[.int .i64 k])] 61)).cell? ⟨w.heap.size + 1 + 1 + 1, 0, none⟩ = some (.int .i64 n) := new_cell _ _ _ _ _ s3
  have d1 : ((((w.alloc (.cells #[.pointer (some ⟨t, 0, none⟩)] 65)).alloc (.cells #[.pointer (some ⟨2, 65, none⟩), .pointer (some ⟨w.heap.size, 0, none⟩), .int .u64 150] 98)).alloc (.cells #[.pointer (some ⟨2, 65, none⟩), .pointer (some ⟨w.heap.size, 0, none⟩), .int .u64 150] 98)).alloc (.cells #[.int .i64 n, .iface 63 (.agg #[.int .i64 k])] 61)).cell? ⟨w.heap.size + 1 + 1 + 1, 1, none⟩ = some (.iface 63 (.agg #[.int .i64 k])) := new_cell _ _ _ _ _ s3
  have e0 := old_cell _ (.cells #[.int .i64 n, .iface 63 (.agg #[.int .i64 k])] 61) _ _ (old_cell _ (.cells #[.pointer (some ⟨2, 65, none⟩), .pointer (some ⟨w.heap.size, 0, none⟩), .int .u64 150] 98) _ _ (old_cell _ (.cells #[.pointer (some ⟨2, 65, none⟩), .pointer (some ⟨w.heap.size, 0, none⟩), .int .u64 150] 98) _ _ (old_cell _ (.cells #[.pointer (some ⟨t, 0, none⟩)] 65) _ _ ht0)))
  have e1 := old_cell _ (.cells #[.int .i64 n, .iface 63 (.agg #[.int .i64 k])] 61) _ _ (old_cell _ (.cells #[.pointer (some ⟨2, 65, none⟩), .pointer (some ⟨w.heap.size, 0, none⟩), .int .u64 150] 98) _ _ (old_cell _ (.cells #[.pointer (some ⟨2, 65, none⟩), .pointer (some ⟨w.heap.size, 0, none⟩), .int .u64 150] 98) _ _ (old_cell _ (.cells #[.pointer (some ⟨t, 0, none⟩)] 65) _ _ ht1)))
  have z0 := old_froz _ (.cells #[.int .i64 n, .iface 63 (.agg #[.int .i64 k])] 61) _ (by rw [s3]; show t < _; omega) (old_froz _ (.cells #[.pointer (some ⟨2, 65, none⟩), .pointer (some ⟨w.heap.size, 0, none⟩), .int .u64 150] 98) _ (by rw [s2]; show t < _; omega) (old_froz _ (.cells #[.pointer (some ⟨2, 65, none⟩), .pointer (some ⟨w.heap.size, 0, none⟩), .int .u64 150] 98) _ (by rw [s1]; show t < _; omega) (old_froz _ (.cells #[.pointer (some ⟨t, 0, none⟩)] 65) _ htl hf0)))
  have z1 := old_froz _ (.cells #[.int .i64 n, .iface 63 (.agg #[.int .i64 k])] 61) _ (by rw [s3]; show t < _; omega) (old_froz _ (.cells #[.pointer (some ⟨2, 65, none⟩), .pointer (some ⟨w.heap.size, 0, none⟩), .int .u64 150] 98) _ (by rw [s2]; show t < _; omega) (old_froz _ (.cells #[.pointer (some ⟨2, 65, none⟩), .pointer (some ⟨w.heap.size, 0, none⟩), .int .u64 150] 98) _ (by rw [s1]; show t < _; omega) (old_froz _ (.cells #[.pointer (some ⟨t, 0, none⟩)] 65) _ htl hf1)))
  have st := as.setS_m t (w.heap.size + 1 + 1 + 1) n _ _ _ _ _ d0 d1 e0 e1 z0 z1
  clear d0 d1 e0 e1 z0 z1 c1 c2 c3 B1 s1 s2 s3 ht0 ht1 hf0 hf1 hg
  go_enter Tryz.func21, Tryz.ntmps21
  go_wp2
  refine wp_loop_rounds 1 ?_
  rw [rounds_succ]
  go_wp2
  go_ret
  exact ⟨rfl, _, B4.out, rfl⟩
set_option maxRecDepth 100000 in
set_option maxHeartbeats 4000000 in
theorem as_why (n k : Int) (t : Nat) (o0 : Value) (w : World) (hg : ErrT w) (ht0 : w.cell? ⟨t, 0, none⟩ = some o0) (hf0 : w.frozen? ⟨t, 0, none⟩ = false) :
    Calls Tryz.prog 21 #[.iface 61 (.agg #[.int .i64 n, .iface 63 (.agg #[.int .i64 k])]), .iface 66 (.pointer (some ⟨t, 0, none⟩))] w fun ev w' => ev = .returned (.bool true) ∧ ∃ W, Below w.heap.size w W ∧ w' = W.setCell ⟨t, 0, none⟩ (.int .i64 k) := by
  have htl : t < w.heap.size := World.block_lt_of_cell? w ⟨t, 0, none⟩ ht0
  unfold ErrT at hg
  have hA := @run_callFunc_extern Tryz.prog 41 _ (fun args => ReflectliteValue.unpack (args.getD 0 (.tuple #[]))) Tryz.func41 (by kernel_rfl) (by kernel_rfl) (by kernel_rfl) (by kernel_rfl)
  have hB := @run_callFunc_extern Tryz.prog 42 _ (ReflectliteValue.methodAny (ReflectliteValue.valueError "reflectlite.Value.Type" 0) (fun t _ _ _ => ReflectliteType.toType t)) Tryz.func42 (by kernel_rfl) (by kernel_rfl) (by kernel_rfl) (by kernel_rfl)
  have hC := @run_callFunc_extern Tryz.prog 43 _ (ReflectliteValue.method (ReflectliteValue.valueError "reflectlite.Value.IsNil" 0) ReflectliteValue.isNil) Tryz.func43 (by kernel_rfl) (by kernel_rfl) (by kernel_rfl) (by kernel_rfl)
  have hD := @run_callFunc_extern Tryz.prog 128 _ (ReflectliteType.abiMethod fun t => do pure (.int .u8 (← Rtype.kind t))) Tryz.func128 (by kernel_rfl) (by kernel_rfl) (by kernel_rfl) (by kernel_rfl)
  have hE := @run_callFunc_extern Tryz.prog 140 _ (ReflectliteType.method ReflectliteType.elem) Tryz.func140 (by kernel_rfl) (by kernel_rfl) (by kernel_rfl) (by kernel_rfl)
  have hF := @run_callFunc_extern Tryz.prog 141 _ (ReflectliteType.relation "Implements" ReflectliteType.implements_) Tryz.func141 (by kernel_rfl) (by kernel_rfl) (by kernel_rfl) (by kernel_rfl)
  have hG := @run_callFunc_extern Tryz.prog 59 _ (ReflectliteType.typeOf) Tryz.func59 (by kernel_rfl) (by kernel_rfl) (by kernel_rfl) (by kernel_rfl)
  have hH := @run_callFunc_extern Tryz.prog 138 _ (ReflectliteType.relation "AssignableTo" ReflectliteType.assignableTo) Tryz.func138 (by kernel_rfl) (by kernel_rfl) (by kernel_rfl) (by kernel_rfl)
  have hI := @run_callFunc_extern Tryz.prog 60 _ (ReflectliteValue.method (ReflectliteValue.valueError "reflectlite.Value.Elem" 0) ReflectliteValue.elem) Tryz.func60 (by kernel_rfl) (by kernel_rfl) (by kernel_rfl) (by kernel_rfl)
  have hJ := @run_callFunc_extern Tryz.prog 61 _ (ReflectliteValue.set) Tryz.func61 (by kernel_rfl) (by kernel_rfl) (by kernel_rfl) (by kernel_rfl)
  have f1 := as.typeOfS_m
  have f1' := as.typeOfS_f
  have f2 := as.mAss
  have f3 := as.assMF
  have f3' := as.assS_f
  have f4 := as.valueOfS_f
  have f5 := as.valueOfP_f
  have f6 := as.typeP_f
  have f7 := as.mKind
  have f8 := as.mElem
  have f9 := as.mImpl
  have g1 := as.kindP_f
  have g2 := as.kindS_f
  have g3 := as.elemP_f
  have g4 := as.implS_f
  have g5 := as.noAs
  have g6 := as.unw
  have g7 := as.mUnw
  have B1 : Below w.heap.size w (w.alloc (.cells #[.pointer (some ⟨t, 0, none⟩)] 66)) := (Below.refl _ _).alloc (Nat.le_refl _) _
  have B5 : Hid (Below w.heap.size w (((((w.alloc (.cells #[.pointer (some ⟨t, 0, none⟩)] 66)).alloc (.cells #[.pointer (some ⟨2, 66, none⟩), .pointer (some ⟨w.heap.size, 0, none⟩), .int .u64 150] 98)).alloc (.cells #[.pointer (some ⟨2, 66, none⟩), .pointer (some ⟨w.heap.size, 0, none⟩), .int .u64 150] 98)).alloc (.cells #[.int .i64 n, .iface 63 (.agg #[.int .i64 k])] 61)).alloc (.cells #[.int .i64 k] 63))) := ((((B1.alloc (by simp) _).alloc (by simp; omega) _).alloc (by simp; omega) _).alloc (by simp; omega) _)
  have c1 : (w.alloc (.cells #[.pointer (some ⟨t, 0, none⟩)] 66)).cell? ⟨w.heap.size, 0, none⟩ = some (.pointer (some ⟨t, 0, none⟩)) := by simp
  have c2 := old_cell _ (.cells #[.pointer (some ⟨2, 66, none⟩), .pointer (some ⟨w.heap.size, 0, none⟩), .int .u64 150] 98) _ _ c1
  have c3 := old_cell _ (.cells #[.pointer (some ⟨2, 66, none⟩), .pointer (some ⟨w.heap.size, 0, none⟩), .int .u64 150] 98) _ _ c2
  have c4 := old_cell _ (.cells #[.int .i64 n, .iface 63 (.agg #[.int .i64 k])] 61) _ _ c3
  have n8 := as.isNilP_f _ _ _ c2
  have el := as.elemVP_f _ _ _ c4
  have hg2 := old_cell _ (.cells #[.pointer (some ⟨2, 66, none⟩), .pointer (some ⟨w.heap.size, 0, none⟩), .int .u64 150] 98) _ _ (old_cell _ (.cells #[.pointer (some ⟨t, 0, none⟩)] 66) _ _ hg)
  have s1 : (w.alloc (.cells #[.pointer (some ⟨t, 0, none⟩)] 66)).heap.size = w.heap.size + 1 := World.size_alloc _ _
  have s2 : ((w.alloc (.cells #[.pointer (some ⟨t, 0, none⟩)] 66)).alloc (.cells #[.pointer (some ⟨2, 66, none⟩), .pointer (some ⟨w.heap.size, 0, none⟩), .int .u64 150] 98)).heap.size = w.heap.size + 1 + 1 := by rw [World.size_alloc, s1]
  have s3 : (((w.alloc (.cells #[.pointer (some ⟨t, 0, none⟩)] 66)).alloc (.cells #[.pointer (some ⟨2, 66, none⟩), .pointer (some ⟨w.heap.size, 0, none⟩), .int .u64 150] 98)).alloc (.cells #[.pointer (some ⟨2, 66, none⟩), .pointer (some ⟨w.heap.size, 0, none⟩), .int .u64 150] 98)).heap.size = w.heap.size + 1 + 1 + 1 := by rw [World.size_alloc, s2]
  have s4 : ((((w.alloc (.cells #[.pointer (some ⟨t, 0, none⟩)] 66)).alloc (.cells #[.pointer (some ⟨2, 66, none⟩), .pointer (some ⟨w.heap.size, 0, none⟩), .int .u64 150] 98)).alloc (.cells #[.pointer (some ⟨2, 66, none⟩), .pointer (some ⟨w.heap.size, 0, none⟩), .int .u64 150] 98)).alloc (.cells #[.int .i64 n, .iface 63 (.agg #[.int .i64 k])] 61)).heap.size = w.heap.size + 1 + 1 + 1 + 1 := by rw [World.size_alloc, s3]
  have d0 : (((((w.alloc (.cells #[.pointer (some ⟨t, 0, none⟩)] 66)).alloc (.cells #[.pointer (some ⟨2, 66, none⟩), .pointer (some ⟨w.heap.size, 0, none⟩), .int .u64 150] 98)).alloc (.cells #[.pointer (some ⟨2, 66, none⟩), .pointer (some ⟨w.heap.size, 0, none⟩), .int .u64 150] 98)).alloc (.cells #[.int .i64 n, .iface 63 (.agg #[.int .i64 k])] 61)).alloc (.cells #[.int .i64 k] 63)).cell? ⟨w.heap.size + 1 + 1 + 1 + 1, 0, none⟩ = some (.int .i64 k) := new_cell _ _ _ _ _ s4
  have e0 := old_cell _ (.cells #[.int .i64 k] 63) _ _ (old_cell _ (.cells #[.int .i64 n, .iface 63 (.agg #[.int .i64 k])] 61) _ _ (old_cell _ (.cells #[.pointer (some ⟨2, 66, none⟩), .pointer (some ⟨w.heap.size, 0, none⟩), .int .u64 150] 98) _ _ (old_cell _ (.cells #[.pointer (some ⟨2, 66, none⟩), .pointer (some ⟨w.heap.size, 0, none⟩), .int .u64 150] 98) _ _ (old_cell _ (.cells #[.pointer (some ⟨t, 0, none⟩)] 66) _ _ ht0))))
  have z0 := old_froz _ (.cells #[.int .i64 k] 63) _ (by rw [s4]; show t < _; omega) (old_froz _ (.cells #[.int .i64 n, .iface 63 (.agg #[.int .i64 k])] 61) _ (by rw [s3]; show t < _; omega) (old_froz _ (.cells #[.pointer (some ⟨2, 66, none⟩), .pointer (some ⟨w.heap.size, 0, none⟩), .int .u64 150] 98) _ (by rw [s2]; show t < _; omega) (old_froz _ (.cells #[.pointer (some ⟨2, 66, none⟩), .pointer (some ⟨w.heap.size, 0, none⟩), .int .u64 150] 98) _ (by rw [s1]; show t < _; omega) (old_froz _ (.cells #[.pointer (some ⟨t, 0, none⟩)] 66) _ htl hf0))))
  have st := as.setS_f t (w.heap.size + 1 + 1 + 1 + 1) k _ _ d0 e0 z0
  clear d0 e0 z0 c1 c2 c3 c4 B1 s1 s2 s3 s4 ht0 hf0 hg
  go_enter Tryz.func21, Tryz.ntmps21
  go_wp2
  refine wp_loop_rounds 2 ?_
  rw [rounds_succ]
  go_wp2
  rw [rounds_succ]
  go_wp2
  go_ret
  exact ⟨rfl, _, B5.out, rfl⟩
end Go.Proofs.YtmpjdooepdicoaaGreatDoor.Vl
