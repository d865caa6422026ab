/- Targets, the program's side: errors.As at the two kinds of errors. -/
import Derived.Test.YtmpjdooepdicoaaGreatDoorQb
import Derived.LaidEql
import Derived.Stop.Asserts
import Derived.RowKitTokens
namespace Go.Proofs.YtmpjdooepdicoaaGreatDoor.Vl
open Go.RowKit Go.Extern.Stop Go.Stop Go.Extern

theorem as.noAs (v : Value) (w : World) : (Instr.typeAssert (.iface 61 v) 57 133 true).run Tryz.prog w = .ok (.tuple #[.nilIface, .bool false]) w := run_typeAssert_lacksB Tryz.underlying133 (by kernel_rfl) (by kernel_rfl) v _ w
theorem as.unw (v : Value) (w : World) : (Instr.typeAssert (.iface 61 v) 57 136 true).run Tryz.prog w = .ok (.tuple #[.iface 61 v, .bool true]) w := by kernel_rfl
theorem as.mUnw (n : Int) (e : Value) (w : World) : (Go.method 341 61 (.agg #[.int .i64 n, e]) "Unwrap").run Tryz.prog w = .ok (132, .agg #[.int .i64 n, e]) w := by kernel_rfl
/-- errors.As(nil, target). -/
theorem as_nil (t : Value) (w : World) : Calls Tryz.prog 21 #[.nilIface, t] w fun e w' => e = .returned (.bool false) ∧ w' = w := by
  go_enter Tryz.func21, Tryz.ntmps21
  go_wp2
  go_ret
  exact ⟨rfl, rfl⟩
theorem as.mKind (h : Value) (w : World) : (Go.method 341 128 (.agg #[h]) "Kind").run Tryz.prog w = .ok (128, h) w := by kernel_rfl
theorem as.mElem (h : Value) (w : World) : (Go.method 341 128 (.agg #[h]) "Elem").run Tryz.prog w = .ok (140, .agg #[h]) w := by kernel_rfl
theorem as.mImpl (h : Value) (w : World) : (Go.method 341 128 (.agg #[h]) "Implements").run Tryz.prog w = .ok (141, .agg #[h]) w := by kernel_rfl
theorem as.mAss (h : Value) (w : World) : (Go.method 341 128 (.agg #[h]) "AssignableTo").run Tryz.prog w = .ok (138, .agg #[h]) w := by kernel_rfl
theorem as.valueOfP_m (t : Addr) (w : World) : (ReflectliteValue.unpack (.iface 65 (.pointer (some t)))).run Tryz.prog w
    = .ok (.agg #[.pointer (some ⟨2, 65, none⟩), .pointer (some ⟨w.heap.size, 0, none⟩), .int .u64 150]) (w.alloc (.cells #[.pointer (some t)] 65)) := by kernel_rfl
theorem as.typeP_m (a : Addr) (w : World) : (ReflectliteValue.methodAny (ReflectliteValue.valueError "reflectlite.Value.Type" 0) (fun t _ _ _ => ReflectliteType.toType t) #[.agg #[.pointer (some ⟨2, 65, none⟩), .pointer (some a), .int .u64 150]]).run Tryz.prog w
    = .ok (.iface 128 (.agg #[.pointer (some ⟨2, 65, none⟩)])) w := by kernel_rfl
theorem as.kindP_m (w : World) : ((ReflectliteType.abiMethod fun t => Functor.map (fun a : Nat => Value.int IntKind.u8 (a : Int)) (Rtype.kind t)) #[.pointer (some ⟨2, 65, none⟩)]).run Tryz.prog w = .ok (.int .u8 22) w := by kernel_rfl
theorem as.kindS_m (w : World) : ((ReflectliteType.abiMethod fun t => Functor.map (fun a : Nat => Value.int IntKind.u8 (a : Int)) (Rtype.kind t)) #[.pointer (some ⟨2, 61, none⟩)]).run Tryz.prog w = .ok (.int .u8 25) w := by kernel_rfl
theorem as.partsP_m (a : Addr) (w : World) : (ReflectliteValue.parts (.agg #[.pointer (some ⟨2, 65, none⟩), .pointer (some a), .int .u64 150])).run Tryz.prog w = .ok (some (65, a, 150)) w := by kernel_rfl
theorem as.isNilP_m (a p : Addr) (W : World) (ha : W.cell? a = some (.pointer (some p))) :
    (ReflectliteValue.method (ReflectliteValue.valueError "reflectlite.Value.IsNil" 0) ReflectliteValue.isNil #[.agg #[.pointer (some ⟨2, 65, none⟩), .pointer (some a), .int .u64 150]]).run Tryz.prog W = .ok (.bool false) W := by
  have rlm := fun z f v => @id (ReflectliteValue.method z f #[v] = ReflectliteValue.parts v >>= _) rfl
  rw [rlm]
  simp only [Sem.run_bind, as.partsP_m, Result.andThen]
  simp [ReflectliteValue.isNil, loadVar, isAgg, underlying, Tryz.underlying65, ha, Result.andThen]
theorem as.elemP_m (w : World) : (ReflectliteType.method ReflectliteType.elem #[.agg #[.pointer (some ⟨2, 65, none⟩)]]).run Tryz.prog w = .ok (.iface 128 (.agg #[.pointer (some ⟨2, 61, none⟩)])) w := by kernel_rfl
theorem as.implS_m (w : World) : (ReflectliteType.relation "Implements" ReflectliteType.implements_ #[.agg #[.pointer (some ⟨2, 61, none⟩)], .iface 128 (.agg #[.pointer (some ⟨2, 57, none⟩)])]).run Tryz.prog w = .ok (.bool true) w := by kernel_rfl
theorem as.typeOfS_m (v : Value) (w : World) : (ReflectliteType.typeOf #[.iface 61 v]).run Tryz.prog w = .ok (.iface 128 (.agg #[.pointer (some ⟨2, 61, none⟩)])) w := by kernel_rfl
theorem as.assS_m (w : World) : (ReflectliteType.relation "AssignableTo" ReflectliteType.assignableTo #[.agg #[.pointer (some ⟨2, 61, none⟩)], .iface 128 (.agg #[.pointer (some ⟨2, 61, none⟩)])]).run Tryz.prog w = .ok (.bool true) w := by kernel_rfl
theorem as.elemOfP_m (w : World) : (Rtype.elem? 65).run Tryz.prog w = .ok (some 61) w := by kernel_rfl
theorem as.mkS_m (p : Addr) (w : World) : (ReflectliteValue.mk 61 p ReflectliteValue.flagAddr).run Tryz.prog w = .ok (.agg #[.pointer (some ⟨2, 61, none⟩), .pointer (some p), .int .u64 409]) w := by kernel_rfl
theorem as.elemVP_m (a p : Addr) (W : World) (ha : W.cell? a = some (.pointer (some p))) :
    (ReflectliteValue.method (ReflectliteValue.valueError "reflectlite.Value.Elem" 0) ReflectliteValue.elem #[.agg #[.pointer (some ⟨2, 65, none⟩), .pointer (some a), .int .u64 150]]).run Tryz.prog W
      = .ok (.agg #[.pointer (some ⟨2, 61, none⟩), .pointer (some p), .int .u64 409]) W := by
  have rlm := fun z f v => @id (ReflectliteValue.method z f #[v] = ReflectliteValue.parts v >>= _) rfl
  rw [rlm]
  simp only [Sem.run_bind, as.partsP_m, Result.andThen]
  simp [ReflectliteValue.elem, loadVar, isAgg, underlying, Tryz.underlying65, ha, Result.andThen, as.elemOfP_m, as.mkS_m]
theorem as.partsSa_m (a : Addr) (w : World) : (ReflectliteValue.parts (.agg #[.pointer (some ⟨2, 61, none⟩), .pointer (some a), .int .u64 409])).run Tryz.prog w = .ok (some (61, a, 409)) w := by kernel_rfl
theorem as.partsS_m (a : Addr) (w : World) : (ReflectliteValue.parts (.agg #[.pointer (some ⟨2, 61, none⟩), .pointer (some a), .int .u64 153])).run Tryz.prog w = .ok (some (61, a, 153)) w := by kernel_rfl
theorem as.directS_m (w : World) : (Rtype.directlyAssignable 61 61).run Tryz.prog w = .ok true w := by kernel_rfl
theorem as.valueOfP_f (t : Addr) (w : World) : (ReflectliteValue.unpack (.iface 66 (.pointer (some t)))).run Tryz.prog w
    = .ok (.agg #[.pointer (some ⟨2, 66, none⟩), .pointer (some ⟨w.heap.size, 0, none⟩), .int .u64 150]) (w.alloc (.cells #[.pointer (some t)] 66)) := by kernel_rfl
theorem as.typeP_f (a : Addr) (w : World) : (ReflectliteValue.methodAny (ReflectliteValue.valueError "reflectlite.Value.Type" 0) (fun t _ _ _ => ReflectliteType.toType t) #[.agg #[.pointer (some ⟨2, 66, none⟩), .pointer (some a), .int .u64 150]]).run Tryz.prog w
    = .ok (.iface 128 (.agg #[.pointer (some ⟨2, 66, none⟩)])) w := by kernel_rfl
theorem as.kindP_f (w : World) : ((ReflectliteType.abiMethod fun t => Functor.map (fun a : Nat => Value.int IntKind.u8 (a : Int)) (Rtype.kind t)) #[.pointer (some ⟨2, 66, none⟩)]).run Tryz.prog w = .ok (.int .u8 22) w := by kernel_rfl
theorem as.kindS_f (w : World) : ((ReflectliteType.abiMethod fun t => Functor.map (fun a : Nat => Value.int IntKind.u8 (a : Int)) (Rtype.kind t)) #[.pointer (some ⟨2, 63, none⟩)]).run Tryz.prog w = .ok (.int .u8 25) w := by kernel_rfl
theorem as.partsP_f (a : Addr) (w : World) : (ReflectliteValue.parts (.agg #[.pointer (some ⟨2, 66, none⟩), .pointer (some a), .int .u64 150])).run Tryz.prog w = .ok (some (66, a, 150)) w := by kernel_rfl
theorem as.isNilP_f (a p : Addr) (W : World) (ha : W.cell? a = some (.pointer (some p))) :
    (ReflectliteValue.method (ReflectliteValue.valueError "reflectlite.Value.IsNil" 0) ReflectliteValue.isNil #[.agg #[.pointer (some ⟨2, 66, none⟩), .pointer (some a), .int .u64 150]]).run Tryz.prog W = .ok (.bool false) W := by
  have rlm := fun z f v => @id (ReflectliteValue.method z f #[v] = ReflectliteValue.parts v >>= _) rfl
  rw [rlm]
  simp only [Sem.run_bind, as.partsP_f, Result.andThen]
  simp [ReflectliteValue.isNil, loadVar, isAgg, underlying, Tryz.underlying66, ha, Result.andThen]
theorem as.elemP_f (w : World) : (ReflectliteType.method ReflectliteType.elem #[.agg #[.pointer (some ⟨2, 66, none⟩)]]).run Tryz.prog w = .ok (.iface 128 (.agg #[.pointer (some ⟨2, 63, none⟩)])) w := by kernel_rfl
theorem as.implS_f (w : World) : (ReflectliteType.relation "Implements" ReflectliteType.implements_ #[.agg #[.pointer (some ⟨2, 63, none⟩)], .iface 128 (.agg #[.pointer (some ⟨2, 57, none⟩)])]).run Tryz.prog w = .ok (.bool true) w := by kernel_rfl
theorem as.typeOfS_f (v : Value) (w : World) : (ReflectliteType.typeOf #[.iface 63 v]).run Tryz.prog w = .ok (.iface 128 (.agg #[.pointer (some ⟨2, 63, none⟩)])) w := by kernel_rfl
theorem as.assS_f (w : World) : (ReflectliteType.relation "AssignableTo" ReflectliteType.assignableTo #[.agg #[.pointer (some ⟨2, 63, none⟩)], .iface 128 (.agg #[.pointer (some ⟨2, 63, none⟩)])]).run Tryz.prog w = .ok (.bool true) w := by kernel_rfl
theorem as.elemOfP_f (w : World) : (Rtype.elem? 66).run Tryz.prog w = .ok (some 63) w := by kernel_rfl
theorem as.mkS_f (p : Addr) (w : World) : (ReflectliteValue.mk 63 p ReflectliteValue.flagAddr).run Tryz.prog w = .ok (.agg #[.pointer (some ⟨2, 63, none⟩), .pointer (some p), .int .u64 409]) w := by kernel_rfl
theorem as.elemVP_f (a p : Addr) (W : World) (ha : W.cell? a = some (.pointer (some p))) :
    (ReflectliteValue.method (ReflectliteValue.valueError "reflectlite.Value.Elem" 0) ReflectliteValue.elem #[.agg #[.pointer (some ⟨2, 66, none⟩), .pointer (some a), .int .u64 150]]).run Tryz.prog W
      = .ok (.agg #[.pointer (some ⟨2, 63, none⟩), .pointer (some p), .int .u64 409]) W := by
  have rlm := fun z f v => @id (ReflectliteValue.method z f #[v] = ReflectliteValue.parts v >>= _) rfl
  rw [rlm]
  simp only [Sem.run_bind, as.partsP_f, Result.andThen]
  simp [ReflectliteValue.elem, loadVar, isAgg, underlying, Tryz.underlying66, ha, Result.andThen, as.elemOfP_f, as.mkS_f]
theorem as.partsSa_f (a : Addr) (w : World) : (ReflectliteValue.parts (.agg #[.pointer (some ⟨2, 63, none⟩), .pointer (some a), .int .u64 409])).run Tryz.prog w = .ok (some (63, a, 409)) w := by kernel_rfl
theorem as.partsS_f (a : Addr) (w : World) : (ReflectliteValue.parts (.agg #[.pointer (some ⟨2, 63, none⟩), .pointer (some a), .int .u64 153])).run Tryz.prog w = .ok (some (63, a, 153)) w := by kernel_rfl
theorem as.directS_f (w : World) : (Rtype.directlyAssignable 63 63).run Tryz.prog w = .ok true w := by kernel_rfl
theorem as.valueOfS_m (n : Int) (e : Value) (w : World) : (ReflectliteValue.unpack (.iface 61 (.agg #[.int .i64 n, e]))).run Tryz.prog w
    = .ok (.agg #[.pointer (some ⟨2, 61, none⟩), .pointer (some ⟨w.heap.size, 0, none⟩), .int .u64 153]) (w.alloc (.cells #[.int .i64 n, e] 61)) := by kernel_rfl
theorem as.valueOfS_f (n : Int) (w : World) : (ReflectliteValue.unpack (.iface 63 (.agg #[.int .i64 n]))).run Tryz.prog w
    = .ok (.agg #[.pointer (some ⟨2, 63, none⟩), .pointer (some ⟨w.heap.size, 0, none⟩), .int .u64 153]) (w.alloc (.cells #[.int .i64 n] 63)) := by kernel_rfl
theorem as.assMF (w : World) : (ReflectliteType.relation "AssignableTo" ReflectliteType.assignableTo #[.agg #[.pointer (some ⟨2, 61, none⟩)], .iface 128 (.agg #[.pointer (some ⟨2, 63, none⟩)])]).run Tryz.prog w = .ok (.bool false) w := by kernel_rfl
theorem as.setS_f (t b : Nat) (n : Int) (old : Value) (W : World) (hb : W.cell? ⟨b, 0, none⟩ = some (.int .i64 n)) (ht : W.cell? ⟨t, 0, none⟩ = some old) (hf : W.frozen? ⟨t, 0, none⟩ = false) :
    (ReflectliteValue.set #[.agg #[.pointer (some ⟨2, 63, none⟩), .pointer (some ⟨t, 0, none⟩), .int .u64 409], .agg #[.pointer (some ⟨2, 63, none⟩), .pointer (some ⟨b, 0, none⟩), .int .u64 153]]).run Tryz.prog W
      = .ok (.tuple #[]) (W.setCell ⟨t, 0, none⟩ (.int .i64 n)) := by
  have hl : (loadVar 63 ⟨b, 0, none⟩).run Tryz.prog W = .ok (.agg #[.int .i64 n]) W := by
    simp only [loadVar, Sem.run_bind, Tryz.isAgg63, Tryz.sizeOf63, Result.andThen, if_true]
    simp [loadCells, loadCellsFrom, Addr.add, hb, Result.andThen]
  have hst : (storeVar 63 ⟨t, 0, none⟩ (.agg #[.int .i64 n])).run Tryz.prog W = .ok () (W.setCell ⟨t, 0, none⟩ (.int .i64 n)) := by
    simp only [storeVar, Sem.run_bind, Tryz.sizeOf63, Result.andThen]
    simp [Value.cells, storeCells, Addr.add]
    rw [run_store Tryz.prog W ⟨t, 0, none⟩ _ _ (by rfl)]
    simp [ht, hf]
  have rls := fun v x => @id (ReflectliteValue.set #[v, x] = ReflectliteValue.parts v >>= fun p => ReflectliteValue.parts x >>= _) rfl
  rw [rls]
  simp only [Sem.run_bind, as.partsSa_f, as.partsS_f, Result.andThen]
  simp [ReflectliteValue.flagAddr, hl, as.directS_f, hst, Result.andThen]
theorem as.setS_m (t b : Nat) (n : Int) (ty : TypeId) (u old0 old1 : Value) (W : World) (hb : W.cell? ⟨b, 0, none⟩ = some (.int .i64 n)) (hb1 : W.cell? ⟨b, 1, none⟩ = some (.iface ty u)) (ht : W.cell? ⟨t, 0, none⟩ = some old0) (ht1 : W.cell? ⟨t, 1, none⟩ = some old1) (hf : W.frozen? ⟨t, 0, none⟩ = false) (hf1 : W.frozen? ⟨t, 1, none⟩ = false) :
    (ReflectliteValue.set #[.agg #[.pointer (some ⟨2, 61, none⟩), .pointer (some ⟨t, 0, none⟩), .int .u64 409], .agg #[.pointer (some ⟨2, 61, none⟩), .pointer (some ⟨b, 0, none⟩), .int .u64 153]]).run Tryz.prog W
      = .ok (.tuple #[]) ((W.setCell ⟨t, 0, none⟩ (.int .i64 n)).setCell ⟨t, 1, none⟩ (.iface ty u)) := by
  have hl : (loadVar 61 ⟨b, 0, none⟩).run Tryz.prog W = .ok (.agg #[.int .i64 n, .iface ty u]) W := by
    simp only [loadVar, Sem.run_bind, Tryz.isAgg61, Tryz.sizeOf61, Result.andThen, if_true]
    simp [loadCells, loadCellsFrom, Addr.add, hb, hb1, Result.andThen]
  have hst : (storeVar 61 ⟨t, 0, none⟩ (.agg #[.int .i64 n, .iface ty u])).run Tryz.prog W = .ok () ((W.setCell ⟨t, 0, none⟩ (.int .i64 n)).setCell ⟨t, 1, none⟩ (.iface ty u)) := by
    simp only [storeVar, Sem.run_bind, Tryz.sizeOf61, Result.andThen]
    simp [Value.cells, storeCells, Addr.add]
    rw [run_store Tryz.prog W ⟨t, 0, none⟩ _ _ (by rfl)]
    simp [ht, hf, Result.andThen]
    rw [run_store Tryz.prog (W.setCell ⟨t, 0, none⟩ (.int .i64 n)) ⟨t, 1, none⟩ _ _ (by rfl)]
    have hc1 : (W.setCell ⟨t, 0, none⟩ (.int .i64 n)).cell? ⟨t, 1, none⟩ = some old1 := (World.cell?_setCell_other _ _ _ _ (by simp)).trans ht1
    simp [hc1, hf1]
  have rls := fun v x => @id (ReflectliteValue.set #[v, x] = ReflectliteValue.parts v >>= fun p => ReflectliteValue.parts x >>= _) rfl
  rw [rls]
  simp only [Sem.run_bind, as.partsSa_m, as.partsS_m, Result.andThen]
  simp [ReflectliteValue.flagAddr, hl, as.directS_m, hst, Result.andThen]
end Go.Proofs.YtmpjdooepdicoaaGreatDoor.Vl
