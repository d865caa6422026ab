/- Fv5. -/
import Derived.Test.YthbojbbmpcmoaaaGreatDoorZ24
namespace Go.Proofs.YthbojbbmpcmoaaaGreatDoor.Vl
open Go.RowKit T.atoms T.ok T.high T.good T.allPlain DatAt T.ord
theorem step_call2 {P:Program} {ops:Array Oper} {o:Oper} {a:Act} {w:World} {K:Act→World→Prop} {Q:Exit→Act→World→Prop} {E:Prop}
  (hg:o.guard=none) (f:FuncId) (x y:Operand) (t u:TypeId) (hop:o.op=Op.call {callee:=Callee.value (Operand.func f),args:=#[x,y],argTypes:=#[t,u]})
  (v v2 r:Value) (hx:a.eval x=v) (hy:a.eval y=v2) (fn:Func) (hfn:P.funcs[f]?=some fn) (hne:(fn.name == "runtime.NumGoroutine")=false) (hbd:fn.body.isNone=false) (R:World→Prop) (hC:Calls P f #[v,v2] w fun e w'=>e = .returned r∧R w') (hK:∀ w',R w'→K (a.put o.dst r) w') :
  if Region.wanted o (yielded ops a.tmps)=true then Oper.wp P o a w K Q else E:=by
 have hw:Region.wanted o (yielded ops a.tmps)=true:=by simp [Region.wanted,hg]
 rw [if_pos hw]
 have h1:(callFunc f #[v,v2]).run P w = .ok (.enter f #[v,v2]) w:=by
  simp only [callFunc,Sem.run_bind,run_program,Result.andThen_ok,hfn,hne,hbd];rfl
 unfold Oper.wp
 simp only [execOp,hop,resolve,invoke,List.map_toArray,List.map_cons,List.map_nil,hx,hy,Deferred.ofValue,Sem.run_bind]
 rw [show a.eval (Operand.func f)=Value.func (Fn.func f) #[] #[] from rfl]
 simp only [Sem.run_pure,Result.andThen_ok]
 simp [h1]
 refine hC.mono fun e w2 h=>?_
 obtain ⟨rfl,h2⟩:=h
 exact hK _ h2
theorem two_cells {w:World} {b:Nat} {x y u v:Value} (h0:w.cell? ⟨b,0,none⟩=some u) (h1:w.cell? ⟨b,1,none⟩=some v):((w.setCell ⟨b,0,none⟩ x).setCell ⟨b,1,none⟩ y).cell? ⟨b,0,none⟩=some x∧((w.setCell ⟨b,0,none⟩ x).setCell ⟨b,1,none⟩ y).cell? ⟨b,1,none⟩=some y:=by
 constructor
 ·rw [World.cell?_setCell_other _ _ _ _ (by intro h;cases h)];exact World.cell?_setCell_same _ _ _ h0
 ·exact World.cell?_setCell_same _ _ _ (by rw [World.cell?_setCell_other _ _ _ _ (by intro h;cases h)];exact h1)
abbrev Out:=Sum (List UInt8) T
def Out.fine:Out→Prop
 | .inl l=>l≠[]
 | .inr _=>True
def DoK (W:World):Out→Value→ByteArray→World→Prop
 | .inl l,dv,s,w'=>Below W.heap.size W w'∧dv = .nilIface∧s=⟨l.toArray⟩
 | .inr t,dv,s,w'=>Below W.heap.size W w'∧s=⟨#[]⟩∧t.good=true∧t.count≤1000∧∃ x,DatAt w' x t dv
theorem DoK.from {W W1 w':World} {out:Out} {dv:Value} {s:ByteArray} (hb:Below W.heap.size W W1) (h:DoK W1 out dv s w'):DoK W out dv s w':=by
 cases out with
 | inl l=>exact ⟨hb.trans (h.1.mono hb.size),h.2⟩
 | inr t=>exact ⟨hb.trans (h.1.mono hb.size),h.2⟩
theorem step_callv1 {P:Program} {ops:Array Oper} {o:Oper} {a:Act} {w:World} {K:Act→World→Prop} {Q:Exit→Act→World→Prop} {E:Prop}
  (hg:o.guard=none) (f:FuncId) (y x:Operand) (t:TypeId) (hop:o.op=Op.call {callee:=Callee.value y,args:=#[x],argTypes:=#[t]})
  (v r:Value) (hy:a.eval y = .func (.func f) #[] #[]) (hx:a.eval x=v) (h1:∀ args w,(callFunc f args).run P w = .ok (.enter f args) w) (R:World→Prop) (hC:Calls P f #[v] w fun e w'=>e = .returned r∧R w') (hK:∀ w',R w'→K (a.put o.dst r) w') :
  if Region.wanted o (yielded ops a.tmps)=true then Oper.wp P o a w K Q else E:=by
 have hw:Region.wanted o (yielded ops a.tmps)=true:=by simp [Region.wanted,hg]
 rw [if_pos hw]
 unfold Oper.wp
 simp only [execOp,hop,resolve,invoke,List.map_toArray,List.map_cons,List.map_nil,hx,hy,Deferred.ofValue,Sem.run_bind,Sem.run_pure,Result.andThen_ok]
 simp [h1]
 refine hC.mono fun e w2 h=>?_
 obtain ⟨rfl,h2⟩:=h
 exact hK _ h2
set_option maxRecDepth 100000 in
set_option maxHeartbeats 1000000 in
theorem cmpD_do (xy:TypeId) (xu:Value) (zy:TypeId) (zu:Value) (h q:Nat) (hb:Int→Bool) (od:Int) (w:World) (hen:∀ args w,(callFunc h args).run Tryz.prog w = .ok (.enter h args) w) (HH:Hid (∀ n w,Calls Tryz.prog h #[.int .i64 n] w fun e w'=>e = .returned (.bool (hb n))∧w'=w)) (hq:q < w.heap.size) (hc:w.cell? ⟨q,0,none⟩=some (.func (.func h) #[] #[])) (HC:Hid (∀ w',Below w.heap.size w w'→Calls Tryz.prog 104 #[.iface xy xu,.iface zy zu] w' fun e w''=>e = .returned (.int .i64 od)∧Below w'.heap.size w' w'')) :
  Calls Tryz.prog 103 #[.iface xy xu,.iface zy zu,.pointer (some ⟨q,0,none⟩)] w (TupPost fun dv s w'=>dv = .iface 92 (.bool (hb od))∧s=⟨#[]⟩∧Below w.heap.size w w'):=by
 have HQ0:=hide hq
 have hB:Below w.heap.size w w:=Below.refl _ _
 have hc':=hc
 have HB:=hide hB
 have HC':=hide hc'
 clear hB
 go_enter Tryz.func103,Tryz.ntmps103
 go_wp2_with fail
 go_region_held3 (fun w'=>w'.cell? ⟨q,0,none⟩=some (.func (.func h) #[] #[])) (go_keep) (first
  | (refine step_call2 rfl 104 (.tmp 8) (.tmp 9) 94 94 rfl (.iface xy xu) (.iface zy zu) (.int .i64 od) (by simp [Act.eval]) (by simp [Act.eval]) Tryz.f104 Tryz.func104 (by kernel_rfl) (by kernel_rfl) _ (HC.out _ HB.out.drew) ?_;intro w1 hb1;have c1:=(hb1.cell (p:=⟨q,0,none⟩) (Nat.lt_of_lt_of_le HQ0.out HB.out.size)).trans HC'.out)
  | (refine step_callv1 rfl h (.tmp 7) (.tmp 10) 3 rfl (.int .i64 od) (.bool (hb od)) (by simp [Act.eval]) (by simp [Act.eval]) hen _ (HH.out od _) ?_;rintro w2 rfl))
 have BB:=HB.out.drew.trans (hb1.mono HB.out.drew.size)
 clear hb1 c1
 go_wp2
 go_ret2
 exact ⟨_,_,rfl,rfl,rfl,BB⟩
theorem two_new (W:World) (a b:Value) (t:TypeId):∀ j v,([a,b]:List Value)[j]?=some v→(W.alloc (.cells #[a,b] t)).cell? ⟨W.heap.size,j,none⟩=some v:=by
 intro j v h
 rw [World.cell?,heap_alloc_new]
 simpa using h
theorem frozen_new2 (W:World) (a b:Value) (t:TypeId):∀ j,(W.alloc (.cells #[a,b] t)).frozen? ⟨W.heap.size,j,none⟩=false:=by
 intro j
 simp
set_option maxHeartbeats 400000 in
theorem cmpsD_any (h:FuncId) (w:World):Calls Tryz.prog 42 #[.func (.func h) #[] #[]] w fun e w'=>e = .returned (deedV 2 153 (w.heap.size+1+1))∧w'.cell? ⟨w.heap.size,0,none⟩=some (.func (.func h) #[] #[])∧w'.cell? ⟨w.heap.size+1+1,0,none⟩=some (.func (.func 103) #[] #[.pointer (some ⟨w.heap.size,0,none⟩)])∧Below w.heap.size w w'∧w.heap.size+1+1 < w'.heap.size:=by
 have HT:=hide (fun W=>twoDD_any 103 #[.pointer (some ⟨w.heap.size,0,none⟩)] W)
 have hsf:=run_store_func Tryz.prog
 have hq:Below w.heap.size w ((w.alloc (.cells #[.func (.func h) #[] #[]] 97)).alloc (.cells #[.int .i64 0,.nilFunc] 90)):=(bA _).alloc (by simp) _
 have h0:((w.alloc (.cells #[.func (.func h) #[] #[]] 97)).alloc (.cells #[.int .i64 0,.nilFunc] 90)).cell? ⟨w.heap.size,0,none⟩=some (.func (.func h) #[] #[]):=(((Below.refl (w.heap.size+1) (w.alloc (.cells #[.func (.func h) #[] #[]] 97))).alloc (by simp) _).cell (p:=⟨w.heap.size,0,none⟩) (Nat.lt_succ_self _)).trans (by simp)
 have d0:∀ j v,([.int .i64 0,.nilFunc]:List Value)[j]?=some v→((w.alloc (.cells #[.func (.func h) #[] #[]] 97)).alloc (.cells #[.int .i64 0,.nilFunc] 90)).cell? ⟨w.heap.size+1,j,none⟩=some v:=fun j v hj=>by
  have:=two_new (w.alloc (.cells #[.func (.func h) #[] #[]] 97)) (.int .i64 0) .nilFunc 90 j v hj
  rwa [World.size_alloc] at this
 have HQ:=hide hq
 have H0:=hide h0
 have D0:=hide d0
 have FZ:=hide (frozen_new2 (w.alloc (.cells #[.func (.func h) #[] #[]] 97)) (.int .i64 0) .nilFunc 90)
 rw [World.size_alloc] at FZ
 clear hq h0 d0
 go_enter Tryz.func42,Tryz.ntmps42
 go_wp2_with fail
 refine (HT.out _).mono ?_
 rintro e w1 ⟨rfl,hc1,hb1,hz1⟩
 simp only [World.size_alloc] at hc1 hb1 hz1
 have e0:=(hb1.cell (p:=⟨w.heap.size+1,0,none⟩) (by show w.heap.size+1 < _;omega)).trans (D0.out 0 _ rfl)
 have e1:=(hb1.cell (p:=⟨w.heap.size+1,1,none⟩) (by show w.heap.size+1 < _;omega)).trans (D0.out 1 _ rfl)
 have g0:=(hb1.frozen (p:=⟨w.heap.size+1,0,none⟩) (by show w.heap.size+1 < _;omega)).trans (FZ.out 0)
 have g1:=(hb1.frozen (p:=⟨w.heap.size+1,1,none⟩) (by show w.heap.size+1 < _;omega)).trans (FZ.out 1)
 have HC1:=hide hc1
 have HH0:=hide ((hb1.cell (p:=⟨w.heap.size,0,none⟩) (by show w.heap.size < _;omega)).trans H0.out)
 have BB:=HQ.out.trans (hb1.mono (by omega))
 have hz2:=hz1
 unfold deedV
 clear hc1 hb1
 go_wp2
 obtain ⟨q0,q1⟩:=two_cells (x:= .int .i64 2) (y:= .func (.func 153) #[] #[.pointer (some ⟨w.heap.size+1+1,0,none⟩)]) e0 e1
 have hk:∀ b,b≠w.heap.size+1→((w1.setCell ⟨w.heap.size+1,0,none⟩ (.int .i64 2)).setCell ⟨w.heap.size+1,1,none⟩ (.func (.func 153) #[] #[.pointer (some ⟨w.heap.size+1+1,0,none⟩)])).heap[b]?=w1.heap[b]?:=fun b hb=>(Below.heap_setCell _ _ _ _ hb).trans (Below.heap_setCell _ _ _ _ hb)
 refine bodyPost_ret (v:=deedV 2 153 (w.heap.size+1+1)) (by simp [results,Tryz.results42,go_sem,deedV,q0,q1]) rfl ⟨rfl,?_,?_,?_,by simpa using hz2⟩
 ·exact (World.cell?_of_block (a:=⟨w.heap.size,0,none⟩) (hk w.heap.size (by omega))).trans HH0.out
 ·exact (World.cell?_of_block (a:=⟨w.heap.size+1+1,0,none⟩) (hk (w.heap.size+1+1) (by omega))).trans HC1.out
 ·exact (BB.setCell (p:=⟨w.heap.size+1,0,none⟩) (by simp) _).setCell (p:=⟨w.heap.size+1,1,none⟩) (by simp) _
set_option maxRecDepth 100000 in
set_option maxHeartbeats 1000000 in
theorem cmpB_do (xb:Bool) (zb:Bool) (h q:Nat) (hb:Int→Bool) (od:Int) (w:World) (hen:∀ args w,(callFunc h args).run Tryz.prog w = .ok (.enter h args) w) (HH:Hid (∀ n w,Calls Tryz.prog h #[.int .i64 n] w fun e w'=>e = .returned (.bool (hb n))∧w'=w)) (hq:q < w.heap.size) (hc:w.cell? ⟨q,0,none⟩=some (.func (.func h) #[] #[])) (HC:Hid (∀ w',Below w.heap.size w w'→Calls Tryz.prog 104 #[.iface 92 (.bool xb),.iface 92 (.bool zb)] w' fun e w''=>e = .returned (.int .i64 od)∧Below w'.heap.size w' w'')) :
  Calls Tryz.prog 162 #[.bool xb,.bool zb,.pointer (some ⟨q,0,none⟩)] w (TupPost fun dv s w'=>dv = .iface 92 (.bool (hb od))∧s=⟨#[]⟩∧Below w.heap.size w w'):=by
 have HQ0:=hide hq
 have hB:Below w.heap.size w w:=Below.refl _ _
 have hc':=hc
 have HB:=hide hB
 have HC':=hide hc'
 clear hB
 go_enter Tryz.func162,Tryz.ntmps162
 go_wp2_with fail
 go_region_held3 (fun w'=>w'.cell? ⟨q,0,none⟩=some (.func (.func h) #[] #[])) (go_keep) (first
  | (refine step_call2 rfl 104 (.tmp 9) (.tmp 11) 94 94 rfl (.iface 92 (.bool xb)) (.iface 92 (.bool zb)) (.int .i64 od) (by simp [Act.eval]) (by simp [Act.eval]) Tryz.f104 Tryz.func104 (by kernel_rfl) (by kernel_rfl) _ (HC.out _ HB.out.drew) ?_;intro w1 hb1;have c1:=(hb1.cell (p:=⟨q,0,none⟩) (Nat.lt_of_lt_of_le HQ0.out HB.out.size)).trans HC'.out)
  | (refine step_callv1 rfl h (.tmp 7) (.tmp 12) 3 rfl (.int .i64 od) (.bool (hb od)) (by simp [Act.eval]) (by simp [Act.eval]) hen _ (HH.out od _) ?_;rintro w2 rfl))
 have BB:=HB.out.drew.trans (hb1.mono HB.out.drew.size)
 clear hb1 c1
 go_wp2
 go_ret2
 exact ⟨_,_,rfl,rfl,rfl,BB⟩
set_option maxHeartbeats 400000 in
theorem cmpsB_any (h:FuncId) (w:World):Calls Tryz.prog 105 #[.func (.func h) #[] #[]] w fun e w'=>e = .returned (deedV 2 101 (w.heap.size+1+1))∧w'.cell? ⟨w.heap.size,0,none⟩=some (.func (.func h) #[] #[])∧w'.cell? ⟨w.heap.size+1+1,0,none⟩=some (.func (.func 162) #[] #[.pointer (some ⟨w.heap.size,0,none⟩)])∧Below w.heap.size w w'∧w.heap.size+1+1 < w'.heap.size:=by
 have HT:=hide (fun W=>twoBB_any 162 #[.pointer (some ⟨w.heap.size,0,none⟩)] W)
 have hsf:=run_store_func Tryz.prog
 have hq:Below w.heap.size w ((w.alloc (.cells #[.func (.func h) #[] #[]] 97)).alloc (.cells #[.int .i64 0,.nilFunc] 90)):=(bA _).alloc (by simp) _
 have h0:((w.alloc (.cells #[.func (.func h) #[] #[]] 97)).alloc (.cells #[.int .i64 0,.nilFunc] 90)).cell? ⟨w.heap.size,0,none⟩=some (.func (.func h) #[] #[]):=(((Below.refl (w.heap.size+1) (w.alloc (.cells #[.func (.func h) #[] #[]] 97))).alloc (by simp) _).cell (p:=⟨w.heap.size,0,none⟩) (Nat.lt_succ_self _)).trans (by simp)
 have d0:∀ j v,([.int .i64 0,.nilFunc]:List Value)[j]?=some v→((w.alloc (.cells #[.func (.func h) #[] #[]] 97)).alloc (.cells #[.int .i64 0,.nilFunc] 90)).cell? ⟨w.heap.size+1,j,none⟩=some v:=fun j v hj=>by
  have:=two_new (w.alloc (.cells #[.func (.func h) #[] #[]] 97)) (.int .i64 0) .nilFunc 90 j v hj
  rwa [World.size_alloc] at this
 have HQ:=hide hq
 have H0:=hide h0
 have D0:=hide d0
 have FZ:=hide (frozen_new2 (w.alloc (.cells #[.func (.func h) #[] #[]] 97)) (.int .i64 0) .nilFunc 90)
 rw [World.size_alloc] at FZ
 clear hq h0 d0
 go_enter Tryz.func105,Tryz.ntmps105
 go_wp2_with fail
 refine (HT.out _).mono ?_
 rintro e w1 ⟨rfl,hc1,hb1,hz1⟩
 simp only [World.size_alloc] at hc1 hb1 hz1
 have e0:=(hb1.cell (p:=⟨w.heap.size+1,0,none⟩) (by show w.heap.size+1 < _;omega)).trans (D0.out 0 _ rfl)
 have e1:=(hb1.cell (p:=⟨w.heap.size+1,1,none⟩) (by show w.heap.size+1 < _;omega)).trans (D0.out 1 _ rfl)
 have g0:=(hb1.frozen (p:=⟨w.heap.size+1,0,none⟩) (by show w.heap.size+1 < _;omega)).trans (FZ.out 0)
 have g1:=(hb1.frozen (p:=⟨w.heap.size+1,1,none⟩) (by show w.heap.size+1 < _;omega)).trans (FZ.out 1)
 have HC1:=hide hc1
 have HH0:=hide ((hb1.cell (p:=⟨w.heap.size,0,none⟩) (by show w.heap.size < _;omega)).trans H0.out)
 have BB:=HQ.out.trans (hb1.mono (by omega))
 have hz2:=hz1
 unfold deedV
 clear hc1 hb1
 go_wp2
 obtain ⟨q0,q1⟩:=two_cells (x:= .int .i64 2) (y:= .func (.func 101) #[] #[.pointer (some ⟨w.heap.size+1+1,0,none⟩)]) e0 e1
 have hk:∀ b,b≠w.heap.size+1→((w1.setCell ⟨w.heap.size+1,0,none⟩ (.int .i64 2)).setCell ⟨w.heap.size+1,1,none⟩ (.func (.func 101) #[] #[.pointer (some ⟨w.heap.size+1+1,0,none⟩)])).heap[b]?=w1.heap[b]?:=fun b hb=>(Below.heap_setCell _ _ _ _ hb).trans (Below.heap_setCell _ _ _ _ hb)
 refine bodyPost_ret (v:=deedV 2 101 (w.heap.size+1+1)) (by simp [results,Tryz.results105,go_sem,deedV,q0,q1]) rfl ⟨rfl,?_,?_,?_,by simpa using hz2⟩
 ·exact (World.cell?_of_block (a:=⟨w.heap.size,0,none⟩) (hk w.heap.size (by omega))).trans HH0.out
 ·exact (World.cell?_of_block (a:=⟨w.heap.size+1+1,0,none⟩) (hk (w.heap.size+1+1) (by omega))).trans HC1.out
 ·exact (BB.setCell (p:=⟨w.heap.size+1,0,none⟩) (by simp) _).setCell (p:=⟨w.heap.size+1,1,none⟩) (by simp) _
set_option maxRecDepth 100000 in
set_option maxHeartbeats 1000000 in
theorem cmpI_do (xn:Int) (zn:Int) (h q:Nat) (hb:Int→Bool) (od:Int) (w:World) (hen:∀ args w,(callFunc h args).run Tryz.prog w = .ok (.enter h args) w) (HH:Hid (∀ n w,Calls Tryz.prog h #[.int .i64 n] w fun e w'=>e = .returned (.bool (hb n))∧w'=w)) (hq:q < w.heap.size) (hc:w.cell? ⟨q,0,none⟩=some (.func (.func h) #[] #[])) (HC:Hid (∀ w',Below w.heap.size w w'→Calls Tryz.prog 104 #[.iface 115 (.int .i64 xn),.iface 115 (.int .i64 zn)] w' fun e w''=>e = .returned (.int .i64 od)∧Below w'.heap.size w' w'')) :
  Calls Tryz.prog 163 #[.int .i64 xn,.int .i64 zn,.pointer (some ⟨q,0,none⟩)] w (TupPost fun dv s w'=>dv = .iface 92 (.bool (hb od))∧s=⟨#[]⟩∧Below w.heap.size w w'):=by
 have HQ0:=hide hq
 have hB:Below w.heap.size w w:=Below.refl _ _
 have hc':=hc
 have HB:=hide hB
 have HC':=hide hc'
 clear hB
 go_enter Tryz.func163,Tryz.ntmps163
 go_wp2_with fail
 go_region_held3 (fun w'=>w'.cell? ⟨q,0,none⟩=some (.func (.func h) #[] #[])) (go_keep) (first
  | (refine step_call2 rfl 104 (.tmp 9) (.tmp 11) 94 94 rfl (.iface 115 (.int .i64 xn)) (.iface 115 (.int .i64 zn)) (.int .i64 od) (by simp [Act.eval]) (by simp [Act.eval]) Tryz.f104 Tryz.func104 (by kernel_rfl) (by kernel_rfl) _ (HC.out _ HB.out.drew) ?_;intro w1 hb1;have c1:=(hb1.cell (p:=⟨q,0,none⟩) (Nat.lt_of_lt_of_le HQ0.out HB.out.size)).trans HC'.out)
  | (refine step_callv1 rfl h (.tmp 7) (.tmp 12) 3 rfl (.int .i64 od) (.bool (hb od)) (by simp [Act.eval]) (by simp [Act.eval]) hen _ (HH.out od _) ?_;rintro w2 rfl))
 have BB:=HB.out.drew.trans (hb1.mono HB.out.drew.size)
 clear hb1 c1
 go_wp2
 go_ret2
 exact ⟨_,_,rfl,rfl,rfl,BB⟩
set_option maxHeartbeats 400000 in
theorem cmpsI_any (h:FuncId) (w:World):Calls Tryz.prog 106 #[.func (.func h) #[] #[]] w fun e w'=>e = .returned (deedV 2 116 (w.heap.size+1+1))∧w'.cell? ⟨w.heap.size,0,none⟩=some (.func (.func h) #[] #[])∧w'.cell? ⟨w.heap.size+1+1,0,none⟩=some (.func (.func 163) #[] #[.pointer (some ⟨w.heap.size,0,none⟩)])∧Below w.heap.size w w'∧w.heap.size+1+1 < w'.heap.size:=by
 have HT:=hide (fun W=>twoII_any 163 #[.pointer (some ⟨w.heap.size,0,none⟩)] W)
 have hsf:=run_store_func Tryz.prog
 have hq:Below w.heap.size w ((w.alloc (.cells #[.func (.func h) #[] #[]] 97)).alloc (.cells #[.int .i64 0,.nilFunc] 90)):=(bA _).alloc (by simp) _
 have h0:((w.alloc (.cells #[.func (.func h) #[] #[]] 97)).alloc (.cells #[.int .i64 0,.nilFunc] 90)).cell? ⟨w.heap.size,0,none⟩=some (.func (.func h) #[] #[]):=(((Below.refl (w.heap.size+1) (w.alloc (.cells #[.func (.func h) #[] #[]] 97))).alloc (by simp) _).cell (p:=⟨w.heap.size,0,none⟩) (Nat.lt_succ_self _)).trans (by simp)
 have d0:∀ j v,([.int .i64 0,.nilFunc]:List Value)[j]?=some v→((w.alloc (.cells #[.func (.func h) #[] #[]] 97)).alloc (.cells #[.int .i64 0,.nilFunc] 90)).cell? ⟨w.heap.size+1,j,none⟩=some v:=fun j v hj=>by
  have:=two_new (w.alloc (.cells #[.func (.func h) #[] #[]] 97)) (.int .i64 0) .nilFunc 90 j v hj
  rwa [World.size_alloc] at this
 have HQ:=hide hq
 have H0:=hide h0
 have D0:=hide d0
 have FZ:=hide (frozen_new2 (w.alloc (.cells #[.func (.func h) #[] #[]] 97)) (.int .i64 0) .nilFunc 90)
 rw [World.size_alloc] at FZ
 clear hq h0 d0
 go_enter Tryz.func106,Tryz.ntmps106
 go_wp2_with fail
 refine (HT.out _).mono ?_
 rintro e w1 ⟨rfl,hc1,hb1,hz1⟩
 simp only [World.size_alloc] at hc1 hb1 hz1
 have e0:=(hb1.cell (p:=⟨w.heap.size+1,0,none⟩) (by show w.heap.size+1 < _;omega)).trans (D0.out 0 _ rfl)
 have e1:=(hb1.cell (p:=⟨w.heap.size+1,1,none⟩) (by show w.heap.size+1 < _;omega)).trans (D0.out 1 _ rfl)
 have g0:=(hb1.frozen (p:=⟨w.heap.size+1,0,none⟩) (by show w.heap.size+1 < _;omega)).trans (FZ.out 0)
 have g1:=(hb1.frozen (p:=⟨w.heap.size+1,1,none⟩) (by show w.heap.size+1 < _;omega)).trans (FZ.out 1)
 have HC1:=hide hc1
 have HH0:=hide ((hb1.cell (p:=⟨w.heap.size,0,none⟩) (by show w.heap.size < _;omega)).trans H0.out)
 have BB:=HQ.out.trans (hb1.mono (by omega))
 have hz2:=hz1
 unfold deedV
 clear hc1 hb1
 go_wp2
 obtain ⟨q0,q1⟩:=two_cells (x:= .int .i64 2) (y:= .func (.func 116) #[] #[.pointer (some ⟨w.heap.size+1+1,0,none⟩)]) e0 e1
 have hk:∀ b,b≠w.heap.size+1→((w1.setCell ⟨w.heap.size+1,0,none⟩ (.int .i64 2)).setCell ⟨w.heap.size+1,1,none⟩ (.func (.func 116) #[] #[.pointer (some ⟨w.heap.size+1+1,0,none⟩)])).heap[b]?=w1.heap[b]?:=fun b hb=>(Below.heap_setCell _ _ _ _ hb).trans (Below.heap_setCell _ _ _ _ hb)
 refine bodyPost_ret (v:=deedV 2 116 (w.heap.size+1+1)) (by simp [results,Tryz.results106,go_sem,deedV,q0,q1]) rfl ⟨rfl,?_,?_,?_,by simpa using hz2⟩
 ·exact (World.cell?_of_block (a:=⟨w.heap.size,0,none⟩) (hk w.heap.size (by omega))).trans HH0.out
 ·exact (World.cell?_of_block (a:=⟨w.heap.size+1+1,0,none⟩) (hk (w.heap.size+1+1) (by omega))).trans HC1.out
 ·exact (BB.setCell (p:=⟨w.heap.size+1,0,none⟩) (by simp) _).setCell (p:=⟨w.heap.size+1,1,none⟩) (by simp) _
set_option maxRecDepth 100000 in
set_option maxHeartbeats 1000000 in
theorem cmpT_do (xs:ByteArray) (zs:ByteArray) (h q:Nat) (hb:Int→Bool) (od:Int) (w:World) (hen:∀ args w,(callFunc h args).run Tryz.prog w = .ok (.enter h args) w) (HH:Hid (∀ n w,Calls Tryz.prog h #[.int .i64 n] w fun e w'=>e = .returned (.bool (hb n))∧w'=w)) (hq:q < w.heap.size) (hc:w.cell? ⟨q,0,none⟩=some (.func (.func h) #[] #[])) (HC:Hid (∀ w',Below w.heap.size w w'→Calls Tryz.prog 104 #[.iface 100 (.string xs),.iface 100 (.string zs)] w' fun e w''=>e = .returned (.int .i64 od)∧Below w'.heap.size w' w'')) :
  Calls Tryz.prog 164 #[.string xs,.string zs,.pointer (some ⟨q,0,none⟩)] w (TupPost fun dv s w'=>dv = .iface 92 (.bool (hb od))∧s=⟨#[]⟩∧Below w.heap.size w w'):=by
 have HQ0:=hide hq
 have hB:Below w.heap.size w w:=Below.refl _ _
 have hc':=hc
 have HB:=hide hB
 have HC':=hide hc'
 clear hB
 go_enter Tryz.func164,Tryz.ntmps164
 go_wp2_with fail
 go_region_held3 (fun w'=>w'.cell? ⟨q,0,none⟩=some (.func (.func h) #[] #[])) (go_keep) (first
  | (refine step_call2 rfl 104 (.tmp 9) (.tmp 11) 94 94 rfl (.iface 100 (.string xs)) (.iface 100 (.string zs)) (.int .i64 od) (by simp [Act.eval]) (by simp [Act.eval]) Tryz.f104 Tryz.func104 (by kernel_rfl) (by kernel_rfl) _ (HC.out _ HB.out.drew) ?_;intro w1 hb1;have c1:=(hb1.cell (p:=⟨q,0,none⟩) (Nat.lt_of_lt_of_le HQ0.out HB.out.size)).trans HC'.out)
  | (refine step_callv1 rfl h (.tmp 7) (.tmp 12) 3 rfl (.int .i64 od) (.bool (hb od)) (by simp [Act.eval]) (by simp [Act.eval]) hen _ (HH.out od _) ?_;rintro w2 rfl))
 have BB:=HB.out.drew.trans (hb1.mono HB.out.drew.size)
 clear hb1 c1
 go_wp2
 go_ret2
 exact ⟨_,_,rfl,rfl,rfl,BB⟩
set_option maxHeartbeats 400000 in
theorem cmpsT_any (h:FuncId) (w:World):Calls Tryz.prog 107 #[.func (.func h) #[] #[]] w fun e w'=>e = .returned (deedV 2 110 (w.heap.size+1+1))∧w'.cell? ⟨w.heap.size,0,none⟩=some (.func (.func h) #[] #[])∧w'.cell? ⟨w.heap.size+1+1,0,none⟩=some (.func (.func 164) #[] #[.pointer (some ⟨w.heap.size,0,none⟩)])∧Below w.heap.size w w'∧w.heap.size+1+1 < w'.heap.size:=by
 have HT:=hide (fun W=>twoTT_any 164 #[.pointer (some ⟨w.heap.size,0,none⟩)] W)
 have hsf:=run_store_func Tryz.prog
 have hq:Below w.heap.size w ((w.alloc (.cells #[.func (.func h) #[] #[]] 97)).alloc (.cells #[.int .i64 0,.nilFunc] 90)):=(bA _).alloc (by simp) _
 have h0:((w.alloc (.cells #[.func (.func h) #[] #[]] 97)).alloc (.cells #[.int .i64 0,.nilFunc] 90)).cell? ⟨w.heap.size,0,none⟩=some (.func (.func h) #[] #[]):=(((Below.refl (w.heap.size+1) (w.alloc (.cells #[.func (.func h) #[] #[]] 97))).alloc (by simp) _).cell (p:=⟨w.heap.size,0,none⟩) (Nat.lt_succ_self _)).trans (by simp)
 have d0:∀ j v,([.int .i64 0,.nilFunc]:List Value)[j]?=some v→((w.alloc (.cells #[.func (.func h) #[] #[]] 97)).alloc (.cells #[.int .i64 0,.nilFunc] 90)).cell? ⟨w.heap.size+1,j,none⟩=some v:=fun j v hj=>by
  have:=two_new (w.alloc (.cells #[.func (.func h) #[] #[]] 97)) (.int .i64 0) .nilFunc 90 j v hj
  rwa [World.size_alloc] at this
 have HQ:=hide hq
 have H0:=hide h0
 have D0:=hide d0
 have FZ:=hide (frozen_new2 (w.alloc (.cells #[.func (.func h) #[] #[]] 97)) (.int .i64 0) .nilFunc 90)
 rw [World.size_alloc] at FZ
 clear hq h0 d0
 go_enter Tryz.func107,Tryz.ntmps107
 go_wp2_with fail
 refine (HT.out _).mono ?_
 rintro e w1 ⟨rfl,hc1,hb1,hz1⟩
 simp only [World.size_alloc] at hc1 hb1 hz1
 have e0:=(hb1.cell (p:=⟨w.heap.size+1,0,none⟩) (by show w.heap.size+1 < _;omega)).trans (D0.out 0 _ rfl)
 have e1:=(hb1.cell (p:=⟨w.heap.size+1,1,none⟩) (by show w.heap.size+1 < _;omega)).trans (D0.out 1 _ rfl)
 have g0:=(hb1.frozen (p:=⟨w.heap.size+1,0,none⟩) (by show w.heap.size+1 < _;omega)).trans (FZ.out 0)
 have g1:=(hb1.frozen (p:=⟨w.heap.size+1,1,none⟩) (by show w.heap.size+1 < _;omega)).trans (FZ.out 1)
 have HC1:=hide hc1
 have HH0:=hide ((hb1.cell (p:=⟨w.heap.size,0,none⟩) (by show w.heap.size < _;omega)).trans H0.out)
 have BB:=HQ.out.trans (hb1.mono (by omega))
 have hz2:=hz1
 unfold deedV
 clear hc1 hb1
 go_wp2
 obtain ⟨q0,q1⟩:=two_cells (x:= .int .i64 2) (y:= .func (.func 110) #[] #[.pointer (some ⟨w.heap.size+1+1,0,none⟩)]) e0 e1
 have hk:∀ b,b≠w.heap.size+1→((w1.setCell ⟨w.heap.size+1,0,none⟩ (.int .i64 2)).setCell ⟨w.heap.size+1,1,none⟩ (.func (.func 110) #[] #[.pointer (some ⟨w.heap.size+1+1,0,none⟩)])).heap[b]?=w1.heap[b]?:=fun b hb=>(Below.heap_setCell _ _ _ _ hb).trans (Below.heap_setCell _ _ _ _ hb)
 refine bodyPost_ret (v:=deedV 2 110 (w.heap.size+1+1)) (by simp [results,Tryz.results107,go_sem,deedV,q0,q1]) rfl ⟨rfl,?_,?_,?_,by simpa using hz2⟩
 ·exact (World.cell?_of_block (a:=⟨w.heap.size,0,none⟩) (hk w.heap.size (by omega))).trans HH0.out
 ·exact (World.cell?_of_block (a:=⟨w.heap.size+1+1,0,none⟩) (hk (w.heap.size+1+1) (by omega))).trans HC1.out
 ·exact (BB.setCell (p:=⟨w.heap.size+1,0,none⟩) (by simp) _).setCell (p:=⟨w.heap.size+1,1,none⟩) (by simp) _
theorem cell3_new (W:World) (a b c:Value) (t:TypeId):(W.alloc (.cells #[a,b,c] t)).cell? ⟨W.heap.size,0,none⟩=some a∧(W.alloc (.cells #[a,b,c] t)).cell? ⟨W.heap.size,1,none⟩=some b∧(W.alloc (.cells #[a,b,c] t)).cell? ⟨W.heap.size,2,none⟩=some c:=by
 refine ⟨?_,?_,?_⟩ <;> simp
set_option maxHeartbeats 400000 in
theorem cmpsL_any (h:FuncId) (w:World):Calls Tryz.prog 108 #[.func (.func h) #[] #[]] w fun e w'=>e = .returned (deedV 2 119 (w.heap.size+1+1))∧w'.cell? ⟨w.heap.size,0,none⟩=some (.func (.func h) #[] #[])∧w'.cell? ⟨w.heap.size+1+1,0,none⟩=some (.func (.func 165) #[] #[.pointer (some ⟨w.heap.size,0,none⟩)])∧Below w.heap.size w w'∧w.heap.size+1+1 < w'.heap.size:=by
 have HT:=hide (fun W=>twoLL_any 165 #[.pointer (some ⟨w.heap.size,0,none⟩)] W)
 have hsf:=run_store_func Tryz.prog
 have hq:Below w.heap.size w ((w.alloc (.cells #[.func (.func h) #[] #[]] 97)).alloc (.cells #[.int .i64 0,.nilFunc] 90)):=(bA _).alloc (by simp) _
 have h0:((w.alloc (.cells #[.func (.func h) #[] #[]] 97)).alloc (.cells #[.int .i64 0,.nilFunc] 90)).cell? ⟨w.heap.size,0,none⟩=some (.func (.func h) #[] #[]):=(((Below.refl (w.heap.size+1) (w.alloc (.cells #[.func (.func h) #[] #[]] 97))).alloc (by simp) _).cell (p:=⟨w.heap.size,0,none⟩) (Nat.lt_succ_self _)).trans (by simp)
 have d0:∀ j v,([.int .i64 0,.nilFunc]:List Value)[j]?=some v→((w.alloc (.cells #[.func (.func h) #[] #[]] 97)).alloc (.cells #[.int .i64 0,.nilFunc] 90)).cell? ⟨w.heap.size+1,j,none⟩=some v:=fun j v hj=>by
  have:=two_new (w.alloc (.cells #[.func (.func h) #[] #[]] 97)) (.int .i64 0) .nilFunc 90 j v hj
  rwa [World.size_alloc] at this
 have HQ:=hide hq
 have H0:=hide h0
 have D0:=hide d0
 have FZ:=hide (frozen_new2 (w.alloc (.cells #[.func (.func h) #[] #[]] 97)) (.int .i64 0) .nilFunc 90)
 rw [World.size_alloc] at FZ
 clear hq h0 d0
 go_enter Tryz.func108,Tryz.ntmps108
 go_wp2_with fail
 refine (HT.out _).mono ?_
 rintro e w1 ⟨rfl,hc1,hb1,hz1⟩
 simp only [World.size_alloc] at hc1 hb1 hz1
 have e0:=(hb1.cell (p:=⟨w.heap.size+1,0,none⟩) (by show w.heap.size+1 < _;omega)).trans (D0.out 0 _ rfl)
 have e1:=(hb1.cell (p:=⟨w.heap.size+1,1,none⟩) (by show w.heap.size+1 < _;omega)).trans (D0.out 1 _ rfl)
 have g0:=(hb1.frozen (p:=⟨w.heap.size+1,0,none⟩) (by show w.heap.size+1 < _;omega)).trans (FZ.out 0)
 have g1:=(hb1.frozen (p:=⟨w.heap.size+1,1,none⟩) (by show w.heap.size+1 < _;omega)).trans (FZ.out 1)
 have HC1:=hide hc1
 have HH0:=hide ((hb1.cell (p:=⟨w.heap.size,0,none⟩) (by show w.heap.size < _;omega)).trans H0.out)
 have BB:=HQ.out.trans (hb1.mono (by omega))
 have hz2:=hz1
 unfold deedV
 clear hc1 hb1
 go_wp2
 obtain ⟨q0,q1⟩:=two_cells (x:= .int .i64 2) (y:= .func (.func 119) #[] #[.pointer (some ⟨w.heap.size+1+1,0,none⟩)]) e0 e1
 have hk:∀ b,b≠w.heap.size+1→((w1.setCell ⟨w.heap.size+1,0,none⟩ (.int .i64 2)).setCell ⟨w.heap.size+1,1,none⟩ (.func (.func 119) #[] #[.pointer (some ⟨w.heap.size+1+1,0,none⟩)])).heap[b]?=w1.heap[b]?:=fun b hb=>(Below.heap_setCell _ _ _ _ hb).trans (Below.heap_setCell _ _ _ _ hb)
 refine bodyPost_ret (v:=deedV 2 119 (w.heap.size+1+1)) (by simp [results,Tryz.results108,go_sem,deedV,q0,q1]) rfl ⟨rfl,?_,?_,?_,by simpa using hz2⟩
 ·exact (World.cell?_of_block (a:=⟨w.heap.size,0,none⟩) (hk w.heap.size (by omega))).trans HH0.out
 ·exact (World.cell?_of_block (a:=⟨w.heap.size+1+1,0,none⟩) (hk (w.heap.size+1+1) (by omega))).trans HC1.out
 ·exact (BB.setCell (p:=⟨w.heap.size+1,0,none⟩) (by simp) _).setCell (p:=⟨w.heap.size+1,1,none⟩) (by simp) _
def tyW:List UInt8:=[116,121,112,101]
def Out.isTy:Out→Bool
 | .inl l=>l == tyW
 | .inr _=>false
def eitherOut:List Out→Out
 | [] => .inl tyW
 | o :: r=>if o.isTy then eitherOut r else o
theorem either_all:∀ (l:List Out),(∀ j (h:j < l.length),(l[j]).isTy=true)→eitherOut l = .inl tyW
 | [],_=>rfl
 | o :: r,h=>by
  rw [eitherOut,if_pos (show o.isTy=true from h 0 (by simp))]
  exact either_all r (fun j hj=>h (j+1) (by simpa using hj))
theorem either_at:∀ (l:List Out) (i:Nat) (hi:i < l.length),(∀ j (h:j < l.length),j < i→(l[j]).isTy=true)→(l[i]).isTy=false→eitherOut l=l[i]
 | o :: r,0,_,_,h=>by
  rw [eitherOut,if_neg (by rw [show (o :: r)[0]=o from rfl] at h;rw [h];decide)];rfl
 | o :: r,i+1,hi,h,h2=>by
  rw [eitherOut,if_pos (show o.isTy=true from h 0 (by simp) (by omega))]
  exact either_at r i (by simpa using hi) (fun j hj hji=>h (j+1) (by simpa using hj) (by omega)) h2
theorem DoK.shape {W w':World} {out:Out} {dv:Value} {s:ByteArray} (h:DoK W out dv s w'):Below W.heap.size W w'∧(out.isTy=true→s=⟨#[116,121,112,101]⟩)∧(out.isTy=false→(s.toList == [116,121,112,101])=false):=by
 cases out with
 | inl l =>
  obtain ⟨h1,-,rfl⟩:=h
  refine ⟨h1,fun e=>?_,fun e=>?_⟩
  ·have:l=tyW:=by simpa [Out.isTy] using e
   rw [this];rfl
  ·rw [ByteArray.toList_eq]
   exact e
 | inr t =>
  obtain ⟨h1,rfl,-⟩:=h
  exact ⟨h1,(fun e=>by cases e),fun _=>by decide +kernel⟩
set_option maxRecDepth 100000 in
set_option maxHeartbeats 1000000 in
theorem either1_any (ds:List (Nat × Nat)) (outs:List Out) (hl:outs.length=ds.length) (hl9:ds.length≤100) {cc:Nat} (d b gg:Nat) (W:World) (hd:d < W.heap.size) (hbc:W.cell? ⟨b,0,none⟩=some (.slice (some ⟨d,0,none⟩) ds.length ds.length))
  (hcs:∀ i (h:i < ds.length),W.cell? ⟨d,i*2,none⟩=some (.int .i64 2)∧W.cell? ⟨d,i*2+1,none⟩=some (.func (.func (ds[i]).1) #[] #[.pointer (some ⟨(ds[i]).2,0,none⟩)]))
  (hen:∀ i (h:i < ds.length) args w,(callFunc (ds[i]).1 args).run Tryz.prog w = .ok (.enter (ds[i]).1 args) w)
  (hdo:∀ i (h:i < ds.length) (ho:i < outs.length) W',Below W.heap.size W W'→Calls Tryz.prog (ds[i]).1 #[.slice (some ⟨gg,0,none⟩) 2 cc,.pointer (some ⟨(ds[i]).2,0,none⟩)] W' (TupPost (DoK W' (outs[i]'ho)))) :
  Calls Tryz.prog 109 #[.slice (some ⟨gg,0,none⟩) 2 cc,.pointer (some ⟨b,0,none⟩)] W (TupPost (DoK W (eitherOut outs))):=by
 have HCS:=hide hcs
 have HEN:=hide hen
 have HDO:=hide hdo
 have HEA:=hide (either_all outs)
 have HEI:=hide (either_at outs)
 have HL:=hide hl
 have hsf:=run_store_func Tryz.prog
 clear hcs hen hdo hl
 go_enter Tryz.func109,Tryz.ntmps109
 go_wp2
 go_loopw [11] (fun q wr=>∃ i:Nat,i≤ds.length∧q = .int .i64 i∧Below W.heap.size W wr∧∀ j (h:j < outs.length),j < i→(outs[j]).isTy=true) (fun q _=>ds.length - (intOf q).toNat)
 case atStart=>exact ⟨0,Nat.zero_le _,rfl,Below.refl _ _,fun j _ h=>absurd h (Nat.not_lt_zero _)⟩
 case round =>
  obtain ⟨i,hi,rfl,hB,hno⟩:=hrel
  have HNO:=hide hno
  clear hno
  by_cases hlt:i < ds.length
  ·obtain ⟨c0,c1⟩:=HCS.out i hlt
   have e0:=(hB.cell (p:=⟨d,i*2,none⟩) hd).trans c0
   have e1:=(hB.cell (p:=⟨d,i*2+1,none⟩) hd).trans c1
   have hen:=HEN.out i hlt
   have hio:i < outs.length:=by have:=HL.out;omega
   have HC:=hide (fun W' hb=>HDO.out i hlt hio W' hb)
   have HX:Hid ((outs[i]'hio).isTy=false→eitherOut outs=outs[i]'hio):=hide (HEI.out i hio HNO.out)
   have HN2:Hid ((outs[i]'hio).isTy=true→∀ j (h:j < outs.length),j < i+1→(outs[j]).isTy=true):=hide (fun h j hj hji=>by
    rcases Nat.lt_succ_iff_lt_or_eq.1 hji with q | q
    ·exact HNO.out j hj q
    ·subst q;exact h)
   generalize outs[i]'hio=out at *
   generalize (ds[i]).1=f at *
   generalize (ds[i]).2=k at *
   clear c0 c1
   have hq:Below wr.heap.size wr (wr.alloc (.cells #[.int .i64 2,.func (.func f) #[] #[.pointer (some ⟨k,0,none⟩)]] 90)):=bA _
   have HQ:=hide (hB.trans (hq.mono hB.size))
   clear hq
   go_wp2_with fail
   refine (HC.out _ HQ.out).mono ?_
   rintro e w2 ⟨dv,s,rfl,hK⟩
   obtain ⟨hb2,hy,hn⟩:=hK.shape
   have B2:=HQ.out.trans (hb2.mono HQ.out.size)
   have HKK:=hide (hK.from HQ.out)
   clear hK
   cases hty:out.isTy
   ·have hs:=hn hty
    have HE:=hide (HX.out hty)
    clear hy hn
    go_wp2
    go_ret2
    exact ⟨dv,s,rfl,by rw [HE.out];exact HKK.out⟩
   ·have hs:=hy hty
    subst hs
    have HE:=hide (HN2.out hty)
    clear hy hn
    go_wp2
    go_roundw
    case rel=>exact ⟨i+1,by omega,by go_num,B2,HE.out⟩
    case measure=>simp [intOf];omega
  ·have HE:Hid (eitherOut outs = .inl tyW):=hide (HEA.out (fun j hj=>HNO.out j hj (by have:=HL.out;omega)))
   go_wp2
   go_ret2
   exact ⟨_,_,rfl,by rw [HE.out];exact ⟨hB,rfl,rfl⟩⟩
end Go.Proofs.YthbojbbmpcmoaaaGreatDoor.Vl
