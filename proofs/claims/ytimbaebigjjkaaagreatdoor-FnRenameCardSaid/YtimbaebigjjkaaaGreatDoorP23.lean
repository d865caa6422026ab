/- Cg, Ci. -/
import Derived.Test.YtimbaebigjjkaaaGreatDoorP19
namespace Go.Proofs.YtimbaebigjjkaaaGreatDoor
open Go.RowKit
theorem XM [LB] {P:Program} {ops:Array Oper} {o:Oper} {a:Act} {w:World} {K:Act→World→Prop} {Q:Exit→Act→World→Prop} {E:Prop}
  (hg:o.guard=none) (f:FuncId) (x1 x2:Operand) (t1 t2:TypeId) (hop:o.op=Op.call {callee:=Callee.value (Operand.func f),args:=#[x1,x2],argTypes:=#[t1,t2]})
  (v1 v2:Value) (hx1:a.eval x1=v1) (hx2:a.eval x2=v2) (fn:Func) (hfn:P.funcs[f]?=some fn) (hne:(fn.name == "runtime.NumGoroutine")=false) (hbd:fn.body.isNone=false) (R:Value→World→Prop) (hC:Calls P f #[v1,v2] w fun e w'=>∃ r,e = .returned r∧R r w') (hK:∀ r w',R r w'→K (a.put o.dst r) w') :
  if Region.wanted o (yielded ops a.tmps)=true then Oper.wp P o a w K Q else E:=by
 have hw:Region.wanted o (yielded ops a.tmps)=true:=by simp [Region.wanted,hg]
 rw [if_pos hw]
 have h1:(callFunc f #[v1,v2]).run P w = .ok (.enter f #[v1,v2]) w:=by
  simp only [callFunc,Sem.run_bind,run_program,Result.andThen_ok,hfn,hne,hbd];rfl
 unfold Oper.wp
 simp only [execOp,hop,resolve,invoke,List.map_toArray,List.map_cons,List.map_nil,hx1,hx2,Deferred.ofValue,Sem.run_bind]
 rw [show a.eval (Operand.func f)=Value.func (Fn.func f) #[] #[] from rfl]
 simp only [Sem.run_pure,Result.andThen_ok]
 simp [h1]
 refine hC.mono fun e w2 h=>?_
 obtain ⟨r,rfl,h2⟩:=h
 exact hK _ _ h2
theorem Zg [LB] {P:Program} {ops:Array Oper} {o:Oper} {a:Act} {w:World} {K:Act→World→Prop} {Q:Exit→Act→World→Prop} {E:Prop}
  (hg:o.guard=none) (f:FuncId) (x1 x2 x3:Operand) (t1 t2 t3:TypeId) (hop:o.op=Op.call {callee:=Callee.value (Operand.func f),args:=#[x1,x2,x3],argTypes:=#[t1,t2,t3]})
  (v1 v2 v3:Value) (hx1:a.eval x1=v1) (hx2:a.eval x2=v2) (hx3:a.eval x3=v3) (fn:Func) (hfn:P.funcs[f]?=some fn) (hne:(fn.name == "runtime.NumGoroutine")=false) (hbd:fn.body.isNone=false) (R:Value→World→Prop) (hC:Calls P f #[v1,v2,v3] w fun e w'=>∃ r,e = .returned r∧R r w') (hK:∀ r w',R r w'→K (a.put o.dst r) w') :
  if Region.wanted o (yielded ops a.tmps)=true then Oper.wp P o a w K Q else E:=by
 have hw:Region.wanted o (yielded ops a.tmps)=true:=by simp [Region.wanted,hg]
 rw [if_pos hw]
 have h1:(callFunc f #[v1,v2,v3]).run P w = .ok (.enter f #[v1,v2,v3]) w:=by
  simp only [callFunc,Sem.run_bind,run_program,Result.andThen_ok,hfn,hne,hbd];rfl
 unfold Oper.wp
 simp only [execOp,hop,resolve,invoke,List.map_toArray,List.map_cons,List.map_nil,hx1,hx2,hx3,Deferred.ofValue,Sem.run_bind]
 rw [show a.eval (Operand.func f)=Value.func (Fn.func f) #[] #[] from rfl]
 simp only [Sem.run_pure,Result.andThen_ok]
 simp [h1]
 refine hC.mono fun e w2 h=>?_
 obtain ⟨r,rfl,h2⟩:=h
 exact hK _ _ h2
theorem step_call5E [LB] {P:Program} {ops:Array Oper} {o:Oper} {a:Act} {w:World} {K:Act→World→Prop} {Q:Exit→Act→World→Prop} {E:Prop}
  (hg:o.guard=none) (f:FuncId) (x1 x2 x3 x4 x5:Operand) (t1 t2 t3 t4 t5:TypeId) (hop:o.op=Op.call {callee:=Callee.value (Operand.func f),args:=#[x1,x2,x3,x4,x5],argTypes:=#[t1,t2,t3,t4,t5]})
  (v1 v2 v3 v4 v5:Value) (hx1:a.eval x1=v1) (hx2:a.eval x2=v2) (hx3:a.eval x3=v3) (hx4:a.eval x4=v4) (hx5:a.eval x5=v5) (fn:Func) (hfn:P.funcs[f]?=some fn) (hne:(fn.name == "runtime.NumGoroutine")=false) (hbd:fn.body.isNone=false) (R:Value→World→Prop) (hC:Calls P f #[v1,v2,v3,v4,v5] w fun e w'=>∃ r,e = .returned r∧R r w') (hK:∀ r w',R r w'→K (a.put o.dst r) w') :
  if Region.wanted o (yielded ops a.tmps)=true then Oper.wp P o a w K Q else E:=by
 have hw:Region.wanted o (yielded ops a.tmps)=true:=by simp [Region.wanted,hg]
 rw [if_pos hw]
 have h1:(callFunc f #[v1,v2,v3,v4,v5]).run P w = .ok (.enter f #[v1,v2,v3,v4,v5]) w:=by
  simp only [callFunc,Sem.run_bind,run_program,Result.andThen_ok,hfn,hne,hbd];rfl
 unfold Oper.wp
 simp only [execOp,hop,resolve,invoke,List.map_toArray,List.map_cons,List.map_nil,hx1,hx2,hx3,hx4,hx5,Deferred.ofValue,Sem.run_bind]
 rw [show a.eval (Operand.func f)=Value.func (Fn.func f) #[] #[] from rfl]
 simp only [Sem.run_pure,Result.andThen_ok]
 simp [h1]
 refine hC.mono fun e w2 h=>?_
 obtain ⟨r,rfl,h2⟩:=h
 exact hK _ _ h2
theorem Jj [LB] {P:Program} {f:FuncId} {a:Array Value} {w:World} {m:Nat} (h:Calls P f a w fun e w'=>Mk w m e w'):Calls P f a w fun e w'=>∃ r,e = .returned r∧∃ l,NR w' r l∧0 < l.length∧l.length≤m∧Below w.heap.size w w':=h.mono fun _ _ ⟨v,l,h1,h2⟩=>⟨v,h1,l,h2⟩
variable (gb rb:Nat) (vb:Value) (n:Nat)
theorem Qh [LB] {P:Program} {f:FuncId} {a:Array Value} {w:World} {q m k:Nat} (h:Calls P f a w fun e w'=>GMk gb rb vb n q m k w e w'):Calls P f a w fun e w'=>∃ r,e = .returned r∧∃ l,NR w' r l∧0 < l.length∧l.length≤m∧Gn gb rb vb n (q+m) k w'∧Ty w w':=h.mono fun _ _ ⟨v,l,h1,h2⟩=>⟨v,h1,l,h2⟩
set_option maxRecDepth 100000 in
set_option maxHeartbeats 8000000 in
theorem each_any [LB] (d kd:Nat) (HE:EAt gb rb vb n d kd) (q k:Nat) (kind:Int) (w:World) (h:Gn gb rb vb n q k w) (hq:q+5 * kd+20≤700000000) (hk:k+1+d≤900) (hkd:kd≤1000000):Calls Tryz.prog 118 #[.pointer (some ⟨gb,0,none⟩),.int .i64 kind,.int .i64 ((d:Int)+1)] w fun e w'=>GMk gb rb vb n q (4 * kd+10) k w e w':=by
 have hwd:IntKind.i64.wrap (d:Int)=(d:Int):=by rw [IntKind.wrap_i64];omega
 have HG0:=X1 h
 have HT0:Hid (Ty w w):=X1 (.refl w)
 have HI:=X1 (insideG_any gb rb vb n d kd HE)
 have HE:=X1 HE
 clear h
 go_enter Tryz.func118,Tryz.ntmps118
 go_wp2_with fail
 refine (KO gb rb vb n _ _ _ HG0.o (by omega)).mono ?_
 rintro e21 w21 ⟨i,rfl,f1,f9⟩
 have h2:=X1 f9
 have c5:=X1 f1
 have h5:=X1 (HT0.o.trans h2.o)
 have c0_21:=c5.o.c0
 clear f1 f9
 have b6:=X1 (Qg w21 ⟨16,0,0,i,0⟩)
 have pn22:0 < 1:=by decide
 have mn22:([⟨16,0,0,i,0⟩]:List Tr.Nd).length≤1:=Nat.le_refl 1
 go_wp2_with fail
 refine (HE.o _ _ _ _ (c5.o.below (bA _)) (by omega) (by omega)).mono ?_
 rintro e23 w23 ⟨v23,l23,rfl,E,P,mn23,f2,D⟩
 have h3:=X1 (TyM.trans (TyM.of (M:=Mine) (bA _)) D)
 have c6:=X1 f2
 have h6:=X1 (h5.o.trans h3.o)
 have b7:=X1 (b6.o.ty D)
 have c0_23:=c6.o.c0
 clear f2 D
 obtain ⟨j7,j2,k2⟩:=E.form P
 subst k2
 have a7:=X1 E
 clear E
 go_wp2_with fail
 refine (Gn.pick c6.o (by omega) 3 (by omega) (by omega)).mono ?_
 rintro e24 w24 ⟨z24,hz24,rfl,f3,g0⟩
 have y:=X1 g0
 have m:=X1 f3
 have d8:=X1 (h6.o.trans y.o)
 have b2:=X1 (b7.o.ty y.o)
 have a2:=X1 (a7.o.ty y.o)
 have c0_24:=m.o.c0
 clear f3 g0
 by_cases hz0:z24=0
 ·subst hz0
  go_wp2_with fail
  refine (Gn.pick m.o (by omega) 5 (by omega) (by omega)).mono ?_
  rintro e25 w25 ⟨z25,hz25,rfl,f4,g1⟩
  have z:=X1 g1
  have c7:=X1 f4
  have h7:=X1 (d8.o.trans z.o)
  have b9:=X1 (b2.o.ty z.o)
  have a8:=X1 (a2.o.ty z.o)
  have c0_25:=c7.o.c0
  clear f4 g1
  go_wp2_with fail
  refine (ZF _ _).mono ?_
  rintro e26 w26 ⟨v26,l26,rfl,F,g6,l1,i8⟩
  have A:=X1 (TyM.of (M:=Mine) i8)
  have c8:=X1 (c7.o.below i8)
  have i0:=X1 (h7.o.trans A.o)
  have c1:=X1 (b9.o.ty A.o)
  have d4:=X1 (a8.o.ty A.o)
  have c0_26:=c8.o.c0
  clear i8
  obtain ⟨gq26,cq26,k3⟩:=F.form g6
  subst k3
  have b3:=X1 F
  clear F
  go_wp2_with fail
  have HC:=X1 (YM ⟨#[114,97,110,103,101]⟩ [_] _ _ 1 (pr1 b3.o g6) (by simpa using l1) (by omega) (by simp) (by simp))
  refine (HC.o).mono ?_
  rintro e27 w27 ⟨v27,l27,rfl,H,Q,mn27,i9⟩
  have d5:=X1 (TyM.trans (TyM.of (M:=Mine) (bA _)) (TyM.of (M:=Mine) i9))
  have c9:=X1 ((c8.o.below (bA _)).below i9)
  have i1:=X1 (i0.o.trans d5.o)
  have c2:=X1 (c1.o.ty d5.o)
  have c0_27:=c9.o.c0
  clear i9
  obtain ⟨j8,j3,k4⟩:=H.form Q
  subst k4
  have a9:=X1 H
  clear H
  go_wp2_with fail
  refine (HI.o _ _ _ _ _ _ c9.o (by omega) (by omega)).mono ?_
  rintro e28 w28 ⟨v28,l28,rfl,I,S,mn28,f5,g2⟩
  have B:=X1 g2
  have d0:=X1 f5
  have i2:=X1 (i1.o.trans B.o)
  have c3:=X1 (c2.o.ty B.o)
  have b0:=X1 (a9.o.ty B.o)
  have c0_28:=d0.o.c0
  clear f5 g2
  obtain ⟨j9,j4,k5⟩:=I.form S
  subst k5
  have a5:=X1 I
  clear I
  go_wp2_with fail
  refine (Gn.pick d0.o (by omega) 2 (by omega) (by omega)).mono ?_
  rintro e29 w29 ⟨z29,hz29,rfl,f6,g3⟩
  have j:=X1 g3
  have p:=X1 f6
  have d9:=X1 (i2.o.trans j.o)
  have b:=X1 (c3.o.ty j.o)
  have a3:=X1 (b0.o.ty j.o)
  have a0:=X1 (a5.o.ty j.o)
  have c0_29:=p.o.c0
  clear f6 g3
  have e1:=b.o.1.cells rfl 0 _ rfl
  rw [Xl,Nat.zero_add] at e1
  have e3:=b.o.1.cells rfl 1 _ rfl
  rw [Xl,Nat.zero_add] at e3
  have e5:=b.o.1.cells rfl 2 _ rfl
  rw [Xl,Nat.zero_add] at e5
  have e7:=b.o.1.cells rfl 3 _ rfl
  rw [Xl,Nat.zero_add] at e7
  have e9:=b.o.1.cells rfl 4 _ rfl
  rw [Xl,Nat.zero_add] at e9
  by_cases hy:z29=0
  ·subst hy
   go_wp2_with fail
   have HO:=X1 (XF ⟨16,0,0,i,0⟩ [_,_] _ _ (kd+kd+5) (pr2 a3.o a0.o Q S) (by rw [fl2];omega) (by omega) (by simp))
   unfold ndV at HO
   refine (HO.o).mono ?_
   rintro e30 w30 ⟨v30,l30,rfl,J,g7,mn30,j0⟩
   have d6:=X1 (TyM.trans (TyM.of (M:=Mine) (bA _)) (TyM.of (M:=Mine) j0))
   have d1:=X1 ((p.o.below (bA _)).below j0)
   have i3:=X1 (d9.o.trans d6.o)
   have h0:=X1 (b.o.ty d6.o)
   have c0_30:=d1.o.c0
   clear j0
   obtain ⟨gq30,cq30,k6⟩:=J.form g7
   subst k6
   have b4:=X1 J
   clear J
   go_wp2
   go_ret
   exact ⟨_,_,rfl,b4.o,g7,by omega,d1.o.mono (by omega),i3.o⟩
  have hy0:((z29:Int) == 0)=false:=by simp;omega
  have Y:=X1 (p.o.below (Below.refl _ _).drew)
  have i7:=X1 (d9.o.trans (.of (Below.refl _ _).drew))
  have u:=X1 (a3.o.below (Below.refl _ _).drew)
  have t:=X1 (a0.o.below (Below.refl _ _).drew)
  have v:=X1 (b.o.below (Below.refl _ _).drew)
  go_wp2_with fail
  go_region_law (first
   | (refine step_call5E rfl 105 (.tmp 55) (.tmp 56) (.tmp 57) (.const (.int .i64 2)) (.tmp 59) _ _ _ _ _ rfl (.pointer (some ⟨gb,0,none⟩)) (.string i) (.int .i64 0) (.int .i64 2) (.int .i64 (d:Int)) (by first | (simp [Act.eval];done) | simp [Act.eval,Act.put]) (by first | (simp [Act.eval];done) | simp [Act.eval,Act.put]) (by first | (simp [Act.eval];done) | simp [Act.eval,Act.put]) (by first | (simp [Act.eval];done) | simp [Act.eval,Act.put]) (by first | (simp [Act.eval];done) | simp [Act.eval,Act.put]) Tryz.f105 Tryz.func105 (by kernel_rfl) (by kernel_rfl) _ (Qh gb rb vb n (HI.o _ _ _ _ _ _ Y.o (by omega) (by omega))) ?_;intro v9 w9 h9;obtain ⟨l9,O,p9,m9,V,g⟩:=h9;obtain ⟨k1,j6,l0⟩:=O.form p9;subst l0;have g9:=X1 O;have X:=X1 V;have h4:=X1 g;have x:=X1 (u.o.ty g);have s:=X1 (t.o.ty g);have a:=(v.o.ty g);have y0:=a.1.cells rfl 0 _ rfl;have y1:=a.1.cells rfl 1 _ rfl;have y2:=a.1.cells rfl 2 _ rfl;have y3:=a.1.cells rfl 3 _ rfl;have y4:=a.1.cells rfl 4 _ rfl;rw [Xl,Nat.zero_add] at y0 y1 y2 y3 y4;have f:=a.below (bA (.cells #[.slice (some ⟨j8,0,none⟩) l27.length j3,.slice (some ⟨j9,0,none⟩) l28.length j4,.slice (some ⟨k1,0,none⟩) l9.length j6] 23));have x0:=f.1.cells rfl 0 _ rfl;have x1:=f.1.cells rfl 1 _ rfl;have x2:=f.1.cells rfl 2 _ rfl;have x3:=f.1.cells rfl 3 _ rfl;have x4:=f.1.cells rfl 4 _ rfl;rw [Xl,Nat.zero_add] at x0 x1 x2 x3 x4;clear O V g a f)
   | (refine XM rfl 64 (.tmp 52) (.tmp 61) _ _ rfl (ndV ⟨16,0,0,i,0⟩) (.slice (some ⟨w9.heap.size,0,none⟩) 3 3) (by unfold ndV;first | (simp [Act.eval];done) | simp [Act.eval,Act.put]) (by first | (simp [Act.eval];done) | simp [Act.eval,Act.put]) Tryz.f64 Tryz.func64 (by kernel_rfl) (by kernel_rfl) _ (Jj (XF ⟨16,0,0,i,0⟩ [_,_,_] _ (w9.alloc _) (3 * kd+5) (pr3 x.o s.o g9.o Q S p9) (by simp only [List.flatten_cons,List.flatten_nil,List.length_append,List.length_nil];omega) (by omega) (by simp))) ?_;intro v8 w8 h8;obtain ⟨l8,N,p8,m8,b8⟩:=h8;obtain ⟨gq8,cq8,k9⟩:=N.form p8;subst k9))
  all_goals
   have W:=X1 ((X.o.below (bA _)).below b8)
   have i6:=X1 (((i7.o.trans h4.o).trans (.of (bA _))).trans (.of b8))
   have Z:=X1 N
   clear b8 N
   go_wp2
   go_ret
   exact ⟨_,_,rfl,Z.o,p8,by omega,W.o.mono (by omega),i6.o⟩
 have hz1:((z24:Int) == 0)=false:=by simp;omega
 go_wp2_with fail
 refine (HI.o _ _ _ _ _ _ m.o (by omega) (by omega)).mono ?_
 rintro e32 w32 ⟨v32,l32,rfl,K,U,mn32,f7,g4⟩
 have C:=X1 g4
 have d2:=X1 f7
 have i4:=X1 (d8.o.trans C.o)
 have c4:=X1 (b2.o.ty C.o)
 have b1:=X1 (a2.o.ty C.o)
 have c0_32:=d2.o.c0
 clear f7 g4
 obtain ⟨k0,j5,k7⟩:=K.form U
 subst k7
 have a6:=X1 K
 clear K
 go_wp2_with fail
 refine (Gn.pick d2.o (by omega) 2 (by omega) (by omega)).mono ?_
 rintro e33 w33 ⟨z33,hz33,rfl,f8,g5⟩
 have l:=X1 g5
 have r:=X1 f8
 have e0:=X1 (i4.o.trans l.o)
 have c:=X1 (c4.o.ty l.o)
 have a4:=X1 (b1.o.ty l.o)
 have a1:=X1 (a6.o.ty l.o)
 have c0_33:=r.o.c0
 clear f8 g5
 have e2:=c.o.1.cells rfl 0 _ rfl
 rw [Xl,Nat.zero_add] at e2
 have e4:=c.o.1.cells rfl 1 _ rfl
 rw [Xl,Nat.zero_add] at e4
 have e6:=c.o.1.cells rfl 2 _ rfl
 rw [Xl,Nat.zero_add] at e6
 have e8:=c.o.1.cells rfl 3 _ rfl
 rw [Xl,Nat.zero_add] at e8
 have f0:=c.o.1.cells rfl 4 _ rfl
 rw [Xl,Nat.zero_add] at f0
 by_cases hy:z33=0
 ·subst hy
  go_wp2_with fail
  have HO:=X1 (XF ⟨16,0,0,i,0⟩ [_,_] _ _ (kd+kd+5) (pr2 a4.o a1.o P U) (by rw [fl2];omega) (by omega) (by simp))
  unfold ndV at HO
  refine (HO.o).mono ?_
  rintro e34 w34 ⟨v34,l34,rfl,L,g8,mn34,j1⟩
  have d7:=X1 (TyM.trans (TyM.of (M:=Mine) (bA _)) (TyM.of (M:=Mine) j1))
  have d3:=X1 ((r.o.below (bA _)).below j1)
  have i5:=X1 (e0.o.trans d7.o)
  have h1:=X1 (c.o.ty d7.o)
  have c0_34:=d3.o.c0
  clear j1
  obtain ⟨gq34,cq34,k8⟩:=L.form g8
  subst k8
  have b5:=X1 L
  clear L
  go_wp2
  go_ret
  exact ⟨_,_,rfl,b5.o,g8,by omega,d3.o.mono (by omega),i5.o⟩
 have hy0:((z33:Int) == 0)=false:=by simp;omega
 have Y:=X1 (r.o.below (Below.refl _ _).drew)
 have i7:=X1 (e0.o.trans (.of (Below.refl _ _).drew))
 have u:=X1 (a4.o.below (Below.refl _ _).drew)
 have t:=X1 (a1.o.below (Below.refl _ _).drew)
 have v:=X1 (c.o.below (Below.refl _ _).drew)
 go_wp2_with fail
 go_region_law (first
  | (refine step_call5E rfl 105 (.tmp 55) (.tmp 56) (.tmp 57) (.const (.int .i64 2)) (.tmp 59) _ _ _ _ _ rfl (.pointer (some ⟨gb,0,none⟩)) (.string i) (.int .i64 1) (.int .i64 2) (.int .i64 (d:Int)) (by first | (simp [Act.eval];done) | simp [Act.eval,Act.put]) (by first | (simp [Act.eval];done) | simp [Act.eval,Act.put]) (by first | (simp [Act.eval];done) | simp [Act.eval,Act.put]) (by first | (simp [Act.eval];done) | simp [Act.eval,Act.put]) (by first | (simp [Act.eval];done) | simp [Act.eval,Act.put]) Tryz.f105 Tryz.func105 (by kernel_rfl) (by kernel_rfl) _ (Qh gb rb vb n (HI.o _ _ _ _ _ _ Y.o (by omega) (by omega))) ?_;intro v9 w9 h9;obtain ⟨l9,O,p9,m9,V,g⟩:=h9;obtain ⟨k1,j6,l0⟩:=O.form p9;subst l0;have g9:=X1 O;have X:=X1 V;have h4:=X1 g;have x:=X1 (u.o.ty g);have s:=X1 (t.o.ty g);have a:=(v.o.ty g);have y0:=a.1.cells rfl 0 _ rfl;have y1:=a.1.cells rfl 1 _ rfl;have y2:=a.1.cells rfl 2 _ rfl;have y3:=a.1.cells rfl 3 _ rfl;have y4:=a.1.cells rfl 4 _ rfl;rw [Xl,Nat.zero_add] at y0 y1 y2 y3 y4;have f:=a.below (bA (.cells #[.slice (some ⟨j7,0,none⟩) l23.length j2,.slice (some ⟨k0,0,none⟩) l32.length j5,.slice (some ⟨k1,0,none⟩) l9.length j6] 23));have x0:=f.1.cells rfl 0 _ rfl;have x1:=f.1.cells rfl 1 _ rfl;have x2:=f.1.cells rfl 2 _ rfl;have x3:=f.1.cells rfl 3 _ rfl;have x4:=f.1.cells rfl 4 _ rfl;rw [Xl,Nat.zero_add] at x0 x1 x2 x3 x4;clear O V g a f)
  | (refine XM rfl 64 (.tmp 52) (.tmp 61) _ _ rfl (ndV ⟨16,0,0,i,0⟩) (.slice (some ⟨w9.heap.size,0,none⟩) 3 3) (by unfold ndV;first | (simp [Act.eval];done) | simp [Act.eval,Act.put]) (by first | (simp [Act.eval];done) | simp [Act.eval,Act.put]) Tryz.f64 Tryz.func64 (by kernel_rfl) (by kernel_rfl) _ (Jj (XF ⟨16,0,0,i,0⟩ [_,_,_] _ (w9.alloc _) (3 * kd+5) (pr3 x.o s.o g9.o P U p9) (by simp only [List.flatten_cons,List.flatten_nil,List.length_append,List.length_nil];omega) (by omega) (by simp))) ?_;intro v8 w8 h8;obtain ⟨l8,N,p8,m8,b8⟩:=h8;obtain ⟨gq8,cq8,k9⟩:=N.form p8;subst k9))
 all_goals
  have W:=X1 ((X.o.below (bA _)).below b8)
  have i6:=X1 (((i7.o.trans h4.o).trans (.of (bA _))).trans (.of b8))
  have Z:=X1 N
  clear b8 N
  go_wp2
  go_ret
  exact ⟨_,_,rfl,Z.o,p8,by omega,W.o.mono (by omega),i6.o⟩
variable (gb rb:Nat) (vb:Value) (n:Nat)
def Jr [LB] (d kd:Nat):Prop:=∀ (q k:Nat) (w:World),Gn gb rb vb n q k w→q+5 * kd+30≤700000000→k+1+d≤900→Calls Tryz.prog 119 #[.pointer (some ⟨gb,0,none⟩),.int .i64 ((d:Int)+1)] w fun e w'=>GMk gb rb vb n q (4 * kd+20) k w e w'
def JC [LB] (d kd:Nat):Prop:=∀ (q k:Nat) (kind:Int) (w:World),Gn gb rb vb n q k w→q+5 * kd+20≤700000000→k+1+d≤900→Calls Tryz.prog 118 #[.pointer (some ⟨gb,0,none⟩),.int .i64 kind,.int .i64 ((d:Int)+1)] w fun e w'=>GMk gb rb vb n q (4 * kd+10) k w e w'
set_option maxRecDepth 100000 in
set_option maxHeartbeats 16000000 in
theorem of_int [LB] (d kd:Nat) (HE:EAt gb rb vb n d kd) (HEA:JC gb rb vb n d kd) (HRE:Jr gb rb vb n d kd) (q k:Nat) (kind:Int) (w:World) (h:Gn gb rb vb n q k w) (hq:q+5 * kd+40≤700000000) (hk:k+1+d≤900) (hkd:kd≤1000000) (hkind:kind=0):Calls Tryz.prog 107 #[.pointer (some ⟨gb,0,none⟩),.int .i64 kind,.int .i64 ((d:Int)+1)] w fun e w'=>GMk gb rb vb n q (4 * kd+30) k w e w':=by
 have hwd:IntKind.i64.wrap (d:Int)=(d:Int):=by rw [IntKind.wrap_i64];omega
 have HG0:=X1 h
 have HT0:Hid (Ty w w):=X1 (.refl w)
 have c0:=h.c0
 have HEA:=X1 HEA
 have HRE:=X1 HRE
 have HE:=X1 HE
 clear h
 subst hkind
 go_enter Tryz.func107,Tryz.ntmps107
 go_wp2_with fail
 refine (Gn.pick HG0.o (by omega) 6 (by omega) (by omega)).mono ?_
 rintro e31 w31 ⟨x,hz31,rfl,c8,d6⟩
 have f3:=X1 d6
 have a:=X1 c8
 have b:=X1 (HT0.o.trans f3.o)
 have c0_31:=a.o.c0
 clear c8 d6
 by_cases hz_0:x=0
 ·subst hz_0
  go_wp2_with fail
  have b2:=X1 (World.ownsRow_lit (base:=0) (e:=3) (size:=1) w31 #[.int .i64 1,.int .i64 3,.int .i64 4] 3 (Nat.zero_le _) (by unfold maxLen;omega) rfl)
  simp only [] at b2
  refine (Gn.pick (a.o.below (bA _)) (by omega) 3 (by omega) (by omega)).mono ?_
  rintro e32 w32 ⟨y,hz32,rfl,c9,c⟩
  have f4:=X1 (TyM.trans (TyM.of (M:=Mine) (bA _)) c)
  have b4:=X1 c9
  have g5:=X1 (b.o.trans f4.o)
  have a0:=X1 (XO b2.o c (by unfold Mine;simp))
  have c0_32:=b4.o.c0
  clear c9 c
  obtain ⟨u33,e2⟩:∃ u,([.int .i64 1,.int .i64 3,.int .i64 4]:List Value)[y]?=some (.int .i64 u):=by
   have:y=0∨y=1∨y=2:=by omega
   rcases this with rfl | rfl | rfl <;> exact ⟨_,rfl⟩
  have h7:=a0.o.cells rfl y _ e2
  rw [Xl,Nat.zero_add] at h7
  clear e2
  go_wp2_with fail
  refine (HE.o _ _ _ _ b4.o (by omega) (by omega)).mono ?_
  rintro e34 w34 ⟨v34,l34,rfl,g,e4,mn34,d0,d7⟩
  have f5:=X1 d7
  have b5:=X1 d0
  have g6:=X1 (g5.o.trans f5.o)
  have c0_34:=b5.o.c0
  clear d0 d7
  obtain ⟨gq34,cq34,h9⟩:=g.form e4
  subst h9
  have a2:=X1 g
  clear g
  go_wp2_with fail
  have HO:=X1 (YM ⟨#[108,101,110]⟩ [_] _ _ (1 * kd+0) (pr1 a2.o e4) (by rw [fl1];omega) (by omega) (by simp) (by simp))
  refine (HO.o).mono ?_
  rintro e35 w35 ⟨v35,l35,rfl,i,e5,mn35,z⟩
  have f6:=X1 (TyM.trans (TyM.of (M:=Mine) (bA _)) (TyM.of (M:=Mine) z))
  have b6:=X1 ((b5.o.below (bA _)).below z)
  have g7:=X1 (g6.o.trans f6.o)
  have c0_35:=b6.o.c0
  clear z
  obtain ⟨gq35,cq35,i0⟩:=i.form e5
  subst i0
  have a3:=X1 i
  clear i
  go_wp2
  go_ret
  exact ⟨_,_,rfl,a3.o,e5,by omega,b6.o.mono (by omega),g7.o⟩
 by_cases hz_1:x=1
 ·subst hz_1
  go_wp2_with fail
  refine (HE.o _ _ _ _ a.o (by omega) (by omega)).mono ?_
  rintro e36 w36 ⟨v36,l36,rfl,j,e6,mn36,d1,d8⟩
  have f7:=X1 d8
  have b7:=X1 d1
  have g8:=X1 (b.o.trans f7.o)
  have c0_36:=b7.o.c0
  clear d1 d8
  obtain ⟨gq36,cq36,i1⟩:=j.form e6
  subst i1
  have a4:=X1 j
  clear j
  go_wp2_with fail
  have HO:=X1 (XF ⟨6,2,0,⟨#[]⟩,0⟩ [_] _ _ (1 * kd+0) (pr1 a4.o e6) (by rw [fl1];omega) (by omega) (by simp))
  unfold ndV at HO
  refine (HO.o).mono ?_
  rintro e37 w37 ⟨v37,l37,rfl,l,e7,mn37,A⟩
  have f8:=X1 (TyM.trans (TyM.of (M:=Mine) (bA _)) (TyM.of (M:=Mine) A))
  have b8:=X1 ((b7.o.below (bA _)).below A)
  have g9:=X1 (g8.o.trans f8.o)
  have c0_37:=b8.o.c0
  clear A
  obtain ⟨gq37,cq37,i2⟩:=l.form e7
  subst i2
  have a5:=X1 l
  clear l
  go_wp2
  go_ret
  exact ⟨_,_,rfl,a5.o,e7,by omega,b8.o.mono (by omega),g9.o⟩
 by_cases hz_2:x=2
 ·subst hz_2
  go_wp2_with fail
  have b3:=X1 (World.ownsRow_lit (base:=0) (e:=9) (size:=1) w31 #[.string ⟨#[48]⟩,.string ⟨#[45,53]⟩,.string ⟨#[49,50]⟩,.string ⟨#[120]⟩,.string ⟨#[57,50,50,51,51,55,50,48,51,54,56,53,52,55,55,53,56,48,56]⟩] 5 (Nat.zero_le _) (by unfold maxLen;omega) rfl)
  simp only [] at b3
  refine (Gn.pick (a.o.below (bA _)) (by omega) 5 (by omega) (by omega)).mono ?_
  rintro e38 w38 ⟨v,hz38,rfl,d2,f⟩
  have f9:=X1 (TyM.trans (TyM.of (M:=Mine) (bA _)) f)
  have b9:=X1 d2
  have h0:=X1 (b.o.trans f9.o)
  have a1:=X1 (XO b3.o f (by unfold Mine;simp))
  have c0_38:=b9.o.c0
  clear d2 f
  obtain ⟨u39,e3⟩:∃ u:Short,([.string ⟨#[48]⟩,.string ⟨#[45,53]⟩,.string ⟨#[49,50]⟩,.string ⟨#[120]⟩,.string ⟨#[57,50,50,51,51,55,50,48,51,54,56,53,52,55,55,53,56,48,56]⟩]:List Value)[v]?=some (.string u):=by
   have:v=0∨v=1∨v=2∨v=3∨v=4:=by omega
   rcases this with rfl | rfl | rfl | rfl | rfl <;> exact ⟨⟨_,by exact Nat.le_of_ble_eq_true rfl⟩,rfl⟩
  have h8:=a1.o.cells rfl v _ e3
  rw [Xl,Nat.zero_add] at h8
  clear e3
  go_wp2_with fail
  refine (ZJ _ _).mono ?_
  rintro e40 w40 ⟨v40,l40,rfl,m,e8,mn40,B⟩
  have g0:=X1 (TyM.of (M:=Mine) B)
  have c1:=X1 (b9.o.below B)
  have h1:=X1 (h0.o.trans g0.o)
  have c0_40:=c1.o.c0
  clear B
  obtain ⟨gq40,cq40,i3⟩:=m.form e8
  subst i3
  have a6:=X1 m
  clear m
  go_wp2_with fail
  have HO:=X1 (YM ⟨#[105,110,116]⟩ [_] _ _ (0 * kd+1) (pr1 a6.o e8) (by rw [fl1];omega) (by omega) (by simp) (by simp))
  refine (HO.o).mono ?_
  rintro e41 w41 ⟨v41,l41,rfl,p,e9,mn41,C⟩
  have g1:=X1 (TyM.trans (TyM.of (M:=Mine) (bA _)) (TyM.of (M:=Mine) C))
  have c2:=X1 ((c1.o.below (bA _)).below C)
  have h2:=X1 (h1.o.trans g1.o)
  have c0_41:=c2.o.c0
  clear C
  obtain ⟨gq41,cq41,i4⟩:=p.form e9
  subst i4
  have a7:=X1 p
  clear p
  go_wp2
  go_ret
  exact ⟨_,_,rfl,a7.o,e9,by omega,c2.o.mono (by omega),h2.o⟩
 have hb_0:((x:Int) == 0)=false:=by simp;omega
 have hb_1:((x:Int) == 1)=false:=by simp;omega
 have hb_2:((x:Int) == 2)=false:=by simp;omega
 go_wp2_with fail
 refine (Gn.pick a.o (by omega) 5 (by omega) (by omega)).mono ?_
 rintro e42 w42 ⟨z42,hz42,rfl,d3,d9⟩
 have g2:=X1 d9
 have c3:=X1 d3
 have h3:=X1 (b.o.trans g2.o)
 have c0_42:=c3.o.c0
 clear d3 d9
 go_wp2_with fail
 refine (HE.o _ _ _ _ c3.o (by omega) (by omega)).mono ?_
 rintro e43 w43 ⟨v43,l43,rfl,r,f0,mn43,d4,e0⟩
 have g3:=X1 e0
 have c4:=X1 d4
 have h4:=X1 (h3.o.trans g3.o)
 have c0_43:=c4.o.c0
 clear d4 e0
 obtain ⟨gq43,cq43,i5⟩:=r.form f0
 subst i5
 have a8:=X1 r
 clear r
 go_wp2_with fail
 refine (HE.o _ _ _ _ c4.o (by omega) (by omega)).mono ?_
 rintro e44 w44 ⟨v44,l44,rfl,s,f1,mn44,d5,e1⟩
 have c7:=X1 e1
 have c5:=X1 d5
 have h5:=X1 (h4.o.trans c7.o)
 have a9:=X1 (a8.o.ty c7.o)
 have c0_44:=c5.o.c0
 clear d5 e1
 obtain ⟨gq44,cq44,i6⟩:=s.form f1
 subst i6
 have b0:=X1 s
 clear s
 go_wp2_with fail
 have HO:=X1 (fun op=>KC op _ _ _ _ (2 * kd+0) _ a9.o b0.o f0 f1 (by omega) (by omega))
 refine (HO.o _).mono ?_
 rintro e45 w45 ⟨v45,l45,rfl,t,f2,mn45,D⟩
 have g4:=X1 (TyM.of (M:=Mine) D)
 have c6:=X1 (c5.o.below D)
 have h6:=X1 (h5.o.trans g4.o)
 have c0_45:=c6.o.c0
 clear D
 obtain ⟨gq45,cq45,i7⟩:=t.form f2
 subst i7
 have b1:=X1 t
 clear t
 go_wp2
 go_ret
 exact ⟨_,_,rfl,b1.o,f2,by omega,c6.o.mono (by omega),h6.o⟩
set_option maxRecDepth 100000 in
set_option maxHeartbeats 16000000 in
theorem of_text [LB] (d kd:Nat) (HE:EAt gb rb vb n d kd) (HEA:JC gb rb vb n d kd) (HRE:Jr gb rb vb n d kd) (q k:Nat) (kind:Int) (w:World) (h:Gn gb rb vb n q k w) (hq:q+5 * kd+40≤700000000) (hk:k+1+d≤900) (hkd:kd≤1000000) (hkind:kind=1):Calls Tryz.prog 107 #[.pointer (some ⟨gb,0,none⟩),.int .i64 kind,.int .i64 ((d:Int)+1)] w fun e w'=>GMk gb rb vb n q (4 * kd+30) k w e w':=by
 have hwd:IntKind.i64.wrap (d:Int)=(d:Int):=by rw [IntKind.wrap_i64];omega
 have HG0:=X1 h
 have HT0:Hid (Ty w w):=X1 (.refl w)
 have c0:=h.c0
 have HEA:=X1 HEA
 have HRE:=X1 HRE
 have HE:=X1 HE
 clear h
 subst hkind
 go_enter Tryz.func107,Tryz.ntmps107
 go_wp2_with fail
 refine (Gn.pick HG0.o (by omega) 7 (by omega) (by omega)).mono ?_
 rintro e31 w31 ⟨c,hz31,rfl,f1,g3⟩
 have j0:=X1 g3
 have a:=X1 f1
 have b:=X1 (HT0.o.trans j0.o)
 have c0_31:=a.o.c0
 clear f1 g3
 by_cases hz_0:c=0
 ·subst hz_0
  go_wp2_with fail
  refine (Gn.pick a.o (by omega) 6 (by omega) (by omega)).mono ?_
  rintro e32 w32 ⟨z32,hz32,rfl,f2,g4⟩
  have j1:=X1 g4
  have c6:=X1 f2
  have k2:=X1 (b.o.trans j1.o)
  have c0_32:=c6.o.c0
  clear f2 g4
  go_wp2_with fail
  refine (HE.o _ _ _ _ c6.o (by omega) (by omega)).mono ?_
  rintro e33 w33 ⟨v33,l33,rfl,i,h5,mn33,f3,g5⟩
  have j2:=X1 g5
  have c7:=X1 f3
  have k3:=X1 (k2.o.trans j2.o)
  have c0_33:=c7.o.c0
  clear f3 g5
  obtain ⟨gq33,cq33,m1⟩:=i.form h5
  subst m1
  have b1:=X1 i
  clear i
  go_wp2_with fail
  have HO:=X1 (YM ⟨#[116,101,120,116]⟩ [_] _ _ (1 * kd+0) (pr1 b1.o h5) (by rw [fl1];omega) (by omega) (by simp) (by simp))
  refine (HO.o).mono ?_
  rintro e34 w34 ⟨v34,l34,rfl,j,h6,mn34,C⟩
  have j3:=X1 (TyM.trans (TyM.of (M:=Mine) (bA _)) (TyM.of (M:=Mine) C))
  have c8:=X1 ((c7.o.below (bA _)).below C)
  have k4:=X1 (k3.o.trans j3.o)
  have c0_34:=c8.o.c0
  clear C
  obtain ⟨gq34,cq34,m2⟩:=j.form h6
  subst m2
  have b2:=X1 j
  clear j
  go_wp2
  go_ret
  exact ⟨_,_,rfl,b2.o,h6,by omega,c8.o.mono (by omega),k4.o⟩
 by_cases hz_1:c=1
 ·subst hz_1
  go_wp2_with fail
  refine (HE.o _ _ _ _ a.o (by omega) (by omega)).mono ?_
  rintro e35 w35 ⟨v35,l35,rfl,l,h7,mn35,f4,g6⟩
  have j4:=X1 g6
  have c9:=X1 f4
  have k5:=X1 (b.o.trans j4.o)
  have c0_35:=c9.o.c0
  clear f4 g6
  obtain ⟨gq35,cq35,m3⟩:=l.form h7
  subst m3
  have b3:=X1 l
  clear l
  go_wp2_with fail
  refine (HE.o _ _ _ _ c9.o (by omega) (by omega)).mono ?_
  rintro e36 w36 ⟨v36,l36,rfl,m,h8,mn36,f5,g7⟩
  have e5:=X1 g7
  have d0:=X1 f5
  have k6:=X1 (k5.o.trans e5.o)
  have b4:=X1 (b3.o.ty e5.o)
  have c0_36:=d0.o.c0
  clear f5 g7
  obtain ⟨gq36,cq36,m4⟩:=m.form h8
  subst m4
  have b5:=X1 m
  clear m
  go_wp2_with fail
  have HO:=X1 (YM ⟨#[106,111,105,110]⟩ [_,_] _ _ (2 * kd+0) (pr2 b4.o b5.o h7 h8) (by rw [fl2];omega) (by omega) (by simp) (by simp))
  refine (HO.o).mono ?_
  rintro e37 w37 ⟨v37,l37,rfl,p,h9,mn37,D⟩
  have j5:=X1 (TyM.trans (TyM.of (M:=Mine) (bA _)) (TyM.of (M:=Mine) D))
  have d1:=X1 ((d0.o.below (bA _)).below D)
  have k7:=X1 (k6.o.trans j5.o)
  have c0_37:=d1.o.c0
  clear D
  obtain ⟨gq37,cq37,m5⟩:=p.form h9
  subst m5
  have b6:=X1 p
  clear p
  go_wp2
  go_ret
  exact ⟨_,_,rfl,b6.o,h9,by omega,d1.o.mono (by omega),k7.o⟩
 by_cases hz_2:c=2
 ·subst hz_2
  go_wp2_with fail
  refine (HE.o _ _ _ _ a.o (by omega) (by omega)).mono ?_
  rintro e38 w38 ⟨v38,l38,rfl,r,i0,mn38,f6,g8⟩
  have j6:=X1 g8
  have d2:=X1 f6
  have k8:=X1 (b.o.trans j6.o)
  have c0_38:=d2.o.c0
  clear f6 g8
  obtain ⟨gq38,cq38,m6⟩:=r.form i0
  subst m6
  have b7:=X1 r
  clear r
  go_wp2_with fail
  refine (Gn.pick d2.o (by omega) 2 (by omega) (by omega)).mono ?_
  rintro e39 w39 ⟨z39,hz39,rfl,f7,g9⟩
  have e6:=X1 g9
  have d3:=X1 f7
  have k9:=X1 (k8.o.trans e6.o)
  have b8:=X1 (b7.o.ty e6.o)
  have c0_39:=d3.o.c0
  clear f7 g9
  go_wp2_with fail
  refine (ZF _ _).mono ?_
  rintro e40 w40 ⟨v40,l40,rfl,s,i1,mn40,E⟩
  have e7:=X1 (TyM.of (M:=Mine) E)
  have d4:=X1 (d3.o.below E)
  have l0:=X1 (k9.o.trans e7.o)
  have b9:=X1 (b8.o.ty e7.o)
  have c0_40:=d4.o.c0
  clear E
  obtain ⟨gq40,cq40,m7⟩:=s.form i1
  subst m7
  have c3:=X1 s
  clear s
  go_wp2_with fail
  refine (Gn.pick d4.o (by omega) 3 (by omega) (by omega)).mono ?_
  rintro e41 w41 ⟨z41,hz41,rfl,f8,h0⟩
  have f:=X1 h0
  have d5:=X1 f8
  have l1:=X1 (l0.o.trans f.o)
  have c1:=X1 (b9.o.ty f.o)
  have c4:=X1 (c3.o.ty f.o)
  have c0_41:=d5.o.c0
  clear f8 h0
  go_wp2_with fail
  refine (ZF _ _).mono ?_
  rintro e42 w42 ⟨v42,l42,rfl,t,i2,mn42,F⟩
  have g:=X1 (TyM.of (M:=Mine) F)
  have d6:=X1 (d5.o.below F)
  have l2:=X1 (l1.o.trans g.o)
  have c2:=X1 (c1.o.ty g.o)
  have c5:=X1 (c4.o.ty g.o)
  have c0_42:=d6.o.c0
  clear F
  obtain ⟨gq42,cq42,m8⟩:=t.form i2
  subst m8
  have a0:=X1 t
  clear t
  go_wp2_with fail
  have HO:=X1 (YM ⟨#[99,117,116]⟩ [_,_,_] _ _ (1 * kd+2) (pr3 c2.o c5.o a0.o i0 i1 i2) (by rw [fl3];omega) (by omega) (by simp) (by simp))
  refine (HO.o).mono ?_
  rintro e43 w43 ⟨v43,l43,rfl,u,i3,mn43,H⟩
  have j7:=X1 (TyM.trans (TyM.of (M:=Mine) (bA _)) (TyM.of (M:=Mine) H))
  have d7:=X1 ((d6.o.below (bA _)).below H)
  have l3:=X1 (l2.o.trans j7.o)
  have c0_43:=d7.o.c0
  clear H
  obtain ⟨gq43,cq43,m9⟩:=u.form i3
  subst m9
  have a1:=X1 u
  clear u
  go_wp2
  go_ret
  exact ⟨_,_,rfl,a1.o,i3,by omega,d7.o.mono (by omega),l3.o⟩
 by_cases hz_3:c=3
 ·subst hz_3
  go_wp2_with fail
  refine (HE.o _ _ _ _ a.o (by omega) (by omega)).mono ?_
  rintro e44 w44 ⟨v44,l44,rfl,v,i4,mn44,f9,h1⟩
  have j8:=X1 h1
  have d8:=X1 f9
  have l4:=X1 (b.o.trans j8.o)
  have c0_44:=d8.o.c0
  clear f9 h1
  obtain ⟨gq44,cq44,n0⟩:=v.form i4
  subst n0
  have a2:=X1 v
  clear v
  go_wp2_with fail
  refine (Gn.pick d8.o (by omega) 2 (by omega) (by omega)).mono ?_
  rintro e45 w45 ⟨z45,hz45,rfl,g0,h2⟩
  have e8:=X1 h2
  have d9:=X1 g0
  have l5:=X1 (l4.o.trans e8.o)
  have a3:=X1 (a2.o.ty e8.o)
  have c0_45:=d9.o.c0
  clear g0 h2
  go_wp2_with fail
  refine (ZF _ _).mono ?_
  rintro e46 w46 ⟨v46,l46,rfl,x,i5,mn46,I⟩
  have e9:=X1 (TyM.of (M:=Mine) I)
  have e0:=X1 (d9.o.below I)
  have l6:=X1 (l5.o.trans e9.o)
  have a4:=X1 (a3.o.ty e9.o)
  have c0_46:=e0.o.c0
  clear I
  obtain ⟨gq46,cq46,n1⟩:=x.form i5
  subst n1
  have a5:=X1 x
  clear x
  go_wp2_with fail
  have HO:=X1 (XF ⟨10,0,0,⟨#[]⟩,0⟩ [_,_] _ _ (1 * kd+1) (pr2 a4.o a5.o i4 i5) (by rw [fl2];omega) (by omega) (by simp))
  unfold ndV at HO
  refine (HO.o).mono ?_
  rintro e47 w47 ⟨v47,l47,rfl,y,i6,mn47,J⟩
  have j9:=X1 (TyM.trans (TyM.of (M:=Mine) (bA _)) (TyM.of (M:=Mine) J))
  have e1:=X1 ((e0.o.below (bA _)).below J)
  have l7:=X1 (l6.o.trans j9.o)
  have c0_47:=e1.o.c0
  clear J
  obtain ⟨gq47,cq47,n2⟩:=y.form i6
  subst n2
  have a6:=X1 y
  clear y
  go_wp2
  go_ret
  exact ⟨_,_,rfl,a6.o,i6,by omega,e1.o.mono (by omega),l7.o⟩
 have hb_0:((c:Int) == 0)=false:=by simp;omega
 have hb_1:((c:Int) == 1)=false:=by simp;omega
 have hb_2:((c:Int) == 2)=false:=by simp;omega
 have hb_3:((c:Int) == 3)=false:=by simp;omega
 go_wp2_with fail
 refine (HE.o _ _ _ _ a.o (by omega) (by omega)).mono ?_
 rintro e48 w48 ⟨v48,l48,rfl,z,i7,mn48,g1,h3⟩
 have k0:=X1 h3
 have e2:=X1 g1
 have l8:=X1 (b.o.trans k0.o)
 have c0_48:=e2.o.c0
 clear g1 h3
 obtain ⟨gq48,cq48,n3⟩:=z.form i7
 subst n3
 have a7:=X1 z
 clear z
 go_wp2_with fail
 refine (HE.o _ _ _ _ e2.o (by omega) (by omega)).mono ?_
 rintro e49 w49 ⟨v49,l49,rfl,A,i8,mn49,g2,h4⟩
 have f0:=X1 h4
 have e3:=X1 g2
 have l9:=X1 (l8.o.trans f0.o)
 have a8:=X1 (a7.o.ty f0.o)
 have c0_49:=e3.o.c0
 clear g2 h4
 obtain ⟨gq49,cq49,n4⟩:=A.form i8
 subst n4
 have a9:=X1 A
 clear A
 go_wp2_with fail
 have HO:=X1 (fun op=>KC op _ _ _ _ (2 * kd+0) _ a8.o a9.o i7 i8 (by omega) (by omega))
 refine (HO.o _).mono ?_
 rintro e50 w50 ⟨v50,l50,rfl,B,i9,mn50,K⟩
 have k1:=X1 (TyM.of (M:=Mine) K)
 have e4:=X1 (e3.o.below K)
 have m0:=X1 (l9.o.trans k1.o)
 have c0_50:=e4.o.c0
 clear K
 obtain ⟨gq50,cq50,n5⟩:=B.form i9
 subst n5
 have b0:=X1 B
 clear B
 go_wp2
 go_ret
 exact ⟨_,_,rfl,b0.o,i9,by omega,e4.o.mono (by omega),m0.o⟩
end Go.Proofs.YtimbaebigjjkaaaGreatDoor
