/- Cg. -/
import Derived.Test.YthbfdaifgnhkbaaGreatDoorM08
namespace Go.Proofs.YthbfdaifgnhkbaaGreatDoor
open Go.RowKit
theorem XT [Inhabited Bs] {P:Program} {ops:Array Oper} {o:Oper} {a:Act} {w:World} {K:Act→World→Prop} {Q:Exit→Act→World→Prop} {E:Prop}
  (hg:o.guard=none) (f:FuncId) (x1 x2:Operand) (t1 t2:TypeId) (hop:o.op=Op.call {callee:=Callee.value (Operand.func f),args:=#[x1,x2],argTypes:=#[t1,t2]})
  (v1 v2:Value) (hx1:a.eval x1=v1) (hx2:a.eval x2=v2) (fn:Func) (hfn:P.funcs[f]?=some fn) (hne:(fn.name == "runtime.NumGoroutine")=false) (hbd:fn.body.isNone=false) (R:Value→World→Prop) (hC:Calls P f #[v1,v2] w fun e w'=>∃ r,e = .returned r∧R r w') (hK:∀ r w',R r w'→K (a.put o.dst r) w') :
  if Region.wanted o (yielded ops a.tmps)=true then Oper.wp P o a w K Q else E:=by
 have hw:Region.wanted o (yielded ops a.tmps)=true:=by simp [Region.wanted,hg]
 rw [if_pos hw]
 have h1:(callFunc f #[v1,v2]).run P w = .ok (.enter f #[v1,v2]) w:=by
  simp only [callFunc,Sem.run_bind,run_program,Result.andThen_ok,hfn,hne,hbd];rfl
 unfold Oper.wp
 simp only [execOp,hop,resolve,invoke,List.map_toArray,List.map_cons,List.map_nil,hx1,hx2,Deferred.ofValue,Sem.run_bind]
 rw [show a.eval (Operand.func f)=Value.func (Fn.func f) #[] #[] from rfl]
 simp only [Sem.run_pure,Result.andThen_ok]
 simp [h1]
 refine hC.mono fun e w2 h=>?_
 obtain ⟨r,rfl,h2⟩:=h
 exact hK _ _ h2
theorem Zd [Inhabited Bs] {P:Program} {ops:Array Oper} {o:Oper} {a:Act} {w:World} {K:Act→World→Prop} {Q:Exit→Act→World→Prop} {E:Prop}
  (hg:o.guard=none) (f:FuncId) (x1 x2 x3:Operand) (t1 t2 t3:TypeId) (hop:o.op=Op.call {callee:=Callee.value (Operand.func f),args:=#[x1,x2,x3],argTypes:=#[t1,t2,t3]})
  (v1 v2 v3:Value) (hx1:a.eval x1=v1) (hx2:a.eval x2=v2) (hx3:a.eval x3=v3) (fn:Func) (hfn:P.funcs[f]?=some fn) (hne:(fn.name == "runtime.NumGoroutine")=false) (hbd:fn.body.isNone=false) (R:Value→World→Prop) (hC:Calls P f #[v1,v2,v3] w fun e w'=>∃ r,e = .returned r∧R r w') (hK:∀ r w',R r w'→K (a.put o.dst r) w') :
  if Region.wanted o (yielded ops a.tmps)=true then Oper.wp P o a w K Q else E:=by
 have hw:Region.wanted o (yielded ops a.tmps)=true:=by simp [Region.wanted,hg]
 rw [if_pos hw]
 have h1:(callFunc f #[v1,v2,v3]).run P w = .ok (.enter f #[v1,v2,v3]) w:=by
  simp only [callFunc,Sem.run_bind,run_program,Result.andThen_ok,hfn,hne,hbd];rfl
 unfold Oper.wp
 simp only [execOp,hop,resolve,invoke,List.map_toArray,List.map_cons,List.map_nil,hx1,hx2,hx3,Deferred.ofValue,Sem.run_bind]
 rw [show a.eval (Operand.func f)=Value.func (Fn.func f) #[] #[] from rfl]
 simp only [Sem.run_pure,Result.andThen_ok]
 simp [h1]
 refine hC.mono fun e w2 h=>?_
 obtain ⟨r,rfl,h2⟩:=h
 exact hK _ _ h2
theorem step_call5E [Inhabited Bs] {P:Program} {ops:Array Oper} {o:Oper} {a:Act} {w:World} {K:Act→World→Prop} {Q:Exit→Act→World→Prop} {E:Prop}
  (hg:o.guard=none) (f:FuncId) (x1 x2 x3 x4 x5:Operand) (t1 t2 t3 t4 t5:TypeId) (hop:o.op=Op.call {callee:=Callee.value (Operand.func f),args:=#[x1,x2,x3,x4,x5],argTypes:=#[t1,t2,t3,t4,t5]})
  (v1 v2 v3 v4 v5:Value) (hx1:a.eval x1=v1) (hx2:a.eval x2=v2) (hx3:a.eval x3=v3) (hx4:a.eval x4=v4) (hx5:a.eval x5=v5) (fn:Func) (hfn:P.funcs[f]?=some fn) (hne:(fn.name == "runtime.NumGoroutine")=false) (hbd:fn.body.isNone=false) (R:Value→World→Prop) (hC:Calls P f #[v1,v2,v3,v4,v5] w fun e w'=>∃ r,e = .returned r∧R r w') (hK:∀ r w',R r w'→K (a.put o.dst r) w') :
  if Region.wanted o (yielded ops a.tmps)=true then Oper.wp P o a w K Q else E:=by
 have hw:Region.wanted o (yielded ops a.tmps)=true:=by simp [Region.wanted,hg]
 rw [if_pos hw]
 have h1:(callFunc f #[v1,v2,v3,v4,v5]).run P w = .ok (.enter f #[v1,v2,v3,v4,v5]) w:=by
  simp only [callFunc,Sem.run_bind,run_program,Result.andThen_ok,hfn,hne,hbd];rfl
 unfold Oper.wp
 simp only [execOp,hop,resolve,invoke,List.map_toArray,List.map_cons,List.map_nil,hx1,hx2,hx3,hx4,hx5,Deferred.ofValue,Sem.run_bind]
 rw [show a.eval (Operand.func f)=Value.func (Fn.func f) #[] #[] from rfl]
 simp only [Sem.run_pure,Result.andThen_ok]
 simp [h1]
 refine hC.mono fun e w2 h=>?_
 obtain ⟨r,rfl,h2⟩:=h
 exact hK _ _ h2
theorem QH [Inhabited Bs] {P:Program} {f:FuncId} {a:Array Value} {w:World} {m:Nat} (h:Calls P f a w fun e w'=>Mk w m e w'):Calls P f a w fun e w'=>∃ r,e = .returned r∧∃ l,NR w' r l∧0 < l.length∧l.length≤m∧Below w.heap.size w w':=h.mono fun _ _ ⟨v,l,h1,h2⟩=>⟨v,h1,l,h2⟩
variable (gb rb:Nat) (vb:Value) (n:Nat)
theorem KF [Inhabited Bs] {P:Program} {f:FuncId} {a:Array Value} {w:World} {q m k:Nat} (h:Calls P f a w fun e w'=>GMk gb rb vb n q m k w e w'):Calls P f a w fun e w'=>∃ r,e = .returned r∧∃ l,NR w' r l∧0 < l.length∧l.length≤m∧Gn gb rb vb n (q+m) k w'∧Ty w w':=h.mono fun _ _ ⟨v,l,h1,h2⟩=>⟨v,h1,l,h2⟩
set_option maxRecDepth 100000 in
set_option maxHeartbeats 8000000 in
theorem each_any [Inhabited Bs] (d kd:Nat) (HE:EAt gb rb vb n d kd) (q k:Nat) (kind:Int) (w:World) (h:Gn gb rb vb n q k w) (hq:q+5 * kd+20≤700000000) (hk:k+1+d≤900) (hkd:kd≤1000000):Calls Tryz.prog 109 #[.pointer (some ⟨gb,0,none⟩),.int .i64 kind,.int .i64 ((d:Int)+1)] w fun e w'=>GMk gb rb vb n q (4 * kd+10) k w e w':=by
 have hwd:IntKind.i64.wrap (d:Int)=(d:Int):=by rw [IntKind.wrap_i64];omega
 have HG0:=X1 h
 have HT0:Hid (Ty w w):=X1 (.refl w)
 have HI:=X1 (insideG_any gb rb vb n d kd HE)
 have HE:=X1 HE
 clear h
 go_enter Tryz.func109,Tryz.ntmps109
 go_wp2_with fail
 refine (Ki gb rb vb n _ _ _ HG0.out (by omega)).mono ?_
 rintro e21 w21 ⟨t21,rfl,hg21,ht21⟩
 have HR21:=X1 ht21
 have HG21:=X1 hg21
 have HT21:=X1 (HT0.out.trans HR21.out)
 have c0_21:=HG21.out.c0
 clear hg21 ht21
 have HNx_22:=X1 (KE w21 ⟨16,0,0,t21,0⟩)
 have pn22:0 < 1:=by decide
 have mn22:([⟨16,0,0,t21,0⟩]:List Tr.Nd).length≤1:=Nat.le_refl 1
 go_wp2_with fail
 refine (HE.out _ _ _ _ (HG21.out.below (bA _)) (by omega) (by omega)).mono ?_
 rintro e23 w23 ⟨v23,l23,rfl,nr23,pn23,mn23,hg23,ht23⟩
 have HR23:=X1 (TyM.trans (TyM.of (M:=Mine) (bA _)) ht23)
 have HG23:=X1 hg23
 have HT23:=X1 (HT21.out.trans HR23.out)
 have HNx_23:=X1 (HNx_22.out.ty ht23)
 have c0_23:=HG23.out.c0
 clear hg23 ht23
 obtain ⟨gq23,cq23,hv23⟩:=nr23.form pn23
 subst hv23
 have HNsrc_23:=X1 nr23
 clear nr23
 go_wp2_with fail
 refine (Gn.pick HG23.out (by omega) 3 (by omega) (by omega)).mono ?_
 rintro e24 w24 ⟨z24,hz24,rfl,hg24,ht24⟩
 have HR24:=X1 ht24
 have HG24:=X1 hg24
 have HT24:=X1 (HT23.out.trans HR24.out)
 have HNx_24:=X1 (HNx_23.out.ty HR24.out)
 have HNsrc_24:=X1 (HNsrc_23.out.ty HR24.out)
 have c0_24:=HG24.out.c0
 clear hg24 ht24
 by_cases hz0:z24=0
 ·subst hz0
  go_wp2_with fail
  refine (Gn.pick HG24.out (by omega) 5 (by omega) (by omega)).mono ?_
  rintro e25 w25 ⟨z25,hz25,rfl,hg25,ht25⟩
  have HR25:=X1 ht25
  have HG25:=X1 hg25
  have HT25:=X1 (HT24.out.trans HR25.out)
  have HNx_25:=X1 (HNx_24.out.ty HR25.out)
  have HNsrc_25:=X1 (HNsrc_24.out.ty HR25.out)
  have c0_25:=HG25.out.c0
  clear hg25 ht25
  go_wp2_with fail
  refine (Zj _ _).mono ?_
  rintro e26 w26 ⟨v26,l26,rfl,nr26,pn26,mn26,b26⟩
  have HR26:=X1 (TyM.of (M:=Mine) b26)
  have HG26:=X1 (HG25.out.below b26)
  have HT26:=X1 (HT25.out.trans HR26.out)
  have HNx_26:=X1 (HNx_25.out.ty HR26.out)
  have HNsrc_26:=X1 (HNsrc_25.out.ty HR26.out)
  have c0_26:=HG26.out.c0
  clear b26
  obtain ⟨gq26,cq26,hv26⟩:=nr26.form pn26
  subst hv26
  have HNi_26:=X1 nr26
  clear nr26
  go_wp2_with fail
  have HC:=X1 (Yt ⟨#[114,97,110,103,101]⟩ [_] _ _ 1 (pr1 HNi_26.out pn26) (by simpa using mn26) (by omega) (by simp) (by simp))
  refine (HC.out).mono ?_
  rintro e27 w27 ⟨v27,l27,rfl,nr27,pn27,mn27,b27⟩
  have HR27:=X1 (TyM.trans (TyM.of (M:=Mine) (bA _)) (TyM.of (M:=Mine) b27))
  have HG27:=X1 ((HG26.out.below (bA _)).below b27)
  have HT27:=X1 (HT26.out.trans HR27.out)
  have HNx_27:=X1 (HNx_26.out.ty HR27.out)
  have c0_27:=HG27.out.c0
  clear b27
  obtain ⟨gq27,cq27,hv27⟩:=nr27.form pn27
  subst hv27
  have HNsrc_27:=X1 nr27
  clear nr27
  go_wp2_with fail
  refine (HI.out _ _ _ _ _ _ HG27.out (by omega) (by omega)).mono ?_
  rintro e28 w28 ⟨v28,l28,rfl,nr28,pn28,mn28,hg28,ht28⟩
  have HR28:=X1 ht28
  have HG28:=X1 hg28
  have HT28:=X1 (HT27.out.trans HR28.out)
  have HNx_28:=X1 (HNx_27.out.ty HR28.out)
  have HNsrc_28:=X1 (HNsrc_27.out.ty HR28.out)
  have c0_28:=HG28.out.c0
  clear hg28 ht28
  obtain ⟨gq28,cq28,hv28⟩:=nr28.form pn28
  subst hv28
  have HNbody_28:=X1 nr28
  clear nr28
  go_wp2_with fail
  refine (Gn.pick HG28.out (by omega) 2 (by omega) (by omega)).mono ?_
  rintro e29 w29 ⟨z29,hz29,rfl,hg29,ht29⟩
  have HR29:=X1 ht29
  have HG29:=X1 hg29
  have HT29:=X1 (HT28.out.trans HR29.out)
  have HNx_29:=X1 (HNx_28.out.ty HR29.out)
  have HNsrc_29:=X1 (HNsrc_28.out.ty HR29.out)
  have HNbody_29:=X1 (HNbody_28.out.ty HR29.out)
  have c0_29:=HG29.out.c0
  clear hg29 ht29
  have bx029:=HNx_29.out.1.cells rfl 0 _ rfl
  rw [Xh,Nat.zero_add] at bx029
  have bx129:=HNx_29.out.1.cells rfl 1 _ rfl
  rw [Xh,Nat.zero_add] at bx129
  have bx229:=HNx_29.out.1.cells rfl 2 _ rfl
  rw [Xh,Nat.zero_add] at bx229
  have bx329:=HNx_29.out.1.cells rfl 3 _ rfl
  rw [Xh,Nat.zero_add] at bx329
  have bx429:=HNx_29.out.1.cells rfl 4 _ rfl
  rw [Xh,Nat.zero_add] at bx429
  by_cases hy:z29=0
  ·subst hy
   go_wp2_with fail
   have HO:=X1 (Xx ⟨16,0,0,t21,0⟩ [_,_] _ _ (kd+kd+5) (pr2 HNsrc_29.out HNbody_29.out pn27 pn28) (by rw [fl2];omega) (by omega) (by simp))
   unfold ndV at HO
   refine (HO.out).mono ?_
   rintro e30 w30 ⟨v30,l30,rfl,nr30,pn30,mn30,b30⟩
   have HR30:=X1 (TyM.trans (TyM.of (M:=Mine) (bA _)) (TyM.of (M:=Mine) b30))
   have HG30:=X1 ((HG29.out.below (bA _)).below b30)
   have HT30:=X1 (HT29.out.trans HR30.out)
   have HNx_30:=X1 (HNx_29.out.ty HR30.out)
   have c0_30:=HG30.out.c0
   clear b30
   obtain ⟨gq30,cq30,hv30⟩:=nr30.form pn30
   subst hv30
   have HNr_30:=X1 nr30
   clear nr30
   go_wp2
   go_ret
   exact ⟨_,_,rfl,HNr_30.out,pn30,by omega,HG30.out.mono (by omega),HT30.out⟩
  have hy0:((z29:Int) == 0)=false:=by simp;omega
  have HGd:=X1 (HG29.out.below (Below.refl _ _).drew)
  have HTd:=X1 (HT29.out.trans (.of (Below.refl _ _).drew))
  have HNds:=X1 (HNsrc_29.out.below (Below.refl _ _).drew)
  have HNdb:=X1 (HNbody_29.out.below (Below.refl _ _).drew)
  have HNdx:=X1 (HNx_29.out.below (Below.refl _ _).drew)
  go_wp2_with fail
  go_region_law (first
   | (refine step_call5E rfl 96 (.tmp 55) (.tmp 56) (.tmp 57) (.const (.int .i64 2)) (.tmp 59) _ _ _ _ _ rfl (.pointer (some ⟨gb,0,none⟩)) (.string t21) (.int .i64 0) (.int .i64 2) (.int .i64 (d:Int)) (by first | (simp [Act.eval];done) | simp [Act.eval,Act.put]) (by first | (simp [Act.eval];done) | simp [Act.eval,Act.put]) (by first | (simp [Act.eval];done) | simp [Act.eval,Act.put]) (by first | (simp [Act.eval];done) | simp [Act.eval,Act.put]) (by first | (simp [Act.eval];done) | simp [Act.eval,Act.put]) Tryz.f96 Tryz.func96 (by kernel_rfl) (by kernel_rfl) _ (KF gb rb vb n (HI.out _ _ _ _ _ _ HGd.out (by omega) (by omega))) ?_;intro v9 w9 h9;obtain ⟨l9,nr9,p9,m9,hg9,ht9⟩:=h9;obtain ⟨gq9,cq9,hv9⟩:=nr9.form p9;subst hv9;have HN9:=X1 nr9;have HG9:=X1 hg9;have HR9:=X1 ht9;have HNs9:=X1 (HNds.out.ty ht9);have HNb9:=X1 (HNdb.out.ty ht9);have HNx9:=(HNdx.out.ty ht9);have y0:=HNx9.1.cells rfl 0 _ rfl;have y1:=HNx9.1.cells rfl 1 _ rfl;have y2:=HNx9.1.cells rfl 2 _ rfl;have y3:=HNx9.1.cells rfl 3 _ rfl;have y4:=HNx9.1.cells rfl 4 _ rfl;rw [Xh,Nat.zero_add] at y0 y1 y2 y3 y4;have HNx8:=HNx9.below (bA (.cells #[.slice (some ⟨gq27,0,none⟩) l27.length cq27,.slice (some ⟨gq28,0,none⟩) l28.length cq28,.slice (some ⟨gq9,0,none⟩) l9.length cq9] 23));have x0:=HNx8.1.cells rfl 0 _ rfl;have x1:=HNx8.1.cells rfl 1 _ rfl;have x2:=HNx8.1.cells rfl 2 _ rfl;have x3:=HNx8.1.cells rfl 3 _ rfl;have x4:=HNx8.1.cells rfl 4 _ rfl;rw [Xh,Nat.zero_add] at x0 x1 x2 x3 x4;clear nr9 hg9 ht9 HNx9 HNx8)
   | (refine XT rfl 63 (.tmp 52) (.tmp 61) _ _ rfl (ndV ⟨16,0,0,t21,0⟩) (.slice (some ⟨w9.heap.size,0,none⟩) 3 3) (by unfold ndV;first | (simp [Act.eval];done) | simp [Act.eval,Act.put]) (by first | (simp [Act.eval];done) | simp [Act.eval,Act.put]) Tryz.f63 Tryz.func63 (by kernel_rfl) (by kernel_rfl) _ (QH (Xx ⟨16,0,0,t21,0⟩ [_,_,_] _ (w9.alloc _) (3 * kd+5) (pr3 HNs9.out HNb9.out HN9.out pn27 pn28 p9) (by simp only [List.flatten_cons,List.flatten_nil,List.length_append,List.length_nil];omega) (by omega) (by simp))) ?_;intro v8 w8 h8;obtain ⟨l8,nr8,p8,m8,b8⟩:=h8;obtain ⟨gq8,cq8,hv8⟩:=nr8.form p8;subst hv8))
  all_goals
   have HG8:=X1 ((HG9.out.below (bA _)).below b8)
   have HT8:=X1 (((HTd.out.trans HR9.out).trans (.of (bA _))).trans (.of b8))
   have HN8:=X1 nr8
   clear b8 nr8
   go_wp2
   go_ret
   exact ⟨_,_,rfl,HN8.out,p8,by omega,HG8.out.mono (by omega),HT8.out⟩
 have hz1:((z24:Int) == 0)=false:=by simp;omega
 go_wp2_with fail
 refine (HI.out _ _ _ _ _ _ HG24.out (by omega) (by omega)).mono ?_
 rintro e32 w32 ⟨v32,l32,rfl,nr32,pn32,mn32,hg32,ht32⟩
 have HR32:=X1 ht32
 have HG32:=X1 hg32
 have HT32:=X1 (HT24.out.trans HR32.out)
 have HNx_32:=X1 (HNx_24.out.ty HR32.out)
 have HNsrc_32:=X1 (HNsrc_24.out.ty HR32.out)
 have c0_32:=HG32.out.c0
 clear hg32 ht32
 obtain ⟨gq32,cq32,hv32⟩:=nr32.form pn32
 subst hv32
 have HNbody_32:=X1 nr32
 clear nr32
 go_wp2_with fail
 refine (Gn.pick HG32.out (by omega) 2 (by omega) (by omega)).mono ?_
 rintro e33 w33 ⟨z33,hz33,rfl,hg33,ht33⟩
 have HR33:=X1 ht33
 have HG33:=X1 hg33
 have HT33:=X1 (HT32.out.trans HR33.out)
 have HNx_33:=X1 (HNx_32.out.ty HR33.out)
 have HNsrc_33:=X1 (HNsrc_32.out.ty HR33.out)
 have HNbody_33:=X1 (HNbody_32.out.ty HR33.out)
 have c0_33:=HG33.out.c0
 clear hg33 ht33
 have bx033:=HNx_33.out.1.cells rfl 0 _ rfl
 rw [Xh,Nat.zero_add] at bx033
 have bx133:=HNx_33.out.1.cells rfl 1 _ rfl
 rw [Xh,Nat.zero_add] at bx133
 have bx233:=HNx_33.out.1.cells rfl 2 _ rfl
 rw [Xh,Nat.zero_add] at bx233
 have bx333:=HNx_33.out.1.cells rfl 3 _ rfl
 rw [Xh,Nat.zero_add] at bx333
 have bx433:=HNx_33.out.1.cells rfl 4 _ rfl
 rw [Xh,Nat.zero_add] at bx433
 by_cases hy:z33=0
 ·subst hy
  go_wp2_with fail
  have HO:=X1 (Xx ⟨16,0,0,t21,0⟩ [_,_] _ _ (kd+kd+5) (pr2 HNsrc_33.out HNbody_33.out pn23 pn32) (by rw [fl2];omega) (by omega) (by simp))
  unfold ndV at HO
  refine (HO.out).mono ?_
  rintro e34 w34 ⟨v34,l34,rfl,nr34,pn34,mn34,b34⟩
  have HR34:=X1 (TyM.trans (TyM.of (M:=Mine) (bA _)) (TyM.of (M:=Mine) b34))
  have HG34:=X1 ((HG33.out.below (bA _)).below b34)
  have HT34:=X1 (HT33.out.trans HR34.out)
  have HNx_34:=X1 (HNx_33.out.ty HR34.out)
  have c0_34:=HG34.out.c0
  clear b34
  obtain ⟨gq34,cq34,hv34⟩:=nr34.form pn34
  subst hv34
  have HNr_34:=X1 nr34
  clear nr34
  go_wp2
  go_ret
  exact ⟨_,_,rfl,HNr_34.out,pn34,by omega,HG34.out.mono (by omega),HT34.out⟩
 have hy0:((z33:Int) == 0)=false:=by simp;omega
 have HGd:=X1 (HG33.out.below (Below.refl _ _).drew)
 have HTd:=X1 (HT33.out.trans (.of (Below.refl _ _).drew))
 have HNds:=X1 (HNsrc_33.out.below (Below.refl _ _).drew)
 have HNdb:=X1 (HNbody_33.out.below (Below.refl _ _).drew)
 have HNdx:=X1 (HNx_33.out.below (Below.refl _ _).drew)
 go_wp2_with fail
 go_region_law (first
  | (refine step_call5E rfl 96 (.tmp 55) (.tmp 56) (.tmp 57) (.const (.int .i64 2)) (.tmp 59) _ _ _ _ _ rfl (.pointer (some ⟨gb,0,none⟩)) (.string t21) (.int .i64 1) (.int .i64 2) (.int .i64 (d:Int)) (by first | (simp [Act.eval];done) | simp [Act.eval,Act.put]) (by first | (simp [Act.eval];done) | simp [Act.eval,Act.put]) (by first | (simp [Act.eval];done) | simp [Act.eval,Act.put]) (by first | (simp [Act.eval];done) | simp [Act.eval,Act.put]) (by first | (simp [Act.eval];done) | simp [Act.eval,Act.put]) Tryz.f96 Tryz.func96 (by kernel_rfl) (by kernel_rfl) _ (KF gb rb vb n (HI.out _ _ _ _ _ _ HGd.out (by omega) (by omega))) ?_;intro v9 w9 h9;obtain ⟨l9,nr9,p9,m9,hg9,ht9⟩:=h9;obtain ⟨gq9,cq9,hv9⟩:=nr9.form p9;subst hv9;have HN9:=X1 nr9;have HG9:=X1 hg9;have HR9:=X1 ht9;have HNs9:=X1 (HNds.out.ty ht9);have HNb9:=X1 (HNdb.out.ty ht9);have HNx9:=(HNdx.out.ty ht9);have y0:=HNx9.1.cells rfl 0 _ rfl;have y1:=HNx9.1.cells rfl 1 _ rfl;have y2:=HNx9.1.cells rfl 2 _ rfl;have y3:=HNx9.1.cells rfl 3 _ rfl;have y4:=HNx9.1.cells rfl 4 _ rfl;rw [Xh,Nat.zero_add] at y0 y1 y2 y3 y4;have HNx8:=HNx9.below (bA (.cells #[.slice (some ⟨gq23,0,none⟩) l23.length cq23,.slice (some ⟨gq32,0,none⟩) l32.length cq32,.slice (some ⟨gq9,0,none⟩) l9.length cq9] 23));have x0:=HNx8.1.cells rfl 0 _ rfl;have x1:=HNx8.1.cells rfl 1 _ rfl;have x2:=HNx8.1.cells rfl 2 _ rfl;have x3:=HNx8.1.cells rfl 3 _ rfl;have x4:=HNx8.1.cells rfl 4 _ rfl;rw [Xh,Nat.zero_add] at x0 x1 x2 x3 x4;clear nr9 hg9 ht9 HNx9 HNx8)
  | (refine XT rfl 63 (.tmp 52) (.tmp 61) _ _ rfl (ndV ⟨16,0,0,t21,0⟩) (.slice (some ⟨w9.heap.size,0,none⟩) 3 3) (by unfold ndV;first | (simp [Act.eval];done) | simp [Act.eval,Act.put]) (by first | (simp [Act.eval];done) | simp [Act.eval,Act.put]) Tryz.f63 Tryz.func63 (by kernel_rfl) (by kernel_rfl) _ (QH (Xx ⟨16,0,0,t21,0⟩ [_,_,_] _ (w9.alloc _) (3 * kd+5) (pr3 HNs9.out HNb9.out HN9.out pn23 pn32 p9) (by simp only [List.flatten_cons,List.flatten_nil,List.length_append,List.length_nil];omega) (by omega) (by simp))) ?_;intro v8 w8 h8;obtain ⟨l8,nr8,p8,m8,b8⟩:=h8;obtain ⟨gq8,cq8,hv8⟩:=nr8.form p8;subst hv8))
 all_goals
  have HG8:=X1 ((HG9.out.below (bA _)).below b8)
  have HT8:=X1 (((HTd.out.trans HR9.out).trans (.of (bA _))).trans (.of b8))
  have HN8:=X1 nr8
  clear b8 nr8
  go_wp2
  go_ret
  exact ⟨_,_,rfl,HN8.out,p8,by omega,HG8.out.mono (by omega),HT8.out⟩
end Go.Proofs.YthbfdaifgnhkbaaGreatDoor
