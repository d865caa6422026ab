import Derived.Test.YtkoiikmhfaebnaaGreatDoorB05
import Derived.Test.YtkoiikmhfaebnaaGreatDoorB09
set_option maxHeartbeats 16000000
set_option maxRecDepth 100000
namespace Go.Proofs.YtkoiikmhfaebnaaGreatDoor
open Tryz Go.RowKit
variable (gb rb:Nat) (vb:Value) (n:Nat)
theorem Mx[LB](q k:Nat)(kind:Int)(w:World)(h:Gn gb rb vb n q k w)(Y:q<=700000000):Calls prog 208 #[.pointer (some ⟨gb,0,none⟩),.int .i64 kind] w fun e w'=>GMk gb rb vb n q 30 k w e w':=by
 have B0:=h.B0;clear h;go_enter func208,ntmps208;go_wp2_with fail;refine(Xck gb rb vb n q k kind w B0.g (by omega)).mono ?_;rintro e w1⟨v1,N,F,rfl,A,-,a,C,V,S,Q,rfl⟩;have B:GB gb rb vb n w [] (q+1) k w1:=⟨a,C,trivial⟩;have c0:=a.c0;have j:=X1 A;clear A a C B0;cases F;rotate_left;focus
  obtain⟨D,P,Z⟩:=j.o rfl;have B:GB gb rb vb n w [(_,N)] (q+1) k w1:=⟨B.g,B.t,⟨D,P⟩,trivial⟩;clear j D;go_wp2_with fail;refine(B.pk 3 (by omega)).mono ?_;rintro e w⟨z,E,rfl,c0,B⟩;by_cases X:(0:Int)<(z:Int)
  .go_wp2;go_ret;exact B.ret (by omega)
  obtain rfl:z=0:=by omega
  have B:=B.pop
 all_goals
  by_cases m:kind=0
  .subst m;have H:=(B.al (.cells #[.int .i64 0,.int .i64 1,.int .i64 2,.int .i64 3,.int .i64 7,.int .i64 200,.int .i64 9223372036854775807] 2)).g.c0;go_wp2_with fail;refine(B.ik Xcc [.int .i64 0,.int .i64 1,.int .i64 2,.int .i64 3,.int .i64 7,.int .i64 200,.int .i64 9223372036854775807] 7 rfl rfl (by omega)).mono ?_;rintro e w⟨z,u,E,rfl,W,c0,B⟩;go_wp2_with fail;refine(B.mo (D3 u _ (by omega))).mono ?_;rintro e w⟨g,c,l,rfl,d,c0,B⟩;go_wp2;go_ret;exact B.ret (by omega)
  by_cases r:kind=1
  .subst r;go_wp2_with fail;refine(B.st (B.g.text (by omega))).mono ?_;rintro e w⟨t,rfl,c0,B⟩;go_wp2_with fail;refine(B.mo (Dk t _)).mono ?_;rintro e w⟨g,c,l,rfl,d,c0,B⟩;go_wp2;go_ret;exact B.ret (by omega)
  by_cases s:kind=2
  .subst s;go_wp2_with fail;refine(B.pk 2 (by omega)).mono ?_;rintro e w⟨z,E,rfl,c0,B⟩;go_wp2;go_ret;exact(B.bx ⟨2,0,z,⟨#[]⟩,0⟩ ⟨YC rfl,by show(z:Int)<_;omega⟩).ret (by simp)
  by_cases v:kind=3
  .subst v;go_wp2_with fail;refine(B.mo (Dk _ _)).mono ?_;rintro e w⟨g,c,l,rfl,d,c0,B⟩;go_wp2_with fail;refine(B.mo (Dk _ _)).mono ?_;rintro e w⟨g,c,l,rfl,d,c0,B⟩;go_wp2_with fail;refine(B.o2 ⟨8,0,0,⟨#[]⟩,0⟩ (by omega)).mono ?_;rintro e w⟨g,c,l,rfl,d,c0,B⟩;go_wp2;go_ret;exact B.ret (by omega)
  by_cases y:kind=4
  .subst y;go_wp2_with fail;refine(B.mo (D3 1 _ (by decide))).mono ?_;rintro e w⟨g,c,l,rfl,d,c0,B⟩;go_wp2_with fail;refine(B.o1 ⟨17,0,0,⟨#[97]⟩,0⟩ (by omega)).mono ?_;rintro e w⟨g,c,l,rfl,d,c0,B⟩;go_wp2_with fail;refine(B.o1 ⟨9,0,0,⟨#[]⟩,0⟩ (by omega)).mono ?_;rintro e w⟨g,c,l,rfl,d,c0,B⟩;go_wp2;go_ret;exact B.ret (by omega)
  have I:(kind==0)=false:=by simpa using m
  have J:(kind==1)=false:=by simpa using r
  have K:(kind==2)=false:=by simpa using s
  have L:(kind==3)=false:=by simpa using v
  have M:(kind==4)=false:=by simpa using y
  go_wp2;go_ret;exact(B.bx ⟨1,0,0,⟨#[]⟩,0⟩).ret (by simp)
def PW(B:Nat)(w:World)(v:Value)(ls:List (List Nd)):Prop:=∃vs:List Value,w.ownsRow B 23 1 v ls.length vs/\∀i (h:i<ls.length),∃u,vs[i]?=some u/\NR w u ls[i]/\0<ls[i].length
theorem PW.pr[LB]{B:Nat}{w:World}{v:Value}{ls:List (List Nd)}(h:PW B w v ls):PR w v ls:=by
 obtain⟨d,a,c⟩:=h;exact⟨d,QJ a (X6 _),c⟩
theorem PW.ty[LB]{B:Nat}{w w':World}{v:Value}{ls:List (List Nd)}(h:PW B w v ls)(d:Ty w w'):PW B w' v ls:=by
 obtain⟨k,g,j⟩:=h;exact⟨k,YL g d MA,fun i hi=>by obtain⟨u,a,b,c⟩:=j i hi;exact⟨u,a,b.ty d,c⟩⟩
theorem PW.tf[LB]{B:Nat}{w w':World}{v:Value}{ls:List (List Nd)}(h:PW B w v ls)(d:Tf w w'):PW B w' v ls:=by
 obtain⟨k,g,j⟩:=h;exact⟨k,YL g d E4,fun i hi=>by obtain⟨u,a,b,c⟩:=j i hi;exact⟨u,a,b.tf d,c⟩⟩
theorem PW.below[LB]{B:Nat}{w w':World}{v:Value}{ls:List (List Nd)}(h:PW B w v ls)(a:BL w w'):PW B w' v ls:=h.ty (.of a)
theorem PW.new[LB]{B:Nat}(w:World)(a:B<=w.heap.size):PW B (w.alloc (.cells #[] 23)) (.slice (some ⟨w.heap.size,0,none⟩) 0 0) []:=⟨[],XV (base:=B) (e:=23) (size:=1) w #[] 0 a (X6 _) rfl,fun _ hi=>absurd hi (U8 _)⟩
theorem PW.one[LB]{B:Nat}{w:World}{a:Value}{c:List Nd}(d:NR w a c)(j:0<c.length)(g:B<=w.heap.size):PW B (w.alloc (.cells #[a] 23)) (.slice (some ⟨w.heap.size,0,none⟩) 1 1) [c]:=
 ⟨[a],XV (base:=B) (e:=23) (size:=1) w #[a] 1 g (by unfold maxLen;omega) rfl,fun i hi=>by
  obtain rfl:i=0:=by simpa using hi
  exact⟨_,rfl,d.below (bA _),j⟩⟩
structure Pf (B:Nat) (w w':World):Prop where
 os:w'.os=w.os
 tape:w'.tape=w.tape
 output:w'.output=w.output
 size:w.heap.size<=w'.heap.size
 block:∀b,b<w.heap.size->(b<B\/Xm w b≠some 23)->w'.heap[b]?=w.heap[b]?
theorem Pf.row[LB]{B base size:Nat}{w w':World}{e:TypeId}{v:Value}{m:Nat}{a:List Value}(h:Pf B w w')(g:w.ownsRow base e size v m a)(c:e≠23):w'.ownsRow base e size v m a:=KK g (fun q d j=>h.block q d (.inr (by rw[j];exact fun e'=>c (YD e'))))
theorem Pf.nr[LB]{B:Nat}{w w':World}{v:Value}{l:List Nd}(h:Pf B w w')(a:NR w v l):NR w' v l:=⟨h.row a.1 (by decide),a.2⟩
theorem Pf.tyM[LB]{B:Nat}{M:Option TypeId->Prop}{w W k:World}(h:Pf B W k)(d:TyM M w W)(j:w.heap.size<=B):TyM M w k:=
 ⟨h.os.trans d.os,h.tape.trans d.tape,h.output.trans d.output,XO d.size h.size,fun q c g=>(h.block q (Xd c d.size) (.inl (Xd c j))).trans (d.block q c g),fun l q c g=>by
  obtain⟨m,r⟩:=d.two l q c g;have e:=h.block q (Xd c d.size) (.inl (Xd c j));exact⟨(Q6 e).trans m,(Xy (a:=⟨q,2,none⟩) e).trans r⟩,fun q c g=>(h.block q (Xd c d.size) (.inl (Xd c j))).trans (d.old q c g)⟩
theorem Pf.gn[LB]{B gb rb n q k:Nat}{vb:Value}{w w':World}(h:Pf B w w')(d:Gn gb rb vb n q k w)(W:rb<B):Gn gb rb vb n q k w':=by
 have l:∀t,t≠23->∀q,q<w.heap.size->Xm w q=some t->w'.heap[q]?=w.heap[q]?:=fun t N q L s=>h.block q L (.inr (by rw[s];exact fun e=>N (YD e)));have r:=l _ (by decide) gb d.lt d.ty;have g:∀j,w'.cell? ⟨gb,j,none⟩=w.cell? ⟨gb,j,none⟩:=fun j=>Xy (a:=⟨gb,j,none⟩) r;have J:=d.lt;have u:=d.up;obtain⟨p,K,M⟩:=d.R;obtain⟨v,S,n1,n2,n3⟩:=d.nm;obtain⟨Q,m,V,A,C,D,E⟩:=d.fn;obtain⟨c,I,F⟩:=d.ct;obtain⟨z,P,y,H⟩:=d.sz;exact⟨⟨p,K,M.Uw (fun b X=>h.block b (by omega) (.inl (by omega)))⟩,u,(Q6 r).trans d.ty,(g 0).trans d.c0,⟨v,S,(g 1).trans n1,KK n2 (l _ (by decide)),n3⟩,⟨Q,m,V,(g 2).trans A,KK C (l _ (by decide)),D,E.XH (l _ (by decide))⟩,⟨c,I,(g 3).trans F⟩,⟨z,P,y,(g 4).trans H⟩,fun j=>(KU (a:=⟨gb,j,none⟩) r).trans (d.fr j),d.km⟩
theorem Gj[LB]{B:Nat}{W j:World}{O:Obj}{v v' u:Value}{l:List Nd}{ls:List (List Nd)}{m:List Value}(r:W.ownsRow B 23 1 v ls.length m)(A:∀i (h:i<ls.length),∃u,m[i]?=some u/\NR W u ls[i]/\0<ls[i].length)(E:NR W u l)(D:0<l.length)(F:j.ownsRow B 23 1 v' (ls.length+1) (m++[u]))(k:(W.alloc O).grownBy j v.ownBlock):PW B j v' (ls++[l])/\Pf B W j:=by
 have g:=(X5 W.heap.size W).alloc (X4 _) O;have d:Pf B W j:=⟨k.os.trans g.os,k.tape.trans g.tape,k.output.trans g.output,XO g.size k.size,fun b z q=>by
  refine(k.block b (Xd z g.size) (fun e=>?_)).trans (g.block b z);have I:=r.lt b e.symm;have C:=Q5 r e.symm;rcases q with q|q
  .omega
  .exact q C⟩
 have t:m.length=ls.length:=by have:=r.1;omega
 refine⟨⟨m++[u],by rw[Xo];exact F,fun i hi=>?_⟩,d⟩;by_cases y:i<ls.length
 .obtain⟨H,a,b,c⟩:=A i y;rw[Vg y];exact⟨H,by rw[QY (by omega)];exact a,d.nr b,c⟩
 .have s:i=ls.length:=by simp only[Xo,Ya,ZN]at hi;omega
  subst s;have e:(ls++[l])[ls.length]'hi=l:=by simp
  rw[e];exact⟨u,by rw[K6 (by omega),t];simp,d.nr E,D⟩
variable (gb rb:Nat) (vb:Value) (n:Nat)
def SG[LB](d kd:Nat):Prop:=∀(q k:Nat) (kind:Int) (w:World),Gn gb rb vb n q k w->q+5*kd+40<=700000000->k+1+d<=900->Calls prog 211 #[.pointer (some ⟨gb,0,none⟩),.int .i64 kind,.int .i64 ((d:Int)+1)] w fun e w'=>GOk gb rb vb n q (4*kd+30) k w e w'
theorem Xfd[LB]{q k:Nat}{w:World}(h:Gn gb rb vb n q k w)(r:q<=900000000)(m:Nat)(g:m<=1000000):Calls prog 23 #[.pointer (some ⟨rb,0,none⟩),.int .i64 m] w fun e w'=>∃z:Nat,(0<m->z<m)/\e= .returned (.int .i64 (z:Int))/\Gn gb rb vb n (q+1) k w'/\Ty w w'/\z<=m/\∀b,b<w.heap.size->b≠rb->w'.heap[b]?=w.heap[b]?:=by
 obtain⟨p,l,d⟩:=h.R;rcases Ly m with rfl|j
 .refine(EA rb n p vb w d (by omega)).mono ?_;rintro e w1⟨rfl,c,a⟩;exact⟨0,fun h=>h,rfl,h.XH (by omega) a.block ⟨p+1,by omega,c⟩,.dr a d.own,X4 _,a.block⟩
 .refine(MU rb n p vb m w d (by omega) (by omega) (by omega)).mono ?_;rintro e w1⟨z,s,rfl,c,a⟩;exact⟨z,fun _=>by omega,rfl,h.XH (by omega) a.block ⟨p+1,by omega,c⟩,.dr a d.own,by omega,a.block⟩
theorem KL[LB]{P:Program}{c:Array Oper}{o:Oper}{a:Act}{w:World}{K:Act->World->Prop}{Q:Exit->Act->World->Prop}{E:Prop}(A:o.guard=none)(f:FuncId)(s t:Operand)(C D:TypeId)(l:o.op=Op.call {callee:=Callee.value (Operand.func f),args:=#[s,t],argTypes:=#[C,D]})(d g:Value)(m:a.eval s=d)(q:a.eval t=g)(fn:Func)(k:P.funcs[f]?=some fn)(hne:(fn.name == "runtime.NumGoroutine")=false)(j:fn.body.isNone=false)(R:Value->World->Prop)(y:Calls P f #[d,g] w fun e w'=>∃r,e= .returned r/\R r w')(z:∀r w',R r w'->K (a.put o.dst r) w'): if Region.wanted o (yielded c a.tmps)=true then Oper.wp P o a w K Q else E:=by
 have B:Region.wanted o (yielded c a.tmps)=true:=by simp[Region.wanted,A]
 rw[X3 B];have u:(callFunc f #[d,g]).run P w= .ok (.enter f #[d,g]) w:=by
  simp only[callFunc,Zk,Wk,Zj,k,hne,j];rfl
 unfold Oper.wp;simp only[execOp,l,resolve,invoke,KP,Xu,Yc,m,q,Deferred.ofValue,Zk];rw[show a.eval (Operand.func f)=Value.func (Fn.func f) #[] #[]from rfl];simp only[QM,Zj];simp[u];refine y.mono fun e F h=>?_;obtain⟨r,rfl,v⟩:=h;exact z _ _ v
theorem Wo[LB]{P:Program}{c:Array Oper}{o:Oper}{a:Act}{w:World}{K:Act->World->Prop}{Q:Exit->Act->World->Prop}{E:Prop}(D:o.guard=none)(f:FuncId)(u v y:Operand)(H I J:TypeId)(m:o.op=Op.call {callee:=Callee.value (Operand.func f),args:=#[u,v,y],argTypes:=#[H,I,J]})(d g j:Value)(q:a.eval u=d)(s:a.eval v=g)(t:a.eval y=j)(fn:Func)(l:P.funcs[f]?=some fn)(hne:(fn.name == "runtime.NumGoroutine")=false)(k:fn.body.isNone=false)(R:Value->World->Prop)(B:Calls P f #[d,g,j] w fun e w'=>∃r,e= .returned r/\R r w')(C:∀r w',R r w'->K (a.put o.dst r) w'): if Region.wanted o (yielded c a.tmps)=true then Oper.wp P o a w K Q else E:=by
 have F:Region.wanted o (yielded c a.tmps)=true:=by simp[Region.wanted,D]
 rw[X3 F];have z:(callFunc f #[d,g,j]).run P w= .ok (.enter f #[d,g,j]) w:=by
  simp only[callFunc,Zk,Wk,Zj,l,hne,k];rfl
 unfold Oper.wp;simp only[execOp,m,resolve,invoke,KP,Xu,Yc,q,s,t,Deferred.ofValue,Zk];rw[show a.eval (Operand.func f)=Value.func (Fn.func f) #[] #[]from rfl];simp only[QM,Zj];simp[z];refine B.mono fun e L h=>?_;obtain⟨r,rfl,A⟩:=h;exact C _ _ A
theorem F7[LB]{P:Program}{c:Array Oper}{o:Oper}{a:Act}{w:World}{K:Act->World->Prop}{Q:Exit->Act->World->Prop}{E:Prop}(M:o.guard=none)(f:FuncId)(A B C D F:Operand)(S V W X Y:TypeId)(s:o.op=Op.call {callee:=Callee.value (Operand.func f),args:=#[A,B,C,D,F],argTypes:=#[S,V,W,X,Y]})(d g j k l:Value)(t:a.eval A=d)(u:a.eval B=g)(v:a.eval C=j)(y:a.eval D=k)(z:a.eval F=l)(fn:Func)(q:P.funcs[f]?=some fn)(hne:(fn.name == "runtime.NumGoroutine")=false)(m:fn.body.isNone=false)(R:Value->World->Prop)(J:Calls P f #[d,g,j,k,l] w fun e w'=>∃r,e= .returned r/\R r w')(L:∀r w',R r w'->K (a.put o.dst r) w'): if Region.wanted o (yielded c a.tmps)=true then Oper.wp P o a w K Q else E:=by
 have N:Region.wanted o (yielded c a.tmps)=true:=by simp[Region.wanted,M]
 rw[X3 N];have H:(callFunc f #[d,g,j,k,l]).run P w= .ok (.enter f #[d,g,j,k,l]) w:=by
  simp only[callFunc,Zk,Wk,Zj,q,hne,m];rfl
 unfold Oper.wp;simp only[execOp,s,resolve,invoke,KP,Xu,Yc,t,u,v,y,z,Deferred.ofValue,Zk];rw[show a.eval (Operand.func f)=Value.func (Fn.func f) #[] #[]from rfl];simp only[QM,Zj];simp[H];refine J.mono fun e Z h=>?_;obtain⟨r,rfl,I⟩:=h;exact L _ _ I
theorem V1[LB]{P:Program}{f:FuncId}{a:Array Value}{w:World}{m:Nat}(h:Calls P f a w fun e w'=>Mk w m e w'):Calls P f a w fun e w'=>∃r,e= .returned r/\∃l,NR w' r l/\0<l.length/\l.length<=m/\Below w.heap.size w w':=h.mono fun _ _ ⟨v,l,c,d⟩=>⟨v,c,l,d⟩
variable (gb rb:Nat) (vb:Value) (n:Nat)
theorem UU[LB]{P:Program}{f:FuncId}{a:Array Value}{w:World}{q m k:Nat}(h:Calls P f a w fun e w'=>GMk gb rb vb n q m k w e w'):Calls P f a w fun e w'=>∃r,e= .returned r/\∃l,NR w' r l/\0<l.length/\l.length<=m/\Gn gb rb vb n (q+m) k w'/\Ty w w':=h.mono fun _ _ ⟨v,l,c,d⟩=>⟨v,c,l,d⟩
theorem X4m[LB](d kd:Nat)(HE:EAt gb rb vb n d kd)(q k:Nat)(kind:Int)(w:World)(h:Gn gb rb vb n q k w)(hq:q+5*kd+20<=700000000)(hk:k+1+d<=900)(t7:kd<=1000000):Calls prog 246 #[.pointer (some ⟨gb,0,none⟩),.int .i64 kind,.int .i64 ((d:Int)+1)] w fun e w'=>GMk gb rb vb n q (4*kd+10) k w e w':=by
 have t8:IntKind.i64.wrap (d:Int)=(d:Int):=by rw[Yt];omega
 have n7:=X1 h;have n8:Hid (Ty w w):=X1 (.refl w);have HI:=X1 (Cz gb rb vb n d kd HE);have HE:=X1 HE;clear h;go_enter func246,ntmps246;go_wp2_with fail;refine(C8 gb rb vb n _ _ _ n7.o (by omega)).mono ?_;rintro s5 q4⟨s,rfl,f0,f8⟩;have j7:=X1 f8;have d5:=X1 f0;have j9:=X1 (n8.o.trans j7.o);have n9:=d5.o.c0;clear f0 f8;have c8:=X1 (IY q4 ⟨16,0,0,s,0⟩);have s4:0<1:=by decide
 have r6:([⟨16,0,0,s,0⟩]:List Nd).length<=1:=X4 1;go_wp2_with fail;refine(HE.o _ _ _ _ (d5.o.below (bA _)) (by omega) (by omega)).mono ?_;rintro s6 v0⟨u3,q0,rfl,a5,b2,r7,f1,a4⟩;have j8:=X1 (TyM.trans (TyM.of (M:=XS) (bA _)) a4);have d6:=X1 f1;have k0:=X1 (j9.o.trans j8.o);have c9:=X1 (c8.o.ty a4);have o0:=d6.o.c0;clear f1 a4;obtain⟨l2,k8,l6⟩:=a5.form b2;subst l6;have F:=X1 a5;clear a5;go_wp2_with fail;refine(Gn.pick d6.o (by omega) 3 (by omega) (by omega)).mono ?_;rintro s7 v1⟨m6,r2,rfl,f2,f9⟩;have Y:=X1 f9;have L:=X1 f2;have e7:=X1 (k0.o.trans Y.o);have C:=X1 (c9.o.ty Y.o);have t:=X1 (F.o.ty Y.o);have o4:=L.o.c0;clear f2 f9;by_cases p7:m6=0
 .subst p7;go_wp2_with fail;refine(Gn.pick L.o (by omega) 5 (by omega) (by omega)).mono ?_;rintro s8 v2⟨q5,r3,rfl,f3,g0⟩;have Z:=X1 g0;have d7:=X1 f3;have k1:=X1 (e7.o.trans Z.o);have d0:=X1 (C.o.ty Z.o);have H:=X1 (t.o.ty Z.o);have o5:=d7.o.c0;clear f3 g0;go_wp2_with fail;refine(D3 (q5:Int) _ (by omega)).mono ?_;rintro s9 v3⟨u4,u0,rfl,a6,g5,m5,h6⟩;have a0:=X1 (TyM.of (M:=XS) h6);have d8:=X1 (d7.o.below h6);have k2:=X1 (k1.o.trans a0.o);have d1:=X1 (d0.o.ty a0.o);have j6:=X1 (H.o.ty a0.o);have o6:=d8.o.c0;clear h6;obtain⟨q9,q6,l7⟩:=a6.form g5;subst l7;have b6:=X1 a6;clear a6;go_wp2_with fail;have HC:=X1 (WQ ⟨#[114,97,110,103,101]⟩ [_] _ _ 1 (pr1 b6.o g5) (by simpa using m5) (by omega) (by simp) (by simp));refine(HC.o).mono ?_;rintro t0 v4⟨u5,q1,rfl,a7,b3,r8,h7⟩;have e4:=X1 (TyM.trans (TyM.of (M:=XS) (bA _)) (TyM.of (M:=XS) h7));have d9:=X1 ((d8.o.below (bA _)).below h7);have k3:=X1 (k2.o.trans e4.o);have d2:=X1 (d1.o.ty e4.o);have o7:=d9.o.c0;clear h7;obtain⟨l3,k9,m0⟩:=a7.form b3;subst m0;have I:=X1 a7;clear a7;go_wp2_with fail;refine(HI.o _ _ _ _ _ _ d9.o (by omega) (by omega)).mono ?_;rintro t1 v5⟨u6,q2,rfl,a8,b4,r9,f4,g1⟩;have a1:=X1 g1;have e0:=X1 f4;have k4:=X1 (k3.o.trans a1.o);have d3:=X1 (d2.o.ty a1.o);have J:=X1 (I.o.ty a1.o);have o8:=e0.o.c0;clear f4 g1;obtain⟨l4,l0,m1⟩:=a8.form b4;subst m1;have y:=X1 a8;clear a8;go_wp2_with fail;refine(Gn.pick e0.o (by omega) 2 (by omega) (by omega)).mono ?_;rintro t2 v6⟨m7,r4,rfl,f5,g2⟩;have D:=X1 g2;have N:=X1 f5;have e8:=X1 (k4.o.trans D.o);have g:=X1 (d3.o.ty D.o);have u:=X1 (J.o.ty D.o);have l:=X1 (y.o.ty D.o);have o9:=N.o.c0;clear f5 g2;have i2:=g.o.1.cells rfl 0 _ rfl;rw[Ye,Xn]at i2;have i4:=g.o.1.cells rfl 1 _ rfl;rw[Ye,Xn]at i4;have i6:=g.o.1.cells rfl 2 _ rfl;rw[Ye,Xn]at i6;have i8:=g.o.1.cells rfl 3 _ rfl;rw[Ye,Xn]at i8;have j0:=g.o.1.cells rfl 4 _ rfl;rw[Ye,Xn]at j0;by_cases hy:m7=0
  .subst hy;go_wp2_with fail;have HO:=X1 (ZY ⟨16,0,0,s,0⟩ [_,_] _ _ (kd+kd+5) (pr2 u.o l.o b3 b4) (by rw[fl2];omega) (by omega) (by simp));unfold ndV at HO;refine(HO.o).mono ?_;rintro t3 v7⟨u7,u1,rfl,a9,g6,s1,i0⟩;have e5:=X1 (TyM.trans (TyM.of (M:=XS) (bA _)) (TyM.of (M:=XS) i0));have e1:=X1 ((N.o.below (bA _)).below i0);have k5:=X1 (e8.o.trans e5.o);have n5:=X1 (g.o.ty e5.o);have p0:=e1.o.c0;clear i0;obtain⟨r0,q7,m2⟩:=a9.form g6;subst m2;have b7:=X1 a9;clear a9;go_wp2;go_ret;exact⟨_,_,rfl,b7.o,g6,by omega,e1.o.mono (by omega),k5.o⟩
  have p6:((m7:Int)==0)=false:=by simp;omega
  have h0:=X1 (N.o.below (X5 _ _).drew);have h5:=X1 (e8.o.trans (.of (X5 _ _).drew));have V:=X1 (u.o.below (X5 _ _).drew);have S:=X1 (l.o.below (X5 _ _).drew);have W:=X1 (g.o.below (X5 _ _).drew);go_wp2_with fail;go_region_law(first
   | (refine F7 rfl 210 (.tmp 55) (.tmp 56) (.tmp 57) (.const (.int .i64 2)) (.tmp 59) _ _ _ _ _ rfl (.pointer (some ⟨gb,0,none⟩)) (.string s) (.int .i64 0) (.int .i64 2) (.int .i64 (d:Int)) (by first|(simp[Act.eval];done)|simp[Act.eval,Act.put]) (by first|(simp[Act.eval];done)|simp[Act.eval,Act.put]) (by first|(simp[Act.eval];done)|simp[Act.eval,Act.put]) (by first|(simp[Act.eval];done)|simp[Act.eval,Act.put]) (by first|(simp[Act.eval];done)|simp[Act.eval,Act.put]) f210 func210 (by kernel_rfl) (by kernel_rfl) _ (UU gb rb vb n (HI.o _ _ _ _ _ _ h0.o (by omega) (by omega))) ?_;intro v9 w9 h9;obtain⟨l9,B,p9,m9,a3,r⟩:=h9;obtain⟨j3,j2,j5⟩:=B.form p9;subst j5;have h2:=X1 B;have g9:=X1 a3;have h3:=X1 r;have X:=X1 (V.o.ty r);have Q:=X1 (S.o.ty r);have a:=(W.o.ty r);have y0:=a.1.cells rfl 0 _ rfl;have y1:=a.1.cells rfl 1 _ rfl;have y2:=a.1.cells rfl 2 _ rfl;have y3:=a.1.cells rfl 3 _ rfl;have y4:=a.1.cells rfl 4 _ rfl;rw[Ye,Xn]at y0 y1 y2 y3 y4;have c:=a.below (bA (.cells #[.slice (some ⟨l3,0,none⟩) q1.length k9,.slice (some ⟨l4,0,none⟩) q2.length l0,.slice (some ⟨j3,0,none⟩) l9.length j2] 23));have x0:=c.1.cells rfl 0 _ rfl;have x1:=c.1.cells rfl 1 _ rfl;have x2:=c.1.cells rfl 2 _ rfl;have x3:=c.1.cells rfl 3 _ rfl;have x4:=c.1.cells rfl 4 _ rfl;rw[Ye,Xn]at x0 x1 x2 x3 x4;clear B a3 r a c)
   | (refine KL rfl 80 (.tmp 52) (.tmp 61) _ _ rfl (ndV ⟨16,0,0,s,0⟩) (.slice (some ⟨w9.heap.size,0,none⟩) 3 3) (by unfold ndV;first|(simp[Act.eval];done)|simp[Act.eval,Act.put]) (by first|(simp[Act.eval];done)|simp[Act.eval,Act.put]) f80 func80 (by kernel_rfl) (by kernel_rfl) _ (V1 (ZY ⟨16,0,0,s,0⟩ [_,_,_] _ (w9.alloc _) (3*kd+5) (pr3 X.o Q.o h2.o b3 b4 p9) (by simp only[SO,SQ,Xo,ZN];omega) (by omega) (by simp))) ?_;intro v8 w8 h8;obtain⟨l8,A,p8,m8,b8⟩:=h8;obtain⟨p5,p4,j4⟩:=A.form p8;subst j4))
  all_goals
   have g8:=X1 ((g9.o.below (bA _)).below b8);have h4:=X1 (((h5.o.trans h3.o).trans (.of (bA _))).trans (.of b8));have h1:=X1 A;clear b8 A;go_wp2;go_ret;exact⟨_,_,rfl,h1.o,p8,by omega,g8.o.mono (by omega),h4.o⟩
 have t9:((m6:Int)==0)=false:=by simp;omega
 go_wp2_with fail;refine(HI.o _ _ _ _ _ _ L.o (by omega) (by omega)).mono ?_;rintro t4 w0⟨u8,q3,rfl,b0,b5,s2,f6,g3⟩;have a2:=X1 g3;have e2:=X1 f6;have k6:=X1 (e7.o.trans a2.o);have d4:=X1 (C.o.ty a2.o);have K:=X1 (t.o.ty a2.o);have p1:=e2.o.c0;clear f6 g3;obtain⟨l5,l1,m3⟩:=b0.form b5;subst m3;have z:=X1 b0;clear b0;go_wp2_with fail;refine(Gn.pick e2.o (by omega) 2 (by omega) (by omega)).mono ?_;rintro t5 w1⟨n4,r5,rfl,f7,g4⟩;have E:=X1 g4;have P:=X1 f7;have e9:=X1 (k6.o.trans E.o);have j:=X1 (d4.o.ty E.o);have v:=X1 (K.o.ty E.o);have m:=X1 (z.o.ty E.o);have p2:=P.o.c0;clear f7 g4;have i3:=j.o.1.cells rfl 0 _ rfl;rw[Ye,Xn]at i3;have i5:=j.o.1.cells rfl 1 _ rfl;rw[Ye,Xn]at i5;have i7:=j.o.1.cells rfl 2 _ rfl;rw[Ye,Xn]at i7;have i9:=j.o.1.cells rfl 3 _ rfl;rw[Ye,Xn]at i9;have j1:=j.o.1.cells rfl 4 _ rfl;rw[Ye,Xn]at j1;by_cases hy:n4=0
 .subst hy;go_wp2_with fail;have HO:=X1 (ZY ⟨16,0,0,s,0⟩ [_,_] _ _ (kd+kd+5) (pr2 v.o m.o b2 b5) (by rw[fl2];omega) (by omega) (by simp));unfold ndV at HO;refine(HO.o).mono ?_;rintro t6 w2⟨u9,u2,rfl,b1,g7,s3,i1⟩;have e6:=X1 (TyM.trans (TyM.of (M:=XS) (bA _)) (TyM.of (M:=XS) i1));have e3:=X1 ((P.o.below (bA _)).below i1);have k7:=X1 (e9.o.trans e6.o);have n6:=X1 (j.o.ty e6.o);have p3:=e3.o.c0;clear i1;obtain⟨r1,q8,m4⟩:=b1.form g7;subst m4;have b9:=X1 b1;clear b1;go_wp2;go_ret;exact⟨_,_,rfl,b9.o,g7,by omega,e3.o.mono (by omega),k7.o⟩
 have p6:((n4:Int)==0)=false:=by simp;omega
 have h0:=X1 (P.o.below (X5 _ _).drew);have h5:=X1 (e9.o.trans (.of (X5 _ _).drew));have V:=X1 (v.o.below (X5 _ _).drew);have S:=X1 (m.o.below (X5 _ _).drew);have W:=X1 (j.o.below (X5 _ _).drew);go_wp2_with fail;go_region_law(first
  | (refine F7 rfl 210 (.tmp 55) (.tmp 56) (.tmp 57) (.const (.int .i64 2)) (.tmp 59) _ _ _ _ _ rfl (.pointer (some ⟨gb,0,none⟩)) (.string s) (.int .i64 1) (.int .i64 2) (.int .i64 (d:Int)) (by first|(simp[Act.eval];done)|simp[Act.eval,Act.put]) (by first|(simp[Act.eval];done)|simp[Act.eval,Act.put]) (by first|(simp[Act.eval];done)|simp[Act.eval,Act.put]) (by first|(simp[Act.eval];done)|simp[Act.eval,Act.put]) (by first|(simp[Act.eval];done)|simp[Act.eval,Act.put]) f210 func210 (by kernel_rfl) (by kernel_rfl) _ (UU gb rb vb n (HI.o _ _ _ _ _ _ h0.o (by omega) (by omega))) ?_;intro v9 w9 h9;obtain⟨l9,B,p9,m9,a3,r⟩:=h9;obtain⟨j3,j2,j5⟩:=B.form p9;subst j5;have h2:=X1 B;have g9:=X1 a3;have h3:=X1 r;have X:=X1 (V.o.ty r);have Q:=X1 (S.o.ty r);have a:=(W.o.ty r);have y0:=a.1.cells rfl 0 _ rfl;have y1:=a.1.cells rfl 1 _ rfl;have y2:=a.1.cells rfl 2 _ rfl;have y3:=a.1.cells rfl 3 _ rfl;have y4:=a.1.cells rfl 4 _ rfl;rw[Ye,Xn]at y0 y1 y2 y3 y4;have c:=a.below (bA (.cells #[.slice (some ⟨l2,0,none⟩) q0.length k8,.slice (some ⟨l5,0,none⟩) q3.length l1,.slice (some ⟨j3,0,none⟩) l9.length j2] 23));have x0:=c.1.cells rfl 0 _ rfl;have x1:=c.1.cells rfl 1 _ rfl;have x2:=c.1.cells rfl 2 _ rfl;have x3:=c.1.cells rfl 3 _ rfl;have x4:=c.1.cells rfl 4 _ rfl;rw[Ye,Xn]at x0 x1 x2 x3 x4;clear B a3 r a c)
  | (refine KL rfl 80 (.tmp 52) (.tmp 61) _ _ rfl (ndV ⟨16,0,0,s,0⟩) (.slice (some ⟨w9.heap.size,0,none⟩) 3 3) (by unfold ndV;first|(simp[Act.eval];done)|simp[Act.eval,Act.put]) (by first|(simp[Act.eval];done)|simp[Act.eval,Act.put]) f80 func80 (by kernel_rfl) (by kernel_rfl) _ (V1 (ZY ⟨16,0,0,s,0⟩ [_,_,_] _ (w9.alloc _) (3*kd+5) (pr3 X.o Q.o h2.o b2 b5 p9) (by simp only[SO,SQ,Xo,ZN];omega) (by omega) (by simp))) ?_;intro v8 w8 h8;obtain⟨l8,A,p8,m8,b8⟩:=h8;obtain⟨p5,p4,j4⟩:=A.form p8;subst j4))
 all_goals
  have g8:=X1 ((g9.o.below (bA _)).below b8);have h4:=X1 (((h5.o.trans h3.o).trans (.of (bA _))).trans (.of b8));have h1:=X1 A;clear b8 A;go_wp2;go_ret;exact⟨_,_,rfl,h1.o,p8,by omega,g8.o.mono (by omega),h4.o⟩
variable (gb rb:Nat) (vb:Value) (n:Nat)
def GX[LB](d kd:Nat):Prop:=∀(q k:Nat) (w:World),Gn gb rb vb n q k w->q+5*kd+30<=700000000->k+1+d<=900->Calls prog 247 #[.pointer (some ⟨gb,0,none⟩),.int .i64 ((d:Int)+1)] w fun e w'=>GMk gb rb vb n q (4*kd+20) k w e w'
def Hg[LB](d kd:Nat):Prop:=∀(q k:Nat) (kind:Int) (w:World),Gn gb rb vb n q k w->q+5*kd+20<=700000000->k+1+d<=900->Calls prog 246 #[.pointer (some ⟨gb,0,none⟩),.int .i64 kind,.int .i64 ((d:Int)+1)] w fun e w'=>GMk gb rb vb n q (4*kd+10) k w e w'
def OfK[LB](d kd:Nat)(kind:Int):Prop:=EAt gb rb vb n d kd->Hg gb rb vb n d kd->GX gb rb vb n d kd->∀(q k:Nat) (w:World),Gn gb rb vb n q k w->q+5*kd+40<=700000000->k+1+d<=900->kd<=1000000->Calls prog 212 #[.pointer (some ⟨gb,0,none⟩),.int .i64 kind,.int .i64 ((d:Int)+1)] w fun e w'=>GMk gb rb vb n q (4*kd+30) k w e w'
theorem Xdp[LB](d kd:Nat):OfK gb rb vb n d kd 0:=by
 intro j m r q k w h J I E;have F:IntKind.i64.wrap (d:Int)=(d:Int):=by rw[Yt];omega
 have B:=h.B0;have c0:=h.c0;have m:=X1 m;have r:=X1 r;have j:=X1 j;clear h;go_enter func212,ntmps212;go_wp2_with fail;refine(B.pk 6 (by omega)).mono ?_;rintro e w⟨z,v,rfl,c0,B⟩;by_cases s:z=0
 .subst s;go_wp2_with fail;refine(B.ik E5 [.int .i64 1,.int .i64 3,.int .i64 4] 3 rfl rfl (by omega)).mono ?_;rintro e w⟨z,K,v,rfl,D,c0,B⟩;go_wp2_with fail;refine(B.e j.o (by omega)).mono ?_;rintro e w⟨g,c,l,rfl,a,c0,B⟩;go_wp2_with fail;refine(B.n1 ⟨#[108,101,110]⟩ (by omega)).mono ?_;rintro e w⟨g,c,l,rfl,a,c0,B⟩;go_wp2;go_ret;exact B.ret (by omega)
 by_cases t:z=1
 .subst t;go_wp2_with fail;refine(B.e j.o (by omega)).mono ?_;rintro e w⟨g,c,l,rfl,a,c0,B⟩;go_wp2_with fail;refine(B.o1 ⟨6,2,0,⟨#[]⟩,0⟩ (by omega)).mono ?_;rintro e w⟨g,c,l,rfl,a,c0,B⟩;go_wp2;go_ret;exact B.ret (by omega)
 by_cases u:z=2
 .subst u;go_wp2_with fail;refine(B.sk [.string ⟨#[48]⟩,.string ⟨#[45,53]⟩,.string ⟨#[49,50]⟩,.string ⟨#[120]⟩,.string ⟨#[57,50,50,51,51,55,50,48,51,54,56,53,52,55,55,53,56,48,56]⟩] 5 rfl rfl (by omega)).mono ?_;rintro e w⟨z,H,v,rfl,D,c0,B⟩;go_wp2_with fail;refine(B.mo (Dk H _)).mono ?_;rintro e w⟨g,c,l,rfl,a,c0,B⟩;go_wp2_with fail;refine(B.n1 ⟨#[105,110,116]⟩ (by omega)).mono ?_;rintro e w⟨g,c,l,rfl,a,c0,B⟩;go_wp2;go_ret;exact B.ret (by omega)
 have y:((z:Int)==0)=false:=by simp;omega
 have A:((z:Int)==1)=false:=by simp;omega
 have C:((z:Int)==2)=false:=by simp;omega
 go_wp2_with fail;refine(B.pk 5 (by omega)).mono ?_;rintro e w⟨z,v,rfl,c0,B⟩;go_wp2_with fail;refine(B.e j.o (by omega)).mono ?_;rintro e w⟨g,c,l,rfl,a,c0,B⟩;go_wp2_with fail;refine(B.e j.o (by omega)).mono ?_;rintro e w⟨g,c,l,rfl,a,c0,B⟩;go_wp2_with fail;refine(B.bn _ (by omega)).mono ?_;rintro e w⟨g,c,l,rfl,a,c0,B⟩;go_wp2;go_ret;exact B.ret (by omega)
theorem Xdu[LB](d kd:Nat):OfK gb rb vb n d kd 1:=by
 intro j m r q k w h J I F;have H:IntKind.i64.wrap (d:Int)=(d:Int):=by rw[Yt];omega
 have B:=h.B0;have c0:=h.c0;have m:=X1 m;have r:=X1 r;have j:=X1 j;clear h;go_enter func212,ntmps212;go_wp2_with fail;refine(B.pk 7 (by omega)).mono ?_;rintro e w⟨z,y,rfl,c0,B⟩;by_cases s:z=0
 .subst s;go_wp2_with fail;refine(B.pk 6 (by omega)).mono ?_;rintro e w⟨z,y,rfl,c0,B⟩;go_wp2_with fail;refine(B.e j.o (by omega)).mono ?_;rintro e w⟨g,c,l,rfl,a,c0,B⟩;go_wp2_with fail;refine(B.n1 ⟨#[116,101,120,116]⟩ (by omega)).mono ?_;rintro e w⟨g,c,l,rfl,a,c0,B⟩;go_wp2;go_ret;exact B.ret (by omega)
 by_cases t:z=1
 .subst t;go_wp2_with fail;refine(B.e j.o (by omega)).mono ?_;rintro e w⟨g,c,l,rfl,a,c0,B⟩;go_wp2_with fail;refine(B.e j.o (by omega)).mono ?_;rintro e w⟨g,c,l,rfl,a,c0,B⟩;go_wp2_with fail;refine(B.n2 ⟨#[106,111,105,110]⟩ (by omega)).mono ?_;rintro e w⟨g,c,l,rfl,a,c0,B⟩;go_wp2;go_ret;exact B.ret (by omega)
 by_cases u:z=2
 .subst u;go_wp2_with fail;refine(B.e j.o (by omega)).mono ?_;rintro e w⟨g,c,l,rfl,a,c0,B⟩;go_wp2_with fail;refine(B.pk 2 (by omega)).mono ?_;rintro e w⟨z,y,rfl,c0,B⟩;go_wp2_with fail;refine(B.mo (D3 z _ (by omega))).mono ?_;rintro e w⟨g,c,l,rfl,a,c0,B⟩;go_wp2_with fail;refine(B.pk 3 (by omega)).mono ?_;rintro e w⟨z,y,rfl,c0,B⟩;go_wp2_with fail;refine(B.mo (D3 z _ (by omega))).mono ?_;rintro e w⟨g,c,l,rfl,a,c0,B⟩;go_wp2_with fail;refine(B.n3 ⟨#[99,117,116]⟩ (by omega)).mono ?_;rintro e w⟨g,c,l,rfl,a,c0,B⟩;go_wp2;go_ret;exact B.ret (by omega)
 by_cases v:z=3
 .subst v;go_wp2_with fail;refine(B.e j.o (by omega)).mono ?_;rintro e w⟨g,c,l,rfl,a,c0,B⟩;go_wp2_with fail;refine(B.pk 2 (by omega)).mono ?_;rintro e w⟨z,y,rfl,c0,B⟩;go_wp2_with fail;refine(B.mo (D3 z _ (by omega))).mono ?_;rintro e w⟨g,c,l,rfl,a,c0,B⟩;go_wp2_with fail;refine(B.o2 ⟨10,0,0,⟨#[]⟩,0⟩ (by omega)).mono ?_;rintro e w⟨g,c,l,rfl,a,c0,B⟩;go_wp2;go_ret;exact B.ret (by omega)
 have A:((z:Int)==0)=false:=by simp;omega
 have C:((z:Int)==1)=false:=by simp;omega
 have D:((z:Int)==2)=false:=by simp;omega
 have E:((z:Int)==3)=false:=by simp;omega
 go_wp2_with fail;refine(B.e j.o (by omega)).mono ?_;rintro e w⟨g,c,l,rfl,a,c0,B⟩;go_wp2_with fail;refine(B.e j.o (by omega)).mono ?_;rintro e w⟨g,c,l,rfl,a,c0,B⟩;go_wp2_with fail;refine(B.bn _ (by omega)).mono ?_;rintro e w⟨g,c,l,rfl,a,c0,B⟩;go_wp2;go_ret;exact B.ret (by omega)
abbrev Sp:=List (ByteArray × Int)
def ZU(x:ByteArray):Sp->Option Int
 | []=>none
 | p::r=>if p.1=x then some p.2 else ZU x r
def Qa(x:ByteArray):List Sp->Option Int
 | []=>none
 | sc::r=>match ZU x sc with
  | some v=>some v
  | none=>Qa x r
def ZB(ns:List Nd)(k:Nat)(e:Sp × St):Sp × St:=match ZU (Xi ns k) e.1 with
 | some _=>(e.1,Xq k 8 e.2)
 | none=>((Xi ns k,(k:Int))::e.1,e.2)
def WI(ns:List Nd)(k:Nat)(ch:List Sp)(s:St):St:=match Qa (Xi ns k) ch with
 | some v=>{s with binds:=s.binds.set k v}
 | none=>Xq k 9 s
def ZQ(G:Nat->List Sp->St->St)(ls:List Nat)(ch:List Sp)(s:St):St:=ls.foldl (fun s y=>G y ch s) s
def JJ(G:Nat->List Sp->St->St)(ns:List Nd)(ks:List (List Nat))(p:Nat)(sc:Sp)(ch:List Sp)(df:Bool)(s:St):Sp × St:=((ZB ns p (sc,ZQ G (X9 ks p) (sc::ch) s)).1,if df=true/\(X9 ks p).length=0 then Xq p 10 (ZB ns p (sc,ZQ G (X9 ks p) (sc::ch) s)).2 else(ZB ns p (sc,ZQ G (X9 ks p) (sc::ch) s)).2)
def Jq(G:Nat->List Sp->St->St)(ns:List Nd)(ks:List (List Nat)):List Nat->Sp->List Sp->Bool->St->St
 | [],_,_,_,s=>s
 | [x],sc,ch,_,s=>G x (sc::ch) s
 | p::q::r,sc,ch,df,s=>Jq G ns ks (q::r) (JJ G ns ks p sc ch df s).1 ch (df||!decide ((X9 ks p).length=0)) (JJ G ns ks p sc ch df s).2
def ZR(ns:List Nd)(ms:List Nat)(e:Sp × St):Sp × St:=ms.foldl (fun e k=>ZB ns k e) e
def WH(G:Nat->List Sp->St->St)(ns:List Nd)(ks:List (List Nat))(ls:List Nat)(ch:List Sp)(s:St):St:=ZQ G (ls.filter fun x=>X8 ns x !=23) ((ZR ns (Yn ns ks ls) ([],s)).1::ch) (ZR ns (Yn ns ks ls) ([],s)).2
def I5(G:Nat->List Sp->St->St)(ns:List Nd)(k:Nat)(ch:List Sp)(s:St):List Nat->St
 | []=>s
 | x::r=>ZQ G r ([(Xi ns k,(k:Int))]::ch) (G x ch s)
def YX(ns:List Nd)(ks:List (List Nat)):Nat->Nat->List Sp->St->St
 | 0,_,_,s=>s
 | f+1,k,ch,s=>
  if X8 ns k=5 then WI ns k ch s
  else if X8 ns k=14\/X8 ns k=16 then I5 (YX ns ks f) ns k ch s (X9 ks k)
  else if X8 ns k=15\/X8 ns k=20 then Jq (YX ns ks f) ns ks (X9 ks k) [] ch false s
  else if X8 ns k=24 then WH (YX ns ks f) ns ks (X9 ks k) ch s
  else ZQ (YX ns ks f) (X9 ks k) ch s
theorem VY(x:ByteArray)(a:Sp)(c:List Sp):Qa x (a::c)=(ZU x a).or (Qa x c):=by
 rw[Qa];cases ZU x a<;>rfl
def Vm:Sp:=[[102,97,105,108],[102,105,108,101,115],[99,117,116],[98,101,103,105,110,115],[119,105,116,104,111,117,116],[114,101,99,111,114,100],[107,101,121,115],[115,112,108,105,116],[106,111,105,110],[117,110,105,113,117,101],[115,111,114,116,101,100],[114,97,110,103,101],[105,110,116],[116,101,120,116],[108,101,110]].map fun l=>(⟨l.toArray⟩,-2)
