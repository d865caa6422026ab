import Derived.Test.YtaeafhenpjnhiaaGreatDoorE21
import Derived.Test.YtaeafhenpjnhiaaGreatDoorE35
set_option maxHeartbeats 4000000
set_option maxRecDepth 100000
namespace Go.Proofs.YtaeafhenpjnhiaaGreatDoor
open Tryz Go.RowKit
theorem X3q:(prog.info? 181).map (fun i=>(i.zero,i.size,i.bytes))=some (some (.agg #[.t #[],.slice none 0 0,.q 0,.q 0]),4,56):=by kernel_rfl
theorem X3s:(prog.info? 3).map (fun i=>(i.zero,i.size,i.bytes))=some (some (.q 0),1,8):=by kernel_rfl
theorem FnC.snoc[LB]{w:World}{r:List Value}{m:Nat}(h:FnC w r m)(a:r.length=m*4)(s:XJ)(pv:Value)(d:List Int)(f z:Int)(F:w.ownsRow 0 3 1 pv d.length (d.map (Value.int .i64)))(k:d.length<=3)(g:0<=f)(j:f<=3):FnC w (r++[.string s,pv,.q f,.q z]) (m+1):=fun i hi=>by
 by_cases E:i<m
 .obtain⟨H,n,ps',u,I,v,y,A,B,C⟩:=h i E
  exact⟨H,n,ps',u,I,by rw[Jt (by omega)];exact v,by rw[Jt (by omega)];exact y,by rw[Jt (by omega)];exact A,by rw[Jt (by omega)];exact B,C⟩
 .obtain rfl:i=m:=by omega
  refine⟨s,pv,d,f,z,?_,?_,?_,?_,F,k,g,j⟩
  .rw[Q7 (by omega),a,show i*4-i*4=0 from by omega];rfl
  .rw[Q7 (by omega),a,show i*4+1-i*4=1 from by omega];rfl
  .rw[Q7 (by omega),a,show i*4+2-i*4=2 from by omega];rfl
  .rw[Q7 (by omega),a,show i*4+3-i*4=3 from by omega];rfl
theorem Gn.Xfd[LB]{gb rb:Nat}{vb:Value}{n q k:Nat}{w w':World}(h:Gn gb rb vb n q k w){v v':Value}(K:w.cell? ⟨gb,2,none⟩=some v)(J:w.grownBy w' v.ownBlock){y:Nat}{F:List Value}(hx:w'.ownsRow (rb+1) 181 4 v' y F)(hs:FnC w' F y)(hm:y<=1000):Gn gb rb vb n q k (w'.setCell ⟨gb,2,none⟩ v'):=by
 have X:=h.lt;have B:=h.up;obtain⟨N,m0,a0,H,I,f3,f4⟩:=h.fn;obtain rfl:N=v:=by rw[H]at K;exact Zq K
 have own:∀b,N.ownBlock=some b->rb+1<=b/\Xo w b=some 181:=fun b m=>⟨(I.lt b m).1,KH I m⟩;have L:∀t,t≠181->∀q,q<w.heap.size->Xo w q=some t->w'.heap[q]?=w.heap[q]?:=fun t ht q A d=>J.block q A (fun e=>by have:=(own q e.symm).2;rw[d]at this;exact ht (Zq this));have u:=L _ (by decide) gb X h.ty;have d:Xo w' gb=some 128:=(KI u).trans h.ty;have s:∀j,j≠2->(w'.setCell ⟨gb,2,none⟩ v').cell? ⟨gb,j,none⟩=w.cell? ⟨gb,j,none⟩:=fun j W=>(Zt _ _ _ _ (fun e=>W (Yt Addr.off e).symm)).trans (XQ (a:=⟨gb,j,none⟩) u);have M:∀b,b≠gb->(w'.setCell ⟨gb,2,none⟩ v').heap[b]?=w'.heap[b]?:=fun b m=>Y0 _ _ _ _ m;have E:∀t,t≠181->t≠128->∀q,q<w.heap.size->Xo w q=some t->(w'.setCell ⟨gb,2,none⟩ v').heap[q]?=w.heap[q]?:=fun t Q S q A g=>(M q (fun e=>by rw[e,h.ty]at g;exact S (Zq g).symm)).trans (L t Q q A g);obtain⟨p,Z,hr⟩:=h.R;obtain⟨vn,xs,n1,n2,n3⟩:=h.nm;obtain⟨c,hc,U⟩:=h.ct;obtain⟨z,hz,C,V⟩:=h.sz;exact⟨⟨p,Z,hr.JV (fun b m=>(M b (by omega)).trans (J.block b (by omega) (fun e=>by have:=(own b e.symm).1;omega)))⟩,B,by rw[Wh];exact d,(s 0 (by decide)).trans h.c0,⟨vn,xs,(s 1 (by decide)).trans n1,Kz n2 (E _ (by decide) (by decide)),n3⟩,⟨v',y,F,Qk _ _ _ ((XQ (a:=⟨gb,2,none⟩) u).trans H),Kc hx (by rw[d];decide),hm,hs.Zi (fun q' _ r=>Y0 _ _ _ _ (fun e=>by have O:q'=gb:=e;rw[O,d]at r;cases r))⟩,⟨c,by omega,(s 3 (by decide)).trans U⟩,⟨z,by omega,C,(s 4 (by decide)).trans V⟩,fun j=>by rw[UJ];exact(ZC (a:=⟨gb,j,none⟩) u).trans (h.fr j),h.km⟩
section
variable {P:Program} {ops:Array Oper} {Q:Exit->Act->World->Prop} {md:Region.Mode}
theorem WW[LB]{l:Array Bool}{i:Nat}(h:i∈Region.ready md ops l):∃o,ops[i]?=some o/\l[i]?=some false/\∀e∈o.after,Region.binds md e=true->l[e.on]?=some true:=by
 unfold Region.ready at h;rw[Mj,Wq]at h;obtain⟨j,d⟩:=h;have g:ops[i]?=some ops[i]:=Ma j;rw[g]at d;simp only[UA,Wu,XE,Rh,Rc]at d;refine⟨_,g,?_,fun e m k=>?_⟩
 .have:=d.1;rw[Dh]at this;cases a:l[i]? with
  | none=>rw[a]at this;cases this
  | some b=>rw[a]at this;simp only[Wu]at this;rw[this]
 .have:=d.2 e m;rw[k]at this;simp only[Bool.not_true,I3]at this;rw[Dh]at this;cases a:l[e.on]? with
  | none=>rw[a]at this;cases this
  | some b=>rw[a]at this;simp only[Wu]at this;rw[this]
theorem Xfu[LB]{l:Array Bool}{i:Nat}{o:Oper}(a:ops[i]?=some o)(j:l[i]?=some false)(d:∀e∈o.after,l[e.on]?=some true):i∈Region.ready md ops l:=by
 unfold Region.ready;rw[Mj,Wq];refine⟨(QS.1 a).1,?_⟩;rw[a,Dh,j];simp only[UA,Wu,Bool.not_false,Vs,Rc];intro e g;rw[Dh,d e g];simp
theorem Y3l[LB](Inv:Array Bool->Act->World->Prop)(u:∀l a w,Inv l a w->∀i∈Region.ready md ops l,wpOp P ops Q i (Inv (l.setIfInBounds i true)) a w)(m:∀l a w,Inv l a w->Region.ready md ops l=[]->Q .normal a w): ∀fuel l a w,l.toList.count false<=fuel->Inv l a w->wpAny P md ops Q fuel l a w:=by
 intro fuel;induction fuel with
 | zero=>
  intro l a w s g;have n:Region.ready md ops l=[]:=by
   rw[List.eq_nil_iff_forall_not_mem];intro i hi;obtain⟨o,_,d,_⟩:=WW hi;have:false∈l.toList:=by rw[Array.mem_toList_iff];exact Re d
   have:=List.count_pos_iff.2 this;omega
  exact⟨n,m l a w g n⟩
 | succ fuel v=>
  intro l a w s g;refine⟨m l a w g,fun i hi=>wpOp_mono (fun k w' h=>v _ _ _ ?_ h) (u l a w g i hi)⟩;obtain⟨o,_,d,_⟩:=WW hi;obtain⟨j,r⟩:=QS.1 d;have hm:false∈l.toList:=by rw[Array.mem_toList_iff];exact Re d
  have y:=List.count_pos_iff.2 hm;rw[Array.toList_setIfInBounds,List.count_set (by simpa using j)];simp only[Array.getElem_toList,r,beq_self_eq_true,Kv,show(true==false)=false from rfl,Jq,Kl];omega
theorem U8[LB]{i:Nat}{o:Oper}{a:Act}{w:World}{K:Act->World->Prop}(g:ops[i]?=some o)(h:if Region.wanted o (yielded ops a.tmps)=true then Oper.wp P o a w K Q else K (a.put o.dst undef) w):wpOp P ops Q i K a w:=by
 unfold wpOp;rw[g];simp only;split
 .rename_i d;rw[Xa d]at h;exact .inl h
 .rename_i d;rw[X6 d]at h;exact h
theorem Cw[LB]{l:Array Bool}(n:Region.ready md ops l=[])(s:l.size=ops.size)(k:∀(i:Nat) (o:Oper),ops[i]?=some o->∀e∈o.after,e.on<i):∀i,i<ops.size->l[i]?=some true:=by
 intro i;induction i using Nat.strongRecOn with
 | ind i r=>
  intro hi;have g:ops[i]?=some ops[i]:=Ma hi;have a:l[i]?=some l[i]:=Ma (by omega);cases d:l[i]with
  | true=>rw[a,d]
  | false=>
   exfalso;have hm:i∈Region.ready md ops l:=Xfu g (by rw[a,d]) (fun e m=>by
    have j:=k i _ g e m;exact r _ j (by omega))
   rw[n]at hm;cases hm
def Down(md:Region.Mode)(ops:Array Oper)(l:Array Bool):Prop:=∀(j:Nat) (o:Oper),ops[j]?=some o->l[j]?=some true->∀e∈o.after,Region.binds md e=true->l[e.on]?=some true
theorem Px[LB]{l:Array Bool}{i j:Nat}(h:l[j]?=some true):(l.setIfInBounds i true)[j]?=some true:=by
 rw[Di];split
 .rename_i e;subst e;rw[Xa (QS.1 h).1]
 .exact h
theorem Jm[LB]{l:Array Bool}{i j:Nat}(h:i≠j):(l.setIfInBounds i true)[j]?=l[j]?:=by rw[Di,X6 h]
theorem GU[LB]{l:Array Bool}{i:Nat}(h:l[i]?=some false):(l.setIfInBounds i true)[i]?=some true:=by rw[Di,Xa rfl,Xa (QS.1 h).1]
theorem Down.step[LB]{l:Array Bool}{i:Nat}(h:Down md ops l)(hi:i∈Region.ready md ops l):Down md ops (l.setIfInBounds i true):=fun j o n m e g d=>by
 by_cases k:i=j
 .subst k
  obtain⟨s,a,_,r⟩:=WW hi
  rw[n]at a
  obtain rfl:=Zq a
  exact Px (r e g d)
 .rw[Jm k]at m
  exact Px (h j o n m e g d)
theorem Down.all[LB]{l:Array Bool}{m:Nat}(h:Down md ops l)(n:∀j,j<m->∃(a:Nat) (o:Oper),j<a/\a<=m/\ops[a]?=some o/\∃e∈o.after,Region.binds md e=true/\e.on=j)(hm:l[m]?=some true):∀d j,j+d=m->l[j]?=some true:=by
 intro d;induction d using Nat.strongRecOn with
 | ind d s=>
  intro j A;rcases Ia d with rfl|y
  .rw[show j=m by omega];exact hm
  .obtain⟨a,o,u,v,g,e,r,k,rfl⟩:=n j (by omega);exact h a o g (s (m-a) (by omega) a (by omega)) e r k
def A1(ops:Array Oper):Bool:=(List.range ops.size).all fun i=>((ops[i]?).map fun o=>o.after.all fun e=>decide (e.on<i)).getD true
theorem A2[LB](h:A1 ops=true):∀(i:Nat) (o:Oper),ops[i]?=some o->∀e∈o.after,e.on<i:=fun i o d e g=>by
 have a:=Ua.1 h i (Wq.2 (QS.1 d).1)
 rw[d]at a
 simp only[UA,Wu,Rc,VO]at a
 exact a e g
def EC(md:Region.Mode)(ops:Array Oper)(m:Nat):Bool:=(List.range m).all fun j=>(List.range (m+1)).any fun k=>decide (j<k)&&((ops[k]?).map fun o=>o.after.any fun e=>Region.binds md e&&e.on==j).getD false
theorem Y2w[LB]{m:Nat}(h:EC md ops m=true):∀j,j<m->∃(n:Nat) (o:Oper),j<n/\n<=m/\ops[n]?=some o/\∃e∈o.after,Region.binds md e=true/\e.on=j:=fun j v=>by
 have s:=Ua.1 h j (Wq.2 v)
 obtain⟨k,y,a⟩:=List.any_eq_true.1 s
 rw[Wq]at y
 simp only[XE,VO]at a
 cases g:ops[k]? with
 | none=>rw[g]at a;exact absurd a.2 (by simp)
 | some o=>
  rw[g]at a
  have r:=a.2
  simp only[UA,Wu,Array.any_eq_true']at r
  obtain⟨e,u,d⟩:=r
  simp only[XE,Ql]at d
  exact⟨k,o,a.1,by omega,g,e,u,d.1,d.2⟩
def Z5(ops:Array Oper)(i:Nat)(d:Nat)(op:Op):Prop:=∃o,ops[i]?=some o/\o.dst=some d/\o.op=op/\o.guard=none
def onB(md:Region.Mode)(ops:Array Oper)(i j:Nat):Bool:=((ops[i]?).map fun o=>o.after.any fun e=>Region.binds md e&&e.on==j).getD false
theorem ZF[LB]{i j:Nat}{l:Array Bool}(h:onB md ops i j=true)(hi:i∈Region.ready md ops l):l[j]?=some true:=by
 obtain⟨o,k,_,d⟩:=WW hi;unfold onB at h;rw[k]at h;simp only[UA,Wu,Array.any_eq_true']at h;obtain⟨e,g,a⟩:=h;simp only[XE,Ql]at a;rw[←a.2];exact d e g a.1
theorem Dc[LB]{o:Oper}{a:Act}{w:World}{K:Act->World->Prop}{E:Prop}{v:Value}{w':World}(g:o.guard=none)(h:(execOp a.eval o).run P w= .ok (.value v) w')(d:K (a.put o.dst v) w'):if Region.wanted o (yielded ops a.tmps)=true then Oper.wp P o a w K Q else E:=by
 rw[Xa (by simp[Region.wanted,g])];unfold Oper.wp;rw[h];exact d
end
theorem MX[LB]{a:Act}{t:Nat}{v:Value}(h:t<a.tmps.size):(a.put (some t) v).eval (.tmp t)=v:=by
 simp[Act.put,Act.eval,h]
theorem X0q[LB]{a:Act}{t d:Nat}{v:Value}(h:t≠d):(a.put (some t) v).eval (.tmp d)=a.eval (.tmp d):=by
 simp[Act.put,Act.eval,h]
theorem X0m(a:Array Value)(w:World):Sem.run prog (callFunc 163 a) w= .ok (.enter 163 a) w:=by
 simp only[callFunc,ZB,JE,ZA,func163,show(f163.name == "runtime.NumGoroutine")=false by kernel_rfl,show f163.body.isNone=false by kernel_rfl];rfl
def Ip.Ra(b:Nat)(tp:Option Addr)(tc:Nat)(ts:List Sc.T)(sz:Nat)(s:Pr.Dk)(w:World)(e:Ending)(w':World):Prop:=
 (∃(t:Pr.Dk) (n:Nat) (sv:Value) (l:List Nd),e= .returned sv/\Pr.Cv ts sz .args s (X2 t,n)/\t.bad=false/\t.o=s.o++l/\s.p<=t.p/\IP b tp tc ts sz (X2 t).p w'/\Ip.Mv b w w'/\Ip.Row w.heap.size w' sv n l/\n<=ts.length+1)\/
 (∃q,e= .panicked (Ip.stuck q)/\Pr.Ends ts sz .args s q/\Ip.Mv b w w')
theorem X2v{b tc sz m:Nat}{tp:Option Addr}{ts:List Sc.T}{s:Pr.Dk}(v:s.bad=false)(C:m<=s.p)(H:∀q:Pr.Dk,m<=q.p->q.p<=ts.length->q.bad=false->Ip.DE b tp tc ts sz q)(w0:World)(j:IP b tp tc ts sz s.p w0): Calls prog 156 #[.p b] w0 (Ip.Ra b tp tc ts sz s w0):=by
 have X:∀(fn:Fn) (first cap:Array Value) (w:World),(Instr.makeFunc fn first cap).run prog w= .ok (.func fn first cap) w:=fun _ _ _ _=>rfl;have W:=j.lt;have A:=X1 j;clear j;have u:=QF w0 (.cells #[.p b] 102);have d:=QF (w0.z #[.p b] 102) (.cells #[.bool false] 4);have k:(w0.z #[.p b] 102).heap.size=w0.heap.size+1:=by simp
 have F:((w0.z #[.p b] 102).z #[.bool false] 4).heap.size=w0.heap.size+2:=by simp
 have g:BL w0 ((w0.z #[.p b] 102).z #[.bool false] 4):=u.trans (d.mono (by rw[k];omega));have r:((w0.z #[.p b] 102).z #[.bool false] 4).heap[w0.heap.size+1]?=some (.cells #[.bool false] 4 (0,0)):=by have:=heap_alloc_new (w0.z #[.p b] 102) (.cells #[.bool false] 4);rw[k]at this;exact this
 have I:((w0.z #[.p b] 102).z #[.bool false] 4).heap[w0.heap.size]?=some (.cells #[.p b] 102 (0,0)):=(d.block _ (by rw[k];omega)).trans (heap_alloc_new w0 _);have N:Ip.Ja b (w0.heap.size+1) w0.heap.size false ((w0.z #[.p b] 102).z #[.bool false] 4):=⟨by simp only[World.cell?,r];rfl,by simp only[World.frozen?,r];rfl,by simp only[World.cell?,I];rfl⟩;have Q:=X1 (M6 (E:=[41]) (a:=#[41]) rfl (lo:=w0.heap.size+2) (nb:=w0.heap.size+1) (f:=false) (m:=m) (fst:=#[]) (cap:=#[.p (w0.heap.size+1),.p w0.heap.size]) (Ip.Ja.keeps (b:=b) (nb:=w0.heap.size+1) (pb:=w0.heap.size) (by omega) (by omega) (by omega) (by omega)) (NI (b:=b) (tp:=tp) (tc:=tc) (ts:=ts) (sz:=sz) (m:=m) H (by omega) (by omega) (by omega) (by omega) (by omega)) (by omega) (X0m _) (s:=s) (fun h=> .MI (Ki h) h) C v (by rw[F];omega) (A.o.below g) N);have y:=X1 g;clear u d g I r N;go_enter func156,ntmps156;go_wp2_with fail;go_fit Q.o;rintro e w1 (⟨t,n,sv,l,rfl,K,U,V,L,B,J,hm,M,Z⟩|⟨q,rfl,hq,hm⟩);rotate_left
 .exact⟨rfl,.inr ⟨_,rfl,hq.elim (fun h=> .NF h) (fun⟨t,n,r,S⟩=> .NG (r1:=(t,n)) r S),Ip.Mw.off (Ip.Mw.t (Ip.Mv.wide (.below y.o) _) hm) (Qy _)⟩⟩
 have O:Hid (Ip.Ra b tp tc ts sz s w0 (.returned sv) w1):=X1 (.inl ⟨t,n,sv,l,rfl,by have:=Pr.Cv.args (r1:=(t,n)) K;rw[Yw V]at this;exact this,U,L,B,J,Ip.Mw.off (Ip.Mw.t (Ip.Mv.wide (.below y.o) _) hm) (Qy _),M.low y.o.size,Z⟩);clear K L J hm M Q;go_wp2;go_ret;exact O.o
theorem X0o(a:Array Value)(w:World):Sem.run prog (callFunc 162 a) w= .ok (.enter 162 a) w:=by
 simp only[callFunc,ZB,JE,ZA,func162,show(f162.name == "runtime.NumGoroutine")=false by kernel_rfl,show f162.body.isNone=false by kernel_rfl];rfl
theorem X7e{b tc sz m:Nat}{tp:Option Addr}{ts:List Sc.T}{s:Pr.Dk}(d:s.bad=false)(d2:m<=s.p)(c0:∀q:Pr.Dk,m<q.p->q.p<=ts.length->q.bad=false->Ip.DE b tp tc ts sz q): Ip.Jr b tp tc ts sz 155 #[.p b] .single s (s):=by
 intro w0 b3;have c4:=b3.lt;have d3:=b3.XP;have M:=X1 b3;have Z:=X1 (Ip.Mv.refl b w0);have W:=X1 (show m<=(s).p from d2);have e3:∀(fn:Fn) (first cap:Array Value) (w:World),(Instr.makeFunc fn first cap).run prog w= .ok (.func fn first cap) w:=fun _ _ _ _=>rfl;clear b3;have e0:=U6 (X3 ts sz s).kind (X3 ts sz s).n (X3 ts sz s).place ⟨(X3 ts sz s).text.toArray⟩;have QN:=X1 (U1 (s:=s) M.o);have d7:=M.o.le;cases a8:((X3 ts sz s).kind==1)
 case true=>
  have d4:(((X3 ts sz s).kind:Int)==1)=true:=by simp at a8;rw[a8];rfl
  go_enter func155,ntmps155;go_wp2_with fail;go_fit QN.o;rintro e w1⟨rfl,r⟩;have y:=X1 (M.o.below r);have u:=X1 (Z.o.more r);have k:=X1 W.o;clear r QN;unfold XB;have Q:=X1 (AO (s:=s) y.o (by simpa using a8));go_wp2_with fail;go_fit Q.o;rintro e w2⟨v,rfl,hd,hm,hp⟩;have A:=X1 hd;have B:=X1 (u.o.t hm);have I:=X1 (hp.low u.o.size);clear hd hm hp Q;go_wp2;go_ret;exact .inl ⟨(X9 (X2 s) 5 0 0 (X3 ts sz s).text 0,0),_,_,rfl,.one_name d a8,d,by simp[X9],A.o,B.o,I.o⟩
 have d4:(((X3 ts sz s).kind:Int)==1)=false:=by simp at a8⊢;omega
 cases a9:((X3 ts sz s).kind==3)
 case true=>
  have d5:(((X3 ts sz s).kind:Int)==3)=true:=by simp at a9;rw[a9];rfl
  go_enter func155,ntmps155;go_wp2_with fail;go_fit QN.o;rintro e w1⟨rfl,r⟩;have y:=X1 (M.o.below r);have u:=X1 (Z.o.more r);have k:=X1 W.o;clear r QN;unfold XB;go_wp2_with fail;go_fit(upI u (Nat.le_succ_of_le k.o) (JA (s:=s) y.o 3 (by decide) (by simpa using a9)));rintro e w2⟨rfl,hm,A,B,K⟩;have e2:=Y2g (X3 ts sz s).kind (X3 ts sz s).n (X3 ts sz s).place ⟨(X3 ts sz s).text.toArray⟩;unfold XB;go_wp2_with fail;go_fit(upN (3) (0) (((X3 ts sz s).n:Nat)) ⟨#[]⟩ (X1 (Ip.Row.nil (w0.heap.size) _)) A B);rintro e w3⟨rfl,I,F,H⟩;go_wp2;go_ret;exact .inl ⟨(X9 (X2 s) 3 0 (X3 ts sz s).n [] 0,0),_,_,rfl,.OR d a9,d,by simp[X9],F.o,H.o,I.o⟩
 have d5:(((X3 ts sz s).kind:Int)==3)=false:=by simp at a9⊢;omega
 cases b0:((X3 ts sz s).kind==4)
 case true=>
  have d6:(((X3 ts sz s).kind:Int)==4)=true:=by simp at b0;rw[b0];rfl
  go_enter func155,ntmps155;go_wp2_with fail;go_fit QN.o;rintro e w1⟨rfl,r⟩;have y:=X1 (M.o.below r);have u:=X1 (Z.o.more r);have k:=X1 W.o;clear r QN;unfold XB;go_wp2_with fail;go_fit(upI u (Nat.le_succ_of_le k.o) (JA (s:=s) y.o 4 (by decide) (by simpa using b0)));rintro e w2⟨rfl,hm,A,B,K⟩;have e1:=U7 (X3 ts sz s).kind (X3 ts sz s).n (X3 ts sz s).place ⟨(X3 ts sz s).text.toArray⟩;unfold XB;go_wp2_with fail;go_fit(upN (4) (0) (0) ⟨(X3 ts sz s).text.toArray⟩ (X1 (Ip.Row.nil (w0.heap.size) _)) A B);rintro e w3⟨rfl,I,F,H⟩;go_wp2;go_ret;exact .inl ⟨(X9 (X2 s) 4 0 0 (X3 ts sz s).text 0,0),_,_,rfl,.one_text d b0,d,by simp[X9],F.o,H.o,I.o⟩
 have d6:(((X3 ts sz s).kind:Int)==4)=false:=by simp at b0⊢;omega
 cases C:X4 ts sz s Zj
 case true=>
  go_enter func155,ntmps155;go_wp2_with fail;go_fit QN.o;rintro e w1⟨rfl,r⟩;have y:=X1 (M.o.below r);have u:=X1 (Z.o.more r);have k:=X1 W.o;clear r QN;unfold XB;go_wp2_with fail;go_fit(upI u (Nat.le_succ_of_le k.o) (ZH (s:=s) y.o Zj #[110,111,110,101] rfl C));rintro e w2⟨rfl,hm,A,B,K⟩;go_wp2_with fail;go_fit(upN (1) (0) (0) ⟨#[]⟩ (X1 (Ip.Row.nil (w0.heap.size) _)) A B);rintro e w3⟨rfl,I,F,H⟩;go_wp2;go_ret;exact .inl ⟨(X9 (X2 s) 1 0 0 [] 0,0),_,_,rfl,.OU C,d,by simp[X9],F.o,H.o,I.o⟩
 cases g:X4 ts sz s ZK
 case true=>
  go_enter func155,ntmps155;go_wp2_with fail;go_fit QN.o;rintro e w1⟨rfl,r⟩;have y:=X1 (M.o.below r);have u:=X1 (Z.o.more r);have k:=X1 W.o;clear r QN;unfold XB;go_wp2_with fail;go_fit(upB u (k.o) (XK (s:=s) y.o d Zj #[110,111,110,101] rfl C));rintro e w2⟨rfl,hm,A,B,K⟩;go_wp2_with fail;go_fit(upI B (Nat.le_succ_of_le K.o) (ZH (s:=s) A.o ZK #[102,97,108,115,101] rfl g));rintro e w3⟨rfl,hm,F,H,X⟩;go_wp2_with fail;go_fit(upN (2) (0) (0) ⟨#[]⟩ (X1 (Ip.Row.nil (w0.heap.size) _)) F H);rintro e w4⟨rfl,I,N,S⟩;go_wp2;go_ret;exact .inl ⟨(X9 (X2 s) 2 0 0 [] 0,0),_,_,rfl,.OQ g,d,by simp[X9],N.o,S.o,I.o⟩
 cases J:X4 ts sz s K4
 case true=>
  go_enter func155,ntmps155;go_wp2_with fail;go_fit QN.o;rintro e w1⟨rfl,r⟩;have y:=X1 (M.o.below r);have u:=X1 (Z.o.more r);have k:=X1 W.o;clear r QN;unfold XB;go_wp2_with fail;go_fit(upB u (k.o) (XK (s:=s) y.o d Zj #[110,111,110,101] rfl C));rintro e w2⟨rfl,hm,A,B,K⟩;go_wp2_with fail;go_fit(upB B (K.o) (XK (s:=s) A.o d ZK #[102,97,108,115,101] rfl g));rintro e w3⟨rfl,hm,F,H,X⟩;go_wp2_with fail;go_fit(upI H (Nat.le_succ_of_le X.o) (ZH (s:=s) F.o K4 #[116,114,117,101] rfl J));rintro e w4⟨rfl,hm,N,S,a3⟩;go_wp2_with fail;go_fit(upN (2) (0) (1) ⟨#[]⟩ (X1 (Ip.Row.nil (w0.heap.size) _)) N S);rintro e w5⟨rfl,I,O,U⟩;go_wp2;go_ret;exact .inl ⟨(X9 (X2 s) 2 0 1 [] 0,0),_,_,rfl,.OY J,d,by simp[X9],O.o,U.o,I.o⟩
 cases j:X4 ts sz s [40]
 case true=>
  go_enter func155,ntmps155;go_wp2_with fail;go_fit QN.o;rintro e w1⟨rfl,r⟩;have y:=X1 (M.o.below r);have u:=X1 (Z.o.more r);have k:=X1 W.o;clear r QN;unfold XB;go_wp2_with fail;go_fit(upB u (k.o) (XK (s:=s) y.o d Zj #[110,111,110,101] rfl C));rintro e w2⟨rfl,hm,A,B,K⟩;go_wp2_with fail;go_fit(upB B (K.o) (XK (s:=s) A.o d ZK #[102,97,108,115,101] rfl g));rintro e w3⟨rfl,hm,F,H,X⟩;go_wp2_with fail;go_fit(upB H (X.o) (XK (s:=s) F.o d K4 #[116,114,117,101] rfl J));rintro e w4⟨rfl,hm,N,S,a3⟩;go_wp2_with fail;go_fit(upI S (Nat.le_succ_of_le a3.o) (ZH (s:=s) N.o [40] #[40] rfl j));rintro e w5⟨rfl,hm,O,U,a5⟩;have V:(X2 s).bad=false:=d;go_wp2_with fail;go_fit(upE (c0 (X2 s) (Nat.lt_succ_of_le k.o) O.o.le V _ O.o) U a5 O (U.o.size));rintro e w6 (⟨r1,t1,u1,l1,rfl,c1,a6,b7,hm,a2,a0,a7,b2⟩|⟨q,rfl,hq,hm⟩);rotate_left
  .exact⟨rfl,.inr ⟨_,rfl,.Xcf j hq,U.o.t hm⟩⟩
  cases b4:X4 ts sz (r1.1) [41]
  case false=>
   go_wp2_with fail;go_fit(ZX (s:=r1.1) a2.o a6 [41] #[41] rfl b4);rintro e w⟨rfl,hm⟩;have hB:=Pr.Bd.Zw (ts:=ts) (sz:=sz) (s:=r1.1) a6 b4;exact⟨rfl,.inr ⟨_,rfl,.Xcg j c1.o hB,a0.o.t hm⟩⟩
  go_wp2_with fail;go_fit(upI a0 (Nat.le_succ_of_le a7.o) (ZY (s:=r1.1) a2.o [41] #[41] rfl b4));rintro e w7⟨rfl,hm,b1,a4,b5⟩;have b8:=X1 (b2.o.mv hm.o c4 (X5 _));clear b2;have I:=X1 b8.o;have HY:=X1 (show Xd ts sz r1.1 [41]=X2 r1.1 from Yw b4);go_wp2;go_ret;exact .inl ⟨(Xd ts sz r1.1 [41],0),_,_,rfl,.Gx j c1.o,by rw[HY.o];exact a6,by rw[HY.o];exact b7.o,by rw[HY.o];exact b1.o,a4.o,I.o⟩
 cases L:X4 ts sz s [91]
 case true=>
  go_enter func155,ntmps155;go_wp2_with fail;go_fit QN.o;rintro e w1⟨rfl,r⟩;have y:=X1 (M.o.below r);have u:=X1 (Z.o.more r);have k:=X1 W.o;clear r QN;unfold XB;go_wp2_with fail;go_fit(upB u (k.o) (XK (s:=s) y.o d Zj #[110,111,110,101] rfl C));rintro e w2⟨rfl,hm,A,B,K⟩;go_wp2_with fail;go_fit(upB B (K.o) (XK (s:=s) A.o d ZK #[102,97,108,115,101] rfl g));rintro e w3⟨rfl,hm,F,H,X⟩;go_wp2_with fail;go_fit(upB H (X.o) (XK (s:=s) F.o d K4 #[116,114,117,101] rfl J));rintro e w4⟨rfl,hm,N,S,a3⟩;go_wp2_with fail;go_fit(upB S (a3.o) (XK (s:=s) N.o d [40] #[40] rfl j));rintro e w5⟨rfl,hm,O,U,a5⟩;go_wp2_with fail;go_fit(upI U (Nat.le_succ_of_le a5.o) (ZH (s:=s) O.o [91] #[91] rfl L));rintro e w6⟨rfl,hm,a2,a0,a7⟩;have V:(X2 s).bad=false:=d;have Q:=X1 (X3f (s:=X2 s) (m:=m+1) V (Nat.succ_le_succ k.o) c0 _ a2.o);go_wp2_with fail;go_fit Q.o;rintro e w7 (⟨r1,v1,l1,rfl,hc,a6,ho,hd,hm,hp⟩|⟨q,rfl,hq,hm⟩);rotate_left
  .exact⟨rfl,.inr ⟨_,rfl,.Vi L hq,a0.o.t hm⟩⟩
  have HH:Hid (Ip.Out b tp tc ts sz .single s w0 (.returned v1) w7):=X1 (.inl ⟨r1,v1,l1,rfl,.Vi L hc,a6,ho,hd,a0.o.t hm,hp.low a0.o.size⟩);clear hc ho hd hm hp Q;go_wp2;go_ret;exact HH.o
 cases a1:X4 ts sz s [123]
 case true=>
  go_enter func155,ntmps155;go_wp2_with fail;go_fit QN.o;rintro e w1⟨rfl,r⟩;have y:=X1 (M.o.below r);have u:=X1 (Z.o.more r);have k:=X1 W.o;clear r QN;unfold XB;go_wp2_with fail;go_fit(upB u (k.o) (XK (s:=s) y.o d Zj #[110,111,110,101] rfl C));rintro e w2⟨rfl,hm,A,B,K⟩;go_wp2_with fail;go_fit(upB B (K.o) (XK (s:=s) A.o d ZK #[102,97,108,115,101] rfl g));rintro e w3⟨rfl,hm,F,H,X⟩;go_wp2_with fail;go_fit(upB H (X.o) (XK (s:=s) F.o d K4 #[116,114,117,101] rfl J));rintro e w4⟨rfl,hm,N,S,a3⟩;go_wp2_with fail;go_fit(upB S (a3.o) (XK (s:=s) N.o d [40] #[40] rfl j));rintro e w5⟨rfl,hm,O,U,a5⟩;go_wp2_with fail;go_fit(upB U (a5.o) (XK (s:=s) O.o d [91] #[91] rfl L));rintro e w6⟨rfl,hm,a2,a0,a7⟩;go_wp2_with fail;go_fit(upI a0 (Nat.le_succ_of_le a7.o) (ZH (s:=s) a2.o [123] #[123] rfl a1));rintro e w7⟨rfl,hm,b1,a4,b5⟩;have V:(X2 s).bad=false:=d;have Q:=X1 (M6 (E:=[125]) (a:=#[125]) rfl (lo:=w0.heap.size) (nb:=b) (f:=false) (m:=m+1) (fst:=#[.p b]) (cap:=#[]) (Ip.Gg b _) ((X0t (b:=b) (tp:=tp) (tc:=tc) (ts:=ts) (sz:=sz) (m:=m+1) c0).up (Xb _)) c4 (X0o _) (s:=X2 s) (fun h=> .Pm (Ki h) h) (Nat.succ_le_succ k.o) V a4.o.size b1.o trivial);go_wp2_with fail;go_fit Q.o;rintro e w8 (⟨d1,n1,sv,l1,rfl,hf,a6,d0,ho,c3,hd,hm,hr,d8⟩|⟨q,rfl,hq,hm⟩);rotate_left
  .exact⟨rfl,.inr ⟨_,rfl,hq.elim (fun h=> .W7 a1 (.Xfw h)) (fun⟨t,n,h1,h2⟩=> .W7 a1 (.Xfx h1 h2)),a4.o.t hm.one⟩⟩
  obtain⟨e5,e4,rfl⟩:=hr.form;have c8:=X1 hf;have b7:=X1 ho;have c2:=X1 (hr.low a4.o.size);have c5:=hm.one;clear ho hr hf hm;have c6:=X1 (show IP b tp tc ts sz (X2 d1).p w8 from hd);have b6:=X1 (a4.o.t c5);have d9:=X1 (show m<=(X2 d1).p from Nat.le_succ_of_le (Xz b5.o c3));clear hd c5 Q;have b9:=X1 c2.o;clear c2 c3;go_wp2_with fail;go_fit(upN (9) (0) (0) ⟨#[]⟩ b9 c6 b6);rintro e w9⟨rfl,I,c7,c9⟩;have HY:=X1 (show Xd ts sz d1 [125]=X2 d1 from Yw d0);go_wp2;go_ret;exact .inl ⟨(X9 (Xd ts sz d1 [125]) 9 0 0 [] (2*n1 / 2),0),_,_,rfl,.W7 a1 (.GM (r1:=(d1,2*n1)) (by simp) c8.o),by rw[HY.o];exact a6,by rw[HY.o,Nat.mul_div_cancel_left _ (by decide)];simp[X9,b7.o],by rw[HY.o];exact c7.o,c9.o,I.o⟩
 go_enter func155,ntmps155;go_wp2_with fail;go_fit QN.o;rintro e w1⟨rfl,r⟩;have y:=X1 (M.o.below r);have u:=X1 (Z.o.more r);have k:=X1 W.o;clear r QN;unfold XB;go_wp2_with fail;go_fit(upB u (k.o) (XK (s:=s) y.o d Zj #[110,111,110,101] rfl C));rintro e w2⟨rfl,hm,A,B,K⟩;go_wp2_with fail;go_fit(upB B (K.o) (XK (s:=s) A.o d ZK #[102,97,108,115,101] rfl g));rintro e w3⟨rfl,hm,F,H,X⟩;go_wp2_with fail;go_fit(upB H (X.o) (XK (s:=s) F.o d K4 #[116,114,117,101] rfl J));rintro e w4⟨rfl,hm,N,S,a3⟩;go_wp2_with fail;go_fit(upB S (a3.o) (XK (s:=s) N.o d [40] #[40] rfl j));rintro e w5⟨rfl,hm,O,U,a5⟩;go_wp2_with fail;go_fit(upB U (a5.o) (XK (s:=s) O.o d [91] #[91] rfl L));rintro e w6⟨rfl,hm,a2,a0,a7⟩;go_wp2_with fail;go_fit(upB a0 (a7.o) (XK (s:=s) a2.o d [123] #[123] rfl a1));rintro e w7⟨rfl,hm,b1,a4,b5⟩;have Q:=X1 (Lh (s:=s) b1.o);go_wp2_with fail;go_fit Q.o;rintro e w8⟨rfl,r⟩;have b6:=X1 (a4.o.more r);clear r Q;go_wp2;exact⟨rfl,.inr ⟨_,rfl,.of (.Ea d a9 b0 a8 C g J L a1 j) (.LW d),b6.o⟩⟩
