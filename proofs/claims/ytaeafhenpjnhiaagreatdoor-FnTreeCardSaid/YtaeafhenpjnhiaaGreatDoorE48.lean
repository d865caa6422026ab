import Derived.Test.YtaeafhenpjnhiaaGreatDoorE42
import Derived.Test.YtaeafhenpjnhiaaGreatDoorE47
import Derived.Lib.SliceRun
set_option maxHeartbeats 16000000
set_option maxRecDepth 100000
namespace Go.Proofs.YtaeafhenpjnhiaaGreatDoor
open Tryz Go.RowKit
section
attribute [local simp] Act.eval Act.put
theorem Y1l[LB](rb:Nat)(vb:Value)(n q:Nat)(l:List Nd)(w:World)(g c ob O E xb k:Nat)(x0:Nd)(wc:World)(_hl:l.length<=300000)(_hq:q<=700000000)(_hl1:((l.length:Int)==0)=false)(_hlp:(0:Int)<(l.length:Int))(hk:k<l.length)(_hrw:rb<w.heap.size)(Z:Hid (Sh l))(r:Hid (SP rb vb n w (.l g l.length c) l w.heap.size (w.heap.size+1) ob (q+3) (.l O l.length E) l wc))(_HX4:Hid (XN w xb (.l O l.length E) x0 wc)){C U b0 b1 b2 b3 b4 b5 b6 b7 b8 b9 c0 c3 c4 c5 c6 c7 c8 c9 d0 d1 d2 d3 d4 d5 d6 u9 p4 p5 p6 p7 p8 p9 q0 q1 q2 q3 q4 q5 q6 q7 q8 q9 r0 r5 r6 r7 r8 r9 s0 s5 s6 s7 s8 s9 t1 t2 t3 t4 t5 t6 t7 t8 t9 u0 u1 u2 u3 u4 u5 u6 u7 u8 v0 v3 v4 v5 v6 v7 v8 v9 w0 w3 w4 w5 w6 w7 w8 w9 x1 x2 d7 d8 d9 e0 e1 e2 e3 e4 e5 e6 e7 e8 e9 f0 f1 f3 f4 f5 f6 f7 f8 f9 g0 g1 g2 g3 g4 g5 g6 g7 g8 g9 h0 h1 h2 h3 h4 h5 h6 h7 h8 h9 i0 i1 i2 i3 i4 i5 i6 i7 i8 i9 j0 j1 j2 j3 j4 j5 j6 j7 j8 j9 k0 k1 k2 k3 k4 k5 k6 k7 k8 k9 l0 l1 l2 l3 l4 l5 l6 l7 l8 l9 m0 m1 m2 m3 m4 m5 m6 m7 m8 m9 n4 n5 n6 n7 n8 n9 o0 o4 o5:Value}(J K':Act->World->Prop)(hJ:spJ rb vb n q l w g c ob O E xb k C U b0 b1 b2 b3 b4 b5 b6 b7 b8 b9 c0 c3 c4 c5 c6 c7 c8 c9 d0 d1 d2 d3 d4 d5 d6 J)(_hM:∀(a':Act) (w':World),Met J a' w'->K' a' w')(cc:Code)(a8:(f35.body.bind Ut)=some cc): Code.wp prog cc (Exit.then K' (bodyPost prog f35 fun e w'=>∃v' l',e= .returned (.agg #[v'])/\NR w' v' l'/\l'.length<=l.length+1/\Rq rb vb n (q+10) w'/\Tf w w')) {tmps:=#[.p rb,C,U,.p w.heap.size,.p (w.heap.size+1),.p ob,.q (l.length:Int),.q (k:Int),.p xb,u9,p4,p5,p6,p7,b0,b1,b2,b3,b4,b5,b6,b7,b8,b9,c0,c3,c4,c5,c6,c7,c8,c9,d0,d1,d2,d3,d4,d5,d6,.q ((9:Nat):Int),p8,p9,q0,q1,q2,q3,q4,q5,q6,q7,q8,q9,r0,r5,r6,r7,r8,r9,s0,s5,s6,s7,s8,s9,t1,t2,t3,t4,t5,t6,t7,t8,t9,u0,u1,u2,u3,u4,u5,u6,u7,u8,v0,v3,v4,v5,v6,v7,v8,v9,w0,w3,w4,w5,w6,w7,w8,w9,x1,x2,d7,d8,d9,e0,e1,e2,e3,e4,e5,e6,e7,e8,e9,f0,f1,f3,f4,f5,f6,f7,f8,f9,g0,g1,g2,g3,g4,g5,g6,g7,g8,g9,h0,h1,h2,h3,h4,h5,h6,h7,h8,h9,i0,i1,i2,i3,i4,i5,i6,i7,i8,i9,j0,j1,j2,j3,j4,j5,j6,j7,j8,j9,k0,k1,k2,k3,k4,k5,k6,k7,k8,k9,l0,l1,l2,l3,l4,l5,l6,l7,l8,l9,m0,m1,m2,m3,m4,m5,m6,m7,m8,m9,n4,n5,n6,n7,n8,n9,o0,o4,o5],defers:=[]} wc:=by
 obtain⟨iN,L,N,M,K⟩:=YK Un;refine M8 (o:=f35.body.bind Ut) rfl ?_ cc a8;unfold spJ at hJ;clear a8;have BD:BL wc wc.drew:=(X8 _ _).drew;have F:BL wc (wc.z #[] 64).drew:=(bA _).drew;have o7:=X1 (r.o.below BD);have I:=X1 (r.o.below F);have od:=o7.o.cells.2.2.1;have oL:=I.o.cells.2.2.1;have a7:Hid ((wc.z #[] 64).drew.ownsRow wc.heap.size 64 5 (.l wc.heap.size 0 0) 0 []):=X1 (Y4 (base:=wc.heap.size) (e:=64) (size:=5) wc #[] 0 (X5 _) (Xb _) rfl);have a6:Hid (∀(j:Nat) (u:Value),(Xh (l.take k))[j]?=some u->(wc.z #[] 64).drew.cell? ((⟨O,0,none⟩:Addr).add j)=some u):=X1 (fun j u S=>JO I.o.o rfl j u (by rw[WE l k hk];rw[Jt (I5.1 S).1];exact S));have HB:=X1 F;have Q:wc.heap.size<=(wc.z #[] 64).drew.heap.size:=F.size;have x5:l.length<=E:=(D9 I.o.o).1;have x6:E<=9223372036854775807:=by have:=(D9 I.o.o).2;unfold maxLen at this;omega
 have a9:=Dd l k hk;have x7:((k:Int)+1)<=(l.length:Int):=by omega
 have x9:(k:Int)<(l.length:Int):=by omega
 have x3:(0:Int)<=(k:Int)+1:=by omega
 have y0:IntKind.i64.wrap ((k:Int)+1)=(k:Int)+1:=by rw[Yp];omega
 clear BD F;have x4:k<=E:=by omega
 have p0:k+1<=E:=by omega
 by_cases o8:E=k+1
 .subst o8;have x8:(k:Int)<=(k:Int)+1:=by omega
  go_upto_region 8 with fail;go_cut[]from 39 to 200 (fun wx=>∃ov' l',SP rb vb n w (.l g l.length c) l w.heap.size (w.heap.size+1) ob (q+3) ov' l' wx/\l'.length<=l.length/\∃p m c',ov'= .slice p m c')
  case first=>
   go_region_law(first
    | (refine U5 rfl (.tmp 40) (.tmp 44) 23 rfl wc.heap.size 64 iN _ 5 48 underlying23 L N M K rfl (by decide) (.l wc.heap.size 0 0) 0 [] (by simp) a7.o ⟨O,0,none⟩ k (k+1) (Xh (l.take k)) (by simp) a9 a6.o (VN _) (by unfold maxLen;omega) (by omega) Q ?_;intro v1 w1 r1 r2 r3 r4;rw[Xu,JJ]at r1;have V:=HB.o.grown r2 HB.o.size (fun q e=>by cases e;exact X5 _);have H:=X1 (r.o.below V);have A:=X1 r1;have s:=X1 V;obtain⟨p1,c1,a2⟩:=XA r1;subst a2;have o1:=H.o.cells.2.2.1;clear r1 r2 r3 r4 V)
    | (refine U5 rfl (.tmp 45) (.tmp 50) 23 rfl wc.heap.size 64 iN _ 5 48 underlying23 L N M K rfl (by decide) (.slice p1 k c1) k (Xh (l.take k)) (by simp) A.o ⟨O,0,none⟩ 0 0 ([]:List Value) (by first|(simp[Act.eval];done)|(simp[Act.eval,Act.put];done)|(simp[Act.eval];omega)|(simp[Act.eval,Act.put];omega)) rfl (by intro j u S;cases S) (by intro u S;cases S) (by unfold maxLen;omega) (by omega) s.o.size ?_;intro v2 w2 C U s3 s4;rw[Vy,JW]at C;have B2:=s.o.grown U s.o.size (fun q e=>(A.o.lt q e).1);have y:=X1 (r.o.below B2);obtain⟨p2,c2,a3⟩:=XA C;subst a3;have W:=X1 C;have o2:=y.o.cells.2.2.1;have f2:=y.o.cells.2.2.2.2;clear C U s3 s4 B2))
   all_goals
    have a1:(l.take k).length=k:=by rw[YO];omega
    have X:=X1 (y.o.E6 (ov':= .slice p2 k c2) (l':=l.take k) (by rw[a1];exact Qo W.o r.o.tf.size) (fun x hx=>Z.o x (Ue hx)));go_wp2_with fail;go_meet
    case rel=>exact⟨_,l.take k,X.o,(by rw[YO];omega),_,_,_,rfl⟩
  case rest=>
   obtain⟨ov',l',B,p3,a5,a4,a0,rfl⟩:=hcut;have d:=X1 B;have o9:=B.cells.2.2.1;have a:=X1 (d.o.ret (l':=l') ⟨Qo d.o.o (Xb _),d.o.sh⟩);obtain⟨_,t0,_,ft,_⟩:=d.o.cells;go_wp2;exact Xq (v:= .agg #[.slice a5 a4 a0]) (by simp[results,results35,go_sem,t0]) rfl (by first|exact⟨_,_,rfl,a.o.1,(by omega),a.o.2.1.mono (by omega),a.o.2.2⟩|exact⟨_,rfl,_,a.o.1,(by omega),a.o.2.1.mono (by omega),a.o.2.2⟩)
 .go_upto_region 8 with fail;go_cut[]from 39 to 200 (fun wx=>∃ov' l',SP rb vb n w (.l g l.length c) l w.heap.size (w.heap.size+1) ob (q+3) ov' l' wx/\l'.length<=l.length/\∃p m c',ov'= .slice p m c')
  case first=>
   go_region_law(first
    | (refine U5 rfl (.tmp 40) (.tmp 44) 23 rfl wc.heap.size 64 iN _ 5 48 underlying23 L N M K rfl (by decide) (.l wc.heap.size 0 0) 0 [] (by simp) a7.o ⟨O,0,none⟩ k E (Xh (l.take k)) (by simp) a9 a6.o (VN _) (by unfold maxLen;omega) (by omega) Q ?_;intro v1 w1 r1 r2 r3 r4;rw[Xu,JJ]at r1;have V:=HB.o.grown r2 HB.o.size (fun q e=>by cases e;exact X5 _);have H:=X1 (r.o.below V);have A:=X1 r1;have s:=X1 V;obtain⟨p1,c1,a2⟩:=XA r1;subst a2;have o1:=H.o.cells.2.2.1;have o6:Hid (∀(j:Nat) (u:Value),(Xh (l.drop (k+1)))[j]?=some u->w1.cell? ((⟨O,(k+1)*5,none⟩:Addr).add j)=some u):=X1 (fun j u S=>SF H.o.o (by omega) j u S);clear r1 r2 r3 r4 V)
    | (refine U5 rfl (.tmp 45) (.tmp 50) 23 rfl wc.heap.size 64 iN _ 5 48 underlying23 L N M K rfl (by decide) (.slice p1 k c1) k (Xh (l.take k)) (by simp) A.o ⟨O,(k+1)*5,none⟩ (l.length-(k+1)) (E-(k+1)) (Xh (l.drop (k+1))) (by simp) (by rw[DP,YC]) o6.o (VN _) (by unfold maxLen;omega) (by omega) s.o.size ?_;intro v2 w2 C U s3 s4;have B2:=s.o.grown U s.o.size (fun q e=>(A.o.lt q e).1);have y:=X1 (r.o.below B2);obtain⟨p2,c2,a3⟩:=XA C;subst a3;have W:=X1 C;have o2:=y.o.cells.2.2.1;have f2:=y.o.cells.2.2.2.2;clear C U s3 s4 B2))
   all_goals
    have a1:(l.take k++l.drop (k+1)).length=k+(l.length-(k+1)):=by rw[Xj,YO,YC];omega
    have X:=X1 (y.o.E6 (ov':= .slice p2 (k+(l.length-(k+1))) c2) (l':=l.take k++l.drop (k+1)) (by rw[a1,UN];exact Qo W.o r.o.tf.size) (LM (fun x hx=>Z.o x (Ue hx)) (fun x hx=>Z.o x (Q8 hx))));go_wp2_with fail;go_meet
    case rel=>exact⟨_,_,X.o,(by rw[Xj,YO,YC];omega),_,_,_,rfl⟩
  case rest=>
   obtain⟨ov',l',B,p3,a5,a4,a0,rfl⟩:=hcut;have d:=X1 B;have o9:=B.cells.2.2.1;have a:=X1 (d.o.ret (l':=l') ⟨Qo d.o.o (Xb _),d.o.sh⟩);obtain⟨_,t0,_,ft,_⟩:=d.o.cells;go_wp2;exact Xq (v:= .agg #[.slice a5 a4 a0]) (by simp[results,results35,go_sem,t0]) rfl (by first|exact⟨_,_,rfl,a.o.1,(by omega),a.o.2.1.mono (by omega),a.o.2.2⟩|exact⟨_,rfl,_,a.o.1,(by omega),a.o.2.1.mono (by omega),a.o.2.2⟩)
end
def Ip.Md(b:Nat)(ts:List Sc.T)(sz:Nat)(s:Pr.Dk)(w:World)(e:Ending)(w':World):Prop:=
 (∃(r:Pr.Dk × Nat) (v:Value) (l:List Nd),e= .returned (.tuple #[v,.agg #[.q 0,.q 0]])/\Pr.Cv ts sz (.fileL 0) s r/\r.1.bad=false/\r.1.o=s.o++l/\Ip.Mv b w w'/\Ip.Pt w.heap.size w' v (l++[⟨24,0,0,⟨#[]⟩,r.2⟩]))\/
 (∃q:Nat,e= .returned (.tuple #[.nilIface,.agg #[.q 6,.q (q:Int)]])/\Pr.Ends ts sz (.fileL 0) s q/\Ip.Mv b w w')
theorem X2y{b tc sz:Nat}{tp:Option Addr}{ts:List Sc.T}{s:Pr.Dk}(a7:s.bad=false)(w0:World)(C:IP b tp tc ts sz s.p w0): Calls prog 20 #[.p b] w0 (Ip.Md b ts sz s w0):=by
 have d2:∀(fn:Fn) (first cap:Array Value) (w:World),(Instr.makeFunc fn first cap).run prog w= .ok (.func fn first cap) w:=fun _ _ _ _=>rfl;have d1:=C.lt;have c5:=C.XP;have V:=X1 C;clear C;have a6:=QF w0 (.cells #[.nilIface] 44);have u:=QF (w0.z #[.nilIface] 44) (.cells #[.q 0,.q 0] 29);have M:(w0.z #[.nilIface] 44).heap.size=w0.heap.size+1:=by simp
 have y:((w0.z #[.nilIface] 44).z #[.q 0,.q 0] 29).heap.size=w0.heap.size+2:=by simp
 have HB:=X1 (show BL w0 ((w0.z #[.nilIface] 44).z #[.q 0,.q 0] 29)from a6.trans (u.mono (by rw[M];omega)));have a3:=X1 (show((w0.z #[.nilIface] 44).z #[.q 0,.q 0] 29).heap[w0.heap.size+1]?=some (.cells #[.q 0,.q 0] 29 (0,0)) by have:=heap_alloc_new (w0.z #[.nilIface] 44) (.cells #[.q 0,.q 0] 29);rw[M]at this;exact this);have a2:=X1 (show((w0.z #[.nilIface] 44).z #[.q 0,.q 0] 29).heap[w0.heap.size]?=some (.cells #[.nilIface] 44 (0,0))from(u.block _ (by rw[M];omega)).trans (heap_alloc_new w0 _));have HS:=X1 (show ∃(t:Pr.Dk) (n:Nat) (l:List Nd),Ip.Row (w0.heap.size+2) ((w0.z #[.nilIface] 44).z #[.q 0,.q 0] 29) (.slice none 0 0) n l/\t.bad=false/\t.o=s.o++l/\n<=t.p/\IP b tp tc ts sz t.p ((w0.z #[.nilIface] 44).z #[.q 0,.q 0] 29)/\Ip.Mv b ((w0.z #[.nilIface] 44).z #[.q 0,.q 0] 29) ((w0.z #[.nilIface] 44).z #[.q 0,.q 0] 29)/\(∀r,Pr.Cv ts sz (.fileL n) t r->Pr.Cv ts sz (.fileL 0) s r)/\(∀q,Pr.Ends ts sz (.fileL n) t q->Pr.Ends ts sz (.fileL 0) s q)from⟨s,0,[],.nil _ _,a7,by simp,Xb _,V.o.below HB.o,.refl _ _,fun _ h=>h,fun _ h=>h⟩);clear a6 u V;go_enter_defers func20,ntmps20;go_wp2_with fail;go_loopw[4] (fun sv wr=>∃(t:Pr.Dk) (n:Nat) (l:List Nd),Ip.Row (w0.heap.size+2) wr sv n l/\t.bad=false/\t.o=s.o++l/\n<=t.p/\IP b tp tc ts sz t.p wr/\Ip.Mv b ((w0.z #[.nilIface] 44).z #[.q 0,.q 0] 29) wr/\(∀r,Pr.Cv ts sz (.fileL n) t r->Pr.Cv ts sz (.fileL 0) s r)/\(∀q,Pr.Ends ts sz (.fileL n) t q->Pr.Ends ts sz (.fileL 0) s q)) (fun _ wr=>Ip.left b ts wr)
 case atStart=>exact HS.o
 case round=>
  clear HS;obtain⟨j,rfl⟩:∃j,j=wr:=⟨_,rfl⟩;obtain⟨t,n,l,L,A,ho,d3,U,hm,a9,b0⟩:=hrel;obtain⟨sp,sc,rfl⟩:=L.form;have c7:=hm.size;rw[y]at c7;have c0:=U.c0;have c1:=U.c1;have d0:=U.le;have HL:=X1 U.left;have b3:=L.below (X8 _ _).drew;have a8:=U.below (X8 _ _).drew;have b1:=hm.more (X8 _ _).drew;have HR:=X1 b3;have HO:=X1 ho;have HD:=X1 a8;have HM:=X1 b1;have a0:=X1 a9;have a1:=X1 b0;clear L ho U hm a9 b0 b3 a8 b1;by_cases hp:t.p<ts.length
  .have c6:(t.p:Int)<ts.length:=by omega
   have Q:=X1 (X2t (b:=b) (tp:=tp) (tc:=tc) (ts:=ts) (sz:=sz) t A _ HD.o);go_wp2_with fail;go_region;go_wp2_with fail;go_fit Q.o;rintro e N (⟨r,v,l2,rfl,hc,u,b2,I,m,J⟩|⟨q,rfl,hq,m⟩);rotate_left
   .-- it is stuck: the deferred function catches it
    have B:=X1 (HM.o.t m);have X:=X1 (a1.o _ (Pr.Ends.X0u (n:=n) A hp hq));have k:=(B.o.block w0.heap.size (by rw[y];omega) (by omega)).trans a2.o;have a:=(B.o.block (w0.heap.size+1) (by rw[y];omega) (by omega)).trans a3.o;clear hq m Q;refine leaves_cons (f:=49) (args:=#[.p w0.heap.size,.p (w0.heap.size+1)]) (by simp) (by simp[go_sem]) ?_;refine(Tp w0.heap.size (w0.heap.size+1) q N (by omega) .nilIface (.q 0) (.q 0) (by simp only[World.cell?,k];rfl) (by simp only[World.cell?,a];rfl) (by simp only[World.cell?,a];rfl) (by simp only[World.frozen?,k];rfl) (by simp only[World.frozen?,a];rfl) (by simp only[World.frozen?,a];rfl)).mono (?_);rintro e u' O⟨rfl,rfl,g⟩;have k0:=g.c0;have k1:=g.c1;have k2:=g.c2;have HF:Hid (Ip.Md b ts sz s w0 (.returned (.tuple #[.nilIface,.agg #[.q 6,.q (q:Int)]])) O):=X1 (.inr ⟨q,rfl,X.o,by
     have S:Ip.Mv b w0 N:=Ip.Mv.t (.below HB.o) B.o;exact⟨g.mv.os.trans S.os,g.mv.tape.trans S.tape,g.mv.output.trans S.output,Xz S.size g.mv.size,fun x hx c8=>(g.mv.block x (XH hx S.size) (fun e=>by rcases e with e|e<;>omega)).trans (S.block x hx c8)⟩⟩)
    clear g B X k a;refine⟨.tuple #[.nilIface,.agg #[.q 6,.q (q:Int)]],by simp[results,results20,go_sem,k0,k1,k2],HF.o⟩
   obtain⟨t2,u2,rfl⟩:=J.iface;have d5:=m.size;have d4:t.p<r.1.p:=by
    rcases hc.on with h|h
    .rw[u]at h;cases h
    .exact h
   have c9:=I.le;have HC:=X1 hc;have c3:=X1 b2;have b5:=X1 I;have b6:=X1 (HM.o.t m);have a5:=X1 (HR.o.mv m (by omega) (X5 _));have a4:=X1 J;have HA:=X1 (show ∀q,(Value.slice sp n sc).ownBlock=some q->q<j.drew.heap.size from fun q e=>(HR.o.lt e).2);have d6:j.drew.heap.size=j.heap.size:=rfl;clear hc b2 I m J Q HR;go_wp2_with(at_builtin;refine M9 rfl _ _ rfl (w0.heap.size+2) j.drew.heap.size n (.slice sp n sc) (.iface t2 u2) l l2 a5.o a4.o (by omega) (by omega) HA.o (by omega) rfl rfl ?_);intro d7 O L H;obtain⟨sq,sd,rfl⟩:=L.form;have c4:=X1 L;have W:=X1 (b5.o.fresh H (by omega));have b7:=X1 (b6.o.fresh H (by rw[y];exact X5 _));have b8:=X1 (show Ip.left b ts O<Ip.left b ts j from by rw[W.o.left,HL.o];omega)
   clear L H a5 a4 HA;go_wp2;go_roundw
   case rel=>exact⟨r.1,n+1,l++l2,c4.o,u,by rw[c3.o,HO.o,KL],by omega,W.o,b7.o,fun x h=>a0.o _ (.G0 (by rw[A];simpa using hp) HC.o h),fun x h=>a1.o _ (.X0v A hp HC.o h)⟩
   case measure=>exact b8.o
  .have c6:¬(t.p:Int)<ts.length:=by omega
   have b4:=X1 (a0.o _ (.WL (s:=t) (n:=n) (by simp;exact .inr (by omega))));have Q:=X1 (JS 24 0 0 0 ⟨#[]⟩ sp n sc j.drew);go_wp2_with fail;go_region;go_wp2_with fail;go_fit Q.o;rintro e d⟨rfl,H⟩;have F:=X1 ((HR.o.below H).made (x:=⟨24,0,0,⟨#[]⟩,(n:Int)⟩) rfl);have hM:=HM.o.more H;have k:=(hM.block w0.heap.size (by rw[y];omega) (by omega)).trans a2.o;have a:=(hM.block (w0.heap.size+1) (by rw[y];omega) (by omega)).trans a3.o;have x0:d.cell? ⟨w0.heap.size,0,none⟩=some .nilIface:=by simp only[World.cell?,k];rfl
   have x1:d.cell? ⟨w0.heap.size+1,0,none⟩=some (.q 0):=by simp only[World.cell?,a];rfl
   have x2:d.cell? ⟨w0.heap.size+1,1,none⟩=some (.q 0):=by simp only[World.cell?,a];rfl
   have y0:d.frozen? ⟨w0.heap.size,0,none⟩=false:=by simp only[World.frozen?,k];rfl
   have y1:d.frozen? ⟨w0.heap.size+1,0,none⟩=false:=by simp only[World.frozen?,a];rfl
   have y2:d.frozen? ⟨w0.heap.size+1,1,none⟩=false:=by simp only[World.frozen?,a];rfl
   have b9:=X1 (Ip.Mv.t (.below HB.o) hM);obtain⟨tf,uf,K⟩:=F.o.iface;rw[K]at F;rw[K];clear H hM k a Q K;have E:=X1 (show ∀v:Value,Below w0.heap.size d (((d.setCell ⟨w0.heap.size,0,none⟩ v).setCell ⟨w0.heap.size+1,0,none⟩ (.q 0)).setCell ⟨w0.heap.size+1,1,none⟩ (.q 0))from fun v=>(((X8 _ d).setCell (p:=⟨w0.heap.size,0,none⟩) (X5 _) _).setCell (p:=⟨w0.heap.size+1,0,none⟩) (Qy _) _).setCell (p:=⟨w0.heap.size+1,1,none⟩) (Qy _) _);have Z:Hid (Ip.Md b ts sz s w0 (.returned (.tuple #[.iface tf uf,.agg #[.q 0,.q 0]])) (((d.setCell ⟨w0.heap.size,0,none⟩ (.iface tf uf)).setCell ⟨w0.heap.size+1,0,none⟩ (.q 0)).setCell ⟨w0.heap.size+1,1,none⟩ (.q 0))):=X1 (.inl ⟨(t,n),_,l,rfl,b4.o,A,HO.o,b9.o.fresh (E.o _) (X5 _),F.o.go (Nat.le_add_right _ _) (E.o _).size (fun q hq _=>by
    rw[Y0 _ _ _ _ (show q≠w0.heap.size+1 by omega),Y0 _ _ _ _ (show q≠w0.heap.size+1 by omega),Y0 _ _ _ _ (show q≠w0.heap.size by omega)])⟩)
   go_wp2;refine leaves_cons (f:=49) (args:=#[.p w0.heap.size,.p (w0.heap.size+1)]) (by simp) (by simp[go_sem]) ?_;refine(To ⟨w0.heap.size,0,none⟩ ⟨w0.heap.size+1,0,none⟩ _).mono (?_);rintro e u' N⟨rfl,rfl,rfl⟩;refine⟨.tuple #[.iface tf uf,.agg #[.q 0,.q 0]],by simp[results,results20,go_sem,x0,x1,x2],Z.o⟩
theorem X3d(k o m c:Int)(t:ByteArray)(sl:Value)(a:∃p n c,sl= .slice p n c)(w:World): CB 197 #[.agg #[.q k,.q o,.q m,.string t,.q c,sl]] w sl:=by
 obtain⟨p,n,c,rfl⟩:=a;go_enter func197,ntmps197;go_wp2;go_ret;exact⟨rfl,bA _⟩
theorem X5w(k o m c:Int)(t:ByteArray)(sl:Value)(a:∃p n c,sl= .slice p n c)(w:World): CB 200 #[.agg #[.q k,.q o,.q m,.string t,.q c,sl]] w (.agg #[.q k,.q o,.q m,.string t,.q c]):=by
 obtain⟨p,n,d,rfl⟩:=a;go_enter func200,ntmps200;go_wp2;refine Xq (v:= .agg #[.q k,.q o,.q m,.string t,.q c]) (by simp[results,results200,go_sem]) rfl ⟨rfl,?_⟩;repeat(first|(refine Qw ?_ (by show w.heap.size<=w.heap.size+1;omega) _)|(refine Below.alloc ?_ (by simp) _))
 exact X8 _ _
theorem Ip.TC{c:Bool}{a b:TypeId}{l:List TypeId}(d:a∈l)(g:b∈l):cond c a b∈l:=by cases c<;>assumption
theorem Ip.Y2r(k:Int):Ip.ty k∈([133,134,135,136,137,138,139,140,141,142,143,144,145,146,147,148,149,150,151,152,153]:List TypeId):=by
 unfold Ip.ty;repeat(refine Ip.TC (by simp) ?_)
 simp
theorem Ip.Ew(k:Int):Ip.ty k=133\/Ip.ty k=134\/Ip.ty k=135\/Ip.ty k=136\/Ip.ty k=137\/Ip.ty k=138\/Ip.ty k=139\/Ip.ty k=140\/Ip.ty k=141\/Ip.ty k=142\/Ip.ty k=143\/Ip.ty k=144\/Ip.ty k=145\/Ip.ty k=146\/Ip.ty k=147\/Ip.ty k=148\/Ip.ty k=149\/Ip.ty k=150\/Ip.ty k=151\/Ip.ty k=152\/Ip.ty k=153:=by
 have h:=Ip.Y2r k;simpa only[Kr,QU,J7]using h
theorem X9w(k o m c:Int)(t:ByteArray)(sl:Value)(w:World):(Go.method 368 (Ip.ty k) (.agg #[.q k,.q o,.q m,.string t,.q c,sl]) "loop.example/kilnclay/impl.kids").run prog w= .ok (197,.agg #[.q k,.q o,.q m,.string t,.q c,sl]) w:=by
 rcases Ip.Ew k with h|h|h|h|h|h|h|h|h|h|h|h|h|h|h|h|h|h|h|h|h<;>rw[h]<;>kernel_rfl
theorem X9x(k o m c:Int)(t:ByteArray)(sl:Value)(w:World):(Go.method 368 (Ip.ty k) (.agg #[.q k,.q o,.q m,.string t,.q c,sl]) "loop.example/kilnclay/impl.self").run prog w= .ok (200,.agg #[.q k,.q o,.q m,.string t,.q c,sl]) w:=by
 rcases Ip.Ew k with h|h|h|h|h|h|h|h|h|h|h|h|h|h|h|h|h|h|h|h|h<;>rw[h]<;>kernel_rfl
theorem TB(W:World)(cs:List Value)(t:TypeId):∀(j:Nat) (u:Value),cs[j]?=some u->(W.alloc (.cells cs.toArray t)).cell? ((⟨W.heap.size,0,none⟩:Addr).add j)=some u:=by
 intro j u a;rw[Y8,Xu,World.cell?,YV];simpa using a
structure Ip.Gw (v v':Value) (w w':World):Prop where
 mv:Pr.Mv (fun q=>v.ownBlock=some q) w w'
 own:v'.ownBlock=v.ownBlock\/∀q,v'.ownBlock=some q->w.heap.size<=q
theorem Ip.Gw.below{v:Value}{w w':World}(a:BL w w'):Ip.Gw v v w w':=⟨.below a,.inl rfl⟩
theorem Ip.Gw.trans{v v' a:Value}{w w' d:World}(h:Ip.Gw v v' w w')(k:Ip.Gw v' a w' d):Ip.Gw v a w d:=by
 refine⟨h.mv.trans k.mv (fun _ _ e=>e) ?_,?_⟩
 .intro q m e;rcases h.own with g|g
  .rw[←g];exact e
  .exact absurd (g q e) (by omega)
 .rcases k.own with j|j
  .rw[j];exact h.own
  .exact .inr fun q e=>Xz h.mv.size (j q e)
theorem Ip.Gw.grown{v v':Value}{w w':World}(a:w.grownBy w' v.ownBlock)(d:v'.ownBlock=v.ownBlock\/v'.ownBlock=some w.heap.size):Ip.Gw v v' w w':=⟨.grown a (fun _ e=>e),d.imp id (fun e q h=>by rw[e]at h;cases h;exact X5 _)⟩
theorem Y0e{w:World}{sl:Value}{a:List Value}(h:w.ownsRow 0 44 1 sl a.length a){i:Nat}(hi:i<a.length):∃g c,sl= .l g a.length c/\w.cell? ⟨g,i,none⟩=some a[i]/\a.length<=c:=by
 rcases h.2 with⟨_,u⟩|⟨g,cap,d,s,_,m,k,_,n,r⟩
 .omega
 .refine⟨g,cap,s,?_,k⟩;simp only[World.cell?,m];have j:(d.toList.take (a.length*1))[i]?=some a[i]:=by rw[r];exact K0 hi
  rw[Dq,Xa (by omega)]at j;simpa using j
theorem BN(lo:Nat):∀(n:Nat) (B:Nat->Prop) (v:Value) (l:List Nd) (w:World),Ip.At B w n v l->(∀q,B q->q<w.heap.size)->∀(sv:Value) (j:List Nd),w.ownsRow lo 64 5 sv j.length (Xh j)->(∀q,sv.ownBlock=some q->¬B q)->j.length+l.length<=1000000->lo<=w.heap.size->Calls prog 21 #[v,sv] w fun e w'=>∃U,e= .returned U/\w'.ownsRow lo 64 5 U (j++l).length (Xh (j++l))/\Ip.Gw sv U w w'
 | 0,_,_,_,_,h,_,_,_,_,_,_,_=>h.elim
 | n+1,B,v,l,w,h,hBw,sv,j,s,hap,hlen,hlo=>by
  obtain⟨iN,hN,b3,b2,b1⟩:=YK Un;obtain⟨x,sl,y,r,rfl,b9,hr,hB,F,rfl⟩:=h;obtain⟨lp,lc,rfl⟩:=XA hr;have ih:=BN lo n;obtain⟨k,o,m,t,c⟩:=x;obtain rfl:c=(y.length:Int):=b9;have c5:=X9w k o m (y.length:Int) t (.slice lp y.length lc);have c6:=X9x k o m (y.length:Int) t (.slice lp y.length lc);have Q:=X1 (X3d k o m (y.length:Int) t (.slice lp y.length lc) ⟨_,_,_,rfl⟩ w);have c9:y.length<=9223372036854775807:=by
   rcases hr.2 with⟨_,h0⟩|⟨_,cap,_,_,_,_,hc,hm,_⟩
   .omega
   .unfold maxLen at hm;omega
  have HR:=X1 hr;have HB:=X1 hB;have I:=X1 hBw;have a0:=X1 hap;have b5:j.length+(r.length+1)<=1000000:=by simpa using hlen
  have b4:=X8 w.heap.size w;have HS:Hid (∀X:World,BL w X->∃(i:Nat) (d u:List Nd),i<=y.length/\(Value.int .i64 0)= .q (i:Int)/\Ip.Kids (Ip.At B w n) (y.drop i) u/\d++u=j++r/\X.ownsRow lo 64 5 sv d.length (Xh d)/\Ip.Gw sv sv w X):=X1 (fun X hb=>⟨0,j,r,Xb _,rfl,F,rfl,Qu s hb,.below hb⟩);clear hr hB F hBw hap s hlen b4;unfold Ip.pv;go_enter func21,ntmps21;go_wp2_with fail;go_fit Q.o;rintro e X⟨rfl,a3⟩;have a2:=X1 (HS.o X a3);clear a3 Q HS;go_wp2_with fail;go_loopw[1,10] (fun s1 iv wr=>∃(i:Nat) (d u:List Nd),i<=y.length/\iv= .q (i:Int)/\Ip.Kids (Ip.At B w n) (y.drop i) u/\d++u=j++r/\wr.ownsRow lo 64 5 s1 d.length (Xh d)/\Ip.Gw sv s1 w wr) (fun _ iv _=>y.length-(intOf iv).toNat)
  case atStart=>exact a2.o
  case round=>
   clear a2;obtain⟨i,d,u,hi,rfl,F,V,s,O⟩:=hrel;obtain⟨p1,c1,rfl⟩:=XA s;have c8:=O.mv.size;have C:Hid (∀q,B q->q<w.heap.size/\wr.heap[q]?=w.heap[q]?):=X1 (fun q W=>⟨I.o q W,O.mv.block q (I.o q W) (fun e=>a0.o q e W)⟩);have a9:Hid (∀q,(Value.slice p1 d.length c1).ownBlock=some q->¬B q):=X1 (fun q e W=>by
    rcases O.own with h1|h1
    .exact a0.o q (h1 ▸ e) W
    .exact absurd (I.o q W) (by have:=h1 q e;omega))
   have N:d.length+u.length=j.length+r.length:=by rw[←Xj,V,Xj]
   by_cases a5:i<y.length
   .have b6:(i:Int)<(y.length:Int):=by omega
    have c4:(0:Int)<=(i:Int):=by omega
    rw[KM a5]at F;obtain⟨a,r2,ka,kr,rfl⟩:=F;obtain⟨g,gc,b7,M,c0⟩:=Y0e (Vn HR.o (fun _ _=>Xb _) (fun q e=>(C.o q (HB.o q e)).2)) a5;have A:=ka.go (B':=B) (w':=wr) (fun _ h=>h) (fun q h=>(C.o q h).2);obtain⟨ta,ua,b8⟩:=(show Ip.Pt 0 wr y[i] a from⟨n,A.go (fun q h=>⟨Xb _,by have:=(C.o q h).1;omega⟩) (fun _ _=>rfl)⟩).iface;rw[b8]at M A;cases b7;have Q:=X1 (ih B (.iface ta ua) a wr A (fun q h=>by have:=(C.o q h).1;omega) (.slice p1 d.length c1) d s a9.o (by simp at N;omega) (by omega));have a8:=X1 kr;have HE:=X1 V;have HG:=X1 O;clear A ka kr V O s;go_wp2_with fail;go_fit Q.o;rintro e Z⟨s2,rfl,H,a4⟩;obtain⟨nn,S⟩:∃nn,nn=(d++a).length:=⟨_,rfl⟩;rw[←S]at H;have b0:=X1 S;clear S;obtain⟨p2,c2,rfl⟩:=XA H;have K:=X1 H;have J:=X1 (HG.o.trans a4);clear H a4 Q;go_wp2;go_roundw
    case rel=>exact⟨i+1,d++a,r2,by omega,by go_num,a8.o,by rw[KL];exact HE.o,by rw[←b0.o];exact K.o,J.o⟩
    case measure=>simp[intOf];omega
   .have b6:¬(i:Int)<(y.length:Int):=by omega
    obtain rfl:i=y.length:=by omega
    rw[List.drop_length]at F;have F:u=[]:=F;subst F;rw[JW]at V;have HE:=X1 V;clear V;have Q:=X1 (X5w k o m (y.length:Int) t (.slice lp y.length lc) ⟨_,_,_,rfl⟩ wr);have HG:=X1 O;have a1:=X1 s;clear O s;go_wp2_with fail;go_fit Q.o;rintro e Z⟨rfl,E⟩;have L:=QF Z (.cells #[.q k,.q o,.q m,.string t,.q (y.length:Int)] 64);have K:=X1 (Qu (Qu a1.o E) L);have J:=X1 ((HG.o.trans (.below E)).trans (.below L));have a6:(Z.alloc (.cells #[.q k,.q o,.q m,.string t,.q (y.length:Int)] 64)).heap.size=Z.heap.size+1:=by simp
    have c7:=E.size;clear E L Q;go_wp2_with(at_builtin;refine YY _ rfl _ _ 23 rfl lo 64 iN _ 5 48 underlying23 hN b3 b2 b1 rfl (by decide) (.slice p1 d.length c1) d.length (Xh d) rfl K.o ⟨Z.heap.size,0,none⟩ 1 1 [.q k,.q o,.q m,.string t,.q (y.length:Int)] rfl rfl (TB Z [.q k,.q o,.q m,.string t,.q (y.length:Int)] _) (by simp[Value.oneCell']) (by unfold maxLen;simp at N;omega) (by simp at N;omega) (by rw[a6];omega) ?_);intro v3 w3 r1 r2 _ r4;have HF:Hid (w3.ownsRow lo 64 5 v3 (j++(r++[(⟨k,o,m,t,y.length⟩:Nd)])).length (Xh (j++(r++[(⟨k,o,m,t,y.length⟩:Nd)])))):=X1 (by
     rw[←KL,←HE.o,S0,Xj];exact r1)
    have a7:=X1 (J.o.trans (.grown r2 (by rw[a6];exact r4)));obtain⟨p3,c3,rfl⟩:=XA r1;clear r1 r2 r4;go_wp2;go_ret;exact⟨_,rfl,HF.o,a7.o⟩
attribute [local simp] Act.eval Act.put
def Iq(w:World)(p:Option Addr)(vs:List Value):Prop:=vs=[]\/∃g o,p=some ⟨g,o,none⟩/\g<w.heap.size/\∀j u,vs[j]?=some u->w.cell? ⟨g,o+j,none⟩=some u
theorem MO(r:List Value)(p:Option Addr)(n c:Nat)(w:World)(L:r.length=n)(hn:n<=1000000)(K:∀u∈r,u.oneCell'=true)(M:Iq w p r): Calls prog 38 #[.slice p n c] w fun e w'=>∃v,e= .returned v/\w'.ownsRow w.heap.size 44 1 v n r/\Below w.heap.size w w':=by
 obtain⟨iN,V,C,B,A⟩:=YK Ga;have a0:∀(w:World) (a:Option Addr) (n c F y:Nat),(binOp .eql 85 (.slice a n c) (.slice none F y)).run prog w= .ok (.bool a.isNone) w:=fun w a n c F y=>Lib.run_eql_slice_nil w _ _ a n c F y underlying85;have J:=X1 M;have O:=X1 K;have I:=X1 L;clear M K L;cases p with
 | none=>
  have hv:r=[]:=by
   rcases J.o with h|⟨g,o,h,_⟩
   .exact h
   .cases h
  subst hv;have E:n=0:=by have:=I.o;simp at this;omega
  subst E;go_enter func38,ntmps38;go_wp2;go_ret;exact⟨_,rfl,K7 _ _ _ _,X8 _ _⟩
 | some U=>
  obtain⟨g,o,sp⟩:=U;have Q:Hid (∀(H:Obj) (j:Nat) (u:Value),r[j]?=some u->(w.alloc H).cell? ((⟨g,o,sp⟩:Addr).add j)=some u):=X1 (by
   intro H j u N;rcases J.o with h|⟨g',o',h,Z,X⟩
   .subst h;simp at N
   .cases h;have e:((⟨g,o,none⟩:Addr).add j)=⟨g,o+j,none⟩:=by simp[Addr.add]
    rw[e];exact(((X8 w.heap.size w).alloc (X5 _) H).cell (p:=⟨g,o+j,none⟩) Z).trans (X j u N))
  go_enter func38,ntmps38;go_wp2_with(at_builtin;refine YY _ rfl _ _ 85 rfl w.heap.size 44 iN _ 1 16 underlying85 V C B A rfl (by decide) (.l w.heap.size 0 0) 0 [] rfl (Y4 (base:=w.heap.size) w #[] 0 (X5 _) (Xb _) rfl) ⟨g,o,sp⟩ n c r rfl (by have:=I.o;omega) (Q.o _) O.o (by unfold maxLen;omega) (by omega) (by simp) ?_);intro v w1 d k m s;have W:BL w w1:=(bA _).grown k (by simp) (fun q e=>by simp[Value.ownBlock]at e;omega);obtain⟨p',y,rfl⟩:=XA d;have S:=X1 d;clear k m s d;go_wp2;go_ret;exact⟨_,rfl,by simpa using S.o,W⟩
theorem MU{w w':World}(h:Below w.drew.heap.size w.drew w'):Below w.heap.size w w':=⟨h.os,h.tape,h.output,h.size,h.block⟩
abbrev Gt(k o m c:Int)(t:ByteArray):Obj:= .cells #[.q k,.q o,.q m,.string t,.q c] 64
theorem W6{W:World}{g:Nat}{k o m c:Int}{t:ByteArray}(h:W.heap[g]?=some (Gt k o m c t)):W.cell? ⟨g,0,none⟩=some (.q k)/\W.cell? ⟨g,1,none⟩=some (.q o)/\W.cell? ⟨g,2,none⟩=some (.q m)/\W.cell? ⟨g,3,none⟩=some (.string t)/\W.cell? ⟨g,4,none⟩=some (.q c):=by
 refine⟨?_,?_,?_,?_,?_⟩<;>(rw[World.cell?,h];rfl)
def Rb.sl:List Nd->Nat->Option Nat
 | [],n=>some n
 | x::r,n=>if x.kids<0\/(n:Int)<x.kids then none else Rb.sl r (n-x.kids.toNat+1)
theorem Rb.Eb:∀(r:List Nd) (i:Nat) (op:List Nat),Rb.sl r op.length=(XF r i op).2.map List.length
 | [],_,_=>rfl
 | x::r,i,op=>by
  rw[Rb.sl,XF];by_cases h:x.kids<0\/(op.length:Int)<x.kids
  .rw[Xa h,Xa h];rfl
  .rw[X6 h,X6 h];have:=Rb.Eb r (i+1) (op.take (op.length-x.kids.toNat)++[i]);rw[Xj,YO,Ds,Jv (by omega)]at this;exact this
theorem Rb.Y1i{ns:List Nd}(h:Qc ns=true):Rb.sl ns 0=some 1:=by
 have e:=Rb.Eb ns 0 [];unfold Qc at h;cases a:(XF ns 0 []).2 with
 | none=>rw[a]at h;cases h
 | some op=>
  rw[a]at h e;have h:op.length=1:=by simpa using h
  rw[←h];exact e
theorem Ip.Kids.split{P:Value->List Nd->Prop}:∀(m:Nat) {j:List Value} {l:List Nd},Ip.Kids P j l->∃a b,l=a++b/\Ip.Kids P (j.take m) a/\Ip.Kids P (j.drop m) b
 | 0,_,l,h=>⟨[],l,rfl,rfl,h⟩
 | _+1,[],_,h=>⟨[],[],h,rfl,rfl⟩
 | m+1,v::vs,_,⟨a,r,h1,h2,h3⟩=>by
  obtain⟨c,d,e,f,g⟩:=Ip.Kids.split m h2;exact⟨a++c,d,by rw[h3,e,KL],⟨a,c,h1,f,rfl⟩,g⟩
structure OpR (lo:Nat) (w:World) (ov:Value) (m k M:Nat) (xs:List Value) (l1 l2:List Nd):Prop where
 row:w.ownsRow lo 44 1 ov (m+k) xs
 k1:Ip.Kids (Ip.At (fun q=>lo<=q/\q<w.heap.size/\ov.ownBlock≠some q) w M) (xs.take m) l1
 k2:Ip.Kids (Ip.At (fun q=>lo<=q/\q<w.heap.size/\ov.ownBlock≠some q) w M) (xs.drop m) l2
theorem OpR.made{lo m k M:Nat}{w r w5 s:World}{v sl:Value}{j:List Value}{B l2:List Nd}{x:Nd}(h:OpR lo w v m k M j B l2)(A:x.kids=k)(u:(j.drop m).length=k)(C:lo<=w.heap.size)(d:BL w r)(n:w5.ownsRow r.heap.size 44 1 sl k (j.drop m))(g:BL r w5)(a:BL w5 s): Ip.At (fun q=>lo<=q/\q<s.heap.size/\v.ownBlock≠some q) s (M+1) (Ip.pv x sl) (l2++[x]):=by
 have E:=d.size;have F:=g.size;have H:=a.size;refine⟨x,sl,j.drop m,l2,rfl,by rw[A,u],by rw[u];exact Vn n (fun _ _=>Xb _) (fun q e=>a.block q (n.lt q e).2),fun q e=>?_,h.k2.mono fun _ _ z=>z.go (fun q e=>⟨e.1,by have:=e.2.1;omega,e.2.2⟩) (fun q e=>by have:=e.2.1;exact(a.block q (by omega)).trans ((g.block q (by omega)).trans (d.block q this))),rfl⟩;have:=n.lt q e;exact⟨by omega,by omega,fun y=>by have:=(h.row.lt q y).2;omega⟩
theorem OpR.push{lo m k M:Nat}{w a r:World}{y sm n g:Value}{F:List Value}{C l2 E:List Nd}(h:OpR lo w y m k M F C l2)(I:lo<=w.heap.size)(v:BL w a)(H:Ip.At (fun q=>lo<=q/\q<a.heap.size/\y.ownBlock≠some q) a (M+1) g E)(d:∀q,sm.ownBlock=some q->y.ownBlock=some q)(J:r.ownsRow lo 44 1 n (m+1) (F.take m++[g]))(B:(a.z #[g] 44).grownBy r sm.ownBlock)(u:n.ownBlock=sm.ownBlock\/n.ownBlock=some (a.heap.size+1)): Ip.Row lo r n (m+1) (C++E)/\Below lo w r:=by
 have L:=v.size;have A:∀q,q<a.heap.size->(a.z #[g] 44).heap[q]?=a.heap[q]?:=fun q K=>Below.heap_alloc a _ q K;have j:(a.z #[g] 44).heap.size=a.heap.size+1:=Yx _ _;refine⟨Ip.Row.push (w:=a.z #[g] 44) (sv:=sm) (m:=M) (k:=M+1) (h.k1.mono fun _ _ z=>z.go (fun q e=>⟨e.1,by have:=e.2.1;omega,fun s=>e.2.2 (d q s)⟩) (fun q e=>(A q (by have:=e.2.1;omega)).trans (v.block q e.2.1))) (H.go (fun q e=>⟨e.1,by have:=e.2.1;omega,fun s=>e.2.2 (d q s)⟩) (fun q e=>A q e.2.1)) J B (by rw[j];exact u),?_⟩;exact((v.mono I).alloc (by omega) _).grown B (by rw[j];omega) (fun q e=>(h.row.lt q (d q e)).1)
theorem Xdp(ns:List Nd)(tg tc:Nat)(w:World)(hn:ns.length<=5000)(c0:Qc ns=true)(ht:K1 w tg ns): Calls prog 15 #[.agg #[.l tg ns.length tc]] w fun e w'=>∃t u,e= .returned (.iface t u)/\Ip.Pt w.heap.size w' (.iface t u) ns/\Below w.heap.size w w':=by
 obtain⟨iN,hN,d9,d8,d7⟩:=YK Ga;have HT:=X1 ht;have f1:=X1 (Rb.Y1i c0);have f0:Hid (BL w (w.z #[.l tg ns.length tc] 25)):=X1 (bA _);have f2:Hid (w.heap.size<(w.z #[.l tg ns.length tc] 25).heap.size):=X1 (by simp);clear ht c0;go_enter func15,ntmps15;go_wp2_with fail;go_loopw[3,11] (fun ov iv wr=>∃(i n:Nat),i<=ns.length/\n<=i/\iv= .q (i:Int)/\Rb.sl (ns.drop i) n=some 1/\BL w wr/\w.heap.size<wr.heap.size/\Ip.Row (w.heap.size+1) wr ov n (ns.take i)) (fun _ iv _=>ns.length-(intOf iv).toNat)
 case atStart=>exact⟨0,0,Xb _,X5 _,rfl,f1.o,f0.o,f2.o,Ip.Row.nil _ _⟩
 case round=>
  obtain⟨i,n,hi,g3,rfl,N,L,c2,U⟩:=hrel;obtain⟨a9,d,f8⟩:=U.form;subst f8;by_cases d1:i<ns.length
  .obtain⟨b0,b1,b2,b3,b4⟩:=HT.o.2 i d1;have a0:=(L.cell (p:=⟨tg,i*5,none⟩) HT.o.1).trans b0;have a1:=(L.cell (p:=⟨tg,i*5+1,none⟩) HT.o.1).trans b1;have a2:=(L.cell (p:=⟨tg,i*5+2,none⟩) HT.o.1).trans b2;have a3:=(L.cell (p:=⟨tg,i*5+3,none⟩) HT.o.1).trans b3;have a4:=(L.cell (p:=⟨tg,i*5+4,none⟩) HT.o.1).trans b4;rw[KM d1,Rb.sl]at N;have d2:ns.take (i+1)=ns.take i++[ns[i]]:=Vx d1;obtain⟨xx,e9⟩:∃xx,xx=ns[i]:=⟨_,rfl⟩;rw[←e9]at a0 a1 a2 a3 a4 N d2;clear e9 b0 b1 b2 b3 b4;obtain⟨B,J,I,K,xd⟩:=xx;have c6:¬(xd<0\/(n:Int)<xd):=fun e=>by rw[Xa e]at N;cases N
   rw[X6 c6]at N;obtain⟨k,rfl⟩:∃k:Nat,xd=k:=⟨xd.toNat,by omega⟩;obtain⟨m,rfl⟩:∃m,n=m+k:=⟨n-k,by omega⟩;have d5:Hid (Rb.sl (ns.drop (i+1)) (m+1)=some 1):=X1 (by simpa using N);obtain⟨Z,M,c4,e4⟩:=U;obtain⟨l1,l2,c7,e3,d0⟩:=e4.split m;have d6:Hid (ns.take (i+1)=l1++(l2++[⟨B,J,I,K,(k:Int)⟩])):=X1 (by rw[d2,c7,KL]);have b6:Hid (OpR (w.heap.size+1) wr (.slice a9 (m+k) d) m k M Z l1 l2):=X1 ⟨c4,e3,d0⟩;have e8:Z.length=m+k:=by simpa using c4.1
   have O:Hid ((Z.drop m).length=k):=X1 (by rw[YC,e8];omega);have c9:Hid (∀u∈Z.drop m,u.oneCell'=true):=X1 (d0.OP);have g2:IntKind.i64.wrap ((m:Int)+(k:Int)-(k:Int))=(m:Int):=by rw[Yp];omega
   have e1:BL wr (wr.alloc (Gt B J I k K)):=bA _;have F:=X1 e1;have a7:=X1 (YV wr (Gt B J I k K));have H:Hid (wr.heap.size<(wr.alloc (Gt B J I k K)).heap.size):=X1 (by simp);have c3:=X1 L;have a6:=X1 c4;clear c6 N d2 c7 e3 d0 e4 e8 e1 L c4;go_upto_region 6 with fail;generalize e0:wr.alloc (Gt B J I k K)=W1 at *;obtain⟨x0,x1,x2,x3,x4⟩:=W6 a7.o;go_cut[7]from 20 to 25 (fun v7 wx=>∃t7 u7,v7= .iface t7 u7/\Ip.At (fun q=>w.heap.size+1<=q/\q<wx.heap.size/\(Value.slice a9 (m+k) d).ownBlock≠some q) wx (M+1) (.iface t7 u7) (l2++[⟨B,J,I,K,(k:Int)⟩])/\BL wr wx)
   case first=>
    rcases a6.o.2 with⟨K8,c1⟩|⟨X,g,f3,E,_⟩
    .obtain⟨rfl,hz,rfl⟩:a9=none/\m+k=0/\d=0:=by simpa using K8
     obtain rfl:m=0:=by omega
     obtain rfl:k=0:=by omega
     clear K8 c1 e0;have b8:Hid (Iq W1.drew none (Z.drop 0)):=X1 (.inl (Qx O.o));go_region_held3 (fun W=>W.cell? ⟨wr.heap.size,0,none⟩=some (.q B)/\W.cell? ⟨wr.heap.size,1,none⟩=some (.q J)/\W.cell? ⟨wr.heap.size,2,none⟩=some (.q I)/\W.cell? ⟨wr.heap.size,3,none⟩=some (.string K)/\W.cell? ⟨wr.heap.size,4,none⟩=some (.q (0:Int))) (go_keep) (first
      | (refine J9 rfl 38 [.tmp 23] _ rfl [.slice none 0 0] (by simp) f38 func38 (by kernel_rfl) (by kernel_rfl) (fun r w5=>∃A g,r= .slice A 0 g/\w5.ownsRow W1.heap.size 44 1 (.slice A 0 g) 0 (Z.drop 0)/\BL W1 w5) ((MO (Z.drop 0) none 0 0 W1.drew O.o (by omega) c9.o b8.o).mono (fun _ _ ⟨v,y1,V,y3⟩=>by obtain⟨A,g,y4⟩:=XA V;subst y4;exact⟨_,y1,A,g,rfl,V,MU y3⟩)) ?_;rintro r w5⟨A,g,rfl,S,a⟩;obtain⟨y0,y1,V,y3,y4⟩:=W6 ((a.block wr.heap.size H.o).trans a7.o))
      | (refine J9 rfl 37 [.tmp 20,.tmp 24] _ rfl [.agg #[.q B,.q J,.q I,.string K,.q (0:Int)],.slice A 0 g] (by simp) f37 func37 (by kernel_rfl) (by kernel_rfl) (fun r w6=>r= .iface (Ip.ty B) (.agg #[.q B,.q J,.q I,.string K,.q (0:Int),.slice A 0 g])/\BL w5 w6) ((JS B J I 0 K A 0 g w5).mono (fun _ _ ⟨y1,V⟩=>⟨_,y1,rfl,V⟩)) ?_;rintro r w6⟨rfl,s⟩;obtain⟨v0,v1,v2,v3,v4⟩:=W6 ((s.block wr.heap.size (XH H.o a.size)).trans ((a.block wr.heap.size H.o).trans a7.o))))
     all_goals
      have b7:=X1 (b6.o.made (x:=⟨B,J,I,K,(0:Int)⟩) rfl O.o c2 F.o S a s);have b5:=X1 (F.o.trans ((a.trans (s.mono a.size)).mono F.o.size));clear a s S;go_wp2_with fail;go_meet
      case rel=>exact⟨_,_,rfl,b7.o,b5.o⟩
    .obtain⟨rfl,rfl⟩:a9=some ⟨X,0,none⟩/\d=g:=by simpa using E
     have e2:=(J8 a6.o).1;have f7:=a6.o.lt X rfl;clear E e0;by_cases f6:d=m
     .subst f6;obtain rfl:k=0:=by omega
      have b8:Hid (Iq W1.drew (some ⟨X,0,none⟩) (Z.drop d)):=X1 (.inl (Qx O.o));go_region_held3 (fun W=>W.cell? ⟨wr.heap.size,0,none⟩=some (.q B)/\W.cell? ⟨wr.heap.size,1,none⟩=some (.q J)/\W.cell? ⟨wr.heap.size,2,none⟩=some (.q I)/\W.cell? ⟨wr.heap.size,3,none⟩=some (.string K)/\W.cell? ⟨wr.heap.size,4,none⟩=some (.q (0:Int))) (go_keep) (first
       | (refine J9 rfl 38 [.tmp 23] _ rfl [.l X 0 (d-d)] (by simp) f38 func38 (by kernel_rfl) (by kernel_rfl) (fun r w5=>∃A g,r= .slice A 0 g/\w5.ownsRow W1.heap.size 44 1 (.slice A 0 g) 0 (Z.drop d)/\BL W1 w5) ((MO (Z.drop d) (some ⟨X,0,none⟩) 0 (d-d) W1.drew O.o (by omega) c9.o b8.o).mono (fun _ _ ⟨v,y1,V,y3⟩=>by obtain⟨A,g,y4⟩:=XA V;subst y4;exact⟨_,y1,A,g,rfl,V,MU y3⟩)) ?_;rintro r w5⟨A,g,rfl,S,a⟩;obtain⟨y0,y1,V,y3,y4⟩:=W6 ((a.block wr.heap.size H.o).trans a7.o))
       | (refine J9 rfl 37 [.tmp 20,.tmp 24] _ rfl [.agg #[.q B,.q J,.q I,.string K,.q (0:Int)],.slice A 0 g] (by simp) f37 func37 (by kernel_rfl) (by kernel_rfl) (fun r w6=>r= .iface (Ip.ty B) (.agg #[.q B,.q J,.q I,.string K,.q (0:Int),.slice A 0 g])/\BL w5 w6) ((JS B J I 0 K A 0 g w5).mono (fun _ _ ⟨y1,V⟩=>⟨_,y1,rfl,V⟩)) ?_;rintro r w6⟨rfl,s⟩;obtain⟨v0,v1,v2,v3,v4⟩:=W6 ((s.block wr.heap.size (XH H.o a.size)).trans ((a.block wr.heap.size H.o).trans a7.o))))
      all_goals
       have b7:=X1 (b6.o.made (x:=⟨B,J,I,K,(0:Int)⟩) rfl O.o c2 F.o S a s);have b5:=X1 (F.o.trans ((a.trans (s.mono a.size)).mono F.o.size));clear a s S;go_wp2_with fail;go_meet
       case rel=>exact⟨_,_,rfl,b7.o,b5.o⟩
     .have g1:(m:Int)<=(m:Int)+(k:Int):=by omega
      have b8:Hid (Iq W1.drew (some ⟨X,m,none⟩) (Z.drop m)):=X1 (.inr ⟨X,m,rfl,by have:=H.o;show X<W1.heap.size;omega,fun j u hu=>by
       rw[Dn]at hu;exact((F.o.cell (p:=⟨X,m+j,none⟩) f7.2).trans (JU a6.o hu))⟩)
      go_region_held3 (fun W=>W.cell? ⟨wr.heap.size,0,none⟩=some (.q B)/\W.cell? ⟨wr.heap.size,1,none⟩=some (.q J)/\W.cell? ⟨wr.heap.size,2,none⟩=some (.q I)/\W.cell? ⟨wr.heap.size,3,none⟩=some (.string K)/\W.cell? ⟨wr.heap.size,4,none⟩=some (.q (k:Int))) (go_keep) (first
       | (refine J9 rfl 38 [.tmp 23] _ rfl [.slice (some ⟨X,m,none⟩) k (d-m)] (by simp) f38 func38 (by kernel_rfl) (by kernel_rfl) (fun r w5=>∃A g,r= .slice A k g/\w5.ownsRow W1.heap.size 44 1 (.slice A k g) k (Z.drop m)/\BL W1 w5) ((MO (Z.drop m) (some ⟨X,m,none⟩) k (d-m) W1.drew O.o (by omega) c9.o b8.o).mono (fun _ _ ⟨v,y1,V,y3⟩=>by obtain⟨A,g,y4⟩:=XA V;subst y4;exact⟨_,y1,A,g,rfl,V,MU y3⟩)) ?_;rintro r w5⟨A,g,rfl,S,a⟩;obtain⟨y0,y1,V,y3,y4⟩:=W6 ((a.block wr.heap.size H.o).trans a7.o))
       | (refine J9 rfl 37 [.tmp 20,.tmp 24] _ rfl [.agg #[.q B,.q J,.q I,.string K,.q (k:Int)],.slice A k g] (by simp) f37 func37 (by kernel_rfl) (by kernel_rfl) (fun r w6=>r= .iface (Ip.ty B) (.agg #[.q B,.q J,.q I,.string K,.q (k:Int),.slice A k g])/\BL w5 w6) ((JS B J I k K A k g w5).mono (fun _ _ ⟨y1,V⟩=>⟨_,y1,rfl,V⟩)) ?_;rintro r w6⟨rfl,s⟩;obtain⟨v0,v1,v2,v3,v4⟩:=W6 ((s.block wr.heap.size (XH H.o a.size)).trans ((a.block wr.heap.size H.o).trans a7.o))))
      all_goals
       have b7:=X1 (b6.o.made (x:=⟨B,J,I,K,(k:Int)⟩) rfl O.o c2 F.o S a s);have b5:=X1 (F.o.trans ((a.trans (s.mono a.size)).mono F.o.size));clear a s S;go_wp2_with fail;go_meet
       case rel=>exact⟨_,_,rfl,b7.o,b5.o⟩
   case rest=>
    obtain⟨t7,u7,rfl,e6,b9⟩:=hcut;have d4:=X1 e6;have d3:=X1 b9;have g4:=b9.size;clear e6;rcases a6.o.2 with⟨K8,c1⟩|⟨X,g,f3,E,_⟩
    .obtain⟨rfl,hz,rfl⟩:a9=none/\m+k=0/\d=0:=by simpa using K8
     obtain rfl:m=0:=by omega
     obtain rfl:k=0:=by omega
     have c8:Hid (wc.ownsRow (w.heap.size+1) 44 1 (.slice none 0 0) 0 (Z.take 0)):=X1 (K7 _ _ _ _);clear K8 c1 b9;go_wp2_with(at_builtin;refine YY _ rfl _ _ 85 rfl (w.heap.size+1) 44 iN _ 1 16 underlying85 hN d9 d8 d7 rfl (by decide) (.slice none 0 0) 0 (Z.take 0) rfl (c8.o.alloc _) ⟨wc.heap.size,0,none⟩ 1 1 [.iface t7 u7] rfl rfl (IG wc (.iface t7 u7) _ _ rfl) (by intro z hz;simp only[Kr,QU,J7]at hz;rw[hz];rfl) (by unfold maxLen;omega) (by omega) (by simp;omega) ?_);intro v8 w8 C y a8 Q;have a5:=X1 (b6.o.push (sm:= .slice none 0 0) c2 d3.o d4.o (fun q e=>by cases e) C y Q);clear C y a8 Q;go_wp2;go_roundw
     case rel=>exact⟨i+1,0+1,by omega,by omega,by go_num,d5.o,c3.o.trans (a5.o.2.mono (by omega)),by have:=a5.o.2.size;omega,by rw[d6.o];exact a5.o.1⟩
     case measure=>simp[intOf];omega
    .obtain⟨rfl,rfl⟩:a9=some ⟨X,0,none⟩/\d=g:=by simpa using E
     have e2:=(J8 a6.o).1;have f4:m<=d:=by omega
     have f5:(m:Int)<=(d:Int):=by omega
     have e7:=CQ (U3 a6.o b9) m (by omega);have c8:=X1 e7;clear E e7 b9;go_wp2_with(at_builtin;refine YY _ rfl _ _ 85 rfl (w.heap.size+1) 44 iN _ 1 16 underlying85 hN d9 d8 d7 rfl (by decide) (.l X m d) m (Z.take m) rfl (c8.o.alloc _) ⟨wc.heap.size,0,none⟩ 1 1 [.iface t7 u7] rfl rfl (IG wc (.iface t7 u7) _ _ rfl) (by intro z hz;simp only[Kr,QU,J7]at hz;rw[hz];rfl) (by unfold maxLen;omega) (by omega) (by simp;omega) ?_);intro v8 w8 C y a8 Q;have a5:=X1 (b6.o.push (sm:= .l X m d) c2 d3.o d4.o (fun q e=>e) C y Q);clear C y a8 Q;go_wp2;go_roundw
     case rel=>exact⟨i+1,m+1,by omega,by omega,by go_num,d5.o,c3.o.trans (a5.o.2.mono (by omega)),by have:=a5.o.2.size;omega,by rw[d6.o];exact a5.o.1⟩
     case measure=>simp[intOf];omega
  .obtain rfl:i=ns.length:=by omega
   have g0:¬((ns.length:Int)<(ns.length:Int)):=by omega
   rw[List.drop_length,Rb.sl]at N;obtain rfl:=Zq N;rw[JY]at U;obtain⟨X,g,t0,u0,f9,kc,e5⟩:=U.head;cases f9;have HR:=X1 (e5.low (lo':=w.heap.size) (Qy _));have c3:=X1 L;clear e5 U L;go_wp2;go_ret;exact⟨_,_,rfl,HR.o,c3.o⟩
