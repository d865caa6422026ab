import Derived.Test.YtaeafhenpjnhiaaGreatDoorE36
import Derived.Laws.AppendOwnNone
import Derived.Test.YtaeafhenpjnhiaaGreatDoorE41
set_option maxHeartbeats 2000000
set_option maxRecDepth 100000
namespace Go.Proofs.YtaeafhenpjnhiaaGreatDoor
open Tryz Go.RowKit
theorem Ip.Kids.OP{B:Nat->Prop}{w:World}{n:Nat}:∀{a:List Value} {l:List Nd},Ip.Kids (Ip.At B w n) a l->∀u∈a,u.oneCell'=true
 | [],_,_,_,h=>by cases h
 | _::_,_,⟨_,_,k1,k2,_⟩,u,h=>by
  rcases Kr.1 h with rfl|h
  .exact k1.one
  .exact Ip.Kids.OP k2 u h
theorem Y3o{ops:Array Oper}{d:List Oper}{o:Oper}{a:Act}{w:World}{Q:Exit->Act->World->Prop}(A:o.guard=none)(s x:Operand)(ho:o.op= .call {callee:= .builtin .append,args:=#[s,x],argTypes:=#[85,85]})(lo lo' n m B:Nat)(sv sw:Value)(l V:List Nd)(O:Ip.Row lo w sv n l)(hv:Ip.Row lo' w sw m V)(M:lo<=lo')(N:lo<=w.heap.size)(k:∀q,sv.ownBlock=some q->q<lo'/\B<=q)(a1:B<=w.heap.size)(hn:n<=2000000)(hm:m<=2000000)(hs:a.eval s=sv)(hx:a.eval x=sw)(h:∀v' w',Ip.Row lo w' v' (n+m) (l++V)->Below B w w'->wpList prog ops Q d (a.put o.dst v') w'):wpList prog ops Q (o::d) a w:=by
 obtain⟨iN,hN,K,J,I⟩:=YK Ga;have a3:=fun q e=>O.lt (q:=q) e;have S:=O;obtain⟨W,k1,Z,h2⟩:=O;obtain⟨F,k2,X,y⟩:=hv;have r:F.length=m:=by have:=X.1;omega
 rcases X.2 with⟨rfl,rfl⟩|⟨g,cap,a0,rfl,a2,L,a4,_,a5,ht⟩
 .have hy:F=[]:=Qx r;subst hy;have y:V=[]:=y;subst y;refine wpList_append_own_none A s x 85 ho lo 44 iN 1 underlying85 hN sv n W hs Z hx ?_;exact h sv w (by rw[JW];exact S) (X8 _ _)
 .refine YY _ A s x 85 ho lo 44 iN _ 1 16 underlying85 hN K J I rfl (by decide) sv n W hs Z ⟨g,0,none⟩ m cap F hx (by rw[Nat.mul_one];exact r) ?_ y.OP (by unfold maxLen;omega) (by omega) N ?_
  .intro j u U;rw[Y8,Xu,World.cell?,L];have hj:j<m:=by rw[←r];exact(I5.1 U).1
   rw[←ht,Dq,Xa (by omega)]at U;simpa using U
  .intro v' w' r1 r2 _ C;have hB:∀q,q<w.heap.size->sv.ownBlock≠some q->v'.ownBlock≠some q:=fun q E e1 H=>by
    rcases C with C|C
    .exact e1 (C ▸ H)
    .rw[C]at H;cases H;exact absurd E (Nat.lt_irrefl _)
   have hW:∀q,q<w.heap.size->sv.ownBlock≠some q->w'.heap[q]?=w.heap[q]?:=fun q E e=>r2.block q E (fun v=>e v.symm);refine h v' w' ⟨W++F,k1+k2,r1,Ip.Kids.append (h2.mono (fun _ _ e=>(e.go (fun q z=>⟨z.1,XH z.2.1 r2.size,hB q z.2.1 z.2.2⟩) (fun q z=>hW q z.2.1 z.2.2)).le (Nat.le_add_right _ _))) (y.mono (fun _ _ e=>(e.go (fun q z=>⟨Xz M z.1,XH z.2.1 r2.size,hB q z.2.1 (fun v=>by have:=(k q v).1;omega)⟩) (fun q z=>hW q z.2.1 (fun v=>by have:=(k q v).1;omega))).le (Nat.le_add_left _ _)))⟩ ?_;refine⟨r2.os,r2.tape,r2.output,r2.size,fun q E=>r2.block q (by omega) (fun e=>?_)⟩;have:=(k q e.symm).2;omega
theorem Oh{b tc sz m:Nat}{tp:Option Addr}{ts:List Sc.T}{s:Pr.Dk}(d7:s.bad=false)(e0:m<=s.p)(c2:∀q:Pr.Dk,m<q.p->q.p<=ts.length->q.bad=false->Ip.DE b tp tc ts sz q): Ip.Jr b tp tc ts sz 145 #[.p b] .post s (s):=by
 intro w0 b7;have B:=b7.lt;have c1:=b7.XP;have b9:=X1 b7;have b5:=X1 (Ip.Mv.refl b w0);have c7:=X1 (show m<=(s).p from e0);clear b7;go_enter func145,ntmps145;go_wp2_with fail;go_fit(upE (X7e (s:=s) d7 e0 c2 _ b9.o) b5 c7 b9 (b5.o.size));rintro e w1 (⟨r1,t1,u1,l1,rfl,I,W,a5,hm,c5,d0,c8,b1⟩|⟨q,rfl,hq,hm⟩);rotate_left
 .exact⟨rfl,.inr ⟨_,rfl,.Xeu hq,b5.o.t hm⟩⟩
 have HS:=X1 (show((fun v wr=>∃(t:Pr.Dk) (l:List Nd),Ip.Pt w0.heap.size wr v l/\t.bad=false/\t.o=s.o++l/\m<=t.p/\IP b tp tc ts sz t.p wr/\Ip.Mv b w0 wr/\(∀r,Pr.Cv ts sz .Yr t r->Pr.Cv ts sz .post s r)/\(∀q,Pr.Ends ts sz .Yr t q->Pr.Ends ts sz .post s q))) (.iface t1 u1) w1 from⟨r1.1,l1,b1.o,W,a5.o,c8.o,c5.o,d0.o,fun r h=> .post I.o h,fun q h=> .Ce I.o h⟩);clear b1 a5 c8 c5 d0 I W;go_wp2_with fail;go_loopw[3] (fun v wr=>∃(t:Pr.Dk) (l:List Nd),Ip.Pt w0.heap.size wr v l/\t.bad=false/\t.o=s.o++l/\m<=t.p/\IP b tp tc ts sz t.p wr/\Ip.Mv b w0 wr/\(∀r,Pr.Cv ts sz .Yr t r->Pr.Cv ts sz .post s r)/\(∀q,Pr.Ends ts sz .Yr t q->Pr.Ends ts sz .post s q)) (fun _ wr=>Ip.left b ts wr)
 case atStart=>exact HS.o
 case round=>
  clear HS;obtain⟨b3,rfl⟩:∃b3,b3=wr:=⟨_,rfl⟩;obtain⟨t,l,hp,A,ho,hg,hd,hm,d8,d9⟩:=hrel;obtain⟨tv,uv,rfl⟩:=hp.iface;have g:=X1 hp;have HO:=X1 ho;have K:=X1 hg;have a0:=X1 hd;have a1:=X1 hm;have b4:=X1 d8;have Z:=X1 d9;have HL:=X1 hd.left;clear hp ho hg hd hm d8 d9 b5 b9 c7;cases hI:X4 ts sz t [91]
  case true=>
   go_wp2_with fail;go_fit(upI a1 (Nat.le_succ_of_le K.o) (ZH (s:=t) a0.o [91] #[91] rfl hI));rintro e c3⟨rfl,hm,y,F,L⟩;have a:=X1 (g.o.mv hm.o B (X5 _));clear g;have S:(X2 t).bad=false:=A;go_wp2_with fail;go_fit(upE (c2 (X2 t) (Nat.lt_succ_of_le K.o) y.o.le S _ y.o) F L y (F.o.size));rintro e c4 (⟨r1,t1,u1,l1,rfl,I,W,a5,hm,C,H,M,a2⟩|⟨q,rfl,hq,hm⟩);rotate_left
   .exact⟨rfl,.inr ⟨_,rfl,Z.o _ (.X3n hI hq),F.o.t hm⟩⟩
   have d:=X1 (a.o.mv hm.o B (X5 _));clear a;cases a4:X4 ts sz (r1.1) [93]
   case false=>
    go_wp2_with fail;go_fit(ZX (s:=r1.1) C.o W [93] #[93] rfl a4);rintro e w⟨rfl,hm⟩;have hB:=Pr.Bd.Zw (ts:=ts) (sz:=sz) (s:=r1.1) W a4;exact⟨rfl,.inr ⟨_,rfl,Z.o _ (.Od hI I.o (hB.put _ _ _ _ _).Yr),H.o.t hm⟩⟩
   go_wp2_with fail;go_fit(upI H (Nat.le_succ_of_le M.o) (ZY (s:=r1.1) C.o [93] #[93] rfl a4));rintro e j⟨rfl,hm,J,u,U⟩;have k:=X1 (d.o.mv hm.o B (X5 _));have b6:=X1 (a2.o.mv hm.o B (X5 _));clear d;clear a2;have HY:=X1 (show Xd ts sz r1.1 [93]=X2 r1.1 from Yw a4);have Q:=X1 (JS 10 0 0 0 ⟨#[]⟩ (some ⟨j.heap.size,0,none⟩) 2 2 (j.z #[.iface tv uv,.iface t1 u1] 44));go_wp2_with fail;go_fit Q.o;rintro e a6⟨rfl,hb⟩;have X:Ip.Row w0.heap.size (j.z #[.iface tv uv,.iface t1 u1] 44) (.l j.heap.size 2 2) 2 (l++l1):=(Ip.LO k.o b6.o).row u.o.size (by simp);have b2:=X1 ((X.below hb).made (x:=⟨10,0,0,⟨#[]⟩,2⟩) rfl);have O:=WC hb;have E:=X1 (J.o.below O);have N:=X1 (u.o.more O);have V:=X1 U.o;clear hb O X Q;have a8:=X1 (show IP b tp tc ts sz (X9 (Xd ts sz r1.1 [93]) 10 0 0 [] 2).p a6 by rw[HY.o];exact E.o);have a9:=X1 (show m<=(X9 (Xd ts sz r1.1 [93]) 10 0 0 [] 2).p by rw[HY.o];exact V.o);have b0:=X1 (show Ip.left b ts a6<Ip.left b ts b3 from by rw[E.o.left,HL.o];have:=E.o.le;have:=(I.o.stp y.o.le).ge;simp at this⊢;simp at *;omega)
   go_wp2;go_roundw
   case rel=>exact⟨X9 (Xd ts sz r1.1 [93]) 10 0 0 [] 2,_,b2.o,by rw[HY.o];exact W,by rw[HY.o];simp[X9,a5.o,HO.o],a9.o,a8.o,N.o,fun r h=>b4.o _ (.LI A (Yc hI (by decide)) hI I.o h),fun q h=>Z.o _ (.Od hI I.o h)⟩
   case measure=>exact b0.o
  cases hD:X4 ts sz t [46]
  case true=>
   go_wp2_with fail;go_fit(upB a1 (K.o) (XK (s:=t) a0.o A [91] #[91] rfl hI));rintro e c3⟨rfl,hm,y,F,L⟩;have a:=X1 (g.o.mv hm.o B (X5 _));clear g;go_wp2_with fail;go_fit(upI F (Nat.le_succ_of_le L.o) (ZH (s:=t) y.o [46] #[46] rfl hD));rintro e c4⟨rfl,hm,C,H,M⟩;have d:=X1 (a.o.mv hm.o B (X5 _));clear a;have S:(X2 t).bad=false:=A;cases a3:((X3 ts sz (X2 (t))).kind==1)
   case false=>
    go_wp2_with fail;go_fit(Uo (s:=X2 (t)) C.o 1 (by simpa using a3));rintro e w⟨rfl,hm⟩;have hB:=Pr.Bd.Ur (ts:=ts) (sz:=sz) (s:=X2 (t)) S (by rw[QA S];exact a3);exact⟨rfl,.inr ⟨_,rfl,Z.o _ (.A5 hD (hB.put _ _ _ _ _).Yr),H.o.t hm⟩⟩
   have b8:K2 ts sz (X2 (t))=true:=by rw[QA S];exact a3
   go_wp2_with fail;go_fit(upI H (Nat.le_succ_of_le M.o) (JA (s:=X2 (t)) C.o 1 (by decide) (by simpa using a3)));rintro e j⟨rfl,hm,J,u,U⟩;have k:=X1 (d.o.mv hm.o B (X5 _));clear d;have e8:=U7 (X3 ts sz (X2 (t))).kind (X3 ts sz (X2 (t))).n (X3 ts sz (X2 (t))).place ⟨(X3 ts sz (X2 (t))).text.toArray⟩;unfold XB;have HY:=X1 (show Xm ts sz (X2 t)=X2 (X2 t)from Jw b8);have Q:=X1 (JS 11 0 0 0 ⟨(X3 ts sz (X2 t)).text.toArray⟩ (some ⟨j.heap.size,0,none⟩) 1 1 (j.z #[.iface tv uv] 44));go_wp2_with fail;go_fit Q.o;rintro e a6⟨rfl,hb⟩;have X:Ip.Row w0.heap.size (j.z #[.iface tv uv] 44) (.l j.heap.size 1 1) 1 (l):=(Ip.QO k.o).row u.o.size (by simp);have b2:=X1 ((X.below hb).made (x:=⟨11,0,0,⟨(X3 ts sz (X2 t)).text.toArray⟩,1⟩) rfl);have O:=WC hb;have E:=X1 (J.o.below O);have N:=X1 (u.o.more O);have V:=X1 U.o;clear hb O X Q;have a8:=X1 (show IP b tp tc ts sz (X9 (Xm ts sz (X2 t)) 11 0 0 (Xe ts sz (X2 t)) 1).p a6 by rw[HY.o];exact E.o);have a9:=X1 (show m<=(X9 (Xm ts sz (X2 t)) 11 0 0 (Xe ts sz (X2 t)) 1).p by rw[HY.o];exact V.o);have b0:=X1 (show Ip.left b ts a6<Ip.left b ts b3 from by rw[E.o.left,HL.o];have:=E.o.le;simp at *;omega)
   go_wp2;go_roundw
   case rel=>exact⟨X9 (Xm ts sz (X2 t)) 11 0 0 (Xe ts sz (X2 t)) 1,_,b2.o,by rw[HY.o];exact A,by rw[HY.o,UB b8];simp[X9,HO.o],a9.o,a8.o,N.o,fun r h=>b4.o _ (.LH A (Yc hD (by decide)) hI hD h),fun q h=>Z.o _ (.A5 hD h)⟩
   case measure=>exact b0.o
  cases hC:X4 ts sz t [40]
  case true=>
   go_wp2_with fail;go_fit(upB a1 (K.o) (XK (s:=t) a0.o A [91] #[91] rfl hI));rintro e c3⟨rfl,hm,y,F,L⟩;have a:=X1 (g.o.mv hm.o B (X5 _));clear g;go_wp2_with fail;go_fit(upB F (L.o) (XK (s:=t) y.o A [46] #[46] rfl hD));rintro e c4⟨rfl,hm,C,H,M⟩;have d:=X1 (a.o.mv hm.o B (X5 _));clear a;go_wp2_with fail;go_fit(upI H (Nat.le_succ_of_le M.o) (ZH (s:=t) C.o [40] #[40] rfl hC));rintro e j⟨rfl,hm,J,u,U⟩;have k:=X1 (d.o.mv hm.o B (X5 _));clear d;have S:(X2 t).bad=false:=A;have X:Ip.Row w0.heap.size (j.z #[.iface tv uv] 44) (.l j.heap.size 1 1) 1 l:=(Ip.QO k.o).row u.o.size (by simp);have O:=QF j (.cells #[.iface tv uv] 44);have hz:(j.z #[.iface tv uv] 44).heap.size=j.heap.size+1:=by simp
   have e2:=X1 (J.o.below O);have d4:=X1 (u.o.more O);have e3:=X1 X;have e4:=u.o.size;have Q:=X1 (X2v (m:=m+1) S (Nat.succ_le_succ K.o) c2 _ e2.o);clear X O;go_wp2_with fail;go_fit Q.o;rintro e a6 (⟨d1,n1,sv,l1,rfl,hc,W,ho,c0,hd,hm,X,e9⟩|⟨q,rfl,hq,hm⟩);rotate_left
   .exact⟨rfl,.inr ⟨_,rfl,Z.o _ (.Ti hC hq),d4.o.t hm⟩⟩
   obtain⟨e6,e5,rfl⟩:=X.form;have c1:=hd.XP;have I:=X1 hc;have a5:=X1 ho;have E:=X1 hd;have N:=X1 (d4.o.t hm);have d5:=X1 (e3.o.mv hm B (X5 _));have d6:=X1 X;have V:=X1 (show m<=(X2 d1).p from by have:=K.o;simp at c0⊢;omega)
   have HA:=X1 (show ∀q,(Value.l j.heap.size 1 1).ownBlock=some q->q<(j.z #[.iface tv uv] 44).heap.size/\w0.heap.size<=q from fun q e=>by cases e;exact⟨by rw[hz];exact Q9 _,e4⟩);have e7:t.p+1<=d1.p:=c0;clear hc ho hd hm X Q c0;go_wp2_with(at_builtin;refine Y3o rfl _ _ rfl w0.heap.size (j.z #[.iface tv uv] 44).heap.size 1 n1 w0.heap.size (.l j.heap.size 1 1) (.slice e6 n1 e5) l l1 d5.o d6.o (by rw[hz];omega) N.o.size HA.o N.o.size (by omega) (by omega) rfl rfl ?_);intro v f0 X hb;obtain⟨sq,sd,rfl⟩:=X.form;have HS:=X1 X;have c6:=X1 (E.o.fresh hb B);have d2:=X1 (N.o.fresh hb (X5 _));have c9:=X1 V.o;clear X hb d5 d6 HA;go_wp2_with fail;go_fit(upN (12) (0) (0) ⟨#[]⟩ HS c6 d2);rintro e e1⟨rfl,b2,a7,d3⟩;have a8:=X1 (show IP b tp tc ts sz (X9 (X2 d1) 12 0 0 [] (1+n1)).p e1 from a7.o);have a9:=X1 (show m<=(X9 (X2 d1) 12 0 0 [] (1+n1)).p from c9.o);have b0:=X1 (show Ip.left b ts e1<Ip.left b ts b3 from by rw[a7.o.left,HL.o];have:=a7.o.le;simp at *;omega)
   go_wp2;go_roundw
   case rel=>exact⟨X9 (X2 d1) 12 0 0 [] (1+n1),_,b2.o,W,by simp[X9,a5.o,HO.o],a9.o,a8.o,d3.o,fun r h=>b4.o _ (.GH (r1:=(X2 d1,n1)) A hC I.o h),fun q h=>Z.o _ (.call2 (r1:=(X2 d1,n1)) hC I.o h)⟩
   case measure=>exact b0.o
  go_wp2_with fail;go_fit(upB a1 (K.o) (XK (s:=t) a0.o A [91] #[91] rfl hI));rintro e c3⟨rfl,hm,y,F,L⟩;have a:=X1 (g.o.mv hm.o B (X5 _));clear g;go_wp2_with fail;go_fit(upB F (L.o) (XK (s:=t) y.o A [46] #[46] rfl hD));rintro e c4⟨rfl,hm,C,H,M⟩;have d:=X1 (a.o.mv hm.o B (X5 _));clear a;go_wp2_with fail;go_fit(upB H (M.o) (XK (s:=t) C.o A [40] #[40] rfl hC));rintro e j⟨rfl,hm,J,u,U⟩;have k:=X1 (d.o.mv hm.o B (X5 _));clear d;go_wp2;go_ret;exact .inl ⟨(t,0),_,l,rfl,b4.o _ (.Pc A hC hI hD),A,HO.o,J.o,u.o,k.o⟩
theorem X3e{b tc sz m:Nat}{tp:Option Addr}{ts:List Sc.T}{s:Pr.Dk}(hi:X4 ts sz s XM=true)(b1:m<=(X2 s).p)(X:∀q:Pr.Dk,m<=q.p->q.p<=ts.length->q.bad=false->Ip.DE b tp tc ts sz q): Ip.Jr b tp tc ts sz 142 #[.p b] .e s (X2 s):=by
 intro w0 k;have W:=k.lt;have b2:=k.XP;have J:=X1 k;have O:=X1 (Ip.Mv.refl b w0);have a3:=X1 (show m<=(X2 s).p from b1);have a:(X2 s).bad=false:=(Ki hi:s.bad=false);clear k;go_enter func142,ntmps142;cases r:((X3 ts sz (X2 s)).kind==1)
 case false=>
  go_wp2_with fail;go_fit(Uo (s:=X2 s) J.o 1 (by simpa using r));rintro e w⟨rfl,hm⟩;have V:=Pr.Bd.Ur (ts:=ts) (sz:=sz) (s:=X2 s) a (by rw[QA a];exact r);exact⟨rfl,.inr ⟨_,rfl,.Oz hi (V.X7 _).e,O.o.t hm⟩⟩
 have I:K2 ts sz (X2 s)=true:=by rw[QA a];exact r
 go_wp2_with fail;go_fit(upI O (Nat.le_succ_of_le a3.o) (JA (s:=X2 s) J.o 1 (by decide) (by simpa using r)));rintro e w1⟨rfl,hm,K,Q,a4⟩;have b4:=U7 (X3 ts sz (X2 s)).kind (X3 ts sz (X2 s)).n (X3 ts sz (X2 s)).place ⟨(X3 ts sz (X2 s)).text.toArray⟩;unfold XB;cases u:X4 ts sz (X2 (X2 s)) [61]
 case false=>
  go_wp2_with fail;go_fit(ZX (s:=X2 (X2 s)) K.o a [61] #[61] rfl u);rintro e w⟨rfl,hm⟩;have V:=Pr.Bd.Zw (ts:=ts) (sz:=sz) (s:=X2 (X2 s)) a u;exact⟨rfl,.inr ⟨_,rfl,.Oz hi (by rw[Jw I];exact V.e),Q.o.t hm⟩⟩
 go_wp2_with fail;go_fit(upI Q (Nat.le_succ_of_le a4.o) (ZY (s:=X2 (X2 s)) K.o [61] #[61] rfl u));rintro e w2⟨rfl,hm,y,B,M⟩;have Z:=X1 (show Xd ts sz (Xm ts sz (X2 s)) [61]=X2 (X2 (X2 s)) by rw[Jw I,Yw u]);go_wp2_with fail;go_fit(upE (X (X2 (X2 (X2 s))) M.o y.o.le a _ y.o) B M y (B.o.size));rintro e w3 (⟨r1,t1,u1,l1,rfl,v,H,a7,hm,L,S,a5,d⟩|⟨q,rfl,hq,hm⟩);rotate_left
 .exact⟨rfl,.inr ⟨_,rfl,.Oz hi (by rw[Z.o];exact hq),B.o.t hm⟩⟩
 cases j:X4 ts sz (r1.1) Y1
 case false=>
  go_wp2_with fail;go_fit(ZX (s:=r1.1) L.o H Y1 #[105,110] rfl j);rintro e w⟨rfl,hm⟩;have V:=Pr.Bd.Zw (ts:=ts) (sz:=sz) (s:=r1.1) H j;exact⟨rfl,.inr ⟨_,rfl,.Bl hi (by rw[Z.o];exact v.o) V.e,S.o.t hm⟩⟩
 go_wp2_with fail;go_fit(upI S (Nat.le_succ_of_le a5.o) (ZY (s:=r1.1) L.o Y1 #[105,110] rfl j));rintro e w4⟨rfl,hm,A,C,N⟩;have g:=X1 (d.o.mv hm.o W (X5 _));clear d;go_wp2_with fail;go_fit(upE (X (X2 (r1.1)) N.o A.o.le H _ A.o) C N A (C.o.size));rintro e w5 (⟨r2,t2,u2,l2,rfl,a0,b0,a8,hm,a1,U,b3,F⟩|⟨q,rfl,hq,hm⟩);rotate_left
 .exact⟨rfl,.inr ⟨_,rfl,.Bl hi (by rw[Z.o];exact v.o) (by rw[Yw j];exact hq),C.o.t hm⟩⟩
 have E:=X1 (g.o.mv hm.o W (X5 _));clear g;go_wp2_with fail;go_fit(upM (14) (0) (0) ⟨(X3 ts sz (X2 s)).text.toArray⟩ 2 (Ip.LO E.o F.o) rfl a1 U (U.o.size));rintro e w6⟨rfl,a9,a2,a6⟩;go_wp2;go_ret;exact .inl ⟨(X9 r2.1 14 0 0 (Xe ts sz (X2 s)) 2,0),_,_,rfl,.DW hi (by rw[Z.o];exact v.o) (by rw[Yw j];exact a0.o),b0,by simp[X9,a7.o,a8.o,UB I],a2.o,a6.o,a9.o⟩
theorem X3c{b tc sz m:Nat}{tp:Option Addr}{ts:List Sc.T}{s:Pr.Dk}(hi:X4 ts sz s XR=true)(b4:m<=(X2 s).p)(Q:∀q:Pr.Dk,m<=q.p->q.p<=ts.length->q.bad=false->Ip.DE b tp tc ts sz q): Ip.Jr b tp tc ts sz 143 #[.p b] .e s (X2 s):=by
 intro w0 A;have d:=A.lt;have b5:=A.XP;have C:=X1 A;have H:=X1 (Ip.Mv.refl b w0);have V:=X1 (show m<=(X2 s).p from b4);have a2:(X2 s).bad=false:=(Ki hi:s.bad=false);clear A;go_enter func143,ntmps143;go_wp2_with fail;go_fit(upE (Q (X2 s) V.o C.o.le a2 _ C.o) H V C (H.o.size));rintro e w1 (⟨r1,t1,u1,l1,rfl,g,N,a9,hm,S,Z,a6,j⟩|⟨q,rfl,hq,hm⟩);rotate_left
 .exact⟨rfl,.inr ⟨_,rfl,.if1 hi hq,H.o.t hm⟩⟩
 cases a:X4 ts sz (r1.1) Qi
 case false=>
  go_wp2_with fail;go_fit(ZX (s:=r1.1) S.o N Qi #[116,104,101,110] rfl a);rintro e w⟨rfl,hm⟩;have hB:=Pr.Bd.Zw (ts:=ts) (sz:=sz) (s:=r1.1) N a;exact⟨rfl,.inr ⟨_,rfl,.if2 hi g.o hB.e,Z.o.t hm⟩⟩
 go_wp2_with fail;go_fit(upI Z (Nat.le_succ_of_le a6.o) (ZY (s:=r1.1) S.o Qi #[116,104,101,110] rfl a));rintro e w2⟨rfl,hm,E,I,W⟩;have k:=X1 (j.o.mv hm.o d (X5 _));clear j;go_wp2_with fail;go_fit(upE (Q (X2 (r1.1)) W.o E.o.le N _ E.o) I W E (I.o.size));rintro e w3 (⟨r2,t2,u2,l2,rfl,B,O,b0,hm,U,a0,a7,u⟩|⟨q,rfl,hq,hm⟩);rotate_left
 .exact⟨rfl,.inr ⟨_,rfl,.if2 hi g.o (by rw[Yw a];exact hq),I.o.t hm⟩⟩
 have n:=X1 (k.o.mv hm.o d (X5 _));clear k;cases y:X4 ts sz (r2.1) Qq
 case false=>
  go_wp2_with fail;go_fit(ZX (s:=r2.1) U.o O Qq #[101,108,115,101] rfl y);rintro e w⟨rfl,hm⟩;have hB:=Pr.Bd.Zw (ts:=ts) (sz:=sz) (s:=r2.1) O y;exact⟨rfl,.inr ⟨_,rfl,.if3 hi g.o (by rw[Yw a];exact B.o) hB.e,a0.o.t hm⟩⟩
 go_wp2_with fail;go_fit(upI a0 (Nat.le_succ_of_le a7.o) (ZY (s:=r2.1) U.o Qq #[101,108,115,101] rfl y));rintro e w4⟨rfl,hm,F,J,X⟩;have r:=X1 (n.o.mv hm.o d (X5 _));have v:=X1 (u.o.mv hm.o d (X5 _));clear n;clear u;go_wp2_with fail;go_fit(upE (Q (X2 (r2.1)) X.o F.o.le O _ F.o) J X F (J.o.size));rintro e w5 (⟨r3,t3,u3,l3,rfl,a3,b3,b1,hm,a4,a1,b6,M⟩|⟨q,rfl,hq,hm⟩);rotate_left
 .exact⟨rfl,.inr ⟨_,rfl,.if3 hi g.o (by rw[Yw a];exact B.o) (by rw[Yw y];exact hq),J.o.t hm⟩⟩
 have K:=X1 (r.o.mv hm.o d (X5 _));have L:=X1 (v.o.mv hm.o d (X5 _));clear r;clear v;go_wp2_with fail;go_fit(upM (13) (0) (0) ⟨#[]⟩ 3 (Ip.Y1j K.o L.o M.o) rfl a4 a1 (a1.o.size));rintro e w6⟨rfl,b2,a5,a8⟩;go_wp2;go_ret;exact .inl ⟨(X9 r3.1 13 0 0 [] 3,0),_,_,rfl,.IQ (Yc hi (by decide)) hi g.o (by rw[Yw a];exact B.o) (by rw[Yw y];exact a3.o),b3,by simp[X9,a9.o,b0.o,b1.o],a5.o,a8.o,b2.o⟩
section
variable {ts:List Sc.T} {sz:Nat} {s:Pr.Dk} {q:Nat}
def Ip.cmd(r:Nat):Zb:=if r=0 then .e else .ops r
def Ip.lo(r:Nat):Nat:=if r=0 then 1 else r
def Ip.hi(k:Nat):Nat:=if 7<=k then 6 else if k=4 then 3 else k
theorem Ip.Vf(r:Nat):1<=Ip.lo r/\r<=Ip.lo r/\(r<=7->Ip.lo r<=7)/\(r<=3->Ip.lo r<=3):=by unfold Ip.lo;split<;>omega
theorem Ip.A8{r:Nat}(h:Pr.Ends ts sz (.ops (Ip.lo r)) s q)(a:r=0->X4 ts sz s XM=false/\X4 ts sz s XR=false/\X4 ts sz s Zz=false):Pr.Ends ts sz (Ip.cmd r) s q:=by
 unfold Ip.cmd Ip.lo at *;by_cases e:r=0
 .simp only[e,Kv]at h⊢;exact .VP (a e).1 (a e).2.1 (a e).2.2 h
 .simp only[e,Kl]at h⊢;exact h
theorem Ip.SW{r:Nat}{m:Pr.Dk × Nat}(h:Pr.Cv ts sz (.ops (Ip.lo r)) s m)(a:r=0->X4 ts sz s XM=false/\X4 ts sz s XR=false/\X4 ts sz s Zz=false):Pr.Cv ts sz (Ip.cmd r) s m:=by
 unfold Ip.cmd Ip.lo at *;by_cases e:r=0
 .simp only[e,Kv]at h⊢;exact .VP (a e).1 (a e).2.1 (a e).2.2 h
 .simp only[e,Kl]at h⊢;exact h
def Ip.Kg(ts:List Sc.T)(sz:Nat)(least k:Nat)(s:Pr.Dk)(t:Pr.Dk):Prop:=∀u,Pr.Lv ts sz (ZR (Ip.hi k) (Ip.lo least)) t u->∃q,Pr.Cv ts sz (Ip.cmd least) s q/\q.1=u
theorem Ip.Kg.open{r:Pr.Dk × Nat}(h:Pr.Cv ts sz .e s r):Ip.Kg ts sz 0 0 s r.1:=fun u a=>⟨r,h,(show u=r.1 from a).symm⟩
theorem Ip.Kg.not{a:Nat}{m:Pr.Dk × Nat}(n:s.bad=false)(r:a<=3)(d:X4 ts sz s Zk=true)(h:Pr.Cv ts sz (.ops 3) (X2 s) m):Ip.Kg ts sz a 3 s (X9 m.1 6 1 0 [] 1):=by
 intro u k;have j:=Ip.Vf a;have e:ZR (Ip.hi 3) (Ip.lo a)=ZR 2 (Ip.lo a):=by
  have g:∀l:Fin 8,ZR (Ip.hi 3) l.val=ZR 2 l.val:=by decide
  exact g ⟨Ip.lo a,by omega⟩
 rw[e]at k;obtain⟨q,v,y⟩:=Pr.Lv.C5 n d h (Ip.lo a) j.1 (j.2.2.2 r) k;exact⟨q,Ip.SW v (fun _=>⟨Yc d (by decide),Yc d (by decide),Yc d (by decide)⟩),y⟩
theorem Ip.Kg.high{a k:Nat}{m:Pr.Dk × Nat}(n:s.bad=false)(v:a<=7)(r:7<=k)(y:a<=3->X4 ts sz s Zk=false)(j:a=0->X4 ts sz s XM=false/\X4 ts sz s XR=false/\X4 ts sz s Zz=false)(h:Pr.Cv ts sz (.ops 7) s m):Ip.Kg ts sz a k s m.1:=by
 intro u g;have d:=Ip.Vf a;have e:Ip.hi k=6:=by unfold Ip.hi;rw[Xa r]
 rw[e]at g;obtain⟨q,A,B⟩:=Pr.Lv.ops n h (Ip.lo a) d.1 (d.2.2.1 v) (fun C=>y (by have:=d.2.1;omega)) g;exact⟨q,Ip.SW A j,B⟩
theorem Ip.A9{a:Nat}(g:s.bad=false)(j:a<=3)(d:X4 ts sz s Zk=true)(h:Pr.Ends ts sz (.ops 3) (X2 s) q):Pr.Ends ts sz (Ip.cmd a) s q:=Ip.A8 (.Xcr g d h (Ip.Vf a).1 ((Ip.Vf a).2.2.2 j)) (fun _=>⟨Yc d (by decide),Yc d (by decide),Yc d (by decide)⟩)
theorem Ip.WK{a:Nat}(g:s.bad=false)(j:a<=7)(k:a<=3->X4 ts sz s Zk=false)(d:a=0->X4 ts sz s XM=false/\X4 ts sz s XR=false/\X4 ts sz s Zz=false)(h:Pr.Ends ts sz (.ops 7) s q):Pr.Ends ts sz (Ip.cmd a) s q:=Ip.A8 (.Xcq g h (Ip.Vf a).1 ((Ip.Vf a).2.2.1 j) (fun m=>k (by have:=(Ip.Vf a).2.1;omega))) d
theorem Ip.GJ{o:Nat}(a:1<=o)(d:o<=14):1<=Xi o/\Xi o<=6:=by
 have g:=RJ a d;simp only[Kr,QU,J7]at g;omega
theorem Ip.Kg.stop{a k o:Nat}{t:Pr.Dk}(h:Ip.Kg ts sz a k s t)(m:t.bad=false)(y:k<=8)(n:Ip.Z5 (X3 ts sz t) o)(g:o=0\/Xi o<a\/k<(if Xi o=4 then 5 else Xi o)):∃q,Pr.Cv ts sz (Ip.cmd a) s q/\q.1=t:=by
 refine h t (Pr.Lv.stop (fun r j d=>?_));rcases n with⟨o1,o2,o3⟩|⟨_,o2⟩
 .rw[←Dx m]at o3;refine(Ms o1 o2 o3).2 r (fun e=>?_);have v:=(Ip.Vf a).2.1;rcases g with g|g|g
  .omega
  .omega
  .unfold Ip.hi at d;subst e;have u:Xi o<=6:=(Ip.GJ o1 o2).2;split at g<;>split at d<;>(try split at d)<;>omega
 .exact Fe (fun x j d=>by rw[Dx m];exact o2 x j d) r
theorem Ip.Kg.step{a k o:Nat}{t:Pr.Dk}{m:Pr.Dk × Nat}(h:Ip.Kg ts sz a k s t)(d:1<=o)(g:o<=14)(y:X4 ts sz t (Yd o)=true)(F:a<=Xi o)(v:(if Xi o=4 then 5 else Xi o)<=k)(n:Pr.Cv ts sz (.ops (Xi o+1)) (X2 t) m):Ip.Kg ts sz a (Xi o) s (X9 m.1 7 o 0 [] 2):=by
 intro u B;have j:=Ms d g y;have A:=RJ d g;have E:Xi o<=6:=(Ip.GJ d g).2;have C:1<=Xi o:=(Ip.GJ d g).1;refine h u (Pr.Lv.step (r:=Xi o) (m:=m) A (by unfold Ip.lo;split<;>omega) ?_ (by rw[j.1];omega) j.2 n ?_)
 .unfold Ip.hi;split at v<;>split<;>(try split)<;>omega
 .rw[j.1];have e:Ip.hi (Xi o)=(if Xi o=4 then 3 else Xi o):=by unfold Ip.hi;rw[X6 (by omega)]
  rw[←e];exact B
theorem Ip.Kg.ends{a k o:Nat}{t:Pr.Dk}(h:Ip.Kg ts sz a k s t)(d:1<=o)(g:o<=14)(A:X4 ts sz t (Yd o)=true)(y:a<=Xi o)(v:(if Xi o=4 then 5 else Xi o)<=k)(u:Pr.Ends ts sz (.ops (Xi o+1)) (X2 t) q):Pr.Ends ts sz (Ip.cmd a) s q:=by
 obtain⟨m,B,n⟩:=u.get;have j:Pr.Bd q (X9 m.1 7 o 0 [] 2):=n;obtain⟨r,r1,r2⟩:=(h.step d g A y v B) _ (Pr.Lv.bad j.1 _);exact .of r1 (by rw[r2];exact j)
