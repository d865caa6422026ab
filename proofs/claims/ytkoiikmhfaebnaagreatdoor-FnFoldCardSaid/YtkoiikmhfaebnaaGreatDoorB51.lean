import Derived.Test.YtkoiikmhfaebnaaGreatDoorB46
set_option maxHeartbeats 4000000
set_option maxRecDepth 100000
namespace Go.Proofs.YtkoiikmhfaebnaaGreatDoor
open Go.Proofs.Tryz Go.RowKit
theorem Fd.MV{B:Nat->Prop}{w:World}:∀(m:Nat) {l:List Fd} {c:List Value},Fd.Pt.ptL B w l c->Fd.Pt.ptL B w (l.drop m) (c.drop m)
 | 0,_,_,h=>h
 | _+1,[],c,h=>by rw[(Fd.Qh w c).1 h];exact(Fd.Qh _ _).2 rfl
 | m+1,t::r,c,h=>by
  obtain⟨a,s,rfl,_,d⟩:=(Fd.Ka w t r c).1 h;exact Fd.MV m d
theorem Fd.EE{B:Nat->Prop}{w:World}:∀(m:Nat) {l:List Fd} {c:List Value},Fd.Pt.ptL B w l c->Fd.Pt.ptL B w (l.take m) (c.take m)
 | 0,_,_,_=>by rw[P4,P4];exact(Fd.Qh _ _).2 rfl
 | _+1,[],c,h=>by rw[(Fd.Qh w c).1 h];exact(Fd.Qh _ _).2 rfl
 | m+1,t::r,c,h=>by
  obtain⟨a,s,rfl,d,g⟩:=(Fd.Ka w t r c).1 h;exact(Fd.Ka _ _ _ _).2 ⟨a,s.take m,rfl,d,Fd.EE m g⟩
theorem Ez{ns:List Nd}{i m k:Nat}{op:List Nat}{zs:List Value}{w wr d l:World}{v s sm:Value}{y:TypeId}{z:Value}(r:BL w wr)(n:BL wr d)(B:Fd.Pt (fun q=>(w.heap.size+1<=q/\q<d.heap.size)/\v.ownBlock≠some q) d (Fd.tk ns i) (.iface y z))(C:Fd.Pt.ptL (fun q=>(w.heap.size+1<=q/\q<wr.heap.size)/\v.ownBlock≠some q) wr (op.map (Fd.tk ns)) zs)(t:wr.ownsRow (w.heap.size+1) 44 1 v op.length zs)(K:op.length=m+k)(u:∀q,sm.ownBlock=some q->v.ownBlock=some q)(F:l.ownsRow (w.heap.size+1) 44 1 s (m+1) (zs.take m++[.iface y z]))(E:(d.alloc (.cells #[.iface y z] 44)).grownBy l sm.ownBlock)(D:s.ownBlock=sm.ownBlock\/s.ownBlock=some (d.heap.size+1)): Below w.heap.size w l/\w.heap.size<l.heap.size/\l.ownsRow (w.heap.size+1) 44 1 s (op.take m++[i]).length (zs.take m++[.iface y z])/\Fd.Pt.ptL (fun q=>(w.heap.size+1<=q/\q<l.heap.size)/\s.ownBlock≠some q) l ((op.take m++[i]).map (Fd.tk ns)) (zs.take m++[.iface y z]):=by
 have H:=E.size;rw[Xb]at H;have I:=r.size;have J:=n.size;have c:∀q,q<d.heap.size->sm.ownBlock≠some q->l.heap[q]?=d.heap[q]?:=fun q a b=>(E.block q (by rw[Xb];omega) (fun e=>b e.symm)).trans (((X5 d.heap.size d).alloc (X4 _) _).block q a);have j:∀q,q<d.heap.size->sm.ownBlock≠some q->s.ownBlock≠some q:=fun q a b e=>by
  rcases D with A|A
  .exact b (A ▸ e)
  .rw[A]at e;have:=YD e;omega
 have g:∀q,v.ownBlock≠some q->sm.ownBlock≠some q:=fun q a e=>a (u q e);refine⟨?_,by omega,?_,?_⟩
 .exact(((r.trans (n.mono r.size))).alloc (by omega) _).grown E (by rw[Xb];omega) (fun q e=>by have:=(t.lt q (u q e)).1;omega)
 .have:(op.take m++[i]).length=m+1:=by rw[Xo,YM,JE,QL (by omega)]
  rw[this];exact F
 .rw[ZO,J7];refine Fd.RT ?_ ?_
  .exact Fd.QW (fun q e=>⟨⟨e.1.1,by have:=e.1.2;omega⟩,j q (by have:=e.1.2;omega) (g q e.2)⟩) (fun q e=>(c q (by have:=e.1.2;omega) (g q e.2)).trans (n.block q e.1.2)) (Fd.EE m C)
  .exact Fd.Pt.go B (fun q e=>⟨⟨e.1.1,by have:=e.1.2;omega⟩,j q e.1.2 (g q e.2)⟩) (fun q e=>c q e.1.2 (g q e.2))
theorem Xez(ns:List Nd)(tg tc:Nat)(w:World)(hn:ns.length<=5000)(h0:1<=ns.length)(b8:Kk ns=true)(ht:Yw w tg ns): Calls prog 15 #[.agg #[.slice (some ⟨tg,0,none⟩) ns.length tc]] w fun e w'=>∃v,e= .returned v/\Fd.Pt (fun q=>w.heap.size<=q/\q<w'.heap.size) w' (Fd.tk ns (ns.length-1)) v/\Below w.heap.size w w':=by
 obtain⟨iN,hN,f3,f2,f1⟩:=Yk Ri;have HT:=X1 ht;have e8:=X1 b8;have g8:Hid (BL w (w.alloc (.cells #[.slice (some ⟨tg,0,none⟩) ns.length tc] 25))):=X1 (bA _);have g9:Hid (w.heap.size<(w.alloc (.cells #[.slice (some ⟨tg,0,none⟩) ns.length tc] 25)).heap.size):=X1 (by simp);clear ht b8;go_enter func15,ntmps15;go_wp2_with fail;go_loopw[3,11] (fun ov iv wr=>∃(i:Nat) (kk:List (List Nat)) (op:List Nat) (zs:List Value),i<=ns.length/\iv= .int .i64 (i:Int)/\kk.length=i/\op.length<=i/\Xv ns 0 []=(kk++(Xv (ns.drop i) i op).1,(Xv (ns.drop i) i op).2)/\BL w wr/\w.heap.size<wr.heap.size/\wr.ownsRow (w.heap.size+1) 44 1 ov op.length zs/\Fd.Pt.ptL (fun q=>(w.heap.size+1<=q/\q<wr.heap.size)/\ov.ownBlock≠some q) wr (op.map (Fd.tk ns)) zs/\(0<i->∃r,op=r++[i-1])) (fun _ iv _=>ns.length-(intOf iv).toNat)
 case atStart=>exact⟨0,[],[],[],X6 _,rfl,rfl,X4 _,rfl,g8.o,g9.o,ZJ _ _ _ _,by simpa using(Fd.Qh _ _).2 rfl,fun h=>absurd h (Nat.lt_irrefl _)⟩
 case round=>
  obtain⟨i,kk,op,zs,hi,rfl,g0,h8,he,Y,j0,d1,g2,b9⟩:=hrel;have d5:=X1 b9;clear b9;have HE:=X1 he;have d2:=X1 Y;have y:=X1 d1;have L:=X1 g2;have a8:=X1 g0;clear he d1 g2 g0;obtain⟨a6,c,i1⟩:=YV y.o;subst i1;by_cases d0:i<ns.length
  .obtain⟨b0,b1,b2,b3,b4⟩:=HT.o.2 i d0;have a0:=(Y.cell (p:=⟨tg,i*5,none⟩) HT.o.1).trans b0;have a1:=(Y.cell (p:=⟨tg,i*5+1,none⟩) HT.o.1).trans b1;have a2:=(Y.cell (p:=⟨tg,i*5+2,none⟩) HT.o.1).trans b2;have a3:=(Y.cell (p:=⟨tg,i*5+3,none⟩) HT.o.1).trans b3;have a4:=(Y.cell (p:=⟨tg,i*5+4,none⟩) HT.o.1).trans b4;have a5:¬(ns[i].kids<0\/(op.length:Int)<ns[i].kids):=by
    intro f6;have:=(D7 HE.o (Pn ns i d0 op f6)).2;have hg:=e8.o;unfold Kk at hg;rw[this]at hg;cases hg
   have d4:=Po ns i d0 op;have c9:Hid (ns[i]=ns[i]):=X1 rfl;obtain⟨xx,e5⟩:∃xx,xx=ns[i]:=⟨_,rfl⟩;rw[←e5]at a0 a1 a2 a3 a4 a5 d4;have c9:=X1 e5;clear e5 b0 b1 b2 b3 b4 Y;obtain⟨A,J,I,K,xd⟩:=xx;have a5:¬(xd<0\/(op.length:Int)<xd):=a5;obtain⟨k,rfl⟩:∃k:Nat,xd=k:=⟨xd.toNat,by omega⟩;obtain⟨m,hm⟩:∃m,op.length=m+k:=⟨op.length-k,by omega⟩;have f0:=d4 k m rfl hm;have d3:Hid (Xv ns 0 []=((kk++[op.drop m])++(Xv (ns.drop (i+1)) (i+1) (op.take m++[i])).1,(Xv (ns.drop (i+1)) (i+1) (op.take m++[i])).2)):=X1 (by rw[HE.o,f0];simp);have e1:Xc ns=kk++(op.drop m::(Xv (ns.drop (i+1)) (i+1) (op.take m++[i])).1):=by unfold Xc;rw[d3.o];simp
   have e0:i<(Xc ns).length:=by rw[e1,Xo,a8.o,Ya];omega
   have f9:(Xc ns)[i]=op.drop m:=by
    have h1:(Xc ns)[i]?=some (op.drop m):=by rw[e1,K6 (by rw[a8.o];omega),a8.o,WC];rfl
    rw[YH e0]at h1;exact YD h1
   have d8:Hid (Fd.tk ns i= .mk ns[i] i (Tr.bOf (Yl ns) i) ((op.drop m).map (Fd.tk ns))):=X1 (by rw[Fd.Y3x d0 e0,f9]);have HM:=X1 hm;have i8:m+k<=i:=by omega
   have e6:=Fd.MW L.o;rw[Z9]at e6;have b6:Hid ((zs.drop m).length=k):=X1 (by rw[YA,e6];omega);have d9:Hid (∀u∈zs.drop m,u.oneCell'=true):=X1 (fun u hu=>Fd.RR L.o u (KQ hu));have d6:Hid (∀q,(Value.slice a6 op.length c).ownBlock=some q->w.heap.size+1<=q/\q<wr.heap.size):=X1 (fun q e=>y.o.lt q e);have ew:IntKind.i64.wrap (((m+k:Nat):Int)-(k:Int))=(m:Int):=by rw[Yt];omega
   have i7:IntKind.i64.wrap ((m:Int)+(k:Int)-(k:Int))=(m:Int):=by rw[Yt];omega
   have f5:BL wr (wr.alloc (VE A J I k K)):=bA _;have E:=X1 f5;have X:=X1 (XM wr (VE A J I k K));have l:Hid (wr.heap.size<(wr.alloc (VE A J I k K)).heap.size):=X1 (by simp);have d:=y.o;rw[hm]at d;clear a5 d4 f0 e1 e0 f9 HE e6 f5 h8;rw[hm];go_upto_region 6 with fail;generalize f4:wr.alloc (VE A J I k K)=W1 at *;obtain⟨x0,x1,x2,x3,x4⟩:=Wh X.o;go_cut[7]from 20 to 25 (fun v7 wx=>∃t7 u7,v7= .iface t7 u7/\Fd.Pt (fun q=>(w.heap.size+1<=q/\q<wx.heap.size)/\(Value.slice a6 op.length c).ownBlock≠some q) wx (Fd.tk ns i) (.iface t7 u7)/\BL wr wx)
   case first=>
    rcases d.2 with⟨Q,c8⟩|⟨H,c5,h3,D,_⟩
    .obtain⟨rfl,hz,rfl⟩:a6=none/\m+k=0/\c=0:=by simpa using Q
     obtain rfl:m=0:=by omega
     obtain rfl:k=0:=by omega
     clear Q c8 d f4;have b5:Hid (GZ W1.drew none (zs.drop 0)):=X1 (.inl (JC b6.o));go_region_held3 (fun W=>W.cell? ⟨wr.heap.size,0,none⟩=some (.int .i64 A)/\W.cell? ⟨wr.heap.size,1,none⟩=some (.int .i64 J)/\W.cell? ⟨wr.heap.size,2,none⟩=some (.int .i64 I)/\W.cell? ⟨wr.heap.size,3,none⟩=some (.string K)/\W.cell? ⟨wr.heap.size,4,none⟩=some (.int .i64 (0:Int))) (go_keep) (first
      | (refine Z8 rfl 66 [.tmp 23] _ rfl [.slice none 0 0] (by first|(simp[Act.eval];done)|simp[Act.eval,Act.put]) f66 func66 (by kernel_rfl) (by kernel_rfl) (fun r w5=>∃n c5,r= .slice n 0 c5/\w5.ownsRow W1.heap.size 44 1 (.slice n 0 c5) 0 (zs.drop 0)/\BL W1 w5) ((M3 (zs.drop 0) none 0 0 W1.drew b6.o (by omega) d9.o b5.o).mono (fun _ _ ⟨v,y1,V,y3⟩=>by obtain⟨n,c5,y4⟩:=YV V;subst y4;exact⟨_,y1,n,c5,rfl,V,Ue y3⟩)) ?_;rintro r w5⟨n,c5,rfl,C,a⟩;obtain⟨y0,y1,V,y3,y4⟩:=Wh ((a.block wr.heap.size l.o).trans X.o))
      | (refine Z8 rfl 65 [.tmp 20,.tmp 24] _ rfl [.agg #[.int .i64 A,.int .i64 J,.int .i64 I,.string K,.int .i64 (0:Int)],.slice n 0 c5] (by first|(simp[Act.eval];done)|simp[Act.eval,Act.put]) f65 func65 (by kernel_rfl) (by kernel_rfl) (fun r w6=>r= .iface (Ip.ty A) (.agg #[.int .i64 A,.int .i64 J,.int .i64 I,.string K,.int .i64 (0:Int),.slice n 0 c5])/\BL w5 w6) ((Um A J I 0 K n 0 c5 w5).mono (fun _ _ ⟨y1,V⟩=>⟨_,y1,rfl,V⟩)) ?_;rintro r w6⟨rfl,g⟩;obtain⟨v0,v1,v2,v3,v4⟩:=Wh ((g.block wr.heap.size (Xd l.o a.size)).trans ((a.block wr.heap.size l.o).trans X.o))))
     all_goals
      have g6:=a.size;have g7:=g.size;have M:=E.o.trans ((a.trans (g.mono a.size)).mono E.o.size);have S:Fd.Pt (fun q=>(w.heap.size+1<=q/\q<w6.heap.size)/\(Value.slice none op.length 0).ownBlock≠some q) w6 (Fd.tk ns i) (.iface (Ip.ty A) (.agg #[.int .i64 A,.int .i64 J,.int .i64 I,.string K,.int .i64 (0:Int),.slice n 0 c5])):=by
       rw[d8.o];have P:((op.drop 0).map (Fd.tk ns)).length=(0:Nat):=by have h9:=HM.o;rw[Z9,YA];omega
       refine(Fd.Q2 _ _ _ _ _ _ _).2 ⟨.slice n 0 c5,zs.drop 0,by rw[P,←c9.o];rfl,by rw[P];exact Qj (KJ C g) (fun _ _=>X6 _) (fun _ _=>rfl),fun q e=>?_,?_⟩
       .have hl:=C.lt q e;have g4:=l.o;exact⟨⟨by omega,by omega⟩,fun e2=>by have:=(d6.o q e2).2;omega⟩
       .rw[QB];exact Fd.QW (fun q e=>⟨⟨e.1.1,by have:=e.1.2;have:=l.o;omega⟩,e.2⟩) (fun q e=>by have h1:=e.1.2;have h2:=l.o;exact(g.block q (by omega)).trans ((a.block q (by omega)).trans (E.o.block q h1))) (Fd.MV 0 L.o)
      have a9:=X1 S;have a7:=X1 M;clear S M a g C;go_wp2_with fail;go_meet
      case rel=>exact⟨_,_,rfl,a9.o,a7.o⟩
    .obtain⟨rfl,rfl⟩:a6=some ⟨H,0,none⟩/\c=c5:=by simpa using D
     have f7:=(Vl.Qx d).1;have h7:=d.lt H rfl;clear D f4;by_cases h6:c=m
     .subst h6;obtain rfl:k=0:=by omega
      have b5:Hid (GZ W1.drew (some ⟨H,0,none⟩) (zs.drop c)):=X1 (.inl (JC b6.o));go_region_held3 (fun W=>W.cell? ⟨wr.heap.size,0,none⟩=some (.int .i64 A)/\W.cell? ⟨wr.heap.size,1,none⟩=some (.int .i64 J)/\W.cell? ⟨wr.heap.size,2,none⟩=some (.int .i64 I)/\W.cell? ⟨wr.heap.size,3,none⟩=some (.string K)/\W.cell? ⟨wr.heap.size,4,none⟩=some (.int .i64 (0:Int))) (go_keep) (first
       | (refine Z8 rfl 66 [.tmp 23] _ rfl [.slice (some ⟨H,0,none⟩) 0 (c-c)] (by first|(simp[Act.eval];done)|simp[Act.eval,Act.put]) f66 func66 (by kernel_rfl) (by kernel_rfl) (fun r w5=>∃n c5,r= .slice n 0 c5/\w5.ownsRow W1.heap.size 44 1 (.slice n 0 c5) 0 (zs.drop c)/\BL W1 w5) ((M3 (zs.drop c) (some ⟨H,0,none⟩) 0 (c-c) W1.drew b6.o (by omega) d9.o b5.o).mono (fun _ _ ⟨v,y1,V,y3⟩=>by obtain⟨n,c5,y4⟩:=YV V;subst y4;exact⟨_,y1,n,c5,rfl,V,Ue y3⟩)) ?_;rintro r w5⟨n,c5,rfl,C,a⟩;obtain⟨y0,y1,V,y3,y4⟩:=Wh ((a.block wr.heap.size l.o).trans X.o))
       | (refine Z8 rfl 65 [.tmp 20,.tmp 24] _ rfl [.agg #[.int .i64 A,.int .i64 J,.int .i64 I,.string K,.int .i64 (0:Int)],.slice n 0 c5] (by first|(simp[Act.eval];done)|simp[Act.eval,Act.put]) f65 func65 (by kernel_rfl) (by kernel_rfl) (fun r w6=>r= .iface (Ip.ty A) (.agg #[.int .i64 A,.int .i64 J,.int .i64 I,.string K,.int .i64 (0:Int),.slice n 0 c5])/\BL w5 w6) ((Um A J I 0 K n 0 c5 w5).mono (fun _ _ ⟨y1,V⟩=>⟨_,y1,rfl,V⟩)) ?_;rintro r w6⟨rfl,g⟩;obtain⟨v0,v1,v2,v3,v4⟩:=Wh ((g.block wr.heap.size (Xd l.o a.size)).trans ((a.block wr.heap.size l.o).trans X.o))))
      all_goals
       have g6:=a.size;have g7:=g.size;have M:=E.o.trans ((a.trans (g.mono a.size)).mono E.o.size);have S:Fd.Pt (fun q=>(w.heap.size+1<=q/\q<w6.heap.size)/\(Value.slice (some ⟨H,0,none⟩) op.length c).ownBlock≠some q) w6 (Fd.tk ns i) (.iface (Ip.ty A) (.agg #[.int .i64 A,.int .i64 J,.int .i64 I,.string K,.int .i64 (0:Int),.slice n 0 c5])):=by
        rw[d8.o];have P:((op.drop c).map (Fd.tk ns)).length=(0:Nat):=by have h9:=HM.o;rw[Z9,YA];omega
        refine(Fd.Q2 _ _ _ _ _ _ _).2 ⟨.slice n 0 c5,zs.drop c,by rw[P,←c9.o];rfl,by rw[P];exact Qj (KJ C g) (fun _ _=>X6 _) (fun _ _=>rfl),fun q e=>?_,?_⟩
        .have hl:=C.lt q e;have g4:=l.o;exact⟨⟨by omega,by omega⟩,fun e2=>by have:=(d6.o q e2).2;omega⟩
        .rw[QB];exact Fd.QW (fun q e=>⟨⟨e.1.1,by have:=e.1.2;have:=l.o;omega⟩,e.2⟩) (fun q e=>by have h1:=e.1.2;have h2:=l.o;exact(g.block q (by omega)).trans ((a.block q (by omega)).trans (E.o.block q h1))) (Fd.MV c L.o)
       have a9:=X1 S;have a7:=X1 M;clear S M a g C;go_wp2_with fail;go_meet
       case rel=>exact⟨_,_,rfl,a9.o,a7.o⟩
     .have i6:(m:Int)<=(m:Int)+(k:Int):=by omega
      have b5:Hid (GZ W1.drew (some ⟨H,m,none⟩) (zs.drop m)):=X1 (.inr ⟨H,m,rfl,by have:=l.o;show H<W1.heap.size;omega,fun j u hu=>by
       rw[Lr]at hu;exact((E.o.cell (p:=⟨H,m+j,none⟩) h7.2).trans (ZF y.o hu))⟩)
      go_region_held3 (fun W=>W.cell? ⟨wr.heap.size,0,none⟩=some (.int .i64 A)/\W.cell? ⟨wr.heap.size,1,none⟩=some (.int .i64 J)/\W.cell? ⟨wr.heap.size,2,none⟩=some (.int .i64 I)/\W.cell? ⟨wr.heap.size,3,none⟩=some (.string K)/\W.cell? ⟨wr.heap.size,4,none⟩=some (.int .i64 (k:Int))) (go_keep) (first
       | (refine Z8 rfl 66 [.tmp 23] _ rfl [.slice (some ⟨H,m,none⟩) k (c-m)] (by first|(simp[Act.eval];done)|simp[Act.eval,Act.put]) f66 func66 (by kernel_rfl) (by kernel_rfl) (fun r w5=>∃n c5,r= .slice n k c5/\w5.ownsRow W1.heap.size 44 1 (.slice n k c5) k (zs.drop m)/\BL W1 w5) ((M3 (zs.drop m) (some ⟨H,m,none⟩) k (c-m) W1.drew b6.o (by omega) d9.o b5.o).mono (fun _ _ ⟨v,y1,V,y3⟩=>by obtain⟨n,c5,y4⟩:=YV V;subst y4;exact⟨_,y1,n,c5,rfl,V,Ue y3⟩)) ?_;rintro r w5⟨n,c5,rfl,C,a⟩;obtain⟨y0,y1,V,y3,y4⟩:=Wh ((a.block wr.heap.size l.o).trans X.o))
       | (refine Z8 rfl 65 [.tmp 20,.tmp 24] _ rfl [.agg #[.int .i64 A,.int .i64 J,.int .i64 I,.string K,.int .i64 (k:Int)],.slice n k c5] (by first|(simp[Act.eval];done)|simp[Act.eval,Act.put]) f65 func65 (by kernel_rfl) (by kernel_rfl) (fun r w6=>r= .iface (Ip.ty A) (.agg #[.int .i64 A,.int .i64 J,.int .i64 I,.string K,.int .i64 (k:Int),.slice n k c5])/\BL w5 w6) ((Um A J I k K n k c5 w5).mono (fun _ _ ⟨y1,V⟩=>⟨_,y1,rfl,V⟩)) ?_;rintro r w6⟨rfl,g⟩;obtain⟨v0,v1,v2,v3,v4⟩:=Wh ((g.block wr.heap.size (Xd l.o a.size)).trans ((a.block wr.heap.size l.o).trans X.o))))
      all_goals
       have g6:=a.size;have g7:=g.size;have M:=E.o.trans ((a.trans (g.mono a.size)).mono E.o.size);have S:Fd.Pt (fun q=>(w.heap.size+1<=q/\q<w6.heap.size)/\(Value.slice (some ⟨H,0,none⟩) op.length c).ownBlock≠some q) w6 (Fd.tk ns i) (.iface (Ip.ty A) (.agg #[.int .i64 A,.int .i64 J,.int .i64 I,.string K,.int .i64 (k:Int),.slice n k c5])):=by
        rw[d8.o];have P:((op.drop m).map (Fd.tk ns)).length=(k:Nat):=by have h9:=HM.o;rw[Z9,YA];omega
        refine(Fd.Q2 _ _ _ _ _ _ _).2 ⟨.slice n k c5,zs.drop m,by rw[P,←c9.o];rfl,by rw[P];exact Qj (KJ C g) (fun _ _=>X6 _) (fun _ _=>rfl),fun q e=>?_,?_⟩
        .have hl:=C.lt q e;have g4:=l.o;exact⟨⟨by omega,by omega⟩,fun e2=>by have:=(d6.o q e2).2;omega⟩
        .rw[QB];exact Fd.QW (fun q e=>⟨⟨e.1.1,by have:=e.1.2;have:=l.o;omega⟩,e.2⟩) (fun q e=>by have h1:=e.1.2;have h2:=l.o;exact(g.block q (by omega)).trans ((a.block q (by omega)).trans (E.o.block q h1))) (Fd.MV m L.o)
       have a9:=X1 S;have a7:=X1 M;clear S M a g C;go_wp2_with fail;go_meet
       case rel=>exact⟨_,_,rfl,a9.o,a7.o⟩
   case rest=>
    obtain⟨t7,u7,rfl,g1,b7⟩:=hcut;have e9:=X1 g1;have e7:=X1 b7;have i9:=b7.size;clear g1;rcases d.2 with⟨Q,c8⟩|⟨H,c5,h3,D,_⟩
    .obtain⟨rfl,hz,rfl⟩:a6=none/\m+k=0/\c=0:=by simpa using Q
     obtain rfl:m=0:=by omega
     obtain rfl:k=0:=by omega
     have d7:Hid (wc.ownsRow (w.heap.size+1) 44 1 (.slice none 0 0) 0 (zs.take 0)):=X1 (ZJ _ _ _ _);clear Q c8 d b7;go_wp2_with(at_builtin;refine Yg _ rfl _ _ 107 rfl (w.heap.size+1) 44 iN _ 1 16 underlying107 hN f3 f2 f1 rfl (by decide) (.slice none 0 0) 0 (zs.take 0) rfl (d7.o.alloc _) ⟨wc.heap.size,0,none⟩ 1 1 [.iface t7 u7] rfl rfl (M1 wc (.iface t7 u7) _) (by intro z hz;simp only[Y6,ZA,Zy]at hz;rw[hz];rfl) (by unfold maxLen;omega) (by omega) (by simp;omega) ?_);intro v8 w8 B t Z N;have F:=X1 (Ez (i:=i) (m:=0) (k:=0) (op:=op) (zs:=zs) d2.o e7.o e9.o L.o y.o HM.o (sm:= .slice none 0 0) (fun q e=>by cases e) B t N);clear B t Z N;go_wp2;go_roundw
     case rel=>exact⟨i+1,kk++[op.drop 0],op.take 0++[i],_,by omega,by go_num,by rw[Xo,a8.o];rfl,by rw[Xo,YM,JE];omega,d3.o,F.o.1,F.o.2.1,F.o.2.2.1,F.o.2.2.2,fun _=>⟨_,rfl⟩⟩
     case measure=>simp[intOf];omega
    .obtain⟨rfl,rfl⟩:a6=some ⟨H,0,none⟩/\c=c5:=by simpa using D
     have f7:=(Vl.Qx d).1;have h4:m<=c:=by omega
     have h5:(m:Int)<=(c:Int):=by omega
     have e4:=Vl.S7 (KJ d b7) m (by omega);rw[DI]at e4;have d7:=X1 e4;clear D d e4 b7;go_wp2_with(at_builtin;refine Yg _ rfl _ _ 107 rfl (w.heap.size+1) 44 iN _ 1 16 underlying107 hN f3 f2 f1 rfl (by decide) (.slice (some ⟨H,0,none⟩) m c) m (zs.take m) rfl (d7.o.alloc _) ⟨wc.heap.size,0,none⟩ 1 1 [.iface t7 u7] rfl rfl (M1 wc (.iface t7 u7) _) (by intro z hz;simp only[Y6,ZA,Zy]at hz;rw[hz];rfl) (by unfold maxLen;omega) (by omega) (by simp;omega) ?_);intro v8 w8 B t Z N;have F:=X1 (Ez (i:=i) (m:=m) (k:=k) (op:=op) (zs:=zs) d2.o e7.o e9.o L.o y.o HM.o (sm:= .slice (some ⟨H,0,none⟩) m c) (fun q e=>e) B t N);clear B t Z N;go_wp2;go_roundw
     case rel=>exact⟨i+1,kk++[op.drop m],op.take m++[i],_,by omega,by go_num,by rw[Xo,a8.o];rfl,by rw[Xo,YM,JE];omega,d3.o,F.o.1,F.o.2.1,F.o.2.2.1,F.o.2.2.2,fun _=>⟨_,rfl⟩⟩
     case measure=>simp[intOf];omega
  .obtain rfl:i=ns.length:=by omega
   have i5:¬((ns.length:Int)<(ns.length:Int)):=by omega
   have f8:=(D7 HE.o (show Xv (ns.drop ns.length) ns.length op=([],some op) by rw[List.drop_length];rfl)).2;have i0:op=[ns.length-1]:=by
    obtain⟨r,hr⟩:=d5.o (by omega);have hg:=e8.o;unfold Kk at hg;rw[f8]at hg;have hg:op.length=1:=by simpa using hg
    rw[hr,Xo,JE]at hg;have i2:r=[]:=JC (by omega);rw[hr,i2];rfl
   subst i0;obtain⟨z0,s,i4,e3,g3⟩:=(Fd.Ka _ _ _ _).1 L.o;have hs:=(Fd.Qh _ _).1 g3;subst hs;subst i4;obtain⟨H,c5,i3⟩:=Q3 y.o (by simp);cases i3;obtain⟨t0,u0,hv⟩:=e3.iface;subst hv;have kc:wr.cell? ⟨H,0,none⟩=some (.iface t0 u0):=ZF y.o rfl;have HR:Hid (Fd.Pt (fun q=>w.heap.size<=q/\q<wr.heap.size) wr (Fd.tk ns (ns.length-1)) (.iface t0 u0)):=X1 (Fd.Pt.go e3 (fun q e=>⟨by have:=e.1.1;omega,e.1.2⟩) (fun _ _=>rfl));clear e3 g3 f8;go_wp2;go_ret;exact⟨_,rfl,HR.o,d2.o⟩
theorem Sx(w:World)(t:Value):((w.alloc (.cells #[t] 25)).alloc (.cells #[.slice none 0 0] 25)).heap[w.heap.size]?=some (.cells #[t] 25)/\((w.alloc (.cells #[t] 25)).alloc (.cells #[.slice none 0 0] 25)).heap[w.heap.size+1]?=some (.cells #[.slice none 0 0] 25):=⟨((bA (.cells #[.slice none 0 0] 25)).block w.heap.size (by simp)).trans (XM w _),by have:=XM (w.alloc (.cells #[t] 25)) (.cells #[.slice none 0 0] 25);rw[Xb]at this;exact this⟩
theorem QT{W:World}{g:Nat}{v:Value}{t:TypeId}(h:W.heap[g]?=some (.cells #[v] t)):W.cell? ⟨g,0,none⟩=some v/\W.frozen? ⟨g,0,none⟩=false:=⟨by rw[World.cell?,h];rfl,by rw[World.frozen?,h];simp⟩
theorem X8f(ns:List Nd)(S tc:Nat)(w:World)(hn:ns.length<=1048576)(hx:∀x∈ns,x.text.size<=1048576)(a4:∀x∈ns,x.n<9223372036854775808)(hG:U4 w)(a5:Vl.GI w)(ht:Yw w S ns): Calls prog 5 #[.agg #[.slice (some ⟨S,0,none⟩) ns.length tc]] w fun e w'=>Wy Fd.O ns w e w':=by
 have r2:BL w ((w.alloc (.cells #[.slice (some ⟨S,0,none⟩) ns.length tc] 25)).alloc (.cells #[.slice none 0 0] 25)):=(bA _).alloc (by simp) _;have V:=X1 (X7v ns S tc _ hn hx (hG.below r2) (ht.below r2));obtain⟨x0,x1⟩:=Sx w (.slice (some ⟨S,0,none⟩) ns.length tc);have HT:=X1 ht;have b5:=X1 a5;have b1:=X1 a4;have m:=X1 (Ny (ns:=ns));have a1:=X1 x0;have a2:=X1 x1;clear ht hG hx x0 x1 a4 a5;go_enter func5,ntmps5;go_wp2_with fail;refine V.o.mono ?_;rintro e w1⟨rfl,d⟩;rw[Xb,Xb]at d;have J:=r2.trans (d.mono (by omega));have a:=X1 J;have e0:w.heap.size+1+1<=w1.heap.size:=by have:=d.size;simpa using this
 have c9:=X1 ((d.block w.heap.size (by omega)).trans a1.o);have a3:=X1 ((d.block (w.heap.size+1) (by omega)).trans a2.o);clear d V a1 a2 r2;cases y:Zb ns
 .have Y:Hid (Fd.ZX Fd.O ns=[]):=X1 (by unfold Fd.ZX;rw[y];rfl);have c:¬((Yi ns).1=0/\(Yi ns).2=0):=fun h=>by
   have:=m.o.2 (Prod.ext h.1 h.2);rw[y]at this;cases this
  obtain⟨y1,y2⟩:=QT a3.o;clear m y J;by_cases h0:(Yi ns).1=0
  .have h1:¬((Yi ns).2:Int)=0:=fun h=>c ⟨h0,by omega⟩;clear c;rw[h0];go_wp2;all_goals
    refine X7 (v:= .agg #[.slice none 0 0]) (by simp[results,results5,go_sem,y1]) rfl ⟨_,rfl,by rw[Y.o];exact ZJ _ _ _ _,?_⟩;exact a.o.setCell (p:=⟨w.heap.size+1,0,none⟩) (by simp) _
  .clear c;go_wp2;all_goals
    refine X7 (v:= .agg #[.slice none 0 0]) (by simp[results,results5,go_sem,y1]) rfl ⟨_,rfl,by rw[Y.o];exact ZJ _ _ _ _,?_⟩;exact a.o.setCell (p:=⟨w.heap.size+1,0,none⟩) (by simp) _
 .have c:=m.o.1 y;have h0:(Yi ns).1=0:=by rw[c]
  have h1:(Yi ns).2=0:=by rw[c]
  obtain⟨d1,d2,l,_⟩:=JL (DO y);obtain⟨t1,t2,t3⟩:=Fd.PV y b1.o;have b3:=X1 t1;have b6:=X1 t2;have Z:=X1 t3;have b4:=X1 l;have b7:Hid (Fd.ZX Fd.O ns=Fd.XP (Fd.fold Fd.O ns.length (Fd.tk ns (ns.length-1)))):=X1 (by unfold Fd.ZX;rw[X3 y];rfl);clear m c t1 t2 t3 y l J;rw[h0,h1];go_wp2_with fail;refine(Vl.Xej w1).mono ?_;rintro e w2⟨lt,rfl,u⟩;have r:=X1 u;clear u;go_wp2_with fail;refine(Vl.Y5c w2).mono ?_;rintro e A⟨ub,uc,rfl,b0,a8,a9,s⟩;have k:=r.o.B;have C:=X1 (k.trans (s.mono k.size));have t:=X1 (r.o.below s);have a0:=X1 b0;have H:=X1 a8;have I:=X1 a9;have d8:=r.o.z;have d9:=s.size;clear s k b0 a8 a9 r;have g:BL A (A.alloc (.cells #[.map (some w1.heap.size),.map (some w2.heap.size)] 41)):=bA _;have j:=X1 (C.o.trans (g.mono C.o.size));have b9:Hid (Tb (A.alloc (.cells #[.map (some w1.heap.size),.map (some w2.heap.size)] 41)) A.heap.size):=X1 ⟨by simp,(b5.o.below a.o).below j.o,⟨w1,lt,by rw[World.cell?,XM];rfl,t.o.below g⟩,⟨w2.heap.size,ub,uc,by rw[World.cell?,XM];rfl,Vl.Da a0.o g,(g.cell (p:=⟨ub,0,none⟩) (J1 A ⟨ub,0,none⟩ H.o)).trans H.o,(g.cell (p:=⟨uc,0,none⟩) (J1 A ⟨uc,0,none⟩ I.o)).trans I.o⟩⟩;have b8:=X1 (HT.o.below (a.o.trans (j.o.mono a.o.size)));have k0:=(QT ((j.o.block w.heap.size (by omega)).trans c9.o)).1;clear g t a0 H I C;go_upto_region 4 with fail;generalize d0:A.alloc (.cells #[.map (some w1.heap.size),.map (some w2.heap.size)] 41)=W4 at *;clear d0;have X:=X1 (Xez ns S tc W4 d2 d1 b4.o b8.o);go_wp2_with fail;refine X.o.mono ?_;rintro e w5⟨v5,rfl,N,L⟩;obtain⟨t5,u5,d5⟩:=N.iface;subst d5;have HM:=X1 (X0j A.heap.size ns.length (Fd.tk ns (ns.length-1)) (Nat.le_of_eq Z.o) (by omega) b6.o (.inr (.inr b3.o)) (fun q=>W4.heap.size<=q/\q<w5.heap.size) (.iface t5 u5) w5 (fun q e=>e.2) (b9.o.below L) N);have D:=X1 (j.o.trans (L.mono j.o.size));clear N L X;go_wp2_with(show wpList _ _ _ ({dst:=_,op:=Op.call {callee:=Callee.invoke _ _,args:=_,argTypes:=_},type:=_,pos:=_,after:=_,guard:=_}::_) _ _;refine SD rfl (.tmp 14) (.tmp 15) _ rfl _ _ _ (by first|(simp[Act.eval];done)|simp[Act.eval,Act.put]) (by first|(simp[Act.eval];done)|simp[Act.eval,Act.put]) HM.o ?_;rintro z6 w6⟨P,M⟩;obtain⟨t6,u6,d6⟩:=P.iface;subst d6);have e1:=D.o.size;have E:=X1 (D.o.trans (M.mono D.o.size));have e3:=E.o.size;have d3:=Fd.size_fold Fd.O ns.length (Fd.tk ns (ns.length-1));have d4:(Fd.tk ns (ns.length-1)).size=ns.length:=Z.o;have W:=X1 (X8s w6.heap.size _ (Fd.fold Fd.O ns.length (Fd.tk ns (ns.length-1))) (X4 _) (.iface t6 u6) (.slice none 0 0) [] w6 (by rw[ZN];omega) (Fd.Pt.go P (fun q e=>⟨e.elim (fun e=>Xd e.2 M.size) (fun e=>e.2),fun e2=>by cases e2⟩) (fun _ _=>rfl)) (by simpa[Xe]using ZJ _ _ _ _) (X4 _));rw[←b7.o,UD]at W;clear P M d3 d4 HM;refine W.o.mono ?_;rintro e w8⟨v8,rfl,Q,a7⟩;obtain⟨p8,c8,d7⟩:=YV Q;subst d7;have a6:BL w6 w8:=a7.below (B:=w6.heap.size) (fun q e=>by cases e) (X4 _);have K:BL w1 w8:=E.o.trans (a6.mono E.o.size);have b2:=X1 (a.o.trans (K.mono a.o.size));obtain⟨y1,y2⟩:=QT ((K.block (w.heap.size+1) (by omega)).trans a3.o);have F:=X1 Q;clear Q a7 a6 K;go_wp2;refine X7 (v:= .agg #[.slice p8 (Fd.ZX Fd.O ns).length c8]) (by simp[results,results5,go_sem,y1]) rfl ⟨_,rfl,?_,?_⟩
  .exact Qj F.o (fun q e=>by have:=(F.o.lt q e).1;omega) (fun q e=>UY (by have:=(F.o.lt q e).1;omega))
  .exact b2.o.setCell (p:=⟨w.heap.size+1,0,none⟩) (by show w.heap.size<=w.heap.size+1;omega) _
