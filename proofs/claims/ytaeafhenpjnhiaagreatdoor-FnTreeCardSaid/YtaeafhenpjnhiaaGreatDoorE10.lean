import Derived.Test.YtaeafhenpjnhiaaGreatDoorE01
set_option maxHeartbeats 1000000
set_option maxRecDepth 100000
namespace Go.Proofs.YtaeafhenpjnhiaaGreatDoor
open Tryz Go.RowKit
def XF:List Nd->Nat->List Nat->List (List Nat) × Option (List Nat)
 | [],_,op=>([],some op)
 | x::r,i,op=>if x.kids<0\/(op.length:Int)<x.kids then([],none)else
   (op.drop (op.length-x.kids.toNat)::(XF r (i+1) (op.take (op.length-x.kids.toNat)++[i])).1,(XF r (i+1) (op.take (op.length-x.kids.toNat)++[i])).2)
def YF(ns:List Nd):List (List Nat):=(XF ns 0 []).1
def Qc(ns:List Nd):Bool:=match(XF ns 0 []).2 with
 | none=>false
 | some op=>op.length==1
theorem N0(ns:List Nd)(i:Nat)(h:i<ns.length)(op:List Nat)(a:ns[i].kids<0\/(op.length:Int)<ns[i].kids):XF (ns.drop i) i op=([],none):=by
 rw[KM h,XF,Xa a]
theorem N1(ns:List Nd)(i:Nat)(h:i<ns.length)(op:List Nat)(k m:Nat)(a:ns[i].kids=k)(hm:op.length=m+k): XF (ns.drop i) i op=(op.drop m::(XF (ns.drop (i+1)) (i+1) (op.take m++[i])).1,(XF (ns.drop (i+1)) (i+1) (op.take m++[i])).2):=by
 rw[KM h,XF,X6 (by omega),show op.length-ns[i].kids.toNat=m from by omega]
def JF(x:Nat):Value:= .q x
theorem CQ{w:World}{base:Nat}{e:TypeId}{g n cap:Nat}{k:List Value}(h:w.ownsRow base e 1 (.l g n cap) n k)(m:Nat)(hm:m<=n):w.ownsRow base e 1 (.l g m cap) m (k.take m):=by
 obtain⟨C,d⟩:=h;refine⟨by simp;omega,.inr ?_⟩;rcases d with⟨d,_⟩|⟨B,j,a,A,r,u,E,s,v,y⟩
 .cases d
 .cases A;refine⟨g,cap,a,rfl,r,u,by omega,s,v,?_⟩;rw[←y,Mm];congr 1;omega
theorem Wa{w:World}{base a:Nat}{e:TypeId}{size:Nat}{v:Value}{n:Nat}{j:List Value}(h:w.ownsRow base e size v n j)(s:a<=base):w.ownsRow a e size v n j:=by
 refine⟨h.1,?_⟩;rcases h.2 with h|⟨g,cap,d,k,m,r⟩
 .exact .inl h
 .exact .inr ⟨g,cap,d,k,Xz s m,r⟩
theorem Y3g(l:List Nat):∀u∈l.map JF,u.oneCell'=true:=by
 intro u a;obtain⟨x,_,rfl⟩:=Vw.1 a;rfl
theorem J8{w:World}{base:Nat}{e:TypeId}{size g n cap:Nat}{s:List Value}(h:w.ownsRow base e size (.l g n cap) n s):n<=cap/\base<=g/\g<w.heap.size:=by
 have d:=h.lt g rfl;rcases h.2 with⟨k,_⟩|⟨u,a,j,r,v,A,m,y,B,C⟩
 .cases k
 .cases r;exact⟨m,d.1,d.2⟩
theorem MH(g o j:Nat):((⟨g,o,none⟩:Addr).add j)=⟨g,o+j,none⟩:=by unfold Addr.add;split<;>simp_all
theorem Xas{w:World}{base:Nat}{e:TypeId}{g cap:Nat}{op:List Nat}{m k o:Nat}(hm:op.length=m+k)(h:w.ownsRow base e 1 (.l g op.length cap) op.length (op.map JF))(d:0<k->o=m): ∀j u,((op.drop m).map JF)[j]?=some u->w.cell? ((⟨g,o,none⟩:Addr).add j)=some u:=by
 intro j u a;have n:j<k:=by have:=(I5.1 a).1;simp at this;omega
 obtain rfl:=d (by omega);rw[MH,h.cellAt (o+j) (by omega),←a];simp
theorem II(w:World)(u:Value)(t:TypeId):∀(j:Nat) (x:Value),([u]:List Value)[j]?=some x->(w.z #[u] t).cell? ((⟨w.heap.size,0,none⟩:Addr).add j)=some x:=by
 intro j x h;rw[MH,Xu,World.cell?,YV];simpa using h
theorem WN{w a:World}{o:Obj}{row:Option Nat}(h:(w.alloc o).grownBy a row)(g:Nat)(d:g<w.heap.size)(hne:some g≠row):a.heap[g]?=w.heap[g]?:=by
 have:=(X8 w.heap.size w).alloc (X5 _) o;exact(h.block g (by simp;omega) hne).trans (this.block g d)
theorem YZ.heap{w w':World}{g o:Nat}{l:List Nat}(h:YZ w g o l)(a:w'.heap[g]?=w.heap[g]?):YZ w' g o l:=by
 have d:=h.1;refine⟨?_,fun j k=>?_⟩
 .rcases V5 g w'.heap.size with q|q
  .exact q
  .rw[Wm q,Ma d]at a;cases a
 .have:=h.2 j k;rw[World.cell?]at this⊢;simpa[a]using this
theorem X5d{w:World}{base:Nat}{e:TypeId}{g cap:Nat}{l:List Nat}(h:w.ownsRow base e 1 (.l g l.length cap) l.length (l.map JF)):YZ w g 0 l:=by
 refine⟨(J8 h).2.2,fun j a=>?_⟩;rw[Xu,h.cellAt j (by omega)];simp[a,JF]
theorem Lm{r:World}{b:Nat}{e:TypeId}{j:Value}{n g H:Nat}{s:List Value}(d:r.ownsRow b e 1 j n s)(K8:¬j= .slice none 0 0)(m:j.ownBlock=some g\/j.ownBlock=some H):∃a k,j= .l a n k/\(a=g\/a=H):=by
 rcases d.2 with⟨h,_⟩|⟨a,k,_,h,_⟩
 .exact absurd h K8
 .subst h;refine⟨a,k,rfl,?_⟩;simpa[Value.ownBlock]using m
def Rows(w:World)(base g4 g5:Nat)(vs:List Value)(ks:List (List Nat)):Prop:=vs.length=ks.length/\∀j (h:j<ks.length),∃g c,vs[j]?=some (.l g (ks[j]).length c)/\base<=g/\g≠g4/\g≠g5/\YZ w g 0 ks[j]/\(ks[j]).length<=c
theorem Rows.Df{w:World}{base k n:Nat}{m:List Value}{ks:List (List Nat)}(h:Rows w (base+1) k n m ks):Rows w base k k m ks:=by
 refine⟨h.1,fun j r=>?_⟩;obtain⟨g,c,a,b,d,_,f,e⟩:=h.2 j r;exact⟨g,c,a,by omega,d,d,f,e⟩
theorem Y0k{wr m s H:World}{base u v g4' g5' gn cn k:Nat}{F:List Value}{ks:List (List Nat)}{x:List Nat}(h:Rows wr base u v F ks)(E:x.length=k)(J:∀q,q<wr.heap.size->m.heap[q]?=wr.heap[q]?)(B:∀q,q<m.heap.size->q≠u->s.heap[q]?=m.heap[q]?)(C:∀q,q<s.heap.size->q≠v->H.heap[q]?=s.heap[q]?)(O:wr.heap.size<=m.heap.size)(Q:m.heap.size<=s.heap.size)(U:g4'=u\/m.heap.size<=g4')(V:g5'=v\/s.heap.size<=g5')(W:wr.heap.size<=gn)(L:u<wr.heap.size)(M:v<wr.heap.size)(K:base<=gn)(hi:YZ m gn 0 x)(y:k<=cn): Rows H base g4' g5' (F++[.l gn k cn]) (ks++[x]):=by
 have A:=hi.1;refine⟨by simp[h.1],fun j N=>?_⟩;by_cases e:j<ks.length
 .obtain⟨g,c,a,b,d,f,q,r⟩:=h.2 j e;have S:=q.1;rw[I6 e,Jt (by rw[h.1];exact e)];exact⟨g,c,a,b,by omega,by omega,((q.heap (J g S)).heap (B g (by omega) d)).heap (C g (by omega) f),r⟩
 .have I:j=ks.length:=by simp at N;omega
  subst I;refine⟨gn,cn,?_,K,by omega,by omega,?_,?_⟩
  .have n:(ks++[x])[ks.length]=x:=by simp
   rw[n,E,Q7 (by rw[h.1];exact X5 _),h.1,Nat.sub_self];rfl
  .have n:(ks++[x])[ks.length]=x:=by simp
   rw[n];exact(hi.heap (B gn A (by omega))).heap (C gn (by omega) (by omega))
  .have n:(ks++[x])[ks.length]=x:=by simp
   rw[n,E];exact y
theorem Ou{ns:List Nd}{i:Nat}{ks:List (List Nat)}{op:List Nat}(a:XF ns 0 []=(ks++(XF (ns.drop i) i op).1,(XF (ns.drop i) i op).2)){r:Option (List Nat)}(h:XF (ns.drop i) i op=([],r)):YF ns=ks/\(XF ns 0 []).2=r:=by
 rw[h]at a;simp[YF,a]
theorem AQ:(prog.info? 3).map (fun i=>(i.zero,i.size,i.bytes))=some (some (.q 0),1,8):=by kernel_rfl
theorem X3t:(prog.info? 89).map (fun i=>(i.zero,i.size,i.bytes))=some (some (.slice none 0 0),1,24):=by kernel_rfl
theorem Ot(ns:List Nd)(V tc:Nat)(w:World)(hn:ns.length<=1048576)(ht:K1 w V ns): Calls prog 17 #[.agg #[.l V ns.length tc]] w fun e w'=>∃s C H,e= .returned (.tuple #[.l s (YF ns).length C,.bool (Qc ns)])/\w'.ownsRow w.heap.size 89 1 (.l s (YF ns).length C) (YF ns).length H/\Rows w' w.heap.size s s H (YF ns)/\Below w.heap.size w w':=by
 obtain⟨iI,hI,b1,b0,a9⟩:=YK AQ;obtain⟨iR,hR,e5,e4,e0⟩:=YK X3t;have HT:=X1 ht;clear ht;go_enter func17,ntmps17;go_wp2
 go_loopw[4,5,6] (fun v4 v5 t wr=>∃(i:Nat) (ks:List (List Nat)) (op:List Nat) (s C F c5:Nat) (H:List Value),i<=ns.length/\t= .q i/\v4= .l s i C/\v5= .l F op.length c5/\
   wr.ownsRow (w.heap.size+1) 89 1 (.l s i C) i H/\wr.ownsRow (w.heap.size+1) 3 1 (.l F op.length c5) op.length (op.map JF)/\s≠F/\ks.length=i/\op.length<=i/\
   Rows wr (w.heap.size+1) s F H ks/\BL w wr/\w.heap.size<wr.heap.size/\wr.cell? ⟨w.heap.size,0,none⟩=some (.l V ns.length tc)/\
   XF ns 0 []=(ks++(XF (ns.drop i) i op).1,(XF (ns.drop i) i op).2)) (fun _ _ t _=>ns.length-(intOf t).toNat)
 case atStart=>
  refine⟨0,[],[],w.heap.size+1,0,w.heap.size+2,0,[],Xb _,rfl,rfl,rfl,?_,?_,by omega,rfl,X5 _,⟨rfl,fun j h=>absurd h (JK _)⟩,?_,by rw[Yx,Yx,Yx];omega,?_,rfl⟩
  .have:=Y4 (base:=w.heap.size+1) (e:=89) (size:=1) (w.z #[.l V ns.length tc] 25) #[] 0 (by simp) (Xb _) rfl;rw[Yx]at this;exact this.alloc _
  .have:=Y4 (base:=w.heap.size+1) (e:=3) (size:=1) ((w.z #[.l V ns.length tc] 25).z #[] 89) #[] 0 (by simp) (Xb _) rfl;rw[Yx,Yx]at this;exact this
  .exact((bA _).alloc (by simp) _).alloc (by simp;omega) _
  .have h1:Below (w.heap.size+1) (w.z #[.l V ns.length tc] 25) (((w.z #[.l V ns.length tc] 25).z #[] 89).z #[] 3):=((X8 _ _).alloc (by simp) _).alloc (by simp) _;exact(h1.cell (p:=⟨w.heap.size,0,none⟩) (Q9 _)).trans (by simp)
 case round=>
  obtain⟨i,ks,op,s,C,F,c5,H,f9,rfl,rfl,rfl,y,X,hne,r,g0,U,hB,a5,c2,he⟩:=hrel;have HE:=X1 he;have HR:=X1 U;clear he U;by_cases b3:i<ns.length
  .obtain⟨_,_,_,_,hK⟩:=HT.o.2 i b3;have a0:=(hB.cell (p:=⟨V,i*5+4,none⟩) HT.o.1).trans hK;have b2:=X1 (N1 ns i b3 op);have a4:=X1 (N0 ns i b3 op);generalize ns[i].kids=kd at *;clear hK;by_cases d0:kd<0
   .obtain⟨e1,e2⟩:=Ou HE.o (a4.o (.inl d0));have u:Hid (YF ns=ks/\Qc ns=false):=X1 ⟨e1,by unfold Qc;rw[e2]⟩;clear e1 e2;go_wp2;exact Xq (v:= .tuple #[.l s i C,.bool false]) (by simp[results,results17,go_sem]) rfl (by first|exact⟨s,C,H,by rw[u.o.1,u.o.2,r],by rw[u.o.1,r];exact Wa y (by omega),by rw[u.o.1];exact HR.o.Df,hB⟩|exact⟨s,C,by rw[u.o.1,u.o.2,r],H,by rw[u.o.1,r];exact Wa y (by omega),by rw[u.o.1];exact HR.o.Df,hB⟩)
   .by_cases c1:(op.length:Int)<kd
    .obtain⟨e1,e2⟩:=Ou HE.o (a4.o (.inr c1));have u:Hid (YF ns=ks/\Qc ns=false):=X1 ⟨e1,by unfold Qc;rw[e2]⟩;clear e1 e2;go_wp2;exact Xq (v:= .tuple #[.l s i C,.bool false]) (by simp[results,results17,go_sem]) rfl (by first|exact⟨s,C,H,by rw[u.o.1,u.o.2,r],by rw[u.o.1,r];exact Wa y (by omega),by rw[u.o.1];exact HR.o.Df,hB⟩|exact⟨s,C,by rw[u.o.1,u.o.2,r],H,by rw[u.o.1,r];exact Wa y (by omega),by rw[u.o.1];exact HR.o.Df,hB⟩)
    .obtain⟨k,rfl⟩:∃k:Nat,kd=k:=⟨kd.toNat,by omega⟩;obtain⟨m,hm⟩:∃m,op.length=m+k:=⟨op.length-k,by omega⟩;have hq:¬((m:Int)+(k:Int)<(k:Int)):=by omega
     have g1:decide ((m:Int)+(k:Int)<(k:Int))=false:=by simp;omega
     obtain⟨f1,f7,e8⟩:=J8 X;obtain⟨_,f6,e7⟩:=J8 y;obtain⟨o5,c7,a8⟩:∃o5,(if c5=m then some (⟨F,0,none⟩:Addr)else some ⟨F,m,none⟩)=some ⟨F,o5,none⟩/\(0<k->o5=m):=by
      by_cases h:c5=m
      .exact⟨0,by rw[Xa h],fun _=>by omega⟩
      .exact⟨m,by rw[X6 h],fun _=>rfl⟩
     have d4:=X1 c7;have b5:=X1 a8;clear c7 a8;go_wp2_with(at_builtin;refine YY _ rfl _ _ 89 rfl (w.heap.size+1) 3 iI (.q 0) 1 8 underlying89 hI b1 b0 a9 rfl (by decide) (.l wr.heap.size 0 0) 0 [] rfl (Y4 (base:=w.heap.size+1) wr #[] 0 a5 (Xb _) rfl) ⟨F,o5,none⟩ k (c5-m) ((op.drop m).map JF) (Yt (fun a=>Value.slice a k (c5-m)) d4.o) (by simp;omega) (Xas hm (X.alloc _) b5.o) (Y3g _) (by unfold maxLen;omega) (by omega) (by simp;omega) ?_);all_goals
      intro v1 Z A d J a1;obtain⟨gn,cn,rfl,f8⟩:=Lm A J (by simpa[Value.ownBlock]using a1);have g2:wr.heap.size<Z.heap.size:=by have:=d.size;simp at this;omega
      have f5:=(J8 A).2.2;have e9:wr.heap.size<=gn:=by omega
      have b6:BL w Z:=(hB.alloc (by omega) _).grown d (by simp;omega) (fun q e=>by simp[Value.ownBlock]at e;omega);have c3:Z.cell? ⟨w.heap.size,0,none⟩=some (.l V ns.length tc):=(XQ (WN d w.heap.size a5 (by simp[Value.ownBlock];omega))).trans c2;have a6:=(y.alloc _).kept d (.inr (by simp[Value.ownBlock];omega));have a7:=(X.alloc _).kept d (.inr (by simp[Value.ownBlock];omega));have b8:∀q,q<wr.heap.size->Z.heap[q]?=wr.heap[q]?:=fun q hq=>WN d q hq (by simp[Value.ownBlock];omega);have d2:=X1 b8;have S:=X1 A;clear d J a1 A b8 y X c2;go_wp2_with(at_builtin;refine YY _ rfl _ _ 48 rfl (w.heap.size+1) 89 iR (.slice none 0 0) 1 24 underlying48 hR e5 e4 e0 rfl (by decide) (.l s i C) i H rfl (a6.alloc _) ⟨Z.heap.size,0,none⟩ 1 1 [.l gn k cn] rfl rfl (II _ _ _) (by simp[Value.oneCell']) (by unfold maxLen;omega) (by omega) (by simp;omega) ?_);intro v2 W B g K a2;obtain⟨g4',d7,rfl,f2⟩:=Lm B K (by simpa[Value.ownBlock]using a2);have g3:Z.heap.size<W.heap.size:=by have:=g.size;simp at this;omega
      have f3:=(J8 B).2.2;have b7:BL w W:=(b6.alloc (by omega) _).grown g (by simp;omega) (fun q e=>by simp[Value.ownBlock]at e;omega);have c6:W.cell? ⟨w.heap.size,0,none⟩=some (.l V ns.length tc):=(XQ (WN g w.heap.size (by omega) (by simp[Value.ownBlock];omega))).trans c3;have M:=(a7.alloc _).kept g (.inr (by simp[Value.ownBlock];omega));have b9:∀q,q<Z.heap.size->q≠s->W.heap[q]?=Z.heap[q]?:=fun q hq hne=>WN g q hq (by simp[Value.ownBlock];omega);have d3:=X1 b9;have b4:=X1 B;clear g K a2 B b9 a6 a7 c3 b6;have N:=CQ M m (by omega);have O:c5=m->W.ownsRow (w.heap.size+1) 3 1 (.l F m m) m ((op.map JF).take m):=fun h=>by have q:=N;rwa[h]at q
      have d5:=X1 O;clear O;go_wp2_with(at_builtin;first|(refine YY _ rfl _ _ 89 rfl (w.heap.size+1) 3 iI (.q 0) 1 8 underlying89 hI b1 b0 a9 rfl (by decide) (.l F m _) m _ rfl (N.alloc _) ⟨W.heap.size,0,none⟩ 1 1 [.q i] rfl rfl (II _ _ _) (by simp[Value.oneCell']) (by unfold maxLen;omega) (by omega) (by simp;omega) ?_)|(refine YY _ rfl _ _ 89 rfl (w.heap.size+1) 3 iI (.q 0) 1 8 underlying89 hI b1 b0 a9 rfl (by decide) (.l F m _) m _ rfl ((d5.o (by assumption)).alloc _) ⟨W.heap.size,0,none⟩ 1 1 [.q i] rfl rfl (II _ _ _) (by simp[Value.oneCell']) (by unfold maxLen;omega) (by omega) (by simp;omega) ?_));intro v3 w3 Q n L a3;obtain⟨g5',d8,rfl,f4⟩:=Lm Q L (by simpa[Value.ownBlock]using a3);have g6:W.heap.size<w3.heap.size:=by have:=n.size;simp at this;omega
      have d9:BL w w3:=(b7.alloc (by omega) _).grown n (by simp;omega) (fun q e=>by simp[Value.ownBlock]at e;omega);have e6:w3.cell? ⟨w.heap.size,0,none⟩=some (.l V ns.length tc):=(XQ (WN n w.heap.size (by omega) (by simp[Value.ownBlock];omega))).trans c6;have d1:=(b4.o.alloc _).kept n (.inr (by simp[Value.ownBlock];omega));have c0:∀q,q<W.heap.size->q≠F->w3.heap[q]?=W.heap[q]?:=fun q hq hne=>WN n q hq (by simp[Value.ownBlock];omega);have c8:(op.drop m).length=k:=by simp;omega
      have I:YZ Z gn 0 (op.drop m):=by
       have q:=S.o;rw[←Ud,←c8]at q;exact X5d q
      have E:=Y0k (g4':=g4') (g5':=g5') (cn:=cn) HR.o c8 d2.o d3.o c0 (by omega) (by omega) (by omega) (by omega) e9 e7 e8 (by omega) I (J8 S.o).1;have d6:=X1 E;clear n L a3 c0 I E M c6 b7 N;go_wp2;go_roundw
      case rel=>
       refine⟨i+1,ks++[op.drop m],op.take m++[i],g4',d7,g5',d8,_,by omega,by go_num,rfl,?_,d1,?_,by omega,by simp;omega,by simp;omega,d6.o,d9,by omega,e6,?_⟩
       .rw[Xj,YO,Jv (by omega)];rfl
       .have f0:(op.take m++[i]).length=m+1:=by rw[Xj,YO,Jv (by omega)];rfl
        have c9:(op.take m++[i]).map JF=(op.map JF).take m++[.q i]:=by rw[JI,Uz];rfl
        rw[f0,c9];exact Q
       .rw[HE.o,b2.o k m rfl hm];simp
      case measure=>simp[intOf];omega
  .obtain⟨e1,e2⟩:=Ou HE.o (show XF (ns.drop i) i op=([],some op) by rw[YI (by omega)];rfl);have e3:Qc ns=(op.length==1):=by unfold Qc;rw[e2]
   have E1:=X1 e1;have u:=X1 e3;clear e1 e2 e3;by_cases h1:op.length=1
   .go_wp2;exact Xq (v:= .tuple #[.l s i C,.bool true]) (by simp[results,results17,go_sem]) rfl ⟨s,C,H,by rw[E1.o,u.o,r,h1];rfl,by rw[E1.o,r];exact Wa y (by omega),by rw[E1.o];exact HR.o.Df,hB⟩
   .have h2:((op.length:Int)==1)=false:=by simp;omega
    go_wp2;exact Xq (v:= .tuple #[.l s i C,.bool false]) (by simp[results,results17,go_sem]) rfl ⟨s,C,H,by rw[E1.o,u.o,r,beq_false_of_ne h1],by rw[E1.o,r];exact Wa y (by omega),by rw[E1.o];exact HR.o.Df,hB⟩
theorem Xec(op n m:Int)(s:ByteArray)(w:World):CB 40 #[.agg #[.q 2,.q op,.q n,.string s,.q m]] w (.bool (Xr ⟨2,op,n,s,m⟩)):=by
 have q:Xs 2 16 21=false:=by decide
 go_enter func40,ntmps40;go_wp2_with(first|(go_at_call 39;go_fit(ZD _ _ _ _);rintro e w'⟨rfl,rfl⟩)|(go_at_call 68;go_fit(JT _ _);rintro e w'⟨rfl,rfl⟩)|(go_at_call 47;go_fit(Jj _ _);rintro e d⟨rfl,a⟩));all_goals
  go_ret;refine⟨Xn ?_,?_⟩
  .first
   | (simp[Xr,Yq, *];done)
   | (simp[Xr,Yq, *];omega)
   | (exfalso;simp_all)
  .first
   | exact bA _
   | exact(bA _).trans (a.mono (by simp))
theorem Xee(op n m:Int)(s:ByteArray)(w:World):CB 40 #[.agg #[.q 3,.q op,.q n,.string s,.q m]] w (.bool (Xr ⟨3,op,n,s,m⟩)):=by
 have q:Xs 3 16 21=false:=by decide
 go_enter func40,ntmps40;go_wp2_with(first|(go_at_call 39;go_fit(ZD _ _ _ _);rintro e w'⟨rfl,rfl⟩)|(go_at_call 68;go_fit(JT _ _);rintro e w'⟨rfl,rfl⟩)|(go_at_call 47;go_fit(Jj _ _);rintro e d⟨rfl,a⟩));all_goals
  go_ret;refine⟨Xn ?_,?_⟩
  .first
   | (simp[Xr,Yq, *];done)
   | (simp[Xr,Yq, *];omega)
   | (exfalso;simp_all)
  .first
   | exact bA _
   | exact(bA _).trans (a.mono (by simp))
theorem Xef(op n m:Int)(s:ByteArray)(w:World):CB 40 #[.agg #[.q 4,.q op,.q n,.string s,.q m]] w (.bool (Xr ⟨4,op,n,s,m⟩)):=by
 go_enter func40,ntmps40;go_wp2_with(first|(go_at_call 39;go_fit(ZD _ _ _ _);rintro e w'⟨rfl,rfl⟩)|(go_at_call 68;go_fit(JT _ _);rintro e w'⟨rfl,rfl⟩)|(go_at_call 47;go_fit(Jj _ _);rintro e d⟨rfl,a⟩));all_goals
  go_ret;refine⟨Xn ?_,?_⟩
  .first
   | (simp[Xr,Yq, *];done)
   | (simp[Xr,Yq, *];omega)
   | (exfalso;simp_all)
  .first
   | exact bA _
   | exact(bA _).trans (a.mono (by simp))
theorem Xeg(op n m:Int)(s:ByteArray)(w:World):CB 40 #[.agg #[.q 5,.q op,.q n,.string s,.q m]] w (.bool (Xr ⟨5,op,n,s,m⟩)):=by
 go_enter func40,ntmps40;go_wp2_with(first|(go_at_call 39;go_fit(ZD _ _ _ _);rintro e w'⟨rfl,rfl⟩)|(go_at_call 68;go_fit(JT _ _);rintro e w'⟨rfl,rfl⟩)|(go_at_call 47;go_fit(Jj _ _);rintro e d⟨rfl,a⟩));all_goals
  go_ret;refine⟨Xn ?_,?_⟩
  .first
   | (simp[Xr,Yq, *];done)
   | (simp[Xr,Yq, *];omega)
   | (exfalso;simp_all)
  .first
   | exact bA _
   | exact(bA _).trans (a.mono (by simp))
theorem Xdz(op n m:Int)(s:ByteArray)(w:World):CB 40 #[.agg #[.q 11,.q op,.q n,.string s,.q m]] w (.bool (Xr ⟨11,op,n,s,m⟩)):=by
 go_enter func40,ntmps40;go_wp2_with(first|(go_at_call 39;go_fit(ZD _ _ _ _);rintro e w'⟨rfl,rfl⟩)|(go_at_call 68;go_fit(JT _ _);rintro e w'⟨rfl,rfl⟩)|(go_at_call 47;go_fit(Jj _ _);rintro e d⟨rfl,a⟩));all_goals
  go_ret;refine⟨Xn ?_,?_⟩
  .first
   | (simp[Xr,Yq, *];done)
   | (simp[Xr,Yq, *];omega)
   | (exfalso;simp_all)
  .first
   | exact bA _
   | exact(bA _).trans (a.mono (by simp))
theorem Xea(op n m:Int)(s:ByteArray)(w:World):CB 40 #[.agg #[.q 14,.q op,.q n,.string s,.q m]] w (.bool (Xr ⟨14,op,n,s,m⟩)):=by
 go_enter func40,ntmps40;go_wp2_with(first|(go_at_call 39;go_fit(ZD _ _ _ _);rintro e w'⟨rfl,rfl⟩)|(go_at_call 68;go_fit(JT _ _);rintro e w'⟨rfl,rfl⟩)|(go_at_call 47;go_fit(Jj _ _);rintro e d⟨rfl,a⟩));all_goals
  go_ret;refine⟨Xn ?_,?_⟩
  .first
   | (simp[Xr,Yq, *];done)
   | (simp[Xr,Yq, *];omega)
   | (exfalso;simp_all)
  .first
   | exact bA _
   | exact(bA _).trans (a.mono (by simp))
theorem Xeh(op n m:Int)(s:ByteArray)(w:World):CB 40 #[.agg #[.q 6,.q op,.q n,.string s,.q m]] w (.bool (Xr ⟨6,op,n,s,m⟩)):=by
 have q:Xs 6 16 21=false:=by decide
 go_enter func40,ntmps40;go_wp2_with(first|(go_at_call 39;go_fit(ZD _ _ _ _);rintro e w'⟨rfl,rfl⟩)|(go_at_call 68;go_fit(JT _ _);rintro e w'⟨rfl,rfl⟩)|(go_at_call 47;go_fit(Jj _ _);rintro e d⟨rfl,a⟩));all_goals
  go_ret;refine⟨Xn ?_,?_⟩
  .first
   | (simp[Xr,Yq, *];done)
   | (simp[Xr,Yq, *];omega)
   | (exfalso;simp_all)
  .first
   | exact bA _
   | exact(bA _).trans (a.mono (by simp))
theorem Xei(op n m:Int)(s:ByteArray)(w:World):CB 40 #[.agg #[.q 7,.q op,.q n,.string s,.q m]] w (.bool (Xr ⟨7,op,n,s,m⟩)):=by
 have q:Xs 7 16 21=false:=by decide
 go_enter func40,ntmps40;go_wp2_with(first|(go_at_call 39;go_fit(ZD _ _ _ _);rintro e w'⟨rfl,rfl⟩)|(go_at_call 68;go_fit(JT _ _);rintro e w'⟨rfl,rfl⟩)|(go_at_call 47;go_fit(Jj _ _);rintro e d⟨rfl,a⟩));all_goals
  go_ret;refine⟨Xn ?_,?_⟩
  .first
   | (simp[Xr,Yq, *];done)
   | (simp[Xr,Yq, *];omega)
   | (exfalso;simp_all)
  .first
   | exact bA _
   | exact(bA _).trans (a.mono (by simp))
theorem Xeb(op n m:Int)(s:ByteArray)(w:World):CB 40 #[.agg #[.q 17,.q op,.q n,.string s,.q m]] w (.bool (Xr ⟨17,op,n,s,m⟩)):=by
 have q:Xs 17 16 21=true:=by decide
 go_enter func40,ntmps40;go_wp2_with(first|(go_at_call 39;go_fit(ZD _ _ _ _);rintro e w'⟨rfl,rfl⟩)|(go_at_call 68;go_fit(JT _ _);rintro e w'⟨rfl,rfl⟩)|(go_at_call 47;go_fit(Jj _ _);rintro e d⟨rfl,a⟩));all_goals
  go_ret;refine⟨Xn ?_,?_⟩
  .first
   | (simp[Xr,Yq, *];done)
   | (simp[Xr,Yq, *];omega)
   | (exfalso;simp_all)
  .first
   | exact bA _
   | exact(bA _).trans (a.mono (by simp))
theorem Xed(op n m:Int)(s:ByteArray)(w:World):CB 40 #[.agg #[.q 23,.q op,.q n,.string s,.q m]] w (.bool (Xr ⟨23,op,n,s,m⟩)):=by
 have q:Xs 23 16 21=false:=by decide
 go_enter func40,ntmps40;go_wp2_with(first|(go_at_call 39;go_fit(ZD _ _ _ _);rintro e w'⟨rfl,rfl⟩)|(go_at_call 68;go_fit(JT _ _);rintro e w'⟨rfl,rfl⟩)|(go_at_call 47;go_fit(Jj _ _);rintro e d⟨rfl,a⟩));all_goals
  go_ret;refine⟨Xn ?_,?_⟩
  .first
   | (simp[Xr,Yq, *];done)
   | (simp[Xr,Yq, *];omega)
   | (exfalso;simp_all)
  .first
   | exact bA _
   | exact(bA _).trans (a.mono (by simp))
theorem Xer(k op n m:Int)(s:ByteArray)(w:World)(d:Xs k 16 21=true)(g:k≠17):CB 40 #[.agg #[.q k,.q op,.q n,.string s,.q m]] w (.bool (Xr ⟨k,op,n,s,m⟩)):=by
 obtain⟨A,B⟩:=KP d;have n2:k≠2:=by omega
 have n3:k≠3:=by omega
 have u:k≠4:=by omega
 have v:k≠6:=by omega
 have y:k≠7:=by omega
 have j:k≠23:=by omega
 by_cases r:op=0;all_goals
  go_enter func40,ntmps40;go_wp2_with(first|(go_at_call 39;go_fit(ZD _ _ _ _);rintro e w'⟨rfl,rfl⟩)|(go_at_call 68;go_fit(JT _ _);rintro e w'⟨rfl,rfl⟩)|(go_at_call 47;go_fit(Jj _ _);rintro e C⟨rfl,a⟩))
 all_goals
  go_ret;refine⟨Xn ?_,?_⟩
  .first
   | (simp[Xr,Yq, *];done)
   | (simp[Xr,Yq, *];omega)
   | (exfalso;simp_all)
  .first
   | exact bA _
   | exact(bA _).trans (a.mono (by simp))
theorem Xet(k op n m:Int)(s:ByteArray)(w:World)(v:Xs k 16 21=false)(u:k≠2/\k≠3/\k≠4/\k≠5/\k≠11/\k≠14/\k≠6/\k≠7/\k≠17/\k≠23):CB 40 #[.agg #[.q k,.q op,.q n,.string s,.q m]] w (.bool (Xr ⟨k,op,n,s,m⟩)):=by
 obtain⟨y,A,B,C,d,g,E,F,j,r⟩:=u;by_cases H:op=0;all_goals
  go_enter func40,ntmps40;go_wp2_with(first|(go_at_call 39;go_fit(ZD _ _ _ _);rintro e w'⟨rfl,rfl⟩)|(go_at_call 68;go_fit(JT _ _);rintro e w'⟨rfl,rfl⟩)|(go_at_call 47;go_fit(Jj _ _);rintro e I⟨rfl,a⟩))
 all_goals
  go_ret;refine⟨Xn ?_,?_⟩
  .first
   | (simp[Xr,Yq, *];done)
   | (simp[Xr,Yq, *];omega)
   | (exfalso;simp_all)
  .first
   | exact bA _
   | exact(bA _).trans (a.mono (by simp))
theorem Xej(k op n m:Int)(s:ByteArray)(w:World):CB 40 #[.agg #[.q k,.q op,.q n,.string s,.q m]] w (.bool (Xr ⟨k,op,n,s,m⟩)):=by
 rcases Hy k with rfl|rfl|rfl|rfl|rfl|rfl|rfl|rfl|rfl|rfl|⟨a,d⟩|⟨_,a,g⟩
 .exact Xec op n m s w
 .exact Xee op n m s w
 .exact Xef op n m s w
 .exact Xeg op n m s w
 .exact Xdz op n m s w
 .exact Xea op n m s w
 .exact Xeh op n m s w
 .exact Xei op n m s w
 .exact Xeb op n m s w
 .exact Xed op n m s w
 .exact Xer k op n m s w a d
 .exact Xet k op n m s w a g
