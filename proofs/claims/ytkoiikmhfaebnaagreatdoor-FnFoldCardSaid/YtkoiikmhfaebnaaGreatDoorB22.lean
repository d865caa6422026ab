import Derived.Test.YtkoiikmhfaebnaaGreatDoorB18
import Derived.Test.YtkoiikmhfaebnaaGreatDoorB11
import Derived.Test.YtkoiikmhfaebnaaGreatDoorB19
import Derived.Test.YtkoiikmhfaebnaaGreatDoorB21
set_option maxHeartbeats 16000000
set_option maxRecDepth 100000
namespace Go.Proofs.YtkoiikmhfaebnaaGreatDoor
open Tryz Go.RowKit
variable (gb rb:Nat) (vb:Value) (n:Nat)
def A4[LB](d kd:Nat):Prop:=∀(q k:Nat) (kind:Int) (w:World),Gn gb rb vb n q k w->q+5*kd+40<=700000000->k+1+d<=900->Calls prog 212 #[.pointer (some ⟨gb,0,none⟩),.int .i64 kind,.int .i64 ((d:Int)+1)] w fun e w'=>GMk gb rb vb n q (4*kd+30) k w e w'
theorem Xdm[LB](d kd:Nat)(l:EAt gb rb vb n d kd)(c:GX gb rb vb n d kd)(a:kd<=1000000):A4 gb rb vb n d kd:=fun q k kind w h j g=>by
 have K:∀{i:Int},OfK gb rb vb n d kd i->kind=i->Calls prog 212 #[.pointer (some ⟨gb,0,none⟩),.int .i64 kind,.int .i64 ((d:Int)+1)] w fun e w'=>GMk gb rb vb n q (4*kd+30) k w e w':=fun H e=>by subst e;exact H l (fun q k kind w h j g=>X4m gb rb vb n d kd l q k kind w h j g a) c q k w h j g a
 by_cases m:kind=0
 .exact K (Xdp gb rb vb n d kd) m
 by_cases r:kind=1
 .exact K (Xdu gb rb vb n d kd) r
 by_cases s:kind=2
 .exact K (Xdn gb rb vb n d kd) s
 by_cases t:kind=3
 .exact K (Xds gb rb vb n d kd) t
 by_cases u:kind=4
 .exact K (Xdt gb rb vb n d kd) u
 exact K (Xdl gb rb vb n d kd m r s t u) rfl
theorem X4l[LB]:EAt gb rb vb n 0 40:=fun q k kind w h v u=>by
 obtain⟨c,d,j,c4⟩:=h.sz
 have t:=h.fr 4
 have B:GB gb rb vb n w [] (q+1) k (w.setCell ⟨gb,4,none⟩ (.int .i64 (c-1))):=⟨h.down (c:=c-1) (by omega) (by omega),.set h.V0 (by decide),trivial⟩
 have c0:=B.g.c0
 clear h
 go_enter func147,ntmps147
 go_wp2_with fail;refine(B.pk 40 (by omega)).mono ?_;rintro e w⟨z,r,rfl,c0,B⟩
 by_cases a:z=0
 .subst a
  go_wp2_with fail;refine(B.pk 6 (by omega)).mono ?_;rintro e w⟨z,r,rfl,c0,B⟩
  go_wp2_with fail;refine(B.nd (Mx gb rb vb n _ _ _ _ B.g (by omega))).mono ?_;rintro e w⟨g,c,l,rfl,m,c0,B⟩
  go_wp2
  go_ret
  exact B.ret (by omega)
 have s:((z:Int)==0)=false:=by simp;omega
 go_wp2_with fail;refine(B.nd (Mx gb rb vb n _ _ _ _ B.g (by omega))).mono ?_;rintro e w⟨g,c,l,rfl,m,c0,B⟩
 go_wp2
 go_ret
 exact B.ret (by omega)
theorem X4k[LB](d kd:Nat)(j:EAt gb rb vb n d kd)(m:A4 gb rb vb n d kd)(r:SG gb rb vb n d kd)(X:kd<=1000000):EAt gb rb vb n (d+1) (5*kd+60):=fun q k kind w h hq hk=>by
 rw[show((d+1:Nat):Int)=(d:Int)+1 from by omega]
 have a0:IntKind.i64.wrap (d:Int)=(d:Int):=by rw[Yt];omega
 have W:¬((d:Int)+1<=0):=by omega
 have j:=X1 j
 have m:=X1 m
 have r:=X1 r
 obtain⟨c,S,V,c4⟩:=h.sz
 have f4:=h.fr 4
 have B:GB gb rb vb n w [] (q+1) k (w.setCell ⟨gb,4,none⟩ (.int .i64 (c-1))):=⟨h.down (c:=c-1) (by omega) (by omega),.set h.V0 (by decide),trivial⟩
 have c0:=B.g.c0
 clear h
 go_enter func147,ntmps147
 go_wp2_with fail;refine(B.pk 40 (by omega)).mono ?_;rintro e w⟨z,D,rfl,c0,B⟩
 have K:z=0\/((z:Int)==0)=false:=by rcases Ly z with h|h;exact .inl h;exact .inr (by simp;omega)
 rcases K with rfl|a6
 focus go_wp2_with fail;refine(B.pk 6 (by omega)).mono ?_;rintro e w⟨z,D,rfl,c0,B⟩
 all_goals
  have B:=B.up (show _<=q+1+1+1 by omega)
  obtain⟨sz,sa,sb,sc⟩:=B.g.sz
  by_cases hs:sz<0
  .go_wp2_with fail;refine(B.nd (Mx gb rb vb n _ _ _ _ B.g (by omega))).mono ?_;rintro e w⟨g,c,l,rfl,a,c0,B⟩
   go_wp2
   go_ret
   exact B.ret (by omega)
  go_wp2_with fail;refine(B.pk 5 (by omega)).mono ?_;rintro e w⟨z,D,rfl,c0,B⟩
  by_cases Y:z=0
  .subst Y
   go_wp2_with fail;refine(B.nd (Mx gb rb vb n _ _ _ _ B.g (by omega))).mono ?_;rintro e w⟨g,c,l,rfl,a,c0,B⟩
   go_wp2
   go_ret
   exact B.ret (by omega)
  have Z:((z:Int)==0)=false:=by simp;omega
  go_wp2_with fail;refine(B.pk 10 (by omega)).mono ?_;rintro e w⟨z,D,rfl,c0,B⟩
  by_cases F:z=0
  .subst F
   go_wp2_with fail;refine(B.e j.o (by omega)).mono ?_;rintro e w⟨g,c,l,rfl,a,c0,B⟩
   go_wp2_with fail;refine(B.e j.o (by omega)).mono ?_;rintro e w⟨g,c,l,rfl,a,c0,B⟩
   go_wp2_with fail;refine(B.e j.o (by omega)).mono ?_;rintro e w⟨g,c,l,rfl,a,c0,B⟩
   go_wp2_with fail;refine(B.o3 ⟨13,0,0,⟨#[]⟩,0⟩ (by omega)).mono ?_;rintro e w⟨g,c,l,rfl,a,c0,B⟩
   go_wp2
   go_ret
   exact B.ret (by omega)
  by_cases H:z=1
  .subst H
   go_wp2_with fail;refine(B.f (by omega)).mono ?_;rintro e w⟨t1,rfl,c0,B⟩
   go_wp2_with fail;refine(B.pk 6 (by omega)).mono ?_;rintro e w⟨z,D,rfl,c0,B⟩
   go_wp2_with fail;refine(B.e j.o (by omega)).mono ?_;rintro e w⟨g,c,l,rfl,a,c0,B⟩
   go_wp2_with fail;refine(B.i j.o (by omega)).mono ?_;rintro e w⟨g,c,l,rfl,a,c0,B⟩
   go_wp2_with fail;refine(B.o2 ⟨14,0,0,t1,0⟩ (by omega)).mono ?_;rintro e w⟨g,c,l,rfl,a,c0,B⟩
   go_wp2
   go_ret
   exact B.ret (by omega)
  by_cases I:z=2
  .subst I
   go_wp2_with fail;refine(B.f (by omega)).mono ?_;rintro e w⟨N,rfl,c0,B⟩
   have B:=B.bx ⟨19,0,0,N,0⟩
   have a:([⟨19,0,0,N,0⟩]:List Nd).length<=1:=X4 _
   go_wp2_with fail;refine(B.i j.o (by omega)).mono ?_;rintro e w⟨g,c,l,rfl,a,c0,B⟩
   go_wp2_with fail;refine(B.o2 ⟨15,0,0,⟨#[]⟩,0⟩ (by omega)).mono ?_;rintro e w⟨g,c,l,rfl,a,c0,B⟩
   go_wp2_with fail;refine(B.e j.o (by omega)).mono ?_;rintro e w⟨g,c,l,rfl,a,c0,B⟩
   go_wp2_with fail;refine(B.o2 ⟨12,0,0,⟨#[]⟩,0⟩ (by omega)).mono ?_;rintro e w⟨g,c,l,rfl,a,c0,B⟩
   go_wp2
   go_ret
   exact B.ret (by omega)
  by_cases J:z=3\/z=4
  .rcases J with rfl|rfl
   all_goals
    go_wp2_with fail;refine(r.o _ _ _ _ B.g (by omega) (by omega)).mono ?_;rintro e w1⟨v,l,Q,rfl,A,y,E,M,sp,si,sx,rfl⟩
    have u:=X1 A
    have s:=X1 y
    have L:=X1 (B.t.trans M)
    have P:=X1 E
    have c0:=E.c0
    clear A y E M
    cases Q
    .have B:GB gb rb vb n _ [] _ k w1:=⟨s.o rfl,L.o,trivial⟩
     go_wp2_with fail;refine(B.nd (m.o _ _ _ _ B.g (by omega) (by omega))).mono ?_;rintro e w⟨g,c,l,rfl,a,c0,B⟩
     go_wp2
     go_ret
     exact B.ret (by omega)
    .obtain⟨C,p0,m0⟩:=u.o rfl
     have B:GB gb rb vb n _ [(_,l)] _ k w1:=⟨P.o,L.o,⟨C,p0⟩,trivial⟩
     clear C u s
     go_wp2
     go_ret
     exact B.ret (by omega)
  have a1:((z:Int)==0)=false:=by simp;omega
  have a2:((z:Int)==1)=false:=by simp;omega
  have a3:((z:Int)==2)=false:=by simp;omega
  have a4:((z:Int)==3)=false:=by simp;omega
  have a5:((z:Int)==4)=false:=by simp;omega
  go_wp2_with fail;refine(B.nd (m.o _ _ _ _ B.g (by omega) (by omega))).mono ?_;rintro e w⟨g,c,l,rfl,a,c0,B⟩
  go_wp2
  go_ret
  exact B.ret (by omega)
theorem X4j[LB](gb rb:Nat)(vb:Value)(n:Nat)(c:∀d kd,EAt gb rb vb n d kd->kd<=1000000->GX gb rb vb n d kd):EAt gb rb vb n 1 260/\EAt gb rb vb n 3 6860/\EAt gb rb vb n 4 34360:=by
 have st:∀d kd,EAt gb rb vb n d kd->kd<=1000000->EAt gb rb vb n (d+1) (5*kd+60):=fun d kd h a=>X4k gb rb vb n d kd h (Xdm gb rb vb n d kd h (c d kd h a) a) (X1x gb rb vb n d kd h a) a;have k:=X4l gb rb vb n;have g:=st 0 40 k (by decide);have l:=st 1 260 g (by decide);have j:=st 2 1360 l (by decide);exact⟨g,j,st 3 6860 j (by decide)⟩
theorem X6s[LB]{rb n p:Nat}{vb:Value}{w:World}(h:Rd w rb vb n p)(z:Int)(c:0<=z)(a:z<=1000):Gn w.heap.size rb vb n p 0 (w.alloc (.cells #[.pointer (some ⟨rb,0,none⟩),.slice none 0 0,.slice none 0 0,.int .i64 0,.int .i64 z] 150)):=⟨⟨p,X4 _,h.XH (bA _)⟩,h.lt,Om _ _ _,by simp,⟨_,[],by simp,ZJ _ _ _ _,fun _ hi=>absurd hi (U8 _)⟩,⟨_,0,[],by simp,ZJ _ _ _ _,X6 _,fun _ hi=>absurd hi (U8 _)⟩,⟨0,X6 _,by simp⟩,⟨z,by omega,a,by simp⟩,fun j=>by simp,X6 _⟩
theorem Y0q[LB](rb:Nat)(vb:Value)(n:Nat)(m:∀gb d kd,EAt gb rb vb n d kd->kd<=1000000->GX gb rb vb n d kd)(k:∀gb,EAt gb rb vb n 1 260->EAt gb rb vb n 3 6860->OG gb rb vb n)(q:Nat)(w:World)(h:Rq rb vb n q w)(hq:q<=90000000):Calls prog 28 #[.pointer (some ⟨rb,0,none⟩)] w fun e w'=>RTk rb vb n q 250010 w e w':=by
 have a1:=h.lt;have Y:BL w (w.alloc (.cells #[.slice none 0 0] 25)):=bA _;have L:=X1 (h.below Y);have N:Hid (Ty w (w.alloc (.cells #[.slice none 0 0] 25))):=X1 (.of Y);have V:Hid ((w.alloc (.cells #[.slice none 0 0] 25)).heap[w.heap.size]?=some (.cells #[.slice none 0 0] 25)):=X1 (XM w _);have m:=X1 m;have k:=X1 k;clear Y h;go_enter func28,ntmps28;go_wp2_with fail;refine(Rq.pick L.o (by omega) 80 (by omega) (by omega)).mono ?_;rintro e w1⟨y,a8,rfl,a0,s⟩;obtain⟨p1,a6,r⟩:=a0;have c:=X6s r (20+(y:Int)) (by omega) (by omega);have a5:=r.lt;have Z:BL w1 (w1.alloc (.cells #[.pointer (some ⟨rb,0,none⟩),.slice none 0 0,.slice none 0 0,.int .i64 0,.int .i64 (20+(y:Int))] 150)):=bA _;have A:Below (w1.alloc (.cells #[.pointer (some ⟨rb,0,none⟩),.slice none 0 0,.slice none 0 0,.int .i64 0,.int .i64 (20+(y:Int))] 150)).heap.size (w1.alloc (.cells #[.pointer (some ⟨rb,0,none⟩),.slice none 0 0,.slice none 0 0,.int .i64 0,.int .i64 (20+(y:Int))] 150)) ((w1.alloc (.cells #[.pointer (some ⟨rb,0,none⟩),.slice none 0 0,.slice none 0 0,.int .i64 0,.int .i64 (20+(y:Int))] 150)).alloc (.cells #[] 23)):=bA _;have C:Fm w1.heap.size 0 (w1.alloc (.cells #[.pointer (some ⟨rb,0,none⟩),.slice none 0 0,.slice none 0 0,.int .i64 0,.int .i64 (20+(y:Int))] 150)):=⟨none,0,0,X4 _,by simp⟩;have l:=X1 (c.below A);have H:=X1 (C.ty c.ty c.lt (.of A));have P:=X1 (((N.o.trans s).trans (.of Z)).trans (.of A));have W:=X1 (TyM.same (TyM.same (Ty.same s V.o VD) Z) A);clear c Z A C s r;go_wp2_with fail;refine(Gn.pick l.o (by omega) 5 (by omega) (by omega)).mono ?_;rintro e w3⟨z3,a9,rfl,D,g⟩;have I:=X1 (H.o.ty l.o.ty l.o.lt g);have J:=X1 D;have Q:=X1 (P.o.trans g);have X:=X1 (Ty.same g W.o VD);clear D g;obtain⟨x1,x3,x4⟩:=X4j w1.heap.size rb vb n (m.o w1.heap.size);have z:=X1 (X4y w1.heap.size rb vb n x3 x4 (k.o _ x1 x3) p1.succ (w1.heap.size+1) (1+z3) w3 J.o I.o (by omega) (by omega));rw[show((1+z3:Nat):Int)=1+(z3:Int)from by omega]at z
 clear x1 x3 x4;go_wp2_with fail;refine z.o.mono ?_;rintro e w4⟨v4,u,k4,rfl,j,a4,b3,E,t⟩;obtain⟨B,c4,a3⟩:=j.form a4;subst a3;obtain⟨p4,a7,F⟩:=E.R;have a:=Tf.same t X.o Dd;have t0:=(ZK a).1;have ft:=(ZK a).2;have a2:Xm w4 w.heap.size≠some 48:=by unfold Xm;rw[a];decide
 have K:Hid (NR (w4.setCell ⟨w.heap.size,0,none⟩ (.slice (some ⟨B,0,none⟩) u.length c4)) (.slice (some ⟨B,0,none⟩) u.length c4) u):=X1 ⟨Kc j.1 a2,j.2⟩;have M:=X1 (Rq.set (o:=0) (v:= .slice (some ⟨B,0,none⟩) u.length c4) (show Rq rb vb n (q+250010) w4 from⟨p4,by omega,F⟩) a1);have S:=X1 (Uq (o:=0) (v:= .slice (some ⟨B,0,none⟩) u.length c4) ((Ty.tf Q.o).trans t) (X4 _));clear j a E t F;go_wp2;exact X7 (v:= .agg #[.slice (some ⟨B,0,none⟩) u.length c4]) (by simp[results,results28,go_sem,t0]) rfl ⟨_,_,rfl,K.o,by omega,M.o,S.o⟩
def StW(d:De)(S:Kz)(p c:Nat)(e:Ending)(w':World):Prop:=e= .returned (.tuple #[])/\∃p',p<=p'/\WK d S p' c w'/\(p<p'\/Bd d w')
theorem Y2q{d:De}{p:Nat}(hE:∀q,WE d q)(hP:∀q,p<q->Wn d 141 q):∀S c w,WK d S p c w->Calls prog 75 #[.pointer (some ⟨d.b,0,none⟩)] w (StW d S p c):=by
 intro S c w h;go_enter func75,ntmps75;go_wp2_with fail;refine(Zn h _).mono ?_;rintro e w1⟨r,rfl,⟨rfl,D⟩|⟨rfl,D⟩⟩
 .go_wp2_with fail;refine(Zn D _).mono ?_;rintro e w2⟨r,rfl,⟨rfl,E⟩|⟨rfl,E⟩⟩
  .go_wp2_with fail;refine(Zn E _).mono ?_;rintro e w3⟨r,rfl,⟨rfl,M⟩|⟨rfl,M⟩⟩
   .go_wp2_with fail;refine(Zn M _).mono ?_;rintro e w4⟨r,rfl,⟨rfl,m⟩|⟨rfl,m⟩⟩
    .go_wp2_with fail;refine(Wp m).mono ?_;rintro e i4⟨rfl,a7,hB⟩;go_wp2_with fail;refine(Xcr a7 hB _).mono ?_;rintro e i5⟨rfl,a8,a9⟩;go_wp2;go_end0;exact⟨rfl,_,X4 _,a8,.inr a9⟩
    .have b3:=m.KH.1;have b2:=m.le;obtain⟨x,hx⟩:∃x,x=Ys d (p+1):=⟨_,rfl⟩;have l:¬p+1<d.ts.length->(x.kind:Int)=0:=fun e=>by rw[hx,GC e];rfl
     go_wp2_with fail;refine(Wt m).mono ?_;rintro e v1⟨rfl,b1⟩;rw[←hx];unfold Jl;generalize(x.kind:Int)=k at *;have A:=m.below b1;have j:=A.fresh;have n:=A.box (Ut k x);obtain⟨bad,a,v,out,B,-⟩:=n.st;obtain⟨-,-,c2,-,-,-,f⟩:=Z2 B;have C:=f 2;obtain⟨y0,-⟩:=Dm n.boxed;clear B f b1 hx;by_cases k4:k=4
     .have hp:p+1<d.ts.length:=by by_cases e:p+1<d.ts.length;exact e;have:=l e;omega
      have k2:=n.adv hp;have b0:=k2.le;have K0:=X1 A;have s:=X1 j;subst k4;unfold Ut at y0 c2 C n k2;clear l A j;go_wp2_with fail;refine(Z7 k2 _).mono ?_;rintro e f6⟨rfl,b4,d7,y⟩;clear y0 c2 C;go_wp2_with fail;go_loopw[6] (fun t wr=>∃(z:Int) (q:Nat),t= .int .i64 z/\p<q/\WK d (Jm S v1.heap.size (Ut 4 x)) q (c+2) wr) (fun _ wr=>wl d wr)
      case atStart=>exact⟨0,_,rfl,by omega,y.mono (by omega)⟩
      case round=>
       obtain⟨z,q,rfl,hq,u⟩:=hrel;have hR:=u;obtain⟨bad,a,v,out,B,-⟩:=u.st;obtain⟨-,-,-,c3,-⟩:=Z2 B;clear B;clear y;cases bad
       .go_wp2_with fail;refine(Wg u).mono ?_;rintro e f7⟨f3,b5,rfl,d8,F⟩;go_wp2_with fail;refine(Zh F (by decide)).mono ?_;rintro e f8⟨rfl,H⟩;clear c3;go_wp2_with fail;refine(Zn H _).mono ?_;rintro e f9⟨r,rfl,⟨rfl,g⟩|⟨rfl,g⟩⟩
        .obtain⟨-,u1,-⟩:=Dm g.boxed;go_wp2_with fail;refine(Zh g (by decide)).mono ?_;rintro e g0⟨rfl,I⟩;have hU:=I.unbox K0.o s.o;go_wp2_with fail;refine(Z7 hU _).mono ?_;rintro e g1⟨rfl,b6,d9,J⟩;go_wp2;go_end0;exact⟨rfl,_,by omega,J.mono (by omega),.inl (by omega)⟩
        .go_wp2;go_roundw
         case rel=>exact⟨_,_,rfl,by omega,g.mono (by omega)⟩
         case measure=>rw[g.wl,hR.wl];have:=g.le;omega
       .obtain⟨-,u1,-⟩:=Dm u.boxed;go_wp2_with fail;refine(Zh u (by decide)).mono ?_;rintro e g2⟨rfl,K⟩;have hU:=K.unbox K0.o s.o;go_wp2_with fail;refine(Z7 hU _).mono ?_;rintro e g3⟨rfl,b7,e0,L⟩;go_wp2;go_end0;exact⟨rfl,_,by omega,L.mono (by omega),.inl (by omega)⟩
     unfold Ut at y0 n;clear l c2 C;go_wp2_with fail;refine(Wp n).mono ?_;rintro e g4⟨rfl,N,-⟩;go_wp2;refine X7 (Yf rfl _ _ _) rfl ?_;exact⟨rfl,_,by omega,(N.mono (by omega)).unbox A j,.inl (by omega)⟩
   .go_wp2_with fail;refine(hE _ _ _ _ M).mono ?_;rintro e g5⟨rfl,b8,e1,P⟩;go_wp2_with fail;refine(Zh P (by decide)).mono ?_;rintro e g6⟨rfl,Q⟩;go_wp2_with fail;refine(Z7 Q _).mono ?_;rintro e g7⟨rfl,b9,e2,V⟩;go_wp2;go_end0;exact⟨rfl,_,by omega,V.mono (by omega),.inl (by omega)⟩
  .go_wp2_with fail;refine(Wg E).mono ?_;rintro e g8⟨f4,c8,rfl,e3,W⟩;go_wp2_with fail;refine(Z7 W _).mono ?_;rintro e g9⟨rfl,c9,e4,X⟩;go_wp2_with fail;refine(hE _ _ _ _ X).mono ?_;rintro e h5⟨rfl,d0,e5,Y⟩;go_wp2_with fail;refine(Zh Y (by decide)).mono ?_;rintro e h6⟨rfl,Z⟩;go_wp2_with fail;refine(Z7 Z _).mono ?_;rintro e h7⟨rfl,d1,e6,a0⟩;go_wp2;go_end0;exact⟨rfl,_,by omega,a0.mono (by omega),.inl (by omega)⟩
 .go_wp2_with fail;refine(Wg D).mono ?_;rintro e h8⟨f5,d2,rfl,e7,a1⟩;go_wp2_with fail;refine(hP _ (by omega) _ _ _ a1).mono ?_;rintro e h9⟨i6,d3,rfl,e8,a2⟩;go_wp2_with fail;refine(Z7 a2 _).mono ?_;rintro e i0⟨rfl,d4,e9,a3⟩;go_wp2_with fail;refine(hE _ _ _ _ a3).mono ?_;rintro e i1⟨rfl,d5,f0,a4⟩;go_wp2_with fail;refine(Zh a4 (by decide)).mono ?_;rintro e i2⟨rfl,a5⟩;go_wp2_with fail;refine(Z7 a5 _).mono ?_;rintro e i3⟨rfl,d6,f1,a6⟩;go_wp2;go_end0;exact⟨rfl,_,by omega,a6.mono (by omega),.inl (by omega)⟩
theorem Wm.past{d:De}{f:FuncId}{a:List Value}{q:Nat}(c:d.ts.length<q):Wm d f a q:=fun _ _ _ h=>absurd h.le (by omega)
theorem F8(d:De)(p:Nat)(c:∀q,p<q->WE d q/\WO d 3 q/\WO d 7 q):WE d p/\WO d 3 p/\WO d 7 p:=by
 have E:∀q,p<q->WE d q:=fun q a=>(c q a).1;have G:∀q,p<q->∀q',q<=q'->WE d q':=fun q a q' k=>E q' (by omega);have j:WO d 7 p:=Xer (fun q a=>(c q a).2.2) (Y0n (Y2c E (fun q a=>Xbn (G q a)) (fun q a=>Y1f (G q a))) E (fun q a=>X0n (G q a)));have t:∀q,p<=q->WO d 7 q:=fun q a=>by rcases Nat.eq_or_lt_of_le a with rfl|a;exact j;exact(c q a).2.2
 have s:∀q,p<=q->WO d 6 q:=fun q a=>L1 6 (by omega) (by omega) (by omega) (fun q' h=>t q' (by omega));have r:∀q,p<=q->WO d 5 q:=fun q a=>L1 5 (by omega) (by omega) (by omega) (fun q' h=>s q' (by omega));have n:∀q,p<=q->WO d 4 q:=fun q a=>L1 4 (by omega) (by omega) (by omega) (fun q' h=>r q' (by omega));have g:WO d 3 p:=Xeq (fun q a=>(c q a).2.1) (n p (X4 _));have m:∀q,p<=q->WO d 3 q:=fun q a=>by rcases Nat.eq_or_lt_of_le a with rfl|a;exact g;exact(c q a).2.1
 have l:∀q,p<=q->WO d 2 q:=fun q a=>L1 2 (by omega) (by omega) (by omega) (fun q' h=>m q' (by omega));exact⟨e_w E (fun q a=>Ey (G q a)) (L1 1 (by omega) (by omega) (by omega) (fun q' h=>l q' (by omega))),g,j⟩
theorem X0h(d:De):∀(n p:Nat),d.ts.length-p<=n->WE d p/\WO d 3 p/\WO d 7 p:=by
 intro n;induction n with
 | zero=>exact fun p a=>F8 d p (fun q c=>⟨.past (by omega),.past (by omega),.past (by omega)⟩)
 | succ n g=>exact fun p a=>F8 d p (fun q c=>by
   by_cases j:q<=d.ts.length
   .exact g q (by omega)
   .exact⟨.past (by omega),.past (by omega),.past (by omega)⟩)
theorem Bu(d:De)(p:Nat):WE d p:=(X0h d _ p (X4 _)).1
theorem Y2o(d:De)(p:Nat):∀S c w,WK d S p c w->Calls prog 75 #[.pointer (some ⟨d.b,0,none⟩)] w (StW d S p c):=Y2q (Bu d) (fun _ _=>Ey (fun q _=>Bu d q))
theorem Fd.C3(t:ByteArray)(y:Fd)(r:List Fd):Fd.KG t (y::r)=if r=[]then 1 else if y.x.text=t then 1 else 1+Fd.KG t r:=by rw[Fd.KG]
theorem Fg{t s:ByteArray}(h:t≠s):(t.toList==s.toList)=false:=by
 cases e:(t.toList==s.toList)
 .rfl
 .exact absurd (by
   have a:t.toList=s.toList:=by simpa using e
   rw[VP,VP]at a;exact Wx (Ww.1 a)) h
theorem X8z(k o m c:Int)(t s:ByteArray)(ks:List Fd)(sl:Value)(xs:List Value)(w:World)(j:w.ownsRow 0 44 1 sl ks.length xs)(z:∀q,sl.ownBlock=some q->q<w.heap.size)(hk:Fd.Pt.ptL (fun q=>q<w.heap.size) w ks xs)(h0:0<ks.length)(hl:ks.length<=1000000): Calls prog 327 #[.agg #[.int .i64 k,.int .i64 o,.int .i64 m,.string t,.int .i64 c,sl],.string s] w fun e w'=>e= .returned (.int .i64 (Fd.KG s ks:Int))/\Below w.heap.size w w':=by
 obtain⟨g,u,a1⟩:=Q3 j h0;subst a1;have a6:ks.length<=u:=by
  rcases j.2 with⟨h1,_⟩|⟨g',a9,b1,hv,_,_,hc,_⟩
  .cases h1
  .cases hv;exact hc
 have b0:BL w (w.alloc (.cells #[.int .i64 k,.int .i64 o,.int .i64 m,.string t,.int .i64 c,.slice (some ⟨g,0,none⟩) ks.length u] 202)):=bA _;have Y:=X1 b0;have HR:=X1 j;have HK:=X1 hk;have Z:=z g rfl;have HX:Hid ((w.alloc (.cells #[.int .i64 k,.int .i64 o,.int .i64 m,.string t,.int .i64 c,.slice (some ⟨g,0,none⟩) ks.length u] 202)).cell? ⟨w.heap.size,5,none⟩=some (.slice (some ⟨g,0,none⟩) ks.length u)/\w.heap.size<(w.alloc (.cells #[.int .i64 k,.int .i64 o,.int .i64 m,.string t,.int .i64 c,.slice (some ⟨g,0,none⟩) ks.length u] 202)).heap.size):=X1 ⟨by simp,by simp⟩;have ew:IntKind.i64.wrap ((ks.length:Int)-1)=((ks.length-1:Nat):Int):=by rw[Yt];omega
 have b3:((ks.length-1:Nat):Int)<=(u:Int):=by omega
 have a7:ks.length-1<=u:=by omega
 clear j hk z b0;go_enter func327,ntmps327;go_wp2_with fail;go_loopw[19] (fun iv wr=>∃i:Nat,i<=ks.length-1/\iv= .int .i64 (i:Int)/\Fd.KG s ks=i+Fd.KG s (ks.drop i)/\BL w wr/\wr.cell? ⟨w.heap.size,5,none⟩=some (.slice (some ⟨g,0,none⟩) ks.length u)/\w.heap.size<wr.heap.size) (fun iv _=>ks.length-(intOf iv).toNat)
 case atStart=>exact⟨0,X6 _,rfl,by simp,Y.o,HX.o.1,HX.o.2⟩
 case round=>
  obtain⟨i,hi,rfl,J,z,a4,a0⟩:=hrel;have X:=X1 z;have y:=X1 J;clear J;by_cases b4:i<ks.length-1
  .have L:(i:Int)<((ks.length-1:Nat):Int):=by omega
   obtain⟨ai,H,B⟩:=Fd.Gi i HK.o (by omega);have M:w.cell? ⟨g,i,none⟩=some ai:=ZF HR.o H;obtain⟨yi,C⟩:∃yi,yi=ks[i]:=⟨_,rfl⟩;rw[←C]at B;obtain⟨⟨S,W,V,v,yc⟩,yp,yb,l⟩:=yi;obtain⟨b6,b7,hu,yr,_⟩:=(Fd.Q2 _ _ _ _ _ _ _).1 B;obtain⟨P,N,a5⟩:=YV yr;subst a5;subst hu;have ke:=(z.cell (p:=⟨g,i,none⟩) Z).trans M;unfold Fd.nk Ip.pv at ke;have b5:=Dc S W V (l.length:Int) v (.slice P l.length N);have Q:=X1 (D5 S W V (l.length:Int) v (.slice P l.length N) ⟨_,_,_,rfl⟩ wr);have I:ks.drop i=(.mk ⟨S,W,V,v,yc⟩ yp yb l)::ks.drop (i+1):=by rw[Zp (by omega),C]
   have hne:ks.drop (i+1)≠[]:=by
    intro e;have:=Zd List.length e;rw[YA,ZN]at this;omega
   have A:=Fd.C3 s (.mk ⟨S,W,V,v,yc⟩ yp yb l) (ks.drop (i+1));rw[←I,X2 hne]at A;have F:Hid (Fd.KG s (ks.drop i)=if v=s then 1 else 1+Fd.KG s (ks.drop (i+1))):=X1 A;clear B yr M H C I hne A z;go_wp2_with fail;refine Q.o.mono ?_;rintro e w2⟨rfl,n⟩;have D:=X1 (X.o.trans (n.mono X.o.size));have a3:=(n.cell (p:=⟨w.heap.size,5,none⟩) a0).trans a4;have a8:=n.size;clear n Q;by_cases r:v=s
   .have E:Hid (Fd.KG s ks=i+1):=X1 (by rw[y.o,F.o,X3 r]);subst r;have b2:IntKind.i64.wrap ((i:Int)+1)=((i+1:Nat):Int):=by rw[Yt];omega
    go_wp2;change(?K:Act->World->Prop) (Act.put ?a ?d (Value.string v)) ?w;go_wp2;go_ret;exact⟨by rw[E.o];rfl,D.o⟩
   .have hf:=Fg r;have E:Hid (Fd.KG s ks=(i+1)+Fd.KG s (ks.drop (i+1))):=X1 (by rw[y.o,F.o,X2 r];omega);go_wp2;change(?K2:Act->World->Prop) (Act.put ?a2 ?d2 (Value.string v)) ?w2;go_wp2;go_roundw
    case rel=>exact⟨i+1,by omega,by go_num,E.o,D.o,a3,by omega⟩
    case measure=>simp[intOf];omega
  .obtain rfl:i=ks.length-1:=by omega
   have L:¬(((ks.length-1:Nat):Int)<((ks.length-1:Nat):Int)):=by omega
   have E:Hid (Fd.KG s ks=ks.length):=X1 (by
    have hd:ks.drop (ks.length-1)=[ks[ks.length-1]]:=by
     rw[Zp (by omega),List.drop_eq_nil_of_le (by omega)]
    rw[y.o,hd,Fd.C3,X3 rfl];omega)
   clear z;go_wp2;go_ret;exact⟨by rw[E.o];rfl,X.o⟩
def Lw(v:Value)(name:String)(u:Value)(w:World)(P:Value->World->Prop):Prop:=∃f r,(callMethod v name #[u]).run prog w= .ok (.enter f r) w/\Calls prog f r w fun e w'=>∃z,e= .returned z/\P z w'
theorem SD{g:Array Oper}{Q:Exit->Act->World->Prop}{a:Act}{w:World}{d:List Oper}{o:Oper}{c:String}(n:o.guard=none)(x y:Operand)(C:Array TypeId)(j:o.op=Op.call {callee:=Callee.invoke x c,args:=#[y],argTypes:=C})(v u:Value)(P:Value->World->Prop)(A:a.eval x=v)(B:a.eval y=u)(s:Lw v c u w P)(m:∀z w',P z w'->wpList prog g Q d (a.put o.dst z) w'):wpList prog g Q (o::d) a w:=by
 refine wpList_step (fun K hKK=>?_);have t:Region.wanted o (yielded g a.tmps)=true:=by simp[Region.wanted,n]
 rw[X3 t];obtain⟨f,r,q,l⟩:=s;unfold Oper.wp;simp only[execOp,j,resolve,invoke,KP,Yc,Xu,A,B,Zk,QM,Zj];simp[q];refine l.mono fun e D h=>?_;obtain⟨z,rfl,k⟩:=h;exact hKK _ _ (m _ _ k)
theorem X2c{k:Int}(a:k≠14)(d:k≠15)(g:k≠16)(o m c:Int)(t s:ByteArray)(j:Value)(w:World):(callMethod (.iface (Ip.ty k) (Ip.ag k o m c t j)) "loop.example/kilnclay/impl.open" #[.string s]).run prog w= .ok (.enter 295 #[Ip.ag k o m c t j,.string s]) w:=by
 have l:∀T∈([192,193,194,195,196,197,198,199,200,204,205,206,207,208,209,210,211,212]:List TypeId),(callMethod (.iface T (Ip.ag k o m c t j)) "loop.example/kilnclay/impl.open" #[.string s]).run prog w= .ok (.enter 295 #[Ip.ag k o m c t j,.string s]) w:=by
  clear a d g;intro T n;simp only[Y6,ZA,Zy]at n;rcases n with rfl|rfl|rfl|rfl|rfl|rfl|rfl|rfl|rfl|rfl|rfl|rfl|rfl|rfl|rfl|rfl|rfl|rfl<;>kernel_rfl
 exact l _ (Ip.Y4y a d g)
theorem X2b(o m c:Int)(t s:ByteArray)(a:Value)(w:World):(callMethod (.iface (Ip.ty 14) (Ip.ag 14 o m c t a)) "loop.example/kilnclay/impl.open" #[.string s]).run prog w= .ok (.enter 322 #[Ip.ag 14 o m c t a,.string s]) w:=by kernel_rfl
theorem X1z(o m c:Int)(t s:ByteArray)(a:Value)(w:World):(callMethod (.iface (Ip.ty 16) (Ip.ag 16 o m c t a)) "loop.example/kilnclay/impl.open" #[.string s]).run prog w= .ok (.enter 330 #[Ip.ag 16 o m c t a,.string s]) w:=by kernel_rfl
theorem X2a(o m c:Int)(t s:ByteArray)(a:Value)(w:World):(callMethod (.iface (Ip.ty 15) (Ip.ag 15 o m c t a)) "loop.example/kilnclay/impl.open" #[.string s]).run prog w= .ok (.enter 327 #[Ip.ag 15 o m c t a,.string s]) w:=by kernel_rfl
theorem Xel{B:Nat->Prop}(x:Nd)(ks:List Fd)(s:ByteArray)(l:Value)(u:List Value)(w:World)(y:∀q,B q->q<w.heap.size)(A:w.ownsRow 0 44 1 l ks.length u)(F:∀q,l.ownBlock=some q->B q)(D:Fd.Pt.ptL B w ks u)(C:Fd.Loc x ks)(E:ks.length<=1000000): Lw (Ip.pv (Fd.nk x ks.length) l) "loop.example/kilnclay/impl.open" (.string s) w fun z w'=>z= .int .i64 (Fd.opn s x ks:Nat)/\Below w.heap.size w w':=by
 obtain⟨p,j,rfl⟩:=YV A;obtain⟨k,o,m,t,c⟩:=x;have fin:∀{f:FuncId} {r:Array Value} {n:Nat},n=Fd.opn s ⟨k,o,m,t,c⟩ ks->(Calls prog f r w fun e w'=>e= .returned (.int .i64 (n:Int))/\BL w w')->Calls prog f r w fun e w'=>∃z,e= .returned z/\z= .int .i64 (Fd.opn s ⟨k,o,m,t,c⟩ ks:Nat)/\BL w w':=fun e h=>h.mono fun e' w' v=>⟨_,v.1,by rw[e],v.2⟩;by_cases d:k=14
 .subst d;refine⟨_,_,X2b _ _ _ _ _ _ _,fin ?_ (X9a 14 o m ks.length t s p ks.length j w)⟩;show _=Fd.opn s _ _;unfold Fd.opn;exact(X3 (Or.inl rfl)).symm
 .by_cases g:k=16
  .subst g;refine⟨_,_,X1z _ _ _ _ _ _ _,fin ?_ (X8y 16 o m ks.length t s p ks.length j w)⟩;show _=Fd.opn s _ _;unfold Fd.opn;exact(X3 (Or.inr rfl)).symm
  .by_cases a:k=15
   .subst a;refine⟨_,_,X2a _ _ _ _ _ _ _,fin ?_ (X8z 15 o m ks.length t s ks _ u w A (fun q e=>y q (F q e)) (Fd.QW y (fun _ _=>rfl) D) (C.fn rfl) E)⟩;show _=Fd.opn s _ _;unfold Fd.opn;rw[X2 (by show ¬((15:Int)=14\/(15:Int)=16);omega),X3 rfl]
   .refine⟨_,_,X2c d a g _ _ _ _ _ _ _,fin ?_ (X9b k o m ks.length t s p ks.length j w)⟩;show _=Fd.opn s _ _;unfold Fd.opn;rw[X2 (by show ¬(k=14\/k=16);omega),X2 a]
theorem Fd.Y0r{B:Nat->Prop}{w:World}{g i:Nat}{z:Value}(c:∀q,B q->q≠g){l:List Fd}{a:List Value}(h:Fd.Pt.ptL B w l a):Fd.Pt.ptL B (w.setCell ⟨g,i,none⟩ z) l a:=Fd.QW (fun _ e=>e) (fun q e=>UY (c q e)) h
theorem Fd.ED{B:Nat->Prop}{w:World}{t:Fd}{v:Value}(j:Fd.Pt B w t v):∀{l:List Fd} {c:List Value} (i:Nat),Fd.Pt.ptL B w l c->Fd.Pt.ptL B w (l.set i t) (c.set i v)
 | [],c,i,h=>by rw[(Fd.Qh w c).1 h];exact(Fd.Qh _ _).2 (by simp)
 | y::r,c,0,h=>by
  obtain⟨a,s,rfl,g,d⟩:=(Fd.Ka w y r c).1 h;exact(Fd.Ka _ _ _ _).2 ⟨v,s,rfl,j,d⟩
 | y::r,c,i+1,h=>by
  obtain⟨a,s,rfl,g,d⟩:=(Fd.Ka w y r c).1 h;exact(Fd.Ka _ _ _ _).2 ⟨a,s.set i v,rfl,g,Fd.ED j i d⟩
theorem Fd.RR{B:Nat->Prop}{w:World}:∀{l:List Fd} {d:List Value},Fd.Pt.ptL B w l d->∀u∈d,u.oneCell'=true
 | [],d,h,u,c=>by rw[(Fd.Qh w d).1 h]at c;cases c
 | y::r,d,h,u,c=>by
  obtain⟨a,s,rfl,g,j⟩:=(Fd.Ka w y r d).1 h;rcases Y6.1 c with rfl|c
  .obtain⟨t,z,rfl⟩:=g.iface;rfl
  .exact Fd.RR j u c
theorem Y1m{w:World}{p:Option Addr}{n c:Nat}{a:List Value}(h:w.ownsRow 0 44 1 (.slice p n c) n a)(d:∀q,(Value.slice p n c).ownBlock=some q->q<w.heap.size)(m:a.length=n):GZ w p a:=by
 by_cases k:0<n
 .obtain⟨g,c',e⟩:=Q3 h k;cases e;refine .inr ⟨g,0,rfl,d g rfl,fun j u l=>?_⟩;rw[Xn];exact ZF h l
 .exact .inl (JC (by omega))
def Fd.part(t:ByteArray)(c:Nd)(ks:List Fd)(i:Nat):List Fd:=(ks.take i).map (Fd.fill t c)++ks.drop i
theorem Fd.RP(t:ByteArray)(c:Nd)(ks:List Fd)(i:Nat)(h:i<=ks.length):(Fd.part t c ks i).length=ks.length:=by
 unfold Fd.part;rw[Xo,Z9,YM,YA];omega
theorem Fd.Xfa(t:ByteArray)(c:Nd)(ks:List Fd)(i:Nat)(h:i<ks.length):(Fd.part t c ks i)[i]?=some ks[i]:=by
 unfold Fd.part;rw[K6 (by rw[Z9,YM];omega),Z9,YM,QL (by omega),WC,Lr,WA,YH h]
theorem Fd.Xfb(t:ByteArray)(c:Nd)(ks:List Fd)(i:Nat)(h:i<ks.length):(Fd.part t c ks i).set i (Fd.fill t c ks[i])=Fd.part t c ks (i+1):=by
 unfold Fd.part;have a:((ks.take i).map (Fd.fill t c)).length=i:=by rw[Z9,YM];omega
 rw[P3 _ _ (by omega),a,WC,Zp h,Lt,Kt h,ZO,Jo];rfl
