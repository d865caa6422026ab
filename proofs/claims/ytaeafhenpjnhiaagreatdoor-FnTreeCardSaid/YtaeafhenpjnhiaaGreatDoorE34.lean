import Derived.Test.YtaeafhenpjnhiaaGreatDoorE21
import Derived.Test.YtaeafhenpjnhiaaGreatDoorE29
import Derived.Deep.CutRange
import Derived.Deep.CutBlock
import Derived.Test.YtaeafhenpjnhiaaGreatDoorE33
set_option maxHeartbeats 16000000
set_option maxRecDepth 100000
namespace Go.Proofs.YtaeafhenpjnhiaaGreatDoor
open Tryz Go.RowKit
section
variable (gb rb:Nat) (vb:Value) (n:Nat)
def Ry[LB](d kd:Nat):Prop:=∀(q k:Nat) (kind:Int) (w:World),Gn gb rb vb n q k w->q+5*kd+40<=700000000->k+1+d<=900->Calls prog 120 #[.p gb,.q kind,.q ((d:Int)+1)] w (GMk gb rb vb n q (4*kd+30) k w)
theorem Xax[LB](d kd:Nat)(s:EAt gb rb vb n d kd)(j:DB gb rb vb n d kd)(g:kd<=1000000):Ry gb rb vb n d kd:=fun q k a w h r m=>by
 have K:∀{i:Int},OfK gb rb vb n d kd i->a=i->Calls prog 120 #[.p gb,.q a,.q ((d:Int)+1)] w (GMk gb rb vb n q (4*kd+30) k w):=fun H e=>by subst e;exact H s (fun q k a w h r m=>X0g gb rb vb n d kd s q k a w h r m g) j q k w h r m g
 by_cases u:a=0
 .exact K (Xaz gb rb vb n d kd) u
 by_cases v:a=1
 .exact K (Xbc gb rb vb n d kd) v
 by_cases y:a=2
 .exact K (Xay gb rb vb n d kd) y
 by_cases A:a=3
 .exact K (Xba gb rb vb n d kd) A
 by_cases B:a=4
 .exact K (Xbb gb rb vb n d kd) B
 exact K (Xaw gb rb vb n d kd u v y A B) rfl
theorem X0e[LB]:EAt gb rb vb n 0 40:=fun q k j w h E C=>by
 obtain⟨c,m,r,y⟩:=h.sz
 have A:=h.fr 4
 have B:GB gb rb vb n w [] (q+1) k (w.setCell ⟨gb,4,none⟩ (.q (c-1))):=⟨h.down (c:=c-1) (by omega) (by omega),.set h.Up (by decide),trivial⟩
 have a:=B.g.c0
 clear h
 go_enter func99,ntmps99
 go_wp2_with fail;go_fit(B.pk 40 (by omega));rintro e w⟨z,u,rfl,a,B⟩
 by_cases d:z=0
 .subst d
  go_wp2_with fail;go_fit(B.pk 6 (by omega));rintro e w⟨z,u,rfl,a,B⟩
  go_wp2_with fail;go_fit(B.nd (Ll gb rb vb n _ _ _ _ B.g (by omega)));rintro e w⟨g,c,l,rfl,s,a,B⟩
  go_wp2
  go_ret
  exact B.ret (by omega)
 have v:((z:Int)==0)=false:=by simp;omega
 go_wp2_with fail;go_fit(B.nd (Ll gb rb vb n _ _ _ _ B.g (by omega)));rintro e w⟨g,c,l,rfl,s,a,B⟩
 go_wp2
 go_ret
 exact B.ret (by omega)
theorem X0d[LB](d kd:Nat)(m:EAt gb rb vb n d kd)(r:Ry gb rb vb n d kd)(s:Rj gb rb vb n d kd)(a1:kd<=1000000):EAt gb rb vb n (d+1) (5*kd+60):=fun q k Q w h hq hk=>by
 rw[show((d+1:Nat):Int)=(d:Int)+1 from by omega]
 have a3:IntKind.i64.wrap (d:Int)=(d:Int):=by rw[Yp];omega
 have a0:¬((d:Int)+1<=0):=by omega
 have m:=X1 m
 have r:=X1 r
 have s:=X1 s
 obtain⟨c,X,Z,c4⟩:=h.sz
 have f4:=h.fr 4
 have B:GB gb rb vb n w [] (q+1) k (w.setCell ⟨gb,4,none⟩ (.q (c-1))):=⟨h.down (c:=c-1) (by omega) (by omega),.set h.Up (by decide),trivial⟩
 have a:=B.g.c0
 clear h
 go_enter func99,ntmps99
 go_wp2_with fail;go_fit(B.pk 40 (by omega));rintro e w⟨z,F,rfl,a,B⟩
 have M:z=0\/((z:Int)==0)=false:=by rcases Ia z with h|h;exact .inl h;exact .inr (by simp;omega)
 rcases M with rfl|a9
 focus go_wp2_with fail;go_fit(B.pk 6 (by omega));rintro e w⟨z,F,rfl,a,B⟩
 all_goals
  have B:=B.up (show _<=q+1+1+1 by omega)
  obtain⟨sz,sa,sb,sc⟩:=B.g.sz
  by_cases hs:sz<0
  .go_wp2_with fail;go_fit(B.nd (Ll gb rb vb n _ _ _ _ B.g (by omega)));rintro e w⟨g,c,l,rfl,j,a,B⟩
   go_wp2
   go_ret
   exact B.ret (by omega)
  go_wp2_with fail;go_fit(B.pk 5 (by omega));rintro e w⟨z,F,rfl,a,B⟩
  by_cases hp:z=0
  .subst hp
   go_wp2_with fail;go_fit(B.nd (Ll gb rb vb n _ _ _ _ B.g (by omega)));rintro e w⟨g,c,l,rfl,j,a,B⟩
   go_wp2
   go_ret
   exact B.ret (by omega)
  have a2:((z:Int)==0)=false:=by simp;omega
  go_wp2_with fail;go_fit(B.pk 10 (by omega));rintro e w⟨z,F,rfl,a,B⟩
  by_cases I:z=0
  .subst I
   go_wp2_with fail;go_fit(B.e m.o (by omega));rintro e w⟨g,c,l,rfl,j,a,B⟩
   go_wp2_with fail;go_fit(B.e m.o (by omega));rintro e w⟨g,c,l,rfl,j,a,B⟩
   go_wp2_with fail;go_fit(B.e m.o (by omega));rintro e w⟨g,c,l,rfl,j,a,B⟩
   go_wp2_with fail;go_fit(B.o3 ⟨13,0,0,⟨#[]⟩,0⟩ (by omega));rintro e w⟨g,c,l,rfl,j,a,B⟩
   go_wp2
   go_ret
   exact B.ret (by omega)
  by_cases J:z=1
  .subst J
   go_wp2_with fail;go_fit(B.f (by omega));rintro e w⟨t1,rfl,a,B⟩
   go_wp2_with fail;go_fit(B.pk 6 (by omega));rintro e w⟨z,F,rfl,a,B⟩
   go_wp2_with fail;go_fit(B.e m.o (by omega));rintro e w⟨g,c,l,rfl,j,a,B⟩
   go_wp2_with fail;go_fit(B.i m.o (by omega));rintro e w⟨g,c,l,rfl,j,a,B⟩
   go_wp2_with fail;go_fit(B.o2 ⟨14,0,0,t1,0⟩ (by omega));rintro e w⟨g,c,l,rfl,j,a,B⟩
   go_wp2
   go_ret
   exact B.ret (by omega)
  by_cases K:z=2
  .subst K
   go_wp2_with fail;go_fit(B.f (by omega));rintro e w⟨S,rfl,a,B⟩
   have B:=B.bx ⟨19,0,0,S,0⟩
   have j:([⟨19,0,0,S,0⟩]:List Nd).length<=1:=X5 _
   go_wp2_with fail;go_fit(B.i m.o (by omega));rintro e w⟨g,c,l,rfl,j,a,B⟩
   go_wp2_with fail;go_fit(B.o2 ⟨15,0,0,⟨#[]⟩,0⟩ (by omega));rintro e w⟨g,c,l,rfl,j,a,B⟩
   go_wp2_with fail;go_fit(B.e m.o (by omega));rintro e w⟨g,c,l,rfl,j,a,B⟩
   go_wp2_with fail;go_fit(B.o2 ⟨12,0,0,⟨#[]⟩,0⟩ (by omega));rintro e w⟨g,c,l,rfl,j,a,B⟩
   go_wp2
   go_ret
   exact B.ret (by omega)
  by_cases L:z=3\/z=4
  .rcases L with rfl|rfl
   all_goals
    go_wp2_with fail;go_fit(s.o _ _ _ _ B.g (by omega) (by omega));rintro e U⟨v,l,W,rfl,C,A,H,O,sp,si,sx,rfl⟩
    have y:=X1 C
    have u:=X1 A
    have N:=X1 (B.t.trans O)
    have V:=X1 H
    have a:=H.c0
    clear C A H O
    cases W
    .have B:GB gb rb vb n _ [] _ k U:=⟨u.o rfl,N.o,trivial⟩
     go_wp2_with fail;go_fit(B.nd (r.o _ _ _ _ B.g (by omega) (by omega)));rintro e w⟨g,c,l,rfl,j,a,B⟩
     go_wp2
     go_ret
     exact B.ret (by omega)
    .obtain⟨E,p0,m0⟩:=y.o rfl
     have B:GB gb rb vb n _ [(_,l)] _ k U:=⟨V.o,N.o,⟨E,p0⟩,trivial⟩
     clear E y u
     go_wp2
     go_ret
     exact B.ret (by omega)
  have a4:((z:Int)==0)=false:=by simp;omega
  have a5:((z:Int)==1)=false:=by simp;omega
  have a6:((z:Int)==2)=false:=by simp;omega
  have a7:((z:Int)==3)=false:=by simp;omega
  have a8:((z:Int)==4)=false:=by simp;omega
  go_wp2_with fail;go_fit(B.nd (r.o _ _ _ _ B.g (by omega) (by omega)));rintro e w⟨g,c,l,rfl,j,a,B⟩
  go_wp2
  go_ret
  exact B.ret (by omega)
theorem X0b[LB](gb rb:Nat)(vb:Value)(n:Nat)(g:∀d kd,EAt gb rb vb n d kd->kd<=1000000->DB gb rb vb n d kd):EAt gb rb vb n 1 260/\EAt gb rb vb n 3 6860/\EAt gb rb vb n 4 34360:=by
 have st:∀d kd,EAt gb rb vb n d kd->kd<=1000000->EAt gb rb vb n (d+1) (5*kd+60):=fun d kd h a=>X0d gb rb vb n d kd h (Xax gb rb vb n d kd h (g d kd h a) a) (Tj gb rb vb n d kd h a) a;have m:=X0e gb rb vb n;have j:=st 0 40 m (by decide);have r:=st 1 260 j (by decide);have k:=st 2 1360 r (by decide);exact⟨j,k,st 3 6860 k (by decide)⟩
theorem X1y[LB]{rb n p:Nat}{vb:Value}{w:World}(h:Rd w rb vb n p)(z:Int)(d:0<=z)(a:z<=1000):Gn w.heap.size rb vb n p 0 (w.z #[.p rb,.slice none 0 0,.slice none 0 0,.q 0,.q z] 128):=⟨⟨p,X5 _,h.Zi (bA _)⟩,h.lt,M3 _ _ _,by simp,⟨_,[],by simp,K7 _ _ _ _,fun _ hi=>absurd hi (JK _)⟩,⟨_,0,[],by simp,K7 _ _ _ _,Xb _,fun _ hi=>absurd hi (JK _)⟩,⟨0,Xb _,by simp⟩,⟨z,by omega,a,by simp⟩,fun j=>by simp,Xb _⟩
theorem Cm[LB](rb:Nat)(vb:Value)(n:Nat)(u:∀gb d kd,EAt gb rb vb n d kd->kd<=1000000->DB gb rb vb n d kd)(r:∀gb,EAt gb rb vb n 1 260->EAt gb rb vb n 3 6860->Mc gb rb vb n)(q:Nat)(w:World)(h:Rq rb vb n q w)(hq:q<=90000000):Calls prog 36 #[.p rb] w (RTk rb vb n q 250010 w):=by
 have a6:=h.lt;have b0:BL w (w.z #[.slice none 0 0] 25):=bA _;have V:=X1 (h.below b0);have X:Hid (Ty w (w.z #[.slice none 0 0] 25)):=X1 (.of b0);have a2:Hid ((w.z #[.slice none 0 0] 25).heap[w.heap.size]?=some (.cells #[.slice none 0 0] 25)):=X1 (YV w _);have u:=X1 u;have r:=X1 r;clear b0 h;go_enter func36,ntmps36;go_wp2_with fail;go_fit(Rq.pick V.o (by omega) 80 (by omega) (by omega));rintro e a⟨E,b6,rfl,a5,A⟩;obtain⟨p1,b4,y⟩:=a5;have j:=X1y y (20+(E:Int)) (by omega) (by omega);have b3:=y.lt;have b1:BL a (a.z #[.p rb,.slice none 0 0,.slice none 0 0,.q 0,.q (20+(E:Int))] 128):=bA _;have H:Below (a.z #[.p rb,.slice none 0 0,.slice none 0 0,.q 0,.q (20+(E:Int))] 128).heap.size (a.z #[.p rb,.slice none 0 0,.slice none 0 0,.q 0,.q (20+(E:Int))] 128) ((a.z #[.p rb,.slice none 0 0,.slice none 0 0,.q 0,.q (20+(E:Int))] 128).z #[] 23):=bA _;have K:Fm a.heap.size 0 (a.z #[.p rb,.slice none 0 0,.slice none 0 0,.q 0,.q (20+(E:Int))] 128):=⟨none,0,0,X5 _,by simp⟩;have s:=X1 (j.below H);have O:=X1 (K.ty j.ty j.lt (.of H));have Z:=X1 (((X.o.trans A).trans (.of b1)).trans (.of H));have a3:=X1 (TyM.same (TyM.same (Ty.same A a2.o US) b1) H);clear j b1 H K A y;go_wp2_with fail;go_fit(Gn.pick s.o (by omega) 5 (by omega) (by omega));rintro e w3⟨z3,b7,rfl,L,k⟩;have Q:=X1 (O.o.ty s.o.ty s.o.lt k);have S:=X1 L;have a0:=X1 (Z.o.trans k);have a4:=X1 (Ty.same k a3.o US);clear L k;obtain⟨x1,x3,x4⟩:=X0b a.heap.size rb vb n (u.o a.heap.size);have F:=X1 (X0w a.heap.size rb vb n x3 x4 (r.o _ x1 x3) p1.succ (a.heap.size+1) (1+z3) w3 S.o Q.o (by omega) (by omega));rw[show((1+z3:Nat):Int)=1+(z3:Int)from by omega]at F
 clear x1 x3 x4;go_wp2_with fail;go_fit F.o;rintro e w4⟨v4,C,k4,rfl,m,a9,b8,M,B⟩;obtain⟨J,I,a8⟩:=m.form a9;subst a8;obtain⟨p4,b5,N⟩:=M.R;have g:=Tf.same B a4.o W5;have t0:=(ZP g).1;have ft:=(ZP g).2;have a7:Xo w4 w.heap.size≠some 64:=by unfold Xo;rw[g];decide
 have U:Hid (NR (w4.setCell ⟨w.heap.size,0,none⟩ (.l J C.length I)) (.l J C.length I) C):=X1 ⟨Kc m.1 a7,m.2⟩;have W:=X1 (Rq.set (o:=0) (v:= .l J C.length I) (show Rq rb vb n (q+250010) w4 from⟨p4,by omega,N⟩) a6);have a1:=X1 (U4 (o:=0) (v:= .l J C.length I) ((Ty.tf a0.o).trans B) (X5 _));clear m g M B N;go_wp2;exact Xq (v:= .agg #[.l J C.length I]) (by simp[results,results36,go_sem,t0]) rfl ⟨_,_,rfl,U.o,by omega,W.o,a1.o⟩
def O0:List Value:=[.t #[108,101,116,32,115,48,32,61,32,108,101,116,32,110,49,32,61,32,49,32,105,110,32,91,110,49,32,102,111,114,32,110,49,32,105,110,32,91,110,49,93,93,59,10,101,109,105,116,32,123,118,58,32,115,48,125,59,10],.t #[108,101,116,32,115,48,32,61,32,108,101,116,32,110,49,32,61,32,49,32,105,110,32,91,110,49,32,43,32,110,50,32,102,111,114,32,110,50,32,105,110,32,91,110,49,93,32,105,102,32,110,49,32,61,61,32,110,50,93,59,10,101,109,105,116,32,123,118,58,32,115,48,125,59,10],.t #[108,101,116,32,115,48,32,61,32,108,101,116,32,110,49,32,61,32,49,32,105,110,32,40,102,110,40,110,49,32,61,32,50,41,32,61,62,32,110,49,41,40,41,32,43,32,110,49,59,10,101,109,105,116,32,123,118,58,32,115,48,125,59,10],.t #[108,101,116,32,115,48,32,61,32,108,101,116,32,110,49,32,61,32,49,32,105,110,32,40,102,110,40,110,50,44,32,110,49,32,61,32,110,49,41,32,61,62,32,91,110,49,44,32,110,50,93,41,40,110,49,41,59,10,101,109,105,116,32,123,118,58,32,115,48,125,59,10],.t #[108,101,116,32,115,48,32,61,32,108,101,116,32,110,49,32,61,32,49,32,105,110,32,40,102,110,40,110,49,44,32,110,50,32,61,32,110,49,41,32,61,62,32,91,110,49,44,32,110,50,93,41,40,55,41,59,10,101,109,105,116,32,123,118,58,32,115,48,125,59,10],.t #[108,101,116,32,121,32,61,32,53,59,10,100,101,102,32,102,40,120,44,32,121,32,61,32,121,41,32,61,32,91,120,44,32,121,93,59,10,101,109,105,116,32,123,118,58,32,102,40,49,41,125,59,10],.t #[100,101,102,32,102,40,120,44,32,121,32,61,32,121,41,32,61,32,120,59,10],.t #[100,101,102,32,102,40,120,32,61,32,120,41,32,61,32,120,59,10,108,101,116,32,120,32,61,32,51,59,10,101,109,105,116,32,123,118,58,32,102,40,41,125,59,10],.t #[108,101,116,32,115,48,32,61,32,108,101,116,32,110,49,32,61,32,34,110,101,119,95,110,97,109,101,34,32,105,110,32,110,49,32,43,32,34,110,50,34,59,10,101,109,105,116,32,123,110,101,119,95,110,97,109,101,58,32,115,48,44,32,118,58,32,115,48,46,110,49,125,59,10],.t #[100,101,102,32,108,101,110,40,120,41,32,61,32,55,59,10,108,101,116,32,97,32,61,32,108,101,110,40,49,41,59,10,101,109,105,116,32,123,118,58,32,97,125,59,10],.t #[108,101,116,32,97,32,61,32,108,101,110,40,91,49,93,41,59,10,100,101,102,32,108,101,110,40,120,41,32,61,32,55,59,10,101,109,105,116,32,123,118,58,32,97,125,59,10],.t #[108,101,116,32,110,32,61,32,49,59,10,108,101,116,32,102,32,61,32,102,110,40,120,41,32,61,62,32,110,32,43,32,120,59,10,100,101,102,32,103,40,110,41,32,61,32,102,40,110,41,59,10,101,109,105,116,32,123,118,58,32,103,40,49,48,41,125,59,10],.t #[108,101,116,32,102,32,61,32,102,110,40,120,41,32,61,62,32,91,120,44,32,110,93,59,10,108,101,116,32,115,48,32,61,32,108,101,116,32,110,32,61,32,50,32,105,110,32,102,40,110,41,59,10,108,101,116,32,110,32,61,32,57,59,10],.t #[108,101,116,32,114,32,61,32,123,97,58,32,49,125,59,10,101,109,105,116,32,123,118,58,32,115,111,114,116,101,100,40,91,114,44,32,123,98,58,32,50,125,44,32,114,93,41,44,32,119,58,32,117,110,105,113,117,101,40,91,114,44,32,123,98,58,32,50,125,44,32,114,93,41,125,59,10],.t #[101,109,105,116,32,123,95,58,32,49,44,32,95,95,58,32,123,95,97,58,32,50,125,44,32,34,97,45,98,34,58,32,51,125,59,10]]
theorem X1g[LB](z:Nat)(a:z<15):∃s:ByteArray,O0[z]?=some (.string s)/\s.size<=1000:=by
 have:z=0\/z=1\/z=2\/z=3\/z=4\/z=5\/z=6\/z=7\/z=8\/z=9\/z=10\/z=11\/z=12\/z=13\/z=14:=by omega
 rcases this with rfl|rfl|rfl|rfl|rfl|rfl|rfl|rfl|rfl|rfl|rfl|rfl|rfl|rfl|rfl;all_goals exact⟨_,rfl,by decide⟩
theorem X1f[LB](w:World):Calls prog 33 #[] w fun e w'=>e= .returned (.l w.heap.size 15 15)/\w'.ownsRow 0 9 1 (.l w.heap.size 15 15) 15 O0/\Below w.heap.size w w':=by
 have a:=X1 (Y4 (base:=0) (e:=9) (size:=1) w O0.toArray 15 (Xb _) (by unfold maxLen;omega) rfl);go_enter func33,ntmps33;go_wp2;go_ret;exact⟨rfl,a.o,bA _⟩
variable (rb:Nat) (vb:Value) (n:Nat)
def Ir[LB]:Prop:=∀(q:Nat) (v:Value) (l:List Nd) (w:World),Rq rb vb n q w->NR w v l->l.length<=300000->q<=700000000->Calls prog 35 #[.p rb,.agg #[v]] w fun e w'=>∃v' l',e= .returned (.agg #[v'])/\NR w' v' l'/\l'.length<=l.length+1/\Rq rb vb n (q+10) w'/\Tf w w'
theorem NR.val[LB]{w:World}{v:Value}{l:List Nd}(h:NR w v l):∃p c,v= .slice p l.length c:=XA h.1
theorem NR.Pw[LB]{w:World}{b o:Nat}{v u:Value}{l:List Nd}(h:NR w v l)(a:Xo w b≠some 64):NR (w.setCell ⟨b,o,none⟩ u) v l:=⟨Kc h.1 a,h.2⟩
theorem Y1c[LB]:Sh []:=fun _ a=>by cases a
theorem Sj[LB](M:∀q w,Rq rb vb n q w->q<=90000000->Calls prog 36 #[.p rb] w (RTk rb vb n q 250010 w))(W:Ir rb vb n)(q:Nat)(w:World)(h:Rq rb vb n q w)(hq:q<=80000000):Calls prog 12 #[.p rb] w (RTk rb vb n q 250030 w):=by
 have U:=h.lt;have b0:BL w (w.z #[.slice none 0 0] 25):=bA _;have b3:=X1 (h.below b0);have c0:Hid (Ty w (w.z #[.slice none 0 0] 25)):=X1 (.of b0);have c7:Hid ((w.z #[.slice none 0 0] 25).heap[w.heap.size]?=some (.cells #[.slice none 0 0] 25)):=X1 (YV w _);have M:=X1 M;have W:=X1 W;clear b0 h;go_enter func12,ntmps12;go_wp2_with fail;go_fit(Rq.pick b3.o (by omega) 30 (by omega) (by omega));rintro e w1⟨z1,d7,rfl,a4,a0⟩;have N:=X1 a4;have O:=X1 (c0.o.trans a0);have Q:=X1 (Ty.same a0 c7.o US);clear a4 a0;by_cases d5:(26:Int)<(z1:Int)
 .go_wp2_with fail;go_fit(X1f w1);rintro e w2⟨rfl,a3,b2⟩;have b7:=X1 (N.o.below b2);have c1:=X1 (O.o.trans (.of b2));have c8:=X1 (TyM.same Q.o b2);have a8:=X1 a3;clear a3 b2;go_wp2_with fail;go_fit(Rq.pick b7.o (by omega) 15 (by omega) (by omega));rintro e w3⟨z3,d8,rfl,a5,V⟩;have b8:=X1 a5;have c2:=X1 (c1.o.trans V);have c9:=X1 (Ty.same V c8.o US);have a9:=X1 (Yz a8.o V (by unfold XL;simp));obtain⟨s3,a7,d6⟩:=X1g z3 (by omega);have d3:=Za a9.o a7;clear a5 V a7;go_wp2_with fail;go_fit(Ed s3 w3 (by omega));rintro e L⟨r4,E,v4,rfl,F,b4⟩;have d2:=E.len;have C:NR L v4 r4.1:=⟨Qo F (Xb _),fun x hx=>by have:=E.Ai x hx;exact⟨by omega,by omega⟩⟩;obtain⟨K,I,a2⟩:=C.val;subst a2;generalize r4.1=J at *;generalize r4.2.1=Z at *;generalize r4.2.2=X at *;have b5:BL L (L.z #[.slice K J.length I] 25):=bA _;have b6:BL L ((L.z #[.slice K J.length I] 25).z #[.q Z,.q X] 29):=b5.alloc b5.size _;have S:=TyM.same (TyM.same c9.o b4) b6;have b9:=X1 ((b8.o.below b4).below b6);have c6:=X1 ((c2.o.trans (.of b4)).trans (.of b6));have b1:=X1 (C.below b6);have t0:=(ZP S).1;have ft:=(ZP S).2;have B:Xo ((L.z #[.slice K J.length I] 25).z #[.q Z,.q X] 29) w.heap.size≠some 64:=by unfold Xo;rw[S];decide
  have d1:Hid (((L.z #[.slice K J.length I] 25).z #[.q Z,.q X] 29).heap[L.heap.size]?=some (.cells #[.slice K J.length I] 25)):=X1 (TyM.same (YV L _) (bA _));have y0:=(ZP d1.o).1;clear C F b4 b5 b6 S E;have s:=X1 (NR.Pw (o:=0) (u:= .slice K J.length I) b1.o B);have y:=X1 (Rq.set (o:=0) (v:= .slice K J.length I) b9.o U);have A:=X1 (U4 (o:=0) (v:= .slice K J.length I) (Ty.tf c6.o) (X5 _));go_wp2;exact Xq (v:= .agg #[.slice K J.length I]) (by simp[results,results12,go_sem,t0]) rfl ⟨_,_,rfl,s.o,by omega,y.o.mono (by omega),A.o⟩
 .by_cases h0:z1=0
  .subst h0;go_wp2_with fail;go_fit(X0i rb vb n _ _ N.o (by omega));rintro e w5⟨v5,j,rfl,d,m5,m,g⟩;obtain⟨r,k,H⟩:=d.val;subst H;have a:=Tf.same g Q.o W5;have t0:=(ZP a).1;have ft:=(ZP a).2;have B:Xo w5 w.heap.size≠some 64:=by unfold Xo;rw[a];decide
   have s:Hid (NR (w5.setCell ⟨w.heap.size,0,none⟩ (.slice r j.length k)) (.slice r j.length k) j):=X1 ⟨Kc d.1 B,d.2⟩;have y:=X1 (Rq.set (o:=0) (v:= .slice r j.length k) m U);have A:=X1 (U4 (o:=0) (v:= .slice r j.length k) ((Ty.tf O.o).trans g) (X5 _));clear d a m g;go_wp2;exact Xq (v:= .agg #[.slice r j.length k]) (by simp[results,results12,go_sem,t0]) rfl ⟨_,_,rfl,s.o,by omega,y.o.mono (by omega),A.o⟩
  have d4:((z1:Int)==0)=false:=by simp;omega
  by_cases h4:(z1:Int)<4
  .go_wp2_with fail;go_fit(M.o _ _ N.o (by omega));rintro e L⟨v4,J,rfl,C,m4,a6,a1⟩;obtain⟨K,I,a2⟩:=C.val;subst a2;have d0:=X1 (Tf.same a1 Q.o W5);have c3:=X1 ((Ty.tf O.o).trans a1);have HQ:=X1 (W.o _ _ _ _ a6 C (by omega) (by omega));clear C a6 a1;go_wp2_with fail;go_fit HQ.o;rintro e w5⟨v5,j,rfl,d,m5,m,g⟩;obtain⟨r,k,H⟩:=d.val;subst H;have a:=Tf.same g d0.o W5;have t0:=(ZP a).1;have ft:=(ZP a).2;have B:Xo w5 w.heap.size≠some 64:=by unfold Xo;rw[a];decide
   have s:Hid (NR (w5.setCell ⟨w.heap.size,0,none⟩ (.slice r j.length k)) (.slice r j.length k) j):=X1 ⟨Kc d.1 B,d.2⟩;have y:=X1 (Rq.set (o:=0) (v:= .slice r j.length k) m U);have A:=X1 (U4 (o:=0) (v:= .slice r j.length k) (c3.o.trans g) (X5 _));clear d a m g;go_wp2;exact Xq (v:= .agg #[.slice r j.length k]) (by simp[results,results12,go_sem,t0]) rfl ⟨_,_,rfl,s.o,by omega,y.o.mono (by omega),A.o⟩
  .go_wp2_with fail;go_fit(M.o _ _ N.o (by omega));rintro e w5⟨v5,j,rfl,d,m5,m,g⟩;obtain⟨r,k,H⟩:=d.val;subst H;have a:=Tf.same g Q.o W5;have t0:=(ZP a).1;have ft:=(ZP a).2;have B:Xo w5 w.heap.size≠some 64:=by unfold Xo;rw[a];decide
   have s:Hid (NR (w5.setCell ⟨w.heap.size,0,none⟩ (.slice r j.length k)) (.slice r j.length k) j):=X1 ⟨Kc d.1 B,d.2⟩;have y:=X1 (Rq.set (o:=0) (v:= .slice r j.length k) m U);have A:=X1 (U4 (o:=0) (v:= .slice r j.length k) ((Ty.tf O.o).trans g) (X5 _));clear d a m g;go_wp2;exact Xq (v:= .agg #[.slice r j.length k]) (by simp[results,results12,go_sem,t0]) rfl ⟨_,_,rfl,s.o,by omega,y.o.mono (by omega),A.o⟩
structure LS [LB] (rb:Nat) (vb:Value) (n:Nat) (w:World) (tv:Value) (ts:List Sc.T) (q gt cap:Nat) (t:List UInt8) (W:World):Prop where
 R:Rq rb vb n q W
 T:Ty w W
 Xp:W.ownsRow 0 101 4 tv ts.length (KO ts)
 o:W.ownsRow w.heap.size 5 1 (.l gt t.length cap) t.length (Y6 t)
 rl:rb<w.heap.size
section
variable {rb:Nat} {vb:Value} {n:Nat} {w:World} {tv:Value} {ts:List Sc.T} {q gt cap:Nat} {t:List UInt8} {W:World}
theorem LS.below[LB](h:LS rb vb n w tv ts q gt cap t W){d:World}(a:BL W d):LS rb vb n w tv ts q gt cap t d:=⟨h.R.below a,h.T.trans (.of a),U3 h.Xp a,U3 h.o a,h.rl⟩
theorem LS.pick[LB](h:LS rb vb n w tv ts q gt cap t W){a:World}(g:Rq rb vb n (q+1) a)(d:Ty W a):LS rb vb n w tv ts (q+1) gt cap t a:=⟨g,h.T.trans d,Yz h.Xp d (by unfold XL;simp),Yz h.o d (by unfold XL;simp),h.rl⟩
theorem LS.app[LB](h:LS rb vb n w tv ts q gt cap t W){s:World}{S:ByteArray}{v':Value}(d:s.ownsRow w.heap.size 5 1 v' (t.length+S.size) (Y6 t++Lib.strCells S))(r:W.grownBy s (Value.l gt t.length cap).ownBlock)(E:¬v'= .slice none 0 0): ∃u g,v'= .l u (t++S.data.toList).length g/\LS rb vb n w tv ts q u g (t++S.data.toList) s:=by
 have e:S.size=S.data.toList.length:=Array.length_toList.symm;have B:t.length+S.size=(t++S.data.toList).length:=by rw[Xj,e]
 rw[B,PQ,←DF]at d;obtain⟨u,g,rfl⟩:=SK d E;have C:=(h.o.lt gt rfl).1;have H:=h.rl;have v:Xo W gt=some 5:=KH h.o rfl;have m:∀b,b<W.heap.size->b≠gt->s.heap[b]?=W.heap[b]?:=fun b j k=>r.block b j (by intro x;cases x;exact k rfl);refine⟨u,g,rfl,?_,?_,?_,d,h.rl⟩
 .obtain⟨p,F,A⟩:=h.R;have K:=A.lt;exact⟨p,F,A.JV (fun b L=>m b (by omega) (by omega))⟩
 .refine⟨r.os.trans h.T.os,r.tape.trans h.T.tape,r.output.trans h.T.output,Xz h.T.size r.size,fun b j k=>(m b (XH j h.T.size) (by omega)).trans (h.T.block b j k),fun hm b j k=>?_,fun b j k=>(m b (XH j h.T.size) (by omega)).trans (h.T.old b j k)⟩;obtain⟨I,J⟩:=h.T.two hm b j k;have y:=m b (XH j h.T.size) (by omega);exact⟨(KI y).trans I,(XQ (a:=⟨b,2,none⟩) y).trans J⟩
 .exact Kz h.Xp (fun b j k=>m b j (fun x=>by rw[x,v]at k;cases k))
end
def QV(s:ByteArray)(j:Nat):Nat:=((Y2 s)[j]?.map (·.place)).getD s.size
theorem Fo[LB]{s:ByteArray}(j:Nat):Sc.Dl (Y2 s) j (QV s (j+1)) s.size:=by
 unfold Sc.Dl QV;cases h:(Y2 s)[j+1]? with
 | none=>exact .inr ⟨rfl,rfl⟩
 | some u=>exact .inl ⟨u,rfl,rfl⟩
theorem Fp[LB]{s:ByteArray}(d:Yf s=0)(j:Nat)(a:j<(Y2 s).length):QV s j=((Y2 s)[j]).place/\QV s j<QV s (j+1)/\QV s (j+1)<=s.size:=by
 have h:=Sc.Xdv d (K0 a) (Fo j);have e:QV s j=((Y2 s)[j]).place:=by unfold QV;rw[K0 a];rfl
 rw[e];exact⟨rfl,h.1,h.2.1⟩
def OB:List ByteArray:=[⟨#[32]⟩,⟨#[32]⟩,⟨#[10]⟩,⟨#[32,32]⟩,⟨#[32,35,32,97,32,103,97,112,59,32,91,10]⟩]
theorem Bq[LB]:∀x∈OB,x.size<=12:=by decide
theorem Ac[LB](s:ByteArray)(a b:Nat)(d:b<=s.size):(s.extract a b).size<=b-a:=by
 rw[ByteArray.size_extract];omega
def PS:Value->Nat
 | .string u=>u.size
 | _=>0
theorem X9i[LB](rb:Nat)(vb:Value)(n q:Nat)(s:ByteArray)(w:World)(h:Rq rb vb n q w)(hq:q<=800000000)(hs:s.size<=8000):Calls prog 24 #[.p rb,.string s] w (Txt rb vb n q 16000 130000 w):=by
 obtain⟨i0,U,V,W,X⟩:=YK WQ;have d4:=MC s;have c8:=h.lt;have HR:=X1 h;have b0:=X1 (LP s w (by omega));clear h;go_enter func24,ntmps24;go_wp2_with fail;go_fit b0.o;rintro e E⟨v1,rfl,B,b1⟩;obtain⟨tp,tc,rfl⟩:=XA B;have b2:BL E (E.z #[.q (Yf s),.q (Ye s)] 29):=bA _;have B2:=b1.trans (b2.mono b1.size);have a1:=X1 (HR.o.below B2);have a2:Hid (Ty w (E.z #[.q (Yf s),.q (Ye s)] 29)):=X1 (.of B2);have a9:=X1 (U3 (Qo B (Xb _)) b2);have x0:(E.z #[.q (Yf s),.q (Ye s)] 29).cell? ⟨E.heap.size,0,none⟩=some (.q (Yf s)):=by simp
 have c1:=B2.size;clear b0 HR B b1 b2 B2;by_cases hc:Yf s=0
 .rw[hc]at x0;have b3:Below (E.z #[.q (Yf s),.q (Ye s)] 29).heap.size (E.z #[.q (Yf s),.q (Ye s)] 29) ((E.z #[.q (Yf s),.q (Ye s)] 29).z #[] 5):=bA _;have a0:Hid (LS rb vb n w (.slice tp (Y2 s).length tc) (Y2 s) q (E.heap.size+1) 0 [] ((E.z #[.q (Yf s),.q (Ye s)] 29).z #[] 5)):=X1 ⟨a1.o.below b3,a2.o.trans (.of b3),U3 a9.o b3,by
   have:=Y4 (base:=w.heap.size) (e:=5) (size:=1) (E.z #[.q (Yf s),.q (Ye s)] 29) #[] 0 c1 (by decide) rfl;rw[Yx]at this;exact this,c8⟩
  rw[hc]at a0;clear b3 a1 a2 a9;go_wp2;go_loopw[7,8] (fun v i wr=>∃(j q' gt cap:Nat) (t:List UInt8),j<=(Y2 s).length/\i= .q j/\v= .l gt t.length cap/\q'<=q+2*j/\t.length<=QV s j+14*j/\LS rb vb n w (.slice tp (Y2 s).length tc) (Y2 s) q' gt cap t wr) (fun _ i _=>(Y2 s).length-(intOf i).toNat)
  case atStart=>exact⟨0,q,E.heap.size+1,0,[],Xb _,rfl,rfl,by omega,by simp,a0.o⟩
  case round=>
   obtain⟨j,q',gt,cap,t,hj,rfl,rfl,e0,d0,hL⟩:=hrel;have H:=X1 hL;clear hL a0;by_cases a6:j<(Y2 s).length
   .obtain⟨b9,a4,c0⟩:=Fp hc j a6;obtain⟨tg,d3,c2⟩:=Pu H.o.Xp (by omega);obtain⟨d1,c9⟩:tp=some ⟨tg,0,none⟩/\tc=d3:=by cases c2;exact⟨rfl,rfl⟩
    subst d1;clear c2 c9;have k0:=Za H.o.Xp (DC (Y2 s) j a6).1;have k3:=Za H.o.Xp (DC (Y2 s) j a6).2.2.2;rw[←b9]at k3;clear b9;generalize((Y2 s)[j]).kind=kd at *;have c4:=a4;obtain⟨a,ha⟩:∃a,QV s j=a:=⟨_,rfl⟩;obtain⟨e,he⟩:∃e,QV s (j+1)=e:=⟨_,rfl⟩;have HA:=X1 ha;have S:=X1 he;rw[ha]at k3 a4 d0;rw[he]at a4 c0;clear ha he c4;go_upto_if 33 with fail;go_cut[9]from 21 to 95 (fun v wx=>v= .q (e:Int)/\wx=wr)
    case first=>
     by_cases L:j+1<(Y2 s).length
     .have m3:=Za H.o.Xp (DC (Y2 s) (j+1) L).2.2.2;have c7:((Y2 s)[j+1]).place=e:=by rw[←S.o];unfold QV;rw[K0 L];rfl
      rw[c7]at m3;go_wp2_with fail;go_meet
      case rel=>exact⟨rfl,rfl⟩
     .have c5:e=s.size:=by rw[←S.o];unfold QV;rw[Dp (by omega)];rfl
      have d9:¬(j:Int)+1<((Y2 s).length:Int):=by omega
      go_wp2_with fail;go_meet
      case rel=>exact⟨by rw[c5],rfl⟩
    case rest=>
     obtain⟨rfl,rfl⟩:=hcut;have hx:=Ac s a e c0;go_upto_block 2 with fail;go_cut[10]from 21 to 95 (fun v wx=>∃u:ByteArray,v= .string u/\u.size<=e-a/\wx=wc)
     case first=>
      go_wp2_with fail;go_loop[10] (fun x=>∃u:ByteArray,x= .string u/\u.size<=e-a) (fun x=>PS x)
      case atStart=>exact⟨_,rfl,hx⟩
      case round=>
       obtain⟨u,rfl,hu⟩:=hrel;by_cases e4:0<u.size
       .obtain⟨k,hk⟩:∃k,u.size=k+1:=⟨u.size-1,by omega⟩;have d8:k<u.size:=by omega
        have ek:IntKind.i64.wrap ((u.size:Int)-1)=(k:Int):=by rw[Yp];omega
        have x1:=Ac u 0 k (by omega);have k1:(0:Int)<=(k:Int):=by omega
        have k2:(k:Int)<=(u.size:Int):=by omega
        by_cases b7:(u[k].toNat:Int)=32
        .have b1:((u[k].toNat:Int)==32)=true:=by simpa using b7
         go_wp2;go_round
         case rel=>exact⟨_,rfl,by omega⟩
         case measure=>simp only[PS];omega
        .have b1:((u[k].toNat:Int)==32)=false:=by simpa using b7
         by_cases b6:(u[k].toNat:Int)=10
         .have b2:((u[k].toNat:Int)==10)=true:=by simpa using b6
          go_wp2;go_round
          case rel=>exact⟨_,rfl,by omega⟩
          case measure=>simp only[PS];omega
         .have b2:((u[k].toNat:Int)==10)=false:=by simpa using b6
          go_wp2_with fail;go_meet
          case rel=>exact⟨_,rfl,hu,rfl⟩
       .have h0:¬(0:Int)<(u.size:Int):=by omega
        go_wp2_with fail;go_meet
        case rel=>exact⟨_,rfl,hu,rfl⟩
     case rest=>
      obtain⟨u,rfl,hu,rfl⟩:=hcut;go_upto_region 14 with fail;go_cut[82]from 21 to 95 (fun v wx=>∃(b:Bool) (q2:Nat),v= .bool b/\q2<=q'+1/\LS rb vb n w (.l tg (Y2 s).length tc) (Y2 s) q2 gt cap t wx)
      case first=>
       by_cases h3:(kd:Int)=3
       .have b3:((kd:Int)==3)=true:=by simpa using h3
        go_wp2_with fail;go_fit(Rq.pick H.o.R (by omega) 3 (by omega) (by omega));rintro e6 w6⟨z6,c3,rfl,A,g⟩;have d:=X1 (H.o.pick A g);go_wp2_with fail;go_meet
        case rel=>exact⟨_,_,rfl,X5 _,d.o⟩
       .have b3:((kd:Int)==3)=false:=by simpa using h3
        go_wp2_with fail;go_meet
        case rel=>exact⟨_,q',rfl,by omega,H.o⟩
      case rest=>
       obtain⟨b,q2,rfl,e3,b8⟩:=hcut;have HC:=X1 b8;clear b8 H k0 k3;cases b
       .have a8:(u).size<=e-a+2:=by omega
        go_wp2_with(at_builtin;refine Lib.wpList_append_own_string _ rfl _ _ 22 9 rfl w.heap.size 5 i0 underlying22 underlying9 U V W X _ _ _ rfl HC.o.o (u) rfl (by unfold maxLen;omega) (by omega) (by have:=HC.o.T.size;omega) ?_);intro v4 w4 C J M;obtain⟨g4,b4,rfl,y⟩:=HC.o.app C J M;clear C J M;have a5:(t++(u).data.toList).length=t.length+(u).size:=by rw[Xj,JG];rfl
        have a7:(t++(u).data.toList).length<=e+14*j+2:=by omega
        obtain⟨Z,m⟩:∃Z,Z=t++(u).data.toList:=⟨_,rfl⟩;rw[←m]at y a7⊢;clear a5 m a8;have b5:BL w4 (w4.z #[.t #[32],.t #[32],.t #[10],.t #[32,32],.t #[32,35,32,97,32,103,97,112,59,32,91,10]] 9):=bA _;have r:=X1 (y.below b5);have F:=X1 (Y4 (base:=0) (e:=9) (size:=1) w4 #[.t #[32],.t #[32],.t #[10],.t #[32,32],.t #[32,35,32,97,32,103,97,112,59,32,91,10]] 5 (Xb _) (by unfold maxLen;omega) rfl);clear y b5 HC;go_wp2_with fail;go_fit(Rq.pick r.o.R (by omega) 5 (by omega) (by omega));rintro e6 w6⟨z6,c3,rfl,A,g⟩;obtain⟨x6,Q,d2⟩:=GY OB 12 z6 Bq (by show z6<5;omega);have cl:=Za (Yz F.o g (by unfold XL;simp)) Q;have d:=X1 (r.o.pick A g);clear A g r F Q;go_wp2_with(at_builtin;refine Lib.wpList_append_own_string _ rfl _ _ 22 9 rfl w.heap.size 5 i0 underlying22 underlying9 U V W X _ _ _ rfl d.o.o (x6) rfl (by unfold maxLen;omega) (by omega) (by have:=d.o.T.size;omega) ?_);intro v7 w7 O K N;obtain⟨g7,I,rfl,a3⟩:=d.o.app O K N;have c6:(Z++x6.data.toList).length=Z.length+x6.size:=by rw[Xj,JG];rfl
        clear O K N cl;go_wp2;go_roundw
        case rel=>exact⟨j+1,_,g7,I,_,by omega,by go_num,rfl,by omega,by rw[S.o];omega,a3⟩
        case measure=>simp[intOf];omega
       .have a8:((⟨#[40]⟩:ByteArray)++u++(⟨#[41]⟩:ByteArray)).size<=e-a+2:=by rw[Yo,Yo];have e1:(⟨#[40]⟩:ByteArray).size=1:=rfl;have e2:(⟨#[41]⟩:ByteArray).size=1:=rfl;omega
        go_wp2_with(at_builtin;refine Lib.wpList_append_own_string _ rfl _ _ 22 9 rfl w.heap.size 5 i0 underlying22 underlying9 U V W X _ _ _ rfl HC.o.o ((⟨#[40]⟩:ByteArray)++u++(⟨#[41]⟩:ByteArray)) rfl (by unfold maxLen;omega) (by omega) (by have:=HC.o.T.size;omega) ?_);intro v4 w4 C J M;rw[show(1+u.size+1)=((⟨#[40]⟩:ByteArray)++u++(⟨#[41]⟩:ByteArray)).size from by rw[Yo,Yo];rfl]at C
        obtain⟨g4,b4,rfl,y⟩:=HC.o.app C J M;clear C J M;have a5:(t++((⟨#[40]⟩:ByteArray)++u++(⟨#[41]⟩:ByteArray)).data.toList).length=t.length+((⟨#[40]⟩:ByteArray)++u++(⟨#[41]⟩:ByteArray)).size:=by rw[Xj,JG];rfl
        have a7:(t++((⟨#[40]⟩:ByteArray)++u++(⟨#[41]⟩:ByteArray)).data.toList).length<=e+14*j+2:=by omega
        obtain⟨Z,m⟩:∃Z,Z=t++((⟨#[40]⟩:ByteArray)++u++(⟨#[41]⟩:ByteArray)).data.toList:=⟨_,rfl⟩;rw[←m]at y a7⊢;clear a5 m a8;have b5:BL w4 (w4.z #[.t #[32],.t #[32],.t #[10],.t #[32,32],.t #[32,35,32,97,32,103,97,112,59,32,91,10]] 9):=bA _;have r:=X1 (y.below b5);have F:=X1 (Y4 (base:=0) (e:=9) (size:=1) w4 #[.t #[32],.t #[32],.t #[10],.t #[32,32],.t #[32,35,32,97,32,103,97,112,59,32,91,10]] 5 (Xb _) (by unfold maxLen;omega) rfl);clear y b5 HC;go_wp2_with fail;go_fit(Rq.pick r.o.R (by omega) 5 (by omega) (by omega));rintro e6 w6⟨z6,c3,rfl,A,g⟩;obtain⟨x6,Q,d2⟩:=GY OB 12 z6 Bq (by show z6<5;omega);have cl:=Za (Yz F.o g (by unfold XL;simp)) Q;have d:=X1 (r.o.pick A g);clear A g r F Q;go_wp2_with(at_builtin;refine Lib.wpList_append_own_string _ rfl _ _ 22 9 rfl w.heap.size 5 i0 underlying22 underlying9 U V W X _ _ _ rfl d.o.o (x6) rfl (by unfold maxLen;omega) (by omega) (by have:=d.o.T.size;omega) ?_);intro v7 w7 O K N;obtain⟨g7,I,rfl,a3⟩:=d.o.app O K N;have c6:(Z++x6.data.toList).length=Z.length+x6.size:=by rw[Xj,JG];rfl
        clear O K N cl;go_wp2;go_roundw
        case rel=>exact⟨j+1,_,g7,I,_,by omega,by go_num,rfl,by omega,by rw[S.o];omega,a3⟩
        case measure=>simp[intOf];omega
   .have d5:QV s j=s.size:=by unfold QV;rw[Dp (by omega)];rfl
    have d7:=WH H.o.o;go_wp2;go_ret;exact⟨_,rfl,by rw[Zp,List.size_toArray];omega,H.o.R.mono (by omega),H.o.T⟩
 .have d6:((Yf s:Int)!=0)=true:=by simp;omega
  go_wp2;go_ret;exact⟨s,rfl,by omega,a1.o.mono (by omega),a2.o⟩
end
section
open Rb
set_option linter.unusedSimpArgs false
def Rb.tz(ns:List Nd)(ks:List (List Nat))(y:Nat):List UInt8:=bts (P (at_ ns ks y))
theorem Rb.ID(a b:ByteArray):(a++b).data.toList=a.data.toList++b.data.toList:=by simp
theorem Rb.Xfo{x:Nd}(h:x.kind=7->1<=x.op/\x.op<=14):Jf x.kind x.op=(rk x:Int):=by
 unfold Jf rk KS Xi;by_cases d:x.kind=13\/x.kind=14\/x.kind=15
 .rw[Xa (by omega),Xa d];rfl
 rw[X6 (by omega),X6 d];by_cases a:x.kind=7
 .have:=h a;rw[Xa a,Xa a];repeat' split
  all_goals omega
 .rw[X6 a,X6 a];repeat' split
  all_goals first|rfl|omega
theorem Rb.Y4h(t:List UInt8):bt (tm t)=t:=rfl
theorem Rb.Y4n(t:List UInt8):bt (tw t)=t:=rfl
theorem Rb.Y4l(t:List UInt8):bt (tn t)=t:=rfl
theorem Rb.Y4k(n:Nat):bt (ti n)=Yh n:=rfl
theorem Rb.Y4m(t:List UInt8):bt (tt t)=Y3 t:=rfl
theorem Rb.Y4i:bt sp=[32]:=rfl
theorem Rb.Y4j:bt nl=[10]:=rfl
theorem Rb.MK(o:Nat):bt (tO o)=Yd o:=by unfold tO;split<;>rfl
theorem Rb.Y4g:bts []=[]:=rfl
theorem Rb.SV(s a:List Sc.T):∀l:List (List Sc.T),csg s (l++[a])=csg s l++tm [44]::(s++a)
 | []=>by simp[csg]
 | c::l=>by rw[Ux,csg,csg,SV s a l];simp
theorem Rb.SJ(a:List Sc.T)(l:List (List Sc.T)):bts (cmg [sp] (l++[a]))=bts (cmg [sp] l)++(if l.length=0 then[]else[44,32])++bts a:=by
 cases l with
 | nil=>simp[cmg,csg,Y4g]
 | cons c l=>rw[Ux,cmg,cmg,SV];simp[Jz,Uh,Y4h,Y4i]
theorem Rb.X7g{ns:List Nd}{ks:List (List Nat)}{f:Nat->ByteArray}{ls:List Nat}(h:∀y∈ls,(f y).data.toList=tz ns ks y):QY (fun y=>(f y).data.toList) ls ls.length=bts (cmg [sp] (ls.map fun y=>P (at_ ns ks y))):=by
 have d:∀i,i<=ls.length->QY (fun y=>(f y).data.toList) ls i=bts (cmg [sp] ((ls.take i).map fun y=>P (at_ ns ks y))):=by
  intro i;induction i with
  | zero=>intro _;simp[QY,cmg,Y4g]
  | succ i j=>
   intro hi;have a:i<ls.length:=by omega
   have g:ls[i]?.getD 0=ls[i]:=by simp[a]
   rw[QY,j (by omega),g,Vx a,JI,List.map_singleton,SJ,h _ (YJ a)];simp only[Ju,YO,Jv (Du a)];rfl
 have:=d ls.length (X5 _)
 rwa[JY]at this
theorem Rb.Tq{ns:List Nd}{ks:List (List Nat)}{f:Nat->ByteArray}{ls:List Nat}(h:∀y∈ls,(f y).data.toList=tz ns ks y):QW (fun y=>(f y).data.toList) ls ls.length=bts (ls.flatMap fun y=>P (at_ ns ks y)):=by
 have d:∀i,i<=ls.length->QW (fun y=>(f y).data.toList) ls i=bts ((ls.take i).flatMap fun y=>P (at_ ns ks y)):=by
  intro i;induction i with
  | zero=>intro _;simp[QW,Y4g]
  | succ i j=>
   intro hi;have a:i<ls.length:=by omega
   have g:ls[i]?.getD 0=ls[i]:=by simp[a]
   rw[QW,j (by omega),g,Vx a,Dm,Jz,h _ (YJ a)];simp[tz]
 have:=d ls.length (X5 _)
 rwa[JY]at this
section
variable (w0:World) (pb tg tc kg kc:Nat) (ns:List Nd) (ks:List (List Nat))
theorem VT(y:Ink w0 pb tg tc kg kc ns ks)(k:Nat)(Xg:Int)(S:ByteArray)(B:k<ns.length)(L:S.size<=100000000)(A:Xk w0 18 #[.p pb,.q k] S): ∃r,r.size<=S.size+2/\Xk w0 44 #[.p pb,.q k,.q Xg] r/\r=if Jf ns[k].kind ns[k].op<Xg then⟨#[40]⟩++S++⟨#[41]⟩else S:=by
 have u:=X1 y;have v:=X1 A;clear y A;cases C:decide (Jf ns[k].kind ns[k].op<Xg)
 .have d:¬Jf ns[k].kind ns[k].op<Xg:=by simpa using C
  refine⟨S,by omega,fun w g=>?_,by rw[X6 d]⟩;have n:=X1 (v.o w g);go_enter func44,ntmps44;go_wp2_with fail;go_fit n.o;rintro e H⟨rfl,a⟩;have m:=X1 (u.o.below (g.trans (a.mono g.size)));have j:=X1 a;clear a;have E:=m.o.c0;obtain⟨n0,n1,n2,n3,F⟩:=m.o.nodes.2 k B;go_wp2_with fail;go_fit(Cs _ _ _ _ _ _);rintro e I⟨rfl,s⟩;go_wp2;go_ret;exact⟨rfl,j.o.trans (s.mono j.o.size)⟩
 .have d:Jf ns[k].kind ns[k].op<Xg:=by simpa using C
  refine⟨⟨#[40]⟩++S++⟨#[41]⟩,by rw[Yo,Yo];have J:(⟨#[40]⟩:ByteArray).size=1:=rfl;have K:(⟨#[41]⟩:ByteArray).size=1:=rfl;omega,fun w g=>?_,by rw[Xa d]⟩;have n:=X1 (v.o w g);go_enter func44,ntmps44;go_wp2_with fail;go_fit n.o;rintro e H⟨rfl,a⟩;have m:=X1 (u.o.below (g.trans (a.mono g.size)));have j:=X1 a;clear a;have E:=m.o.c0;obtain⟨n0,n1,n2,n3,F⟩:=m.o.nodes.2 k B;go_wp2_with fail;go_fit(Cs _ _ _ _ _ _);rintro e I⟨rfl,s⟩;go_wp2;go_ret;exact⟨rfl,j.o.trans (s.mono j.o.size)⟩
end
theorem Rb.VJ{ns:List Nd}{ks:List (List Nat)}{x:Nat}{j:Nat}{A a:ByteArray}{m:x<ns.length}(g:ns[x].kind=7->1<=ns[x].op/\ns[x].op<=14)(d:A.data.toList=tz ns ks x)(h:a=if Jf ns[x].kind ns[x].op<((j:Nat):Int)then⟨#[40]⟩++A++⟨#[41]⟩else A):a.data.toList=bts (br j (rk (nod ns x),P (at_ ns ks x))):=by
 rw[h,Xfo g,BM m];unfold br;by_cases e:rk ns[x]<j
 .rw[Xa (by omega),Xa e,ID,ID,d];simp[Uh,Jz,Y4h,Y4g,tz]
 .rw[X6 (by omega),X6 e,d];rfl
def Vu(w0:World)(pb:Nat)(ns:List Nd)(ks:List (List Nat))(k:Nat):Prop:=∀y b,y<k->Ik.Cov ks b (Ik.Ka ks y) y->∃S:ByteArray,S.size+100<=3500*(y+1-b)/\Xk w0 18 #[.p pb,.q y] S/\S.data.toList=tz ns ks y
variable {w0:World} {pb:Nat} {ns:List Nd} {ks:List (List Nat)} {k:Nat}
theorem Vu.kid(h:Vu w0 pb ns ks k)(v:k<=5000){b x e:Nat}{r:List Nat}(m:Ik.Cov ks b (x::r) e)(u:e<=k): ∃A:ByteArray,A.size+100<=3500*(x+1-b)/\A.size<=20000000/\b<=x/\x<e/\Xk w0 18 #[.p pb,.q x] A/\Ik.Cov ks (x+1) r e/\A.data.toList=tz ns ks x:=by
 cases m using Ik.Cov.cas with
 | cons a d=>
  have j:=a.le;have y:=d.le;obtain⟨A,g,n,s⟩:=h x b (by omega) a;exact⟨A,g,by omega,j,by omega,n,d,s⟩
theorem Vu.f(h:Vu w0 pb ns ks k){b e:Nat}{ls:List Nat}(n:Ik.Cov ks b ls e)(B:e<=k): ∃f:Nat->ByteArray,∀y∈ls,(∀a,Ik.Cov ks a (Ik.Ka ks y) y->(f y).size+100<=3500*(y+1-a))/\(∃a,Ik.Cov ks a (Ik.Ka ks y) y/\b<=a)/\y<e/\Xk w0 18 #[.p pb,.q y] (f y)/\(f y).data.toList=tz ns ks y:=by
 have g:∀y∈ls,∃S:ByteArray,(∀a,Ik.Cov ks a (Ik.Ka ks y) y->S.size+100<=3500*(y+1-a))/\(∃a,Ik.Cov ks a (Ik.Ka ks y) y/\b<=a)/\y<e/\Xk w0 18 #[.p pb,.q y] S/\S.data.toList=tz ns ks y:=by
  intro y d;obtain⟨a,j,m⟩:=n.at d;have hm:=n.mem d;obtain⟨S,u,s,v⟩:=h y a (by omega) j;exact⟨S,fun A r=>by rw[←j.uniq r];exact u,⟨a,j,m⟩,hm.2,s,v⟩
 classical
 refine⟨fun y=>if d:y∈ls then Classical.choose (g y d)else⟨#[]⟩,fun y d=>?_⟩;simp only[dif_pos d];exact Classical.choose_spec (g y d)
theorem Vu.list(h:Vu w0 pb ns ks k)(C:k<=5000){b e:Nat}{ls:List Nat}(r:Ik.Cov ks b ls e)(A:e<=k)(B:ls.length<=5000): ∃L:ByteArray,L.size<=3500*(e-b)/\L.size<=40000000/\(∀g o c,YZ w0 g o ls->Xk w0 46 #[.p pb,.slice (some ⟨g,o,none⟩) ls.length c] L)/\L.data.toList=bts (cmg [sp] (ls.map fun y=>P (at_ ns ks y))):=by
 obtain⟨f,d⟩:=h.f r A;have s:=Ik.AY (f:=f) r (fun y a=>(d y a).1);have j:(⟨(QY (fun y=>(f y).data.toList) ls ls.length).toArray⟩:ByteArray).size<=3500*(e-b):=by
  obtain⟨m,hm,_,n,_⟩:=s ls.length (X5 _);rw[List.drop_length]at hm;cases hm.nl;rw[Zp,List.size_toArray];exact n
 refine⟨_,j,by omega,fun g o c hi=>X3v w0 pb f ls g o c B hi (fun y a=>?_) (fun i hi=>?_) (fun y a=>(d y a).2.2.2.1),by rw[X7g (fun y a=>(d y a).2.2.2.2)]⟩
 .obtain⟨u,v,_⟩:=(d y a).2.1;have:=(d y a).1 u v;have:=(d y a).2.2.1;omega
 .obtain⟨m,hm,_,n,_⟩:=s i hi;have:=hm.le;omega
end
theorem MQ(k op n m:Int)(s:ByteArray)(w:World): CB 30 #[.agg #[.q k,.q op,.q n,.string s,.q m]] w (.bool (K5 k m)):=by
 by_cases g:1<=k/\k<=24
 .obtain⟨j,a,d,rfl⟩:∃j:Nat,1<=j/\j<=24/\k=j:=⟨k.toNat,by omega,by omega,by omega⟩;clear g;have u:j=1\/j=2\/j=3\/j=4\/j=5\/j=6\/j=7\/j=8\/j=9\/j=10\/j=11\/j=12\/j=13\/j=14\/j=15\/j=16\/j=17\/j=18\/j=19\/j=20\/j=21\/j=22\/j=23\/j=24:=by omega
  clear a d;rcases u with rfl|rfl|rfl|rfl|rfl|rfl|rfl|rfl|rfl|rfl|rfl|rfl|rfl|rfl|rfl|rfl|rfl|rfl|rfl|rfl|rfl|rfl|rfl|rfl;all_goals
   go_enter func30,ntmps30;go_wp2;all_goals
    go_ret;refine⟨Xn ?_,bA _⟩;simp only[K5];first
    | (simp[*];done)
    | (rw[YH];simp;omega)
    | (simp;omega)
 .have r:=X1 (show K5 k m=false by
   unfold K5;repeat rw[X6 (by omega)]
   rw[decide_eq_false_iff_not];omega)
  have Q:(k==1)=false:=by simp;omega
  have S:(k==2)=false:=by simp;omega
  have U:(k==3)=false:=by simp;omega
  have V:(k==4)=false:=by simp;omega
  have W:(k==5)=false:=by simp;omega
  have X:(k==6)=false:=by simp;omega
  have Z:(k==7)=false:=by simp;omega
  have q8:(k==8)=false:=by simp;omega
  have q9:(k==9)=false:=by simp;omega
  have v:(k==10)=false:=by simp;omega
  have y:(k==11)=false:=by simp;omega
  have A:(k==12)=false:=by simp;omega
  have B:(k==13)=false:=by simp;omega
  have C:(k==14)=false:=by simp;omega
  have E:(k==15)=false:=by simp;omega
  have F:(k==16)=false:=by simp;omega
  have H:(k==17)=false:=by simp;omega
  have I:(k==18)=false:=by simp;omega
  have J:(k==19)=false:=by simp;omega
  have K:(k==20)=false:=by simp;omega
  have L:(k==21)=false:=by simp;omega
  have M:(k==22)=false:=by simp;omega
  have N:(k==23)=false:=by simp;omega
  have O:(k==24)=false:=by simp;omega
  clear g;by_cases hm:0<=m;all_goals
   go_enter func30,ntmps30;go_wp2;all_goals
    go_ret;refine⟨Xn ?_,bA _⟩;rw[r.o]<;>first|rfl|(simp;done)|(simp;omega)
