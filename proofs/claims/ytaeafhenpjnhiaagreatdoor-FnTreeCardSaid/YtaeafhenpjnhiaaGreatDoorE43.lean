import Derived.Test.YtaeafhenpjnhiaaGreatDoorE42
import Derived.Lib.AppendIntMem
set_option maxHeartbeats 16000000
set_option maxRecDepth 100000
namespace Go.Proofs.YtaeafhenpjnhiaaGreatDoor
open Tryz Go.RowKit
def DV:List ByteArray:=[⟨#[108,101,116,32,97,32,61,32,98,32,60,32,99,32,60,32,100,59]⟩,⟨#[108,101,116,32,97,32,61,32,110,111,116,32,110,111,116,32,98,59]⟩,⟨#[108,101,116,32,97,32,61,32,98,32,61,61,32,110,111,116,32,99,59]⟩,⟨#[108,101,116,32,97,32,61,32,45,98,46,99,91,100,93,40,101,41,59]⟩,⟨#[108,101,116,32,97,32,61,32,91,120,32,102,111,114,32,120,32,105,110,32,105,102,32,121,32,116,104,101,110,32,122,32,101,108,115,101,32,119,32,105,102,32,118,93,59]⟩,⟨#[108,101,116,32,97,32,61,32,102,40,98,32,61,32,49,44,32,99,41,59]⟩,⟨#[108,101,116,32,97,32,61,32,123,98,58,32,49,44,32,34,99,32,100,34,58,32,50,44,32,98,58,32,51,125,59]⟩,⟨#[108,101,116,32,97,32,61,32,49,32,43,32,108,101,116,32,98,32,61,32,50,32,105,110,32,98,59]⟩,⟨#[100,101,102,32,102,40,97,44,32,97,41,32,61,32,49,59]⟩,⟨#[100,101,102,32,102,40,97,32,61,32,49,44,32,98,41,32,61,32,49,59]⟩,⟨#[108,111,97,100,32,34,88,34,58,32,97,59]⟩,⟨#[108,111,97,100,32,34,120,34,58,32,59]⟩,⟨#[101,109,105,116,59]⟩,⟨#[108,101,116,32,97,32,61,32,91,44,93,59]⟩,⟨#[108,101,116,32,97,32,61,32,40,102,110,40,41,32,61,62,32,49,41,40,41,59]⟩,⟨#[108,101,116,32,105,102,32,61,32,49,59]⟩,⟨#[108,101,116,32,97,32,61,32,49]⟩,⟨#[120,59]⟩,⟨#[108,101,116,32,97,32,61,32,45,32,45,32,49,32,42,32,50,59]⟩,⟨#[108,101,116,32,97,32,61,32,102,110,40,98,41,32,61,62,32,98,32,43,32,49,59]⟩,⟨#[35,32,110,111,116,104,105,110,103,10]⟩,⟨#[]⟩]
theorem TT[LB]:∀x∈DV,x.size<=100:=by decide
def DSk[LB](w:World)(e:Ending)(w':World):Prop:=∃s:ByteArray,e= .returned (.string s)/\s.size<=300000/\Tf w w'
theorem TU[LB](B:∀rb vb n q w,Rq rb vb n q w->q<=90000000->Calls prog 36 #[.p rb] w (RTk rb vb n q 250010 w))(F:∀rb vb n,Ir rb vb n)(m:Nat)(v:Value)(w:World)(h:ByV w v m)(hB:Ji<=w.heap.size):Calls prog 9 #[v] w (DSk w):=by
 have HO:=X1 (C4 m v _ h hB);have B:=X1 B;have F:=X1 F;obtain⟨vp,vl,vc,hv⟩:∃p l c,v= .slice p l c:=by
  rcases h with⟨q,c,h,_⟩|⟨g,o,c,h,_⟩
  .exact⟨_,_,_,h⟩
  .exact⟨_,_,_,h⟩
 subst hv;clear h;go_enter func9,ntmps9;go_wp2_with fail;go_fit HO.o;rintro e w1⟨rb,vb,n,rfl,c9,W,b1⟩;have M:Hid (Rq rb vb n 0 w1):=X1 ⟨0,X5 _,W⟩;have Q:Hid (Ty w w1):=X1 (.of b1);clear W b1 HO;go_wp2_with fail;go_fit(Rq.pick M.o (by omega) 24 (by omega) (by omega));rintro e w2⟨k,hk,rfl,X,a3⟩;have C:=X1 X;have u:=X1 (Q.o.trans a3);clear X a3 M Q;by_cases b5:k=0
 .subst b5;have HL:=X1 (Y4 (base:=0) (e:=9) (size:=1) w2 (DV.map Value.string).toArray 22 (Xb _) (by unfold maxLen;omega) rfl);have b3:BL w2 (w2.alloc (.cells (DV.map Value.string).toArray 9)):=bA _;have d:=X1 (C.o.below b3);have j:=X1 (u.o.trans (.of b3));clear b3;simp only[DV,Y5,YD]at HL d j;go_wp2_with fail;go_fit(Rq.pick d.o (by omega) 22 (by omega) (by omega));rintro e w4⟨z4,d4,rfl,b8,I⟩;obtain⟨x,hx,d3⟩:=GY DV 100 z4 TT (by show z4<22;omega);have cl:=Za (Yz HL.o I (by unfold XL;simp)) hx;have A:=X1 (Ty.tf (j.o.trans I));clear I b8 HL;go_wp2;go_ret;exact⟨x,rfl,by omega,A.o⟩
 .have k0:((k:Int)==0)=false:=by simp;omega
  by_cases b6:k=1
  .subst b6;have HM:=X1 (Bt ⟨#[40]⟩ 3994 w2 4000 (by omega) (by omega) (by have:(⟨#[40]⟩:ByteArray).size=1:=rfl;rw[this];omega));have A:=X1 (Ty.tf u.o);go_wp2_with fail;go_fit HM.o;rintro e w3⟨t,rfl,c2,rfl⟩;go_wp2;go_ret;exact⟨_,rfl,by rw[Yo,Yo];have e1:(⟨#[108,101,116,32,97,32,61,32]⟩:ByteArray).size=8:=rfl;have e2:(⟨#[49]⟩:ByteArray).size=1:=rfl;omega,A.o⟩
  .have k1:((k:Int)==1)=false:=by simp;omega
   go_wp2_with fail;go_fit(Sj rb vb n (B.o rb vb n) (F.o rb vb n) _ w2 C.o (by omega));rintro e w3⟨v3,l3,rfl,J,m3,Z,a4⟩;have L:=X1 (Xfa v3 l3 w3 J (by omega));have d:=X1 Z;have j:=X1 ((Ty.tf u.o).trans a4);obtain⟨p3,c3,c4⟩:=J.val;subst c4;clear J Z a4;go_wp2_with fail;go_fit L.o;rintro e w4⟨s,rfl,hs,b4⟩;have N:=X1 (d.o.below b4);have S:=X1 (j.o.trans (.of b4));clear b4 L d j C u;go_wp2_with fail;go_fit(Rq.pick N.o (by omega) 3 (by omega) (by omega));rintro e w5⟨z5,d5,rfl,a0,a5⟩;have E:=X1 a0;have H:=X1 (S.o.trans (Ty.tf a5));clear a0 a5 N S;go_upto_if 31 with fail;go_cut[6]from 29 to 34 (fun v wx=>∃(a:ByteArray) (q':Nat),v= .string a/\a.size<=130000/\q'<=1000000/\Rq rb vb n q' wx/\Tf w wx)
   case first=>
    by_cases h0:z5=0
    .subst h0;go_wp2_with fail;go_fit(X9i rb vb n _ s w5 E.o (by omega) hs);rintro e w6⟨s6,rfl,c0,a1,a6⟩;have a9:=X1 a1;have b2:=X1 (H.o.trans (Ty.tf a6));clear a1 a6;go_wp2_with fail;go_meet
     case rel=>exact⟨s6,_,rfl,c0,by omega,a9.o,b2.o⟩
    .have z0:((z5:Int)==0)=false:=by simp;omega
     go_wp2_with fail;go_meet
     case rel=>exact⟨s,_,rfl,by omega,by omega,E.o,H.o⟩
   case rest=>
    obtain⟨a,q',rfl,d0,c8,a2,a8⟩:=hcut;have O:=X1 a2;have V:=X1 a8;clear a2 a8 E H;by_cases b7:k=2/\a.size<8000
    .obtain⟨rfl,c1⟩:=b7;have d2:(a.size:Int)<8000:=by omega
     go_wp2_with fail;go_fit(Rq.pick O.o (by omega) 2 (by omega) (by omega));rintro e w7⟨K,c5,rfl,y,r⟩;have A:=X1 (V.o.trans (Ty.tf r));clear y r;have c6:IntKind.i64.wrap (8000-(a.size:Int))=8000-(a.size:Int):=by rw[Yp];omega
     have c7:IntKind.i64.wrap (8000-(a.size:Int)+(K:Int))=((8000-a.size+K:Nat):Int):=by rw[Yp];omega
     have HM:=X1 (Bt ⟨#[32]⟩ (8000-a.size+K) w7 9000 (by omega) (by omega) (by have:(⟨#[32]⟩:ByteArray).size=1:=rfl;rw[this];omega));go_wp2_with fail;go_fit HM.o;rintro e w8⟨t,rfl,c2,rfl⟩;go_wp2;go_ret;exact⟨_,rfl,by rw[Yo];omega,A.o⟩
    .go_upto_region 11 with fail;go_cut[41]from 35 to 41 (fun v wx=>v= .bool false/\wx=wc)
     case first=>
      by_cases h2:k=2
      .subst h2;have c1:¬(a.size:Int)<8000:=by omega
       go_wp2_with fail;go_meet
       case rel=>exact⟨rfl,rfl⟩
      .have k2:((k:Int)==2)=false:=by simp;omega
       go_wp2_with fail;go_meet
       case rel=>exact⟨rfl,rfl⟩
     case rest=>
      obtain⟨rfl,rfl⟩:=hcut;go_wp2_with fail;go_fit(Rq.pick O.o (by omega) 2 (by omega) (by omega));rintro e w7⟨K,c5,rfl,y,r⟩;have b0:=X1 y;have U:=X1 (V.o.trans (Ty.tf r));clear y r;by_cases h0:K=0
      .subst h0;go_wp2_with fail;go_fit(NV rb vb n _ a w7 b0.o (by omega) (by omega));rintro e w8⟨s8,rfl,d1,b9,a7⟩;have A:=X1 (U.o.trans (Ty.tf a7));clear b9 a7;go_wp2;go_ret;exact⟨s8,rfl,by omega,A.o⟩
      .have z0:((K:Int)==0)=false:=by simp;omega
       go_wp2;go_ret;exact⟨a,rfl,by omega,U.o⟩
theorem GV[LB](z:Nat)(m8:z=0\/z=1\/z=2\/z=3\/z=4)(rb:Nat)(vb:Value)(n q:Nat)(l:List Nd)(w:World)(g c ob og oc xb k:Nat)(m:Nd)(wc:World)(_hl:l.length<=300000)(_hq:q<=700000000)(_hl1:((l.length:Int)==0)=false)(_hlp:(0:Int)<(l.length:Int))(_hk:k<l.length)(_hrw:rb<w.heap.size)(_HSH:Hid (Sh l))(C:Hid (SP rb vb n w (.l g l.length c) l w.heap.size (w.heap.size+1) ob (q+3) (.l og l.length oc) l wc))(I:Hid (XN w xb (.l og l.length oc) m wc)){s1 s2 a0 a1 a2 a3 a4 a5 a6 a7 a8 a9 b0 b1 b2 b3 b4 b5 b6 b7 b8 b9 c0 c1 c2 c3 c4 u9 m9 n4 n5 n6 n7 n8 n9 o0 o4 o5 o6 o7 o8 o9 p0 p1 p2 p3 p4 p5 p6 p7 p8 p9 q0 q1 q2 q3 q4 q5 q6 q7 q8 q9 r0 r1 r2 r3 r4 r5 r6 r7 r8 r9 s0 s3 s4 s5 s6 s7 s8 s9 t0 t1 t2 t3 t4 t5 t6 t7 t8 t9 u0 u1 c5 c6 c7 c8 c9 d0 d1 d2 d3 d4 d5 d6 d7 d8 d9 e0 e1 e2 e3 e4 e5 e6 e7 e8 e9 f0 f1 f2 f3 f4 f5 f6 f7 f8 f9 g0 g1 g2 g3 g4 g5 g6 g7 g8 g9 h0 h1 h2 h3 h4 h5 h6 h7 h8 h9 i0 i1 i2 i3 i4 i5 i6 i7 i8 i9 j0 j1 j2 j3 j4 j5 j6 j7 j8 j9 k0 k1 k2 k3 k4 k5 k6 k7 k8 k9 l0 l1 l2 l3 l4 l5 l6 l7 l8 l9 m0 m1 m2 m3 m4 m5:Value}(J K':Act->World->Prop)(hJ:spJ rb vb n q l w g c ob og oc xb k s1 s2 a0 a1 a2 a3 a4 a5 a6 a7 a8 a9 b0 b1 b2 b3 b4 b5 b6 b7 b8 b9 c0 c1 c2 c3 c4 J)(hM:∀(a':Act) (w':World),Met J a' w'->K' a' w')(cc:Code)(W:(f35.body.bind Ut)=some cc): Code.wp prog cc (Exit.then K' (bodyPost prog f35 fun e w'=>∃v' l',e= .returned (.agg #[v'])/\NR w' v' l'/\l'.length<=l.length+1/\Rq rb vb n (q+10) w'/\Tf w w')) {tmps:=#[.p rb,s1,s2,.p w.heap.size,.p (w.heap.size+1),.p ob,.q (l.length:Int),.q (k:Int),.p xb,u9,m9,n4,n5,n6,a0,a1,a2,a3,a4,a5,a6,a7,a8,a9,b0,b1,b2,b3,b4,b5,b6,b7,b8,b9,c0,c1,c2,c3,c4,.q (z:Int),n7,n8,n9,o0,o4,o5,o6,o7,o8,o9,p0,p1,p2,p3,p4,p5,p6,p7,p8,p9,q0,q1,q2,q3,q4,q5,q6,q7,q8,q9,r0,r1,r2,r3,r4,r5,r6,r7,r8,r9,s0,s3,s4,s5,s6,s7,s8,s9,t0,t1,t2,t3,t4,t5,t6,t7,t8,t9,u0,u1,c5,c6,c7,c8,c9,d0,d1,d2,d3,d4,d5,d6,d7,d8,d9,e0,e1,e2,e3,e4,e5,e6,e7,e8,e9,f0,f1,f2,f3,f4,f5,f6,f7,f8,f9,g0,g1,g2,g3,g4,g5,g6,g7,g8,g9,h0,h1,h2,h3,h4,h5,h6,h7,h8,h9,i0,i1,i2,i3,i4,i5,i6,i7,i8,i9,j0,j1,j2,j3,j4,j5,j6,j7,j8,j9,k0,k1,k2,k3,k4,k5,k6,k7,k8,k9,l0,l1,l2,l3,l4,l5,l6,l7,l8,l9,m0,m1,m2,m3,m4,m5],defers:=[]} wc:=by
 obtain⟨iN,u7,v0,u8,u6⟩:=YK Un;refine M8 (o:=f35.body.bind Ut) rfl ?_ cc W;unfold spJ at hJ;clear W;rcases m8 with rfl|rfl|rfl|rfl|rfl
 .go_wp2_with fail;go_fit(Rq.pick C.o.r (by omega) 27 (by omega) (by omega));rintro e N⟨B,M,rfl,j,a⟩;have s:=X1 (C.o.ty a j);have d:=X1 (I.o.ty a);clear j a;have v1:IntKind.i64.wrap ((B:Int)-1)=(B:Int)-1:=by rw[Yp];omega
  obtain⟨y0,y1,y2,y3,y4,E⟩:=d.o.cells;have m6:=E 0;have v:=X1 (s.o.GS d.o 0 (.q ((B:Int)-1)));have y:=X1 (d.o.set 0 (.q ((B:Int)-1)) ⟨(B:Int)-1,m.op,m.n,m.text,m.kids⟩ rfl d.o.sh);clear E;go_wp2_with fail;go_meet
  case rel=>exact⟨_,v.o.mono (by omega),y.o⟩
 .have O:BL wc wc.drew:=(X8 _ _).drew;have H:=X1 (C.o.below O);have K:=X1 (I.o.below O);obtain⟨y0,y1,y2,y3,y4,E⟩:=K.o.cells;clear E O;go_wp2_with fail;go_region_law(first
   | (refine Kf rfl 22 (.tmp 64) (.const (.q 5)) _ _ rfl (.p rb) (.q 5) (by first|(simp[Act.eval];done)|simp[Act.eval,Act.put]) (by first|(simp[Act.eval];done)|simp[Act.eval,Act.put]) f22 func22 (by kernel_rfl) (by kernel_rfl) _ (Rq.pick_ex H.o.r (by omega) 5 (by omega) (by omega)) ?_;intro u2 N V;obtain⟨B,M,L,j,a⟩:=V;subst L;have s:=X1 (H.o.ty a j);have d:=X1 (K.o.ty a);obtain⟨z0,u3,u4,z3,z4,zf⟩:=d.o.cells;have u5:=zf 1;clear j a zf))
  all_goals
   have v:=X1 (fun z:Int=>s.o.GS d.o 1 (.q z));have y:=X1 (fun z:Int=>d.o.set 1 (.q z) ⟨m.kind,z,m.n,m.text,m.kids⟩ rfl d.o.sh);go_wp2_with fail;go_meet
   case rel=>exact⟨_,(v.o _).mono (by omega),y.o _⟩
 .have A:BL wc (wc.alloc (.cells #[.q (-1),.q 0,.q 1,.q 2] 2)):=bA _;have F:=X1 (C.o.below A);have U:=X1 (I.o.below A);have S:=X1 (Y4 (base:=0) (e:=2) (size:=1) wc #[.q (-1),.q 0,.q 1,.q 2] 4 (Xb _) (by unfold maxLen;omega) rfl);clear A;go_wp2_with fail;go_fit(Rq.pick F.o.r (by omega) 4 (by omega) (by omega));rintro e N⟨B,M,rfl,j,a⟩;have s:=X1 (F.o.ty a j);have d:=X1 (U.o.ty a);have Q:=X1 (Yz S.o a (by unfold XL;simp));clear j a;obtain⟨u,Z,X⟩:∃u:Int,u<9223372036854775808/\([.q (-1),.q 0,.q 1,.q 2]:List Value)[B]?=some (.q u):=by
   have m7:B=0\/B=1\/B=2\/B=3:=by omega
   rcases m7 with rfl|rfl|rfl|rfl<;>exact⟨_,by decide,rfl⟩
  have cl:=Za Q.o X;clear X;obtain⟨y0,y1,y2,y3,y4,E⟩:=d.o.cells;have m6:=E 2;have v:=X1 (s.o.GS d.o 2 (.q u));have y:=X1 (d.o.set 2 (.q u) ⟨m.kind,m.op,u,m.text,m.kids⟩ rfl ⟨d.o.sh.1,Z⟩);clear E;go_wp2_with fail;go_meet
  case rel=>exact⟨_,v.o.mono (by omega),y.o⟩
 .have HM:=X1 (X9j wc);go_wp2_with fail;go_fit HM.o;rintro e w9⟨tx,rfl,rfl⟩;have A:BL w9 (w9.alloc (.cells #[.t #[],.t #[110,49],.t #[112,48],.t #[115,48],.t #[102,48],.t #[108,101,116],.t #[57,120],.t #[65],.t #[108,101,110],.string tx.val] 9)):=bA _;have F:=X1 (C.o.below A);have U:=X1 (I.o.below A);have S:=X1 (Y4 (base:=0) (e:=9) (size:=1) w9 #[.t #[],.t #[110,49],.t #[112,48],.t #[115,48],.t #[102,48],.t #[108,101,116],.t #[57,120],.t #[65],.t #[108,101,110],.string tx.val] 10 (Xb _) (by unfold maxLen;omega) rfl);clear A HM;go_wp2_with fail;go_fit(Rq.pick F.o.r (by omega) 10 (by omega) (by omega));rintro e N⟨B,M,rfl,j,a⟩;have s:=X1 (F.o.ty a j);have d:=X1 (U.o.ty a);have Q:=X1 (Yz S.o a (by unfold XL;simp));clear j a;obtain⟨u,X⟩:=Y1d tx B (by omega);have cl:=Za Q.o X;clear X;obtain⟨y0,y1,y2,y3,y4,E⟩:=d.o.cells;have m6:=E 3;have v:=X1 (s.o.GS d.o 3 (.string u.val));have y:=X1 (d.o.set 3 (.string u.val) ⟨m.kind,m.op,m.n,u.val,m.kids⟩ rfl ⟨u.2,d.o.sh.2⟩);clear E;go_wp2_with fail;go_meet
  case rel=>exact⟨_,v.o.mono (by omega),y.o⟩
 .have O:BL wc wc.drew:=(X8 _ _).drew;have H:=X1 (C.o.below O);have K:=X1 (I.o.below O);obtain⟨y0,y1,y2,y3,y4,E⟩:=K.o.cells;clear E O;go_wp2_with fail;go_region_law(first
   | (refine Kf rfl 22 (.tmp 90) (.const (.q 3)) _ _ rfl (.p rb) (.q 3) (by first|(simp[Act.eval];done)|simp[Act.eval,Act.put]) (by first|(simp[Act.eval];done)|simp[Act.eval,Act.put]) f22 func22 (by kernel_rfl) (by kernel_rfl) _ (Rq.pick_ex H.o.r (by omega) 3 (by omega) (by omega)) ?_;intro u2 N V;obtain⟨B,M,L,j,a⟩:=V;subst L;have s:=X1 (H.o.ty a j);have d:=X1 (K.o.ty a);obtain⟨z0,u3,u4,z3,z4,zf⟩:=d.o.cells;have u5:=zf 4;clear j a zf))
  all_goals
   have v:=X1 (fun z:Int=>s.o.GS d.o 4 (.q z));have y:=X1 (fun z:Int=>d.o.set 4 (.q z) ⟨m.kind,m.op,m.n,m.text,z⟩ rfl d.o.sh);go_wp2_with fail;go_meet
   case rel=>exact⟨_,(v.o _).mono (by omega),y.o _⟩
theorem PL[LB](z:Nat)(a3:z=5\/z=6\/z=7)(rb:Nat)(vb:Value)(n q:Nat)(l:List Nd)(w:World)(g c O I H xb k:Nat)(x0:Nd)(wc:World)(_hl:l.length<=300000)(_hq:q<=700000000)(_hl1:((l.length:Int)==0)=false)(_hlp:(0:Int)<(l.length:Int))(_hk:k<l.length)(_hrw:rb<w.heap.size)(_HSH:Hid (Sh l))(o6:Hid (SP rb vb n w (.l g l.length c) l w.heap.size (w.heap.size+1) O (q+3) (.l I l.length H) l wc))(o9:Hid (XN w xb (.l I l.length H) x0 wc)){s1 s2 a4 a5 a6 a7 a8 a9 b0 b1 b2 b3 b4 b5 b6 b7 b8 b9 c0 c1 c2 c3 c4 c5 c6 c7 c8 u9 p3 p4 p5 p6 p7 p8 p9 q1 q2 q3 q4 q5 q6 q7 q8 q9 r0 r1 r2 r3 r4 r5 r6 r7 r8 r9 s0 s3 s4 s5 s6 s7 s8 s9 t1 t2 t3 t4 t5 t6 t7 t8 t9 u0 u1 u2 u3 u4 u5 u6 u7 u8 v0 v1 v2 v3 v4 v5 v6 v7 v8 v9 w0 w1 c9 d0 d1 d2 d3 d4 d5 d6 d7 d8 d9 e5 e6 e7 e8 e9 f0 f1 f2 f3 f4 f5 f6 f7 f8 f9 g0 g1 g2 g3 g4 g5 g6 g7 g8 g9 h0 h1 h2 h3 h4 h6 h7 h8 h9 i0 i1 i2 i3 i4 i5 i6 i7 i8 i9 j0 j1 j2 j3 j4 j5 j6 j7 j8 j9 k0 k1 k2 k3 k4 k5 k6 k7 k8 k9 l0 l1 l2 l3 l4 l5 l6 l7 l8 l9 m0 m1 m2 m3 m4 m5 m6 m7 m8 m9 n4 n5 n6 n7 n8 n9:Value}(J K':Act->World->Prop)(hJ:spJ rb vb n q l w g c O I H xb k s1 s2 a4 a5 a6 a7 a8 a9 b0 b1 b2 b3 b4 b5 b6 b7 b8 b9 c0 c1 c2 c3 c4 c5 c6 c7 c8 J)(hM:∀(a':Act) (w':World),Met J a' w'->K' a' w')(cc:Code)(a2:(f35.body.bind Ut)=some cc): Code.wp prog cc (Exit.then K' (bodyPost prog f35 fun e w'=>∃v' l',e= .returned (.agg #[v'])/\NR w' v' l'/\l'.length<=l.length+1/\Rq rb vb n (q+10) w'/\Tf w w')) {tmps:=#[.p rb,s1,s2,.p w.heap.size,.p (w.heap.size+1),.p O,.q (l.length:Int),.q (k:Int),.p xb,u9,p3,p4,p5,p6,a4,a5,a6,a7,a8,a9,b0,b1,b2,b3,b4,b5,b6,b7,b8,b9,c0,c1,c2,c3,c4,c5,c6,c7,c8,.q (z:Int),p7,p8,p9,q1,q2,q3,q4,q5,q6,q7,q8,q9,r0,r1,r2,r3,r4,r5,r6,r7,r8,r9,s0,s3,s4,s5,s6,s7,s8,s9,t1,t2,t3,t4,t5,t6,t7,t8,t9,u0,u1,u2,u3,u4,u5,u6,u7,u8,v0,v1,v2,v3,v4,v5,v6,v7,v8,v9,w0,w1,c9,d0,d1,d2,d3,d4,d5,d6,d7,d8,d9,e5,e6,e7,e8,e9,f0,f1,f2,f3,f4,f5,f6,f7,f8,f9,g0,g1,g2,g3,g4,g5,g6,g7,g8,g9,h0,h1,h2,h3,h4,h6,h7,h8,h9,i0,i1,i2,i3,i4,i5,i6,i7,i8,i9,j0,j1,j2,j3,j4,j5,j6,j7,j8,j9,k0,k1,k2,k3,k4,k5,k6,k7,k8,k9,l0,l1,l2,l3,l4,l5,l6,l7,l8,l9,m0,m1,m2,m3,m4,m5,m6,m7,m8,m9,n4,n5,n6,n7,n8,n9],defers:=[]} wc:=by
 obtain⟨iN,w8,x1,w9,w7⟩:=YK Un;refine M8 (o:=f35.body.bind Ut) rfl ?_ cc a2;unfold spJ at hJ;clear a2;have e0:((z:Int)==0)=false:=UM.2 (by omega);have e1:((z:Int)==1)=false:=UM.2 (by omega);have e2:((z:Int)==2)=false:=UM.2 (by omega);have e3:((z:Int)==3)=false:=UM.2 (by omega);have e4:((z:Int)==4)=false:=UM.2 (by omega);obtain⟨wk,p1⟩:∃x,x=wc:=⟨wc,rfl⟩;subst p1;go_upto_if 95 with fail;go_cut[95]from 96 to 98 (fun v Q=>v= .bool true/\Q=wk)
 case first=>
  clear e0 e1 e2 e3 e4;rcases a3 with rfl|rfl|rfl;all_goals
   go_wp2_with fail;go_meet
   case rel=>exact⟨rfl,rfl⟩
 case rest=>
  obtain⟨rfl,rfl⟩:=hcut;clear e0 e1 e2 e3 e4 a3;go_wp2_with fail;go_loopw[9,10] (fun tv _ wr=>∃i:Nat,i<=l.length/\tv= .q (i:Int)/\SP rb vb n w (.l g l.length c) l w.heap.size (w.heap.size+1) O (q+3) (.l I l.length H) l wr/\XN w xb (.l I l.length H) x0 wr) (fun tv _ _=>l.length-(intOf tv).toNat)
  case atStart=>exact⟨0,Xb _,rfl,o6.o,o9.o⟩
  case round=>
   obtain⟨i,hi,rfl,Z,a1⟩:=hrel;have s:=X1 Z;have A:=X1 a1;clear Z a1;by_cases x3:i<l.length
   .have w4:(i:Int)<(l.length:Int):=by omega
    have F:(k+i)%l.length<l.length:=Wt _ (by omega);have e1:((k:Int)+(i:Int))%(l.length:Int)=(((k+i)%l.length:Nat):Int):=by simp
    have e2:((k:Int)+(i:Int)).tmod (l.length:Int)=(((k+i)%l.length:Nat):Int):=by rw[UY (by omega)];exact e1
    have e3:IntKind.i64.wrap ((k:Int)+(i:Int))=(k:Int)+(i:Int):=by rw[Yp];omega
    generalize(k+i)%l.length=j at *;have x2:(j:Int)<(l.length:Int):=by omega
    have o5:=s.o.cells.2.2.1;have q0:=(s.o.node F).1;generalize l[j].kind=kj at q0;go_upto_region 27 with fail;go_cut[133]from 99 to 144 (fun v Q=>∃b,v= .bool b/\SP rb vb n w (.l g l.length c) l w.heap.size (w.heap.size+1) O (q+3) (.l I l.length H) l Q/\XN w xb (.l I l.length H) x0 Q)
    case first=>
     by_cases h5:kj=5
     .subst h5;go_wp2_with fail;go_meet
      case rel=>exact⟨_,rfl,s.o,A.o⟩
     .have w6:(kj==5)=false:=by simpa using h5
      by_cases V:kj=14
      .subst V;go_wp2_with fail;go_meet
       case rel=>exact⟨_,rfl,s.o,A.o⟩
      .have w3:(kj==14)=false:=by simpa using V
       go_wp2_with fail;go_fit(ZD _ _ _ _);rintro e wq⟨rfl,rfl⟩;go_wp2_with fail;go_meet
       case rel=>exact⟨_,rfl,s.o,A.o⟩
    case rest=>
     obtain⟨b,rfl,W,a0⟩:=hcut;have K:=X1 W;have p0:=X1 a0;clear W a0 s A q0 o5;cases b
     .go_wp2;go_roundw
      case rel=>exact⟨i+1,by omega,by go_num,K.o,p0.o⟩
      case measure=>simp[intOf];omega
     .have BD:BL wc wc.drew:=(X8 _ _).drew;have S:BL wc (wc.alloc (.cells #[.t #[110,49],.t #[110,50],.t #[112,48],.t #[112,49],.t #[115,48],.t #[115,49],.t #[102,48],.t #[110,111,110,101,95,115,117,99,104]] 9)).drew:=(bA _).drew;have M:=X1 (K.o.below BD);have L:=X1 (K.o.below S);have od:=M.o.cells.2.2.1;have oL:=L.o.cells.2.2.1;have o4:Hid ((wc.alloc (.cells #[.t #[110,49],.t #[110,50],.t #[112,48],.t #[112,49],.t #[115,48],.t #[115,49],.t #[102,48],.t #[110,111,110,101,95,115,117,99,104]] 9)).drew.ownsRow 0 9 1 (.l wc.heap.size 8 8) 8 [.t #[110,49],.t #[110,50],.t #[112,48],.t #[112,49],.t #[115,48],.t #[115,49],.t #[102,48],.t #[110,111,110,101,95,115,117,99,104]]):=X1 (Y4 (base:=0) (e:=9) (size:=1) wc #[.t #[110,49],.t #[110,50],.t #[112,48],.t #[112,49],.t #[115,48],.t #[115,49],.t #[102,48],.t #[110,111,110,101,95,115,117,99,104]] 8 (Xb _) (by unfold maxLen;omega) rfl);clear BD S;go_upto_region 28 with fail;go_cut[]from 99 to 144 (fun Q=>∃t:XJ,SP rb vb n w (.l g l.length c) l w.heap.size (w.heap.size+1) O (q+4) (.l I l.length H) (l.set j {l[j]with text:=t.val}) Q)
      case first=>
       go_region_law(first
        | ((with_reducible refine KJ ((wc.alloc (.cells #[.t #[110,49],.t #[110,50],.t #[112,48],.t #[112,49],.t #[115,48],.t #[115,49],.t #[102,48],.t #[110,111,110,101,95,115,117,99,104]] 9)).drew) ?_);refine Kf rfl 22 (.tmp 138) (.const (.q 8)) _ _ rfl (.p rb) (.q 8) (by first|(simp[Act.eval];done)|simp[Act.eval,Act.put]) (by first|(simp[Act.eval];done)|simp[Act.eval,Act.put]) f22 func22 (by kernel_rfl) (by kernel_rfl) _ (Rq.pick_ex L.o.r (by omega) 8 (by omega) (by omega)) ?_;intro w2 o0 N;obtain⟨zq,p2,B,m,a⟩:=N;subst B;have d:=X1 (L.o.ty a m);obtain⟨u,hu⟩:=E9 zq (by omega);have o8:=d.o.cells.2.2.1;have n3:=(d.o.node F).2.2.2.1;have nf:=(d.o.node F).2.2.2.2.2 (j*5+3);have U:=Yz o4.o a (by unfold XL;simp);have cl:=Za U hu;clear m a hu U)
        | ((with_reducible refine KJ (wc.drew) ?_);refine Kf rfl 22 (.tmp 138) (.const (.q 8)) _ _ rfl (.p rb) (.q 8) (by first|(simp[Act.eval];done)|simp[Act.eval,Act.put]) (by first|(simp[Act.eval];done)|simp[Act.eval,Act.put]) f22 func22 (by kernel_rfl) (by kernel_rfl) _ (Rq.pick_ex M.o.r (by omega) 8 (by omega) (by omega)) ?_;intro w2 o0 N;obtain⟨zq,p2,B,m,a⟩:=N;subst B;have d:=X1 (M.o.ty a m);obtain⟨u,hu⟩:=E9 zq (by omega);have o8:=d.o.cells.2.2.1;have n3:=(d.o.node F).2.2.2.1;have nf:=(d.o.node F).2.2.2.2.2 (j*5+3);have E:=X1 (d.o.below (bA (.cells #[.t #[110,49],.t #[110,50],.t #[112,48],.t #[112,49],.t #[115,48],.t #[115,49],.t #[102,48],.t #[110,111,110,101,95,115,117,99,104]] 9)));have w5:=Za (Y4 (base:=0) (e:=9) (size:=1) o0 #[.t #[110,49],.t #[110,50],.t #[112,48],.t #[112,49],.t #[115,48],.t #[115,49],.t #[102,48],.t #[110,111,110,101,95,115,117,99,104]] 8 (Xb _) (by unfold maxLen;omega) rfl) hu;have oA:=E.o.cells.2.2.1;have x5:=(E.o.node F).2.2.2.1;have x6:=(E.o.node F).2.2.2.2.2 (j*5+3);clear m a hu))
       all_goals
        go_wp2_with fail;go_meet
        case rel=>first|exact⟨u,d.o.Co u.val u.2 F⟩|exact⟨u,E.o.Co u.val u.2 F⟩
      case rest=>
       obtain⟨t,X⟩:=hcut;have C:=X1 X;have o7:=X.cells.2.2.1;have y:=X1 (C.o.ret (l':=l.set j {l[j]with text:=t.val}) ⟨Qo C.o.o (Xb _),C.o.sh⟩);obtain⟨_,t0,_,ft,_⟩:=C.o.cells;go_wp2;exact Xq (v:= .agg #[(.l I l.length H)]) (by simp[results,results35,go_sem,t0]) rfl (by first|exact⟨_,_,rfl,y.o.1,(by rw[Wp];omega),y.o.2.1.mono (by omega),y.o.2.2⟩|exact⟨_,rfl,_,y.o.1,(by rw[Wp];omega),y.o.2.1.mono (by omega),y.o.2.2⟩)
   .have x4:¬(i:Int)<(l.length:Int):=by omega
    go_wp2_with fail;go_meet
    case rel=>exact⟨x0,s.o.mono (by omega),A.o⟩
variable {K:Nat->Prop} {w0:World} {ob:Nat} {m v0:Value} {wS:World} {v:Value} {t:List UInt8} {w:World}
theorem FW:∀(k n:Nat),n<=k->Lib.decDigits n=Yh n:=by
 intro k;induction k with
 | zero=>
  intro n a;obtain rfl:n=0:=by omega
  rw[Lib.decDigits,Yh];rfl
 | succ k d=>
  intro n a;rw[Lib.decDigits,Yh];by_cases h:n<10
  .rw[dif_pos h,dif_pos h,Jy,Nat.mod_eq_of_lt h]
  .rw[dif_neg h,dif_neg h,d _ (by omega)];rfl
theorem Ho(n:Nat):Lib.itoa (n:Int)=Yh n:=by
 unfold Lib.itoa;rw[X6 (by omega)];exact FW _ _ (X5 _)
theorem Ap(b:Bool)(w:World):CS 241 #[.bool b] w (.string (if b then⟨#[116,114,117,101]⟩else⟨#[102,97,108,115,101]⟩)):=by
 have q:CS 243 #[.bool b] w (.string (if b then⟨#[116,114,117,101]⟩else⟨#[102,97,108,115,101]⟩)):=by
  cases b;all_goals
   go_enter func243,ntmps243;go_wp2;go_ret;exact⟨rfl,rfl⟩
 cases b;all_goals
  have a:=X1 q;clear q;go_enter func241,ntmps241;go_wp2_with fail;go_fit a.o;rintro e w'⟨rfl,rfl⟩;go_wp2;go_ret;exact⟨rfl,rfl⟩
theorem X6w(j:KpW K w0 ob v w)(k:PtR ob m v t w)(o n c:Int)(s:ByteArray)(p:Option Addr)(l d:Nat)(A:t.length+4<=90000000):Calls prog 240 #[.agg #[.q 1,.q o,.q n,.string s,.q c,.slice p l d],.p ob] w fun e w'=>Wd ob m v t [110,111,110,101] w e w':=by
 have u:=X1 (WS.box j k (.cells #[.q 1,.q o,.q n,.string s,.q c,.slice p l d] 153));clear j k;go_enter func240,ntmps240;have r:=X1 (u.o.put ⟨#[110,111,110,101]⟩ (by show t.length+4<=_;omega));go_wp2_with fail;go_fit r.o;rintro e B⟨rfl,y,g⟩;have a:=X1 g;clear g;go_wp2;refine Xw ?_;exact⟨rfl,y,by have:=a.o.pr;simpa[wv]using this,a.o.gr⟩
theorem X6i(j:KpW K w0 ob v w)(k:PtR ob m v t w)(o c:Int)(s:ByteArray)(p:Option Addr)(l d:Nat)(y:t.length+5<=90000000):Calls prog 240 #[.agg #[.q 2,.q o,.q 0,.string s,.q c,.slice p l d],.p ob] w fun e w'=>Wd ob m v t [102,97,108,115,101] w e w':=by
 have r:=X1 (WS.box j k (.cells #[.q 2,.q o,.q 0,.string s,.q c,.slice p l d] 153));clear j k;go_enter func240,ntmps240;go_wp2_with fail;go_fit(Ap false _);rintro e A⟨rfl,rfl⟩;have n:=X1 (r.o.put ⟨#[102,97,108,115,101]⟩ (by show t.length+5<=_;omega));go_wp2_with fail;go_fit n.o;rintro e B⟨rfl,u,g⟩;have a:=X1 g;clear g;go_wp2;refine Xw ?_;exact⟨rfl,u,by have:=a.o.pr;simpa[wv]using this,a.o.gr⟩
theorem X7d(j:KpW K w0 ob v w)(k:PtR ob m v t w)(o c:Int)(s:ByteArray)(p:Option Addr)(l d:Nat)(y:t.length+4<=90000000):Calls prog 240 #[.agg #[.q 2,.q o,.q 1,.string s,.q c,.slice p l d],.p ob] w fun e w'=>Wd ob m v t [116,114,117,101] w e w':=by
 have r:=X1 (WS.box j k (.cells #[.q 2,.q o,.q 1,.string s,.q c,.slice p l d] 153));clear j k;go_enter func240,ntmps240;go_wp2_with fail;go_fit(Ap true _);rintro e A⟨rfl,rfl⟩;have n:=X1 (r.o.put ⟨#[116,114,117,101]⟩ (by show t.length+4<=_;omega));go_wp2_with fail;go_fit n.o;rintro e B⟨rfl,u,g⟩;have a:=X1 g;clear g;go_wp2;refine Xw ?_;exact⟨rfl,u,by have:=a.o.pr;simpa[wv]using this,a.o.gr⟩
theorem X3b(d:Nat)(g:d<=9223372036854775807)(w:World)(h:Lib.TabIs prog w "internal/strconv.uint64pow10" .u64 Lib.pow10Tab):CB 242 #[.q (d:Int),.q 10] w (.string ⟨(Yh d).toArray⟩):=by
 have q:=Any.strconv_FormatInt_10 X8m (d:Int) (by omega) (by omega) w h;rw[Ho]at q;exact q.mono fun _ _ ⟨a,k,os,e⟩=>⟨a,by rw[e];exact Lib.below_grow _ _ (X5 _) k os⟩
theorem X6p(a:KpW K w0 ob v w)(u:PtR ob m v t w)(o c:Int)(s:ByteArray)(p:Option Addr)(l n:Nat)(d:Nat)(C:d<=9223372036854775807)(E:∀w v,KpW K w0 ob v w->Lib.TabIs prog w "internal/strconv.uint64pow10" .u64 Lib.pow10Tab)(I:t.length+(Yh d).length<=90000000):Calls prog 240 #[.agg #[.q 3,.q o,.q (d:Int),.string s,.q c,.slice p l n],.p ob] w (Wd ob m v t (Yh d) w):=by
 have g:=X1 (WS.box a u (.cells #[.q 3,.q o,.q (d:Int),.string s,.q c,.slice p l n] 153));have A:=X1 (X3b d C _ (E _ _ (g.o.kp.o a)));clear a u;go_enter func240,ntmps240;go_wp2_with fail;go_fit A.o;rintro e J⟨rfl,k⟩;have y:=X1 (g.o.below k);clear k;have F:(⟨(Yh d).toArray⟩:ByteArray).size=(Yh d).length:=by show(Yh d).toArray.size=_;rw[List.size_toArray]
 have B:=X1 (y.o.put ⟨(Yh d).toArray⟩ (by rw[F];omega));go_wp2_with fail;go_fit B.o;rintro e L⟨rfl,H,r⟩;have j:=X1 r;clear r;go_wp2;refine Xw ?_;exact⟨rfl,H,by have:=j.o.pr;simpa[wv]using this,j.o.gr⟩
theorem X7c(k:KpW K w0 ob v w)(r:PtR ob m v t w)(o n c:Int)(s:ByteArray)(p:Option Addr)(l g:Nat)(B:s.size<=1000000)(F:t.length+(Y3 s.data.toList).length<=90000000):Calls prog 240 #[.agg #[.q 4,.q o,.q n,.string s,.q c,.slice p l g],.p ob] w (Wd ob m v t (Y3 s.data.toList) w):=by
 have A:=X1 (WS.box k r (.cells #[.q 4,.q o,.q n,.string s,.q c,.slice p l g] 153));clear k r;go_enter func240,ntmps240;go_wp2_with fail;go_fit(Og s _ B);rintro e H⟨rfl,d⟩;have u:=X1 (A.o.below d);clear d;have C:(⟨(Y3 s.data.toList).toArray⟩:ByteArray).size=(Y3 s.data.toList).length:=by show(Y3 s.data.toList).toArray.size=_;rw[List.size_toArray]
 have y:=X1 (u.o.put ⟨(Y3 s.data.toList).toArray⟩ (by rw[C];omega));go_wp2_with fail;go_fit y.o;rintro e I⟨rfl,E,j⟩;have a:=X1 j;clear j;go_wp2;refine Xw ?_;exact⟨rfl,E,by have:=a.o.pr;simpa[wv]using this,a.o.gr⟩
variable {K:Nat->Prop} {w0:World} {ob:Nat} {m v0:Value} {wS:World} {v:Value} {t:List UInt8} {w:World}
theorem X6j{r:Nat}(A:KpW K w0 ob v w)(Q:PtR ob (.map (some r)) v t w)(k o n c:Int)(s:ByteArray)(g j:Nat)(u:Value)(b:List UInt8)(hs:s.size<=1000)(y:K6 s=true)(hm:∀w v,KpW K w0 ob v w->w.ownsMap (H:=Unit) prog 9 unitElem r 17 Sc.Q6)(d:KD w0 K ob (.map (some r)) [u] [b] g 0)(hn:t.length+(s.data.toList).length+2+b.length<=90000000):Calls prog 231 #[.agg #[.q k,.q o,.q n,.string s,.q c,.l g 1 j],.p ob] w fun e w'=>Wd ob (.map (some r)) v t (s.data.toList++58::32::b) w e w':=by
 have B:=X1 (WS.box A Q (.cells #[.q k,.q o,.q n,.string s,.q c,.l g 1 j] 145));have U:=X1 (d.box A (.cells #[.q k,.q o,.q n,.string s,.q c,.l g 1 j] 145));have J:=X1 (Om s r _ (by omega) (hm _ _ (B.o.kp.o A)));rw[y]at J;obtain⟨X,O⟩:∃X:ByteArray,X=s:=⟨_,rfl⟩;have a:X.data.toList=s.data.toList:=by rw[O]
 have E:X.size=(s.data.toList).length:=by rw[←a];exact Array.length_toList.symm
 have c1:=B.o.pr.c1;clear A Q d hm y;go_enter func231,ntmps231;go_wp2_with fail;go_fit J.o;rintro e S⟨rfl,M⟩;have F:=X1 (B.o.below M);clear M;obtain⟨e0,e1,e2,e3,e4,e5⟩:=F.o.six;have C:wv [X++⟨#[58,32]⟩] [b] 1 1=s.data.toList++58::32::b:=by simp[wv,a]
 have W:¬(X.size+2 > 9223372036854775807):=by omega
 have q:Calls prog 206 #[.p ob,.l g 1 j,.l S.heap.size 1 1] (S.z #[.string (X++⟨#[58,32]⟩)] 9) fun e w'=>WP (fun q=>K q\/q=w.heap.size\/q=w.heap.size) (w.z #[.q k,.q o,.q n,.string s,.q c,.l g 1 j] 145) ob (.map (some r)) v w (t++(s.data.toList++58::32::b)) e w':=by
  rw[←C];exact U.o.Jo F.o (by simp) j [X++⟨#[58,32]⟩] (by simp) (by show _+(wv [X++⟨#[58,32]⟩] [b] 1 1).length<=_;rw[C,Xj];show _+(_+(b.length+1+1))<=_;omega)
 have I:=X1 q;have V:=X1 O;clear q C a E;rw[V.o]at I W;go_wp2_with fail;go_fit I.o;rintro e w3⟨rfl,Z,N⟩;have L:=X1 N;clear N;go_wp2;refine Xw ?_;exact⟨rfl,Z,L.o.pr,L.o.gr⟩
theorem X6k{r:Nat}(A:KpW K w0 ob v w)(S:PtR ob (.map (some r)) v t w)(k o n c:Int)(s:ByteArray)(g j:Nat)(u:Value)(b:List UInt8)(hs:s.size<=1000)(y:K6 s=false)(hm:∀w v,KpW K w0 ob v w->w.ownsMap (H:=Unit) prog 9 unitElem r 17 Sc.Q6)(d:KD w0 K ob (.map (some r)) [u] [b] g 0)(hn:t.length+(Y3 s.data.toList).length+2+b.length<=90000000):Calls prog 231 #[.agg #[.q k,.q o,.q n,.string s,.q c,.l g 1 j],.p ob] w fun e w'=>Wd ob (.map (some r)) v t (Y3 s.data.toList++58::32::b) w e w':=by
 have B:=X1 (WS.box A S (.cells #[.q k,.q o,.q n,.string s,.q c,.l g 1 j] 145));have W:=X1 (d.box A (.cells #[.q k,.q o,.q n,.string s,.q c,.l g 1 j] 145));have J:=X1 (Om s r _ (by omega) (hm _ _ (B.o.kp.o A)));rw[y]at J;obtain⟨X,Q⟩:∃X:ByteArray,X=⟨(Y3 s.data.toList).toArray⟩:=⟨_,rfl⟩;have a:X.data.toList=Y3 s.data.toList:=by rw[Q]
 have E:X.size=(Y3 s.data.toList).length:=by rw[←a];exact Array.length_toList.symm
 have c1:=B.o.pr.c1;clear A S d hm y;go_enter func231,ntmps231;go_wp2_with fail;go_fit J.o;rintro e w1⟨rfl,M⟩;have V:=X1 (B.o.below M);clear M;go_wp2_with fail;go_fit(Og s _ (by omega));rintro e U⟨rfl,N⟩;have F:=X1 (V.o.below N);clear N;obtain⟨e0,e1,e2,e3,e4,e5⟩:=F.o.six;have C:wv [X++⟨#[58,32]⟩] [b] 1 1=Y3 s.data.toList++58::32::b:=by simp[wv,a]
 have dm:¬(X.size+2 > 9223372036854775807):=by omega
 have q:Calls prog 206 #[.p ob,.l g 1 j,.l U.heap.size 1 1] (U.z #[.string (X++⟨#[58,32]⟩)] 9) fun e w'=>WP (fun q=>K q\/q=w.heap.size\/q=w.heap.size) (w.z #[.q k,.q o,.q n,.string s,.q c,.l g 1 j] 145) ob (.map (some r)) v w (t++(Y3 s.data.toList++58::32::b)) e w':=by
  rw[←C];exact W.o.Jo F.o (by simp) j [X++⟨#[58,32]⟩] (by simp) (by show _+(wv [X++⟨#[58,32]⟩] [b] 1 1).length<=_;rw[C,Xj];show _+(_+(b.length+1+1))<=_;omega)
 have I:=X1 q;have Z:=X1 Q;clear q C a E;rw[Z.o]at I dm;go_wp2_with fail;go_fit I.o;rintro e w3⟨rfl,vT,O⟩;have L:=X1 O;clear O;go_wp2;refine Xw ?_;exact⟨rfl,vT,L.o.pr,L.o.gr⟩
theorem X6s{a:List Value}{u:List (List UInt8)}(y:KpW K w0 ob v w)(H:PtR ob m v t w)(k o n c:Int)(s:ByteArray)(g j:Nat)(d:KD w0 K ob m a u g 0)(hs:s.size<=1000)(hn:t.length+(Y3 s.data.toList).length+(jn u a.length).length+9<=90000000):Calls prog 238 #[.agg #[.q k,.q o,.q n,.string s,.q c,.l g a.length j],.p ob] w fun e w'=>Wd ob m v t (108::111::97::100::32::(Y3 s.data.toList++58::32::(jn u a.length++[59,10]))) w e w':=by
 have O:=X1 (WS.box y H (.cells #[.q k,.q o,.q n,.string s,.q c,.l g a.length j] 151));have J:=X1 (d.box y (.cells #[.q k,.q o,.q n,.string s,.q c,.l g a.length j] 151));clear y H d;have A:(⟨(Y3 s.data.toList).toArray⟩:ByteArray).size=(Y3 s.data.toList).length:=by show(Y3 s.data.toList).toArray.size=_;rw[List.size_toArray]
 have U:=X1 A;go_enter func238,ntmps238;go_wp2_with fail;go_fit(Og s _ (by omega));rintro e w1⟨rfl,C⟩;have V:¬(5+(⟨(Y3 s.data.toList).toArray⟩:ByteArray).size > 9223372036854775807):=by omega
 have Q:¬(5+(⟨(Y3 s.data.toList).toArray⟩:ByteArray).size+2 > 9223372036854775807):=by omega
 have L:=X1 ((O.o.below C).put ((⟨#[108,111,97,100,32]⟩:ByteArray)++⟨(Y3 s.data.toList).toArray⟩++⟨#[58,32]⟩) (by rw[KA,KA,A];show t.length+(5+_+2)<=_;omega));clear C A;go_wp2_with fail;go_fit L.o;rintro e w2⟨rfl,v2,r⟩;have I:t++((⟨#[108,111,97,100,32]⟩:ByteArray)++⟨(Y3 s.data.toList).toArray⟩++⟨#[58,32]⟩).data.toList=t++(108::111::97::100::32::(Y3 s.data.toList++[58,32])):=by simp
 rw[I]at r;obtain⟨W,X,Z,e3,e4,e5⟩:=r.six;have M:=X1 (J.o.row r _ (.inr rfl) j (by simp;omega));clear r I;go_wp2_with fail;go_fit M.o;rintro e w3⟨rfl,v3,E⟩;have N:=X1 (E.put ⟨#[59,10]⟩ (by rw[show(⟨#[59,10]⟩:ByteArray).size=2 from rfl];simp;omega));clear E;go_wp2_with fail;go_fit N.o;rintro e w4⟨rfl,S,F⟩;have B:=X1 F;clear F;go_wp2;refine Xw ?_;exact⟨rfl,S,by have:=B.o.pr;simpa[wv]using this,B.o.gr⟩
theorem WS.EG(h:WS K w0 ob m v0 wS v t w){W:World}(F:BL w W)(d:List Value)(u:List (List UInt8))(j:List ByteArray)(k gt c E:Nat)(n:w.heap.size<=k/\k<W.heap.size)(r:w.heap.size<=gt/\gt<W.heap.size)(B:∀i (h:i<d.length),∃T x,d[i]= .iface T x)(H:∀i (h:i<d.length),W.c k (0+i)=some d[i])(N:∀i (h:i<j.length),W.c gt i=some (.string j[i]))(M:∀i (h:i<d.length),Wrt w0 K ob m d[i] (u[i]?.getD []))(I:d.length<=1000000)(C:j.length<=1000000)(J:t.length+(wv j u d.length j.length).length<=90000000): Calls prog 206 #[.p ob,.l k d.length c,.l gt j.length E] W (WP K w0 ob m v0 wS (t++wv j u d.length j.length)):=by
 have y:=h.below F;have L:=h.pr.lt;have s:∀q,w.heap.size<=q->v.ownBlock≠some q:=fun q A e=>by have:=h.pr.LA e;omega
 have O:=y.kp.more k gt n.2 r.2 (by omega) (by omega) (s _ n.1) (s _ r.1);exact(Oo d u j k 0 c gt E B (.inr (.inl rfl)) (.inr (.inr rfl)) H N (fun i hi=>(M i hi).mono (fun _ A=> .inl A) (fun q A=>y.kp.same q A)) I C O y.pr J).mono fun _ _ ⟨a,v',p,g⟩=>⟨a,v',y.go p g⟩
theorem WS.two(h:WS K w0 ob m v0 wS v t w)(k n:TypeId)(r s:Value)(d g:List UInt8)(X Y:ByteArray)(y:Wrt w0 K ob m (.iface k r) d)(A:Wrt w0 K ob m (.iface n s) g)(u:t.length+(wv [X,Y] [d,g] 2 2).length<=90000000): Calls prog 206 #[.p ob,.l w.heap.size 2 2,.l (w.heap.size+1) 2 2] ((w.z #[.iface k r,.iface n s] 44).z #[.string X,.string Y] 9).drew (WP K w0 ob m v0 wS (t++wv [X,Y] [d,g] 2 2))/\Calls prog 206 #[.p ob,.l (w.heap.size+1) 2 2,.l w.heap.size 2 2] ((w.z #[.string X,.string Y] 9).z #[.iface k r,.iface n s] 44).drew (WP K w0 ob m v0 wS (t++wv [X,Y] [d,g] 2 2)):=by
 have two:∀{i:Nat},i<2->i=0\/i=1:=by intro i h;omega
 have j:∀a b,BL w ((w.alloc a).alloc b).drew:=fun a b=>((bA a).alloc (by simp) b).drew;refine⟨h.EG (j _ _) [.iface k r,.iface n s] [d,g] [X,Y] _ _ 2 2 ?_ ?_ (fun i h=>?_) (fun i h=>?_) (fun i h=>?_) (fun i h=>?_) (by simp) (by simp) u,h.EG (j _ _) [.iface k r,.iface n s] [d,g] [X,Y] _ _ 2 2 ?_ ?_ (fun i h=>?_) (fun i h=>?_) (fun i h=>?_) (fun i h=>?_) (by simp) (by simp) u⟩
 all_goals first
  | (refine⟨by omega,?_⟩;show _<((w.alloc _).alloc _).heap.size;rw[Yx,Yx];omega)
  | (rcases two h with rfl|rfl;exact⟨_,_,rfl⟩;exact⟨_,_,rfl⟩)
  | (rcases two h with rfl|rfl;exact y;exact A)
  | (show((w.alloc _).alloc _).cell? _=_;rcases two h with rfl|rfl<;>simp)
theorem X6f(y:KpW K w0 ob v w)(N:PtR ob m v t w)(k o n c:Int)(s:ByteArray)(g E:Nat)(T F:TypeId)(x I:Value)(b u:List UInt8)(j:t.length+(91::(u++32::102::111::114::32::(s.data.toList++32::105::110::32::(b++[93])))).length<=90000000)(d:KD w0 K ob m [.iface T x,.iface F I] [b,u] g 0):Calls prog 230 #[.agg #[.q k,.q o,.q n,.string s,.q c,.l g 2 E],.p ob] w fun e w'=>Wd ob m v t (91::(u++32::102::111::114::32::(s.data.toList++32::105::110::32::(b++[93])))) w e w':=by
 have V:=X1 (WS.box y N (.cells #[.q k,.q o,.q n,.string s,.q c,.l g 2 E] 144));have r:=X1 (d.box y (.cells #[.q k,.q o,.q n,.string s,.q c,.l g 2 E] 144));have Z:=y.lt g (d.gk (by simp));have c0:=(y.cell (d.gk (by simp)) 0).trans (d.ce 0 (by simp));have c1:=(y.cell (d.gk (by simp)) 1).trans (d.ce 1 (by simp));have k3:∀A B C i,(((w.alloc A).alloc B).alloc C).c g i=w.c g i:=fun A B C i=>(((bA A).alloc (by simp) B).alloc (by simp;omega) C:BL w _).cell (p:=⟨g,i,none⟩) Z;clear y N d;have H:wv [⟨#[91]⟩,((⟨#[32,102,111,114,32]⟩:ByteArray)++s++⟨#[32,105,110,32]⟩)] [u,b] 2 2=91::(u++32::102::111::114::32::(s.data.toList++32::105::110::32::b)):=by simp[wv]
 have q:=V.o.two F T I x u b ⟨#[91]⟩ ((⟨#[32,102,111,114,32]⟩:ByteArray)++s++⟨#[32,105,110,32]⟩) (r.o.wr 1 (by simp)) (r.o.wr 0 (by simp)) (by rw[H];simp at j⊢;omega);rw[H,Yx]at q;have O:=X1 q.1;have Q:=X1 q.2;have dm:¬(5+s.size > 9223372036854775807):=by simp at j;omega
 have X:¬(5+s.size+4 > 9223372036854775807):=by simp at j;omega
 have U:=X1 j;clear j H q;go_enter func230,ntmps230;go_wp2_with fail;go_region_held3 (fun W=>W.c w.heap.size 3=some (.string s)/\W.c w.heap.size 5=some (.l g 2 E)/\W.c g 0=some (.iface T x)/\W.c g 1=some (.iface F I)) (go_keep) (first
  | ((with_reducible go_fit O.o);rintro z3 w3⟨rfl,v3,a⟩;obtain⟨y0,y1,y2,y3,y4,y5⟩:=a.six;have i0:=r.o.kid a 0 (by simp);have i1:=r.o.kid a 1 (by simp))
  | ((with_reducible go_fit Q.o);rintro z3 w3⟨rfl,v3,a⟩;obtain⟨y0,y1,y2,y3,y4,y5⟩:=a.six;have i0:=r.o.kid a 0 (by simp);have i1:=r.o.kid a 1 (by simp)))
 all_goals
  have L:=a;clear a;have S:=X1 (L.put ⟨#[93]⟩ (by rw[show(⟨#[93]⟩:ByteArray).size=1 from rfl];have j:=U.o;simp at j⊢;omega));clear L;go_wp2_with fail;go_fit S.o;rintro e w5⟨rfl,vT,M⟩;have J:=X1 M;clear M;go_wp2;refine Xw ?_;exact⟨rfl,vT,by have:=J.o.pr;simpa[wv]using this,J.o.gr⟩
theorem X6g(H:KpW K w0 ob v w)(S:PtR ob m v t w)(k o n c:Int)(s:ByteArray)(g a:Nat)(T I:TypeId)(x L u3:Value)(b y E:List UInt8)(a2:3<=a)(r:t.length+(91::(y++32::102::111::114::32::(s.data.toList++32::105::110::32::(b++32::105::102::32::(E++[93]))))).length<=90000000)(d:KD w0 K ob m [.iface T x,.iface I L,u3] [b,y,E] g 0):Calls prog 230 #[.agg #[.q k,.q o,.q n,.string s,.q c,.l g 3 a],.p ob] w fun e w'=>Wd ob m v t (91::(y++32::102::111::114::32::(s.data.toList++32::105::110::32::(b++32::105::102::32::(E++[93]))))) w e w':=by
 have HS:=X1 (WS.box H S (.cells #[.q k,.q o,.q n,.string s,.q c,.l g 3 a] 144));have u:=X1 (d.box H (.cells #[.q k,.q o,.q n,.string s,.q c,.l g 3 a] 144));have hg:=H.lt g (d.gk (by simp));have c0:=(H.cell (d.gk (by simp)) 0).trans (d.ce 0 (by simp));have c1:=(H.cell (d.gk (by simp)) 1).trans (d.ce 1 (by simp));have k3:∀A B C i,(((w.alloc A).alloc B).alloc C).c g i=w.c g i:=fun A B C i=>(((bA A).alloc (by simp) B).alloc (by simp;omega) C:BL w _).cell (p:=⟨g,i,none⟩) hg;clear H S d;have F:wv [⟨#[91]⟩,((⟨#[32,102,111,114,32]⟩:ByteArray)++s++⟨#[32,105,110,32]⟩)] [y,b] 2 2=91::(y++32::102::111::114::32::(s.data.toList++32::105::110::32::b)):=by simp[wv]
 have q:=HS.o.two I T L x y b ⟨#[91]⟩ ((⟨#[32,102,111,114,32]⟩:ByteArray)++s++⟨#[32,105,110,32]⟩) (u.o.wr 1 (by simp)) (u.o.wr 0 (by simp)) (by rw[F];simp at r⊢;omega);rw[F,Yx]at q;have U:=X1 q.1;have V:=X1 q.2;have dm:¬(5+s.size > 9223372036854775807):=by simp at r;omega
 have a0:¬(5+s.size+4 > 9223372036854775807):=by simp at r;omega
 have M:=X1 r;clear r F q;go_enter func230,ntmps230;go_wp2_with fail;go_region_held3 (fun W=>W.c w.heap.size 3=some (.string s)/\W.c w.heap.size 5=some (.l g 3 a)/\W.c g 0=some (.iface T x)/\W.c g 1=some (.iface I L)) (go_keep) (first
  | ((with_reducible go_fit U.o);rintro z3 J⟨rfl,v3,j⟩;obtain⟨y0,y1,y2,y3,y4,y5⟩:=j.six;have i0:=u.o.kid j 0 (by simp);have i1:=u.o.kid j 1 (by simp))
  | ((with_reducible go_fit V.o);rintro z3 J⟨rfl,v3,j⟩;obtain⟨y0,y1,y2,y3,y4,y5⟩:=j.six;have i0:=u.o.kid j 0 (by simp);have i1:=u.o.kid j 1 (by simp)))
 all_goals
  have F:wv [⟨#[32,105,102,32]⟩] [E] 1 1=32::105::102::32::E:=by simp[wv]
  have q:Calls prog 206 #[.p ob,.slice (some ⟨g,2,none⟩) 1 (a-2),.l J.heap.size 1 1] (J.z #[.t #[32,105,102,32]] 9) fun e w'=>WP (fun q=>K q\/q=w.heap.size\/q=w.heap.size) (w.z #[.q k,.q o,.q n,.string s,.q c,.l g 3 a] 144) ob m v w (t++91::(y++32::102::111::114::32::(s.data.toList++32::105::110::32::b))++32::105::102::32::E) e w':=by
   rw[←F];exact(u.o.drop 2).Jo j (by simp) (a-2) [⟨#[32,105,102,32]⟩] (by simp) (by show _+(wv [⟨#[32,105,102,32]⟩] [E] 1 1).length<=_;rw[F];have r:=M.o;simp at r⊢;omega)
  have Z:=X1 q;clear q F j;have a1:¬a=2:=by omega
  go_wp2_with fail;go_fit Z.o;rintro e w4⟨rfl,v4,O⟩;have X:=X1 (O.put ⟨#[93]⟩ (by rw[show(⟨#[93]⟩:ByteArray).size=1 from rfl];have r:=M.o;simp at r⊢;omega));clear O;go_wp2_with fail;go_fit X.o;rintro e w5⟨rfl,vT,Q⟩;have N:=X1 Q;clear Q;go_wp2;refine Xw ?_;exact⟨rfl,vT,by have:=N.o.pr;simpa[wv]using this,N.o.gr⟩
