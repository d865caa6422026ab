import Derived.Test.YtkoiikmhfaebnaaGreatDoorB35
import Derived.Test.YtkoiikmhfaebnaaGreatDoorB37
set_option maxHeartbeats 16000000
set_option maxRecDepth 100000
namespace Go.Proofs.YtkoiikmhfaebnaaGreatDoor
open Tryz Go.RowKit
theorem Sf[LB](z:Nat)(a0:z=5\/z=6\/z=7)(rb:Nat)(vb:Value)(n q:Nat)(l:List Nd)(w:World)(g c L og oc xb k:Nat)(x0:Nd)(wc:World)(_hl:l.length<=300000)(_hq:q<=700000000)(_hl1:((l.length:Int)==0)=false)(_hlp:(0:Int)<(l.length:Int))(_hk:k<l.length)(_hrw:rb<w.heap.size)(_HSH:Hid (Sh l))(p3:Hid (SP rb vb n w (.slice (some ⟨g,0,none⟩) l.length c) l w.heap.size (w.heap.size+1) L (q+3) (.slice (some ⟨og,0,none⟩) l.length oc) l wc))(p4:Hid (XN w xb (.slice (some ⟨og,0,none⟩) l.length oc) x0 wc)){s1 s2 a1 a2 a3 a4 a5 a6 a7 a8 a9 b0 b1 b2 b3 b4 b5 b6 b7 b8 b9 c8 c9 d0 d1 d2 d3 u9 p8 p9 q1 q2 q3 q4 q5 q6 q7 q8 q9 r0 r1 r2 r3 r4 r5 r6 r7 r8 r9 s3 s4 s5 s6 s7 s8 s9 t1 t2 t3 t4 t5 t6 t7 t8 t9 u0 u1 u2 u3 u4 u5 u6 u7 u8 v0 v1 v2 v3 v4 v5 v6 v7 v8 v9 w0 w1 w2 w3 w4 w5 w6 w7 d4 d5 d6 d7 d8 d9 e5 e6 e7 e8 e9 f0 f1 f2 f3 f4 f5 f6 f7 f8 f9 g0 g1 g2 g3 g4 g5 g6 g7 g8 g9 h0 h1 h2 h3 h4 h6 h7 h8 h9 i0 i1 i2 i3 i4 i5 i6 i7 i8 i9 j0 j1 j2 j3 j4 j5 j6 j7 j8 j9 k0 k1 k2 k3 k4 k5 k6 k7 k8 k9 l0 l1 l2 l3 l4 l5 l6 l7 l8 l9 m0 m1 m2 m3 m4 m5 m6 m7 m8 m9 n4 n5 n6 n7 n8 n9 o0 o4 o6 o9 p0:Value}(J K':Act->World->Prop)(hJ:spJ rb vb n q l w g c L og oc xb k s1 s2 a1 a2 a3 a4 a5 a6 a7 a8 a9 b0 b1 b2 b3 b4 b5 b6 b7 b8 b9 c8 c9 d0 d1 d2 d3 J)(hM:∀(a':Act) (w':World),Met J a' w'->K' a' w')(cc:Code)(Z:(f27.body.bind V8)=some cc): Code.wp prog cc (Exit.then K' (bodyPost prog f27 fun e w'=>∃v' l',e= .returned (.agg #[v'])/\NR w' v' l'/\l'.length<=l.length+1/\Rq rb vb n (q+10) w'/\Tf w w')) {tmps:=#[.pointer (some ⟨rb,0,none⟩),s1,s2,.pointer (some ⟨w.heap.size,0,none⟩),.pointer (some ⟨w.heap.size+1,0,none⟩),.pointer (some ⟨L,0,none⟩),.int .i64 (l.length:Int),.int .i64 (k:Int),.pointer (some ⟨xb,0,none⟩),u9,p8,p9,q1,q2,a1,a2,a3,a4,a5,a6,a7,a8,a9,b0,b1,b2,b3,b4,b5,b6,b7,b8,b9,c8,c9,d0,d1,d2,d3,.int .i64 (z:Int),q3,q4,q5,q6,q7,q8,q9,r0,r1,r2,r3,r4,r5,r6,r7,r8,r9,s3,s4,s5,s6,s7,s8,s9,t1,t2,t3,t4,t5,t6,t7,t8,t9,u0,u1,u2,u3,u4,u5,u6,u7,u8,v0,v1,v2,v3,v4,v5,v6,v7,v8,v9,w0,w1,w2,w3,w4,w5,w6,w7,d4,d5,d6,d7,d8,d9,e5,e6,e7,e8,e9,f0,f1,f2,f3,f4,f5,f6,f7,f8,f9,g0,g1,g2,g3,g4,g5,g6,g7,g8,g9,h0,h1,h2,h3,h4,h6,h7,h8,h9,i0,i1,i2,i3,i4,i5,i6,i7,i8,i9,j0,j1,j2,j3,j4,j5,j6,j7,j8,j9,k0,k1,k2,k3,k4,k5,k6,k7,k8,k9,l0,l1,l2,l3,l4,l5,l6,l7,l8,l9,m0,m1,m2,m3,m4,m5,m6,m7,m8,m9,n4,n5,n6,n7,n8,n9,o0,o4,o6,o9,p0],defers:=[]} wc:=by
 obtain⟨iN,x5,x7,x6,x4⟩:=Yk Wc;refine Ov (o:=f27.body.bind V8) rfl ?_ cc Z;unfold spJ at hJ;clear Z;have e0:((z:Int)==0)=false:=DU.2 (by omega);have e1:((z:Int)==1)=false:=DU.2 (by omega);have e2:((z:Int)==2)=false:=DU.2 (by omega);have e3:((z:Int)==3)=false:=DU.2 (by omega);have e4:((z:Int)==4)=false:=DU.2 (by omega);obtain⟨wk,p6⟩:∃x,x=wc:=⟨wc,rfl⟩;subst p6;go_upto_if 95 with fail;go_cut[95]from 96 to 98 (fun v M=>v= .bool true/\M=wk)
 case first=>
  clear e0 e1 e2 e3 e4;rcases a0 with rfl|rfl|rfl;all_goals
   go_wp2_with fail;go_meet
   case rel=>exact⟨rfl,rfl⟩
 case rest=>
  obtain⟨rfl,rfl⟩:=hcut;clear e0 e1 e2 e3 e4 a0;go_wp2_with fail;go_loopw[9,10] (fun tv _ wr=>∃i:Nat,i<=l.length/\tv= .int .i64 (i:Int)/\SP rb vb n w (.slice (some ⟨g,0,none⟩) l.length c) l w.heap.size (w.heap.size+1) L (q+3) (.slice (some ⟨og,0,none⟩) l.length oc) l wr/\XN w xb (.slice (some ⟨og,0,none⟩) l.length oc) x0 wr) (fun tv _ _=>l.length-(intOf tv).toNat)
  case atStart=>exact⟨0,X6 _,rfl,p3.o,p4.o⟩
  case round=>
   obtain⟨i,hi,rfl,W,Y⟩:=hrel;have s:=X1 W;have A:=X1 Y;clear W Y;by_cases x9:i<l.length
   .have x1:(i:Int)<(l.length:Int):=by omega
    have E:(k+i)%l.length<l.length:=WB _ (by omega);have e1:((k:Int)+(i:Int))%(l.length:Int)=(((k+i)%l.length:Nat):Int):=by simp
    have e2:((k:Int)+(i:Int)).tmod (l.length:Int)=(((k+i)%l.length:Nat):Int):=by rw[Dw (by omega)];exact e1
    have e3:IntKind.i64.wrap ((k:Int)+(i:Int))=(k:Int)+(i:Int):=by rw[Yt];omega
    generalize(k+i)%l.length=j at *;have x8:(j:Int)<(l.length:Int):=by omega
    have o5:=s.o.cells.2.2.1;have q0:=(s.o.node E).1;generalize l[j].kind=kj at q0;go_upto_region 27 with fail;go_cut[133]from 99 to 144 (fun v M=>∃b,v= .bool b/\SP rb vb n w (.slice (some ⟨g,0,none⟩) l.length c) l w.heap.size (w.heap.size+1) L (q+3) (.slice (some ⟨og,0,none⟩) l.length oc) l M/\XN w xb (.slice (some ⟨og,0,none⟩) l.length oc) x0 M)
    case first=>
     by_cases h5:kj=5
     .subst h5;go_wp2_with fail;go_meet
      case rel=>exact⟨_,rfl,s.o,A.o⟩
     .have x3:(kj==5)=false:=by simpa using h5
      by_cases Q:kj=14
      .subst Q;go_wp2_with fail;go_meet
       case rel=>exact⟨_,rfl,s.o,A.o⟩
      .have w9:(kj==14)=false:=by simpa using Q
       go_wp2_with fail;refine(Zw _ _ _ _).mono ?_;rintro e wq⟨rfl,rfl⟩;go_wp2_with fail;go_meet
       case rel=>exact⟨_,rfl,s.o,A.o⟩
    case rest=>
     obtain⟨b,rfl,S,X⟩:=hcut;have F:=X1 S;have p5:=X1 X;clear S X s A q0 o5;cases b
     .go_wp2;go_roundw
      case rel=>exact⟨i+1,by omega,by go_num,F.o,p5.o⟩
      case measure=>simp[intOf];omega
     .have BD:BL wc wc.drew:=(X5 _ _).drew;have N:BL wc (wc.alloc (.cells #[.string ⟨#[110,49]⟩,.string ⟨#[110,50]⟩,.string ⟨#[112,48]⟩,.string ⟨#[112,49]⟩,.string ⟨#[115,48]⟩,.string ⟨#[115,49]⟩,.string ⟨#[102,48]⟩,.string ⟨#[110,111,110,101,95,115,117,99,104]⟩] 9)).drew:=(bA _).drew;have I:=X1 (F.o.below BD);have H:=X1 (F.o.below N);have od:=I.o.cells.2.2.1;have oL:=H.o.cells.2.2.1;have p2:Hid ((wc.alloc (.cells #[.string ⟨#[110,49]⟩,.string ⟨#[110,50]⟩,.string ⟨#[112,48]⟩,.string ⟨#[112,49]⟩,.string ⟨#[115,48]⟩,.string ⟨#[115,49]⟩,.string ⟨#[102,48]⟩,.string ⟨#[110,111,110,101,95,115,117,99,104]⟩] 9)).drew.ownsRow 0 9 1 (.slice (some ⟨wc.heap.size,0,none⟩) 8 8) 8 [.string ⟨#[110,49]⟩,.string ⟨#[110,50]⟩,.string ⟨#[112,48]⟩,.string ⟨#[112,49]⟩,.string ⟨#[115,48]⟩,.string ⟨#[115,49]⟩,.string ⟨#[102,48]⟩,.string ⟨#[110,111,110,101,95,115,117,99,104]⟩]):=X1 (XV (base:=0) (e:=9) (size:=1) wc #[.string ⟨#[110,49]⟩,.string ⟨#[110,50]⟩,.string ⟨#[112,48]⟩,.string ⟨#[112,49]⟩,.string ⟨#[115,48]⟩,.string ⟨#[115,49]⟩,.string ⟨#[102,48]⟩,.string ⟨#[110,111,110,101,95,115,117,99,104]⟩] 8 (X6 _) (by unfold maxLen;omega) rfl);clear BD N;go_upto_region 28 with fail;go_cut[]from 99 to 144 (fun M=>∃t:XC,SP rb vb n w (.slice (some ⟨g,0,none⟩) l.length c) l w.heap.size (w.heap.size+1) L (q+4) (.slice (some ⟨og,0,none⟩) l.length oc) (l.set j {l[j]with text:=t.val}) M)
      case first=>
       go_region_law(first
        | ((with_reducible refine Qz ((wc.alloc (.cells #[.string ⟨#[110,49]⟩,.string ⟨#[110,50]⟩,.string ⟨#[112,48]⟩,.string ⟨#[112,49]⟩,.string ⟨#[115,48]⟩,.string ⟨#[115,49]⟩,.string ⟨#[102,48]⟩,.string ⟨#[110,111,110,101,95,115,117,99,104]⟩] 9)).drew) ?_);refine KL rfl 23 (.tmp 138) (.const (.int .i64 8)) _ _ rfl (.pointer (some ⟨rb,0,none⟩)) (.int .i64 8) (by first|(simp[Act.eval];done)|simp[Act.eval,Act.put]) (by first|(simp[Act.eval];done)|simp[Act.eval,Act.put]) f23 func23 (by kernel_rfl) (by kernel_rfl) _ (Rq.pick_ex H.o.r (by omega) 8 (by omega) (by omega)) ?_;intro w8 p1 K;obtain⟨zq,p7,B,m,a⟩:=K;subst B;have d:=X1 (H.o.ty a m);obtain⟨u,hu⟩:=F4 zq (by omega);have o8:=d.o.cells.2.2.1;have n3:=(d.o.node E).2.2.2.1;have nf:=(d.o.node E).2.2.2.2.2 (j*5+3);have P:=YL p2.o a (by unfold XS;simp);have cl:=Kb P hu;clear m a hu P)
        | ((with_reducible refine Qz (wc.drew) ?_);refine KL rfl 23 (.tmp 138) (.const (.int .i64 8)) _ _ rfl (.pointer (some ⟨rb,0,none⟩)) (.int .i64 8) (by first|(simp[Act.eval];done)|simp[Act.eval,Act.put]) (by first|(simp[Act.eval];done)|simp[Act.eval,Act.put]) f23 func23 (by kernel_rfl) (by kernel_rfl) _ (Rq.pick_ex I.o.r (by omega) 8 (by omega) (by omega)) ?_;intro w8 p1 K;obtain⟨zq,p7,B,m,a⟩:=K;subst B;have d:=X1 (I.o.ty a m);obtain⟨u,hu⟩:=F4 zq (by omega);have o8:=d.o.cells.2.2.1;have n3:=(d.o.node E).2.2.2.1;have nf:=(d.o.node E).2.2.2.2.2 (j*5+3);have D:=X1 (d.o.below (bA (.cells #[.string ⟨#[110,49]⟩,.string ⟨#[110,50]⟩,.string ⟨#[112,48]⟩,.string ⟨#[112,49]⟩,.string ⟨#[115,48]⟩,.string ⟨#[115,49]⟩,.string ⟨#[102,48]⟩,.string ⟨#[110,111,110,101,95,115,117,99,104]⟩] 9)));have x2:=Kb (XV (base:=0) (e:=9) (size:=1) p1 #[.string ⟨#[110,49]⟩,.string ⟨#[110,50]⟩,.string ⟨#[112,48]⟩,.string ⟨#[112,49]⟩,.string ⟨#[115,48]⟩,.string ⟨#[115,49]⟩,.string ⟨#[102,48]⟩,.string ⟨#[110,111,110,101,95,115,117,99,104]⟩] 8 (X6 _) (by unfold maxLen;omega) rfl) hu;have oA:=D.o.cells.2.2.1;have y1:=(D.o.node E).2.2.2.1;have y2:=(D.o.node E).2.2.2.2.2 (j*5+3);clear m a hu))
       all_goals
        go_wp2_with fail;go_meet
        case rel=>first|exact⟨u,d.o.EG u.val u.2 E⟩|exact⟨u,D.o.EG u.val u.2 E⟩
      case rest=>
       obtain⟨t,V⟩:=hcut;have C:=X1 V;have o7:=V.cells.2.2.1;have y:=X1 (C.o.ret (l':=l.set j {l[j]with text:=t.val}) ⟨QJ C.o.o (X6 _),C.o.sh⟩);obtain⟨_,t0,_,ft,_⟩:=C.o.cells;go_wp2;exact X7 (v:= .agg #[(.slice (some ⟨og,0,none⟩) l.length oc)]) (by simp[results,results27,go_sem,t0]) rfl (by first|exact⟨_,_,rfl,y.o.1,(by rw[DA];omega),y.o.2.1.mono (by omega),y.o.2.2⟩|exact⟨_,rfl,_,y.o.1,(by rw[DA];omega),y.o.2.1.mono (by omega),y.o.2.2⟩)
   .have y0:¬(i:Int)<(l.length:Int):=by omega
    go_wp2_with fail;go_meet
    case rel=>exact⟨x0,s.o.mono (by omega),A.o⟩
def Fd.ZX(O:FOp)(ns:List Nd):List Nd:=if Zb ns=true then Fd.XP (Fd.fold O ns.length (Fd.take ns (Xc ns) (Yl ns) ns.length (ns.length-1)))else[]
def Wy(O:FOp)(ns:List Nd)(w:World)(e:Ending)(w':World):Prop:=∃v,e= .returned (.agg #[v])/\w'.ownsRow w.heap.size 48 5 v (Fd.ZX O ns).length (Xe (Fd.ZX O ns))/\Below w.heap.size w w'
theorem X1b{ns:List Nd}(h:Zb ns=true):(Yl ns).length=ns.length:=((N8 ns).2.1 h).1
theorem Fd.Mu{ns:List Nd}(c:YS ns=true)(k:Nat):(X9 (Xc ns) k).length<=5000:=by
 obtain⟨_,_,_,h⟩:=JL c;unfold X9;by_cases a:k<(Xc ns).length
 .rw[YH a];exact(h k a).1
 .rw[JD (by omega)];simp
theorem Y3y{ns:List Nd}{ks:List (List Nat)}{B:List Int}{k g bg c m:Nat}{w:World}(l:Yw w k ns)(n:JB ks g w)(q:ks.length=ns.length)(d:w.ownsRow m 3 1 (.slice (some ⟨bg,0,none⟩) ns.length c) ns.length (B.map vi)):TkB ns ks B k g bg w:=by
 have r:B.length=ns.length:=by have:=d.1;simpa using this
 refine⟨l,n,q,(d.lt bg rfl).2,fun i hi=>?_⟩;have a:i<B.length:=by omega
 rw[ZF d (j:=i) (u:=vi B[i]) (by rw[Vf,YH a];rfl)];unfold Tr.bOf vi;rw[YH a];rfl
theorem Y2h{O:FOp}(d0:∀f,OJ O f)(ns:List Nd)(j s:Nat)(w:World)(hn:ns.length<=1048576)(ht:Yw w j ns)(d7:∀x∈ns,x.n<9223372036854775808):Calls prog 7 #[.agg #[.slice (some ⟨j,0,none⟩) ns.length s]] w fun e w'=>Wy O ns w e w':=by
 have b2:BL w ((w.alloc (.cells #[.slice (some ⟨j,0,none⟩) ns.length s] 25)).alloc (.cells #[.slice none 0 0] 25)):=(bA _).alloc (by simp) _;have a4:=X1 (BZ ns j s _ hn (ht.below b2));have HT:=X1 (ht.below b2);have D:=X1 b2;have HX:Hid (((w.alloc (.cells #[.slice (some ⟨j,0,none⟩) ns.length s] 25)).alloc (.cells #[.slice none 0 0] 25)).heap[w.heap.size]?=some (.cells #[.slice (some ⟨j,0,none⟩) ns.length s] 25)/\((w.alloc (.cells #[.slice (some ⟨j,0,none⟩) ns.length s] 25)).alloc (.cells #[.slice none 0 0] 25)).heap[w.heap.size+1]?=some (.cells #[.slice none 0 0] 25)):=X1 ⟨((bA (.cells #[.slice none 0 0] 25)).block w.heap.size (by simp)).trans (XM w _),by have:=XM (w.alloc (.cells #[.slice (some ⟨j,0,none⟩) ns.length s] 25)) (.cells #[.slice none 0 0] 25);rw[Xb]at this;exact this⟩;have N:Hid (((w.alloc (.cells #[.slice (some ⟨j,0,none⟩) ns.length s] 25)).alloc (.cells #[.slice none 0 0] 25)).heap.size=w.heap.size+1+1):=X1 (by simp);clear ht b2;go_enter func7,ntmps7;go_upto_region 1 with fail;generalize e1:(w.alloc (.cells #[.slice (some ⟨j,0,none⟩) ns.length s] 25)).alloc (.cells #[.slice none 0 0] 25)=w2 at *;clear e1;have t0:w2.cell? ⟨w.heap.size,0,none⟩=some (.slice (some ⟨j,0,none⟩) ns.length s):=by rw[World.cell?,HX.o.1];rfl
 go_wp2_with fail;refine a4.o.mono ?_;rintro e w3⟨rfl,A⟩;have d:=X1 A;have x1:w3.cell? ⟨w.heap.size+1,0,none⟩=some (.slice none 0 0):=(A.cell (p:=⟨w.heap.size+1,0,none⟩) (show w.heap.size+1<w2.heap.size by have:=N.o;omega)).trans (by rw[World.cell?,HX.o.2];rfl);have f1:w3.frozen? ⟨w.heap.size+1,0,none⟩=false:=(A.frozen (p:=⟨w.heap.size+1,0,none⟩) (show w.heap.size+1<w2.heap.size by have:=N.o;omega)).trans (by rw[World.frozen?,HX.o.2];simp);have t3:=(A.cell (p:=⟨w.heap.size,0,none⟩) (show w.heap.size<w2.heap.size by have:=N.o;omega)).trans t0;clear A t0 a4;cases J:Zb ns
 .have d9:((Yi ns).1==0)=false:=J;have HE:Hid (Fd.ZX O ns=[]):=X1 (by unfold Fd.ZX;rw[X2 (by rw[J];decide)]);clear J;go_wp2;refine X7 (v:= .agg #[.slice none 0 0]) (by simp[results,results7,go_sem,x1]) rfl ⟨_,rfl,?_,?_⟩
  .rw[HE.o];exact ZJ _ _ _ _
  .exact(D.o.trans (d.o.mono D.o.size)).setCell (p:=⟨w.heap.size+1,0,none⟩) (by show w.heap.size<=w.heap.size+1;omega) _
 .have d9:((Yi ns).1==0)=true:=J;have Z:=DO J;obtain⟨e5,e6,X,_⟩:=JL Z;obtain⟨hK,_,_,_⟩:=LL Z;have b7:(Xc ns).length=ns.length:=by
   unfold YS at Z;simp only[XD]at Z;exact(Vn Z.1.2)
  have d8:=X1b J;obtain⟨V,y,z⟩:=Fd.PV J d7;have HE:Hid (Fd.ZX O ns=Fd.XP (Fd.fold O ns.length (Fd.take ns (Xc ns) (Yl ns) ns.length (ns.length-1)))):=X1 (by unfold Fd.ZX;rw[X3 J]);have d1:=X1 y;have b0:=X1 z;have M:=X1 (HT.o.below d.o);have a9:=X1 (Mt ns j s w3 hn M.o);have d3:Hid (∀k,(X9 (Xc ns) k).length<=1000000):=X1 (fun k=>by
   have hc:=Fd.Mu Z k;omega)
  have d4:=X1 hK.lt;clear Z X hK V y z;go_wp2_with fail;refine a9.o.mono ?_;rintro e K⟨g4,c4,vs,rfl,m,t,u⟩;have b8:=X1 u;have b5:JB (Xc ns) g4 K:=⟨(m.lt g4 rfl).2,fun k h=>by
   obtain⟨g,c,a1,_,_,_,a5,_⟩:=t.2 k h;exact⟨g,c,ZF m a1,a5⟩⟩
  have d2:=X1 b5;have b1:=X1 (M.o.below u);have t4:=(u.cell (p:=⟨w.heap.size,0,none⟩) (show w.heap.size<w3.heap.size by have:=N.o;have:=d.o.size;omega)).trans t3;have d5:Hid (K.heap[w.heap.size+1]?=some (.cells #[.slice none 0 0] 25)):=X1 ((u.block (w.heap.size+1) (by have:=N.o;have:=d.o.size;omega)).trans ((d.o.block (w.heap.size+1) (by have:=N.o;omega)).trans HX.o.2));have a3:=X1 (X1a ns j s K.drew hn (b1.o.below (X5 _ _).drew));rw[d8]at a3;rw[b7];have e8:w.heap.size+1+1<=K.heap.size:=by have:=N.o;have:=d.o.size;have:=u.size;omega
  clear m t u b5 t3 x1 f1 a9 M HT;have e7:(0:Int)<(ns.length:Int):=by omega
  have Q:IntKind.i64.wrap ((ns.length:Int)-1)=((ns.length-1:Nat):Int):=by rw[Yt];omega
  go_wp2_with fail;go_region_law(first
   | (refine Z8 rfl 20 [.tmp 17] _ rfl [.agg #[.slice (some ⟨j,0,none⟩) ns.length s]] (by first|(simp[Act.eval];done)|(simp[Act.eval,Act.put];done)|(simp[Act.eval,Act.put,Q];done)) f20 func20 (by kernel_rfl) (by kernel_rfl) (fun r w5=>∃g,r= .slice (some ⟨g,0,none⟩) ns.length ns.length/\w5.ownsRow 0 3 1 (.slice (some ⟨g,0,none⟩) ns.length ns.length) ns.length ((Yl ns).map vi)/\BL K w5) (a3.o.mono (fun _ _ ⟨g,q1,_,q2,q3⟩=>⟨_,q1,g,rfl,q2,Ue q3⟩)) ?_;rintro r w5⟨g5,rfl,C,l⟩;have t5:=(l.cell (p:=⟨w.heap.size,0,none⟩) (show w.heap.size<K.heap.size by omega)).trans t4)
   | (refine Z8 rfl 19 [.tmp 15,.tmp 16,.tmp 18,.tmp 22] _ rfl [.agg #[.slice (some ⟨j,0,none⟩) ns.length s],.slice (some ⟨g4,0,none⟩) ns.length c4,.slice (some ⟨g5,0,none⟩) ns.length ns.length,.int .i64 ((ns.length-1:Nat):Int)] (by first|(simp[Act.eval];done)|(simp[Act.eval,Act.put];done)|(simp[Act.eval,Act.put,Q];done)) f19 func19 (by kernel_rfl) (by kernel_rfl) (fun r w6=>∃P,r=pt P/\Fd.Is w6 (Fd.take ns (Xc ns) (Yl ns) ns.length (ns.length-1)) P/\BL w5 w6) ((Y3i ns (Xc ns) (Yl ns) j s g4 c4 g5 ns.length d4.o d3.o ns.length (ns.length-1) w5 (by omega) (by omega) (Y3y (b1.o.below l) (d2.o.below l) b7 C)).mono (fun _ _ ⟨P,q1,q2,q3⟩=>⟨_,q1,P,rfl,q2.go (fun _ e=>e.2) (fun _ _=>rfl),q3⟩)) ?_;rintro r w6⟨P,rfl,H,E⟩)
   | (refine Z8 rfl 18 [.tmp 23] _ rfl [pt P] (by first|(simp[Act.eval];done)|(simp[Act.eval,Act.put];done)|(simp[Act.eval,Act.put,Q];done)) f18 func18 (by kernel_rfl) (by kernel_rfl) (fun r a=>∃a7,r=pt a7/\Fd.At (fun q=>w6.heap.size<=q/\q<a.heap.size) a (Fd.fold O ns.length (Fd.take ns (Xc ns) (Yl ns) ns.length (ns.length-1))) a7/\BL w6 a) ((d0 ns.length _ (by rw[b0.o];omega) (by omega) d1.o P w6 H).mono (fun _ _ ⟨a7,q1,q2,q3⟩=>⟨_,q1,a7,rfl,q2,q3⟩)) ?_;rintro r a⟨a7,rfl,I,b6⟩))
  all_goals
   have F:BL K a:=l.trans ((E.trans (b6.mono E.size)).mono l.size);have c9:=X1 F;have d6:=X1 ((F.block (w.heap.size+1) (by omega)).trans d5.o);have a2:=X1 I;have e4:w.heap.size+1+1<=w6.heap.size:=by have:=l.size;have:=E.size;omega
   have e9:=F.size;clear I H C l E b6 F t4 t5;have a8:=X1 (X6p a.heap.size _ (Fd.fold O ns.length (Fd.take ns (Xc ns) (Yl ns) ns.length (ns.length-1))) (X4 _) a7 (.slice (some ⟨a.heap.size,0,none⟩) 0 0) [] (a.alloc (.cells #[] 48)) (by have:=Fd.size_fold O ns.length (Fd.take ns (Xc ns) (Yl ns) ns.length (ns.length-1));rw[b0.o]at this;simp;omega) (a2.o.go (fun q e=>⟨by rw[Xb];omega,fun e2=>by
     have e3:a.heap.size=q:=(by simpa[Value.ownBlock]using e2);omega⟩) (fun q e=>((X5 a.heap.size a).alloc (X4 _) (.cells #[] 48)).block q e.2)) (XV (base:=a.heap.size) (e:=48) (size:=5) a #[] 0 (X4 _) (X6 _) rfl) (by simp))
   rw[←HE.o,UD]at a8;go_wp2_with fail;refine a8.o.mono ?_;rintro e w8⟨v8,rfl,Y,W⟩;obtain⟨p8,c8,e0⟩:=YV Y;subst e0;have hne:(Value.slice (some ⟨a.heap.size,0,none⟩) 0 0).ownBlock≠some (w.heap.size+1):=fun e=>by
    have e3:a.heap.size=w.heap.size+1:=(by simpa[Value.ownBlock]using e);omega
   have a0:w8.heap[w.heap.size+1]?=some (.cells #[.slice none 0 0] 25):=(W.block (w.heap.size+1) (by rw[Xb];omega) hne).trans ((((X5 a.heap.size a).alloc (X4 _) (.cells #[] 48)).block (w.heap.size+1) (by omega)).trans d6.o);have x8:w8.cell? ⟨w.heap.size+1,0,none⟩=some (.slice none 0 0):=by rw[World.cell?,a0];rfl
   have f8:w8.frozen? ⟨w.heap.size+1,0,none⟩=false:=by rw[World.frozen?,a0];simp
   have S:BL w K:=D.o.trans ((d.o.trans (b8.o.mono d.o.size)).mono D.o.size);have b3:BL w (a.alloc (.cells #[] 48)):=(S.trans (c9.o.mono S.size)).alloc (by omega) _;have b4:BL w w8:=b3.trans ((W.below (B:=a.heap.size) (fun q e=>by
    have e3:a.heap.size=q:=(by simpa[Value.ownBlock]using e);omega) (by rw[Xb];omega)).mono (by omega))
   have b9:=X1 b4;have L:=X1 Y;clear S b3 b4 Y W a0 hne;go_wp2;refine X7 (v:= .agg #[.slice p8 (Fd.ZX O ns).length c8]) (by simp[results,results7,go_sem,x8]) rfl ⟨_,rfl,?_,?_⟩
   .exact Qj L.o (fun q e=>by have:=(L.o.lt q e).1;omega) (fun q e=>UY (by have:=(L.o.lt q e).1;omega))
   .exact b9.o.setCell (p:=⟨w.heap.size+1,0,none⟩) (by show w.heap.size<=w.heap.size+1;omega) _
