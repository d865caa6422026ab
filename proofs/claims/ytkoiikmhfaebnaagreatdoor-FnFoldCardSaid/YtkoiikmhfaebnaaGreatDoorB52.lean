import Derived.Test.YtkoiikmhfaebnaaGreatDoorB37
set_option maxHeartbeats 16000000
set_option maxRecDepth 100000
namespace Go.Proofs.YtkoiikmhfaebnaaGreatDoor
open Tryz Go.RowKit
theorem X6g{O:FOp}(HO:P8 O)(hF:Fd.Uy O)(f:Nat)(ih:OJ O f)(y:Fd)(hy:y.size<=f+1)(hn:f+1<=1000000)(i4:Fd.Good y)(a:Nat)(w:World)(h:Fd.Is w y a):Calls prog 18 #[pt a] w fun e w'=>Lp w (Fd.fold O (f+1) y) e w':=by
 obtain⟨x,p,b,ks⟩:=y;rw[Fd.Zi]at hy;have hs:∀t∈ks,t.size<=f:=fun t ht=>by have:=Fd.Ql ht;omega
 obtain⟨e8,i5⟩:=(Fd.Jb _ _ _ _).1 i4;obtain⟨sl,ad,h1,o9,V,i2,h3⟩:=(Fd.UM _ _ _ _ _ _ _).1 h;have u4:ks.length<=1000000:=by
  have:ks.length<=Fd.YP ks:=by
   clear h3 V hs hy h i5 e8 i4;induction ks with
   | nil=>simp
   | cons t r ih=>have:=Fd.size_pos t;rw[Fd.Qk,Ya];omega
  omega
 have HA:=X1 h3;have HR:=X1 V;have HX:=X1 h1;have n9:=X1 e8;have h6:=X1 i5;have f5:=X1 HO;have k4:=X1 hF;have k8:=X1 ih;obtain⟨iN,hN,p2,p1,p0⟩:=Yk Rh;obtain⟨iV,hV,p7,p4,p3⟩:=Yk X8r;obtain⟨sp,sc,j4⟩:=YV HR.o;subst j4;have c0:=h1.c0;have c1:=h1.c1;have c2:=h1.c2;have c3:=h1.c3;have c4:=h1.c4;have c6:=h1.c6;have c7:=h1.c7;rw[Fd.fold_succ];clear h h1 V h3 o9 i2 e8 i5 i4 ih HO hF;go_enter func18,ntmps18;go_upto_region 1 with fail;go_cut[3]from 21 to 34 (fun v3 wx=>∃bo,v3=pt bo/\LnB w x p b bo [] (.slice none 0 0) [] wx)
 case first=>
  go_region_law(fail);all_goals
   go_wp2_with fail;go_meet
   case rel=>exact⟨_,rfl,LnB.new (X5 _ _).drew⟩
 case rest=>
  obtain⟨bo,rfl,l3⟩:=hcut;have f4:=X1 l3;clear l3 c0 c1 c2 c3 c4 c6 c7;go_upto_region 3 with fail;have l1:FB w x p b bo [] (.slice none 0 0) [] (.slice (some ⟨wc.heap.size,0,none⟩) 0 0) [] [] (wc.alloc (.cells #[] 118)):=by
   have hl:=f4.o.below (bA (.cells #[] 118));refine⟨hl.B,hl.ge,hl.ln,hl.row,(Fd.Vr _ _).2 rfl,hl.ne,?_,?_,(fun q _ e=>by cases e),rfl⟩
   .exact XV (base:=w.heap.size) (e:=118) (size:=1) wc #[] 0 f4.o.B.size (X6 _) rfl
   .intro e;have hb:=f4.o.ln.lt;have e2:wc.heap.size=bo:=by simpa[Value.ownBlock]using e
    omega
  have k3:=X1 l1;clear l1;generalize q9:wc.alloc (.cells #[] 118)=wb at *;generalize wc.heap.size=vb at *;clear q9 f4;go_wp2_with fail;go_loopw[4,5] (fun vv t wr=>∃(i:Nat) (sb:Value) (ab:List Nat) (xs:List Value),i<=ks.length/\t= .int .i64 (i:Int)/\FB w x p b bo ((ks.take i).map (Fd.fold O f)) sb ab vv xs (QE ((ks.take i).map (Fd.fold O f))) wr) (fun _ t _=>ks.length-(intOf t).toNat)
  case atStart=>exact⟨0,_,_,_,X6 _,rfl,k3.o⟩
  case round=>
   obtain⟨i,sb,ab,xs,hi,rfl,hL⟩:=hrel;have HL:=X1 hL;have k5:=(HX.o.below hL.B).c5;clear hL k3;by_cases l4:i<ks.length
   .have s9:(i:Int)<(ks.length:Int):=by omega
    obtain⟨g,cc,j4⟩:=Q3 HR.o (by omega);cases j4;obtain⟨ai,p8,q7⟩:=Fd.DR i HA.o l4;have ke:wr.cell? ⟨g,i,none⟩=some (pt ai):=ZF (KJ HR.o HL.o.B) (by rw[Vf,p8];rfl);have e9:ks[i]∈ks:=XR _;have HK:=X1 (k8.o ks[i] (hs _ e9) (by omega) (h6.o _ e9) ai wr (Fd.Is.below q7 HL.o.B));have k7:=X1 (Fd.UX k4.o f ks[i] (h6.o _ e9));have l6:(ks.take (i+1)).map (Fd.fold O f)=(ks.take i).map (Fd.fold O f)++[Fd.fold O f ks[i]]:=by rw[Kt l4,ZO];rfl
    have d8:=X1 l6;have f9:((ks.take i).map (Fd.fold O f)).length=i:=by rw[Z9,YM];omega
    obtain⟨tt,l7⟩:∃tt,tt=Fd.fold O f ks[i]:=⟨_,rfl⟩;rw[←l7]at HK k7 d8;obtain⟨dd,l0⟩:∃dd,dd=(ks.take i).map (Fd.fold O f):=⟨_,rfl⟩;rw[←l0]at HL d8 f9;clear l6 l7 l0;obtain⟨m3,m2,g4⟩:=YV HL.o.row;rw[f9]at g4;subst g4;go_wp2_with fail;refine HK.o.mono ?_;rintro e w5⟨a5,rfl,b3,z⟩;have q5:=(HL.o.below z).ln.c5;have j9:=X1 b3;have d4:=X1 z;clear b3 z HK;have r6:=((HL.o.below d4.o).below (bA (.cells #[pt a5] 52))).ln.c5;go_wp2_with(at_builtin;refine Yg _ rfl _ _ 112 rfl w.heap.size 52 iN _ 1 8 underlying112 hN p2 p1 p0 rfl (by decide) (.slice m3 i m2) i (ab.map pt) rfl (((f9 ▸ (HL.o.below d4.o).row)).alloc _) ⟨w5.heap.size,0,none⟩ 1 1 [pt a5] rfl rfl ?_ ?_ ?_ ?_ ?_ ?_)
    .exact MP _ _ _
    .simp[Value.oneCell']
    .unfold maxLen;omega
    .omega
    .have:=(HL.o.below d4.o).B.size;simp;omega
    .intro v6 w6 d2 X j0 E;obtain⟨p6,c6,rfl⟩:=YV d2;have q6:=(FB.IK HL.o d4.o X).c5;have r7:=(FB.IK HL.o d4.o X).fr 5;have HP:=X1 (HL.o.push d4.o j9.o (by rw[f9];exact d2) X (by rw[Xb];exact E));clear X d2 E j0 q5 r6;go_upto_region 8 with fail;generalize q8:w6.setCell ⟨bo,5,none⟩ (.slice p6 (i+1) c6)=w7 at *;clear q8 q6 r7;obtain⟨e1,v,_⟩:=LR (HP.o.Xaf);have HC:=X1 (Be f5.o.leaf a5 tt.x e1 tt.p tt.b w7 v (fun hc=>((Fd.Good.const k7.o) hc).1));clear v;go_wp2_with fail;refine HC.o.mono ?_;rintro e w8⟨P,⟨W,g8,c8,rfl,g3,g5⟩|⟨W,rfl⟩⟩
     .have C:BL w7 (w8.alloc (.cells #[.slice (some ⟨g8,0,none⟩) 1 c8] 118)):=P.alloc P.size _;have a4:=X1 C;have o8:=X1 (g5.below (bA (.cells #[.slice (some ⟨g8,0,none⟩) 1 c8] 118)));have h5:Hid (QE ((ks.take (i+1)).map (Fd.fold O f))=QE dd++[tt.x]):=X1 (by rw[d8.o,Bh,X3 W]);have e0:xs.length<=1000000:=by
       have h1:=HP.o.Dq.len;have V:(QE dd).length<=dd.length:=by unfold QE;exact XO (List.length_filter_le _ _) (by rw[Z9];exact X4 _)
       omega
      obtain⟨vp,vc,j6⟩:=YV HP.o.J6;subst j6;have n6:=X1 g3;clear P g5 C g3 HC W;go_wp2_with(at_builtin;refine Yg _ rfl _ _ 115 rfl w.heap.size 118 iV _ 1 24 underlying115 hV p7 p4 p3 rfl (by decide) (.slice vp xs.length vc) xs.length xs rfl ((HP.o.below a4.o).J6.alloc _) ⟨w8.heap.size+1,0,none⟩ 1 1 [.slice (some ⟨g8,0,none⟩) 1 c8] rfl rfl ?_ ?_ ?_ ?_ ?_ ?_)
      .intro j u h;have:=MP (w8.alloc (.cells #[.slice (some ⟨g8,0,none⟩) 1 c8] 118)) (.slice (some ⟨g8,0,none⟩) 1 c8) 118 j u h;rw[Xb]at this;exact this
      .simp[Value.oneCell']
      .unfold maxLen;omega
      .omega
      .have:=(HP.o.below a4.o).B.size;simp at this⊢;omega
      .intro v9 w9 f0 d3 j1 g9;have h9:=X1 (HP.o.Y0w a4.o n6.o o8.o f0 d3 (by rw[Xb,Xb];exact g9));clear f0 d3 j1 g9;go_wp2;go_roundw
       case rel=>exact⟨i+1,_,_,_,by omega,by go_num,by rw[h5.o,d8.o];exact h9.o⟩
       case measure=>simp[intOf];omega
     .have C:BL w7 (w8.alloc (.cells #[.slice none 0 0] 118)):=P.alloc P.size _;have h9:=X1 (HP.o.below C);have h5:Hid (QE ((ks.take (i+1)).map (Fd.fold O f))=QE dd):=X1 (by rw[d8.o,Bh,X2 W,VS]);clear P C HC W;go_wp2;go_roundw
      case rel=>exact⟨i+1,_,_,_,by omega,by go_num,by rw[h5.o,d8.o];exact h9.o⟩
      case measure=>simp[intOf];omega
   .obtain rfl:i=ks.length:=by omega
    have e4:=HL.o;rw[JG]at e4;have b6:(ks.map (Fd.fold O f)).length=ks.length:=Z9 _;have i6:∀t∈ks.map (Fd.fold O f),Fd.Good t:=fun t ht=>by
     obtain⟨u,hu,rfl⟩:=Zq.1 ht;exact Fd.UX k4.o f u (h6.o u hu)
    have i7:Fd.Loc x (ks.map (Fd.fold O f)):=n9.o.len b6;have h0:Fd.YP (ks.map (Fd.fold O f))<=Fd.YP ks:=Fd.Ob (F:=Fd.fold O f) ks (fun t _=>Fd.size_fold O f t);obtain⟨ls,i8⟩:∃ls,ls=ks.map (Fd.fold O f):=⟨_,rfl⟩;rw[←i8]at e4 b6 i6 i7 h0;have N:=X1 i8;have D:=X1 e4;have d7:=X1 i6;have e3:=X1 i7;have hb:=e4.B;clear HL i8 e4 i6 i7;obtain⟨m3,m2,g4⟩:=YV D.o.row;obtain⟨vp,vc,j6⟩:=YV D.o.J6;subst g4 j6;have k0:=(HX.o.below hb).c0;have k1:=(HX.o.below hb).c1;have k6:=(HX.o.below hb).c6;have b5:=D.o.ln.c5;have A:=D.o.Dq.len;have m8:=X1 hb;clear hb;have t9:=e3.o.low;by_cases e6:x.kind=6
    .have t6:(x.kind==6)=true:=by simpa using e6
     obtain⟨l2,j2,j3⟩:=e3.o.un e6;have p9:ks.length=1:=by omega
     obtain⟨k,L⟩:∃k,ls=[k]:=by
      match ls,l2 with
      | [k],_=>exact⟨k,rfl⟩
     have J:=X1 L;have a9:=X1 (d7.o k (by rw[L];simp));by_cases hc:Fd.isC k.x
     .have b4:QE ls=[k.x]:=by rw[L];unfold QE;simp[hc]
      have hv:=D.o.Dq;rw[b4]at hv A;obtain⟨g0,b0,d9,f2⟩:=VL.one hv;have e0:xs.length=1:=A;obtain⟨vg,s7,j5⟩:=Q3 D.o.J6 (by omega);cases j5;have j8:wr.cell? ⟨vg,0,none⟩=some (.slice (some ⟨g0,0,none⟩) 1 b0):=ZF D.o.J6 (by rw[d9];rfl);have c9:Hid (∀w',BL wr w'->Calls prog 68 #[.int .i64 x.op,.agg #[.slice (some ⟨g0,0,none⟩) 1 b0]] w' fun e f3=>∃r,e= .returned r/\∃p m c s q,r= .tuple #[.agg #[.slice p m c],.string s]/\VR f3 (.agg #[.slice p m c]) q/\Fd.okC q=O.un x.op k.x/\BL w' f3):=X1 (fun w' hb=>(f5.o.un x.op k.x _ w' (a9.o.const hc).1 (f2.below hb) j2 j3).mono (fun _ _ ⟨p,m,c,s,q,h1,V,h3,h4⟩=>⟨_,h1,p,m,c,s,q,rfl,V,h3,h4⟩));have S:Hid (BL wr wr.drew):=X1 (X5 _ _).drew;have b2:Hid (BL wr (wr.alloc (.cells #[.slice none 0 0] 118)).drew):=X1 (bA _).drew;have g6:=(b2.o.cell (p:=⟨a,1,none⟩) (Xd HX.o.lt m8.o.size)).trans k1;have j7:=(b2.o.cell (p:=⟨vg,0,none⟩) (D.o.J6.lt vg rfl).2).trans j8;rw[World.cell?_drew]at g6 j7;clear b4 hv f2 L d9;go_upto_region 15 with fail;have m0:0<xs.length:=by omega
      have m1:(0:Int)<(xs.length:Int):=by omega
      clear e0 p9 l2 b6 A;go_cut[10,11]from 89 to 100 (fun r9 v0 wx=>∃bx p m c q,r9=pt bx/\wx.cell? ⟨bx,0,none⟩=some (.slice p m c)/\VR wx (.agg #[.slice p m c]) q/\Fd.okC q=O.un x.op k.x/\BL wr wx)
      case first=>
       go_region_law(first
        | (refine Z8 rfl 68 [.tmp 94,.tmp 97] _ rfl [.int .i64 x.op,.agg #[.slice (some ⟨g0,0,none⟩) 1 b0]] (by simp[Act.eval]) f68 func68 (by kernel_rfl) (by kernel_rfl) _ (c9.o _ S.o) ?_;rintro r w5⟨p5,m5,c5,s5,q5,rfl,I,H,z⟩;have HZ:=X1 (And.intro I (And.intro H (And.intro (S.o.trans (z.mono S.o.size)) (S.o.trans (z.mono S.o.size)).size)));clear I H z)
        | (refine Z8 rfl 68 [.tmp 94,.tmp 97] _ rfl [.int .i64 x.op,.agg #[.slice (some ⟨g0,0,none⟩) 1 b0]] (by simp[Act.eval]) f68 func68 (by kernel_rfl) (by kernel_rfl) _ (c9.o _ b2.o) ?_;rintro r w5⟨p5,m5,c5,s5,q5,rfl,I,H,z⟩;have y1:=(z.cell (p:=⟨wr.heap.size,0,none⟩) (by simp)).trans (LY wr (.slice none 0 0) 118).1;have y2:=(z.frozen (p:=⟨wr.heap.size,0,none⟩) (by simp)).trans (LY wr (.slice none 0 0) 118).2;have HZ:=X1 (And.intro I (And.intro H (And.intro (b2.o.trans (z.mono b2.o.size)) (b2.o.trans (z.mono b2.o.size)).size)));clear I H z))
       all_goals
        go_wp2_with fail;go_meet
        case rel=>
         first
          | exact⟨_,p5,m5,c5,q5,rfl,by simp,HZ.o.1.below (bA _),HZ.o.2.1,HZ.o.2.2.1.alloc HZ.o.2.2.2 _⟩
          | exact⟨wr.heap.size,p5,m5,c5,q5,rfl,F0 y1,HZ.o.1.EY y1,HZ.o.2.1,HZ.o.2.2.1.setCell (X4 _) _⟩
      case rest=>
       obtain⟨bx,p5,m5,c5,q5,rfl,x0,I,H,z⟩:=hcut;have b8:=X1 (AJ _ q5 wc I);have d6:=X1 (D.o.below z);have h8:=X1 H;clear I H z c9 S b2;have u9:=(HX.o.below d6.o.B).c0;go_wp2_with fail;refine b8.o.mono ?_;rintro e w6⟨Y,a3⟩;rw[h8.o]at a3;have b9:=X1 (d6.o.below Y);have t3:=X1 Y;cases Q:O.un x.op k.x with
       | none=>
        rw[Q]at a3;obtain⟨pp,rfl⟩:=a3;have d:Hid (Fd.fin O (Fd.fold O f) x p b ls= .mk x p b ls):=X1 (by unfold Fd.fin;rw[X3 e6,J.o];simp only;rw[X3 hc,Q];rfl);clear Y b8 Q;go_wp2;go_ret;refine⟨bo,rfl,?_,b9.o.B⟩;rw[←N.o,d.o];exact b9.o.end_
       | some i1=>
        rw[Q]at a3;obtain⟨a6,rfl,E⟩:=a3;have d:Hid (Fd.fin O (Fd.fold O f) x p b ls=Fd.one i1):=X1 (by unfold Fd.fin;rw[X3 e6,J.o];simp only;rw[X3 hc,Q];rfl);have b1:=X1 E;clear Y b8 Q E;go_wp2;go_ret;refine⟨a6,rfl,?_,b9.o.B⟩;rw[←N.o,d.o];exact b1.o.go (fun q e=>⟨by have:=d6.o.B.size;omega,e.2⟩) (fun _ _=>rfl)
     .have b4:QE ls=[]:=by rw[L];unfold QE;simp[hc]
      rw[b4]at A;have e0:xs.length=0:=A;have d:Hid (Fd.fin O (Fd.fold O f) x p b ls= .mk x p b ls):=X1 (by unfold Fd.fin;rw[X3 e6,J.o];simp only;rw[X2 hc]);clear b4 L;go_wp2;go_ret;refine⟨bo,rfl,?_,D.o.B⟩;rw[←N.o,d.o];exact D.o.end_
    .by_cases e7:x.kind=7
     .have t6:(x.kind==6)=false:=by simpa using e6
      have t7:(x.kind==7)=true:=by simpa using e7
      obtain⟨d1,j2,j3⟩:=e3.o.bin e7;have g7:=X1 A;clear A;have e5:ks.length=2:=by omega
      obtain⟨k,l,L⟩:∃k l,ls=[k,l]:=by
       match ls,d1 with
       | [k,l],_=>exact⟨k,l,rfl⟩
      obtain⟨sg,m4,f1⟩:=Q3 D.o.row (by omega);cases f1;have J:=X1 L;obtain⟨a0,s0,q0⟩:=D.o.kid 0 (by omega);have s0:wr.cell? ⟨sg,0,none⟩=some (pt a0):=s0;have g0:ls[0]=k:=by simp only[L];rfl
      rw[g0]at q0;obtain⟨e1,v,_⟩:=LR q0;have r0:=v.c0;have r1:=v.c1;have r2:=v.c2;have r3:=v.c3;have r4:=v.c4;have o4:=X1 q0;have a9:=X1 (d7.o k (by rw[L];simp));have h7:=X1 (d7.o l (by rw[L];simp));have f6:=X1 (D.o.row.lt sg rfl).2;have i3:BL wr (wr.alloc (IW k.x)):=bA _;have S:=X1 i3;have g6:=(HX.o.below (D.o.below i3).B).c1;clear q0 v g0 L i3;go_upto_region 21 with fail;have n8:=X1 e5;have n7:=X1 (And.intro d1 b6);clear e5 d1 b6;go_cut[147]from 119 to 147 (fun m7 wx=>m7= .bool (decide (Fd.stops x.op k.x))/\wx=wr.alloc (IW k.x))
      case first=>
       by_cases V:k.x.kind=2
       .have u0:(k.x.kind==2)=true:=by simpa using V
        have Z:=(a9.o.const (by unfold Fd.isC;omega)).1;by_cases o1:x.op=1
        .have u1:(x.op==1)=true:=by simpa using o1
         have u2:(x.op==2)=false:=by simpa using(by omega:x.op≠2)
         rcases Z.bit V with hn|hn
         .have u3:(k.x.n==1)=false:=by simpa using(by omega:k.x.n≠1)
          have K:decide (Fd.stops x.op k.x)=false:=Yb (by unfold Fd.stops;omega);have HD:=X1 K;clear V Z o1 hn K;go_wp2_with fail;go_meet
          case rel=>exact⟨by rw[HD.o],rfl⟩
         .have u3:(k.x.n==1)=true:=by simpa using hn
          have K:decide (Fd.stops x.op k.x)=true:=YJ (by unfold Fd.stops;omega);have HD:=X1 K;clear V Z o1 hn K;go_wp2_with fail;go_meet
          case rel=>exact⟨by rw[HD.o],rfl⟩
        .have u1:(x.op==1)=false:=by simpa using o1
         by_cases o2:x.op=2
         .have u2:(x.op==2)=true:=by simpa using o2
          rcases Z.bit V with hn|hn
          .have u3:(k.x.n==0)=true:=by simpa using hn
           have K:decide (Fd.stops x.op k.x)=true:=YJ (by unfold Fd.stops;omega);have HD:=X1 K;clear V Z o1 hn K o2;go_wp2_with fail;go_meet
           case rel=>exact⟨by rw[HD.o],rfl⟩
          .have u3:(k.x.n==0)=false:=by simpa using(by omega:k.x.n≠0)
           have K:decide (Fd.stops x.op k.x)=false:=Yb (by unfold Fd.stops;omega);have HD:=X1 K;clear V Z o1 hn K o2;go_wp2_with fail;go_meet
           case rel=>exact⟨by rw[HD.o],rfl⟩
         .have u2:(x.op==2)=false:=by simpa using o2
          have K:decide (Fd.stops x.op k.x)=false:=Yb (by unfold Fd.stops;omega);have HD:=X1 K;clear V Z o1 K o2;go_wp2_with fail;go_meet
          case rel=>exact⟨by rw[HD.o],rfl⟩
       .have u0:(k.x.kind==2)=false:=by simpa using V
        have K:decide (Fd.stops x.op k.x)=false:=Yb (by unfold Fd.stops;omega);have HD:=X1 K;clear V K;go_wp2_with fail;go_meet
        case rel=>exact⟨by rw[HD.o],rfl⟩
      case rest=>
       obtain⟨rfl,l9⟩:=hcut;have M:=X1 (D.o.below S.o);have z0:=(S.o.cell (p:=⟨sg,0,none⟩) f6.o).trans s0;have z5:=M.o.ln.c5;rw[←l9]at z0 z5 M g6 S;clear l9 b5 s0 r0 r1 r2 r3 r4 k0 k1 k6;have e5:=n8.o;have d1:=n7.o.1;by_cases b7:Fd.stops x.op k.x
       .have d:Hid (Fd.fin O (Fd.fold O f) x p b ls=k):=X1 (by unfold Fd.fin;rw[X2 e6,X3 e7,J.o];simp only;rw[X3 b7]);rw[YJ b7];clear b7;go_wp2;go_ret;refine⟨a0,rfl,?_,M.o.B⟩;rw[←N.o,d.o];exact o4.o.go (fun q e=>⟨e.1,Xd e.2 S.o.size⟩) (fun q e=>S.o.block q e.2)
       .rw[Yb b7];by_cases f8:Fd.isC k.x/\Fd.isC l.x
        .obtain⟨hc,K⟩:=f8;have b4:QE ls=[k.x,l.x]:=by rw[J.o];unfold QE;simp[hc,K]
         have hv:=M.o.Dq;have A:=g7.o;rw[b4]at hv A;obtain⟨g0,b0,g1,f7,d9,f2,l8⟩:=VL.two hv;have e0:xs.length=2:=A;obtain⟨vg,s7,j5⟩:=Q3 M.o.J6 (by omega);cases j5;have j8:wc.cell? ⟨vg,0,none⟩=some (.slice (some ⟨g0,0,none⟩) 1 b0):=ZF M.o.J6 (by rw[d9];rfl);have s6:wc.cell? ⟨vg,1,none⟩=some (.slice (some ⟨g1,0,none⟩) 1 f7):=ZF M.o.J6 (by rw[d9];rfl);have c9:Hid (∀w',BL wc w'->Calls prog 70 #[.int .i64 x.op,.agg #[.slice (some ⟨g0,0,none⟩) 1 b0],.agg #[.slice (some ⟨g1,0,none⟩) 1 f7]] w' fun e f3=>∃r,e= .returned r/\∃p m c s q,r= .tuple #[.agg #[.slice p m c],.string s]/\VR f3 (.agg #[.slice p m c]) q/\Fd.okC q=O.bin x.op k.x l.x/\BL w' f3):=X1 (fun w' hb=>(f5.o.bin x.op k.x l.x _ _ w' (a9.o.const hc).1 (h7.o.const K).1 (f2.below hb) (l8.below hb) j2 j3).mono (fun _ _ ⟨p,m,c,s,q,h1,V,h3,h4⟩=>⟨_,h1,p,m,c,s,q,rfl,V,h3,h4⟩));have d5:Hid (BL wc wc.drew):=X1 (X5 _ _).drew;have a8:Hid (BL wc (wc.alloc (.cells #[.slice none 0 0] 118)).drew):=X1 (bA _).drew;have r5:=(a8.o.cell (p:=⟨a,1,none⟩) (Xd HX.o.lt M.o.B.size)).trans g6;have j7:=(a8.o.cell (p:=⟨vg,0,none⟩) (M.o.J6.lt vg rfl).2).trans j8;have s4:=(a8.o.cell (p:=⟨vg,1,none⟩) (M.o.J6.lt vg rfl).2).trans s6;rw[World.cell?_drew]at r5 j7 s4;clear b4 hv f2 l8 d9;go_upto_region 24 with fail;have C:((xs.length:Int)==2)=true:=by rw[e0];rfl
         try simp only[C]
         clear C;have m0:0<xs.length:=by omega
         have m1:(0:Int)<(xs.length:Int):=by omega
         have t1:1<xs.length:=by omega
         have t2:(1:Int)<(xs.length:Int):=by omega
         clear e0 e5 A d1;go_cut[15,16]from 155 to 169 (fun s3 v1 wx=>∃bx p m c q,s3=pt bx/\wx.cell? ⟨bx,0,none⟩=some (.slice p m c)/\VR wx (.agg #[.slice p m c]) q/\Fd.okC q=O.bin x.op k.x l.x/\BL wc wx)
         case first=>
          go_region_law(first
           | (refine Z8 rfl 70 [.tmp 160,.tmp 163,.tmp 166] _ rfl [.int .i64 x.op,.agg #[.slice (some ⟨g0,0,none⟩) 1 b0],.agg #[.slice (some ⟨g1,0,none⟩) 1 f7]] (by simp[Act.eval]) f70 func70 (by kernel_rfl) (by kernel_rfl) _ (c9.o _ d5.o) ?_;rintro r w5⟨p5,m5,c5,s5,q5,rfl,I,H,z⟩;have HZ:=X1 (And.intro I (And.intro H (And.intro (d5.o.trans (z.mono d5.o.size)) (d5.o.trans (z.mono d5.o.size)).size)));clear I H z)
           | (refine Z8 rfl 70 [.tmp 160,.tmp 163,.tmp 166] _ rfl [.int .i64 x.op,.agg #[.slice (some ⟨g0,0,none⟩) 1 b0],.agg #[.slice (some ⟨g1,0,none⟩) 1 f7]] (by simp[Act.eval]) f70 func70 (by kernel_rfl) (by kernel_rfl) _ (c9.o _ a8.o) ?_;rintro r w5⟨p5,m5,c5,s5,q5,rfl,I,H,z⟩;have y1:=(z.cell (p:=⟨wc.heap.size,0,none⟩) (by simp)).trans (LY wc (.slice none 0 0) 118).1;have y2:=(z.frozen (p:=⟨wc.heap.size,0,none⟩) (by simp)).trans (LY wc (.slice none 0 0) 118).2;have HZ:=X1 (And.intro I (And.intro H (And.intro (a8.o.trans (z.mono a8.o.size)) (a8.o.trans (z.mono a8.o.size)).size)));clear I H z))
          all_goals
           go_wp2_with fail;go_meet
           case rel=>
            first
             | exact⟨_,p5,m5,c5,q5,rfl,by simp,HZ.o.1.below (bA _),HZ.o.2.1,HZ.o.2.2.1.alloc HZ.o.2.2.2 _⟩
             | exact⟨wc.heap.size,p5,m5,c5,q5,rfl,F0 y1,HZ.o.1.EY y1,HZ.o.2.1,HZ.o.2.2.1.setCell (X4 _) _⟩
         case rest=>
          obtain⟨bx,p5,m5,c5,q5,rfl,x0,I,H,z⟩:=hcut;have b8:=X1 (AJ _ q5 _ I);have d6:=X1 (M.o.below z);have h8:=X1 H;clear I H z c9 d5 a8;go_wp2_with fail;refine b8.o.mono ?_;rintro e w6⟨Y,a3⟩;rw[h8.o]at a3;have b9:=X1 (d6.o.below Y);cases Q:O.bin x.op k.x l.x with
          | none=>
           rw[Q]at a3;obtain⟨pp,rfl⟩:=a3;have d:Hid (Fd.fin O (Fd.fold O f) x p b ls= .mk x p b ls):=X1 (by unfold Fd.fin;rw[X2 e6,X3 e7,J.o];simp only;rw[X2 b7,X3 ⟨hc,K⟩,Q];rfl);clear Y b8 Q;go_wp2;go_ret;refine⟨bo,rfl,?_,b9.o.B⟩;rw[←N.o,d.o];exact b9.o.end_
          | some i1=>
           rw[Q]at a3;obtain⟨a6,rfl,E⟩:=a3;have d:Hid (Fd.fin O (Fd.fold O f) x p b ls=Fd.one i1):=X1 (by unfold Fd.fin;rw[X2 e6,X3 e7,J.o];simp only;rw[X2 b7,X3 ⟨hc,K⟩,Q];rfl);have b1:=X1 E;clear Y b8 Q E;go_wp2;go_ret;refine⟨a6,rfl,?_,b9.o.B⟩;rw[←N.o,d.o];exact b1.o.go (fun q e=>⟨by have:=d6.o.B.size;omega,e.2⟩) (fun _ _=>rfl)
        .have hne:xs.length≠2:=by
          have A:=g7.o;rw[J.o]at A;unfold QE at A;by_cases hc:Fd.isC k.x
          .by_cases K:Fd.isC l.x
           .exact absurd ⟨hc,K⟩ f8
           .simp[hc,K]at A;omega
          .by_cases K:Fd.isC l.x
           .simp[hc,K]at A;omega
           .simp[hc,K]at A;simp[A]
         have s8:((xs.length:Int)==2)=false:=by simpa using(by omega:(xs.length:Int)≠2)
         have d:Hid (Fd.fin O (Fd.fold O f) x p b ls= .mk x p b ls):=X1 (by unfold Fd.fin;rw[X2 e6,X3 e7,J.o];simp only;rw[X2 b7,X2 f8]);clear f8 b7 hne;go_wp2;go_ret;refine⟨bo,rfl,?_,M.o.B⟩;rw[←N.o,d.o];exact M.o.end_
     .by_cases a7:x.kind=13
      .have t6:(x.kind==6)=false:=by simpa using e6
       have t7:(x.kind==7)=false:=by simpa using e7
       have m6:(x.kind==13)=true:=by simpa using a7
       have q4:=e3.o.choice a7;have t8:ks.length=3:=by omega
       obtain⟨k,l,m,L⟩:∃k l m,ls=[k,l,m]:=by
        match ls,q4 with
        | [k,l,m],_=>exact⟨k,l,m,rfl⟩
       obtain⟨sg,m4,f1⟩:=Q3 D.o.row (by omega);cases f1;have J:=X1 L;obtain⟨a0,s0,q0⟩:=D.o.kid 0 (by omega);obtain⟨a1,s1,q1⟩:=D.o.kid 1 (by omega);obtain⟨a2,s2,q2⟩:=D.o.kid 2 (by omega);have s0:wr.cell? ⟨sg,0,none⟩=some (pt a0):=s0;have s1:wr.cell? ⟨sg,1,none⟩=some (pt a1):=s1;have s2:wr.cell? ⟨sg,2,none⟩=some (pt a2):=s2;have g0:ls[0]=k:=by simp only[L];rfl
       have g1:ls[1]=l:=by simp only[L];rfl
       have g2:ls[2]=m:=by simp only[L];rfl
       rw[g0]at q0;rw[g1]at q1;rw[g2]at q2;obtain⟨e1,v,_⟩:=LR q0;have r0:=v.c0;have r2:=v.c2;have i0:=X1 q1;have o5:=X1 q2;have a9:=X1 (d7.o k (by rw[L];simp));clear q0 q1 q2 v g0 g1 g2;by_cases V:k.x.kind=2
       .have i2:(k.x.kind==2)=true:=by simpa using V
        have Z:=(a9.o.const (by unfold Fd.isC;omega)).1;have d:Hid (Fd.fin O (Fd.fold O f) x p b ls=if k.x.n=1 then l else m):=X1 (by unfold Fd.fin;rw[X2 e6,X2 e7,X3 a7,J.o];simp only;rw[X3 V]);clear L;rcases Z.bit V with l5|i9
        .rw[l5]at r2;have d:=X1 (d.o.trans (X2 (by omega)));have t5:IntKind.i64.wrap 2=2:=by rw[Yt];omega
         clear l5 Z;go_wp2_with fail;go_region_law(fail);all_goals
          go_wp2;go_ret;refine⟨a2,rfl,?_,D.o.B.drew⟩;rw[←N.o,d.o];exact o5.o.go (fun _ e=>e) (fun _ _=>rfl)
        .rw[i9]at r2;have d:=X1 (d.o.trans (X3 i9));have t4:IntKind.i64.wrap 1=1:=by rw[Yt];omega
         clear i9 Z;go_wp2_with fail;go_region_law(fail);all_goals
          go_wp2;go_ret;refine⟨a1,rfl,?_,D.o.B.drew⟩;rw[←N.o,d.o];exact i0.o.go (fun _ e=>e) (fun _ _=>rfl)
       .have i2:(k.x.kind==2)=false:=by simpa using V
        have d:Hid (Fd.fin O (Fd.fold O f) x p b ls= .mk x p b ls):=X1 (by unfold Fd.fin;rw[X2 e6,X2 e7,X3 a7,J.o];simp only;rw[X2 V]);clear L;go_wp2;go_ret;refine⟨bo,rfl,?_,D.o.B⟩;rw[←N.o,d.o];exact D.o.end_
      .by_cases d0:x.kind=14
       .have t6:(x.kind==6)=false:=by simpa using e6
        have t7:(x.kind==7)=false:=by simpa using e7
        have m6:(x.kind==13)=false:=by simpa using a7
        have r8:(x.kind==14)=true:=by simpa using d0
        have d1:=e3.o.bind d0;have e5:ks.length=2:=by omega
        obtain⟨k,l,L⟩:∃k l,ls=[k,l]:=by
         match ls,d1 with
         | [k,l],_=>exact⟨k,l,rfl⟩
        obtain⟨sg,m4,f1⟩:=Q3 D.o.row (by omega);cases f1;have J:=X1 L;obtain⟨a0,s0,q0⟩:=D.o.kid 0 (by omega);obtain⟨a1,s1,q1⟩:=D.o.kid 1 (by omega);have s0:wr.cell? ⟨sg,0,none⟩=some (pt a0):=s0;have s1:wr.cell? ⟨sg,1,none⟩=some (pt a1):=s1;have g0:ls[0]=k:=by simp only[L];rfl
        have g1:ls[1]=l:=by simp only[L];rfl
        rw[g0]at q0;rw[g1]at q1;obtain⟨e1,v,_⟩:=LR q0;have o7:=X1 v;have i0:=X1 q1;have a9:=X1 (d7.o k (by rw[L];simp));have h7:=X1 (d7.o l (by rw[L];simp));have t0:k.size+l.size<=Fd.YP ks:=by
         have:=h0;rw[L,Fd.Qk,Fd.Qk,Fd.Gs]at this;omega
        have u5:=Fd.size_pos k;have HC:=X1 (Be f5.o.leaf a0 k.x e1 k.p k.b wr v (fun hc=>(a9.o.const hc).1));have f6:=X1 (D.o.row.lt sg rfl).2;clear q0 q1 v g0 g1 L;go_wp2_with fail;refine HC.o.mono ?_;rintro e w8⟨P,⟨W,g8,c8,rfl,g3,g5⟩|⟨W,rfl⟩⟩
        .have C:BL wr (w8.alloc (.cells #[.slice (some ⟨g8,0,none⟩) 1 c8] 118)):=P.alloc P.size _;have a4:=X1 C;have d:Hid (Fd.fin O (Fd.fold O f) x p b ls=Fd.fold O f (Fd.Yr p k.x l)):=X1 (by unfold Fd.fin;rw[X2 e6,X2 e7,X2 a7,X3 d0,J.o];simp only;rw[X3 W]);have z5:=(D.o.below C).ln.c5;have z0:=(C.cell (p:=⟨sg,0,none⟩) f6.o).trans s0;have z1:=(C.cell (p:=⟨sg,1,none⟩) f6.o).trans s1;have z6:=(HX.o.below (D.o.below C).B).c6;have n4:=X1 (a9.o.const W).1;clear P g5 C g3 HC W s0 s1 b5 k6;generalize u8:w8.alloc (.cells #[.slice (some ⟨g8,0,none⟩) 1 c8] 118)=w9 at *;have u6:=Fd.Sd p k.x _ l (X4 _);have o6:=X1 (Y1i p k.x l.size l (X4 _) (by omega) a1 a0 e1 k.p k.b w9.drew (Fd.Is.below (w:=w9) (i0.o.go (fun q e=>Xd e.2 a4.o.size) (fun q e=>a4.o.block q e.2)) (X5 _ _).drew) ((o7.o.below a4.o).below (X5 _ _).drew));have n5:=X1 (fun(a':Nat) (w':World) (h':Fd.Is w' (Fd.Yr p k.x l) a')=>k8.o (Fd.Yr p k.x l) (by omega) (by omega) (Fd.IC p n4.o _ l (X4 _) h7.o) a' w' h');go_wp2_with fail;go_region_law(first
          | (refine Z8 rfl 71 [.tmp 225,.tmp 229,.tmp 235] _ rfl [pt a1,.int .i64 p,pt a0] (by simp[Act.eval]) f71 func71 (by kernel_rfl) (by kernel_rfl) (fun r w5=>∃a5,r=pt a5/\Fd.Is w5 (Fd.Yr p k.x l) a5/\BL w9 w5) (o6.o.mono (fun _ _ ⟨a5,q1,q2,q3⟩=>⟨pt a5,q1,a5,rfl,q2.go (fun _ e=>e.2) (fun _ _=>rfl),Ue q3⟩)) ?_;rintro r w5⟨a5,rfl,b3,z⟩)
          | (refine Z8 rfl 18 [.tmp 236] _ rfl [pt a5] (by simp[Act.eval]) f18 func18 (by kernel_rfl) (by kernel_rfl) (fun r w6=>∃a6,r=pt a6/\Fd.At (fun q=>w5.heap.size<=q/\q<w6.heap.size) w6 (Fd.fold O f (Fd.Yr p k.x l)) a6/\BL w5 w6) ((n5.o a5 w5 b3).mono (fun _ _ ⟨a6,q1,q2,q3⟩=>⟨pt a6,q1,a6,rfl,q2,q3⟩)) ?_;rintro r w6⟨a6,rfl,E,Y⟩))
         all_goals
          have k9:BL wr w6:=a4.o.trans ((z.trans (Y.mono z.size)).mono a4.o.size);have m9:=X1 (D.o.below k9).B;have b1:=X1 E;have u7:w.heap.size<=w5.heap.size:=by have:=D.o.B.size;have:=a4.o.size;have:=z.size;omega
          clear E b3 z Y k9;go_wp2;go_ret;refine⟨a6,rfl,?_,m9.o⟩;rw[←N.o,d.o];exact b1.o.go (fun q e=>⟨by omega,e.2⟩) (fun _ _=>rfl)
        .have C:BL wr (w8.alloc (.cells #[.slice none 0 0] 118)):=P.alloc P.size _;have k2:=X1 (D.o.below C);have d:Hid (Fd.fin O (Fd.fold O f) x p b ls= .mk x p b ls):=X1 (by unfold Fd.fin;rw[X2 e6,X2 e7,X2 a7,X3 d0,J.o];simp only;rw[X2 W]);clear P C HC W;go_wp2;go_ret;refine⟨bo,rfl,?_,k2.o.B⟩;rw[←N.o,d.o];exact k2.o.end_
       .have t6:(x.kind==6)=false:=by simpa using e6
        have t7:(x.kind==7)=false:=by simpa using e7
        have m6:(x.kind==13)=false:=by simpa using a7
        have r8:(x.kind==14)=false:=by simpa using d0
        have o0:=X1 (Fd.G4 O (Fd.fold O f) x p b ls e6 e7 a7 d0);clear e6 e7 a7 d0;go_wp2;go_ret;refine⟨bo,rfl,?_,D.o.B⟩;rw[←N.o,o0.o];exact D.o.end_
theorem X6i{O:FOp}(d:P8 O)(g:Fd.Uy O):∀f:Nat,OJ O f:=by
 intro f;induction f with
 | zero=>intro y c;have:=Fd.size_pos y;omega
 | succ f l=>
  intro y c k j a w h;exact X6g d g f l y c k j a w h
