import Derived.Test.YtaeafhenpjnhiaaGreatDoorE38
set_option maxHeartbeats 16000000
set_option maxRecDepth 100000
namespace Go.Proofs.YtaeafhenpjnhiaaGreatDoor
open Tryz Go.RowKit
attribute [local simp] Act.eval Act.put
theorem DS.start[LB]{gb rb:Nat}{vb:Value}{n q k M:Nat}{w a:World}(s:XJ)(z:Int)(h:Gn gb rb vb n q k a)(y:Ty w a)(hg:Xo w gb=some 128)(F:gb<w.heap.size)(hr:rb<w.heap.size)(Z:Fm gb M w)(hM:M<=500):∃H m A,m<=M/\DS gb rb vb n w a.heap.size s z H m A q k 0 (.slice none 0 0) [] (.slice (some ⟨a.heap.size+1,0,none⟩) 0 0) [] ((a.alloc (.cells #[.string s,.slice none 0 0,.int .i64 0,.int .i64 z] 181)).alloc (.cells #[] 23)):=by
 obtain⟨p,v,c,hm,K⟩:=Z.ty hg F y;obtain⟨H,m,A,J,C,f3,W⟩:=h.fn;obtain rfl:H= .slice p v c:=by rw[J]at K;exact Zq K
 obtain⟨_,_,E⟩:=XA C;obtain rfl:v=m:=by injection E
 have d:BL a (a.alloc (.cells #[.string s,.slice none 0 0,.int .i64 0,.int .i64 z] 181)):=bA _;have g:Below (a.alloc (.cells #[.string s,.slice none 0 0,.int .i64 0,.int .i64 z] 181)).heap.size (a.alloc (.cells #[.string s,.slice none 0 0,.int .i64 0,.int .i64 z] 181)) ((a.alloc (.cells #[.string s,.slice none 0 0,.int .i64 0,.int .i64 z] 181)).alloc (.cells #[] 23)):=bA _;have X:FnK gb rb a.heap.size (.slice p v c) v A a:=⟨J,C,fun b j=>(C.lt b j).2,fun i hi=>by
  obtain⟨s',pv,ps,f,z',L,N,O,Q,I,S,U,V⟩:=W i hi;exact⟨s',pv,ps,f,z',L,N,O,Q,I,S,U,V,fun b j=>(I.lt b j).2⟩⟩
 have u:=PW.new (B:=w.heap.size) (a.alloc (.cells #[.string s,.slice none 0 0,.int .i64 0,.int .i64 z] 181)) (Xz y.size d.size);rw[Yx]at u;have r:=h.lt;refine⟨_,v,A,hm,(h.below d).below g,(Ty.tf y).trans ((TyM.of d).trans (.of g)),u,(g.block _ (by simp)).trans (YV _ _),K7 _ _ _ _,X.Zi ?_ ?_,by omega,hr,y.size⟩
 .exact(g.cell (p:=⟨gb,2,none⟩) (by simp;omega)).trans (d.cell (p:=⟨gb,2,none⟩) r)
 .intro b j _ _;exact(g.block b (by simp;omega)).trans (d.block b j)
variable (gb rb:Nat) (vb:Value) (n:Nat)
theorem A0[LB](h3:EAt gb rb vb n 1 260)(h4:EAt gb rb vb n 3 6860):Mc gb rb vb n:=fun q k M s w h hf hM hq hk=>by
 obtain⟨iP,hP,i7,i6,i5⟩:=YK WR
 obtain⟨iN,v7,x5,w3,v4⟩:=YK Oe
 obtain⟨iF,l2,l4,l3,l1⟩:=YK X3q
 obtain⟨iI,v1,v3,v2,v0⟩:=YK X3s
 have y8:rb<w.heap.size:=Ic h.up h.lt
 have c0:=h.c0
 have e4:=X1 h
 have j8:=X1 hf
 have h3:=X1 h3
 have h4:=X1 h4
 clear h hf
 go_enter func98,ntmps98
 go_wp2_with fail
 go_fit(Gn.pick e4.o (by omega) 5 (by omega) (by omega))
 rintro e w1⟨J,hz1,rfl,m3,j0⟩
 obtain⟨vf,m,ys,x9,e8⟩:=DS.start s (J:Int) m3 j0 e4.o.ty e4.o.lt y8 j8.o hM
 have HT1:=X1 j0
 have g6:=X1 e8
 have c1:=e8.gn.c0
 obtain⟨nv,nx,n1,n2,n3⟩:=e8.gn.nm
 obtain⟨np,nc,i9⟩:=XA n2
 subst i9
 clear e8 m3 j0 n2 n3 c0 e4 j8
 go_wp2_with fail
 go_fit(Gn.pick g6.o.gn (by omega) 4 (by omega) (by omega))
 rintro e w2⟨z2,hz2,rfl,m4,n8⟩
 have q8:=X1 (g6.o.ty n8 m4)
 clear m4 n8 g6 c1 n1
 generalize hfb:w1.heap.size=F at *
 go_wp2_with fail
 go_loopw[8,10,11,12] (fun sv tv _ _ wr=>∃(i:Nat) (d:Int) (p2:Value) (r:List Int) (ls:List (List Nd)),i<=3/\tv= .int .i64 (i:Int)/\r.length+i<=3/\ls.length=r.length/\0<=d/\d<=(r.length:Int)/\ls.flatten.length<=r.length*261/\DS gb rb vb n w F s J vf m ys (q+2+r.length*262) (k+r.length) d p2 r sv ls wr) (fun _ tv _ _ _=>(intOf tv).toNat)
 case atStart=>exact⟨z2,0,_,[],[],by omega,rfl,by simp;omega,rfl,by omega,by simp,by simp,q8.o⟩
 case round=>
  obtain⟨i,d,p2,r,ls,e9,rfl,f6,n6,m2,hfrp,x7,e7⟩:=hrel
  have a7:=X1 e7
  have r8:=X1 n6
  have hle:ls.length<=3:=by omega
  clear n6
  obtain⟨vs0,o8,_⟩:=e7.pw
  obtain⟨g0,f9,y5⟩:=XA o8
  subst y5
  obtain⟨y,A,y7⟩:=XA e7.JD
  subst y7
  clear o8 e7
  match i,e9,f6 with
  | 0,e9,f6=>
   have e6:=X1 (a7.o.dt (M:=M) x9 (by omega) m2 (by omega))
   have c0:=e6.o.gn.c0
   have hps3:r.length<=3:=by omega
   have g5:ls.flatten.length<=783:=by omega
   have r6:=X1 g5
   clear a7 f6 e9 x7 g5
   go_upto_region 15 with fail
   go_cut[99]from 94 to 163 (fun v99 W=>∃b,v99= .bool b/\DT gb rb vb n w F s J (M) (q+800) (k+r.length) d (.slice y r.length A) r (.slice g0 ls.length f9) ls W)
   case first=>
    go_wp2_with fail
    go_fit(Gn.pick e6.o.gn (by omega) 12 (by omega) (by omega))
    rintro e w8⟨z8,z9,rfl,m7,o0⟩
    have s5:=X1 (e6.o.ty o0 (m7.mono (q':=q+800) (by omega)))
    clear m7 o0
    go_wp2_with fail
    go_meet
    case rel=>exact⟨_,rfl,s5.o⟩
   case rest=>
    obtain⟨b,rfl,l7⟩:=hcut
    have E:=X1 l7
    clear l7 e6 c0
    rename ∀(a:Act) (w:World),_->_=>hKK
    refine hKK _ _ ?_
    go_cut[]from 94 to 163 (fun W=>DT gb rb vb n w F s J (M+1) (q+800) (k+r.length) d (.slice y r.length A) r (.slice g0 ls.length f9) ls W)
    case first=>
     cases b
     .go_wp2_with fail
      go_meet
      case rel=>exact E.o.mono (by omega)
     .obtain⟨q4,mf,yf,f1,f2,f3,f4⟩:=E.o.gn.fn
      obtain⟨fp,fc,j3⟩:=XA f2
      subst j3
      obtain⟨b0,b1,b2,b3⟩:=E.o.cells
      have X:BL wc wc.drew:=(X8 _ _).drew
      have B:BL wc (wc.alloc (.cells #[.string s,.slice y r.length A,.int .i64 d,.int .i64 (J:Int)] 181)).drew:=(bA _).drew
      have a0:=E.o.gn.lt
      have I:=E.o.flt
      have Z:=X1 (E.o.below B)
      have u8:wc.drew.cell? ⟨gb,2,none⟩=_:=(X.cell (p:=⟨gb,2,none⟩) a0).trans f1
      have c9:(wc.alloc (.cells #[.string s,.slice y r.length A,.int .i64 d,.int .i64 (J:Int)] 181)).drew.cell? ⟨gb,2,none⟩=_:=(B.cell (p:=⟨gb,2,none⟩) a0).trans f1
      have t1:wc.drew.cell? ⟨F,0,none⟩=_:=(X.cell (p:=⟨F,0,none⟩) I).trans b0
      have t2:wc.drew.cell? ⟨F,1,none⟩=_:=(X.cell (p:=⟨F,1,none⟩) I).trans b1
      have t3:wc.drew.cell? ⟨F,2,none⟩=_:=(X.cell (p:=⟨F,2,none⟩) I).trans b2
      have t4:wc.drew.cell? ⟨F,3,none⟩=_:=(X.cell (p:=⟨F,3,none⟩) I).trans b3
      have O:=X1 (Qu f2 B)
      have h5:Hid (FnC (wc.alloc (.cells #[.string s,.slice y r.length A,.int .i64 d,.int .i64 (J:Int)] 181)).drew yf mf):=X1 (f4.Zi (fun q hq _=>B.block q hq))
      have a5:Hid (∀(j:Nat) (u:Value),([.string s,.slice y r.length A,.int .i64 d,.int .i64 (J:Int)]:List Value)[j]?=some u->(wc.alloc (.cells #[.string s,.slice y r.length A,.int .i64 d,.int .i64 (J:Int)] 181)).drew.cell? ((⟨wc.heap.size,0,none⟩:Addr).add j)=some u):=X1 (Qr wc [.string s,.slice y r.length A,.int .i64 d,.int .i64 (J:Int)] _ _ rfl)
      have b4:rb+1<=(wc.alloc (.cells #[.string s,.slice y r.length A,.int .i64 d,.int .i64 (J:Int)] 181)).drew.heap.size:=by have:=E.o.tf.size;have:=B.size;omega
      clear f1 f2 f4 b0 b1 b2 b3 X B
      go_wp2_with fail
      go_region_law(first
       | (refine U5 rfl (.tmp 104) (.tmp 106) 126 rfl (rb+1) 181 iF _ 4 56 underlying126 l2 l4 l3 l1 rfl (by decide) (.slice fp mf fc) mf yf (by simp) O.o ⟨wc.heap.size,0,none⟩ 1 1 [.string s,.slice y r.length A,.int .i64 d,.int .i64 (J:Int)] (by simp) rfl a5.o (by simp[Value.oneCell']) (by unfold maxLen;omega) (by omega) b4 ?_;intro v5 w5 r1 r2 r3 r4;obtain⟨eg,d5⟩:=Z.o.push (by omega) c9 O.o h5.o r2 r1 r4;obtain⟨g2,g1,d9⟩:=XA r1;subst d9;have q5:=(XQ (a:=⟨gb,2,none⟩) eg).trans c9;have q6:=(ZC (a:=⟨gb,2,none⟩) eg).trans (Z.o.gn.fr 2);have h7:=X1 d5;clear r1 r2 r3 r4 eg d5))
      all_goals
       go_wp2_with fail
       go_meet
       case rel=>exact h7.o
    case rest=>
     have i1:=X1 hcut
     obtain⟨b0,b1,b2,b3⟩:=hcut.cells
     clear hcut E
     go_upto_region 17 with fail
     go_cut[8]from 94 to 163 (fun v8 W=>∃(g:Option Addr) (c:Nat) (l:List Nd),v8= .slice g (ls.length+1) c/\0<l.length/\l.length<=6860/\DT gb rb vb n w F s J (M+1) (q+800+6860) (k+r.length) d (.slice y r.length A) r (.slice g (ls.length+1) c) (ls++[l]) W)
     case first=>
      go_wp2_with fail
      go_fit(h4.o _ _ _ _ i1.o.gn (by omega) (by omega))
      rintro e w9⟨v9,l9,rfl,a3,p9,m9,d6,b6⟩
      obtain⟨i4,i2,j2⟩:=a3.form p9
      subst j2
      have i0:=X1 (i1.o.ty b6 d6)
      have h6:=X1 a3
      obtain⟨vs9,p1,p5⟩:=i0.o.pw
      have k8:=X1 p1
      have s9:=X1 p5
      have hz9:=i0.o.tf.size
      clear a3 d6 b6 p1 p5
      go_wp2_with(at_builtin;refine YY _ rfl _ _ 119 rfl w.heap.size 23 iP _ 1 24 underlying119 hP i7 i6 i5 rfl (by decide) _ ls.length vs9 rfl (k8.o.alloc _) ⟨w9.heap.size,0,none⟩ 1 1 [.slice (some ⟨i4,0,none⟩) l9.length i2] rfl rfl (Qr _ [_] _ _ rfl) (by simp[Value.oneCell']) (by unfold maxLen;omega) (by omega) (by simp;omega) ?_)
      intro v10 q7 ra a2 rc rd
      obtain⟨a1,K⟩:=D5 k8.o s9.o h6.o p9 ra a2
      obtain⟨q0,p6,d8⟩:=XA ra
      subst d8
      have c5:=X1 (i0.o.pf K a1)
      clear a1 K ra a2 rc rd
      go_wp2_with fail
      go_meet
      case rel=>exact⟨_,_,_,rfl,p9,m9,c5.o⟩
     case rest=>
      obtain⟨g8,c8,l8,rfl,n4,n5,C⟩:=hcut
      have c5:=X1 C
      clear i1 b0 b1 b2 b3
      go_upto_region 18 with fail
      go_cut[]from 94 to 163 (fun W=>DT gb rb vb n w F s J (M+1) (q+800+6860) (k) d (.slice y r.length A) r (.slice g8 (ls.length+1) c8) (ls++[l8]) W)
      case first=>
       obtain⟨nv,nx,n1,n2,n3⟩:=C.gn.nm
       have fr1:=C.gn.fr 1
       rcases n2.2 with⟨K8,h0⟩|⟨g,c,u7,hv,_⟩
       .obtain⟨rfl,hps0⟩:k=0/\r.length=0:=by omega
        subst K8
        have c6:=X1 (C.ty (.set (o:=1) (v:= .slice none 0 0) C.gn.Up (by decide)) (C.gn.names (k':=0) (K7 _ _ _ _) (fun i hi=>absurd hi (JK _)) (by omega)))
        clear n2 n3 C
        go_wp2_with fail
        go_meet
        case rel=>exact c6.o
       .subst hv
        have g4:=D9 n2
        have hkc:k<=c:=by omega
        have hcm:c<=9223372036854775807:=by have:=g4.2;unfold maxLen at this;omega
        have c6:=X1 (C.ty (.set (o:=1) (v:= .slice (some ⟨g,0,none⟩) k c) C.gn.Up (by decide)) (C.gn.names (CO n2 (m:=k) (by omega)) (n3.take (by omega)) (by omega)))
        clear n2 n3 C g4
        go_wp2_with fail
        go_meet
        case rel=>exact c6.o
      case rest=>
       have k5:=X1 hcut
       clear C c5
       go_upto_region 19 with fail
       go_cut[149]from 94 to 163 (fun v W=>∃b,v= .bool b/\DT gb rb vb n w F s J (M+1) (q+800+6860) (k) d (.slice y r.length A) r (.slice g8 (ls.length+1) c8) (ls++[l8]) W)
       case first=>
        obtain⟨q4,mf,yf,f1,f2,f3,f4⟩:=hcut.gn.fn
        have e2:=X1 (fun N=>k5.o.below (below_drewN (X8 _ _) N))
        rcases f2.2 with⟨K8,h0⟩|⟨fg,fc,u7,hv,_⟩
        .subst K8
         clear f2 f4 hcut
         go_quiet(fail)
         go_wp2_with fail
         go_meet
         case rel=>exact⟨_,rfl,e2.o _⟩
        .subst hv
         by_cases x8:mf=0
         .subst x8
          clear f2 f4 hcut
          go_quiet(fail)
          go_wp2_with fail
          go_meet
          case rel=>exact⟨_,rfl,e2.o _⟩
         .obtain⟨m1,rfl⟩:∃m1,mf=m1+1:=⟨mf-1,by omega⟩
          obtain⟨s1,pv1,ps1,ff1,zz1,y1,_⟩:=f4 m1 (by omega)
          have cy:=JO f2 rfl _ _ y1
          rw[Y8,Xu]at cy
          have em:((m1+1:Nat):Int)=(m1:Int)+1:=by omega
          have hwm:IntKind.i64.wrap (m1:Int)=(m1:Int):=by rw[Yp];omega
          have hne0:((m1:Int)+1==0)=false:=by simp;omega
          have hlt1:(m1:Int)<(m1:Int)+1:=by omega
          clear f2 f4 hcut y1
          cases heq:(s1.val.toList==s.val.toList)
          .go_quiet(fail)
           go_wp2_with fail
           go_meet
           case rel=>exact⟨_,rfl,e2.o _⟩
          .go_quiet(fail)
           go_wp2_with fail
           go_meet
           case rel=>exact⟨_,rfl,e2.o _⟩
       case rest=>
        obtain⟨b,rfl,m0⟩:=hcut
        have E:=X1 m0
        clear m0 k5
        rename ∀(a:Act) (w:World),_->_=>hKK
        refine hKK _ _ ?_
        go_cut[]from 94 to 163 (fun W=>DT gb rb vb n w F s J (M+1+1) (q+800+6860) (k) d (.slice y r.length A) r (.slice g8 (ls.length+1) c8) (ls++[l8]) W)
        case first=>
         cases b
         .go_wp2_with fail
          go_meet
          case rel=>exact E.o.mono (by omega)
         .obtain⟨q4,mf,yf,f1,f2,f3,f4⟩:=E.o.gn.fn
          obtain⟨fp,fc,j3⟩:=XA f2
          subst j3
          obtain⟨b0,b1,b2,b3⟩:=E.o.cells
          have X:BL wc wc.drew:=(X8 _ _).drew
          have B:BL wc (wc.alloc (.cells #[.string s,.slice y r.length A,.int .i64 d,.int .i64 (J:Int)] 181)).drew:=(bA _).drew
          have a0:=E.o.gn.lt
          have I:=E.o.flt
          have Z:=X1 (E.o.below B)
          have u8:wc.drew.cell? ⟨gb,2,none⟩=_:=(X.cell (p:=⟨gb,2,none⟩) a0).trans f1
          have c9:(wc.alloc (.cells #[.string s,.slice y r.length A,.int .i64 d,.int .i64 (J:Int)] 181)).drew.cell? ⟨gb,2,none⟩=_:=(B.cell (p:=⟨gb,2,none⟩) a0).trans f1
          have t1:wc.drew.cell? ⟨F,0,none⟩=_:=(X.cell (p:=⟨F,0,none⟩) I).trans b0
          have t2:wc.drew.cell? ⟨F,1,none⟩=_:=(X.cell (p:=⟨F,1,none⟩) I).trans b1
          have t3:wc.drew.cell? ⟨F,2,none⟩=_:=(X.cell (p:=⟨F,2,none⟩) I).trans b2
          have t4:wc.drew.cell? ⟨F,3,none⟩=_:=(X.cell (p:=⟨F,3,none⟩) I).trans b3
          have O:=X1 (Qu f2 B)
          have h5:Hid (FnC (wc.alloc (.cells #[.string s,.slice y r.length A,.int .i64 d,.int .i64 (J:Int)] 181)).drew yf mf):=X1 (f4.Zi (fun q hq _=>B.block q hq))
          have a5:Hid (∀(j:Nat) (u:Value),([.string s,.slice y r.length A,.int .i64 d,.int .i64 (J:Int)]:List Value)[j]?=some u->(wc.alloc (.cells #[.string s,.slice y r.length A,.int .i64 d,.int .i64 (J:Int)] 181)).drew.cell? ((⟨wc.heap.size,0,none⟩:Addr).add j)=some u):=X1 (Qr wc [.string s,.slice y r.length A,.int .i64 d,.int .i64 (J:Int)] _ _ rfl)
          have b4:rb+1<=(wc.alloc (.cells #[.string s,.slice y r.length A,.int .i64 d,.int .i64 (J:Int)] 181)).drew.heap.size:=by have:=E.o.tf.size;have:=B.size;omega
          clear f1 f2 f4 b0 b1 b2 b3 X B
          go_wp2_with fail
          go_region_law(first
           | (refine U5 rfl (.tmp 154) (.tmp 156) 126 rfl (rb+1) 181 iF _ 4 56 underlying126 l2 l4 l3 l1 rfl (by decide) (.slice fp mf fc) mf yf (by simp) O.o ⟨wc.heap.size,0,none⟩ 1 1 [.string s,.slice y r.length A,.int .i64 d,.int .i64 (J:Int)] (by simp) rfl a5.o (by simp[Value.oneCell']) (by unfold maxLen;omega) (by omega) b4 ?_;intro v5 w5 r1 r2 r3 r4;obtain⟨eg,d5⟩:=Z.o.push (by omega) c9 O.o h5.o r2 r1 r4;obtain⟨g2,g1,d9⟩:=XA r1;subst d9;have q5:=(XQ (a:=⟨gb,2,none⟩) eg).trans c9;have q6:=(ZC (a:=⟨gb,2,none⟩) eg).trans (Z.o.gn.fr 2);have h7:=X1 d5;clear r1 r2 r3 r4 eg d5))
          all_goals
           go_wp2_with fail
           go_meet
           case rel=>exact h7.o
        case rest=>
         have s6:=X1 hcut
         have HO:=X1 (ZW ⟨20,0,0,s.val,0⟩ (ls++[l8]) _ _ 7700 hcut.pw.pr (by have:=r6.o;rw[Uc,Xj,fl1];omega) (by omega) (by rw[Xj];simp only[XI,Ya];omega))
         unfold ndV at HO
         clear hcut E
         go_wp2_with fail
         go_fit HO.o
         rintro e w12⟨v12,l12,rfl,e0,o7,m12,k9⟩
         obtain⟨g12,c12,o4⟩:=e0.form o7
         subst o4
         have c7:=X1 (s6.o.below k9)
         have k0:=X1 e0
         clear k9 e0
         go_wp2
         go_ret
         obtain⟨fp,fm,fc,hfm,x6,_⟩:=c7.o.ne
         exact⟨_,_,rfl,k0.o,o7,by omega,c7.o.gn.mono (by omega),c7.o.tf,fp,fm,fc,by omega,x6⟩
  | i+1,e9,f6=>
   have hpsl:r.length<=2:=by omega
   have ei:((i+1:Nat):Int)=(i:Int)+1:=by omega
   rw[ei]
   have hwi:IntKind.i64.wrap (i:Int)=(i:Int):=by rw[Yp];omega
   have hpos:(0:Int)<(i:Int)+1:=by omega
   have c0:=a7.o.gn.c0
   go_wp2_with fail
   go_fit(Gn.pick a7.o.gn (by omega) 5 (by omega) (by omega))
   rintro e w4⟨U,hz4,rfl,m5,n9⟩
   have g7:=X1 (a7.o.ty n9 m5)
   have t5:=g7.o.cells.2.1
   have j6:=X1 (fun w0=>WI r.length w0 (by omega))
   have hdl:=Wy r.length
   generalize KE r.length=dc at *
   have hsz2:(⟨dc.toArray⟩:ByteArray).size<=1000:=by show dc.toArray.size<=_;simp;omega
   clear m5 n9 c0 a7
   go_wp2_with fail
   go_fit(j6.o _)
   rintro e w5⟨rfl,b5⟩
   have b9:=X1 (g7.o.below b5)
   have a4:((⟨#[112]⟩:ByteArray)++⟨dc.toArray⟩).size<=1000000:=by rw[KA];show 1+_<=_;omega
   clear b5 t5 g7 j6
   generalize hst:(⟨#[112]⟩:ByteArray)++⟨dc.toArray⟩=st at *
   go_upto_region 9 with fail
   obtain⟨w6,f7⟩:∃w6,w5.alloc (.cells #[.int .i64 19,.int .i64 0,.int .i64 0,.string st,.int .i64 0] 64)=w6:=⟨_,rfl⟩
   have Q:=X1 (b9.o.below (bA (.cells #[.int .i64 19,.int .i64 0,.int .i64 0,.string st,.int .i64 0] 64)))
   have c3:=X1 (Gv w5 ⟨19,0,0,st,0⟩ ⟨a4,by show(0:Int)<9223372036854775808;decide⟩)
   rw[f7]
   rw[f7]at Q
   have c3:Hid (NR w6 (.slice (some ⟨w5.heap.size,0,none⟩) 1 1) [⟨19,0,0,st,0⟩]):=X1 (by rw[←f7];exact c3.o)
   generalize w5.heap.size=pb at *
   clear f7 b9
   have u5:=Q.o.gn.c0
   obtain⟨t6,t7,t8,t9,_,_⟩:=Q.o.cells
   go_cut[56]from 31 to 93 (fun v56 W=>∃b,v56= .bool b/\DS gb rb vb n w F s J vf m ys (q+2+r.length*262+2) (k+r.length) d (.slice y r.length A) r (.slice g0 ls.length f9) ls W/\NR W (.slice (some ⟨pb,0,none⟩) 1 1) [⟨19,0,0,st,0⟩])
   case first=>
    by_cases hf0:(0:Int)<d
    .go_wp2_with fail
     go_meet
     case rel=>exact⟨true,rfl,Q.o.ty (.refl _) (Q.o.gn.mono (by omega)),c3.o⟩
    .obtain rfl:d=0:=by omega
     go_wp2_with fail
     go_fit(Gn.pick Q.o.gn (by omega) 3 (by omega) (by omega))
     rintro e w7⟨z7,hz7,rfl,m6,j1⟩
     have q9:=X1 (Q.o.ty j1 m6)
     have s0:=X1 (c3.o.ty j1)
     clear m6 j1
     go_wp2_with fail
     go_meet
     case rel=>exact⟨_,rfl,q9.o,s0.o⟩
   case rest=>
    obtain⟨b,rfl,l0,l6⟩:=hcut
    have h2:=X1 l0
    have e5:=X1 l6
    clear l0 l6 Q c3 u5 t6 t7 t8 t9
    rename ∀(a:Act) (w:World),_->_=>hKK
    refine hKK _ _ ?_
    go_cut[8]from 31 to 93 (fun v8 W=>∃(H:Int) (g:Option Addr) (c:Nat) (l:List Nd),v8= .slice g (ls.length+1) c/\0<l.length/\l.length<=261/\d<=H/\H<=d+1/\DS gb rb vb n w F s J vf m ys (q+2+r.length*262+262) (k+r.length) H (.slice y r.length A) r (.slice g (ls.length+1) c) (ls++[l]) W/\NR W (.slice (some ⟨pb,0,none⟩) 1 1) [⟨19,0,0,st,0⟩])
    case first=>
     cases b
     .have bx:=e5.o.1
      have x0:=JO bx rfl 0 _ rfl
      have x1:=JO bx rfl 1 _ rfl
      have x2:=JO bx rfl 2 _ rfl
      have x3:=JO bx rfl 3 _ rfl
      have x4:=JO bx rfl 4 _ rfl
      rw[Y8,Xu]at x0 x1 x2 x3 x4
      have BA:BL wc (wc.alloc (.cells #[.int .i64 19,.int .i64 0,.int .i64 0,.string st,.int .i64 0] 64)):=bA _
      have g9:=X1 (h2.o.below BA)
      have s3:=X1 (e5.o.below BA)
      have s4:=X1 (Gv wc ⟨19,0,0,st,0⟩ ⟨a4,by show(0:Int)<9223372036854775808;decide⟩)
      have HZ:Hid ((wc.alloc (.cells #[.int .i64 19,.int .i64 0,.int .i64 0,.string st,.int .i64 0] 64)).heap.size=wc.heap.size+1):=X1 (by simp)
      obtain⟨vs4,o9,p3⟩:=g9.o.pw
      have k6:=X1 o9
      have s7:=X1 p3
      have z6:=g9.o.tf.size
      rw[HZ.o]at z6
      clear bx BA o9 p3
      go_wp2_with(at_builtin;refine YY _ rfl _ _ 119 rfl w.heap.size 23 iP _ 1 24 underlying119 hP i7 i6 i5 rfl (by decide) _ ls.length vs4 rfl (k6.o.alloc _) ⟨wc.heap.size+1,0,none⟩ 1 1 [.slice (some ⟨wc.heap.size,0,none⟩) 1 1] rfl rfl (Qr _ [_] _ _ HZ.o.symm) (by simp[Value.oneCell']) (by unfold maxLen;omega) (by omega) (by simp;omega) ?_)
      intro v5 w5 ra a2 rc rd
      obtain⟨n7,d7⟩:=D5 k6.o s7.o s4.o (by simp) ra a2
      obtain⟨g2,g1,y9⟩:=XA ra
      subst y9
      have b9:=X1 (g9.o.pf d7 n7)
      have r9:=X1 (d7.nr s3.o)
      clear ra a2 rc rd n7 d7
      go_wp2_with fail
      go_meet
      case rel=>exact⟨d,_,_,_,rfl,by simp,by simp,Int.le_refl _,by omega,b9.o.ty (.refl _) (b9.o.gn.mono (by omega)),r9.o⟩
     .have j7:=X1 (h2.o.below (X8 _ _).drew)
      have k1:=X1 (e5.o.below (X8 _ _).drew)
      have a9:=k1.o
      have d0:=a9.1.cells rfl 0 _ rfl
      have d1:=a9.1.cells rfl 1 _ rfl
      have d2:=a9.1.cells rfl 2 _ rfl
      have d3:=a9.1.cells rfl 3 _ rfl
      have d4:=a9.1.cells rfl 4 _ rfl
      rw[Y8,Xu]at d0 d1 d2 d3 d4
      clear a9
      go_wp2_with fail
      go_region_law(first
       | (refine Vp rfl 99 (.tmp 59) (.tmp 60) (.const (.int .i64 1)) _ _ _ rfl (.pointer (some ⟨gb,0,none⟩)) (.int .i64 (U:Int)) (.int .i64 1) (by simp) (by simp) (by simp) f99 func99 (by kernel_rfl) (by kernel_rfl) _ (Uk gb rb vb n (h3.o _ _ _ _ j7.o.gn (by omega) (by omega))) ?_;intro v9 w9 h9;obtain⟨l9,a3,p9,m9,d6,b6⟩:=h9;obtain⟨i4,i2,j2⟩:=a3.form p9;subst j2;have h6:=X1 a3;have r0:=X1 (j7.o.ty b6 d6);have L:=k1.o.ty b6;have k3:=X1 L;have y0:=L.1.cells rfl 0 _ rfl;have y1:=L.1.cells rfl 1 _ rfl;have y2:=L.1.cells rfl 2 _ rfl;have y3:=L.1.cells rfl 3 _ rfl;have y4:=L.1.cells rfl 4 _ rfl;rw[Y8,Xu]at y0 y1 y2 y3 y4;have S:=L.below (bA (.cells #[.slice (some ⟨i4,0,none⟩) l9.length i2] 23));have u0:=S.1.cells rfl 0 _ rfl;have u1:=S.1.cells rfl 1 _ rfl;have u2:=S.1.cells rfl 2 _ rfl;have u3:=S.1.cells rfl 3 _ rfl;have u4:=S.1.cells rfl 4 _ rfl;rw[Y8,Xu]at u0 u1 u2 u3 u4;clear L S a3 d6 b6)
       | (refine Kf rfl 66 (.tmp 58) (.tmp 62) _ _ rfl (ndV ⟨19,0,0,st,0⟩) (.slice (some ⟨w9.heap.size,0,none⟩) 1 1) (by unfold ndV;first|(simp[Act.eval];done)|simp[Act.eval,Act.put]) (by simp) f66 func66 (by kernel_rfl) (by kernel_rfl) _ (Uq (ZW ⟨19,0,0,st,0⟩ [_] _ (w9.alloc _) 260 (pr1 h6.o p9) (by rw[fl1];omega) (by omega) (by simp) ⟨a4,by show(0:Int)<9223372036854775808;decide⟩)) ?_;intro v8 w8 h8;obtain⟨l8,j5,p8,m8,b8⟩:=h8;obtain⟨u9,u6,z5⟩:=j5.form p8;subst z5;have s2:=X1 j5;have a6:=X1 ((r0.o.below (bA _)).below b8);have k2:=X1 ((k3.o.below (bA _)).below b8);obtain⟨vs8,p0,p4⟩:=a6.o.pw;have k7:=X1 p0;have s8:=X1 p4;have z9:=a6.o.tf.size;clear p0 p4 j5 b8)
       | (refine U5 rfl (.tmp 57) (.tmp 64) 119 rfl (w.heap.size) 23 iP _ 1 24 underlying119 hP i7 i6 i5 rfl (by decide) (.slice g0 ls.length f9) ls.length vs8 (by simp) (k7.o.alloc _) ⟨w8.heap.size,0,none⟩ 1 1 [.slice (some ⟨u9,0,none⟩) l8.length u6] (by simp) rfl (Qr _ [_] _ _ rfl) (by simp[Value.oneCell']) (by unfold maxLen;omega) (by omega) (by simp;omega) ?_;intro v10 q7 ra a2 rc rd;obtain⟨q0,p6,d8⟩:=XA ra;subst d8;obtain⟨a1,K⟩:=D5 k7.o s8.o s2.o p8 ra a2;have b7:=X1 (a6.o.pf K a1);have c4:=X1 (K.nr k2.o);clear a1 K ra a2 rc rd))
      all_goals
       obtain⟨f0,f1,f2,f3,f4,f5⟩:=b7.o.cells
       have hwf:IntKind.i64.wrap (d+1)=d+1:=by rw[Yp];omega
       have g3:=X1 (b7.o.Y0z (d+1))
       have j9:Hid (NR (q7.setCell ⟨F,2,none⟩ (.int .i64 (d+1))) (.slice (some ⟨pb,0,none⟩) 1 1) [⟨19,0,0,st,0⟩]):=X1 ⟨Kc c4.o.1 (by rw[b7.o.fty];decide),c4.o.2⟩
       go_wp2_with fail
       go_meet
       case rel=>exact⟨d+1,_,_,_,rfl,p8,by omega,by omega,Int.le_refl _,g3.o.ty (.refl _) (g3.o.gn.mono (by omega)),j9.o⟩
    case rest=>
     obtain⟨H,g8,c8,l8,rfl,n4,n5,hfa,hfb',a8,l5⟩:=hcut
     have a6:=X1 a8
     obtain⟨nv,nx,n1,n2,n3⟩:=a8.gn.nm
     obtain⟨o6,o5,i9⟩:=XA n2
     subst i9
     have x3:=JO l5.1 rfl 3 _ rfl
     rw[Y8,Xu]at x3
     have y6:=QE wc ⟨pb,3,none⟩ x3
     have X:BL wc wc.drew:=(X8 _ _).drew
     have B:BL wc (wc.alloc (.cells #[.string st,.int .i64 (U:Int)] 171)).drew:=(bA _).drew
     have a0:=a8.gn.lt
     have V:=X1 (a8.gn.below B)
     have n1d:wc.drew.cell? ⟨gb,1,none⟩=_:=(X.cell (p:=⟨gb,1,none⟩) a0).trans n1
     have j4:(wc.alloc (.cells #[.string st,.int .i64 (U:Int)] 171)).drew.cell? ⟨gb,1,none⟩=_:=(B.cell (p:=⟨gb,1,none⟩) a0).trans n1
     have x3d:wc.drew.cell? ⟨pb,3,none⟩=_:=(X.cell (p:=⟨pb,3,none⟩) y6).trans x3
     have O:=X1 (Qu n2 B)
     have a5:Hid (∀(j:Nat) (u:Value),([.string st,.int .i64 (U:Int)]:List Value)[j]?=some u->(wc.alloc (.cells #[.string st,.int .i64 (U:Int)] 171)).drew.cell? ((⟨wc.heap.size,0,none⟩:Addr).add j)=some u):=X1 (Qr wc [.string st,.int .i64 (U:Int)] _ _ rfl)
     have HS:=X1 (n3.snoc n2.1 ⟨st,a4⟩ (U:Int))
     have Z:Hid (Ty wc (wc.alloc (.cells #[.string st,.int .i64 (U:Int)] 171)).drew):=X1 (.of B)
     have b4:rb+1<=(wc.alloc (.cells #[.string st,.int .i64 (U:Int)] 171)).drew.heap.size:=by have:=a8.tf.size;have:=B.size;omega
     clear a8 l5 n1 n2 n3 x3 X B h2 e5
     go_upto_region 13 with fail
     go_cut[]from 31 to 93 (fun W=>DS gb rb vb n w F s J vf m ys (q+2+r.length*262+262) (k+r.length+1) H (.slice y r.length A) r (.slice g8 (ls.length+1) c8) (ls++[l8]) W)
     case first=>
      go_region_law(first
       | (refine U5 rfl (.tmp 79) (.tmp 84) 125 rfl (rb+1) 171 iN _ 2 24 underlying125 v7 x5 w3 v4 rfl (by decide) (.slice o6 (k+r.length) o5) (k+r.length) nx (by simp) O.o ⟨wc.heap.size,0,none⟩ 1 1 [.string st,.int .i64 (U:Int)] (by simp) rfl a5.o (by simp[Value.oneCell']) (by unfold maxLen;omega) (by omega) b4 ?_;intro v5 w5 r1 r2 r3 r4;have f8:some gb≠(Value.slice o6 (k+r.length) o5).ownBlock:=(fun e=>by have h1:=KH O.o e.symm;rw[V.o.ty]at h1;cases h1);have q5:=(XQ (a:=⟨gb,1,none⟩) (r2.block gb V.o.lt f8)).trans j4;have q6:=(ZC (a:=⟨gb,1,none⟩) (r2.block gb V.o.lt f8)).trans (V.o.fr 1);obtain⟨g2,g1,d9⟩:=XA r1;subst d9;have r7:=X1 (V.o.push j4 r2 r1 HS.o (by omega));have t0:Hid (Ty wc (w5.setCell ⟨gb,1,none⟩ (.slice g2 (k+r.length+1) g1))):=X1 ((Z.o.trans (.grown r2 (fun b hb=>by rw[KH O.o hb];exact .inr (.inr rfl)) (fun b hb=>by rw[KH O.o hb];decide) (fun b hb=>Xz V.o.lo (Mo (O.o.lt b hb).1)))).trans (.set (by rw[KI (r2.block gb V.o.lt f8)];exact V.o.Up) (by decide)));clear r1 r2 r3 r4 f8))
      all_goals
       go_wp2_with fail
       go_meet
       case rel=>exact a6.o.ty t0.o r7.o
     case rest=>
      have r5:=X1 hcut
      obtain⟨f0,f1,f2,f3,f4,f5⟩:=hcut.cells
      have BI:BL wc (wc.alloc (.cells #[.int .i64 (U:Int)] 3)):=bA _
      have c2:=X1 (hcut.below BI)
      have k4:=X1 (hcut.JD.alloc (.cells #[.int .i64 (U:Int)] 3))
      have z3:F<=(wc.alloc (.cells #[.int .i64 (U:Int)] 3)).heap.size:=by have:=c2.o.flt;omega
      clear hcut a6 V O HS Z a5 b4 n1d j4 x3d BI
      go_wp2_with(at_builtin;refine YY _ rfl _ _ 89 rfl F 3 iI _ 1 8 underlying89 v1 v3 v2 v0 rfl (by decide) _ r.length (r.map (Value.int .i64)) rfl k4.o ⟨wc.heap.size,0,none⟩ 1 1 [.int .i64 (U:Int)] rfl rfl (Qr _ [_] _ _ rfl) (by simp[Value.oneCell']) (by unfold maxLen;omega) (by omega) z3 ?_)
      intro v6 w6 r1 r2 r3 r4
      obtain⟨e1,i8⟩:=c2.o.grown (pvv':=v6) (ps':=r++[(U:Int)]) r2 (by rw[Xj,JI];exact r1)
      obtain⟨q3,p7,z0⟩:=XA r1
      subst z0
      have q1:=(XQ (a:=⟨F,1,none⟩) e1).trans c2.o.cells.2.1
      have q2:=(ZC (a:=⟨F,1,none⟩) e1).trans c2.o.cells.2.2.2.2.1
      have i3:(r++[(U:Int)]).length=r.length+1:=by simp
      have Q:Hid (DS gb rb vb n w F s J vf m ys (q+2+(r++[(U:Int)]).length*262) (k+(r++[(U:Int)]).length) H (.slice q3 (r.length+1) p7) (r++[(U:Int)]) (.slice g8 (ls.length+1) c8) (ls++[l8]) (w6.setCell ⟨F,1,none⟩ (.slice q3 (r.length+1) p7))):=X1 (by rw[i3];exact i8.ty (.refl _) (i8.gn.mono (by omega)))
      have e3:=X1 i3
      clear r1 r2 r3 r4 e1 i8 i3 r5 c2 k4 f0 f1 f2 f3 f4 f5
      go_wp2
      go_roundw
      case rel=>exact⟨i,H,_,r++[(U:Int)],ls++[l8],by omega,by go_num,by rw[e3.o];omega,by rw[e3.o,Xj,r8.o];rfl,by omega,by rw[e3.o];omega,by rw[e3.o,Uc,Xj,fl1];omega,Q.o⟩
      case measure=>simp[intOf]
