import Derived.Test.YtkoiikmhfaebnaaGreatDoorB34
set_option maxHeartbeats 16000000
set_option maxRecDepth 100000
namespace Go.Proofs.YtkoiikmhfaebnaaGreatDoor
open Tryz Go.RowKit
theorem DS.start[LB]{gb rb:Nat}{vb:Value}{n q k M:Nat}{w w1:World}(s:XC)(z:Int)(h:Gn gb rb vb n q k w1)(t:Ty w w1)(W:Xm w gb=some 150)(A:gb<w.heap.size)(Y:rb<w.heap.size)(V:Fm gb M w)(hM:M<=500):∃C m u,m<=M/\DS gb rb vb n w w1.heap.size s z C m u q k 0 (.slice none 0 0) [] (.slice (some ⟨w1.heap.size+1,0,none⟩) 0 0) [] ((w1.alloc (.cells #[.string s,.slice none 0 0,.int .i64 0,.int .i64 z] 296)).alloc (.cells #[] 23)):=by
 obtain⟨p,r,c,X,F⟩:=V.ty W A t;obtain⟨C,m,u,E,v,f3,Q⟩:=h.fn;obtain rfl:C= .slice p r c:=by rw[E]at F;exact YD F
 obtain⟨_,_,y⟩:=XQ v;obtain rfl:r=m:=by injection y
 have a:BL w1 (w1.alloc (.cells #[.string s,.slice none 0 0,.int .i64 0,.int .i64 z] 296)):=bA _;have d:Below (w1.alloc (.cells #[.string s,.slice none 0 0,.int .i64 0,.int .i64 z] 296)).heap.size (w1.alloc (.cells #[.string s,.slice none 0 0,.int .i64 0,.int .i64 z] 296)) ((w1.alloc (.cells #[.string s,.slice none 0 0,.int .i64 0,.int .i64 z] 296)).alloc (.cells #[] 23)):=bA _;have S:FnK gb rb w1.heap.size (.slice p r c) r u w1:=⟨E,v,fun b g=>(v.lt b g).2,fun i hi=>by
  obtain⟨s',pv,Z,f,z',H,I,J,K,D,L,N,P⟩:=Q i hi;exact⟨s',pv,Z,f,z',H,I,J,K,D,L,N,P,fun b g=>(D.lt b g).2⟩⟩
 have l:=PW.new (B:=w.heap.size) (w1.alloc (.cells #[.string s,.slice none 0 0,.int .i64 0,.int .i64 z] 296)) (XO t.size a.size);rw[Xb]at l;have j:=h.lt;refine⟨_,r,u,X,(h.below a).below d,(Ty.tf t).trans ((TyM.of a).trans (.of d)),l,(d.block _ (by simp)).trans (XM _ _),ZJ _ _ _ _,S.XH ?_ ?_,by omega,Y,t.size⟩
 .exact(d.cell (p:=⟨gb,2,none⟩) (by simp;omega)).trans (a.cell (p:=⟨gb,2,none⟩) j)
 .intro b g _ _;exact(d.block b (by simp;omega)).trans (a.block b g)
variable (gb rb:Nat) (vb:Value) (n:Nat)
theorem X3s[LB](h7:EAt gb rb vb n 1 260)(i0:EAt gb rb vb n 3 6860):OG gb rb vb n:=fun q k M s w h hf hM hq hk=>by
 obtain⟨iP,hP,j1,j0,i9⟩:=Yk Ga
 obtain⟨iN,x8,y5,x9,x7⟩:=Yk Rj
 obtain⟨iF,l6,m0,l7,l5⟩:=Yk X8m
 obtain⟨iI,w3,x6,x5,v7⟩:=Yk X8o
 have z6:rb<w.heap.size:=GU h.up h.lt
 have c0:=h.c0
 have e8:=X1 h
 have k2:=X1 hf
 have h7:=X1 h7
 have i0:=X1 i0
 clear h hf
 go_enter func146,ntmps146
 go_wp2_with fail
 refine(Gn.pick e8.o (by omega) 5 (by omega) (by omega)).mono ?_
 rintro e w1⟨F,hz1,rfl,m7,j4⟩
 obtain⟨vf,m,ys,y9,f8⟩:=DS.start s (F:Int) m7 j4 e8.o.ty e8.o.lt z6 k2.o hM
 have HT1:=X1 j4
 have h3:=X1 f8
 have c1:=f8.gn.c0
 obtain⟨nv,nx,n1,n2,n3⟩:=f8.gn.nm
 obtain⟨np,nc,j3⟩:=XQ n2
 subst j3
 clear f8 m7 j4 n2 n3 c0 e8 k2
 go_wp2_with fail
 refine(Gn.pick h3.o.gn (by omega) 4 (by omega) (by omega)).mono ?_
 rintro e w2⟨z2,hz2,rfl,n4,o5⟩
 have r6:=X1 (h3.o.ty o5 n4)
 clear n4 o5 h3 c1 n1
 generalize hfb:w1.heap.size=C at *
 go_wp2_with fail
 go_loopw[8,10,11,12] (fun sv tv _ _ wr=>∃(i:Nat) (d:Int) (p6:Value) (r:List Int) (ls:List (List Nd)),i<=3/\tv= .int .i64 (i:Int)/\r.length+i<=3/\ls.length=r.length/\0<=d/\d<=(r.length:Int)/\ls.flatten.length<=r.length*261/\DS gb rb vb n w C s F vf m ys (q+2+r.length*262) (k+r.length) d p6 r sv ls wr) (fun _ tv _ _ _=>(intOf tv).toNat)
 case atStart=>exact⟨z2,0,_,[],[],by omega,rfl,by simp;omega,rfl,by omega,by simp,by simp,r6.o⟩
 case round=>
  obtain⟨i,d,p6,r,ls,f9,rfl,g0,o0,m6,hfrp,y7,f7⟩:=hrel
  have a4:=X1 f7
  have s4:=X1 o0
  have hle:ls.length<=3:=by omega
  clear o0
  obtain⟨vs0,p2,_⟩:=f7.pw
  obtain⟨g4,g3,z0⟩:=XQ p2
  subst z0
  obtain⟨t,y,z5⟩:=XQ f7.Jv
  subst z5
  clear p2 f7
  match i,f9,g0 with
  | 0,f9,g0=>
   have f6:=X1 (a4.o.dt (M:=M) y9 (by omega) m6 (by omega))
   have c0:=f6.o.gn.c0
   have hps3:r.length<=3:=by omega
   have h2:ls.flatten.length<=783:=by omega
   have s2:=X1 h2
   clear a4 g0 f9 y7 h2
   go_upto_region 15 with fail
   go_cut[99]from 94 to 163 (fun v99 S=>∃b,v99= .bool b/\DT gb rb vb n w C s F (M) (q+800) (k+r.length) d (.slice t r.length y) r (.slice g4 ls.length g3) ls S)
   case first=>
    go_wp2_with fail
    refine(Gn.pick f6.o.gn (by omega) 12 (by omega) (by omega)).mono ?_
    rintro e w8⟨z8,hz8,rfl,n7,o7⟩
    have t0:=X1 (f6.o.ty o7 (n7.mono (q':=q+800) (by omega)))
    clear n7 o7
    go_wp2_with fail
    go_meet
    case rel=>exact⟨_,rfl,t0.o⟩
   case rest=>
    obtain⟨b,rfl,m4⟩:=hcut
    have B:=X1 m4
    clear m4 f6 c0
    rename ∀(a:Act) (w:World),_->_=>hKK
    refine hKK _ _ ?_
    go_cut[]from 94 to 163 (fun S=>DT gb rb vb n w C s F (M+1) (q+800) (k+r.length) d (.slice t r.length y) r (.slice g4 ls.length g3) ls S)
    case first=>
     cases b
     .go_wp2_with fail
      go_meet
      case rel=>exact B.o.mono (by omega)
     .obtain⟨r0,mf,yf,f1,f2,f3,f4⟩:=B.o.gn.fn
      obtain⟨fp,fc,j7⟩:=XQ f2
      subst j7
      obtain⟨b0,b1,b2,b3⟩:=B.o.cells
      have V:BL wc wc.drew:=(X5 _ _).drew
      have z:BL wc (wc.alloc (.cells #[.string s,.slice t r.length y,.int .i64 d,.int .i64 (F:Int)] 296)).drew:=(bA _).drew
      have X:=B.o.gn.lt
      have E:=B.o.flt
      have W:=X1 (B.o.below z)
      have v3:wc.drew.cell? ⟨gb,2,none⟩=_:=(V.cell (p:=⟨gb,2,none⟩) X).trans f1
      have d7:(wc.alloc (.cells #[.string s,.slice t r.length y,.int .i64 d,.int .i64 (F:Int)] 296)).drew.cell? ⟨gb,2,none⟩=_:=(z.cell (p:=⟨gb,2,none⟩) X).trans f1
      have t6:wc.drew.cell? ⟨C,0,none⟩=_:=(V.cell (p:=⟨C,0,none⟩) E).trans b0
      have t7:wc.drew.cell? ⟨C,1,none⟩=_:=(V.cell (p:=⟨C,1,none⟩) E).trans b1
      have t8:wc.drew.cell? ⟨C,2,none⟩=_:=(V.cell (p:=⟨C,2,none⟩) E).trans b2
      have t9:wc.drew.cell? ⟨C,3,none⟩=_:=(V.cell (p:=⟨C,3,none⟩) E).trans b3
      have J:=X1 (Qi f2 z)
      have i1:Hid (FnC (wc.alloc (.cells #[.string s,.slice t r.length y,.int .i64 d,.int .i64 (F:Int)] 296)).drew yf mf):=X1 (f4.XH (fun q hq _=>z.block q hq))
      have a2:Hid (∀(j:Nat) (u:Value),([.string s,.slice t r.length y,.int .i64 d,.int .i64 (F:Int)]:List Value)[j]?=some u->(wc.alloc (.cells #[.string s,.slice t r.length y,.int .i64 d,.int .i64 (F:Int)] 296)).drew.cell? ((⟨wc.heap.size,0,none⟩:Addr).add j)=some u):=X1 (QD wc [.string s,.slice t r.length y,.int .i64 d,.int .i64 (F:Int)] _ _ rfl)
      have a7:rb+1<=(wc.alloc (.cells #[.string s,.slice t r.length y,.int .i64 d,.int .i64 (F:Int)] 296)).drew.heap.size:=by have:=B.o.tf.size;have:=z.size;omega
      clear f1 f2 f4 b0 b1 b2 b3 V z
      go_wp2_with fail
      go_region_law(first
       | (refine V7 rfl (.tmp 104) (.tmp 106) 148 rfl (rb+1) 296 iF _ 4 56 underlying148 l6 m0 l7 l5 rfl (by decide) (.slice fp mf fc) mf yf (by first|(simp[Act.eval];done)|simp[Act.eval,Act.put]) J.o ⟨wc.heap.size,0,none⟩ 1 1 [.string s,.slice t r.length y,.int .i64 d,.int .i64 (F:Int)] (by first|(simp[Act.eval];done)|simp[Act.eval,Act.put]) rfl a2.o (by simp[Value.oneCell']) (by unfold maxLen;omega) (by omega) a7 ?_;intro v5 w5 r1 r2 r3 r4;obtain⟨eg,d8⟩:=W.o.push (by omega) d7 J.o i1.o r2 r1 r4;obtain⟨g6,g5,e4⟩:=XQ r1;subst e4;have q5:=(Xy (a:=⟨gb,2,none⟩) eg).trans d7;have q6:=(KU (a:=⟨gb,2,none⟩) eg).trans (W.o.gn.fr 2);have i3:=X1 d8;clear r1 r2 r3 r4 eg d8))
      all_goals
       go_wp2_with fail
       go_meet
       case rel=>exact i3.o
    case rest=>
     have i5:=X1 hcut
     obtain⟨b0,b1,b2,b3⟩:=hcut.cells
     clear hcut B
     go_upto_region 17 with fail
     go_cut[8]from 94 to 163 (fun v8 S=>∃(g:Option Addr) (c:Nat) (l:List Nd),v8= .slice g (ls.length+1) c/\0<l.length/\l.length<=6860/\DT gb rb vb n w C s F (M+1) (q+800+6860) (k+r.length) d (.slice t r.length y) r (.slice g (ls.length+1) c) (ls++[l]) S)
     case first=>
      go_wp2_with fail
      refine(i0.o _ _ _ _ i5.o.gn (by omega) (by omega)).mono ?_
      rintro e w9⟨v9,l9,rfl,a0,p9,m9,d9,a8⟩
      obtain⟨i8,i6,j6⟩:=a0.form p9
      subst j6
      have i4:=X1 (i5.o.ty a8 d9)
      have i2:=X1 a0
      obtain⟨vs9,p5,q3⟩:=i4.o.pw
      have l2:=X1 p5
      have t4:=X1 q3
      have hz9:=i4.o.tf.size
      clear a0 d9 a8 p5 q3
      go_wp2_with(at_builtin;refine Yg _ rfl _ _ 138 rfl w.heap.size 23 iP _ 1 24 underlying138 hP j1 j0 i9 rfl (by decide) _ ls.length vs9 rfl (l2.o.alloc _) ⟨w9.heap.size,0,none⟩ 1 1 [.slice (some ⟨i8,0,none⟩) l9.length i6] rfl rfl (QD _ [_] _ _ rfl) (by simp[Value.oneCell']) (by unfold maxLen;omega) (by omega) (by simp;omega) ?_)
      intro v10 r5 ra Z rc rd
      obtain⟨Y,H⟩:=Gj l2.o t4.o i2.o p9 ra Z
      obtain⟨q8,q4,e3⟩:=XQ ra
      subst e3
      have c9:=X1 (i4.o.pf H Y)
      clear Y H ra Z rc rd
      go_wp2_with fail
      go_meet
      case rel=>exact⟨_,_,_,rfl,p9,m9,c9.o⟩
     case rest=>
      obtain⟨g8,c8,l8,rfl,n8,n9,A⟩:=hcut
      have c9:=X1 A
      clear i5 b0 b1 b2 b3
      go_upto_region 18 with fail
      go_cut[]from 94 to 163 (fun S=>DT gb rb vb n w C s F (M+1) (q+800+6860) (k) d (.slice t r.length y) r (.slice g8 (ls.length+1) c8) (ls++[l8]) S)
      case first=>
       obtain⟨nv,nx,n1,n2,n3⟩:=A.gn.nm
       have fr1:=A.gn.fr 1
       rcases n2.2 with⟨e0,h0⟩|⟨g,c,v2,hv,_⟩
       .obtain⟨rfl,hps0⟩:k=0/\r.length=0:=by omega
        subst e0
        have d5:=X1 (A.ty (.set (o:=1) (v:= .slice none 0 0) A.gn.V0 (by decide)) (A.gn.names (k':=0) (ZJ _ _ _ _) (fun i hi=>absurd hi (U8 _)) (by omega)))
        clear n2 n3 A
        go_wp2_with fail
        go_meet
        case rel=>exact d5.o
       .subst hv
        have g9:=Gl n2
        have hkc:k<=c:=by omega
        have hcm:c<=9223372036854775807:=by have:=g9.2;unfold maxLen at this;omega
        have d5:=X1 (A.ty (.set (o:=1) (v:= .slice (some ⟨g,0,none⟩) k c) A.gn.V0 (by decide)) (A.gn.names (EP n2 (m:=k) (by omega)) (n3.take (by omega)) (by omega)))
        clear n2 n3 A g9
        go_wp2_with fail
        go_meet
        case rel=>exact d5.o
      case rest=>
       have k9:=X1 hcut
       clear A c9
       go_upto_region 19 with fail
       go_cut[149]from 94 to 163 (fun v S=>∃b,v= .bool b/\DT gb rb vb n w C s F (M+1) (q+800+6860) (k) d (.slice t r.length y) r (.slice g8 (ls.length+1) c8) (ls++[l8]) S)
       case first=>
        obtain⟨r0,mf,yf,f1,f2,f3,f4⟩:=hcut.gn.fn
        have e6:=X1 (fun N=>k9.o.below (below_drewN (X5 _ _) N))
        rcases f2.2 with⟨e0,h0⟩|⟨fg,fc,v2,hv,_⟩
        .subst e0
         clear f2 f4 hcut
         go_quiet(fail)
         go_wp2_with fail
         go_meet
         case rel=>exact⟨_,rfl,e6.o _⟩
        .subst hv
         by_cases y8:mf=0
         .subst y8
          clear f2 f4 hcut
          go_quiet(fail)
          go_wp2_with fail
          go_meet
          case rel=>exact⟨_,rfl,e6.o _⟩
         .obtain⟨m1,rfl⟩:∃m1,mf=m1+1:=⟨mf-1,by omega⟩
          obtain⟨s1,pv1,ps1,ff1,zz1,y1,_⟩:=f4 m1 (by omega)
          have cy:=JN f2 rfl _ _ y1
          rw[Ye,Xn]at cy
          have em:((m1+1:Nat):Int)=(m1:Int)+1:=by omega
          have hwm:IntKind.i64.wrap (m1:Int)=(m1:Int):=by rw[Yt];omega
          have hne0:((m1:Int)+1==0)=false:=by simp;omega
          have hlt1:(m1:Int)<(m1:Int)+1:=by omega
          clear f2 f4 hcut y1
          cases heq:(s1.val.toList==s.val.toList)
          .go_quiet(fail)
           go_wp2_with fail
           go_meet
           case rel=>exact⟨_,rfl,e6.o _⟩
          .go_quiet(fail)
           go_wp2_with fail
           go_meet
           case rel=>exact⟨_,rfl,e6.o _⟩
       case rest=>
        obtain⟨b,rfl,m5⟩:=hcut
        have B:=X1 m5
        clear m5 k9
        rename ∀(a:Act) (w:World),_->_=>hKK
        refine hKK _ _ ?_
        go_cut[]from 94 to 163 (fun S=>DT gb rb vb n w C s F (M+1+1) (q+800+6860) (k) d (.slice t r.length y) r (.slice g8 (ls.length+1) c8) (ls++[l8]) S)
        case first=>
         cases b
         .go_wp2_with fail
          go_meet
          case rel=>exact B.o.mono (by omega)
         .obtain⟨r0,mf,yf,f1,f2,f3,f4⟩:=B.o.gn.fn
          obtain⟨fp,fc,j7⟩:=XQ f2
          subst j7
          obtain⟨b0,b1,b2,b3⟩:=B.o.cells
          have V:BL wc wc.drew:=(X5 _ _).drew
          have z:BL wc (wc.alloc (.cells #[.string s,.slice t r.length y,.int .i64 d,.int .i64 (F:Int)] 296)).drew:=(bA _).drew
          have X:=B.o.gn.lt
          have E:=B.o.flt
          have W:=X1 (B.o.below z)
          have v3:wc.drew.cell? ⟨gb,2,none⟩=_:=(V.cell (p:=⟨gb,2,none⟩) X).trans f1
          have d7:(wc.alloc (.cells #[.string s,.slice t r.length y,.int .i64 d,.int .i64 (F:Int)] 296)).drew.cell? ⟨gb,2,none⟩=_:=(z.cell (p:=⟨gb,2,none⟩) X).trans f1
          have t6:wc.drew.cell? ⟨C,0,none⟩=_:=(V.cell (p:=⟨C,0,none⟩) E).trans b0
          have t7:wc.drew.cell? ⟨C,1,none⟩=_:=(V.cell (p:=⟨C,1,none⟩) E).trans b1
          have t8:wc.drew.cell? ⟨C,2,none⟩=_:=(V.cell (p:=⟨C,2,none⟩) E).trans b2
          have t9:wc.drew.cell? ⟨C,3,none⟩=_:=(V.cell (p:=⟨C,3,none⟩) E).trans b3
          have J:=X1 (Qi f2 z)
          have i1:Hid (FnC (wc.alloc (.cells #[.string s,.slice t r.length y,.int .i64 d,.int .i64 (F:Int)] 296)).drew yf mf):=X1 (f4.XH (fun q hq _=>z.block q hq))
          have a2:Hid (∀(j:Nat) (u:Value),([.string s,.slice t r.length y,.int .i64 d,.int .i64 (F:Int)]:List Value)[j]?=some u->(wc.alloc (.cells #[.string s,.slice t r.length y,.int .i64 d,.int .i64 (F:Int)] 296)).drew.cell? ((⟨wc.heap.size,0,none⟩:Addr).add j)=some u):=X1 (QD wc [.string s,.slice t r.length y,.int .i64 d,.int .i64 (F:Int)] _ _ rfl)
          have a7:rb+1<=(wc.alloc (.cells #[.string s,.slice t r.length y,.int .i64 d,.int .i64 (F:Int)] 296)).drew.heap.size:=by have:=B.o.tf.size;have:=z.size;omega
          clear f1 f2 f4 b0 b1 b2 b3 V z
          go_wp2_with fail
          go_region_law(first
           | (refine V7 rfl (.tmp 154) (.tmp 156) 148 rfl (rb+1) 296 iF _ 4 56 underlying148 l6 m0 l7 l5 rfl (by decide) (.slice fp mf fc) mf yf (by first|(simp[Act.eval];done)|simp[Act.eval,Act.put]) J.o ⟨wc.heap.size,0,none⟩ 1 1 [.string s,.slice t r.length y,.int .i64 d,.int .i64 (F:Int)] (by first|(simp[Act.eval];done)|simp[Act.eval,Act.put]) rfl a2.o (by simp[Value.oneCell']) (by unfold maxLen;omega) (by omega) a7 ?_;intro v5 w5 r1 r2 r3 r4;obtain⟨eg,d8⟩:=W.o.push (by omega) d7 J.o i1.o r2 r1 r4;obtain⟨g6,g5,e4⟩:=XQ r1;subst e4;have q5:=(Xy (a:=⟨gb,2,none⟩) eg).trans d7;have q6:=(KU (a:=⟨gb,2,none⟩) eg).trans (W.o.gn.fr 2);have i3:=X1 d8;clear r1 r2 r3 r4 eg d8))
          all_goals
           go_wp2_with fail
           go_meet
           case rel=>exact i3.o
        case rest=>
         have t1:=X1 hcut
         have HO:=X1 (ZY ⟨20,0,0,s.val,0⟩ (ls++[l8]) _ _ 7700 hcut.pw.pr (by have:=s2.o;rw[UA,Xo,fl1];omega) (by omega) (by rw[Xo];simp only[Ya,ZN];omega))
         unfold ndV at HO
         clear hcut B
         go_wp2_with fail
         refine HO.o.mono ?_
         rintro e w12⟨v12,l12,rfl,e5,p1,m12,l3⟩
         obtain⟨g12,c12,o8⟩:=e5.form p1
         subst o8
         have d6:=X1 (t1.o.below l3)
         have k4:=X1 e5
         clear l3 e5
         go_wp2
         go_ret
         obtain⟨fp,fm,fc,hfm,y6,_⟩:=d6.o.ne
         exact⟨_,_,rfl,k4.o,p1,by omega,d6.o.gn.mono (by omega),d6.o.tf,fp,fm,fc,by omega,y6⟩
  | i+1,f9,g0=>
   have hpsl:r.length<=2:=by omega
   have ei:((i+1:Nat):Int)=(i:Int)+1:=by omega
   rw[ei]
   have hwi:IntKind.i64.wrap (i:Int)=(i:Int):=by rw[Yt];omega
   have hpos:(0:Int)<(i:Int)+1:=by omega
   have c0:=a4.o.gn.c0
   go_wp2_with fail
   refine(Gn.pick a4.o.gn (by omega) 5 (by omega) (by omega)).mono ?_
   rintro e w4⟨P,hz4,rfl,n5,o6⟩
   have h4:=X1 (a4.o.ty o6 n5)
   have u5:=h4.o.cells.2.1
   have k0:=X1 (fun w0=>DZ r.length w0 (by omega))
   have hdl:=DL r.length
   generalize KC r.length=dc at *
   have hsz2:(⟨dc.toArray⟩:ByteArray).size<=1000:=by show dc.toArray.size<=_;simp;omega
   clear n5 o6 c0 a4
   go_wp2_with fail
   refine(k0.o _).mono ?_
   rintro e w5⟨rfl,b5⟩
   have b4:=X1 (h4.o.below b5)
   have a1:((⟨#[112]⟩:ByteArray)++⟨dc.toArray⟩).size<=1000000:=by rw[JA];show 1+_<=_;omega
   clear b5 u5 h4 k0
   generalize hst:(⟨#[112]⟩:ByteArray)++⟨dc.toArray⟩=st at *
   go_upto_region 9 with fail
   obtain⟨w6,g1⟩:∃w6,w5.alloc (.cells #[.int .i64 19,.int .i64 0,.int .i64 0,.string st,.int .i64 0] 48)=w6:=⟨_,rfl⟩
   have K:=X1 (b4.o.below (bA (.cells #[.int .i64 19,.int .i64 0,.int .i64 0,.string st,.int .i64 0] 48)))
   have b7:=X1 (IY w5 ⟨19,0,0,st,0⟩ ⟨a1,by show(0:Int)<9223372036854775808;decide⟩)
   rw[g1]
   rw[g1]at K
   have b7:Hid (NR w6 (.slice (some ⟨w5.heap.size,0,none⟩) 1 1) [⟨19,0,0,st,0⟩]):=X1 (by rw[←g1];exact b7.o)
   generalize w5.heap.size=pb at *
   clear g1 b4
   have v0:=K.o.gn.c0
   obtain⟨u6,u7,u8,u9,_,_⟩:=K.o.cells
   go_cut[56]from 31 to 93 (fun v56 S=>∃b,v56= .bool b/\DS gb rb vb n w C s F vf m ys (q+2+r.length*262+2) (k+r.length) d (.slice t r.length y) r (.slice g4 ls.length g3) ls S/\NR S (.slice (some ⟨pb,0,none⟩) 1 1) [⟨19,0,0,st,0⟩])
   case first=>
    by_cases hf0:(0:Int)<d
    .go_wp2_with fail
     go_meet
     case rel=>exact⟨true,rfl,K.o.ty (.refl _) (K.o.gn.mono (by omega)),b7.o⟩
    .obtain rfl:d=0:=by omega
     go_wp2_with fail
     refine(Gn.pick K.o.gn (by omega) 3 (by omega) (by omega)).mono ?_
     rintro e w7⟨z7,hz7,rfl,n6,j5⟩
     have r7:=X1 (K.o.ty j5 n6)
     have s6:=X1 (b7.o.ty j5)
     clear n6 j5
     go_wp2_with fail
     go_meet
     case rel=>exact⟨_,rfl,r7.o,s6.o⟩
   case rest=>
    obtain⟨b,rfl,l4,m3⟩:=hcut
    have h6:=X1 l4
    have e9:=X1 m3
    clear l4 m3 K b7 v0 u6 u7 u8 u9
    rename ∀(a:Act) (w:World),_->_=>hKK
    refine hKK _ _ ?_
    go_cut[8]from 31 to 93 (fun v8 S=>∃(D:Int) (g:Option Addr) (c:Nat) (l:List Nd),v8= .slice g (ls.length+1) c/\0<l.length/\l.length<=261/\d<=D/\D<=d+1/\DS gb rb vb n w C s F vf m ys (q+2+r.length*262+262) (k+r.length) D (.slice t r.length y) r (.slice g (ls.length+1) c) (ls++[l]) S/\NR S (.slice (some ⟨pb,0,none⟩) 1 1) [⟨19,0,0,st,0⟩])
    case first=>
     cases b
     .have bx:=e9.o.1
      have x0:=JN bx rfl 0 _ rfl
      have x1:=JN bx rfl 1 _ rfl
      have x2:=JN bx rfl 2 _ rfl
      have x3:=JN bx rfl 3 _ rfl
      have x4:=JN bx rfl 4 _ rfl
      rw[Ye,Xn]at x0 x1 x2 x3 x4
      have BA:BL wc (wc.alloc (.cells #[.int .i64 19,.int .i64 0,.int .i64 0,.string st,.int .i64 0] 48)):=bA _
      have h5:=X1 (h6.o.below BA)
      have s8:=X1 (e9.o.below BA)
      have s9:=X1 (IY wc ⟨19,0,0,st,0⟩ ⟨a1,by show(0:Int)<9223372036854775808;decide⟩)
      have HZ:Hid ((wc.alloc (.cells #[.int .i64 19,.int .i64 0,.int .i64 0,.string st,.int .i64 0] 48)).heap.size=wc.heap.size+1):=X1 (by simp)
      obtain⟨vs4,p3,p7⟩:=h5.o.pw
      have l0:=X1 p3
      have t2:=X1 p7
      have hz6:=h5.o.tf.size
      rw[HZ.o]at hz6
      clear bx BA p3 p7
      go_wp2_with(at_builtin;refine Yg _ rfl _ _ 138 rfl w.heap.size 23 iP _ 1 24 underlying138 hP j1 j0 i9 rfl (by decide) _ ls.length vs4 rfl (l0.o.alloc _) ⟨wc.heap.size+1,0,none⟩ 1 1 [.slice (some ⟨wc.heap.size,0,none⟩) 1 1] rfl rfl (QD _ [_] _ _ HZ.o.symm) (by simp[Value.oneCell']) (by unfold maxLen;omega) (by omega) (by simp;omega) ?_)
      intro v5 w5 ra Z rc rd
      obtain⟨o4,e2⟩:=Gj l0.o t2.o s9.o (by simp) ra Z
      obtain⟨g6,g5,z9⟩:=XQ ra
      subst z9
      have b4:=X1 (h5.o.pf e2 o4)
      have s5:=X1 (e2.nr s8.o)
      clear ra Z rc rd o4 e2
      go_wp2_with fail
      go_meet
      case rel=>exact⟨d,_,_,_,rfl,by simp,by simp,OL _,by omega,b4.o.ty (.refl _) (b4.o.gn.mono (by omega)),s5.o⟩
     .have k1:=X1 (h6.o.below (X5 _ _).drew)
      have k5:=X1 (e9.o.below (X5 _ _).drew)
      have a6:=k5.o
      have d0:=a6.1.cells rfl 0 _ rfl
      have d1:=a6.1.cells rfl 1 _ rfl
      have d2:=a6.1.cells rfl 2 _ rfl
      have d3:=a6.1.cells rfl 3 _ rfl
      have d4:=a6.1.cells rfl 4 _ rfl
      rw[Ye,Xn]at d0 d1 d2 d3 d4
      clear a6
      go_wp2_with fail
      go_region_law(first
       | (refine Wo rfl 147 (.tmp 59) (.tmp 60) (.const (.int .i64 1)) _ _ _ rfl (.pointer (some ⟨gb,0,none⟩)) (.int .i64 (P:Int)) (.int .i64 1) (by first|(simp[Act.eval];done)|simp[Act.eval,Act.put]) (by first|(simp[Act.eval];done)|simp[Act.eval,Act.put]) (by first|(simp[Act.eval];done)|simp[Act.eval,Act.put]) f147 func147 (by kernel_rfl) (by kernel_rfl) _ (UU gb rb vb n (h7.o _ _ _ _ k1.o.gn (by omega) (by omega))) ?_;intro v9 w9 h9;obtain⟨l9,a0,p9,m9,d9,a8⟩:=h9;obtain⟨i8,i6,j6⟩:=a0.form p9;subst j6;have i2:=X1 a0;have r8:=X1 (k1.o.ty a8 d9);have I:=k5.o.ty a8;have k7:=X1 I;have y0:=I.1.cells rfl 0 _ rfl;have y1:=I.1.cells rfl 1 _ rfl;have y2:=I.1.cells rfl 2 _ rfl;have y3:=I.1.cells rfl 3 _ rfl;have y4:=I.1.cells rfl 4 _ rfl;rw[Ye,Xn]at y0 y1 y2 y3 y4;have L:=I.below (bA (.cells #[.slice (some ⟨i8,0,none⟩) l9.length i6] 23));have u0:=L.1.cells rfl 0 _ rfl;have u1:=L.1.cells rfl 1 _ rfl;have u2:=L.1.cells rfl 2 _ rfl;have u3:=L.1.cells rfl 3 _ rfl;have u4:=L.1.cells rfl 4 _ rfl;rw[Ye,Xn]at u0 u1 u2 u3 u4;clear I L a0 d9 a8)
       | (refine KL rfl 80 (.tmp 58) (.tmp 62) _ _ rfl (ndV ⟨19,0,0,st,0⟩) (.slice (some ⟨w9.heap.size,0,none⟩) 1 1) (by unfold ndV;first|(simp[Act.eval];done)|simp[Act.eval,Act.put]) (by first|(simp[Act.eval];done)|simp[Act.eval,Act.put]) f80 func80 (by kernel_rfl) (by kernel_rfl) _ (V1 (ZY ⟨19,0,0,st,0⟩ [_] _ (w9.alloc _) 260 (pr1 i2.o p9) (by rw[fl1];omega) (by omega) (by simp) ⟨a1,by show(0:Int)<9223372036854775808;decide⟩)) ?_;intro v8 w8 h8;obtain⟨l8,j9,p8,m8,b8⟩:=h8;obtain⟨v4,v1,hv8⟩:=j9.form p8;subst hv8;have s7:=X1 j9;have a3:=X1 ((r8.o.below (bA _)).below b8);have k6:=X1 ((k7.o.below (bA _)).below b8);obtain⟨vs8,p4,q0⟩:=a3.o.pw;have l1:=X1 p4;have t3:=X1 q0;have hz8:=a3.o.tf.size;clear p4 q0 j9 b8)
       | (refine V7 rfl (.tmp 57) (.tmp 64) 138 rfl (w.heap.size) 23 iP _ 1 24 underlying138 hP j1 j0 i9 rfl (by decide) (.slice g4 ls.length g3) ls.length vs8 (by first|(simp[Act.eval];done)|simp[Act.eval,Act.put]) (l1.o.alloc _) ⟨w8.heap.size,0,none⟩ 1 1 [.slice (some ⟨v4,0,none⟩) l8.length v1] (by first|(simp[Act.eval];done)|simp[Act.eval,Act.put]) rfl (QD _ [_] _ _ rfl) (by simp[Value.oneCell']) (by unfold maxLen;omega) (by omega) (by simp;omega) ?_;intro v10 r5 ra Z rc rd;obtain⟨q8,q4,e3⟩:=XQ ra;subst e3;obtain⟨Y,H⟩:=Gj l1.o t3.o s7.o p8 ra Z;have a9:=X1 (a3.o.pf H Y);have b9:=X1 (H.nr k6.o);clear Y H ra Z rc rd))
      all_goals
       obtain⟨f0,f1,f2,f3,f4,f5⟩:=a9.o.cells
       have hwf:IntKind.i64.wrap (d+1)=d+1:=by rw[Yt];omega
       have g7:=X1 (a9.o.Y1w (d+1))
       have k3:Hid (NR (r5.setCell ⟨C,2,none⟩ (.int .i64 (d+1))) (.slice (some ⟨pb,0,none⟩) 1 1) [⟨19,0,0,st,0⟩]):=X1 ⟨Kc b9.o.1 (by rw[a9.o.fty];decide),b9.o.2⟩
       go_wp2_with fail
       go_meet
       case rel=>exact⟨d+1,_,_,_,rfl,p8,by omega,by omega,OL _,g7.o.ty (.refl _) (g7.o.gn.mono (by omega)),k3.o⟩
    case rest=>
     obtain⟨D,g8,c8,l8,rfl,n8,n9,hfa,hfb',a5,m2⟩:=hcut
     have a3:=X1 a5
     obtain⟨nv,nx,n1,n2,n3⟩:=a5.gn.nm
     obtain⟨p0,o9,j3⟩:=XQ n2
     subst j3
     have x3:=JN m2.1 rfl 3 _ rfl
     rw[Ye,Xn]at x3
     have z3:=J1 wc ⟨pb,3,none⟩ x3
     have V:BL wc wc.drew:=(X5 _ _).drew
     have z:BL wc (wc.alloc (.cells #[.string st,.int .i64 (P:Int)] 246)).drew:=(bA _).drew
     have X:=a5.gn.lt
     have Q:=X1 (a5.gn.below z)
     have n1d:wc.drew.cell? ⟨gb,1,none⟩=_:=(V.cell (p:=⟨gb,1,none⟩) X).trans n1
     have j8:(wc.alloc (.cells #[.string st,.int .i64 (P:Int)] 246)).drew.cell? ⟨gb,1,none⟩=_:=(z.cell (p:=⟨gb,1,none⟩) X).trans n1
     have x3d:wc.drew.cell? ⟨pb,3,none⟩=_:=(V.cell (p:=⟨pb,3,none⟩) z3).trans x3
     have J:=X1 (Qi n2 z)
     have a2:Hid (∀(j:Nat) (u:Value),([.string st,.int .i64 (P:Int)]:List Value)[j]?=some u->(wc.alloc (.cells #[.string st,.int .i64 (P:Int)] 246)).drew.cell? ((⟨wc.heap.size,0,none⟩:Addr).add j)=some u):=X1 (QD wc [.string st,.int .i64 (P:Int)] _ _ rfl)
     have HS:=X1 (n3.snoc n2.1 ⟨st,a1⟩ (P:Int))
     have W:Hid (Ty wc (wc.alloc (.cells #[.string st,.int .i64 (P:Int)] 246)).drew):=X1 (.of z)
     have a7:rb+1<=(wc.alloc (.cells #[.string st,.int .i64 (P:Int)] 246)).drew.heap.size:=by have:=a5.tf.size;have:=z.size;omega
     clear a5 m2 n1 n2 n3 x3 V z h6 e9
     go_upto_region 13 with fail
     go_cut[]from 31 to 93 (fun S=>DS gb rb vb n w C s F vf m ys (q+2+r.length*262+262) (k+r.length+1) D (.slice t r.length y) r (.slice g8 (ls.length+1) c8) (ls++[l8]) S)
     case first=>
      go_region_law(first
       | (refine V7 rfl (.tmp 79) (.tmp 84) 147 rfl (rb+1) 246 iN _ 2 24 underlying147 x8 y5 x9 x7 rfl (by decide) (.slice p0 (k+r.length) o9) (k+r.length) nx (by first|(simp[Act.eval];done)|simp[Act.eval,Act.put]) J.o ⟨wc.heap.size,0,none⟩ 1 1 [.string st,.int .i64 (P:Int)] (by first|(simp[Act.eval];done)|simp[Act.eval,Act.put]) rfl a2.o (by simp[Value.oneCell']) (by unfold maxLen;omega) (by omega) a7 ?_;intro v5 w5 r1 r2 r3 r4;have g2:some gb≠(Value.slice p0 (k+r.length) o9).ownBlock:=(fun e=>by have h1:=Q5 J.o e.symm;rw[Q.o.ty]at h1;cases h1);have q5:=(Xy (a:=⟨gb,1,none⟩) (r2.block gb Q.o.lt g2)).trans j8;have q6:=(KU (a:=⟨gb,1,none⟩) (r2.block gb Q.o.lt g2)).trans (Q.o.fr 1);obtain⟨g6,g5,e4⟩:=XQ r1;subst e4;have s3:=X1 (Q.o.push j8 r2 r1 HS.o (by omega));have t5:Hid (Ty wc (w5.setCell ⟨gb,1,none⟩ (.slice g6 (k+r.length+1) g5))):=X1 ((W.o.trans (.grown r2 (fun b hb=>by rw[Q5 J.o hb];exact .inr (.inr rfl)) (fun b hb=>by rw[Q5 J.o hb];decide) (fun b hb=>XO Q.o.lo (A2 (J.o.lt b hb).1)))).trans (.set (by rw[Q6 (r2.block gb Q.o.lt g2)];exact Q.o.V0) (by decide)));clear r1 r2 r3 r4 g2))
      all_goals
       go_wp2_with fail
       go_meet
       case rel=>exact a3.o.ty t5.o s3.o
     case rest=>
      have r9:=X1 hcut
      obtain⟨f0,f1,f2,f3,f4,f5⟩:=hcut.cells
      have BI:BL wc (wc.alloc (.cells #[.int .i64 (P:Int)] 3)):=bA _
      have b6:=X1 (hcut.below BI)
      have k8:=X1 (hcut.Jv.alloc (.cells #[.int .i64 (P:Int)] 3))
      have hsz:C<=(wc.alloc (.cells #[.int .i64 (P:Int)] 3)).heap.size:=by have:=b6.o.flt;omega
      clear hcut a3 Q J HS W a2 a7 n1d j8 x3d BI
      go_wp2_with(at_builtin;refine Yg _ rfl _ _ 55 rfl C 3 iI _ 1 8 underlying55 w3 x6 x5 v7 rfl (by decide) _ r.length (r.map (Value.int .i64)) rfl k8.o ⟨wc.heap.size,0,none⟩ 1 1 [.int .i64 (P:Int)] rfl rfl (QD _ [_] _ _ rfl) (by simp[Value.oneCell']) (by unfold maxLen;omega) (by omega) hsz ?_)
      intro v6 w6 r1 r2 r3 r4
      obtain⟨e1,j2⟩:=b6.o.grown (pvv':=v6) (ps':=r++[(P:Int)]) r2 (by rw[Xo,ZO];exact r1)
      obtain⟨q9,q7,hs6⟩:=XQ r1
      subst hs6
      have q1:=(Xy (a:=⟨C,1,none⟩) e1).trans b6.o.cells.2.1
      have q2:=(KU (a:=⟨C,1,none⟩) e1).trans b6.o.cells.2.2.2.2.1
      have i7:(r++[(P:Int)]).length=r.length+1:=by simp
      have K:Hid (DS gb rb vb n w C s F vf m ys (q+2+(r++[(P:Int)]).length*262) (k+(r++[(P:Int)]).length) D (.slice q9 (r.length+1) q7) (r++[(P:Int)]) (.slice g8 (ls.length+1) c8) (ls++[l8]) (w6.setCell ⟨C,1,none⟩ (.slice q9 (r.length+1) q7))):=X1 (by rw[i7];exact j2.ty (.refl _) (j2.gn.mono (by omega)))
      have e7:=X1 i7
      clear r1 r2 r3 r4 e1 j2 i7 r9 b6 k8 f0 f1 f2 f3 f4 f5
      go_wp2
      go_roundw
      case rel=>exact⟨i,D,_,r++[(P:Int)],ls++[l8],by omega,by go_num,by rw[e7.o];omega,by rw[e7.o,Xo,s4.o];rfl,by omega,by rw[e7.o];omega,by rw[e7.o,UA,Xo,fl1];omega,K.o⟩
      case measure=>simp[intOf]
