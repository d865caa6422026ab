import Derived.Test.YtaeafhenpjnhiaaGreatDoorE42
import Derived.RangeFuncNested
import Derived.RangeFuncBound
import Derived.RangeFuncCalls
import Derived.RangeFuncLeaves
import Derived.Shelf.Abstract
import Derived.Shelf.RegionOpen
import Derived.OwnWalkIn
import Derived.TacticsInMore
import Derived.LoopNIn
import Derived.LoopIn
import Derived.WalkMore
set_option maxHeartbeats 16000000
set_option maxRecDepth 100000
namespace Go.Proofs.YtaeafhenpjnhiaaGreatDoor
open Tryz Go.RowKit
theorem Y1k[LB](rb:Nat)(vb:Value)(n q:Nat)(l:List Nd)(w:World)(g c ob Q O xb k:Nat)(x0:Nd)(wc:World)(_hl:l.length<=300000)(_hq:q<=700000000)(_hl1:((l.length:Int)==0)=false)(_hlp:(0:Int)<(l.length:Int))(_hk:k<l.length)(_hrw:rb<w.heap.size)(a3:Hid (Sh l))(q7:Hid (SP rb vb n w (.l g l.length c) l w.heap.size (w.heap.size+1) ob (q+3) (.l Q l.length O) l wc))(q8:Hid (XN w xb (.l Q l.length O) x0 wc)){S s2 b6 b7 b8 b9 c0 c4 c5 c6 c7 c8 c9 d0 d1 d2 d3 d4 d5 d6 d7 d8 d9 e0 e4 e5 e6 u9 s5 s6 s7 s8 s9 t1 t3 t4 t5 t6 t7 t8 t9 u0 u1 u2 u3 u4 u5 u6 u7 u8 v0 v4 v5 v6 v7 v8 v9 w0 w4 w5 w6 w7 w8 w9 x1 x2 x3 x4 x5 x6 x7 x8 x9 y0 y1 y2 y3 y4 y5 y6 y7 y8 y9 z0 z1 z2 z3 z4 z5 z6 z7 z8 e9 f0 f1 f2 f3 f4 f5 f6 f7 f8 f9 g0 g1 g2 g4 g5 g6 g7 g8 g9 h1 h3 h4 h5 h6 h7 h8 h9 i0 i1 i2 i3 i4 i5 i6 i7 i8 i9 j0 j1 j2 j3 j4 j5 j6 j7 j8 j9 k0 k1 k2 k3 k4 k5 k6 k7 k8 k9 l0 l1 l2 l4 l5 l6 l7 l8 l9 m0 m1 m2 m3 m4 m5 m6 m7 m8 m9 n4 n5 n6 n7 n8 n9 o0 o4 o6 o7 o8 o9 p0 p3 p4 p5 p6 p7 p8 p9 q1 q2 q3 q5:Value}(J K':Act->World->Prop)(hJ:spJ rb vb n q l w g c ob Q O xb k S s2 b6 b7 b8 b9 c0 c4 c5 c6 c7 c8 c9 d0 d1 d2 d3 d4 d5 d6 d7 d8 d9 e0 e4 e5 e6 J)(hM:∀(a':Act) (w':World),Met J a' w'->K' a' w')(cc:Code)(b0:(f35.body.bind Ut)=some cc): Code.wp prog cc (Exit.then K' (bodyPost prog f35 fun e w'=>∃v' l',e= .returned (.agg #[v'])/\NR w' v' l'/\l'.length<=l.length+1/\Rq rb vb n (q+10) w'/\Tf w w')) {tmps:=#[.p rb,S,s2,.p w.heap.size,.p (w.heap.size+1),.p ob,.q (l.length:Int),.q (k:Int),.p xb,u9,s5,s6,s7,s8,b6,b7,b8,b9,c0,c4,c5,c6,c7,c8,c9,d0,d1,d2,d3,d4,d5,d6,d7,d8,d9,e0,e4,e5,e6,.q ((8:Nat):Int),s9,t1,t3,t4,t5,t6,t7,t8,t9,u0,u1,u2,u3,u4,u5,u6,u7,u8,v0,v4,v5,v6,v7,v8,v9,w0,w4,w5,w6,w7,w8,w9,x1,x2,x3,x4,x5,x6,x7,x8,x9,y0,y1,y2,y3,y4,y5,y6,y7,y8,y9,z0,z1,z2,z3,z4,z5,z6,z7,z8,e9,f0,f1,f2,f3,f4,f5,f6,f7,f8,f9,g0,g1,g2,g4,g5,g6,g7,g8,g9,h1,h3,h4,h5,h6,h7,h8,h9,i0,i1,i2,i3,i4,i5,i6,i7,i8,i9,j0,j1,j2,j3,j4,j5,j6,j7,j8,j9,k0,k1,k2,k3,k4,k5,k6,k7,k8,k9,l0,l1,l2,l4,l5,l6,l7,l8,l9,m0,m1,m2,m3,m4,m5,m6,m7,m8,m9,n4,n5,n6,n7,n8,n9,o0,o4,o6,o7,o8,o9,p0,p3,p4,p5,p6,p7,p8,p9,q1,q2,q3,q5],defers:=[]} wc:=by
 obtain⟨iN,K,M,L,I⟩:=YK Un;refine M8 (o:=f35.body.bind Ut) rfl ?_ cc b0;unfold spJ at hJ;clear b0;go_wp2_with fail;go_loopw[11,12,13] (fun tv _ _ wr=>∃i:Nat,i<=l.length/\tv= .q (i:Int)/\SP rb vb n w (.l g l.length c) l w.heap.size (w.heap.size+1) ob (q+3) (.l Q l.length O) l wr/\XN w xb (.l Q l.length O) x0 wr) (fun tv _ _ _=>l.length-(intOf tv).toNat)
 case atStart=>exact⟨0,Xb _,rfl,q7.o,q8.o⟩
 case round=>
  obtain⟨i,hi,rfl,a6,a8⟩:=hrel;have a:=X1 a6;have m:=X1 a8;clear a6 a8;by_cases hlt:i<l.length
  .have hlti:(i:Int)<(l.length:Int):=by omega
   have hj:(k+i)%l.length<l.length:=Wt _ (by omega);have e1:((k:Int)+(i:Int))%(l.length:Int)=(((k+i)%l.length:Nat):Int):=by simp
   have e2:((k:Int)+(i:Int)).tmod (l.length:Int)=(((k+i)%l.length:Nat):Int):=by rw[UY (by omega)];exact e1
   have e3:IntKind.i64.wrap ((k:Int)+(i:Int))=(k:Int)+(i:Int):=by rw[Yp];omega
   generalize(k+i)%l.length=j at *;have hjl:(j:Int)<(l.length:Int):=by omega
   have o5:=a.o.cells.2.2.1;have q0:=(a.o.node hj).1;have q4:=(a.o.node hj).2.2.2.2.1;generalize l[j].kind=kj at q0;generalize l[j].kids=cj at q4;go_upto_region 35 with fail;go_cut[172]from 147 to 194 (fun v wx=>∃b,v= .bool b/\SP rb vb n w (.l g l.length c) l w.heap.size (w.heap.size+1) ob (q+3) (.l Q l.length O) l wx/\XN w xb (.l Q l.length O) x0 wx)
   case first=>
    by_cases a4:kj=19
    .subst a4;by_cases a9:cj=0
     .subst a9;go_wp2_with fail;go_meet
      case rel=>exact⟨_,rfl,a.o,m.o⟩
     .have hcb:(cj==0)=false:=by simpa using a9
      go_wp2_with fail;go_meet
      case rel=>exact⟨_,rfl,a.o,m.o⟩
    .have z9:(kj==19)=false:=by simpa using a4
     go_wp2_with fail;go_meet
     case rel=>exact⟨_,rfl,a.o,m.o⟩
   case rest=>
    obtain⟨b,rfl,a5,a7⟩:=hcut;have y:=X1 a5;have q9:=X1 a7;clear a5 a7 a m q0 q4 o5;cases b
    .go_wp2;go_roundw
     case rel=>exact⟨i+1,by omega,by go_num,y.o,q9.o⟩
     case measure=>simp[intOf];omega
    .have BE:BL wc (wc.z #[] 64):=bA _;have A:=X1 (y.o.below BE);have tE:=A.o.cells.1;have a1:Hid ((wc.z #[] 64).ownsRow wc.heap.size 64 5 (.l wc.heap.size 0 0) 0 []):=X1 (Y4 (base:=wc.heap.size) (e:=64) (size:=5) wc #[] 0 (X5 _) (Xb _) rfl);have W:Hid (∀(i:Nat) (u:Value),(Xh (l.take j))[i]?=some u->(wc.z #[] 64).cell? ((⟨g,0,none⟩:Addr).add i)=some u):=X1 (fun i u hu=>JO A.o.src.1 rfl i u (by rw[WE l j hj];rw[Jt (I5.1 hu).1];exact hu));have hcl:l.length<=c:=(D9 A.o.src.1).1;have hcm:c<=9223372036854775807:=by have:=(D9 A.o.src.1).2;unfold maxLen at this;omega
     have hjc:j<=c:=by omega
     have hjc2:¬c=j:=by omega
     have hj0:(0:Int)<=(j:Int):=by omega
     have hjle:(j:Int)<=(l.length:Int):=by omega
     have r5:=Dd l j hj;have b5:=BE.size;have V:=X1 BE;clear BE;go_wp2_with(at_builtin;refine YY _ rfl _ _ 23 rfl wc.heap.size 64 iN _ 5 48 underlying23 K M L I rfl (by decide) _ 0 [] rfl a1.o ⟨g,0,none⟩ j c (Xh (l.take j)) rfl r5 W.o (VN _) (by unfold maxLen;omega) (by omega) b5 ?_);intro v1 w1 r1 r2 F r4;have B1:=V.o.grown r2 V.o.size (fun q e=>by cases e;exact X5 _);have Z:=X1 r1;obtain⟨p1,c1,r6⟩:=XA r1;subst r6;have s:=X1 B1;have b3:wc.heap.size<=(w1.z #[.q 1,.q 0,.q 0,.t #[],.q 0] 64).heap.size:=by have:=B1.size;simp;omega
     clear r1 r2 F r4 B1 a1 W;go_wp2_with(at_builtin;refine YY _ rfl _ _ 23 rfl wc.heap.size 64 iN _ 5 48 underlying23 K M L I rfl (by decide) _ j (Xh (l.take j)) rfl (Z.o.alloc _) ⟨w1.heap.size,0,none⟩ 1 1 [.q 1,.q 0,.q 0,.t #[],.q 0] rfl rfl (Qr _ [_,_,_,_,_] _ _ rfl) (by simp[Value.oneCell']) (by unfold maxLen;omega) (by omega) b3 ?_);intro v2 w2 S s2 s3 s4;have B2:=(s.o.alloc s.o.size (.cells #[.q 1,.q 0,.q 0,.t #[],.q 0] 64)).grown s2 (s.o.alloc s.o.size (.cells #[.q 1,.q 0,.q 0,.t #[],.q 0] 64)).size (fun q e=>(Z.o.lt q e).1);have a2:=X1 (y.o.below B2);have a0:=X1 S;obtain⟨p2,c2,r7⟩:=XA S;subst r7;have U:=X1 B2;have t2:=a2.o.cells.1;have b4:=B2.size;clear S s2 s3 s4 B2;go_wp2_with(at_builtin;refine YY _ rfl _ _ 23 rfl wc.heap.size 64 iN _ 5 48 underlying23 K M L I rfl (by decide) _ (j+1) _ rfl a0.o ⟨g,j*5,none⟩ (l.length-j) (c-j) (Xh (l.drop j)) rfl (by rw[DP,YC]) (fun i u hu=>SF a2.o.src.1 (by omega) i u hu) (VN _) (by unfold maxLen;omega) (by omega) b4 ?_);intro v3 w3 e7 e8 r9 s0;have B3:=U.o.grown e8 U.o.size (fun q e=>(a0.o.lt q e).1);have b1:(l.take j++[(⟨1,0,0,⟨#[]⟩,0⟩:Nd)]++l.drop j).length=j+1+(l.length-j):=by rw[Xj,Xj,YO,YC];simp only[XI,Ya];omega
     have F:w3.ownsRow wc.heap.size 64 5 v3 (l.take j++[(⟨1,0,0,⟨#[]⟩,0⟩:Nd)]++l.drop j).length (Xh (l.take j++[(⟨1,0,0,⟨#[]⟩,0⟩:Nd)]++l.drop j)):=by rw[b1,UN,UN,KL];exact e7
     have E:Sh (l.take j++[(⟨1,0,0,⟨#[]⟩,0⟩:Nd)]++l.drop j):=LM (LM (fun x hx=>a3.o x (Ue hx)) Y1b) (fun x hx=>a3.o x (Q8 hx));have C:=X1 E;generalize(l.take j++[(⟨1,0,0,⟨#[]⟩,0⟩:Nd)]++l.drop j)=r at *;have b2:r.length=l.length+1:=by omega
     obtain⟨H,c3,r8⟩:∃H c3,v3= .l H r.length c3:=by
      rcases F.2 with⟨_,h0⟩|⟨g',c',_,h2,_⟩
      .omega
      .exact⟨_,_,h2⟩
     subst r8;have N:j+1<r.length:=by omega
     have hj3i:(j:Int)+1<(r.length:Int):=by omega
     have hj3p:(0:Int)<=(j:Int)+1:=by omega
     have hwj:IntKind.i64.wrap ((j:Int)+1)=(j:Int)+1:=by rw[Yp];omega
     have cK:=Za F (BF r (j+1) N).2.2.2.2;have fK:=F.frozenAt ((j+1)*5+4);have r0:=(F.lt H rfl).1;have B:=X1 (y.o.below (B3.setCell (p:=⟨H,(j+1)*5+4,none⟩) r0 (.q 1)));have q6:Hid (NR (w3.setCell ⟨H,(j+1)*5+4,none⟩ (.q 1)) (.l H r.length c3) (r.set (j+1) {r[j+1]with kids:=1})):=X1 ⟨by rw[Wp];exact Qo (Y0g 1 N F) (Xb _),Py C.o (C.o r[j+1] (YJ N))⟩;have X:=X1 b2;clear e7 e8 r9 s0 B3 F b1 E b2;have d:=X1 (B.o.ret q6.o);obtain⟨_,t0,_,ft,_⟩:=B.o.cells;go_wp2;exact Xq (v:= .agg #[.l H r.length c3]) (by simp[results,results35,go_sem,t0]) rfl (by first|exact⟨_,_,rfl,d.o.1,(by rw[Wp];have:=X.o;omega),d.o.2.1.mono (by omega),d.o.2.2⟩|exact⟨_,rfl,_,d.o.1,(by rw[Wp];have:=X.o;omega),d.o.2.1.mono (by omega),d.o.2.2⟩)
  .have hnl:¬(i:Int)<(l.length:Int):=by omega
   go_wp2_with fail;go_meet
   case rel=>exact⟨x0,a.o.mono (by omega),m.o⟩
theorem FA(l:List UInt8):Sc.ZM l=Sc.bad 2\/∃m,Sc.ZM l=⟨0,5,m,0,m.length⟩/\1<=m.length/\m <+: l:=by
 unfold Sc.ZM;cases h:Sc.marks.find? (fun m=>m.isPrefixOf l)with
 | none=>exact .inl rfl
 | some m=>exact .inr ⟨m,rfl,(Sc.OF m (List.mem_of_find?_eq_some h)).1,V0.1 (by simpa using List.find?_some h)⟩
theorem Xfp(s:ByteArray)(w:World)(H:s.size<=1048576)(y:0<s.size): CB 103 #[.string s] w (J4 (Sc.ZM s.data.toList)):=by
 have a:=fun w=>X9m s w y;rcases FA s.data.toList with d|⟨m,hm,E,n⟩
 .have g:=X1 d;rw[d]at a;have a:∀w,CS 124 #[.string s] w (.q 0):=a;have j:=X1 a;clear a d;go_enter func103,ntmps103;go_wp2_with(go_at_call 124;go_fit(j.o _);rintro e w'⟨rfl,rfl⟩);refine Xq (v:= .tuple #[.agg #[.q 0,.t #[],.q 0,.q 0],.q 0,.q 2]) (by simp[results,results103,go_sem]) rfl ⟨by rw[Um g.o (by decide)];rfl,?_⟩;exact bA _
 .have g:=X1 hm;rw[hm]at a;have a:∀w,CS 124 #[.string s] w (.q m.length):=a;have j:=X1 a;have r:(s.extract 0 m.length).data.toList=m:=by
   rw[Lib.extract_data,Nat.sub_zero,Kh];exact(List.prefix_iff_eq_take.1 n).symm
  have u:=X1 r;have B:m.length<=s.size:=by have:=n.length_le;simpa using this
  have hne:((m.length:Int)==0)=false:=by rw[UM];omega
  clear a hm n r;go_enter func103,ntmps103;go_wp2_with(first|(go_at_call 124;go_fit(j.o _);rintro e w'⟨rfl,rfl⟩)|(go_at_call 122;go_fit(OM 5 _ _ ?_)))
  .simp;omega
  .rintro e C⟨rfl,d⟩;obtain⟨A,F⟩:=Qd d;have k:BL w C:=(bA _).trans (d.mono (by simp));go_wp2;refine Xq (v:= .tuple #[.agg #[.q 5,.string (s.extract 0 m.length),.q 0,.q 0],.q m.length,.q 0]) (by simp[results,results103,go_sem,A]) rfl ⟨by rw[VS g.o,DY u.o];rfl,?_⟩;exact Zu k (X5 _)
abbrev O33:Obj:= .cells #[.q 0,.t #[],.q 0,.q 0] 101
theorem Ta{w wr:World}(h:Below (w.heap.size+1) (w.alloc O33) wr): (wr.cell? ⟨w.heap.size,0,none⟩=some (.q 0)/\wr.cell? ⟨w.heap.size,1,none⟩=some (.t #[])/\wr.cell? ⟨w.heap.size,2,none⟩=some (.q 0)/\wr.cell? ⟨w.heap.size,3,none⟩=some (.q 0))/\(wr.frozen? ⟨w.heap.size,0,none⟩=false/\wr.frozen? ⟨w.heap.size,1,none⟩=false/\wr.frozen? ⟨w.heap.size,2,none⟩=false/\wr.frozen? ⟨w.heap.size,3,none⟩=false):=by
 have a:=(h.block w.heap.size (Q9 _)).trans (YV w O33);simp only[World.cell?,World.frozen?,a];simp
theorem Sn{B:Nat}{w wr g:World}{t:List UInt8}{c:UInt8}{v v':Value}{o:Obj}(d:wr.ownsRow B 5 1 v t.length (Sc.bytesOf t))(m:Below B w wr)(n:B<=wr.heap.size)(a:g.ownsRow B 5 1 v' (t.length+1) (Sc.bytesOf t++[.int .u8 c.toNat]))(j:(wr.alloc o).grownBy g v.ownBlock): g.ownsRow B 5 1 v' (t++[c]).length (Sc.bytesOf (t++[c]))/\Below B w g/\B<=g.heap.size:=by
 refine⟨by rw[Sc.Sv,Xj];exact a,(m.alloc n _).grown j (by simp;omega) (fun k e=>(d.lt k e).1),?_⟩;have:=j.size;simp at this;omega
theorem CM{w:World}{B n:Nat}{v:Value}{d:List Value}(h:w.ownsRow B 5 1 v n d):(v= .slice none 0 0/\n=0)\/∃g cap,v= .l g n cap:=by
 rcases h.2 with h|⟨g,cap,_,a,_⟩
 .exact .inl h
 .exact .inr ⟨g,cap,a⟩
theorem TD(w:World):(convert 22 9 (.slice none 0 0)).run prog w= .ok (.t #[]) w:=run_convert_bytes_nil (P:=prog) w 22 5 underlying22 underlying5 0 0 9 underlying9
theorem Fw(s:ByteArray)(j:Nat)(h:j+2<s.size):Ul ((s.extract (j+1) s.size).data.toList)=if Sc.XZ s[j+1]<0\/Sc.XZ s[j+2]<0 then .tuple #[.int .u8 0,.bool false]else .tuple #[.int .u8 (Sc.XZ s[j+1]*(16:Int)+Sc.XZ s[j+2]),.bool true]:=by
 have e:(s.extract (j+1) s.size).data.toList=s[j+1]::s[j+2]::s.data.toList.drop (j+3):=by
  rw[Lib.extract_data,I8 (by simp),Sc.drop_cons s (j+1) (by omega),Sc.drop_cons s (j+2) (by omega)]
 rw[e];rfl
theorem Fx(s:ByteArray)(j:Nat)(h:s.size<=j+2):Ul ((s.extract (j+1) s.size).data.toList)= .tuple #[.int .u8 0,.bool false]:=by
 have e:((s.extract (j+1) s.size).data.toList).length<2:=by simp;omega
 match hl:(s.extract (j+1) s.size).data.toList,e with
 | [],_=>rfl
 | [_],_=>rfl
theorem Xfs(s:ByteArray)(w:World)(hs:s.size<=1048576)(h0:0<s.size): CB 102 #[.string s] w (J4 (Sc.KZ s.data.toList)):=by
 obtain⟨i0,hi,a7,a8,a9⟩:=YK AS;have O:s.data.toList.tail=s.data.toList.drop 1:=by simp
 have ho:Sc.KZ s.data.toList=match Sc.unq (s.data.toList.drop 1)with
  | none=>Sc.bad 4
  | some p=>if 1000<p.1.length then Sc.bad 5 else⟨0,4,p.1,0,p.2+1⟩:=by unfold Sc.KZ;rw[O];rfl
 have K:=X1 ho;have u:=fun j=>X2k (s.extract (j+1) s.size);have S:=X1 u;clear O ho u;go_enter func102,ntmps102;go_wp2
 go_loopw[5,6] (fun v i wr=>∃(j:Nat) (t:List UInt8),1<=j/\j<=s.size/\i= .q j/\wr.ownsRow (w.heap.size+1) 5 1 v t.length (Sc.bytesOf t)/\Below (w.heap.size+1) (w.alloc O33) wr/\w.heap.size+1<=wr.heap.size/\t.length<=j/\
   Sc.unq (s.data.toList.drop 1)=(Sc.unq (s.data.toList.drop j)).map fun p=>(t++p.1,p.2+(j-1))) (fun _ i _=>s.size-(intOf i).toNat)
 case atStart=>
  exact⟨1,[],X5 _,h0,rfl,K7 _ _ _ _,X8 _ _,by simp,Xb _,by simp⟩
 case round=>
  obtain⟨j,t,b4,hj,rfl,a,hB,a1,O,he⟩:=hrel;have I:=X1 he;clear he;obtain⟨⟨B,C,E,F⟩,f0,f1,f2,f3⟩:=Ta hB;have W:BL w wr:=(bA _).trans (hB.mono (by omega));have m:=X1 W;clear W;by_cases a0:j<s.size
  .have X:=X1 (Sc.drop_cons s j a0);cases U:((s[j].toNat:Int)==34)
   .have J:Hid (s[j].toNat≠34):=by simp at U;exact X1 (by omega)
    cases V:((s[j].toNat:Int)==92)
    .have n:Hid (s[j].toNat≠92):=by simp at V;exact X1 (by omega)
     by_cases b5:(s[j].toNat:Int)<32
     .have r:Hid (Sc.KZ s.data.toList=Sc.bad 4):=X1 (by rw[K.o,I.o,X.o,Sc.M5 _ J.o n.o (.inl (by omega))];rfl);go_wp2;refine Xq (v:= .tuple #[.agg #[.q 0,.t #[],.q 0,.q 0],.q 0,.q 4]) (by simp[results,results102,go_sem,B,C,E,F]) rfl ⟨by rw[Um r.o (by decide)];rfl,?_⟩;exact Zu m.o (X5 _)
     .by_cases b3:126<(s[j].toNat:Int)
      .have r:Hid (Sc.KZ s.data.toList=Sc.bad 4):=X1 (by rw[K.o,I.o,X.o,Sc.M5 _ J.o n.o (.inr (by omega))];rfl);go_wp2;refine Xq (v:= .tuple #[.agg #[.q 0,.t #[],.q 0,.q 0],.q 0,.q 4]) (by simp[results,results102,go_sem,B,C,E,F]) rfl ⟨by rw[Um r.o (by decide)];rfl,?_⟩;exact Zu m.o (X5 _)
      .go_wp2_with(first|(at_builtin;refine Vr _ rfl _ _ 22 rfl (w.heap.size+1) 5 i0 (.int .u8 0) 1 1 underlying22 hi a7 a8 a9 rfl (by decide) _ _ _ rfl (a.alloc _) ⟨wr.heap.size,0,none⟩ 1 1 [.int .u8 s[j].toNat] rfl rfl (cell_one_new _ _ _) (by simp[Value.oneCell']) ?_ ?_ ?_ ?_))
       .unfold maxLen;omega
       .omega
       .first|omega|(simp;omega)
       .intro v' w1 d k _;obtain⟨M,L,N⟩:=Sn a hB a1 d k;clear d k a B C E F f0 f1 f2 f3;go_wp2;go_roundw
        case rel=>
         refine⟨j+1,t++[s[j]],by omega,by omega,by go_num,M,L,N,by simp;omega,?_⟩;rw[I.o,X.o,Sc.EA _ J.o n.o (by omega),Option.map_map];congr 1;funext p;simp;omega
        case measure=>simp[intOf];omega
    .have n:Hid (s[j].toNat=92):=by simp at V;exact X1 (by omega)
     by_cases h2:s.size<=j+2
     .have r:Hid (Sc.KZ s.data.toList=Sc.bad 4):=X1 (by rw[K.o,I.o,X.o,Sc.Ez _ n.o (by simp;omega)];rfl);have u:=S.o j;rw[Fx s j h2]at u;have Q:=X1 (fun w=>u w (by simp;omega));clear u;go_wp2_with(go_at_call 123;go_fit(Q.o _);rintro e w'⟨rfl,rfl⟩);refine Xq (v:= .tuple #[.agg #[.q 0,.t #[],.q 0,.q 0],.q 0,.q 4]) (by simp[results,results102,go_sem,B,C,E,F]) rfl ⟨by rw[Um r.o (by decide)];rfl,?_⟩;exact Zu m.o (X5 _)
     .have Z:=X1 (show s.data.toList.drop j=s[j]::s[j+1]::s[j+2]::s.data.toList.drop (j+3) by rw[Sc.drop_cons s j a0,Sc.drop_cons s (j+1) (by omega),Sc.drop_cons s (j+2) (by omega)]);have u:=S.o j;rw[Fw s j (by omega)]at u;obtain⟨a3,a4⟩:=Sc.WO s[j+1];obtain⟨a5,a6⟩:=Sc.WO s[j+2];by_cases H:Sc.XZ s[j+1]<0\/Sc.XZ s[j+2]<0
      .have r:Hid (Sc.KZ s.data.toList=Sc.bad 4):=X1 (by rw[K.o,I.o,Z.o,Sc.R6 _ n.o H];rfl);rw[Xa H]at u;have Q:=X1 (fun w=>u w (by simp;omega));clear u H;go_wp2_with(go_at_call 123;go_fit(Q.o _);rintro e w'⟨rfl,rfl⟩);refine Xq (v:= .tuple #[.agg #[.q 0,.t #[],.q 0,.q 0],.q 0,.q 4]) (by simp[results,results102,go_sem,B,C,E,F]) rfl ⟨by rw[Um r.o (by decide)];rfl,?_⟩;exact Zu m.o (X5 _)
      .rw[X6 H]at u;have Q:=X1 (fun w=>u w (by simp;omega));have HU:=X1 (Sc.Ey (s.data.toList.drop (j+3)) n.o (x:=s[j+1]) (y:=s[j+2]) (by omega) (by omega));have b1:0<=Sc.XZ s[j+1]:=by omega
       have b2:0<=Sc.XZ s[j+2]:=by omega
       clear u H a3 a5;go_wp2_with(first|(go_at_call 123;go_fit(Q.o _);rintro e w'⟨rfl,a2⟩;rw[a2];clear a2)|(at_builtin;refine Vr _ rfl _ _ 22 rfl (w.heap.size+1) 5 i0 (.int .u8 0) 1 1 underlying22 hi a7 a8 a9 rfl (by decide) _ _ _ rfl (a.alloc _) ⟨wr.heap.size,0,none⟩ 1 1 [.int .u8 (Sc.XZ s[j+1]*(16:Int)+Sc.XZ s[j+2])] rfl rfl (cell_one_new _ _ _) (by simp[Value.oneCell']) ?_ ?_ ?_ ?_))
       .unfold maxLen;omega
       .omega
       .first|omega|(simp;omega)
       .intro v' w1 d k _;rw[show Sc.XZ s[j+1]*(16:Int)+Sc.XZ s[j+2]=16*Sc.XZ s[j+1]+Sc.XZ s[j+2]from by omega,←AH b1 a4 b2 a6]at d
        obtain⟨M,L,N⟩:=Sn a hB a1 d k;clear d k a B C E F f0 f1 f2 f3;go_wp2;go_roundw
        case rel=>
         refine⟨j+3,_,by omega,by omega,by go_num,M,L,N,by simp;omega,?_⟩;rw[I.o,Z.o,HU.o,Option.map_map];congr 1;funext p;simp;omega
        case measure=>simp[intOf];omega
   .have HU:Hid (Sc.unq (s.data.toList.drop 1)=some (t,j)):=X1 (by rw[I.o,X.o,Sc.Ex _ (by simp at U;omega)];simp;omega);by_cases hl:1000<t.length
    .have r:Hid (Sc.KZ s.data.toList=Sc.bad 5):=X1 (by rw[K.o,HU.o];simp only;rw[Xa hl]);rcases CM a with⟨A,H⟩|⟨g,cap,A⟩
     .omega
     .rw[A];rw[A]at a;clear A;go_wp2;refine Xq (v:= .tuple #[.agg #[.q 0,.t #[],.q 0,.q 0],.q 0,.q 5]) (by simp[results,results102,go_sem,B,C,E,F]) rfl ⟨by rw[Um r.o (by decide)];rfl,?_⟩;exact Zu m.o (X5 _)
    .have r:Hid (Sc.KZ s.data.toList=⟨0,4,t,0,j+1⟩):=X1 (by rw[K.o,HU.o];simp only;rw[X6 hl]);rcases CM a with⟨A,H⟩|⟨g,cap,A⟩
     .have ht:t=[]:=Qx H;subst ht;rw[A];have b0:=TD wr;clear A H hl a;go_wp2;refine Xq (v:= .tuple #[.agg #[.q 4,.t #[],.q 0,.q 0],.q ((j:Int)+1),.q 0]) (by simp[results,results102,go_sem,B,C,E,F]) rfl ⟨by rw[VS r.o];rfl,?_⟩;exact Zu m.o (X5 _)
     .rw[A];rw[A]at a;have b0:=SM a;clear A;go_wp2;refine Xq (v:= .tuple #[.agg #[.q 4,.string ⟨t.toArray⟩,.q 0,.q 0],.q ((j:Int)+1),.q 0]) (by simp[results,results102,go_sem,B,C,E,F]) rfl ⟨by rw[VS r.o];rfl,?_⟩;exact Zu m.o (X5 _)
  .have r:Hid (Sc.KZ s.data.toList=Sc.bad 4):=X1 (by rw[K.o,I.o,YI (i:=j) (by simp;omega)];rfl);go_wp2;refine Xq (v:= .tuple #[.agg #[.q 0,.t #[],.q 0,.q 0],.q 0,.q 4]) (by simp[results,results102,go_sem,B,C,E,F]) rfl ⟨by rw[Um r.o (by decide)];rfl,?_⟩;exact Zu m.o (X5 _)
theorem X3h(r:Sc.R):∃(kd:Int) (tx:ByteArray) (n d a:Int),J4 r= .tuple #[.agg #[.q kd,.string tx,.q n,.q 0],.q d,.q a]:=by
 unfold J4;split<;>exact⟨_,_,_,_,_,rfl⟩
theorem Xft(s:ByteArray)(b:Nat)(w:World)(J:s.size<=1048576)(y:0<s.size)(L:Zy w)(hm:w.ownsMap (H:=Unit) prog 9 unitElem b 17 Sc.Q6): CB 80 #[.string s,.map (some b)] w (J4 (Sc.one s.data.toList)):=by
 have m:Zy (w.alloc O33):=L.below (bA _) L.2.2;have r:=hm.alloc O33;obtain⟨kd,tx,n,I,F,a⟩:=X3h (Sc.one s.data.toList);cases C:Sc.dig s[0]
 .have E:Sc.nm s[0]=Sc.beg s[0]:=by simp[Sc.nm,C]
  cases d:Sc.beg s[0]
  .rw[d]at E;cases M:((s[0].toNat:Int)==34)
   .have k:Sc.one s.data.toList=Sc.ZM s.data.toList:=by simpa using RQ s 0 y C d (by simp at M;omega)
    have g:=Xfp s (w.alloc O33) J y;rw[k]at a⊢;rw[a]at g⊢;have u:=X1 g;clear g a k m r;go_enter func80,ntmps80;go_wp2_with(first|(go_at_call 96;go_fit(VR _ _);rintro e w'⟨rfl,rfl⟩)|(go_at_call 94;go_fit(UR _ _);rintro e w'⟨rfl,rfl⟩)|(go_at_call 103;go_fit u.o;rintro e B⟨rfl,d⟩;obtain⟨A,K⟩:=Qd d));have j:BL w B:=(bA _).trans (d.mono (by simp));refine Xq (v:= .tuple #[.agg #[.q kd,.string tx,.q n,.q 0],.q I,.q F]) (by simp[results,results80,go_sem,A]) rfl ⟨rfl,?_⟩;exact Zu j (X5 _)
   .have k:Sc.one s.data.toList=Sc.KZ s.data.toList:=by simpa using RU s 0 y C d (by simp at M;omega)
    have g:=Xfs s (w.alloc O33) J y;rw[k]at a⊢;rw[a]at g⊢;have u:=X1 g;clear g a k m r;go_enter func80,ntmps80;go_wp2_with(first|(go_at_call 96;go_fit(VR _ _);rintro e w'⟨rfl,rfl⟩)|(go_at_call 94;go_fit(UR _ _);rintro e w'⟨rfl,rfl⟩)|(go_at_call 102;go_fit u.o;rintro e B⟨rfl,d⟩;obtain⟨A,K⟩:=Qd d));have j:BL w B:=(bA _).trans (d.mono (by simp));refine Xq (v:= .tuple #[.agg #[.q kd,.string tx,.q n,.q 0],.q I,.q F]) (by simp[results,results80,go_sem,A]) rfl ⟨rfl,?_⟩;exact Zu j (X5 _)
  .rw[d]at E;have k:Sc.one s.data.toList=Sc.Kx s.data.toList:=by simpa using RR s 0 y C d
   have g:=Xfq s b (w.alloc O33) J r;rw[k]at a⊢;rw[a]at g⊢;have u:=X1 g;clear g a k m r;go_enter func80,ntmps80;go_wp2_with(first|(go_at_call 96;go_fit(VR _ _);rintro e w'⟨rfl,rfl⟩)|(go_at_call 94;go_fit(UR _ _);rintro e w'⟨rfl,rfl⟩)|(go_at_call 101;go_fit u.o;rintro e B⟨rfl,d⟩;obtain⟨A,K⟩:=Qd d));have j:BL w B:=(bA _).trans (d.mono (by simp));refine Xq (v:= .tuple #[.agg #[.q kd,.string tx,.q n,.q 0],.q I,.q F]) (by simp[results,results80,go_sem,A]) rfl ⟨rfl,?_⟩;exact Zu j (X5 _)
 .have k:Sc.one s.data.toList=Sc.ZV s.data.toList:=by simpa using RT s 0 y C
  have g:=Xfr s (w.alloc O33) J y C m;rw[k]at a⊢;rw[a]at g⊢;have u:=X1 g;clear g a k m r;go_enter func80,ntmps80;go_wp2_with(first|(go_at_call 96;go_fit(VR _ _);rintro e w'⟨rfl,rfl⟩)|(go_at_call 94;go_fit(UR _ _);rintro e w'⟨rfl,rfl⟩)|(go_at_call 100;go_fit u.o;rintro e B⟨rfl,d⟩;obtain⟨A,K⟩:=Qd d));have j:BL w B:=(bA _).trans (d.mono (by simp));refine Xq (v:= .tuple #[.agg #[.q kd,.string tx,.q n,.q 0],.q I,.q F]) (by simp[results,results80,go_sem,A]) rfl ⟨rfl,?_⟩;exact Zu j (X5 _)
open Go.Shelf
attribute [local go_sem] Oper.semAt_some
namespace Sc
abbrev Y:=T × Nat
def DX(x:Y):Array Value:=#[.agg #[.q x.1.kind,.string ⟨x.1.text.toArray⟩,.q x.1.n,.q x.1.place],.q x.2]
def Da(p:List T × Nat × Nat):List Y:=p.1.map (fun t=>(t,0))++if p.2.1=0 then[]else[(⟨0,[],0,p.2.2⟩,p.2.1)]
def seq(l:List UInt8)(k:Nat):List Y:=Da (from_ l k)
theorem Y0w(l:List UInt8)(k:Nat)(h:l.length<=k+Xl false (l.drop k)):seq l k=[]:=by unfold seq;rw[As l k h];rfl
theorem Y0u(l:List UInt8)(k:Nat)(g:k<l.length)(d:Xl false (l.drop k)=0)(a:(one (l.drop k)).code≠0):seq l k=[(⟨0,[],0,k⟩,(one (l.drop k)).code)]:=by
 unfold seq;rw[Ar l k g d a];simp[Da,a]
theorem Y0y(l:List UInt8)(k:Nat)(g:k<l.length)(d:Xl false (l.drop k)=0)(a:(one (l.drop k)).code=0): seq l k=(⟨(one (l.drop k)).kind,(one (l.drop k)).text,(one (l.drop k)).n,k⟩,0)::seq l (k+(one (l.drop k)).size):=by
 unfold seq;rw[Au l k g d a];simp[Da]
theorem E4(l:List UInt8)(k k':Nat)(h:k+Xl false (l.drop k)=k'+Xl false (l.drop k')):seq l k=seq l k':=by
 have a:∀k,seq l k=seq l (k+Xl false (l.drop k)):=by
  intro k;have d:Xl false (l.drop (k+Xl false (l.drop k)))=0:=by have:=G6 false (l.drop k);rwa[Ub]at this
  unfold seq;rw[←O3 l k d]
 rw[a k,a k',h]
theorem Ab(s:ByteArray)(k:Nat):(s.extract k s.size).data.toList=s.data.toList.drop k:=by
 rw[Lib.extract_data,I8 (by simp)]
end Sc
theorem IB{A B:World}(h:BL A B):A.grownBy B none:=⟨h.os,h.tape,h.output,h.size,fun k a _=>h.block k a⟩
theorem X6a(s:ByteArray)(w:World):Calls prog 48 #[.string s] w fun e w'=>e= .returned (.func (.func 78) #[] #[.p w.heap.size])/\w'=w.alloc (.cells #[.string s] 9):=by
 go_enter func48,ntmps48;go_wp2;go_ret;exact⟨rfl,rfl⟩
theorem Bu{P:Program}{A B:World}{b n:Nat}{D:DataW Unit}(hm:A.ownsMap P 9 unitElem b n D)(h:KeepsWalks A B):B.ownsMap P 9 unitElem b n D:=by
 obtain⟨d,a,g,r⟩:=hm;exact⟨d,a,h.same _ _ g rfl,r⟩
theorem NU{A B:World}(h:BL A B):KeepsWalks A B:=KeepsWalks.of_grownBy (IB h) (fun _ _ e=>by cases e)
theorem Y4o:((0:Nat):Int)=0:=rfl
def Kp(n₀ Bn:Nat)(A B:World):Prop:=Below n₀ A B/\KeepsWalks A B/\B.heap[Bn]?=A.heap[Bn]?
theorem X0f(n:Nat)(hn:3<=n)(l L n₀:Nat)(s:ByteArray)(hs:s.size<=8000)(J Jx:List Sc.Y->World->Prop)(W:World)(hJ:AbidesFrom W.heap.size J)(hY:∀d x W1,J d W1->d.length<s.size+1->YieldAt Fence.wide (n-1) prog l (Sc.DX x) W1 fun e W'=>(e= .returned (.bool true)/\J (d++[x]) W'/\Kp n₀ L W1 W')\/(e= .returned (.bool false)/\Jx (d++[x]) W'))(c6:L<W.heap.size)(h2:3<n₀)(d0:n₀<=W.heap.size)(b9:W.cell? ⟨L,0,none⟩=some (.string s))(hG:Zy W)(h0:J [] W): CallsIn Fence.wide n prog 78 #[.func (.yield l) #[] #[],.p L] W fun e W'=>(∃v,e= .returned v)/\((∃ys,ys=Sc.seq s.data.toList 0/\J ys W')\/(∃d,d <+: Sc.seq s.data.toList 0/\Jx d W')):=by
 have hfw:∀f,Fence.wide.fn f:=fun _=>trivial;have c9:1<=n:=by omega
 refine callsIn_of_wp func78 rfl trivial ?_ rfl;simp only[ntmps78,List.size_toArray,XI,Ya,Nat.reduceAdd,Nat.reduceSub,Array.replicate_succ,Array.replicate_zero,List.push_toArray,List.append_toArray,JJ,Ux];refine wpIn_wide.2 (wp_scope_straight ((wpIn_wide (n:=n)).1 ?_))
 gi_wp2_with (gi_at_call 14;refine(callsIn_wide.2 (M7 _)).mono ?_;rintro e w1⟨rfl,hm,M⟩)
 apply wpIn_label
 gi_wp2
 gi_loopw [4] (fun t wr=>∃(k:Nat) (d:List Sc.Y),k<=s.size/\t= .q k/\Sc.seq s.data.toList 0=d++Sc.seq s.data.toList k/\J d wr/\wr.cell? ⟨L,0,none⟩=some (.string s)/\wr.ownsMap (H:=Unit) prog 9 unitElem W.heap.size 17 Sc.Q6/\Zy wr/\d.length<=k/\W.heap.size<=wr.heap.size)
  (fun t _=>s.size-(intOf t).toNat)
 case atStart=>
  exact⟨0,[],Xb _,rfl,rfl,hJ _ _ _ none h0 (IB M) (fun r e=>by cases e),(M.cell (p:=⟨L,0,none⟩) (by show L<_;omega)).trans b9,hm,hG.below M (by omega),Xb _,M.size⟩
 case round=>
  obtain⟨k,d,hk,rfl,hx,Z,c0,b0,a6,c3,c5⟩:=hrel;obtain⟨wo,rfl⟩:∃wo:World,wo=wr:=⟨_,rfl⟩;have HX:=X1 hx;clear hx
  gi_wp2
  gi_loopw [4] (fun t w2=>∃j:Nat,k<=j/\j<=s.size/\t= .q j/\k+Sc.Xl false (s.data.toList.drop k)=j+Sc.Xl false (s.data.toList.drop j)/\w2=wo) (fun t _=>s.size-(intOf t).toNat)
  case atStart=>exact⟨k,X5 _,hk,rfl,rfl,rfl⟩
  case round=>
   obtain⟨j,c8,hj,rfl,a8,rfl⟩:=hrel;have U:=X1 a8;clear a8;by_cases C:j=s.size
   .have he:((j:Int)==(s.size:Int))=true:=by simp[C]
    have a3:=X1 C;clear C
    gi_wp2
    rw[Exit.noGoto_normal];go_end0;refine⟨⟨_,rfl⟩,.inl ⟨d,?_,Z⟩⟩;have h1:=a3.o;have h2:=U.o;rw[HX.o,Sc.E4 _ k j h2,Sc.Y0w _ j (by simp;omega),JW]
   .have he:((j:Int)==(s.size:Int))=false:=by simp;omega
    have a9:j<s.size:=by omega
    have c2:(s.extract j s.size).size=s.size-j:=by simp
    have O:=X1r (s.extract j s.size) wr (by omega);rw[Sc.Ab]at O;have I:=Ft (s.data.toList.drop j);have a1:=Fs (s.data.toList.drop j);have a2:=Fu (s.data.toList.drop j);simp only[YC,JG]at I;have a7:s.data.size=s.size:=rfl;generalize JL (s.data.toList.drop j)=gs at O I a1 a2;rw[a7]at I;have a4:=X1 O;have b7:=X1 a1;have b8:=X1 a2;clear O a1 a2 a7 c2;by_cases Q:gs=0
    .have c1:((gs:Int)==0)=true:=by simp[Q]
     have b6:=X1 Q;clear Q
     gi_wp2_with (gi_at_call 79;refine(callsIn_wide.2 a4.o).mono ?_;rintro e w3⟨rfl,K⟩;rw[K];clear K)
     have u:Sc.Xl false (s.data.toList.drop j)=0:=b8.o b6.o;have S:Sc.seq s.data.toList 0=d++Sc.seq s.data.toList j:=by rw[HX.o,Sc.E4 _ k j U.o]
     have hR:=Xft (s.extract j s.size) W.heap.size wr (by simp;omega) (by simp;omega) a6 b0;rw[Sc.Ab]at hR;by_cases g:(Sc.one (s.data.toList.drop j)).code=0
     .have b1:=Sc.Vj _ g;have E:=Sc.Y0y s.data.toList j (by simpa using a9) u g;have e:J4 (Sc.one (s.data.toList.drop j))= .tuple #[.agg #[.q (Sc.one (s.data.toList.drop j)).kind,.string ⟨(Sc.one (s.data.toList.drop j)).text.toArray⟩,.q (Sc.one (s.data.toList.drop j)).n,.q 0],.q (Sc.one (s.data.toList.drop j)).size,.q 0]:=by
       unfold J4;rw[Xa g]
      rw[e]at hR;clear e g;generalize Sc.one (s.data.toList.drop j)=r at *;simp only[YC,JG]at b1;obtain⟨c4,b2⟩:=b1;have b3:j+r.size<=s.size:=by have:s.data.size=s.size:=rfl;omega
      have HR:=X1 hR;have y:=X1 E;have A:=X1 S;clear hR E S b2 u I
      gi_wp2_with (gi_at_call 80;refine(callsIn_wide.2 HR.o).mono ?_;rintro e w1⟨rfl,M⟩;have V:J d (w1.alloc (.cells #[.q r.kind,.string ⟨r.text.toArray⟩,.q r.n,.q j] 101)):=hJ _ _ _ none (hJ _ _ _ none Z (IB M) (fun r e=>by cases e)) (World.grownBy_alloc w1 _ none) (fun r e=>by cases e);obtain⟨fn,b4,N,a5,hy,a0⟩:=hY d (⟨r.kind,r.text,r.n,j⟩,0) _ V (by omega);simp only[Sc.DX,Y4o]at hy)
      refine a0.mono (?_);rintro e W3 (⟨rfl,X,F⟩|⟨rfl,B⟩)
      .have m:BL wr (w1.alloc (.cells #[.q r.kind,.string ⟨r.text.toArray⟩,.q r.n,.q j] 101)):=M.alloc M.size _;have b5:=X1 m;clear m
       gi_wp2
       go_roundw
       case rel=>
        have m:=b5.o;refine⟨j+r.size,d++[(⟨r.kind,r.text,r.n,j⟩,0)],b3,by go_num,?_,X,?_,?_,?_,by simp;omega,?_⟩
        .rw[A.o,y.o];simp
        .exact(XQ (a:=⟨L,0,none⟩) F.2.2).trans ((m.cell (p:=⟨L,0,none⟩) (by show L<_;omega)).trans c0)
        .exact Bu (Bu b0 (NU m)) F.2.1
        .exact(a6.below m (by omega)).below F.1 h2
        .have:=F.1.size;have:=m.size;omega
       case measure=>simp[intOf];omega
      .gi_wp2
       rw[Exit.noGoto_normal];go_end0;exact⟨⟨_,rfl⟩,.inr ⟨_,⟨Sc.seq s.data.toList (j+r.size),by rw[A.o,y.o];simp⟩,B⟩⟩
     .have E:=Sc.Y0u s.data.toList j (by simpa using a9) u g;have e:J4 (Sc.one (s.data.toList.drop j))= .tuple #[.agg #[.q 0,.t #[],.q 0,.q 0],.q 0,.q (Sc.one (s.data.toList.drop j)).code]:=by
       unfold J4;rw[X6 g]
      rw[e]at hR;have c7:(((Sc.one (s.data.toList.drop j)).code:Int)!=0)=true:=by simp[g]
      clear e g;generalize Sc.one (s.data.toList.drop j)=r at *;have HR:=X1 hR;have y:=X1 E;have A:=X1 S;clear hR E S u I
      gi_wp2_with (gi_at_call 80;refine(callsIn_wide.2 HR.o).mono ?_;rintro e w1⟨rfl,M⟩;have V:J d (w1.alloc (.cells #[.q 0,.t #[],.q 0,.q j] 101)):=hJ _ _ _ none (hJ _ _ _ none Z (IB M) (fun r e=>by cases e)) (World.grownBy_alloc w1 _ none) (fun r e=>by cases e);obtain⟨fn,b4,N,a5,hy,a0⟩:=hY d (⟨0,[],0,j⟩,r.code) _ V (by omega);simp only[Sc.DX,Y4o]at hy)
      refine a0.mono (?_);rintro e W3 (⟨rfl,X,F⟩|⟨rfl,B⟩)
      .gi_wp2
       rw[Exit.noGoto_normal];go_end0;exact⟨⟨_,rfl⟩,.inl ⟨_,by rw[A.o,y.o],X⟩⟩
      .gi_wp2
       rw[Exit.noGoto_normal];go_end0;exact⟨⟨_,rfl⟩,.inr ⟨_,⟨[],by rw[A.o,y.o];simp⟩,B⟩⟩
    .have c1:((gs:Int)==0)=false:=by simp[Q]
     gi_wp2_with (gi_at_call 79;refine(callsIn_wide.2 a4.o).mono ?_;rintro e w3⟨rfl,K⟩;rw[K];clear K)
     go_roundw
     case rel=>
      refine⟨j+gs,by omega,by omega,by go_num,?_,by first|rfl|trivial⟩;have e:=b7.o;rw[Ub]at e;have:=U.o;omega
     case measure=>simp[intOf];omega
theorem X0h(n:Nat)(E:3<=n)(a k:Nat)(s:ByteArray)(F:s.size<=8000)(w:World)(d:a<w.heap.size)(u:3<k)(g:k<=w.heap.size)(m:w.cell? ⟨a,0,none⟩=some (.string s))(A:Zy w): SeqStopsK Fence.wide n prog 78 #[.p a] Sc.DX (Kp k a) (fun H=>H=Sc.seq s.data.toList 0) (fun r=>r <+: Sc.seq s.data.toList 0) (s.size+1) w:=fun l J v W j B _ C y=>
 X0f n E l a k s F J v W B C (XH d j.size) u (Xz g j.size) ((j.cell (p:=⟨a,0,none⟩) d).trans m) (A.below j (XH u g)) y
