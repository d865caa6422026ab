import Derived.Test.YtaeafhenpjnhiaaGreatDoorE38
import Derived.Test.YtaeafhenpjnhiaaGreatDoorE39
set_option maxHeartbeats 8000000
set_option maxRecDepth 100000
namespace Go.Proofs.YtaeafhenpjnhiaaGreatDoor
open Tryz Go.RowKit
section
open Rb
def Rb.prn(ns:List Nd):ByteArray:=if YG ns=true/\(txt (root ns)).length<=8000 then⟨(txt (root ns)).toArray⟩else⟨#[]⟩
theorem Rb.GI{ns:List Nd}(h:YG ns=false):prn ns=⟨#[]⟩:=by unfold prn;rw[X6 (by rw[h];simp)]
theorem Rb.PT{ns:List Nd}{S:ByteArray}(h:S.data.toList=txt (root ns)):S.size=(txt (root ns)).length/\S=⟨(txt (root ns)).toArray⟩:=by
 rw[←h];exact⟨Array.length_toList.symm,by simp⟩
theorem Rb.Cl{ns:List Nd}{S:ByteArray}(h:S.data.toList=txt (root ns))(a:(8000:Int)<(S.size:Int)):prn ns=⟨#[]⟩:=by
 unfold prn;rw[X6 (fun e=>by have:=(PT h).1;omega)]
theorem Rb.Cj{ns:List Nd}{S:ByteArray}(a:YG ns=true)(h:S.data.toList=txt (root ns))(d:¬(8000:Int)<(S.size:Int)):prn ns=S:=by
 unfold prn;have:=(PT h).1;rw[Xa ⟨a,by omega⟩];exact(PT h).2.symm
theorem Cg(ns:List Nd)(r tc:Nat)(w:World)(hn:ns.length<=1048576)(V:K1 w r ns)(hN:∀x∈ns,x.n<=9223372036854775807): CB 6 #[.agg #[.l r ns.length tc]] w (.string (prn ns)):=by
 have HN:=X1 hN;clear hN;have r1:BL w (w.z #[.l r ns.length tc] 25):=bA _;have B:=X1 (R9 ns r tc _ hn (V.below r1));have HT:=X1 V;clear V;cases v:YG ns
 .rw[v]at B;rw[GI v];go_enter func6,ntmps6;go_wp2_with fail;go_fit B.o;rintro e W⟨rfl,u⟩;go_wp2;go_ret;exact⟨rfl,r1.trans (u.mono r1.size)⟩
 .rw[v]at B;have a0:1<=ns.length/\ns.length<=5000:=by
   have h:=v;unfold YG at h;simp only[XE]at h;have:=KP h.1.1.1;omega
  have C:=X1 v;have c0:(w.z #[.l r ns.length tc] 25).cell? ⟨w.heap.size,0,none⟩=some (.l r ns.length tc):=by simp
  clear v;go_enter func6,ntmps6;go_wp2_with fail;go_fit B.o;rintro e W⟨rfl,u⟩;have t0:=(u.cell (p:=⟨w.heap.size,0,none⟩) (by simp)).trans c0;have K:=r1.trans (u.mono r1.size);have Q:w.heap.size<W.heap.size:=by have:=u.size;simp at this;omega
  have HK:=X1 (Ot ns r tc W hn (HT.o.below K));clear u c0 B;go_wp2_with fail;go_fit HK.o;rintro e I⟨E,N,vs,rfl,j,m,J⟩;have t1:=(J.cell (p:=⟨w.heap.size,0,none⟩) Q).trans t0;have L:=K.trans (J.mono K.size);have U:w.heap.size<I.heap.size:=by have:=J.size;omega
  have y:BL I (I.z #[.l r ns.length tc,.l E (YF ns).length N] 53):=bA _;have s:Hid (Ink (I.z #[.l r ns.length tc,.l E (YF ns).length N] 53) I.heap.size r tc E N ns (YF ns)):=X1 (by
   have O:=(j.lt E rfl).2;refine⟨by simp,by simp,by simp,(HT.o.below L).below y,by simp;omega,fun k hk=>?_⟩;obtain⟨g,c,a,_,_,_,d,e⟩:=m.2 k hk;refine⟨g,c,?_,d.below y,e⟩;exact(y.cell (p:=⟨E,k,none⟩) O).trans ((j.cellAt k (by omega)).trans a))
  obtain⟨S,hS,H,F⟩:=X5a s.o C.o HN.o;have A:=X1 H;clear H;have t2:=(y.cell (p:=⟨w.heap.size,0,none⟩) U).trans t1;have HS:=X1 (F _ (X8 _ _));have X:=L.trans (y.mono L.size);have el:IntKind.i64.wrap ((ns.length:Int)-1)=((ns.length-1:Nat):Int):=by rw[Yp];omega
  clear F s j m J HK y t0;go_wp2_with fail;go_fit HS.o;rintro e w4⟨rfl,b4⟩;have Z:=X.trans (b4.mono X.size);clear b4 HS t1 t2;by_cases h8:(8000:Int)<(S.size:Int)
  .have M:=X1 (Cl A.o h8);go_wp2;go_ret;exact⟨by have:=M.o;simp[this],Z⟩
  .have M:=X1 (Cj C.o A.o h8);go_wp2;go_ret;exact⟨by have:=M.o;simp[this],Z⟩
theorem NR.num{w:World}{v:Value}{l:List Nd}(h:NR w v l):∀x∈l,x.n<=9223372036854775807:=fun x a=>by have:=(h.2 x a).2;omega
theorem Xez(v:Value)(l:List Nd)(w:World)(h:NR w v l)(a:l.length<=1048576):CB 6 #[.agg #[v]] w (.string (prn l)):=by
 rcases h.Tn with⟨rfl,rfl⟩|⟨g,c,rfl,d⟩
 .rw[GI rfl];exact Ci w
 .exact Cg l g c w a d h.num
theorem Rb.Pg(l:List Nd):(prn l).size<=8000:=by
 unfold prn;split
 .rename_i h;show(txt (root l)).toArray.size<=_;rw[List.size_toArray];exact h.2
 .exact Xb _
theorem Xfa(v:Value)(l:List Nd)(w:World)(h:NR w v l)(d:l.length<=1048576):Calls prog 6 #[.agg #[v]] w fun e w'=>∃s:ByteArray,e= .returned (.string s)/\s.size<=8000/\Below w.heap.size w w':=(Xez v l w h d).mono fun _ _ ⟨a,b⟩=>⟨_,a,Pg l,b⟩
end
theorem Ym[LB]{α:Type}{l:List α}{n:Nat}(h:l.length=n+1):∃x t,l=x::t/\t.length=n:=by
 cases l with
 | nil=>cases h
 | cons x t=>exact⟨x,t,rfl,by simpa using h⟩
theorem NM[LB]{xs:Array Value}(h:xs.size=48):∃x0 x1 x2 x3 x4 x5 x6 x7 x8 x9 a d g j k m r s u v y A B C E F H I J K L M N O Q S U V W X Z a0 a1 a2 a3 a4 a5 a6,xs=#[x0,x1,x2,x3,x4,x5,x6,x7,x8,x9,a,d,g,j,k,m,r,s,u,v,y,A,B,C,E,F,H,I,J,K,L,M,N,O,Q,S,U,V,W,X,Z,a0,a1,a2,a3,a4,a5,a6]:=by
 obtain⟨l⟩:=xs;have h:l.length=48:=h;obtain⟨x0,l0,rfl,h0⟩:=Ym h;obtain⟨x1,l1,rfl,h1⟩:=Ym h0;obtain⟨x2,l2,rfl,h2⟩:=Ym h1;obtain⟨x3,l3,rfl,h3⟩:=Ym h2;obtain⟨x4,l4,rfl,h4⟩:=Ym h3;obtain⟨x5,l5,rfl,h5⟩:=Ym h4;obtain⟨x6,l6,rfl,h6⟩:=Ym h5;obtain⟨x7,l7,rfl,h7⟩:=Ym h6;obtain⟨x8,l8,rfl,h8⟩:=Ym h7;obtain⟨x9,l9,rfl,h9⟩:=Ym h8;obtain⟨a,e5,rfl,a7⟩:=Ym h9;obtain⟨d,e6,rfl,a8⟩:=Ym a7;obtain⟨g,e7,rfl,a9⟩:=Ym a8;obtain⟨j,e8,rfl,b0⟩:=Ym a9;obtain⟨k,e9,rfl,b1⟩:=Ym b0;obtain⟨m,f0,rfl,b2⟩:=Ym b1;obtain⟨r,f1,rfl,b3⟩:=Ym b2;obtain⟨s,f2,rfl,b4⟩:=Ym b3;obtain⟨u,f3,rfl,b5⟩:=Ym b4;obtain⟨v,f4,rfl,b6⟩:=Ym b5;obtain⟨y,f5,rfl,b7⟩:=Ym b6;obtain⟨A,f6,rfl,b8⟩:=Ym b7;obtain⟨B,f7,rfl,b9⟩:=Ym b8;obtain⟨C,f8,rfl,c0⟩:=Ym b9;obtain⟨E,f9,rfl,c1⟩:=Ym c0;obtain⟨F,g0,rfl,c2⟩:=Ym c1;obtain⟨H,g1,rfl,c3⟩:=Ym c2;obtain⟨I,g2,rfl,c4⟩:=Ym c3;obtain⟨J,g3,rfl,c5⟩:=Ym c4;obtain⟨K,g4,rfl,c6⟩:=Ym c5;obtain⟨L,g5,rfl,c7⟩:=Ym c6;obtain⟨M,g6,rfl,c8⟩:=Ym c7;obtain⟨N,g7,rfl,c9⟩:=Ym c8;obtain⟨O,g8,rfl,d0⟩:=Ym c9;obtain⟨Q,g9,rfl,d1⟩:=Ym d0;obtain⟨S,i0,rfl,d2⟩:=Ym d1;obtain⟨U,i1,rfl,d3⟩:=Ym d2;obtain⟨V,i2,rfl,d4⟩:=Ym d3;obtain⟨W,i3,rfl,d5⟩:=Ym d4;obtain⟨X,i4,rfl,d6⟩:=Ym d5;obtain⟨Z,i5,rfl,d7⟩:=Ym d6;obtain⟨a0,i6,rfl,d8⟩:=Ym d7;obtain⟨a1,i7,rfl,d9⟩:=Ym d8;obtain⟨a2,i8,rfl,e0⟩:=Ym d9;obtain⟨a3,i9,rfl,e1⟩:=Ym e0;obtain⟨a4,j0,rfl,e2⟩:=Ym e1;obtain⟨a5,j1,rfl,e3⟩:=Ym e2;obtain⟨a6,j2,rfl,e4⟩:=Ym e3;obtain rfl:=Uy.1 e4;exact⟨x0,x1,x2,x3,x4,x5,x6,x7,x8,x9,a,d,g,j,k,m,r,s,u,v,y,A,B,C,E,F,H,I,J,K,L,M,N,O,Q,S,U,V,W,X,Z,a0,a1,a2,a3,a4,a5,a6,rfl⟩
variable (gb rb:Nat) (vb:Value) (n:Nat)
theorem Cy[LB](d kd:Nat)(HE:EAt gb rb vb n d kd)(c2:kd<=1000000):DB gb rb vb n d kd:=fun q k w h hq hk=>by
 have d5:IntKind.i64.wrap (d:Int)=(d:Int):=by rw[Yp];omega
 have c6:rb<w.heap.size:=Ic h.up h.lt
 have b0:BL w (w.alloc (.cells #[] 23)):=bA _
 have m:=X1 (h.below b0)
 have c0:=m.o.c0
 have E:Hid (Ty w (w.alloc (.cells #[] 23))):=X1 (.of b0)
 have A:=X1 (PW.new (B:=w.heap.size) w (X5 _))
 have HE:=X1 HE
 clear h b0
 go_enter func138,ntmps138
 go_wp2_with fail
 go_fit(Gn.pick m.o (by omega) 4 (by omega) (by omega))
 rintro e w0⟨z0,d7,rfl,W,u⟩
 have a3:=X1 W
 have b4:=X1 (E.o.trans u)
 have a9:=X1 (A.o.ty u)
 clear W u m E A c0
 go_wp2_with fail
 go_loopw[5,6] (fun sv tv wr=>∃(i qq:Nat) (ls:List (List Nd)),i<=3/\tv= .q (i:Int)/\ls.length+i<=3/\ls.flatten.length+i*(kd+1)<=3*(kd+1)/\qq+i*(kd+2)<=q+1+3*(kd+2)/\PW w.heap.size wr sv ls/\Gn gb rb vb n qq k wr/\Ty w wr) (fun _ tv _=>(intOf tv).toNat)
 case atStart=>exact⟨z0,q+1,[],by omega,rfl,by simp;omega,by simp only[Rn,Ya,Xu];exact Vz _ (by omega),Nat.add_le_add_left (Vz _ (by omega)) _,a9.o,a3.o,b4.o⟩
 case round=>
  obtain⟨i,qq,ls,r,rfl,s,j,g,V,hG,hT⟩:=hrel
  have C:=X1 V
  have y:=X1 hG
  have F:=X1 hT
  have d4:=hT.size
  obtain⟨f3,a0,_⟩:=V
  obtain⟨f0,e5,c4⟩:=XA a0
  subst c4
  have c0:=hG.c0
  clear hG hT a0
  match i,r,s,j,g with
  | 0,r,s,j,g=>
   have HO:=X1 (ZW ⟨9,0,0,⟨#[]⟩,0⟩ ls _ _ (3*kd+3) C.o.pr (by omega) (by omega) (by omega))
   unfold ndV at HO
   go_wp2_with fail
   go_fit HO.o
   rintro e7 w7⟨v7,l7,rfl,v,p7,m7,b7⟩
   obtain⟨g7,c7,c8⟩:=v.form p7
   subst c8
   have a6:=X1 (y.o.below b7)
   have b6:=X1 (F.o.trans (.of b7))
   have a8:=X1 v
   clear b7 v
   go_wp2
   go_ret
   exact⟨_,_,rfl,a8.o,p7,by omega,a6.o.mono (by omega),b6.o⟩
  | i+1,r,s,j,g=>
   have d3:qq+kd+10<=700000000:=by rw[Ws,Ie]at g;omega
   have a2:=X1 j
   have b3:=X1 g
   clear j g
   have ei:((i+1:Nat):Int)=(i:Int)+1:=by omega
   rw[ei]
   have c1:i<3:=by omega
   have d0:(i:Int)<3:=by omega
   have c3:ls.length<=3:=by omega
   have d6:IntKind.i64.wrap (i:Int)=(i:Int):=by rw[Yp];omega
   have d1:(0:Int)<(i:Int)+1:=by omega
   have a7:=X1 (y.o.below ((X8 _ _).drew))
   have b8:=X1 (F.o.trans (.of ((X8 _ _).drew)))
   have b2:=X1 (C.o.below ((X8 _ _).drew))
   go_wp2_with fail
   refine wp_region_any (by kernel_rfl) ?_
   refine Xfv (gb:=gb) (rb:=rb) (vb:=vb) (n:=n) (W0:=w) (qq:=qq) (k:=k) (kd:=kd) (d:=d) (i:=i) (ls:=ls) ?_ ?_ ?_ ?_ ?_ ?_ ?_ ?_ ?_ ?_ ?_ ?_ ?_ ?_ ?_ ?_ ?_ ?_ ?_ ?_ ?_ ?_ ?_ ?_ ?_ ?_ ?_ ?_ ?_ rfl ?_ ?_ ?_ ?_ ?_ ?_ ?_ ?_ ?_ ?_ ?_ ?_ ?_ ?_ ?_ ?_ ?_ ?_ ?_ ?_ ?_ ?_ ?_ ?_ ?_ ?_ ?_ ?_ ?_ ?_ HE.o c2 (by omega) (by omega) c1 c3 c6 rfl rfl rfl rfl ?_ rfl b8.o b2.o a7.o
   any_goals first|exact⟨_,rfl,rfl,rfl,rfl⟩|kernel_rfl
   intro a5 w5 h5
   obtain⟨H,b9,a,l5,p5,d8,d9,X,Z⟩:=h5
   obtain⟨j5,d2⟩:=a5
   obtain⟨x0,x1,x2,x3,x4,x5,x6,x7,x8,x9,f5,f6,f7,f8,f9,g0,g1,g2,g3,g4,g5,g6,g8,g9,h0,h1,h2,h3,h4,h6,h7,h8,h9,i0,i1,i2,i3,i4,i5,i6,i7,i8,i9,j0,j1,j2,j3,j4,c9⟩:=NM H
   subst c9
   obtain rfl:=b9
   have e0:=a 0 (by decide) (by decide)
   simp only[Qf,Kq,ZO]at e0
   subst e0
   have e1:=a 1 (by decide) (by decide)
   simp only[Qf,Kq,ZZ,ZO]at e1
   subst e1
   have e2:=a 2 (by decide) (by decide)
   simp only[Qf,Kq,ZZ,ZO]at e2
   subst e2
   have e3:=a 3 (by decide) (by decide)
   simp only[Qf,Kq,ZZ,ZO]at e3
   subst e3
   have e4:=a 4 (by decide) (by decide)
   simp only[Qf,Kq,ZZ,ZO]at e4
   subst e4
   have e6:=a 6 (by decide) (by decide)
   simp only[Qf,Kq,ZZ,ZO]at e6
   subst e6
   have e7:=a 7 (by decide) (by decide)
   simp only[Qf,Kq,ZZ,ZO]at e7
   subst e7
   have e8:=a 8 (by decide) (by decide)
   simp only[Qf,Kq,ZZ,ZO]at e8
   subst e8
   have e9:=a 9 (by decide) (by decide)
   simp only[Qf,Kq,ZZ,ZO]at e9
   subst e9
   have I:=a 10 (by decide) (by decide)
   simp only[Qf,Kq,ZZ,ZO]at I
   subst I
   have J:=a 11 (by decide) (by decide)
   simp only[Qf,Kq,ZZ,ZO]at J
   subst J
   have K:=a 12 (by decide) (by decide)
   simp only[Qf,Kq,ZZ,ZO]at K
   subst K
   have L:=a 13 (by decide) (by decide)
   simp only[Qf,Kq,ZZ,ZO]at L
   subst L
   have M:=a 14 (by decide) (by decide)
   simp only[Qf,Kq,ZZ,ZO]at M
   subst M
   have N:=a 15 (by decide) (by decide)
   simp only[Qf,Kq,ZZ,ZO]at N
   subst N
   have O:=a 16 (by decide) (by decide)
   simp only[Qf,Kq,ZZ,ZO]at O
   subst O
   have Q:=a 45 (by decide) (by decide)
   simp only[Qf,Kq,ZZ,ZO]at Q
   subst Q
   have S:=a 46 (by decide) (by decide)
   simp only[Qf,Kq,ZZ,ZO]at S
   subst S
   have U:=a 47 (by decide) (by decide)
   simp only[Qf,Kq,ZZ,ZO]at U
   subst U
   have p5:PW w.heap.size w5 x5 (ls++[l5]):=p5
   have b1:=X1 p5
   have a4:=X1 X
   have b5:=X1 Z
   obtain⟨f4,a1,_⟩:=p5
   obtain⟨f2,f1,c5⟩:=XA a1
   subst c5
   clear a1 X Z a H
   go_wp2
   go_roundw
   case rel=>exact⟨i,qq+(2+kd),_,by omega,by go_num,by rw[Xj];simp only[XI,Ya];omega,by have:=a2.o;rw[Ws,Ie]at this;rw[Uc,Xj,fl1];omega,by have:=b3.o;rw[Ws,Ie]at this;omega,b1.o,a4.o,b5.o⟩
   case measure=>simp[intOf]
variable {K:Nat->Prop} {w0:World} {ob:Nat} {m v0:Value} {wS:World} {v:Value} {t:List UInt8} {w:World}
theorem X6c(B:KpW K w0 ob v w)(O:PtR ob m v t w)(k o n c:Int)(s:ByteArray)(g j:Nat)(T:TypeId)(x:Value)(b:List UInt8)(r:Int)(a:List Value)(u:List (List UInt8))(Z:a.length+1<=j)(hn:t.length+(rkB r 8 b).length+(jn u a.length).length+2<=90000000)(d:KD w0 K ob m (.iface T x::a) (b::u) g 0)(M:Rkd w0 K ob (.iface T x) r):Calls prog 218 #[.agg #[.q k,.q o,.q n,.string s,.q c,.l g (a.length+1) j],.p ob] w fun e w'=>Wd ob m v t (rkB r 8 b++40::(jn u a.length++[41])) w e w':=by
 have I:=X1 (WS.box B O (.cells #[.q k,.q o,.q n,.string s,.q c,.l g (a.length+1) j] 140));have y:=X1 (d.box B (.cells #[.q k,.q o,.q n,.string s,.q c,.l g (a.length+1) j] 140));have V:=X1 (M.box B (.cells #[.q k,.q o,.q n,.string s,.q c,.l g (a.length+1) j] 140));clear B O d M;have U:=X1 (y.o.rk I.o 0 (by simp) rfl b rfl r 8 V.o (by omega));have c0:(w.alloc (.cells #[.q k,.q o,.q n,.string s,.q c,.l g (a.length+1) j] 140)).cell? ⟨g,0,none⟩=some (.iface T x):=(I.o.kp.cell (y.o.gk (by simp)) 0).trans (y.o.ce 0 (by simp));go_enter func218,ntmps218;go_wp2_with fail;go_fit U.o;rintro e w1⟨rfl,v1,F⟩;have W:w1.cell? ⟨w.heap.size,5,none⟩=some (.l g (a.length+1) j):=(F.kp.cell (.inr (.inl rfl)) 5).trans (by simp);have C:=X1 (F.put ⟨#[40]⟩ (by rw[Xj];show _+1<=_;omega));clear F;go_wp2_with fail;go_fit C.o;rintro e H⟨rfl,v2,A⟩;have X:H.cell? ⟨w.heap.size,5,none⟩=some (.l g (a.length+1) j):=(A.kp.cell (.inr (.inl rfl)) 5).trans (by simp);clear W;have q:Calls prog 211 #[.p ob,.slice (some ⟨g,1,none⟩) a.length (j-1)] H fun e w'=>WP (fun q=>K q\/q=w.heap.size\/q=w.heap.size) (w.alloc (.cells #[.q k,.q o,.q n,.string s,.q c,.l g (a.length+1) j] 140)) ob m v w (t++rkB r 8 b++[40]++jn u a.length) e w':=(y.o.drop 1).row A _ (.inr rfl) (j-1) (by rw[Xj,Xj];show _+1+(jn u a.length).length<=_;omega);have q0:j=1->Calls prog 211 #[.p ob,.l g a.length 0] H fun e w'=>WP (fun q=>K q\/q=w.heap.size\/q=w.heap.size) (w.alloc (.cells #[.q k,.q o,.q n,.string s,.q c,.l g (a.length+1) j] 140)) ob m v w (t++rkB r 8 b++[40]++jn u a.length) e w':=by
  intro hc;obtain rfl:a=[]:=Qx (by omega);exact(y.o.take 0).row A _ (.inl rfl) 0 (by rw[Xj,Xj];show _+1+0<=_;omega)
 have Q:=X1 q;have S:=X1 q0;clear q q0 A;go_wp2_with fail;case' inr=>go_fit Q.o
 case' inl=>go_fit(S.o (by first|assumption|omega))
 all_goals
  rintro e w3⟨rfl,v3,L⟩;have E:=X1 (L.put ⟨#[41]⟩ (by rw[Xj,Xj,Xj];show _+1+(jn u a.length).length+1<=_;omega));clear L;go_wp2_with fail;go_fit E.o;rintro e w4⟨rfl,vT,N⟩;have J:=X1 N;clear N;go_wp2;refine Xw ?_;exact⟨rfl,vT,by have:=J.o.pr;simpa using this,J.o.gr⟩
variable {K:Nat->Prop} {w0:World} {ob:Nat} {m v0:Value} {wS:World} {v:Value} {t:List UInt8} {w:World}
theorem X6o(A:KpW K w0 ob v w)(L:PtR ob m v t w)(k o n c:Int)(s:ByteArray)(g a:Nat)(T:TypeId)(x:Value)(b:List UInt8)(r:Int)(u:Value)(j:List UInt8)(S:2<=a)(X:t.length+(rkB r 8 b).length+j.length+2<=90000000)(d:KD w0 K ob m ([.iface T x,u]) ([b,j]) g 0)(I:Rkd w0 K ob (.iface T x) r):Calls prog 214 #[.agg #[.q k,.q o,.q n,.string s,.q c,.l g 2 a],.p ob] w fun e w'=>Wd ob m v t (rkB r 8 b++91::(j++[93])) w e w':=by
 have F:=X1 (WS.box A L (.cells #[.q k,.q o,.q n,.string s,.q c,.l g 2 a] 138));have y:=X1 (d.box A (.cells #[.q k,.q o,.q n,.string s,.q c,.l g 2 a] 138));have O:=X1 (I.box A (.cells #[.q k,.q o,.q n,.string s,.q c,.l g 2 a] 138));clear A L d I;have M:=X1 (y.o.rk F.o 0 (by simp) rfl b rfl r 8 O.o (by omega));have V:(w.z #[.q k,.q o,.q n,.string s,.q c,.l g 2 a] 138).cell? ⟨g,0,none⟩=some (.iface T x):=(F.o.kp.cell (y.o.gk (by simp)) 0).trans (y.o.ce 0 (by simp));go_enter func214,ntmps214;go_wp2_with fail;go_fit M.o;rintro e E⟨rfl,Z,C⟩;have W:E.cell? ⟨w.heap.size,5,none⟩=some (.l g 2 a):=(C.kp.cell (.inr (.inl rfl)) 5).trans (by simp);have B:wv [⟨#[91]⟩,⟨#[93]⟩] [j] 1 2=91::(j++[93]):=by simp[wv]
 have q:Calls prog 206 #[.p ob,.slice (some ⟨g,1,none⟩) 1 (a-1),.l E.heap.size 2 2] (E.z #[.t #[91],.t #[93]] 9) fun e w'=>WP (fun q=>K q\/q=w.heap.size\/q=w.heap.size) (w.z #[.q k,.q o,.q n,.string s,.q c,.l g 2 a] 138) ob m v w (t++rkB r 8 b++91::(j++[93])) e w':=by
  rw[←B];exact(y.o.drop 1).Jo C (by simp) (a-1) [⟨#[91]⟩,⟨#[93]⟩] (by simp) (by show _+(wv [⟨#[91]⟩,⟨#[93]⟩] [j] 1 2).length<=_;rw[B];simp;omega)
 have N:=X1 q;clear q C B;have Q:¬a=1:=by omega
 go_wp2_with fail;go_fit N.o;rintro e w2⟨rfl,U,J⟩;have H:=X1 J;clear J;go_wp2;refine Xw ?_;exact⟨rfl,U,by have:=H.o.pr;simpa[wv]using this,H.o.gr⟩
theorem X6y(j:KpW K w0 ob v w)(r:PtR ob m v t w)(k o n c:Int)(s:ByteArray)(p:Option Addr)(a:Nat)(E:t.length+s.size+0<=90000000):Calls prog 234 #[.agg #[.q k,.q o,.q n,.string s,.q c,.slice p 0 a],.p ob] w (Wd ob m v t (s.data.toList) w):=by
 have y:=X1 (WS.box j r (.cells #[.q k,.q o,.q n,.string s,.q c,.slice p 0 a] 147));clear j r;have u:=X1 (y.o.put s (by omega));go_enter func234,ntmps234;go_wp2_with fail;go_fit u.o;rintro e B⟨rfl,A,d⟩;have C:B.cell? ⟨w.heap.size,5,none⟩=some (.slice p 0 a):=(d.kp.cell (.inr (.inl rfl)) 5).trans (by simp);have g:=X1 d;clear d;go_wp2;refine Xw ?_;exact⟨rfl,A,by have:=g.o.pr;simpa[wv]using this,g.o.gr⟩
theorem X6z(y:KpW K w0 ob v w)(E:PtR ob m v t w)(k o n c:Int)(s:ByteArray)(g a:Nat)(u:Value)(b:List UInt8)(d:KD w0 K ob m [u] [b] g 0)(N:t.length+s.size+b.length+3<=90000000):Calls prog 234 #[.agg #[.q k,.q o,.q n,.string s,.q c,.l g 1 a],.p ob] w (Wd ob m v t (s.data.toList++32::61::32::b) w):=by
 have J:=X1 (WS.box y E (.cells #[.q k,.q o,.q n,.string s,.q c,.l g 1 a] 147));have F:=X1 (d.box y (.cells #[.q k,.q o,.q n,.string s,.q c,.l g 1 a] 147));clear y E d;have H:=X1 (J.o.put s (by omega));go_enter func234,ntmps234;go_wp2_with fail;go_fit H.o;rintro e A⟨rfl,O,r⟩;have M:A.cell? ⟨w.heap.size,5,none⟩=some (.l g 1 a):=(r.kp.cell (.inr (.inl rfl)) 5).trans (by simp);have j:wv [⟨#[32,61,32]⟩] [b] 1 1=32::61::32::b:=by simp[wv]
 have q:Calls prog 206 #[.p ob,.l g 1 a,.l A.heap.size 1 1] (A.z #[.t #[32,61,32]] 9) (WP (fun q=>K q\/q=w.heap.size\/q=w.heap.size) (w.z #[.q k,.q o,.q n,.string s,.q c,.l g 1 a] 147) ob m v w (t++s.data.toList++32::61::32::b)):=by
  rw[←j];exact F.o.Jo r (by simp) a [⟨#[32,61,32]⟩] (by simp) (by show _+(wv [⟨#[32,61,32]⟩] [b] 1 1).length<=_;rw[j,Xj];show _+s.size+(b.length+1+1+1)<=_;omega)
 have I:=X1 q;clear q r j;go_wp2_with fail;go_fit I.o;rintro e Q⟨rfl,L,C⟩;have B:=X1 C;clear C;go_wp2;refine Xw ?_;exact⟨rfl,L,by have:=B.o.pr;simpa[wv]using this,B.o.gr⟩
variable {K:Nat->Prop} {w0:World} {ob:Nat} {m v0:Value} {wS:World} {v:Value} {t:List UInt8} {w:World}
theorem X6m(H:KpW K w0 ob v w)(O:PtR ob m v t w)(k o n c:Int)(s:ByteArray)(g a j:Nat)(B:List Value)(r:List (List UInt8))(d:KD w0 K ob m B r g 0)(N:B.length=j+1)(a2:j+1<=a)(hn:t.length+(jn r j).length+(r[j]?.getD []).length+8<=90000000):Calls prog 228 #[.agg #[.q k,.q o,.q n,.string s,.q c,.l g (j+1) a],.p ob] w fun e w'=>Wd ob m v t (102::110::40::(jn r j++41::32::61::62::32::(r[j]?.getD []))) w e w':=by
 have V:=X1 (WS.box H O (.cells #[.q k,.q o,.q n,.string s,.q c,.l g (j+1) a] 143));have C:=X1 (d.box H (.cells #[.q k,.q o,.q n,.string s,.q c,.l g (j+1) a] 143));have u:=X1 N;clear H O d N;have A:([102,110,40]).length<=3:=by simp
 have y:=X1 A;clear A;have S:=X1 (V.o.put ⟨#[102,110,40]⟩ (by show t.length+3<=_;omega));have hj:j<=1000000:=by have:=C.o.le;have:=u.o;omega
 go_enter func228,ntmps228;go_wp2_with fail;go_fit S.o;rintro e Q⟨rfl,v1,E⟩;have X:Q.cell? ⟨w.heap.size,5,none⟩=some (.l g (j+1) a):=(E.kp.cell (.inr (.inl rfl)) 5).trans (by simp);have q:Calls prog 211 #[.p ob,.l g j a] Q fun e w'=>WP (fun q=>K q\/q=w.heap.size\/q=w.heap.size) (w.z #[.q k,.q o,.q n,.string s,.q c,.l g (j+1) a] 143) ob m v w (t++[102,110,40]++jn r j) e w':=by
  have e:(B.take j).length=j:=by rw[YO,u.o];omega
  have:=(C.o.take j).row E _ (.inr rfl) a (by rw[e,Xj];have:=y.o;omega);rw[e]at this;exact this
 have U:=X1 q;clear q E;go_wp2_with fail;go_fit U.o;rintro e I⟨rfl,v2,F⟩;have Z:I.cell? ⟨w.heap.size,5,none⟩=some (.l g (j+1) a):=(F.kp.cell (.inr (.inl rfl)) 5).trans (by simp);clear X;have q:Calls prog 206 #[.p ob,.slice (some ⟨g,j,none⟩) 1 (a-j),.l I.heap.size 1 1] (I.z #[.t #[41,32,61,62,32]] 9) fun e w'=>WP (fun q=>K q\/q=w.heap.size\/q=w.heap.size) (w.z #[.q k,.q o,.q n,.string s,.q c,.l g (j+1) a] 143) ob m v w (t++[102,110,40]++jn r j++(41::32::61::62::32::(r[j]?.getD []))) e w':=by
  have e:(B.drop j).length=1:=by rw[YC,u.o];omega
  have L:wv [⟨#[41,32,61,62,32]⟩] (r.drop j) 1 1=41::32::61::62::32::(r[j]?.getD []):=by simp[wv]
  have:=(C.o.drop j).Jo F (fun e2=>by rw[e2]at e;cases e) (a-j) [⟨#[41,32,61,62,32]⟩] (by simp) (by rw[e];show _+(wv [⟨#[41,32,61,62,32]⟩] (r.drop j) 1 1).length<=_;rw[L,Xj,Xj];have:=y.o;simp at this⊢;omega);rw[e,Xu]at this;rw[←L];exact this
 have W:=X1 q;clear q F;have a0:¬a=j:=by omega
 have a1:¬a-j=0:=by omega
 go_wp2_with fail;go_fit W.o;rintro e w3⟨rfl,vT,M⟩;have J:=X1 M;clear M;go_wp2;refine Xw ?_;exact⟨rfl,vT,by have:=J.o.pr;simpa[wv]using this,J.o.gr⟩
theorem X6d(H:KpW K w0 ob v w)(O:PtR ob m v t w)(k o n c:Int)(s:ByteArray)(g a j:Nat)(B:List Value)(r:List (List UInt8))(d:KD w0 K ob m B r g 0)(N:B.length=j+1)(a2:j+1<=a)(hn:t.length+s.size+(jn r j).length+(r[j]?.getD []).length+11<=90000000):Calls prog 235 #[.agg #[.q k,.q o,.q n,.string s,.q c,.l g (j+1) a],.p ob] w fun e w'=>Wd ob m v t (100::101::102::32::(s.data.toList++40::(jn r j++41::32::61::32::(r[j]?.getD []++[59,10])))) w e w':=by
 have V:=X1 (WS.box H O (.cells #[.q k,.q o,.q n,.string s,.q c,.l g (j+1) a] 148));have C:=X1 (d.box H (.cells #[.q k,.q o,.q n,.string s,.q c,.l g (j+1) a] 148));have u:=X1 N;clear H O d N;have A:(((⟨#[100,101,102,32]⟩:ByteArray)++s++⟨#[40]⟩).data.toList).length<=s.size+5:=by rw[ByteArray.data_append,ByteArray.data_append,Array.toList_append,Array.toList_append,Xj,Xj];show 4+s.size+1<=_;omega
 have y:=X1 A;clear A;have S:=X1 (V.o.put ((⟨#[100,101,102,32]⟩:ByteArray)++s++⟨#[40]⟩) (by rw[KA,KA];show t.length+(4+s.size+1)<=_;omega));have hj:j<=1000000:=by have:=C.o.le;have:=u.o;omega
 have d0:¬(4+s.size > 9223372036854775807):=by omega
 have d1:¬(4+s.size+1 > 9223372036854775807):=by omega
 go_enter func235,ntmps235;go_wp2_with fail;go_fit S.o;rintro e Q⟨rfl,v1,E⟩;have X:Q.cell? ⟨w.heap.size,5,none⟩=some (.l g (j+1) a):=(E.kp.cell (.inr (.inl rfl)) 5).trans (by simp);have q:Calls prog 211 #[.p ob,.l g j a] Q fun e w'=>WP (fun q=>K q\/q=w.heap.size\/q=w.heap.size) (w.z #[.q k,.q o,.q n,.string s,.q c,.l g (j+1) a] 148) ob m v w (t++((⟨#[100,101,102,32]⟩:ByteArray)++s++⟨#[40]⟩).data.toList++jn r j) e w':=by
  have e:(B.take j).length=j:=by rw[YO,u.o];omega
  have:=(C.o.take j).row E _ (.inr rfl) a (by rw[e,Xj];have:=y.o;omega);rw[e]at this;exact this
 have U:=X1 q;clear q E;go_wp2_with fail;go_fit U.o;rintro e I⟨rfl,v2,F⟩;have Z:I.cell? ⟨w.heap.size,5,none⟩=some (.l g (j+1) a):=(F.kp.cell (.inr (.inl rfl)) 5).trans (by simp);clear X;have q:Calls prog 206 #[.p ob,.slice (some ⟨g,j,none⟩) 1 (a-j),.l I.heap.size 2 2] (I.z #[.t #[41,32,61,32],.t #[59,10]] 9) fun e w'=>WP (fun q=>K q\/q=w.heap.size\/q=w.heap.size) (w.z #[.q k,.q o,.q n,.string s,.q c,.l g (j+1) a] 148) ob m v w (t++((⟨#[100,101,102,32]⟩:ByteArray)++s++⟨#[40]⟩).data.toList++jn r j++(41::32::61::32::(r[j]?.getD []++[59,10]))) e w':=by
  have e:(B.drop j).length=1:=by rw[YC,u.o];omega
  have L:wv [⟨#[41,32,61,32]⟩,⟨#[59,10]⟩] (r.drop j) 1 2=41::32::61::32::(r[j]?.getD []++[59,10]):=by simp[wv]
  have:=(C.o.drop j).Jo F (fun e2=>by rw[e2]at e;cases e) (a-j) [⟨#[41,32,61,32]⟩,⟨#[59,10]⟩] (by simp) (by rw[e];show _+(wv [⟨#[41,32,61,32]⟩,⟨#[59,10]⟩] (r.drop j) 1 2).length<=_;rw[L,Xj,Xj];have:=y.o;simp at this⊢;omega);rw[e,Xu]at this;rw[←L];exact this
 have W:=X1 q;clear q F;have a0:¬a=j:=by omega
 have a1:¬a-j=0:=by omega
 go_wp2_with fail;go_fit W.o;rintro e w3⟨rfl,vT,M⟩;have J:=X1 M;clear M;go_wp2;refine Xw ?_;exact⟨rfl,vT,by have:=J.o.pr;simpa[wv]using this,J.o.gr⟩
variable {K:Nat->Prop} {w0:World} {ob:Nat} {m v0:Value} {wS:World} {v:Value} {t:List UInt8} {w:World}
theorem J9{P:Program}{ops:Array Oper}{o:Oper}{a:Act}{w:World}{K:Act->World->Prop}{Q:Exit->Act->World->Prop}{E:Prop}(B:o.guard=none)(f:FuncId)(n:List Operand)(ts:Array TypeId)(k:o.op=Op.call {callee:=Callee.value (Operand.func f),args:=n.toArray,argTypes:=ts})(d:List Value)(F:n.map a.eval=d)(fn:Func)(j:P.funcs[f]?=some fn)(hne:(fn.name == "runtime.NumGoroutine")=false)(g:fn.body.isNone=false)(R:Value->World->Prop)(y:Calls P f d.toArray w fun e w'=>∃r,e= .returned r/\R r w')(A:∀r w',R r w'->K (a.put o.dst r) w'): if Region.wanted o (yielded ops a.tmps)=true then Oper.wp P o a w K Q else E:=by
 have C:Region.wanted o (yielded ops a.tmps)=true:=by simp[Region.wanted,B]
 rw[Xa C];have s:(callFunc f d.toArray).run P w= .ok (.enter f d.toArray) w:=by
  simp only[callFunc,ZB,JE,ZA,j,hne,g];rfl
 unfold Oper.wp;simp only[execOp,k,resolve,invoke,Qg,F,Deferred.ofValue,ZB];rw[show a.eval (Operand.func f)=Value.func (Fn.func f) #[] #[]from rfl];simp only[Jd,ZA];simp[s];refine y.mono fun e H h=>?_;obtain⟨r,rfl,u⟩:=h;exact A _ _ u
theorem WS.six{a d g j k n:Value}{T:TypeId}{W:World}(h:WS (fun q=>K q\/q=W.heap.size\/q=W.heap.size) (W.alloc (.cells #[a,d,g,j,k,n] T)) ob m v0 wS v t w):w.c W.heap.size 0=some a/\w.c W.heap.size 1=some d/\w.c W.heap.size 2=some g/\w.c W.heap.size 3=some j/\w.c W.heap.size 4=some k/\w.c W.heap.size 5=some n:=by
 have f:=fun i=>h.kp.cell (q:=W.heap.size) (.inr (.inl rfl)) i;exact⟨(f 0).trans (by simp),(f 1).trans (by simp),(f 2).trans (by simp),(f 3).trans (by simp),(f 4).trans (by simp),(f 5).trans (by simp)⟩
theorem KD.kid{k:List Value}{n:List (List UInt8)}{g:Nat}(d:KD w0 K ob m k n g 0)(h:WS K w0 ob m v0 wS v t w)(j:Nat)(a:j<k.length):w.c g j=some k[j]:=by
 have:=(h.kp.cell (d.gk (fun e=>by rw[e]at a;cases a)) (0+j)).trans (d.ce j a)
 rwa[Xu]at this
def unR(o:Int):Int:=if o=1 then 3 else 7
theorem Le(k o n c:Int)(s:ByteArray)(sl:Value)(w:World):CB 203 #[.agg #[.q k,.q o,.q n,.string s,.q c,sl]] w (.q (unR o)):=by
 by_cases a:o=1
 .rw[show unR o=3 from Xa a];go_enter func203,ntmps203;go_wp2;go_ret;exact⟨rfl,bA _⟩
 .rw[show unR o=7 from X6 a];go_enter func203,ntmps203;go_wp2;go_ret;exact⟨rfl,bA _⟩
theorem X6x(A:KpW K w0 ob v w)(M:PtR ob m v t w)(k n c:Int)(s:ByteArray)(g a:Nat)(T:TypeId)(x:Value)(b:List UInt8)(r:Int)(hn:t.length+4+(rkB r 3 b).length<=90000000)(d:KD w0 K ob m [.iface T x] [b] g 0)(L:Rkd w0 K ob (.iface T x) r):Calls prog 204 #[.agg #[.q k,.q 1,.q n,.string s,.q c,.l g 1 a],.p ob] w (Wd ob m v t ([110,111,116,32]++rkB r 3 b) w):=by
 have U:=X1 (WS.box A M (.cells #[.q k,.q 1,.q n,.string s,.q c,.l g 1 a] 134));have u:=X1 (d.box A (.cells #[.q k,.q 1,.q n,.string s,.q c,.l g 1 a] 134));have S:=X1 (L.box A (.cells #[.q k,.q 1,.q n,.string s,.q c,.l g 1 a] 134));clear A M d L;have Q:=X1 (U.o.put ⟨#[110,111,116,32]⟩ (by show t.length+4<=_;omega));go_enter func204,ntmps204;go_wp2_with fail;go_fit Q.o;rintro e H⟨rfl,v1,F⟩;have C:=X1 (F.below (X8 _ _).drew);clear F;obtain⟨e0,e1,e2,e3,e4,e5⟩:=C.o.six;have Z:=u.o.kid C.o 0 (by simp);have V:unR 1=3:=rfl;go_wp2_with fail;go_region_held3 (fun W=>W.c w.heap.size 0=some (.q k)/\W.c w.heap.size 1=some (.q 1)/\W.c w.heap.size 2=some (.q n)/\W.c w.heap.size 3=some (.string s)/\W.c w.heap.size 4=some (.q c)/\W.c w.heap.size 5=some (.l g 1 a)/\W.c g 0=some (.iface T x)) (go_keep) (first
  | (refine J9 rfl 203 [.tmp 19] _ rfl [.agg #[.q k,.q 1,.q n,.string s,.q c,.l g 1 a]] (by first|(simp[Act.eval];done)|simp[Act.eval,Act.put]) f203 func203 (by kernel_rfl) (by kernel_rfl) (fun r N=>r= .q 3/\Below H.drew.heap.size H.drew N) ((Le k 1 n c s (.l g 1 a) H.drew).mono (fun _ _ ⟨B,I⟩=>⟨_,by rw[V]at B;exact B,rfl,I⟩)) ?_;rintro r2 N⟨rfl,j⟩;have E:=X1 (C.o.below j);clear j;obtain⟨f0,f1,f2,f3,f4,f5⟩:=E.o.six;have g0:=u.o.kid E.o 0 (by simp))
  | (refine J9 rfl 205 [.tmp 13,.tmp 18,.tmp 20] _ rfl [.p ob,.iface T x,.q 3] (by first|(simp[Act.eval];done)|simp[Act.eval,Act.put]) f205 func205 (by kernel_rfl) (by kernel_rfl) (fun z O=>z= .tuple #[]/\∃v',WS (fun q=>K q\/q=w.heap.size\/q=w.heap.size) (w.alloc (.cells #[.q k,.q 1,.q n,.string s,.q c,.l g 1 a] 134)) ob m v w v' (t++[110,111,116,32]++rkB r 3 b) O) ((u.o.rk E.o 0 (by simp) rfl b rfl r 3 S.o (by rw[Xj];show t.length+4+_<=_;omega)).mono (fun _ _ ⟨B,I⟩=>⟨_,B,rfl,I⟩)) ?_;rintro r3 O⟨rfl,X,y⟩;obtain⟨h0,F,h2,h3,h4,h5⟩:=y.six;have i0:=u.o.kid y 0 (by simp)))
 all_goals
  have J:=X1 y;clear y;go_wp2;refine Xw ?_;exact⟨rfl,X,by have:=J.o.pr;simpa[wv]using this,J.o.gr⟩
theorem X6v(A:KpW K w0 ob v w)(M:PtR ob m v t w)(k o n c:Int)(s:ByteArray)(g a:Nat)(T:TypeId)(x:Value)(b:List UInt8)(r:Int)(V:¬o=1)(hn:t.length+1+(rkB r 7 b).length<=90000000)(d:KD w0 K ob m [.iface T x] [b] g 0)(L:Rkd w0 K ob (.iface T x) r):Calls prog 204 #[.agg #[.q k,.q o,.q n,.string s,.q c,.l g 1 a],.p ob] w (Wd ob m v t ([45]++rkB r 7 b) w):=by
 have U:=X1 (WS.box A M (.cells #[.q k,.q o,.q n,.string s,.q c,.l g 1 a] 134));have u:=X1 (d.box A (.cells #[.q k,.q o,.q n,.string s,.q c,.l g 1 a] 134));have S:=X1 (L.box A (.cells #[.q k,.q o,.q n,.string s,.q c,.l g 1 a] 134));clear A M d L;have Q:=X1 (U.o.put ⟨#[45]⟩ (by show t.length+1<=_;omega));go_enter func204,ntmps204;go_wp2_with fail;go_fit Q.o;rintro e H⟨rfl,v1,F⟩;have C:=X1 (F.below (X8 _ _).drew);clear F;obtain⟨e0,e1,e2,e3,e4,e5⟩:=C.o.six;have c0:=u.o.kid C.o 0 (by simp);have X:unR o=7:=X6 V;go_wp2_with fail;go_region_held3 (fun W=>W.c w.heap.size 0=some (.q k)/\W.c w.heap.size 1=some (.q o)/\W.c w.heap.size 2=some (.q n)/\W.c w.heap.size 3=some (.string s)/\W.c w.heap.size 4=some (.q c)/\W.c w.heap.size 5=some (.l g 1 a)/\W.c g 0=some (.iface T x)) (go_keep) (first
  | (refine J9 rfl 203 [.tmp 19] _ rfl [.agg #[.q k,.q o,.q n,.string s,.q c,.l g 1 a]] (by first|(simp[Act.eval];done)|simp[Act.eval,Act.put]) f203 func203 (by kernel_rfl) (by kernel_rfl) (fun r N=>r= .q 7/\Below H.drew.heap.size H.drew N) ((Le k o n c s (.l g 1 a) H.drew).mono (fun _ _ ⟨B,I⟩=>⟨_,by rw[X]at B;exact B,rfl,I⟩)) ?_;rintro r2 N⟨rfl,j⟩;have E:=X1 (C.o.below j);clear j;obtain⟨f0,f1,f2,f3,f4,f5⟩:=E.o.six;have g0:=u.o.kid E.o 0 (by simp))
  | (refine J9 rfl 205 [.tmp 13,.tmp 18,.tmp 20] _ rfl [.p ob,.iface T x,.q 7] (by first|(simp[Act.eval];done)|simp[Act.eval,Act.put]) f205 func205 (by kernel_rfl) (by kernel_rfl) (fun z O=>z= .tuple #[]/\∃v',WS (fun q=>K q\/q=w.heap.size\/q=w.heap.size) (w.alloc (.cells #[.q k,.q o,.q n,.string s,.q c,.l g 1 a] 134)) ob m v w v' (t++[45]++rkB r 7 b) O) ((u.o.rk E.o 0 (by simp) rfl b rfl r 7 S.o (by rw[Xj];show t.length+1+_<=_;omega)).mono (fun _ _ ⟨B,I⟩=>⟨_,B,rfl,I⟩)) ?_;rintro r3 O⟨rfl,Z,y⟩;obtain⟨h0,F,h2,h3,h4,h5⟩:=y.six;have i0:=u.o.kid y 0 (by simp)))
 all_goals
  have J:=X1 y;clear y;go_wp2;refine Xw ?_;exact⟨rfl,Z,by have:=J.o.pr;simpa[wv]using this,J.o.gr⟩
