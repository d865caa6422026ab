import Derived.Test.YtaeafhenpjnhiaaGreatDoorE28
import Derived.Test.YtaeafhenpjnhiaaGreatDoorE19
set_option maxHeartbeats 16000000
set_option maxRecDepth 100000
namespace Go.Proofs.YtaeafhenpjnhiaaGreatDoor
open Tryz Go.RowKit
variable (gb rb:Nat) (vb:Value) (n:Nat)
theorem Za[LB]{w:World}{B size g c m:Nat}{e:TypeId}{a:List Value}(h:w.ownsRow B e size (.l g m c) m a){j:Nat}{u:Value}(d:a[j]?=some u):w.cell? ⟨g,j,none⟩=some u:=by
 have:=h.cells rfl j u d
 rwa[Y8,Xu]at this
structure CV [LB] (gb rb:Nat) (vb:Value) (n:Nat) (W:World) (bx:Nat) (X:List Value) (pv:Value) (ps:List Int) (sv:Value) (ls:List (List Nd)) (L:NL) (q k:Nat) (w:World):Prop where
 b:GB gb rb vb n W L q k w
 p:PW W.heap.size w sv ls
 x:w.ownsRow 0 181 4 (.l bx 1 1) 1 X
 y:w.ownsRow 0 3 1 pv ps.length (ps.map (Value.int .i64))
section
variable {gb rb n bx q k q' k':Nat} {vb pv sv:Value} {X:List Value} {ps:List Int} {W w w':World} {ls:List (List Nd)} {L L':NL}
theorem CV.at[LB](B:CV gb rb vb n W bx X pv ps sv ls L q k w):GB gb rb vb n w L q k w:=⟨B.b.g,.refl w,B.b.n⟩
theorem CV.st[LB](B:CV gb rb vb n W bx X pv ps sv ls L q k w)(h:GB gb rb vb n w L' q' k' w'):CV gb rb vb n W bx X pv ps sv ls L' q' k' w':=⟨⟨h.g,B.b.t.trans h.t,h.n⟩,B.p.ty h.t,Yz B.x h.t (by unfold XL;simp),Yz B.y h.t (by unfold XL;simp)⟩
theorem CV.be[LB](B:CV gb rb vb n W bx X pv ps sv ls L q k w)(h:BL w w'):CV gb rb vb n W bx X pv ps sv ls L q k w':=B.st ⟨B.b.g.below h,.of h,B.b.n.ty (.of h)⟩
theorem CV.ap[LB]{O:Obj}{u v':Value}{l:List Nd}{j:List Value}(B:CV gb rb vb n W bx X pv ps sv ls ((u,l)::L) q k w)(d:rb<W.heap.size)(m:w.ownsRow W.heap.size 23 1 sv ls.length j)(r:∀i (h:i<ls.length),∃u,j[i]?=some u/\NR w u ls[i]/\0<ls[i].length)(A:w'.ownsRow W.heap.size 23 1 v' (ls.length+1) (j++[u]))(s:(w.alloc O).grownBy w' sv.ownBlock):CV gb rb vb n W bx X pv ps v' (ls++[l]) [] q k w':=by
 obtain⟨v,a⟩:=D5 m r B.b.n.1.1 B.b.n.1.2 A s;exact⟨⟨a.gn B.b.g d,a.tyM B.b.t (X5 _),trivial⟩,v,a.row B.x (by decide),a.row B.y (by decide)⟩
end
theorem Tj[LB](d kd:Nat)(HE:EAt gb rb vb n d kd)(g8:kd<=1000000):Rj gb rb vb n d kd:=fun q k O w h hq hk=>by
 obtain⟨iP,hP,c9,c8,c7⟩:=YK WR
 have h7:IntKind.i64.wrap (d:Int)=(d:Int):=by rw[Yp];omega
 have V:=h.c0
 have e0:=h.up
 have b4:=h.lt
 obtain⟨v,m,ys,f1,f2,f3,f4⟩:=h.fn
 obtain⟨vp,vc,rfl⟩:=XA f2
 have g4:=h.ty
 obtain⟨p0,h1,b5⟩:=h.R
 have b6:=b5.ty
 have HP:=X1 ((Xdu gb rb vb n h (by omega) m (by omega)))
 have a1:=X1 f2
 have a2:=X1 f4
 have HE:=X1 HE
 clear f2 f4 h b5
 go_enter func119,ntmps119
 go_wp2_with fail
 go_fit HP.o
 rintro e Q⟨z,hz,rfl,a9,b7,i5,K⟩
 have e2:=K gb b4 (by omega)
 have N:=(XQ (a:=⟨gb,2,none⟩) e2).trans f1
 have c5:=X1 (Kz a1.o (fun b J ht=>K b J (fun e=>by rw[e,b6]at ht;cases ht)))
 have c2:=X1 (a2.o.Zi (fun b J ht=>K b J (fun e=>by rw[e,b6]at ht;cases ht)))
 have c3:=X1 a9
 have c6:=X1 b7
 have a3:=X1 N
 clear a9 b7 HP V f1 K a1 a2 N
 go_wp2_with fail
 go_loopw[10] (fun t wr=>∃(i:Nat),i<=m/\t= .q i/\Gn gb rb vb n (q+1) k wr/\Ty w wr/\wr.cell? ⟨gb,2,none⟩=some (.slice vp m vc)/\wr.ownsRow (rb+1) 181 4 (.slice vp m vc) m ys/\FnC wr ys m) (fun t _=>m-(intOf t).toNat)
 case atStart=>exact⟨0,Xb _,rfl,c3.o,c6.o,a3.o,c5.o,c2.o⟩
 case round=>
  obtain⟨i,hi,rfl,hG,hT,n1,n2,n3⟩:=hrel
  by_cases e8:i<m
  .obtain⟨g,e5⟩:∃g,vp=some ⟨g,0,none⟩:=by
    rcases n2.2 with⟨_,h0⟩|⟨g,c,_,h2,_⟩
    .omega
    .cases h2;exact⟨g,rfl⟩
   subst e5;have d5:(z+i)%m<m:=Wt _ (by omega);have e1:((z:Int)+(i:Int))%(m:Int)=(((z+i)%m:Nat):Int):=by simp
   have f9:((z:Int)+(i:Int)).tmod (m:Int)=(((z+i)%m:Nat):Int):=by rw[UY (by omega)];exact e1
   have e3:IntKind.i64.wrap ((z:Int)+(i:Int))=(z:Int)+(i:Int):=by rw[Yp];omega
   have g6:¬m=0:=by omega
   generalize(z+i)%m=x at *;obtain⟨s,pv,ps,f,M,y1,y2,y3,y4,y5,y6,y7,y8⟩:=n3 x d5;obtain⟨H,pc,F⟩:=XA y5;subst F;have d1:=Za n2 y1;have d2:=Za n2 y2;have d3:=Za n2 y3;have d4:=Za n2 y4;have bx:=(X8 wr.heap.size wr).alloc (X5 _) (.cells #[.t #[],.slice none 0 0,.q 0,.q 0] 181);have A:=(n2.lt g rfl).2;have i6:=(bx.cell (p:=⟨gb,2,none⟩) hG.lt).trans n1;have f5:=(bx.cell (p:=⟨g,x*4,none⟩) A).trans d1;have f6:=(bx.cell (p:=⟨g,x*4+1,none⟩) A).trans d2;have f7:=(bx.cell (p:=⟨g,x*4+2,none⟩) A).trans d3;have f8:=(bx.cell (p:=⟨g,x*4+3,none⟩) A).trans d4;have S:BL wr (wr.alloc (.cells #[.string s,.slice H ps.length pc,.q f,.q M] 181)).drew:=(bA _).drew;have U:=X1 (hG.below S);have C:=X1 (hT.trans (.of S));have a5:=X1 ((S.cell (p:=⟨gb,2,none⟩) hG.lt).trans n1);have a6:=X1 (Kz n2 (fun b J _=>S.block b J));have a7:=X1 (n3.Zi (fun b J _=>S.block b J));have a4:=X1 (Kz y5 (fun b J _=>S.block b J));have I:Hid ((wr.alloc (.cells #[.string s,.slice H ps.length pc,.q f,.q M] 181)).drew.ownsRow 0 181 4 (.l wr.heap.size 1 1) 1 [.string s,.slice H ps.length pc,.q f,.q M]):=X1 (Y4 (base:=0) (e:=181) (size:=4) wr #[.string s,.slice H ps.length pc,.q f,.q M] 1 (Xb _) (by unfold maxLen;omega) rfl);clear hG hT n2 n3 y1 y2 y3 y4 y5 bx S;by_cases b2:M=O
   .subst b2;go_wp2_with fail;go_region;all_goals
     generalize a8:(wr.alloc (.cells #[.string s,.slice H ps.length pc,.int .i64 f,.int .i64 M] 181)).drew=w9 at *;have h6:wr.heap.size<w9.heap.size:=by rw[←a8];simp
     have i0:w.heap.size<=w9.heap.size:=C.o.size;have h3:rb<w.heap.size:=Ic e0 b4;generalize wr.heap.size=bx at *;have x0:=Za I.o (j:=0) rfl;have x3:=Za I.o (j:=3) rfl;clear a8;go_wp2_with fail;go_fit((GB.mk U.o C.o trivial:GB gb rb vb n w [] (q+1) k w9).g.B0.mo (Lr _ _));rintro e Q⟨N,c1,l1,rfl,Z,f0,r⟩;have B:CV gb rb vb n w bx [.string s,.slice H ps.length pc,.q f,.q M] (.slice H ps.length pc) ps _ [l1] [] (q+1) k (Q.alloc (.cells #[.l N l1.length c1] 23)):=⟨⟨(r.al _).g,C.o.trans (r.al _).t,trivial⟩,PW.one r.n.1.1 r.n.1.2 (by have:=r.t.size;omega),Yz I.o (r.al _).t (by unfold XL;simp),Yz a4.o (r.al _).t (by unfold XL;simp)⟩;have x1:=Za B.x (j:=1) rfl;have x2:=Za B.x (j:=2) rfl;have V:=B.b.g.c0;clear r U C I a4 a5 a6 a7;by_cases hf:0<f;rotate_left;focus
      go_wp2_with fail;obtain⟨E,d0⟩:∃E:Int,E=ps.length:=⟨_,rfl⟩;rw[←d0];have A:-1000000000<=E/\E<=3/\E<=ps.length:=by omega
     rotate_left;focus
      have Bd:=B.be (X8 _ _).drew;have h8:IntKind.i64.wrap (f+1)=f+1:=by rw[Yp];omega
      go_wp2_with fail;go_region_law(refine Kf rfl 22 (.tmp 62) (.tmp 65) _ _ rfl (.p rb) (.q (f+1)) (by first|(simp[Act.eval];done)|simp[Act.eval,Act.put]) (by first|(simp[Act.eval];done)|simp[Act.eval,Act.put]) f22 func22 (by kernel_rfl) (by kernel_rfl) _ (W8 gb rb vb n Bd.b.g (by omega) (f+1) (by omega) (by omega)) ?_;intro v4 w4 h4;obtain⟨z4,i4,e4,b0,b8⟩:=h4;subst e4);all_goals
       have B:=Bd.st (L':=[]) ⟨b0,b8,trivial⟩;have V:=B.b.g.c0;have x1:=Za B.x (j:=1) rfl;clear b0 b8 Bd;have e6:IntKind.i64.wrap ((ps.length:Int)-(z4:Int))=(ps.length:Int)-(z4:Int):=by rw[Yp];omega
       go_wp2_with fail;have A:-1000000000<=(ps.length:Int)-(z4:Int)/\(ps.length:Int)-(z4:Int)<=3/\(ps.length:Int)-(z4:Int)<=ps.length:=by omega
       generalize(ps.length:Int)-(z4:Int)=E at A⊢;clear e6
     all_goals
      go_fit(B.at.pk 2 (by omega));rintro e Q⟨z2,i3,rfl,V,r⟩;have B:=B.st r;clear r;go_wp2_with fail;go_loopw[12,15,16] (fun sv tv uv wr=>∃(j:Nat) (ls:List (List Nd)),j<=3/\tv= .q j/\ls.length=j+1/\ls.flatten.length<=1+j*(kd+1)/\CV gb rb vb n w bx [.string s,.slice H ps.length pc,.q f,.q M] (.slice H ps.length pc) ps sv ls [] (q+8+j*kd) k wr) (fun _ t _ _=>(E-intOf t).toNat)
      case atStart=>exact⟨0,_,Xb _,rfl,rfl,by rw[fl1];omega,⟨B.b.up (by omega),B.p,B.x,B.y⟩⟩
      case round=>
       obtain⟨j,ls,d7,rfl,b3,g3,B⟩:=hrel;have g5:j*kd<=3*kd:=Vz _ d7;have e7:j*(kd+1)=j*kd+j:=by rw[Nat.mul_add,Nat.mul_one]
       have g9:ls.length<=4:=by omega
       have c4:=X1 b3;clear b3;by_cases hj:(j:Int)<E
       .have d8:j<ps.length:=by omega
        obtain⟨py,d9⟩:∃g,H=some ⟨g,0,none⟩:=by
         rcases B.y.2 with⟨_,h0⟩|⟨g,c,_,h2,_⟩
         .omega
         .cases h2;exact⟨g,rfl⟩
        subst d9;have i1:=Za B.x (j:=1) rfl;have i2:=Za B.y (j:=j) (u:= .q ps[j]) (by rw[Mi,K0 d8];rfl);generalize ps[j]=pj at *;go_wp2_with fail;go_fit(B.at.e HE.o (by omega));rintro e Q⟨N,c1,l1,rfl,Z,V,r⟩;have B:=B.st r;clear r;have h9:IntKind.i64.wrap (E-(z2:Int))=E-(z2:Int):=by rw[Yp];omega
        by_cases g0:E-(z2:Int)<=(j:Int);rotate_left;rotate_left;focus
         have a0:=X1 (fun w0=>WI j w0 (by omega));have g2:=Wy j;generalize KE j=dc at *;have e9:(⟨dc.toArray⟩:ByteArray).size<=100:=by show dc.toArray.size<=_;simp;omega
         go_wp2_with fail;go_fit(a0.o _);rintro e Q⟨rfl,b1⟩;have B:=B.be b1;clear b1 a0;go_wp2_with fail;go_fit(B.at.o1 ⟨18,0,0,_,0⟩ (by omega) ⟨by first|omega|(rw[KA];show 1+_<=_;omega),n0⟩);rintro e Q⟨N,c1,l1,rfl,Z,V,r⟩;have B:=B.st r;clear r
        all_goals
         obtain⟨vs,pv,pw⟩:=B.p;obtain⟨pa,pb,F⟩:=XA pv;subst F;have h5:=B.b.t.size;have HV:=X1 pv;have HW:=X1 pw;clear pv pw;go_wp2_with(at_builtin;refine YY _ rfl _ _ 119 rfl (w.heap.size) 23 iP _ 1 24 underlying119 hP c9 c8 c7 rfl (by decide) _ ls.length vs rfl (HV.o.alloc _) ⟨Q.heap.size,0,none⟩ 1 1 [.l N l1.length c1] rfl rfl (Qr _ [_] _ _ rfl) (by simp[Value.oneCell']) (by unfold maxLen;omega) (by omega) (by simp;omega) ?_);intro v2 w2 ra b9 _ _;have B:=B.ap (by omega) HV.o HW.o ra b9;obtain⟨sp,sc,hs⟩:=XA ra;subst hs;clear ra b9;go_wp2;go_roundw
         case rel=>exact⟨j+1,_,by omega,by go_num,by rw[Xj,c4.o];rfl,by rw[Uc,Xj,fl1];rw[Ws,Ie];omega,⟨B.b.up (by rw[Ws,Ie];omega),B.p,B.x,B.y⟩⟩
         case measure=>simp[intOf];omega
       .have HO:=X1 (ZW ⟨12,0,0,⟨#[]⟩,0⟩ ls _ _ (3*kd+10) B.p.pr (by omega) (by omega) (by omega));unfold ndV at HO;obtain⟨vs,pv,_⟩:=B.p;obtain⟨pa,pb,F⟩:=XA pv;subst F;clear pv;go_wp2_with fail;go_fit(B.at.mo HO.o);rintro e Q⟨N,c1,l1,rfl,Z,V,r⟩;have B:=B.st r;clear r;go_wp2;go_ret2;exact⟨_,l1,true,rfl,fun _=>⟨B.b.n.1.1,B.b.n.1.2,by omega⟩,(fun h=>by cases h),B.b.g.mono (by omega),B.b.t,_,_,_,rfl⟩
   .have g7:(M !=O)=true:=by simp[b2]
    go_wp2_with fail;go_region;all_goals
     go_wp2;go_roundw
     case rel=>exact⟨i+1,by omega,by go_num,U.o,C.o,a5.o,a6.o,a7.o⟩
     case measure=>simp[intOf];omega
  .have d6:i=m:=by omega
   subst d6;have HG:=X1 hG;have HT:=X1 hT;clear hG hT n1 n2 n3;go_wp2;go_ret2;exact⟨_,[],false,rfl,(fun h=>by cases h),fun _=>HG.o.below (bA _),(HG.o.below (bA _)).mono (by omega),HT.o.trans (.of (bA _)),_,_,_,rfl⟩
theorem Bt[LB](s:ByteArray)(n:Nat)(w:World)(m:Nat)(B:n<=1000000)(hm:m<=1000000)(H:s.size*n<=m): Calls prog 23 #[.string s,.q (n:Int)] w fun e w'=>∃t:ByteArray,e= .returned (.string t)/\t.size<=m/\w'=w:=by
 go_enter func23,ntmps23;go_wp2;go_loop[0,1,5] (fun a t o=>∃(j:Nat) (x y:ByteArray),j<=n/\a= .string x/\t= .q (j:Int)/\o= .string y/\y.size+x.size*j<=m) (fun _ t _=>(intOf t).toNat)
 case atStart=>exact⟨n,s,_,X5 _,rfl,rfl,rfl,by show 0+s.size*n<=m;omega⟩
 case round=>
  obtain⟨j,x,y,F,rfl,rfl,rfl,u⟩:=hrel;by_cases A:0<j
  .have g:x.size<=x.size*j:=Nat.le_mul_of_pos_right _ A;have C:x.size<=1000000:=by omega
   have E:y.size<=1000000:=by omega
   have k:=X1 u;clear u g;by_cases r:j%2=1
   .have d:=X1 (AD x.size y.size j r);have v:(j:Int)%2=1:=by omega
    go_wp2;go_round
    case rel=>exact⟨j / 2,_,_,by omega,rfl,by go_num,rfl,by rw[KA,KA,d.o];exact k.o⟩
    case measure=>simp[intOf];omega
   .have d:=X1 (AB x.size j r);have v:((j:Int)%2==1)=false:=by simp;omega
    go_wp2;go_round
    case rel=>exact⟨j / 2,_,_,by omega,rfl,by go_num,rfl,by rw[KA,d.o];exact k.o⟩
    case measure=>simp[intOf];omega
  .go_wp2;go_ret;exact⟨y,rfl,by omega,rfl⟩
def Txt[LB](rb:Nat)(vb:Value)(n q d m:Nat)(w:World)(e:Ending)(w':World):Prop:=∃s:ByteArray,e= .returned (.string s)/\s.size<=m/\Rq rb vb n (q+d) w'/\Ty w w'
theorem GY[LB](a:List ByteArray)(m z:Nat)(h:∀x∈a,x.size<=m)(d:z<a.length):∃s,(a.map Value.string)[z]?=some (.string s)/\s.size<=m:=⟨a[z],by rw[Mi,K0 d];rfl,h _ (YJ d)⟩
attribute [local simp] Act.eval Act.put
theorem NW[LB](z L:Nat)(d:z<256)(a:L<=400000):∃m i:Nat,(z:Int)*((L:Int)+1)=(m:Int)/\i=m / 256/\i<=L/\m<=110000000:=by
 refine⟨z*(L+1),z*(L+1) / 256,by push_cast;rfl,rfl,?_,?_⟩
 .have h:z*(L+1)<=255*(L+1):=Vz _ (by omega);omega
 .have h:z*(L+1)<=255*(L+1):=Vz _ (by omega);omega
def IA:List ByteArray:=[⟨#[32]⟩,⟨#[10]⟩,⟨#[34]⟩,⟨#[92]⟩,⟨#[48]⟩,⟨#[120]⟩,⟨#[40]⟩,⟨#[41]⟩,⟨#[59]⟩,⟨#[35]⟩,⟨#[61]⟩,⟨#[61,62]⟩,⟨#[32,105,102,32]⟩,⟨#[32,105,110,32]⟩,⟨#[44]⟩,⟨#[45]⟩]
theorem Sq[LB]:∀x∈IA,x.size<=10:=by decide
theorem Vj[LB](x:Int):(strOfNums [x]).size=1:=by simp[strOfNums,ByteArray.size]
theorem Pb[LB]{rb:Nat}{vb:Value}{n q:Nat}{w:World}(h:Rq rb vb n q w)(j:q<=900000000)(m:Int)(d:1<=m)(g:m<=1000000):Calls prog 22 #[.p rb,.q m] w fun e w'=>∃r,e= .returned r/\∃z:Nat,(z:Int)<m/\r= .q (z:Int)/\Rq rb vb n (q+1) w'/\Ty w w':=by
 go_fit(h.pick j m d g);rintro e s⟨z,k,rfl,a,b⟩;exact⟨_,rfl,z,k,rfl,a,b⟩
theorem DZ[LB](s:ByteArray)(a b:Nat):(s.extract a b).size<=s.size:=by
 rw[ByteArray.size_extract];omega
theorem NV[LB](rb:Nat)(vb:Value)(n q:Nat)(s:ByteArray)(w:World)(h:Rq rb vb n q w)(hq:q<=800000000)(hs:s.size<=400000):Calls prog 25 #[.p rb,.string s] w (Txt rb vb n q 10 (2*s.size+10) w):=by
 have HR:=X1 h;clear h;go_enter func25,ntmps25;go_wp2_with fail;go_fit(Rq.pick HR.o (by omega) 256 (by omega) (by omega));rintro e w1⟨z,hz,rfl,O,S⟩;have K:=X1 O;have L:=X1 S;obtain⟨m,i,hm,hi,a3,a4⟩:=NW z s.size (by omega) hs;have e1:IntKind.i64.wrap ((z:Int)*((s.size:Int)+1))=(m:Int):=by rw[hm,Yp];omega
 have e2:(m:Int) / 256=(i:Int):=by omega
 clear O S HR hm hi;go_wp2_with fail;go_fit(Rq.pick K.o (by omega) 6 (by omega) (by omega));rintro e B⟨J,a7,rfl,Q,U⟩;have g:=X1 Q;have k:=X1 (L.o.trans U);have x1:=DZ s 0 i;have x2:=DZ s i s.size;clear Q U K L;have a1:J=0\/J=1\/J=2\/J=3\/J=4\/J=5:=by omega
 rcases a1 with rfl|rfl|rfl|rfl|rfl|rfl
 .go_wp2;go_ret;exact⟨_,rfl,by omega,g.o.mono (by omega),k.o⟩
 .have b3:BL B (B.z #[.t #[32],.t #[10],.t #[34],.t #[92],.t #[48],.t #[120],.t #[40],.t #[41],.t #[59],.t #[35],.t #[61],.t #[61,62],.t #[32,105,102,32],.t #[32,105,110,32],.t #[44],.t #[45]] 9):=bA _;have X:=X1 (g.o.below b3.drew);have Z:=X1 (k.o.trans (.of b3.drew));have F:=X1 (g.o.below (X8 _ _).drew);have H:=X1 (k.o.trans (.of (X8 _ _).drew));have V:Hid ((B.z #[.t #[32],.t #[10],.t #[34],.t #[92],.t #[48],.t #[120],.t #[40],.t #[41],.t #[59],.t #[35],.t #[61],.t #[61,62],.t #[32,105,102,32],.t #[32,105,110,32],.t #[44],.t #[45]] 9).drew.ownsRow 0 9 1 (.l B.heap.size 16 16) 16 (IA.map Value.string)):=X1 (Y4 (base:=0) (e:=9) (size:=1) B #[.t #[32],.t #[10],.t #[34],.t #[92],.t #[48],.t #[120],.t #[40],.t #[41],.t #[59],.t #[35],.t #[61],.t #[61,62],.t #[32,105,102,32],.t #[32,105,110,32],.t #[44],.t #[45]] 16 (Xb _) (by unfold maxLen;omega) rfl).drew;have W:Hid (¬XL (some 9)):=X1 (by unfold XL;simp);clear b3;go_wp2_with fail;go_region_law(first
   | ((with_reducible refine KJ ((B.z #[.t #[32],.t #[10],.t #[34],.t #[92],.t #[48],.t #[120],.t #[40],.t #[41],.t #[59],.t #[35],.t #[61],.t #[61,62],.t #[32,105,102,32],.t #[32,105,110,32],.t #[44],.t #[45]] 9).drew) ?_);refine Kf rfl 22 (.tmp 27) (.const (.q 16)) _ _ rfl (.p rb) (.q 16) (by simp) (by simp) f22 func22 (by kernel_rfl) (by kernel_rfl) _ (Pb X.o (by omega) 16 (by omega) (by omega)) ?_;intro v3 E M;obtain⟨r,I,A,d,a⟩:=M;subst A;obtain⟨u,hu,a0⟩:=GY IA 10 r Sq (by show r<16;omega);have l1:¬9223372036854775807<i+u.size:=(by omega);have l2:¬9223372036854775807<i+u.size+(s.size-i):=(by omega);have cl:=Za (Yz V.o a W.o) hu;have v:=X1 d;have y:=X1 (Z.o.trans a);clear d a)
   | ((with_reducible refine KJ (B.drew) ?_);refine Kf rfl 22 (.tmp 27) (.const (.q 16)) _ _ rfl (.p rb) (.q 16) (by simp) (by simp) f22 func22 (by kernel_rfl) (by kernel_rfl) _ (Pb F.o (by omega) 16 (by omega) (by omega)) ?_;intro v3 E M;obtain⟨r,I,A,d,a⟩:=M;subst A;obtain⟨u,hu,a0⟩:=GY IA 10 r Sq (by show r<16;omega);have l1:¬9223372036854775807<i+u.size:=(by omega);have l2:¬9223372036854775807<i+u.size+(s.size-i):=(by omega);have cl:=Za (Y4 (base:=0) (e:=9) (size:=1) E #[.t #[32],.t #[10],.t #[34],.t #[92],.t #[48],.t #[120],.t #[40],.t #[41],.t #[59],.t #[35],.t #[61],.t #[61,62],.t #[32,105,102,32],.t #[32,105,110,32],.t #[44],.t #[45]] 16 (Xb _) (by unfold maxLen;omega) rfl) hu;have v:=X1 (d.below (bA (.cells #[.t #[32],.t #[10],.t #[34],.t #[92],.t #[48],.t #[120],.t #[40],.t #[41],.t #[59],.t #[35],.t #[61],.t #[61,62],.t #[32,105,102,32],.t #[32,105,110,32],.t #[44],.t #[45]] 9)));have y:=X1 ((H.o.trans a).trans (.of (bA (.cells #[.t #[32],.t #[10],.t #[34],.t #[92],.t #[48],.t #[120],.t #[40],.t #[41],.t #[59],.t #[35],.t #[61],.t #[61,62],.t #[32,105,102,32],.t #[32,105,110,32],.t #[44],.t #[45]] 9))));clear d a))
  all_goals
   go_wp2;go_ret;exact⟨_,rfl,by rw[Yo,Yo];omega,v.o.mono (by omega),y.o⟩
 .by_cases N:i<s.size
  .have x3:=DZ s (i+1) s.size;have ew:IntKind.i64.wrap ((i:Int)+1)=(i:Int)+1:=by rw[Yp];omega
   haveI hne:Nonempty (KB B):=⟨⟨_,X8 _ _⟩⟩;go_wp2_with fail;refine Z2 (KB.w (w:=B)) (by kernel_rfl) (by kernel_rfl) ⟨⟨_,(X8 _ _).drew⟩,rfl⟩ ?_;repeat(go_big_quiet_step (fail))
   refine wpQuiet_nil ?_;rintro _⟨qq,rfl⟩;go_wp2;go_ret;exact⟨_,rfl,by rw[Yo];omega,(g.o.below qq.below).mono (by omega),k.o.trans (.of qq.below)⟩
  .have C:¬(i:Int)<(s.size:Int):=by omega
   go_wp2;go_ret;exact⟨_,rfl,by rw[Yo];omega,g.o.mono (by omega),k.o⟩
 .by_cases N:i<s.size
  .have x3:=DZ s (i+1) s.size;have ew:IntKind.i64.wrap ((i:Int)+1)=(i:Int)+1:=by rw[Yp];omega
   have F:=X1 (g.o.below (X8 _ _).drew);have H:=X1 (k.o.trans (.of (X8 _ _).drew));have l1:¬9223372036854775807<i+1:=by omega
   have k1:(0:Int)<=(i:Int)+1:=by omega
   have k2:(i:Int)+1<=(s.size:Int):=by omega
   have l2:¬9223372036854775807<i+1+(s.size-(i+1)):=by omega
   go_wp2_with fail;go_region_law((with_reducible refine KJ (B.drew) ?_);refine Kf rfl 22 (.tmp 59) (.const (.q 256)) _ _ rfl (.p rb) (.q 256) (by simp) (by simp) f22 func22 (by kernel_rfl) (by kernel_rfl) _ (Pb F.o (by omega) 256 (by omega) (by omega)) ?_;intro v3 E M;obtain⟨r,I,A,d,a⟩:=M;subst A;have a6:IntKind.u8.wrap (r:Int)=(r:Int):=(by rw[IntKind.wrap_u8];omega);have a2:=Xcc (E.z #[.int .u8 (r:Int)] 5) E.heap.size (r:Int) (by simp);have a5:=Vj (r:Int);have v:=X1 (d.below (bA (.cells #[.int .u8 (r:Int)] 5)));have y:=X1 ((H.o.trans a).trans (.of (bA (.cells #[.int .u8 (r:Int)] 5))));clear d a);all_goals
    go_wp2;go_ret;exact⟨_,rfl,by rw[Yo,Yo,Vj];omega,v.o.mono (by omega),y.o⟩
  .have C:¬(i:Int)<(s.size:Int):=by omega
   go_wp2;go_ret;exact⟨_,rfl,by rw[Yo];omega,g.o.mono (by omega),k.o⟩
 .go_wp2_with fail;go_fit(Rq.pick g.o (by omega) 12 (by omega) (by omega));rintro e E⟨r,I,rfl,d,a⟩;have v:=X1 d;have y:=X1 (k.o.trans a);clear d a;have ew:IntKind.i64.wrap ((i:Int)+(r:Int))=((i+r:Nat):Int):=by rw[Yp];omega
  obtain⟨j,hj⟩:∃j,i+r=j:=⟨_,rfl⟩;rw[hj]at ew;by_cases N:j<s.size
  .have x3:=DZ s j s.size;haveI hne:Nonempty (KB E):=⟨⟨_,X8 _ _⟩⟩;go_wp2_with fail;refine Z2 (KB.w (w:=E)) (by kernel_rfl) (by kernel_rfl) ⟨⟨_,(X8 _ _).drew⟩,rfl⟩ ?_;repeat(go_big_quiet_step (fail))
   refine wpQuiet_nil ?_;rintro _⟨qq,rfl⟩;go_wp2;go_ret;exact⟨_,rfl,by rw[Yo];omega,(v.o.below qq.below).mono (by omega),y.o.trans (.of qq.below)⟩
  .have C:¬(j:Int)<(s.size:Int):=by omega
   go_wp2;go_ret;exact⟨_,rfl,by rw[Yo];omega,v.o.mono (by omega),y.o⟩
 .go_wp2;go_ret;exact⟨_,rfl,by rw[Yo];omega,g.o.mono (by omega),k.o⟩
