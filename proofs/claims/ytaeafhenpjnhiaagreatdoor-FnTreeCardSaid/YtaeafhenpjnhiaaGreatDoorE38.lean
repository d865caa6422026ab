import Derived.Test.YtaeafhenpjnhiaaGreatDoorE37
namespace Go.Proofs.YtaeafhenpjnhiaaGreatDoor
open Go.RowKit
section
open Rb
set_option linter.unusedSimpArgs false
theorem Rb.Y4p(op:Nat):JN op=Yd op:=rfl
theorem Rb.Xfl(op:Nat):KS op=((Xi op:Nat):Int):=by
 unfold KS Xi;repeat' split
 all_goals omega
attribute [local simp] frm ID Uh Jz Y4g Y4h Y4n Y4l Y4k Y4m Y4i Y4j MK tx tz Function.comp_def Zj ZK K4 Zk XR Qi Qq XM Y1 Zz Z7 K3 Kj Zr Y4p
theorem X5b{w0:World}{pb H tc F E:Nat}{ns:List Nd}{ks:List (List Nat)}(I:Ink w0 pb H tc F E ns ks)(hl:ks.length=ns.length)(Q:ns.length<=5000)(k:Nat)(N:k<ns.length)(s:k<ks.length)(hp:Xr ns[k]=true)(ho:XU ns ns[k].kind ks[k]=true)(hs:(ks[k]).length<=5000)(M:Vu w0 pb ns ks k)(X:∀x (h:x<ns.length),ns[x].kind=7->1<=ns[x].op/\ns[x].op<=14)(hN:ns[k].n<=9223372036854775807)(b:Nat)(B:Ik.Cov ks b ks[k] k): ∃S:ByteArray,S.size+100<=3500*(k+1-b)/\Xk w0 18 #[.p pb,.q k] S/\S.data.toList=tz ns ks k:=by
 have e0:Ik.Ka ks k=ks[k]:=by unfold Ik.Ka;rw[K0 s];rfl
 have O:tz ns ks k=bts (frm [sp] [nl] ns[k] (ks[k].map fun y=>(rk (nod ns y),P (at_ ns ks y)))):=by
  have e1:=Sp (ks:=ks) N (by rw[e0];exact B);unfold tz;rw[e1,VA,e0,I7];simp only[Function.comp_def,at_,Y2m]
 have u:=Ik.LZ hp;obtain⟨q2,q3,q6,q7⟩:=Ik.num hp;obtain⟨lr,l1,l2,l3,b6,b7,b5,b3⟩:=Ik.lens ho;have j:k<=5000:=by omega
 have hm:ks.length<=5000:=by omega
 have hb:=B.le;obtain⟨d,v⟩:∃d,ns[k].kind=d:=⟨_,rfl⟩;rw[v]at q2 q3 q6 q7 lr l1 l2 l3 b6 b7 b5 b3;have a8:d=1\/d=2\/d=3\/d=4\/d=5\/d=6\/d=7\/d=8\/d=9\/d=10\/d=11\/d=12\/d=13\/d=14\/d=15\/d=16\/d=17\/d=18\/d=19\/d=20\/d=21\/d=22\/d=23\/d=24:=by omega
 have d0:=Cr _ u;rcases a8 with e|e|e|e|e|e|e|e|e|e|e|e|e|e|e|e|e|e|e|e|e|e|e|e<;>rw[e]at v
 .exact⟨_,(by simp only[Zp,List.size_toArray,XI,Ya];omega),X3w w0 pb H tc F E ns ks I k N s Q hm v u,by rw[O];simp[v]⟩
 .rcases q2 e with e2|e2
  .exact⟨_,(by simp only[Zp,List.size_toArray,XI,Ya];omega),X4p w0 pb H tc F E ns ks I k N s Q hm v u e2,by rw[O];simp[v,e2]⟩
  .exact⟨_,(by simp only[Zp,List.size_toArray,XI,Ya];omega),X4q w0 pb H tc F E ns ks I k N s Q hm v u e2,by rw[O];simp[v,e2]⟩
 .have h0:=q3 e;obtain⟨m,b4⟩:∃m:Nat,ns[k].n=m:=⟨ns[k].n.toNat,by omega⟩;have hD:=SY m (by omega);exact⟨⟨(Yh m).toArray⟩,by omega,X4r w0 pb H tc F E ns ks I k N s Q hm v u m b4 _ (fun w=>TI m w (by omega)),by rw[O];simp[b4,v]⟩
 .exact⟨_,by omega,X4s w0 pb H tc F E ns ks I k N s Q hm v u,by rw[O];simp[v]⟩
 .exact⟨_,by omega,X4t w0 pb H tc F E ns ks I k N s Q hm v u,by rw[O];simp[v]⟩
 .rcases q6 e with e2|e2
  .obtain⟨x,a⟩:=Ik.one (l1 (by omega));rw[a]at B;obtain⟨A,Z,U,a3,a4,J,W,K⟩:=M.kid j B (X5 _);obtain⟨A',a0,V,aX⟩:=VT w0 pb H tc F E ns ks I x ((3:Nat):Int) A (by omega) (by omega) J;have aB:=VJ (X x (by omega)) K aX;exact⟨_,(by simp only[Yo,Zp,List.size_toArray,XI,Ya];omega),X4u w0 pb H tc F E ns ks I k N s Q hm v u e2 x a A' (by omega) V,by rw[O];simp[v,a,aB,e2]⟩
  .obtain⟨x,a⟩:=Ik.one (l1 (by omega));rw[a]at B;obtain⟨A,Z,U,a3,a4,J,W,K⟩:=M.kid j B (X5 _);obtain⟨A',a0,V,aX⟩:=VT w0 pb H tc F E ns ks I x ((7:Nat):Int) A (by omega) (by omega) J;have aB:=VJ (X x (by omega)) K aX;exact⟨_,(by simp only[Yo,Zp,List.size_toArray,XI,Ya];omega),X4v w0 pb H tc F E ns ks I k N s Q hm v u e2 x a A' (by omega) V,by rw[O];simp[v,a,aB,e2]⟩
 .obtain⟨x,y,a⟩:=Ik.two (l2 (by omega));rw[a]at B;obtain⟨A,Z,U,a3,a4,J,W,K⟩:=M.kid j B (X5 _);obtain⟨C,c1,c2,c3,c4,c5,c6,cE⟩:=M.kid j W (X5 _);have c9:=q7 e;obtain⟨op,b1⟩:∃op:Nat,ns[k].op=op:=⟨ns[k].op.toNat,by omega⟩;have rb:=Xfl op;have rc:(if KS op=4 then 5 else KS op)=((if Xi op=4 then 5 else Xi op:Nat):Int):=by rw[rb];split<;>split<;>omega
  have rd:KS op+1=((Xi op+1:Nat):Int):=by rw[rb];rfl
  obtain⟨A',a0,V,aX⟩:=VT w0 pb H tc F E ns ks I x (((if Xi op=4 then 5 else Xi op):Nat):Int) A (by omega) (by omega) J;have aB:=VJ (X x (by omega)) K aX;obtain⟨C',c7,b8,cX⟩:=VT w0 pb H tc F E ns ks I y (((Xi op+1):Nat):Int) C (by omega) (by omega) c5;have cB:=VJ (X y (by omega)) cE cX;have c8:=OE op;exact⟨_,(by rw[Yo,Yo,Yo,Yo];simp only[Zp #[32]];have:(#[32]:Array UInt8).size=1:=rfl;omega),X4w w0 pb H tc F E ns ks I k N s Q hm v u op b1 (by omega) x y a A' (by omega) (by rw[rc];exact V) C' (by omega) (by rw[rd];exact b8),by rw[O];simp[v,a,aB,cB,b1]⟩
 .obtain⟨L,s1,s2,s3,lE⟩:=M.list j B (X5 _) hs;exact⟨_,(by simp only[Yo,Zp,List.size_toArray,XI,Ya];omega),X4x w0 pb H tc F E ns ks I k N s Q hm v u L s2 (fun g c=>s3 g 0 c),by rw[O];simp[v,lE]⟩
 .obtain⟨L,s1,s2,s3,lE⟩:=M.list j B (X5 _) hs;exact⟨_,(by simp only[Yo,Zp,List.size_toArray,XI,Ya];omega),X4y w0 pb H tc F E ns ks I k N s Q hm v u L s2 (fun g c=>s3 g 0 c),by rw[O];simp[v,lE]⟩
 .obtain⟨x,y,a⟩:=Ik.two (l2 (by omega));rw[a]at B;obtain⟨A,Z,U,a3,a4,J,W,K⟩:=M.kid j B (X5 _);obtain⟨C,c1,c2,c3,c4,c5,c6,cE⟩:=M.kid j W (X5 _);obtain⟨A',a0,V,aX⟩:=VT w0 pb H tc F E ns ks I x ((8:Nat):Int) A (by omega) (by omega) J;have aB:=VJ (X x (by omega)) K aX;exact⟨_,(by simp only[Yo,Zp,List.size_toArray,XI,Ya];omega),X3x w0 pb H tc F E ns ks I k N s Q hm v u x y a A' (by omega) V C c2 c5,by rw[O];simp[v,a,aB,cE]⟩
 .obtain⟨x,a⟩:=Ik.one (l1 (by omega));rw[a]at B;obtain⟨A,Z,U,a3,a4,J,W,K⟩:=M.kid j B (X5 _);obtain⟨A',a0,V,aX⟩:=VT w0 pb H tc F E ns ks I x ((8:Nat):Int) A (by omega) (by omega) J;have aB:=VJ (X x (by omega)) K aX;exact⟨_,(by simp only[Yo,Zp,List.size_toArray,XI,Ya];omega),X3y w0 pb H tc F E ns ks I k N s Q hm v u x a A' (by omega) V,by rw[O];simp[v,a,aB]⟩
 .obtain⟨x,r,a⟩:=List.exists_cons_of_ne_nil (b5 e);rw[a]at B hs;rw[XI]at hs;obtain⟨A,Z,U,a3,a4,J,W,K⟩:=M.kid j B (X5 _);obtain⟨L,s1,s2,s3,lE⟩:=M.list j W (X5 _) (by omega);obtain⟨A',a0,V,aX⟩:=VT w0 pb H tc F E ns ks I x ((8:Nat):Int) A (by omega) (by omega) J;have aB:=VJ (X x (by omega)) K aX;exact⟨_,(by simp only[Yo,Zp,List.size_toArray,XI,Ya];omega),X3z w0 pb H tc F E ns ks I k N s Q hm v u x r a (by omega) A' (by omega) V L s2 s3,by rw[O];simp[v,a,aB,lE]⟩
 .obtain⟨x,y,z,a⟩:=Ik.three (l3 (by omega));rw[a]at B;obtain⟨A,Z,U,a3,a4,J,W,K⟩:=M.kid j B (X5 _);obtain⟨C,c1,c2,c3,c4,c5,c6,cE⟩:=M.kid j W (X5 _);obtain⟨D,d1,d2,d3,d4,d5,d6,dE⟩:=M.kid j c6 (X5 _);exact⟨_,(by simp only[Yo,Zp,List.size_toArray,XI,Ya];omega),X4a w0 pb H tc F E ns ks I k N s Q hm v u x y z a A U J C c2 c5 D d2 d5,by rw[O];simp[v,a,K,cE,dE]⟩
 .obtain⟨x,y,a⟩:=Ik.two (l2 (by omega));rw[a]at B;obtain⟨A,Z,U,a3,a4,J,W,K⟩:=M.kid j B (X5 _);obtain⟨C,c1,c2,c3,c4,c5,c6,cE⟩:=M.kid j W (X5 _);exact⟨_,(by simp only[Yo,Zp,List.size_toArray,XI,Ya];omega),X4b w0 pb H tc F E ns ks I k N s Q hm v u x y a A U J C c2 c5,by rw[O];simp[v,a,K,cE]⟩
 .obtain⟨r,x,a⟩:∃r x,ks[k]=r++[x]:=⟨_,_,(List.dropLast_concat_getLast (b3 (by omega))).symm⟩;rw[a]at B hs;rw[Xj]at hs;obtain⟨m,a7,b2⟩:=Ik.Cov.split r B;have c0:=a7.le;obtain⟨A,Z,U,a3,a4,J,W,K⟩:=M.kid j b2 (X5 _);obtain⟨L,s1,s2,s3,lE⟩:=M.list j a7 (by omega) (by omega);exact⟨_,(by simp only[Yo,Zp,List.size_toArray,XI,Ya];omega),X4c w0 pb H tc F E ns ks I k N s Q hm v u x r a (by omega) A U J L s2 (fun g c=>s3 g 0 c),by rw[O];simp[v,a,K,lE]⟩
 .rcases b6 e with h2|h3
  .obtain⟨x,y,a⟩:=Ik.two h2;rw[a]at B;obtain⟨A,Z,U,a3,a4,J,W,K⟩:=M.kid j B (X5 _);obtain⟨C,c1,c2,c3,c4,c5,c6,cE⟩:=M.kid j W (X5 _);exact⟨_,(by simp only[Yo,Zp,List.size_toArray,XI,Ya];omega),X4d w0 pb H tc F E ns ks I k N s Q hm v u x y a A U J C c2 c5,by rw[O];simp[v,a,K,cE]⟩
  .obtain⟨x,y,z,a⟩:=Ik.three h3;rw[a]at B;obtain⟨A,Z,U,a3,a4,J,W,K⟩:=M.kid j B (X5 _);obtain⟨C,c1,c2,c3,c4,c5,c6,cE⟩:=M.kid j W (X5 _);obtain⟨D,d1,d2,d3,d4,d5,d6,dE⟩:=M.kid j c6 (X5 _);exact⟨_,(by simp only[Yo,Zp,List.size_toArray,XI,Ya];omega),X4e w0 pb H tc F E ns ks I k N s Q hm v u x y z a A U J C c2 c5 D d2 d5,by rw[O];simp[v,a,K,cE,dE]⟩
 .obtain⟨x,a⟩:=Ik.one (l1 (by omega));rw[a]at B;obtain⟨A,Z,U,a3,a4,J,W,K⟩:=M.kid j B (X5 _);cases b0:K6 ns[k].text
  .exact⟨_,(by rw[Yo,Yo];simp only[Zp #[58,32]];have:(#[58,32]:Array UInt8).size=2:=rfl;omega),X4g w0 pb H tc F E ns ks I k N s Q hm v u b0 x a A U J,by rw[O];simp[v,a,K,b0]⟩
  .exact⟨_,(by simp only[Yo,Zp,List.size_toArray,XI,Ya];omega),X4f w0 pb H tc F E ns ks I k N s Q hm v u b0 x a A U J,by rw[O];simp[v,a,K,b0]⟩
 .obtain⟨x,a⟩:=Ik.one (l1 (by omega));rw[a]at B;obtain⟨A,Z,U,a3,a4,J,W,K⟩:=M.kid j B (X5 _);exact⟨_,(by simp only[Yo,Zp,List.size_toArray,XI,Ya];omega),X4h w0 pb H tc F E ns ks I k N s Q hm v u x a A U J,by rw[O];simp[v,a,K]⟩
 .rcases b7 e with h0|h1
  .exact⟨_,by omega,X4i w0 pb H tc F E ns ks I k N s Q hm v u (Qx h0),by rw[O];simp[v,(Qx h0)]⟩
  .obtain⟨x,a⟩:=Ik.one h1;rw[a]at B;obtain⟨A,Z,U,a3,a4,J,W,K⟩:=M.kid j B (X5 _);exact⟨_,(by simp only[Yo,Zp,List.size_toArray,XI,Ya];omega),X4j w0 pb H tc F E ns ks I k N s Q hm v u x a A U J,by rw[O];simp[v,a,K]⟩
 .obtain⟨r,x,a⟩:∃r x,ks[k]=r++[x]:=⟨_,_,(List.dropLast_concat_getLast (b3 (by omega))).symm⟩;rw[a]at B hs;rw[Xj]at hs;obtain⟨m,a7,b2⟩:=Ik.Cov.split r B;have c0:=a7.le;obtain⟨A,Z,U,a3,a4,J,W,K⟩:=M.kid j b2 (X5 _);obtain⟨L,s1,s2,s3,lE⟩:=M.list j a7 (by omega) (by omega);exact⟨_,(by simp only[Yo,Zp,List.size_toArray,XI,Ya];omega),X4k w0 pb H tc F E ns ks I k N s Q hm v u x r a (by omega) A U J L s2 (fun g c=>s3 g 0 c),by rw[O];simp[v,a,K,lE]⟩
 .obtain⟨x,a⟩:=Ik.one (l1 (by omega));rw[a]at B;obtain⟨A,Z,U,a3,a4,J,W,K⟩:=M.kid j B (X5 _);exact⟨_,(by simp only[Yo,Zp,List.size_toArray,XI,Ya];omega),X4l w0 pb H tc F E ns ks I k N s Q hm v u x a A U J,by rw[O];simp[v,a,K]⟩
 .obtain⟨x,a⟩:=Ik.one (l1 (by omega));rw[a]at B;obtain⟨A,Z,U,a3,a4,J,W,K⟩:=M.kid j B (X5 _);exact⟨_,(by simp only[Yo,Zp,List.size_toArray,XI,Ya];omega),X4m w0 pb H tc F E ns ks I k N s Q hm v u x a A U J,by rw[O];simp[v,a,K]⟩
 .obtain⟨L,s1,s2,s3,lE⟩:=M.list j B (X5 _) hs;exact⟨_,(by rw[Yo,Yo,Yo,Yo];simp only[Zp #[108,111,97,100,32],Zp #[58,32],Zp #[59,10]];have:(#[108,111,97,100,32]:Array UInt8).size=5:=rfl;have:(#[58,32]:Array UInt8).size=2:=rfl;have:(#[59,10]:Array UInt8).size=2:=rfl;omega),X4n w0 pb H tc F E ns ks I k N s Q hm v u L s2 (fun g c=>s3 g 0 c),by rw[O];simp[v,lE]⟩
 .obtain⟨f,hf⟩:=M.f B (X5 _);have hj:=Ik.AY (f:=f) B (fun y hy=>(hf y hy).1);have d7:(⟨(QW (fun y=>(f y).data.toList) ks[k] (ks[k]).length).toArray⟩:ByteArray).size<=3500*(k-b):=by
   obtain⟨m,a9,_,_,h1⟩:=hj _ (X5 _);rw[List.drop_length]at a9;cases a9.nl;rw[Zp,List.size_toArray];exact h1
  refine⟨_,by omega,X4o w0 pb H tc F E ns ks I k N s Q hm v u f hs (fun y hy=>?_) (fun i hi=>?_) (fun y hy=>(hf y hy).2.2.2.1),by rw[O,Tq (fun y hy=>(hf y hy).2.2.2.2)];simp[v,Mg]⟩
  .obtain⟨b',b9,_⟩:=(hf y hy).2.1;have:=(hf y hy).1 b' b9;have:=(hf y hy).2.2.1;omega
  .obtain⟨m,a9,_,_,h1⟩:=hj i hi;have:=a9.le;omega
theorem X4z{w0:World}{pb O tc N M:Nat}{ns:List Nd}(C:Ink w0 pb O tc N M ns (YF ns))(r:YG ns=true)(E:∀x∈ns,x.n<=9223372036854775807):∀(m k:Nat),k<m->k<ns.length->∀b,Ik.Cov (YF ns) b (Ik.Ka (YF ns) k) k->∃S:ByteArray,S.size+100<=3500*(k+1-b)/\Xk w0 18 #[.p pb,.q k] S/\S.data.toList=tz ns (YF ns) k:=by
 unfold YG at r;simp only[XE]at r;obtain⟨⟨⟨A,_⟩,B⟩,s⟩:=r;have F:=KP A;have j:=S7 B;intro m;induction m with
 | zero=>intro k h;omega
 | succ m L=>
  intro k Q d b u;have a:k<(YF ns).length:=by omega
  obtain⟨I,H⟩:=Ik.EF ns ns (YF ns) [] s k d a;have J:=S8 ns k a;have e:Ik.Ka (YF ns) k=(YF ns)[k]:=by unfold Ik.Ka;rw[K0 a];rfl
  rw[e]at u;exact X5b C j (by omega) k d a I H (by omega) (fun y v U g=>L y (by omega) (by omega) v g) (fun x K=>(Ik.num (Ik.EF ns ns (YF ns) [] s x K (by omega)).1).2.2.2) (E _ (YJ d)) b u
theorem X5a{w0:World}{pb B tc A y:Nat}{ns:List Nd}(k:Ink w0 pb B tc A y ns (YF ns))(d:YG ns=true)(m:∀x∈ns,x.n<=9223372036854775807):∃S:ByteArray,S.size<=20000000/\S.data.toList=txt (root ns)/\Xk w0 18 #[.p pb,.q (ns.length-1:Nat)] S:=by
 have a:=d;unfold YG at a;simp only[XE]at a;obtain⟨⟨⟨g,_⟩,j⟩,_⟩:=a;have u:=KP g;obtain⟨s,C⟩:=Ik.CH j;obtain⟨S,E,r,v⟩:=X4z k d m (ns.length) (ns.length-1) (by omega) (by omega) 0 s;exact⟨S,by omega,v,r⟩
end
theorem Gp[LB]:¬XL (some 181):=by unfold XL;simp
theorem OG[LB]:¬XL (some 3):=by unfold XL;simp
structure FnK (gb rb B:Nat) (vf:Value) (m:Nat) (ys:List Value) (w:World):Prop where
 cell:w.cell? ⟨gb,2,none⟩=some vf
 row:w.ownsRow (rb+1) 181 4 vf m ys
 low:∀b,vf.ownBlock=some b->b<B
 fnc:∀i,i<m->∃(s:XJ) (pv:Value) (ps:List Int) (f z:Int),ys[i*4]?=some (.string s)/\ys[i*4+1]?=some pv/\ys[i*4+2]?=some (.q f)/\ys[i*4+3]?=some (.q z)/\w.ownsRow 0 3 1 pv ps.length (ps.map (Value.int .i64))/\ps.length<=3/\0<=f/\f<=3/\∀b,pv.ownBlock=some b->b<B
theorem CK[LB]{w w':World}{base size:Nat}{e:TypeId}{v:Value}{n:Nat}{r:List Value}(h:w.ownsRow base e size v n r)(C:∀q,v.ownBlock=some q->w'.heap[q]?=w.heap[q]?):w'.ownsRow base e size v n r:=by
 refine⟨h.1,?_⟩;rcases h.2 with u|⟨g,a,d,j,y,A,B⟩
 .exact .inl u
 .exact .inr ⟨g,a,d,j,y,(C g (by rw[j];rfl)).trans A,B⟩
theorem FnK.Zi[LB]{gb rb B:Nat}{vf:Value}{m:Nat}{ys:List Value}{w w':World}(h:FnK gb rb B vf m ys w)(F:w'.cell? ⟨gb,2,none⟩=w.cell? ⟨gb,2,none⟩)(j:∀b,b<B->b<w.heap.size->Xo w b=some 181\/Xo w b=some 3->w'.heap[b]?=w.heap[b]?):FnK gb rb B vf m ys w':=by
 refine⟨F.trans h.cell,CK h.row (fun q a=>j q (h.low q a) (h.row.lt q a).2 (.inl (KH h.row a))),h.low,fun i hi=>?_⟩;obtain⟨s,pv,ps,f,z,r,u,v,y,d,A,C,E,g⟩:=h.fnc i hi;exact⟨s,pv,ps,f,z,r,u,v,y,CK d (fun q a=>j q (g q a) (d.lt q a).2 (.inr (KH d a))),A,C,E,g⟩
theorem FnK.fn[LB]{gb rb B:Nat}{vf:Value}{m:Nat}{ys:List Value}{w:World}(h:FnK gb rb B vf m ys w)(hm:m<=1000):∃v m ys,w.cell? ⟨gb,2,none⟩=some v/\w.ownsRow (rb+1) 181 4 v m ys/\m<=1000/\FnC w ys m:=
 ⟨vf,m,ys,h.cell,h.row,hm,fun i hi=>by
  obtain⟨s,pv,ps,f,z,a,d,g,j,r,u,y,A,_⟩:=h.fnc i hi;exact⟨s,pv,ps,f,z,a,d,g,j,r,u,y,A⟩⟩
theorem Gn.other[LB]{gb rb:Nat}{vb:Value}{n q k:Nat}{w w':World}(h:Gn gb rb vb n q k w)(E:∀b,b<=rb->w'.heap[b]?=w.heap[b]?)(u:∀b,b<w.heap.size->Xo w b=some 128\/Xo w b=some 171->w'.heap[b]?=w.heap[b]?)(C:∃v m ys,w'.cell? ⟨gb,2,none⟩=some v/\w'.ownsRow (rb+1) 181 4 v m ys/\m<=1000/\FnC w' ys m):Gn gb rb vb n q k w':=by
 have g:=u gb h.lt (.inl h.ty);have d:∀j,w'.cell? ⟨gb,j,none⟩=w.cell? ⟨gb,j,none⟩:=fun j=>XQ (a:=⟨gb,j,none⟩) g;obtain⟨p,F,I⟩:=h.R;obtain⟨v,L,n1,n2,n3⟩:=h.nm;obtain⟨c,B,y⟩:=h.ct;obtain⟨z,K,r,A⟩:=h.sz;exact⟨⟨p,F,I.JV E⟩,h.up,(KI g).trans h.ty,(d 0).trans h.c0,⟨v,L,(d 1).trans n1,Kz n2 (fun q H J=>u q H (.inr J)),n3⟩,C,⟨c,B,(d 3).trans y⟩,⟨z,K,r,(d 4).trans A⟩,fun j=>(ZC (a:=⟨gb,j,none⟩) g).trans (h.fr j),h.km⟩
section
variable (gb rb:Nat) (vb:Value) (n:Nat) (W0:World) (fb:Nat) (s:XJ) (z:Int)
structure DS [LB] (vf:Value) (m:Nat) (ys:List Value) (q k:Nat) (free:Int) (pvv:Value) (ps:List Int) (pv:Value) (ls:List (List Nd)) (w:World):Prop where
 gn:Gn gb rb vb n q k w
 tf:Tf W0 w
 pw:PW W0.heap.size w pv ls
 box:w.heap[fb]?=some (.cells #[.string s,pvv,.q free,.q z] 181)
 JD:w.ownsRow fb 3 1 pvv ps.length (ps.map (Value.int .i64))
 fk:FnK gb rb fb vf m ys w
 hm:m<=500
 lo:rb<W0.heap.size/\W0.heap.size<=fb
end
section
variable {gb rb:Nat} {vb:Value} {n:Nat} {W0:World} {fb:Nat} {s:XJ} {z:Int} {vf:Value} {m:Nat} {ys:List Value} {q k:Nat} {free:Int} {pvv:Value} {ps:List Int} {pv:Value} {ls:List (List Nd)} {w w':World}
theorem Br[LB]{w:World}{b:Nat}{o:Obj}(h:w.heap[b]?=some o):b<w.heap.size:=by
 rcases V5 b w.heap.size with a|a
 .exact a
 .rw[Wm a]at h;cases h
theorem DS.flt[LB](h:DS gb rb vb n W0 fb s z vf m ys q k free pvv ps pv ls w):fb<w.heap.size:=Br h.box
theorem DS.fty[LB](h:DS gb rb vb n W0 fb s z vf m ys q k free pvv ps pv ls w):Xo w fb=some 181:=by unfold Xo;rw[h.box];rfl
theorem DS.ty[LB](h:DS gb rb vb n W0 fb s z vf m ys q k free pvv ps pv ls w)(a:Ty w w'){q' k':Nat}(j:Gn gb rb vb n q' k' w'):DS gb rb vb n W0 fb s z vf m ys q' k' free pvv ps pv ls w':=⟨j,h.tf.trans (Ty.tf a),h.pw.ty a,(a.block fb h.flt (by rw[h.fty];exact Gp)).trans h.box,Yz h.JD a OG,h.fk.Zi (a.two Gp gb h.gn.lt h.gn.ty).2 (fun b _ g d=>a.block b g (by rcases d with e|e<;>rw[e];exact Gp;exact OG)),h.hm,h.lo⟩
theorem DS.below[LB](h:DS gb rb vb n W0 fb s z vf m ys q k free pvv ps pv ls w)(a:BL w w'):DS gb rb vb n W0 fb s z vf m ys q k free pvv ps pv ls w':=h.ty (.of a) (h.gn.below a)
theorem DS.pf[LB](h:DS gb rb vb n W0 fb s z vf m ys q k free pvv ps pv ls w)(d:Pf W0.heap.size w w'){j:Value}{g:List (List Nd)}(v:PW W0.heap.size w' j g):DS gb rb vb n W0 fb s z vf m ys q k free pvv ps j g w':=⟨d.gn h.gn h.lo.1,d.tyM h.tf (X5 _),v,(d.block fb h.flt (.inr (by rw[h.fty];decide))).trans h.box,d.row h.JD (by decide),h.fk.Zi (XQ (a:=⟨gb,2,none⟩) (d.block gb h.gn.lt (.inr (by rw[h.gn.ty];decide)))) (fun b _ u r=>d.block b u (.inr (by rcases r with e|e<;>rw[e]<;>decide))),h.hm,h.lo⟩
theorem DS.cells[LB](h:DS gb rb vb n W0 fb s z vf m ys q k free pvv ps pv ls w):w.cell? ⟨fb,0,none⟩=some (.string s)/\w.cell? ⟨fb,1,none⟩=some pvv/\w.cell? ⟨fb,2,none⟩=some (.q free)/\w.cell? ⟨fb,3,none⟩=some (.q z)/\w.frozen? ⟨fb,1,none⟩=false/\w.frozen? ⟨fb,2,none⟩=false:=by
 refine⟨?_,?_,?_,?_,?_,?_⟩
 .rw[World.cell?,h.box];rfl
 .rw[World.cell?,h.box];rfl
 .rw[World.cell?,h.box];rfl
 .rw[World.cell?,h.box];rfl
 .rw[World.frozen?,h.box];simp
 .rw[World.frozen?,h.box];simp
theorem A6[LB](gn:Gn gb rb vb n q k w)(tf:Tf W0 w)(pw:PW W0.heap.size w pv ls)(box:w.heap[fb]?=some (.cells #[.string s,pvv,.q free,.q z] 181))(y:FnK gb rb fb vf m ys w)(hm:m<=500)(lo:rb<W0.heap.size/\W0.heap.size<=fb)(o:Nat)(v:Value){d:Int}{pvv':Value}{ps':List Int}(hbx:(#[.string s,pvv,.q free,.q z]:Array Value).setIfInBounds o v=#[.string s,pvv',.q d,.q z])(F:w.ownsRow fb 3 1 pvv' ps'.length (ps'.map (Value.int .i64))):DS gb rb vb n W0 fb s z vf m ys q k d pvv' ps' pv ls (w.setCell ⟨fb,o,none⟩ v):=by
 have fty:Xo w fb=some 181:=by unfold Xo;rw[box];rfl
 have r:∀b,b≠fb->(w.setCell ⟨fb,o,none⟩ v).heap[b]?=w.heap[b]?:=fun b A=>Y0 _ _ _ _ A;have B:gb≠fb:=fun e=>by have j:=gn.ty;rw[e,fty]at j;cases j
 have C:FnK gb rb fb vf m ys (w.setCell ⟨fb,o,none⟩ v):=y.Zi (XQ (a:=⟨gb,2,none⟩) (r gb B)) (fun b A _ _=>r b (by omega));refine⟨gn.other (fun b A=>r b (by omega)) (fun b _ g=>r b (fun e=>by rw[e,fty]at g;rcases g with g|g<;>cases g)) (C.fn (by omega)),U4 tf lo.2,?_,?_,Kc F (by rw[fty];decide),C,hm,lo⟩
 .obtain⟨H,j,E⟩:=pw;exact⟨H,Kc j (by rw[fty];decide),fun i hi=>by obtain⟨u,a,b,c⟩:=E i hi;exact⟨u,a,⟨Kc b.1 (by rw[fty];decide),b.2⟩,c⟩⟩
 .rw[La box,hbx]
theorem DS.Y0z[LB](h:DS gb rb vb n W0 fb s z vf m ys q k free pvv ps pv ls w)(a:Int):DS gb rb vb n W0 fb s z vf m ys q k a pvv ps pv ls (w.setCell ⟨fb,2,none⟩ (.q a)):=A6 h.gn h.tf h.pw h.box h.fk h.hm h.lo 2 _ rfl h.JD
theorem DS.grown[LB](h:DS gb rb vb n W0 fb s z vf m ys q k free pvv ps pv ls w)(v:w.grownBy w' pvv.ownBlock){pvv':Value}{ps':List Int}(H:w'.ownsRow fb 3 1 pvv' ps'.length (ps'.map (Value.int .i64))):w'.heap[fb]?=w.heap[fb]?/\DS gb rb vb n W0 fb s z vf m ys q k free pvv' ps' pv ls (w'.setCell ⟨fb,1,none⟩ pvv'):=by
 have lo:=h.lo;have own:∀b,pvv.ownBlock=some b->fb<=b/\Xo w b=some 3:=fun b d=>⟨(h.JD.lt b d).1,KH h.JD d⟩;have g:∀b,b<w.heap.size->Xo w b≠some 3\/b<fb->w'.heap[b]?=w.heap[b]?:=fun b d A=>v.block b d (fun e=>by
  have:=own b e.symm;rcases A with A|A
  .exact A this.2
  .omega)
 have C:=g fb h.flt (.inl (by rw[h.fty];decide));refine⟨C,?_⟩;have B:=h.gn.lt;have E:FnK gb rb fb vf m ys w':=h.fk.Zi (XQ (a:=⟨gb,2,none⟩) (g gb B (.inl (by rw[h.gn.ty];decide)))) (fun b d I _=>g b I (.inr d));have flt:=h.flt;have gn:Gn gb rb vb n q k w':=h.gn.other (fun b d=>g b (by omega) (.inr (by omega))) (fun b d y=>g b d (.inl (by rcases y with e|e<;>rw[e]<;>decide))) (E.fn (by have:=h.hm;omega))
 have tf:Tf W0 w':=⟨v.os.trans h.tf.os,v.tape.trans h.tf.tape,v.output.trans h.tf.output,Xz h.tf.size v.size,fun b j r=>(g b (XH j h.tf.size) (.inr (by omega))).trans (h.tf.block b j r),fun F=>absurd (.inr rfl) F,fun b j r=>(g b (XH j h.tf.size) (.inr (by omega))).trans (h.tf.old b j r)⟩;have pw:PW W0.heap.size w' pv ls:=by
  obtain⟨J,j,r⟩:=h.pw;exact⟨J,Kz j (fun b d y=>g b d (.inl (by rw[y];decide))),fun i hi=>by obtain⟨u,a,b,c⟩:=r i hi;exact⟨u,a,⟨Kz b.1 (fun b d y=>g b d (.inl (by rw[y];decide))),b.2⟩,c⟩⟩
 exact A6 gn tf pw (C.trans h.box) E h.hm h.lo 1 pvv' rfl H
end
section
variable (gb rb:Nat) (vb:Value) (n:Nat) (W0:World) (fb:Nat) (s:XJ) (z:Int)
structure DT [LB] (M q k:Nat) (free:Int) (pvv:Value) (ps:List Int) (pv:Value) (ls:List (List Nd)) (w:World):Prop where
 gn:Gn gb rb vb n q k w
 tf:Tf W0 w
 pw:PW W0.heap.size w pv ls
 box:w.heap[fb]?=some (.cells #[.string s,pvv,.q free,.q z] 181)
 JD:w.ownsRow 0 3 1 pvv ps.length (ps.map (Value.int .i64))
 ne:∃p m c,m<=M/\w.cell? ⟨gb,2,none⟩=some (.slice p m c)/\(Value.slice p m c).ownBlock≠some fb
 lo:rb<W0.heap.size/\W0.heap.size<=fb
 okp:ps.length<=3/\0<=free/\free<=3
end
section
variable {gb rb:Nat} {vb:Value} {n:Nat} {W0:World} {fb:Nat} {s:XJ} {z:Int} {M:Nat} {q k:Nat} {free:Int} {pvv:Value} {ps:List Int} {pv:Value} {ls:List (List Nd)} {w w':World}
theorem DS.dt[LB]{vf:Value}{m:Nat}{ys:List Value}(h:DS gb rb vb n W0 fb s z vf m ys q k free pvv ps pv ls w)(hm:m<=M)(d:ps.length<=3)(g:0<=free)(j:free<=3):DT gb rb vb n W0 fb s z M q k free pvv ps pv ls w:=by
 obtain⟨p,c,a⟩:=XA h.fk.row;refine⟨h.gn,h.tf,h.pw,h.box,Qo h.JD (Xb _),⟨p,m,c,hm,by rw[←a];exact h.fk.cell,fun e=>?_⟩,h.lo,d,g,j⟩;rw[←a]at e;have:=h.fk.low fb e;omega
theorem DT.flt[LB](h:DT gb rb vb n W0 fb s z M q k free pvv ps pv ls w):fb<w.heap.size:=Br h.box
theorem DT.fty[LB](h:DT gb rb vb n W0 fb s z M q k free pvv ps pv ls w):Xo w fb=some 181:=by unfold Xo;rw[h.box];rfl
theorem DT.ty[LB](h:DT gb rb vb n W0 fb s z M q k free pvv ps pv ls w)(a:Ty w w'){q' k':Nat}(r:Gn gb rb vb n q' k' w'):DT gb rb vb n W0 fb s z M q' k' free pvv ps pv ls w':=by
 obtain⟨p,m,c,d,g,j⟩:=h.ne;exact⟨r,h.tf.trans (Ty.tf a),h.pw.ty a,(a.block fb h.flt (by rw[h.fty];exact Gp)).trans h.box,Yz h.JD a OG,⟨p,m,c,d,(a.two Gp gb h.gn.lt h.gn.ty).2.trans g,j⟩,h.lo,h.okp⟩
theorem DT.below[LB](h:DT gb rb vb n W0 fb s z M q k free pvv ps pv ls w)(a:BL w w'):DT gb rb vb n W0 fb s z M q k free pvv ps pv ls w':=h.ty (.of a) (h.gn.below a)
theorem DT.pf[LB](h:DT gb rb vb n W0 fb s z M q k free pvv ps pv ls w)(d:Pf W0.heap.size w w'){j:Value}{g:List (List Nd)}(y:PW W0.heap.size w' j g):DT gb rb vb n W0 fb s z M q k free pvv ps j g w':=by
 obtain⟨p,m,c,r,u,v⟩:=h.ne;exact⟨d.gn h.gn h.lo.1,d.tyM h.tf (X5 _),y,(d.block fb h.flt (.inr (by rw[h.fty];decide))).trans h.box,d.row h.JD (by decide),⟨p,m,c,r,(XQ (a:=⟨gb,2,none⟩) (d.block gb h.gn.lt (.inr (by rw[h.gn.ty];decide)))).trans u,v⟩,h.lo,h.okp⟩
theorem DT.mono[LB](h:DT gb rb vb n W0 fb s z M q k free pvv ps pv ls w){a:Nat}(r:M<=a):DT gb rb vb n W0 fb s z a q k free pvv ps pv ls w:=by
 obtain⟨p,m,c,j,d,g⟩:=h.ne;exact⟨h.gn,h.tf,h.pw,h.box,h.JD,⟨p,m,c,by omega,d,g⟩,h.lo,h.okp⟩
theorem DT.cells[LB](h:DT gb rb vb n W0 fb s z M q k free pvv ps pv ls w):w.cell? ⟨fb,0,none⟩=some (.string s)/\w.cell? ⟨fb,1,none⟩=some pvv/\w.cell? ⟨fb,2,none⟩=some (.q free)/\w.cell? ⟨fb,3,none⟩=some (.q z):=by
 refine⟨?_,?_,?_,?_⟩
 .rw[World.cell?,h.box];rfl
 .rw[World.cell?,h.box];rfl
 .rw[World.cell?,h.box];rfl
 .rw[World.cell?,h.box];rfl
theorem DT.push[LB](h:DT gb rb vb n W0 fb s z M q k free pvv ps pv ls w)(hM:M<=900){v:Value}{m:Nat}{ys:List Value}(K:w.cell? ⟨gb,2,none⟩=some v)(j:w.ownsRow (rb+1) 181 4 v m ys)(O:FnC w ys m)(r:w.grownBy w' v.ownBlock){v':Value}(hr:w'.ownsRow (rb+1) 181 4 v' (m+1) (ys++[.string s,pvv,.q free,.q z]))(W:v'.ownBlock=v.ownBlock\/v'.ownBlock=some w.heap.size):w'.heap[gb]?=w.heap[gb]?/\DT gb rb vb n W0 fb s z (M+1) q k free pvv ps pv ls (w'.setCell ⟨gb,2,none⟩ v'):=by
 obtain⟨p,I,c,J,Z,h3⟩:=h.ne;obtain rfl:v= .slice p I c:=by rw[Z]at K;exact(Zq K).symm
 obtain⟨_,_,hf⟩:=XA j;obtain rfl:I=m:=by injection hf
 have own:∀b,(Value.slice p I c).ownBlock=some b->Xo w b=some 181/\b≠fb:=fun b d=>⟨KH j d,fun e=>h3 (by rw[←e];exact d)⟩;have A:∀b,b<w.heap.size->Xo w b≠some 181\/b=fb->w'.heap[b]?=w.heap[b]?:=fun b d g=>r.block b d (fun e=>by
  have:=own b e.symm;rcases g with g|g
  .exact g this.1
  .exact this.2 g)
 have N:=A gb h.gn.lt (.inl (by rw[h.gn.ty];decide));have V:Xo w' gb=some 128:=(KI N).trans h.gn.ty;refine⟨N,?_⟩;have flt:=h.flt;have Q:fb≠gb:=fun e=>by have J:=h.gn.ty;rw[←e,h.fty]at J;cases J
 have L:∀b,b≠gb->(w'.setCell ⟨gb,2,none⟩ v').heap[b]?=w'.heap[b]?:=fun b d=>Y0 _ _ _ _ d;have H:w'.ownsRow 0 3 1 pvv ps.length (ps.map (Value.int .i64)):=Kz h.JD (fun b d y=>A b d (.inl (by rw[y];decide)));have F:FnC w' (ys++[.string s,pvv,.q free,.q z]) (I+1):=(O.Zi (fun b d y=>A b d (.inl (by rw[y];decide)))).snoc j.1 s pvv ps free z H h.okp.1 h.okp.2.1 h.okp.2.2;have gn:=h.gn.Xfd K r hr F (by omega);obtain⟨p',c',E⟩:=XA hr;have a0:=r.size;refine⟨gn,?_,?_,(L fb Q).trans ((A fb flt (.inr rfl)).trans h.box),Kc H (by rw[V];decide),⟨p',I+1,c',by omega,by rw[←E];exact Qk _ _ _ ((XQ (a:=⟨gb,2,none⟩) N).trans K),?_⟩,h.lo,h.okp⟩
 .refine⟨((X8 0 w').setCell (p:=⟨gb,2,none⟩) (Xb _) v').os.trans (r.os.trans h.tf.os),((X8 0 w').setCell (p:=⟨gb,2,none⟩) (Xb _) v').tape.trans (r.tape.trans h.tf.tape),((X8 0 w').setCell (p:=⟨gb,2,none⟩) (Xb _) v').output.trans (r.output.trans h.tf.output),Xz h.tf.size (Xz r.size ((X8 0 w').setCell (p:=⟨gb,2,none⟩) (Xb _) v').size),fun b B C=>?_,fun hn=>absurd (.inr rfl) hn,fun b B C=>((L b (by have:=h.gn.lo;have:=h.gn.up;omega)).trans ((r.block b (XH B h.tf.size) (fun e=>by have J:=(j.lt b e.symm).1;have Z:=h.gn.lo;omega)).trans (h.tf.old b B C)))⟩;have X:=h.tf.block b B C;have t0:Xo w b=Xo W0 b:=KI X;have n1:Xo w b≠some 181:=fun e=>C (by rw[←t0,e];exact .inr rfl);have n2:b≠gb:=fun e=>C (by rw[←t0,e,h.gn.ty];exact .inl (.inr (.inl rfl)));exact(L b n2).trans ((A b (XH B h.tf.size) (.inl n1)).trans X)
 .obtain⟨vs,r1,r2⟩:=h.pw;have ng:∀t,t≠181->t≠128->∀b,b<w.heap.size->Xo w b=some t->(w'.setCell ⟨gb,2,none⟩ v').heap[b]?=w.heap[b]?:=fun t S U b d y=>(L b (fun e=>by rw[e,h.gn.ty]at y;exact U (Zq y).symm)).trans (A b d (.inl (by rw[y];exact fun e=>S (Zq e))));exact⟨vs,Kz r1 (ng _ (by decide) (by decide)),fun i hi=>by obtain⟨u,a,b,c⟩:=r2 i hi;exact⟨u,a,⟨Kz b.1 (ng _ (by decide) (by decide)),b.2⟩,c⟩⟩
 .rw[←E];rcases W with e|e<;>rw[e]
  .exact h3
  .intro e2;have:=Zq e2;omega
