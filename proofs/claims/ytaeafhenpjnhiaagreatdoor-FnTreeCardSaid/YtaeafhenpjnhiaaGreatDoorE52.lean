import Derived.Test.YtaeafhenpjnhiaaGreatDoorE49
import Derived.Test.YtaeafhenpjnhiaaGreatDoorE51
set_option maxHeartbeats 8000000
set_option maxRecDepth 100000
namespace Go.Proofs.YtaeafhenpjnhiaaGreatDoor
open Tryz Go.RowKit
theorem X5f(s:ByteArray)(w:World)(I:s.size<=1048576)(n:Zy w)(E:Yf s≠0): CB 7 #[.string s] w (.tuple #[.agg #[.slice none 0 0],.agg #[.q (Yf s),.q (Ye s)]]):=by
 have j:=X1 (PB.new w);have r:=X1 (AW s ((w.alloc Uu).alloc (Zv 0 0)) I (n.below j.o.B n.2.2));have H:¬((Yf s:Nat):Int)=0:=by omega
 have F:(((Yf s:Nat):Int)!=0)=true:=by simpa using E
 clear n;go_enter func7,ntmps7;go_wp2_with fail;go_fit r.o;rintro e O⟨v,rfl,d,k⟩;obtain⟨N,M,rfl⟩:=XA d;have g:=j.o.below k;have a:=g.below (bA (Zv (Yf s) (Ye s)));have J:=a.t0;have u:=a.f0;have y:=a.f1;have K:=a.ft;have A:=a.ff 0;have C:=a.ff 1;have L:=g.z;have m:=X1 a;clear g a k d r;go_wp2;go_region;all_goals
  try go_wp2
  refine Xq (v:= .tuple #[.agg #[.slice none 0 0],.agg #[.q (Yf s),.q (Ye s)]]) (by simp[results,results7,go_sem,J,u,y]) rfl ⟨rfl,?_⟩;repeat(first|(refine Qw ?_ (by show w.heap.size<=_;simp) _)|(refine Jp ?_))
  exact m.o.B
theorem PB.mv{w W d:World}{b:Nat}(h:PB w W)(hm:Ip.Mv b W d)(m:w.heap.size+1<b):PB w d:=by
 have k:∀q,q<=w.heap.size+1->d.heap[q]?=W.heap[q]?:=fun q g=>hm.block q (by have:=h.z;omega) (by omega);exact⟨⟨hm.os.trans h.B.os,hm.tape.trans h.B.tape,hm.output.trans h.B.output,Xz h.B.size hm.size,fun q g=>(k q (by omega)).trans (h.B.block q g)⟩,XH h.z hm.size,(XQ (a:=⟨w.heap.size,0,none⟩) (k w.heap.size (by omega))).trans h.t0,(XQ (a:=⟨w.heap.size+1,0,none⟩) (k (w.heap.size+1) (X5 _))).trans h.f0,(XQ (a:=⟨w.heap.size+1,1,none⟩) (k (w.heap.size+1) (X5 _))).trans h.f1,(ZC (a:=⟨w.heap.size,0,none⟩) (k w.heap.size (by omega))).trans h.ft,fun j=>(ZC (a:=⟨w.heap.size+1,j,none⟩) (k (w.heap.size+1) (X5 _))).trans (h.ff j)⟩
theorem PB.fresh{w W g:World}{n:Nat}(h:PB w W)(d:Below n W g)(r:w.heap.size+1<n):PB w g:=
 have k:∀q,q<=w.heap.size+1->g.heap[q]?=W.heap[q]?:=fun q m=>d.block q (by omega)
 ⟨⟨d.os.trans h.B.os,d.tape.trans h.B.tape,d.output.trans h.B.output,Xz h.B.size d.size,fun q m=>(k q (by omega)).trans (h.B.block q m)⟩,XH h.z d.size,(XQ (a:=⟨w.heap.size,0,none⟩) (k w.heap.size (by omega))).trans h.t0,(XQ (a:=⟨w.heap.size+1,0,none⟩) (k (w.heap.size+1) (X5 _))).trans h.f0,(XQ (a:=⟨w.heap.size+1,1,none⟩) (k (w.heap.size+1) (X5 _))).trans h.f1,(ZC (a:=⟨w.heap.size,0,none⟩) (k w.heap.size (by omega))).trans h.ft,fun j=>(ZC (a:=⟨w.heap.size+1,j,none⟩) (k (w.heap.size+1) (X5 _))).trans (h.ff j)⟩
theorem IP.init{w:World}{B sz tc:Nat}{tp:Option Addr}{ts:List Sc.T}(h:w.ownsRow B 101 4 (.slice tp ts.length tc) ts.length (KO ts))(F:ts.length<=1048576)(C:∀x∈ts,V9 x)(m:0<w.heap.size)(r:Ip.Zy w): IP w.heap.size tp tc ts sz 0 (w.alloc (.cells #[.slice tp ts.length tc,.q 0,.q sz] 59)):=by
 have n:=(X8 w.heap.size w).alloc (X5 _) (.cells #[.slice tp ts.length tc,.q 0,.q sz] 59);refine⟨by simp,by simp,by simp,fun j=>by simp,?_,Xb _,F,fun i hi E=>(C _ (YJ hi)).2.1 E,m,fun o v=>⟨(n.cell (p:=⟨0,o*2,none⟩) m).trans (r o v).1,(n.cell (p:=⟨0,o*2+1,none⟩) m).trans (r o v).2⟩⟩;rcases h.2 with⟨_,A⟩|⟨g,cap,y,I,_⟩
 .exact .inl (Qx A)
 .cases I;have s:g<w.heap.size:=(h.lt g rfl).2;have k:∀j u,(KO ts)[j]?=some u->(w.alloc (.cells #[.l g ts.length tc,.q 0,.q sz] 59)).cell? ⟨g,j,none⟩=some u:=fun j u H=>(n.cell (p:=⟨g,j,none⟩) s).trans (JU h H);exact .inr ⟨g,rfl,s,fun i hi=>by
   obtain⟨a,b,c,d⟩:=DC ts i hi;exact⟨k _ _ a,k _ _ b,k _ _ c,k _ _ d⟩⟩
theorem X5g(s:ByteArray)(w:World)(hs:s.size<=1048576)(hG:Zy w)(hO:Ip.Zy w)(hc:Yf s=0): Calls prog 7 #[.string s] w fun e w'=>∃r,Pr.Comes s r/\VB w (Qb r) e w':=by
 have a0:=X1 (PB.new w);have h3:0<w.heap.size:=by have:=hG.2.2;omega
 have HQ:=X1 (AW s ((w.alloc Uu).alloc (Zv 0 0)) hs (hG.below a0.o.B hG.2.2));have c0:((Yf s:Nat):Int)=0:=by omega
 have e2:=MC s;have b2:=X1 (RX s);have b1:Hid (∀r,Pr.Cv (Y2 s) s.size (.fileL 0) KN r->Pr.Comes s r):=X1 (fun _ h=>h);rw[c0]at HQ;have HO:=X1 hO;clear c0 hG hO;go_enter func7,ntmps7;go_wp2_with fail;go_fit HQ.o;rintro e d⟨v,rfl,H,a2⟩;generalize Y2 s=ts at *;obtain⟨vp,vc,rfl⟩:=XA H;have a4:=QF d (Zv 0 (Ye s));have O:=(a0.o.below a2).below a4;have d5:=(a0.o.below a2).z;have X:=Qu H a4;have a7:BL w (d.alloc (Zv 0 (Ye s))):=O.B;have hd:=IP.init (sz:=s.size) X (by omega) b2.o (by have:=O.z;omega) (fun o ho=>⟨(a7.cell (p:=⟨0,o*2,none⟩) h3).trans (HO.o o ho).1,(a7.cell (p:=⟨0,o*2+1,none⟩) h3).trans (HO.o o ho).2⟩);rw[Yx]at hd;have a5:=QF (d.alloc (Zv 0 (Ye s))) (.cells #[.slice vp ts.length vc,.q 0,.q s.size] 59);have c1:=O.below a5;have J:((d.alloc (Zv 0 (Ye s))).z #[.slice vp ts.length vc,.q 0,.q s.size] 59).heap[d.heap.size]?=some (.cells #[.q 0,.q (Ye s)] 29 (0,0)):=(a5.block _ (by simp)).trans (heap_alloc_new d _);have V:((d.alloc (Zv 0 (Ye s))).z #[.slice vp ts.length vc,.q 0,.q s.size] 59).heap.size=d.heap.size+2:=by simp
 have Q:=X1 (X2y (s:=KN) rfl _ hd);have N:=X1 c1;have HX:=X1 J;clear hd O c1 X H a2 a4 a5 a7 J HQ HO;go_wp2_with fail;go_fit Q.o;rintro e u (⟨r,v4,l,rfl,y,W,F,k,S⟩|⟨q,rfl,d2,k⟩)
 .-- all has been read
  have a:=(k.block d.heap.size (by rw[V];omega) (by omega)).trans HX.o;have j:=N.o.mv k (by omega);have x0:u.cell? ⟨d.heap.size,0,none⟩=some (.q 0):=by simp only[World.cell?,a];rfl
  have x1:u.cell? ⟨d.heap.size,1,none⟩=some (.q (Ye s)):=by simp only[World.cell?,a];rfl
  have y0:u.frozen? ⟨d.heap.size,0,none⟩=false:=by simp only[World.frozen?,a];rfl
  have y1:u.frozen? ⟨d.heap.size,1,none⟩=false:=by simp only[World.frozen?,a];rfl
  obtain⟨tv,uv,rfl⟩:=S.iface;have d4:=k.size;rw[V]at d4;rw[V]at S;have I:Below d.heap.size u ((u.setCell ⟨d.heap.size,0,none⟩ (.q 0)).setCell ⟨d.heap.size,1,none⟩ (.q 0)):=((X8 _ u).setCell (p:=⟨d.heap.size,0,none⟩) (X5 _) _).setCell (p:=⟨d.heap.size,1,none⟩) (X5 _) _;have b0:((u.setCell ⟨d.heap.size,0,none⟩ (.q 0)).setCell ⟨d.heap.size,1,none⟩ (.q 0)).heap.size=u.heap.size:=by simp[World.setCell]
  have d3:=S.go (lo':=d.heap.size+2) (w':=(u.setCell ⟨d.heap.size,0,none⟩ (.q 0)).setCell ⟨d.heap.size,1,none⟩ (.q 0)) (X5 _) I.size (fun q hq _=>by
   rw[Y0 _ _ _ _ (show q≠d.heap.size by omega),Y0 _ _ _ _ (show q≠d.heap.size by omega)])
  have a1:=X1 (j.fresh I d5);have a9:=y.stp (Xb _);have d8:l.length<=40000:=by
   have h1:=a9.XP;have h2:=a9.le;rw[F]at h1;simp[KN,XX]at h1;omega
  have c5:Pr.Sm r.1:=y.sm b2.o (fun x J=>by simp[KN]at J);have C:r.1.o=l:=by rw[F];simp[KN]
  obtain⟨n,b9⟩:=d3;have Q2:=X1 (BN w.heap.size n _ _ _ _ b9 (fun q h=>h.2) (.slice none 0 0) [] (K7 _ _ _ _) (fun q e=>by simp[Value.ownBlock]at e) (by simp;omega) (by have:=a1.o.z;omega));have HR:=X1 (b1.o _ y);have HL:Hid ((X9 r.1 24 0 0 [] r.2).o=l++[⟨24,0,0,⟨#[]⟩,r.2⟩]):=X1 (by rw[←C];rfl);have b7:Hid (∀x∈l++[(⟨24,0,0,⟨#[]⟩,r.2⟩:Nd)],x.text.size<=1048576):=X1 (fun x J=>by
   rcases KC.1 J with J|J
   .have:=(c5 x (by rw[C];exact J)).1;omega
   .simp only[Kr,QU,J7]at J;rw[J];exact Xb _)
  have e0:1<=(l++[(⟨24,0,0,⟨#[]⟩,r.2⟩:Nd)]).length/\(l++[(⟨24,0,0,⟨#[]⟩,r.2⟩:Nd)]).length<=50000:=by simp;omega
  clear y F C c5 a9 S b9 k j a Q N HX;generalize l++[(⟨24,0,0,⟨#[]⟩,r.2⟩:Nd)]=L at *;go_wp2_with fail;go_fit Q2.o;rintro e M⟨sv,rfl,U,A⟩;rw[JJ]at U;have a3:Below ((u.setCell ⟨d.heap.size,0,none⟩ (.q 0)).setCell ⟨d.heap.size,1,none⟩ (.q 0)).heap.size ((u.setCell ⟨d.heap.size,0,none⟩ (.q 0)).setCell ⟨d.heap.size,1,none⟩ (.q 0)) M:=⟨A.mv.os,A.mv.tape,A.mv.output,A.mv.size,fun q hq=>A.mv.block q hq (fun e=>by simp[Value.ownBlock]at e)⟩;obtain⟨g,K,rfl⟩:∃g K,sv= .l g L.length K:=by
   rcases U.2 with⟨_,h0⟩|⟨g,cap,d9,hv,_⟩
   .omega
   .exact⟨g,cap,hv⟩
  have e1:u.heap.size<=g:=by
   rcases A.own with h|h
   .simp[Value.ownBlock]at h
   .have:=h g rfl;rw[b0]at this;exact this
  have a6:=QF M (.cells #[.l g L.length K] 25);have a8:=Qu U a6;have c2:=(a1.o.below a3).below a6;have d6:=a3.size;rw[b0]at d6;have c6:=heap_alloc_new M (.cells #[.l g L.length K] 25);have c8:(M.z #[.l g L.length K] 25).heap.size=M.heap.size+1:=by simp
  have Q3:=X1 (On L g K (M.z #[.l g L.length K] 25) (by omega) b7.o (Gu a8));rw[Iw]at Q3;have b5:=X1 a8;have b3:=X1 c2;have b8:=X1 c6;clear U a8 c2 c6 a6 a3 A Q2 a1 b7 I b0 x0 x1 y0 y1;go_wp2_with fail;go_fit Q3.o;rintro e w8⟨rfl,E⟩;have m:=b3.o.below E;have t0:=m.t0;have f0:=m.f0;have f1:=m.f1;have ft:=m.ft;have d0:=m.ff 0;have d1:=m.ff 1;have c7:=(E.block M.heap.size (by rw[c8];exact Q9 _)).trans b8.o;have x8:w8.cell? ⟨M.heap.size,0,none⟩=some (.l g L.length K):=by simp only[World.cell?,c7];rfl
  have d7:=E.size;rw[c8]at d7;have b6:=X1 (Qu b5.o E);have b4:=X1 m;have n1:¬M.heap.size=w.heap.size:=by omega
  have n2:¬M.heap.size=w.heap.size+1:=by omega
  clear m E c7 Q3 b5 b3 b8;cases Z:YG L
  .have HV:Hid (Qb (r.1,r.2)=([],7,0)):=X1 (Mx HL.o W Z);go_wp2;refine Xq (v:= .tuple #[.agg #[.slice none 0 0],.agg #[.q 7,.q 0]]) (by simp[results,results7,go_sem,t0,f0,f1]) rfl ?_;refine⟨r,HR.o,?_⟩;rw[show Qb r=([],7,0)from HV.o];refine⟨.slice none 0 0,rfl,K7 _ _ _ _,?_⟩;repeat(first|(refine Qw ?_ (by show w.heap.size<=_;simp) _)|(refine Jp ?_))
   exact b4.o.B
  .have HV:Hid (Qb (r.1,r.2)=(L,0,0)):=X1 (Im HL.o W Z);go_wp2;refine Xq (v:= .tuple #[.agg #[.l g L.length K],.agg #[.q 0,.q 0]]) (by simp[results,results7,go_sem,t0,f0,f1]) rfl ?_;refine⟨r,HR.o,?_⟩;rw[show Qb r=(L,0,0)from HV.o];refine⟨.l g L.length K,rfl,?_,?_⟩
   .refine Vn b6.o (fun q e=>(b6.o.lt q e).1) (fun q e=>?_);cases e;rw[Y0 _ _ _ _ (show g≠w.heap.size+1 by omega),Y0 _ _ _ _ (show g≠w.heap.size+1 by omega),Y0 _ _ _ _ (show g≠w.heap.size by omega)]
   .repeat(first|(refine Qw ?_ (by show w.heap.size<=_;simp) _)|(refine Jp ?_))
    exact b4.o.B
 .-- it is stuck
  have a:=(k.block d.heap.size (by rw[V];omega) (by omega)).trans HX.o;have j:=N.o.mv k (by omega);have x0:u.cell? ⟨d.heap.size,0,none⟩=some (.q 0):=by simp only[World.cell?,a];rfl
  have x1:u.cell? ⟨d.heap.size,1,none⟩=some (.q (Ye s)):=by simp only[World.cell?,a];rfl
  have y0:u.frozen? ⟨d.heap.size,0,none⟩=false:=by simp only[World.frozen?,a];rfl
  have y1:u.frozen? ⟨d.heap.size,1,none⟩=false:=by simp only[World.frozen?,a];rfl
  have t0:=j.t0;have f0:=j.f0;have f1:=j.f1;have ft:=j.ft;have d0:=j.ff 0;have d1:=j.ff 1;have n1:¬d.heap.size=w.heap.size:=by omega
  have n2:¬d.heap.size=w.heap.size+1:=by omega
  have n3:¬w.heap.size=d.heap.size:=by omega
  have n4:¬w.heap.size+1=d.heap.size:=by omega
  obtain⟨r,y,c3,c4⟩:=d2;have HR:=X1 (b1.o _ y);have HV:Hid (Qb r=([],6,q)):=X1 (by unfold Qb;rw[Xa c3,c4]);have c9:=X1 j;clear y c3 c4 j k a Q N HX;go_wp2;go_region;all_goals
   try go_wp2
   refine Xq (v:= .tuple #[.agg #[.slice none 0 0],.agg #[.q 6,.q (q:Int)]]) (by simp[results,results7,go_sem,t0,f0,f1]) rfl ?_;refine⟨r,HR.o,?_⟩;rw[HV.o];refine⟨.slice none 0 0,rfl,K7 _ _ _ _,?_⟩;repeat(first|(refine Qw ?_ (by simp<;>omega) _)|(refine Jp ?_))
   exact c9.o.B
theorem X5e(s:ByteArray)(w:World)(g:s.size<=1048576)(d:Zy w)(j:Ip.Zy w): Calls prog 7 #[.string s] w fun e w'=>∃r,Pr.Qz s r/\VB w r e w':=by
 by_cases a:Yf s=0
 .exact(X5g s w g d j a).mono (fun e w' ⟨r,u,n⟩=>⟨_,.inr ⟨a,r,u,rfl⟩,n⟩)
 .exact(X5f s w g d a).mono (fun e w' ⟨m,k⟩=>⟨_,.inl ⟨a,rfl⟩,_,m,K7 _ _ _ _,k⟩)
open Rb
theorem Tu(W:World)(v:Value)(t:TypeId):(W.alloc (.cells #[v] t)).c W.heap.size 0=some v/\True:=⟨by simp,trivial⟩
theorem GP{w:World}{B:Nat}{v:Value}{l:List Nd}(d:w.ownsRow B 64 5 v l.length (Xh l)):(v= .slice none 0 0/\l=[])\/∃g c,v= .l g l.length c/\K1 w g l:=by
 rcases d.2 with⟨a,k⟩|⟨g,c,j,a,_⟩
 .exact .inl ⟨a,Uy.1 k⟩
 .subst a;exact .inr ⟨g,c,rfl,Gu d⟩
theorem Y3h(s pb:Option Addr)(j k:Nat)(l:List Nd)(w:World){O Q:Nat}(K:w.ownsRow O 64 5 (.slice s l.length j) l.length (Xh l))(L:w.ownsRow Q 64 5 (.slice pb l.length k) l.length (Xh l))(hl:l.length<=1048576):CB 8 #[.agg #[.slice s l.length j],.agg #[.slice pb l.length k]] w (.bool true):=by
 have r2:BL w ((w.alloc (.cells #[.slice s l.length j] 25)).alloc (.cells #[.slice pb l.length k] 25)):=(bA _).alloc (by simp) _;have N:((w.alloc (.cells #[.slice s l.length j] 25)).alloc (.cells #[.slice pb l.length k] 25)).c w.heap.size 0=some (.slice s l.length j):=by
  have Z:=(X8 (w.heap.size+1) (w.alloc (.cells #[.slice s l.length j] 25))).alloc (by simp) (.cells #[.slice pb l.length k] 25);exact(Z.cell (p:=⟨w.heap.size,0,none⟩) (Q9 _)).trans (by simp)
 have x1:((w.alloc (.cells #[.slice s l.length j] 25)).alloc (.cells #[.slice pb l.length k] 25)).c (w.heap.size+1) 0=some (.slice pb l.length k):=by
  have:=Tu (w.alloc (.cells #[.slice s l.length j] 25)) (.slice pb l.length k) 25;rw[Yx]at this;exact this.1
 have S:=X1 (GP K);have U:=X1 (GP L);clear K L;have a5:((w.alloc (.cells #[.slice s l.length j] 25)).alloc (.cells #[.slice pb l.length k] 25)).heap.size=w.heap.size+1+1:=by simp
 go_enter func8,ntmps8;go_upto_region 3 with fail;generalize J:(w.alloc (.cells #[.slice s l.length j] 25)).alloc (.cells #[.slice pb l.length k] 25)=w2 at *;clear J;go_wp2_with fail;go_loopw[5] (fun t wr=>∃i:Nat,i<=l.length/\t= .q (i:Int)/\BL w2 wr) (fun t _=>l.length-(intOf t).toNat)
 case atStart=>exact⟨0,Xb _,rfl,X8 _ _⟩
 case round=>
  obtain⟨i,hi,rfl,F⟩:=hrel;have d0:=(F.cell (p:=⟨w.heap.size,0,none⟩) (by show w.heap.size<_;omega)).trans N;have a:=X1 F;clear F;by_cases d:i<l.length
  .have M:(i:Int)<(l.length:Int):=by omega
   obtain⟨ga,V,H,u⟩:∃g B,Value.slice s l.length j= .l g l.length B/\K1 w g l:=by
    rcases S.o with⟨_,C⟩|E
    .rw[C]at d;cases d
    .exact E
   obtain⟨gb,W,I,v⟩:∃g B,Value.slice pb l.length k= .l g l.length B/\K1 w g l:=by
    rcases U.o with⟨_,C⟩|E
    .rw[C]at d;cases d
    .exact E
   cases H;cases I;have m:=X1 (fun q:KB wr=>(((u.below r2).below a.o).below q.below).2 i d);have r:=X1 (fun q:KB wr=>(((v.below r2).below a.o).below q.below).2 i d);clear u v;haveI hne:Nonempty (KB wr):=⟨⟨_,X8 _ _⟩⟩;generalize l[i]=x at *;have e0:∀q:KB wr,q.w.c w.heap.size 0=some (.l ga l.length j):=fun q=>((a.o.trans (q.below.mono a.o.size)).cell (p:=⟨w.heap.size,0,none⟩) (by show w.heap.size<_;omega)).trans N;have e1:∀q:KB wr,q.w.c (w.heap.size+1) 0=some (.l gb l.length k):=fun q=>((a.o.trans (q.below.mono a.o.size)).cell (p:=⟨w.heap.size+1,0,none⟩) (by show w.heap.size+1<_;omega)).trans x1;have a0:∀q:KB wr,q.w.c ga (i*5)=some (.q x.kind):=fun q=>(m.o q).1;have a1:∀q:KB wr,q.w.c ga (i*5+1)=some (.q x.op):=fun q=>(m.o q).2.1;have a2:∀q:KB wr,q.w.c ga (i*5+2)=some (.q x.n):=fun q=>(m.o q).2.2.1;have a3:∀q:KB wr,q.w.c ga (i*5+3)=some (.string x.text):=fun q=>(m.o q).2.2.2.1;have a4:∀q:KB wr,q.w.c ga (i*5+4)=some (.q x.kids):=fun q=>(m.o q).2.2.2.2;have b0:∀q:KB wr,q.w.c gb (i*5)=some (.q x.kind):=fun q=>(r.o q).1;have b1:∀q:KB wr,q.w.c gb (i*5+1)=some (.q x.op):=fun q=>(r.o q).2.1;have b2:∀q:KB wr,q.w.c gb (i*5+2)=some (.q x.n):=fun q=>(r.o q).2.2.1;have b3:∀q:KB wr,q.w.c gb (i*5+3)=some (.string x.text):=fun q=>(r.o q).2.2.2.1;have b4:∀q:KB wr,q.w.c gb (i*5+4)=some (.q x.kids):=fun q=>(r.o q).2.2.2.2;go_wp2_with fail;refine Z2 (KB.w (w:=wr)) (by kernel_rfl) (by kernel_rfl) ⟨⟨_,below_drewN (X8 _ _) _⟩,rfl⟩ ?_;repeat(go_big_quiet_step (fail))
   refine wpQuiet_nil ?_;rintro _⟨q,rfl⟩;have A:=X1 (a.o.trans (q.below.mono a.o.size));go_wp2;go_roundw
   case rel=>exact⟨i+1,by omega,by go_num,A.o⟩
   case measure=>simp[intOf];omega
  .have X:¬(i:Int)<(l.length:Int):=by omega
   have y:=X1 (r2.trans (a.o.mono r2.size));go_wp2;go_ret;exact⟨rfl,y.o⟩
theorem AX(w:World):CB 11 #[.agg #[.slice none 0 0]] w (.bool false):=by
 have r1:BL w (w.alloc (.cells #[.slice none 0 0] 25)):=bA _;go_enter func11,ntmps11;go_wp2_with fail;go_fit(M7 _);rintro e j⟨rfl,g,a⟩;have d:Hid (BL w j):=X1 (r1.trans (a.mono (by simp)));have k:j.c w.heap.size 0=some (.slice none 0 0):=(a.cell (p:=⟨w.heap.size,0,none⟩) (by simp)).trans (by simp);clear g a;rw[Yx]at *;go_wp2;go_loopw[4,17] (fun n t wr=>n= .slice none 0 0/\t= .q 0/\BL j wr) (fun _ _ _=>0)
 case atStart=>exact⟨rfl,rfl,X8 _ _⟩
 case round=>
  obtain⟨rfl,rfl,m⟩:=hrel;go_wp2;go_ret;exact⟨rfl,d.o.trans (m.mono d.o.size)⟩
structure Lt (l:List Nd) (v:Value) (w:World):Prop where
 row:w.ownsRow 0 64 5 v l.length (Xh l)
 ok:∀x∈l,x.text.size<=1000000/\x.n<=9223372036854775807
 len:l.length<=300000
theorem Lt.below{l:List Nd}{v:Value}{w w':World}(h:Lt l v w)(a:BL w w'):Lt l v w':=⟨Qu h.row a,h.ok,h.len⟩
theorem X5h(w:World):CB 5 #[.agg #[.slice none 0 0]] w (.t #[]):=by
 have a:=X1 (AX (w.alloc (.cells #[.slice none 0 0] 25)));go_enter func5,ntmps5;go_wp2_with fail;go_fit a.o;rintro e g⟨rfl,d⟩;go_wp2;go_ret;exact⟨rfl,(bA _).trans (d.mono (by simp))⟩
theorem Lt.print{l:List Nd}{v:Value}{w:World}(h:Lt l v w)(d:GA w):CB 5 #[.agg #[v]] w (.string (prn l)):=by
 have k:=h.len;rcases GP h.row with⟨rfl,rfl⟩|⟨g,c,rfl,j⟩
 .rw[GI rfl];exact X5h w
 .exact X5i l g c w (by omega) (fun x a=>by have:=(h.ok x a).1;omega) j (fun x a=>(h.ok x a).2) d
theorem Lt.sprint{l:List Nd}{v:Value}{w:World}(h:Lt l v w):CB 6 #[.agg #[v]] w (.string (prn l)):=by
 have j:=h.len;rcases GP h.row with⟨rfl,rfl⟩|⟨g,c,rfl,a⟩
 .rw[GI rfl];exact Ci w
 .exact Cg l g c w (by omega) a (fun x d=>(h.ok x d).2)
theorem Lt.valid{l:List Nd}{v:Value}{w:World}(h:Lt l v w):CB 11 #[.agg #[v]] w (.bool (YG l)):=by
 have j:=h.len;rcases GP h.row with⟨rfl,rfl⟩|⟨g,c,rfl,a⟩
 .exact AX w
 .rw[←Iw];exact On l g c w (by omega) (fun x d=>by have:=(h.ok x d).1;omega) a
theorem Lt.same{l:List Nd}{g pb:Option Addr}{a d:Nat}{w:World}(h:Lt l (.slice g l.length a) w)(k:Lt l (.slice pb l.length d) w):CB 8 #[.agg #[.slice g l.length a],.agg #[.slice pb l.length d]] w (.bool true):=Y3h g pb a d l w h.row k.row (by have:=h.len;omega)
theorem VB.lt{w:World}{s:ByteArray}{r:List Nd × Nat × Nat}{e:Ending}{w':World}(a:Pr.Qz s r)(h:VB w r e w'):∃p c,e= .returned (.tuple #[.agg #[.slice p r.1.length c],.agg #[.q r.2.1,.q r.2.2]])/\Lt r.1 (.slice p r.1.length c) w'/\Below w.heap.size w w':=by
 obtain⟨v,j,d,g⟩:=h;obtain⟨p,c,rfl⟩:=XA d;exact⟨p,c,j,⟨GO d (Xb _),fun x k=>by have:=a.Ai x k;exact⟨by omega,this.2⟩,by have:=a.len;omega⟩,g⟩
structure GL (w:World):Prop where
 ga:GA w
 gl:Zy w
theorem GL.below{w w':World}(h:GL w)(a:BL w w'):GL w':=⟨h.ga.below a,h.gl.below a h.gl.2.2⟩
theorem GL.parse{w:World}(h:GL w)(s:ByteArray)(g:s.size<=1048576):Calls prog 7 #[.string s] w fun e w'=>∃r,Pr.Qz s r/\∃p c,e= .returned (.tuple #[.agg #[.slice p r.1.length c],.agg #[.q r.2.1,.q r.2.2]])/\Lt r.1 (.slice p r.1.length c) w'/\Below w.heap.size w w':=(X5e s w g h.gl h.ga.op).mono fun _ _ ⟨r,a,d⟩=>⟨r,a,d.lt a⟩
theorem Y1m(s:ByteArray)(w:World)(g:s.size<=1048576):Calls prog 10 #[.string s] w fun e w'=>∃r,Pr.Qz s r/\∃p c,e= .returned (.tuple #[.agg #[.slice p r.1.length c],.agg #[.q r.2.1,.q r.2.2]])/\Lt r.1 (.slice p r.1.length c) w'/\Below w.heap.size w w':=(Ed s w g).mono fun _ _ ⟨r,a,d⟩=>⟨r,a,d.lt a⟩
theorem Rb.Ck{l:List Nd}(j:∀x∈l,x.n<=9223372036854775807)(h:¬prn l=⟨#[]⟩):Pr.Qz (prn l) (l,0,0):=by
 by_cases a:YG l=true/\(txt (root l)).length<=8000
 .have e:prn l=⟨(txt (root l)).toArray⟩:=by unfold prn;rw[Xa a]
  have g:=Pq a.1;obtain⟨d,x,ks,m,k⟩:=CI a.1;rw[e];rw[m]at g d a⊢;have:=Xdo (x:=x) (p:=0) (b:=0) (ks:=ks) k d (by rw[g];exact j) a.2 (by rw[g];exact a.1)
  rwa[g]at this
 .exact absurd (by unfold prn;rw[X6 a]) h
theorem Pr.Qz.X2a{s:ByteArray}{r:List Nd × Nat × Nat}(h:Pr.Qz s r):(r.2.1≠0->r.1=[])/\(r.2.1=0->YG r.1=true):=by
 rcases h with⟨a,rfl⟩|⟨_,d,_,rfl⟩
 .exact⟨fun _=>rfl,fun e=>absurd e a⟩
 .unfold Qb;split
  .exact⟨fun _=>rfl,fun e=>by cases e⟩
  .split
   .rename_i g;exact⟨fun e=>absurd rfl e,fun _=>g⟩
   .exact⟨fun _=>rfl,fun e=>by cases e⟩
theorem Th{w w':World}{v:Value}{m:Nat}(h:ByV w v m)(d:BL w w'):ByV w' v m:=by
 rcases h with h|⟨g,o,c,j,n,r,a,s⟩
 .exact .inl h
 .refine .inr ⟨g,o,c,j,n,r,XH a d.size,fun i hi=>?_⟩;obtain⟨k,y,u⟩:=s i hi;exact⟨k,y,(d.cell (p:=⟨g,o+i,none⟩) a).trans u⟩
structure TF (b:Nat) (v:Value) (x y:Int) (w:World):Prop where
 lt:b+1<w.heap.size
 c0:w.cell? ⟨b,0,none⟩=some v
 d0:w.cell? ⟨b+1,0,none⟩=some (.q x)
 d1:w.cell? ⟨b+1,1,none⟩=some (.q y)
theorem TF.new(w:World)(v:Value)(x y:Int):TF w.heap.size v x y ((w.z #[v] 25).z #[.q x,.q y] 29):=⟨by simp,by simp,by simp,by simp⟩
theorem TF.below{b:Nat}{v:Value}{x y:Int}{w w':World}(h:TF b v x y w)(a:BL w w'):TF b v x y w':=
 have d:=h.lt
 ⟨XH d a.size,(a.cell (p:=⟨b,0,none⟩) (by show b<_;omega)).trans h.c0,(a.cell (p:=⟨b+1,0,none⟩) d).trans h.d0,(a.cell (p:=⟨b+1,1,none⟩) d).trans h.d1⟩
theorem M2(w:World)(v:Value)(x y:Int):Below w.heap.size w ((w.z #[v] 25).z #[.q x,.q y] 29):=(bA _).alloc (by simp) _
theorem X8j(HD:∀m v w,ByV w v m->Calls prog 4 #[v] w fun e w'=>∃v l,e= .returned (.agg #[v])/\NR w' v l/\l.length<=300000/\BL w w')(HS:∀m v w,ByV w v m->Calls prog 9 #[v] w fun e w'=>∃s:ByteArray,e= .returned (.string s)/\s.size<=300000/\BL w w')(m:Nat)(v:Value)(w:World)(h:ByV w v m)(hG:GL w): CB 3 #[v] w (.bool true):=by
 have c4:=X1 (HD m v w h);have d8:=X1 (fun w' (hb:BL w w')=>HS m v w' (Th h hb));have HG:=X1 hG;obtain⟨vp,vl,vc,rfl⟩:∃p l c,v= .slice p l c:=by
  rcases h with⟨q,c,h,_⟩|⟨g,o,c,h,_⟩
  .exact⟨_,_,_,h⟩
  .exact⟨_,_,_,h⟩
 clear h hG HD HS;by_cases f1:(1048576:Int)<(vl:Int)
 .go_enter func3,ntmps3;go_wp2;go_ret;exact⟨rfl,X8 _ _⟩
 go_enter func3,ntmps3;go_wp2_with fail;go_fit c4.o;rintro e L⟨v1,l,rfl,S,e8,a9⟩;obtain⟨p,c,rfl⟩:=XA S.1;have q1:BL L (L.z #[.slice p l.length c] 25):=bA _;have L1:Lt l (.slice p l.length c) L:=⟨S.1,fun x hx=>by have:=S.2 x hx;exact⟨this.1,by omega⟩,e8⟩;have L2:=L1.below q1;have B2:=a9.trans (q1.mono a9.size);have x2:(L.z #[.slice p l.length c] 25).cell? ⟨L.heap.size,0,none⟩=some (.slice p l.length c):=by simp
 have b1:L.heap.size<(L.z #[.slice p l.length c] 25).heap.size:=by simp
 have HP:=X1 (L2.print (HG.o.below B2).ga);have y:=X1 (Ck (fun x hx=>(L1.ok x hx).2));have b0:=Pg l;have HQ:=X1 (fun w' (hb:BL w w') (h:Lt l (.slice p l.length c) w')=>h.sprint);have a6:=X1 (fun w' u (hb:BL w w') (h:Lt l u w')=>h.print (HG.o.below hb).ga);clear S a9 q1 L1 c4;generalize prn l=s at *;have H2:=X1 L2;clear L2;go_wp2_with fail;go_fit HP.o;rintro e w2⟨rfl,b2⟩;have x3:=(b2.cell (p:=⟨L.heap.size,0,none⟩) b1).trans x2;have c1:=XH b1 b2.size;have B3:=B2.trans (b2.mono B2.size);have H3:=X1 (H2.o.below b2);clear b2 x2 b1 B2 H2 HP;go_wp2_with fail;go_fit(HQ.o w2 B3 H3.o);rintro e w3⟨rfl,W⟩;have x4:=(W.cell (p:=⟨L.heap.size,0,none⟩) c1).trans x3;have c2:=XH c1 W.size;have a:=X1 (B3.trans (W.mono B3.size));have H4:=X1 (H3.o.below W);clear W x3 c1 B3 H3 HQ;by_cases h0:s=⟨#[]⟩;case' pos=>
  subst h0;clear x4 c2 H4 y a6 b0;go_wp2_with fail
 case' neg=>
  have E:=X1 ((HG.o.below a.o).parse s (by omega));go_wp2_with fail;go_fit E.o;rintro e w5⟨⟨r,cd,j⟩,J,K,I,n,L5,b5⟩;obtain⟨rfl,rfl,rfl⟩:r=l/\cd=0/\j=0:=by
   have:=J.same (y.o h0);simpa using this
  have n:e= .returned (.tuple #[.agg #[.slice K r.length I],.agg #[.q 0,.q 0]]):=n;subst n;have b6:=M2 w5 (.slice K r.length I) 0 0;have B6:=b5.trans (b6.mono b5.size);have V:=TF.new w5 (.slice K r.length I) 0 0;have x6:=(B6.cell (p:=⟨L.heap.size,0,none⟩) c2).trans x4;obtain⟨t1,t2,t3,t4⟩:=V;have L6:Lt r (.slice K r.length I) _:=Lt.below L5 b6;have HW:=X1 (L6.same (H4.o.below B6));have d:=X1 (a.o.trans (B6.mono a.o.size));have H6:=X1 L6;have V:=X1 (TF.new w5 (.slice K r.length I) 0 0);clear b5 b6 B6 L5 L6 x4 H4 c2 J E;go_wp2_with fail;go_fit HW.o;rintro e w7⟨rfl,H⟩;have T7:=V.o.below H;have y0:=T7.c0;have B7:=d.o.trans (H.mono d.o.size);have d5:=X1 (a6.o w7 _ B7 (H6.o.below H));clear H T7 HW t1 t2 t3 t4 x6 H6 V;go_wp2_with fail;go_fit d5.o;rintro e w3⟨rfl,W⟩;have a:=X1 (B7.trans (W.mono B7.size));clear W B7 d5 y0 d a6 y b0;go_wp2_with fail
 all_goals
  go_fit(d8.o w3 a.o);rintro e w4⟨c3,rfl,e9,b4⟩;have B4:=a.o.trans (b4.mono a.o.size);have E:=X1 ((HG.o.below B4).parse c3 (by omega));clear b4 d8 a;go_wp2_with fail;go_fit E.o;rintro e w5⟨⟨r,cd,j⟩,J,K,I,n,L5,b5⟩;have n:e= .returned (.tuple #[.agg #[.slice K r.length I],.agg #[.q cd,.q j]]):=n;subst n;have b6:=M2 w5 (.slice K r.length I) cd j;have B5:=B4.trans (b5.mono B4.size);have d:=X1 (B5.trans (b6.mono B5.size));have V:=X1 (TF.new w5 (.slice K r.length I) cd j);have H6:Hid (Lt r (.slice K r.length I) _):=X1 (Lt.below L5 b6);have d0:=X1 J;clear b5 b6 B5 B4 L5 J E;have d6:=X1 (Y1m c3 _ (Xz e9 (by decide)):Calls prog 10 #[.string c3] ((w5.z #[.slice K r.length I] 25).z #[.q cd,.q j] 29) _);go_wp2_with fail;go_fit d6.o;rintro e w7⟨⟨U,k,M⟩,X,p7,c7,n,L7,H⟩;obtain⟨rfl,rfl,rfl⟩:U=r/\k=cd/\M=j:=by
   have:=X.same d0.o;simpa using this
  have n:e= .returned (.tuple #[.agg #[.slice p7 U.length c7],.agg #[.q k,.q M]]):=n;subst n;have b8:=M2 w7 (.slice p7 U.length c7) k M;have B8:=d.o.trans ((H.trans (b8.mono H.size)).mono d.o.size);have T8:=(V.o.below H).below b8;have H8:=(H6.o.below H).below b8;obtain⟨a1,a2,a3,a4⟩:=T8;obtain⟨d1,d2,d3,d4⟩:=TF.new w7 (.slice p7 U.length c7) k M;have HW:=X1 (H8.same (Lt.below L7 b8));have a0:=X1 B8;have d9:=X1 ((V.o.below H).below b8);have c6:=X1 H8;clear H b8 B8 H8 L7 X d6 V H6 d;go_wp2_with fail;go_fit HW.o;rintro e w9⟨rfl,b9⟩;have T9:=d9.o.below b9;have e0:=X1 T9;obtain⟨e1,e2,e3,e4⟩:=T9;have A:=X1 (a0.o.trans (b9.mono a0.o.size));have H9:=X1 (c6.o.below b9);have Q:=d0.o.X2a;clear b9 a0 d9 c6 HW a1 a2 a3 a4 d1 d2 d3 d4;by_cases hc:k=0
  case neg=>
   have e7:U=[]:=Q.1 hc;subst e7;have f2:((k:Int)==0)=false:=by simpa using hc
   have f3:¬(k:Int)=0:=by omega
   clear Q;go_wp2;go_ret;exact⟨rfl,A.o⟩
  subst hc;have HV:=X1 (show YG U=true from Q.2 rfl);have c8:=X1 (H9.o.print (HG.o.below A.o).ga);have y:=X1 (Ck (fun x hx=>(H9.o.ok x hx).2));have b0:=Pg U;clear Q;generalize prn U=s2 at *;go_wp2_with fail;go_fit c8.o;rintro e wa⟨rfl,ba⟩;have Ba:=A.o.trans (ba.mono A.o.size);have e5:=X1 (e0.o.below ba);have Ha:=X1 (H9.o.below ba);have c9:=X1 ((HG.o.below Ba).parse s2 (by omega));have a5:=X1 Ba;clear ba Ba e0 H9 A c8 e1 e2 e3 e4;go_wp2_with fail;go_fit c9.o;rintro e wb⟨⟨lb,cb,ab⟩,Z,pb,O,n,Lb,bb⟩;have n:e= .returned (.tuple #[.agg #[.slice pb lb.length O],.agg #[.q cb,.q ab]]):=n;subst n;have bc:=M2 wb (.slice pb lb.length O) cb ab;have Bc:=a5.o.trans ((bb.trans (bc.mono bb.size)).mono a5.o.size);have Tx:=(e5.o.below bb).below bc;have Hx:=X1 ((Ha.o.below bb).below bc);have a8:=X1 (TF.new wb (.slice pb lb.length O) cb ab);have Hz:Hid (Lt lb (.slice pb lb.length O) _):=X1 (Lt.below Lb bc);have a7:=X1 Tx;have f0:=Tx.c0;have F:=X1 (Hx.o.valid);rw[HV.o]at F;have B:=X1 Bc;have d7:=X1 Z;clear bb bc Bc Lb Z c9 e5 Ha a5 Tx;by_cases h2:s2=⟨#[]⟩
  case pos=>
   subst h2;go_wp2_with fail;go_fit F.o;rintro e wd⟨rfl,N⟩;have C:=X1 (B.o.trans (N.mono B.o.size));clear N;go_wp2;go_ret;exact⟨rfl,C.o⟩
  obtain⟨rfl,rfl,rfl⟩:lb=U/\cb=0/\ab=0:=by
   have:=d7.o.same (y.o h2);simpa using this
  rw[show((0:Nat):Int)=0 from rfl]at f0 F B a8 Hz a7 Hx;have h3:¬s2.toList=[]:=fun e=>h2 (by rw[Ri]at e;exact Mb (Array.toList_eq_nil_iff.1 e));go_wp2_with fail;go_fit F.o;rintro e wd⟨rfl,N⟩;have C:=B.o.trans (N.mono B.o.size);obtain⟨g1,g2,g3,g4⟩:=a8.o.below N;obtain⟨k1,k2,k3,k4⟩:=a7.o.below N;have HW:=X1 ((Hz.o.below N).same (Hx.o.below N));clear N a8 a7 Hz Hx F d7 y;go_wp2_with fail;go_fit HW.o;rintro e we⟨rfl,be⟩;have e6:=X1 (C.trans (be.mono C.size));clear be C g1 g2 g3 g4 k1 k2 k3 k4;go_wp2;go_ret;exact⟨rfl,e6.o⟩
