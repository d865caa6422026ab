import Derived.Test.YtkoiikmhfaebnaaGreatDoorB23
set_option maxHeartbeats 2000000
set_option maxRecDepth 100000
namespace Go.Proofs.YtkoiikmhfaebnaaGreatDoor
open Tryz Go.RowKit
theorem X8a(q:Value)(a:Option Addr)(c:Nat)(p:Option Addr)(w:World): Calls prog 157 #[q,.slice a 0 c,.pointer p] w fun e w'=>e= .returned (.tuple #[])/\Below w.heap.size w w':=by
 go_enter func157,ntmps157;go_wp2_with fail;refine(IJ p w).mono ?_;rintro e w1⟨rfl,d⟩;have g:Hid (BL w w1):=X1 (by rw[d];exact(MY w p).2.2.2.1);clear d;go_wp2;go_loopw[7,16] (fun j t wr=>j= .slice none 0 0/\t= .int .i64 0/\wr=w1) (fun _ _ _=>0)
 case atStart=>exact⟨rfl,rfl,rfl⟩
 case round=>
  obtain⟨rfl,rfl,rfl⟩:=hrel;go_wp2_with fail;refine(AE q (.pointer (some ⟨w.heap.size+1,0,none⟩)) none 0 _).mono ?_;rintro e k⟨rfl,rfl⟩;go_wp2;(first|go_end0|refine X7 (Yf rfl _ _ _) rfl ?_);exact⟨rfl,g.o⟩
theorem X7z(ns:List Nd)(ks:List (List Nat))(d u t r q cg bg f:Nat)(G:Nat->List Sp->St->St)(F:Vo ns ks d u t r q cg bg f G)(J:ns.length<=5000)(ls:List Nat)(v:Value)(j:List Sp)(p:Option Addr)(s:St)(w:World)(n:∀x∈ls,x<f/\x<ns.length)(I:ls.length<=5000)(m:∀k (h:k<ks.length),∀x∈ks[k],x<ns.length)(l:∀k,(X9 ks k).length<=5000)(E:Ix ns ks d u t r q cg bg w)(y:Dy ns.length cg bg s w)(D:Zf cg bg w w.heap.size p j)(H:PlV cg bg w v ls): Calls prog 157 #[.pointer (some ⟨d,0,none⟩),v,.pointer p] w fun e w'=>e= .returned (.tuple #[])/\Kp cg bg w w'/\Dy ns.length cg bg (WH G ns ks ls j s) w':=by
 rcases H with⟨a,c,rfl,rfl⟩|⟨g,o,c,rfl,A,B,_,C⟩
 .refine(X8a _ _ _ _ _).mono ?_;rintro e w'⟨rfl,z⟩;exact⟨rfl,Kp.Ky z,y.below z⟩
 .exact X8b ns ks d u t r q cg bg f G F J ls g o c j p s w n I m l E y D A B C
theorem PlV.tail{cg bg:Nat}{w:World}{g o c x:Nat}{r:List Nat}(d:g≠cg)(j:g≠bg)(a:(x::r).length<=c)(k:Yz w g o (x::r)):PlV cg bg w (.slice (if c=1 then some ⟨g,o,none⟩else some ⟨g,o+1,none⟩) r.length (c-1)) r:=by
 by_cases h:c=1
 .have:r=[]:=by
   cases r with
   | nil=>rfl
   | cons _ _=>simp at a;omega
  subst this;exact .inl ⟨_,_,rfl,rfl⟩
 .rw[X2 h];exact .inr ⟨g,o+1,c-1,rfl,d,j,by simp at a;omega,k.drop 1⟩
theorem Y6q(ns:List Nd)(ks:List (List Nat))(V S X Q W cg bg f:Nat)(G:Nat->List Sp->St->St)(hG:Vo ns ks V S X Q W cg bg f G)(hn:ns.length<=5000)(k:Nat)(kd:Int)(x:Nat)(r:List Nat)(g o c:Nat)(J:List Sp)(p:Option Addr)(s:St)(w:World)(a1:k<ns.length)(a0:kd=14\/kd=16)(a2:w.cell? ⟨Q,k,none⟩=some (.slice (some ⟨g,o,none⟩) (r.length+1) c))(n0:w.cell? ⟨S,k*5,none⟩=some (.int .i64 kd))(hF:Ix ns ks V S X Q W cg bg w)(hD:Dy ns.length cg bg s w)(hC:Zf cg bg w w.heap.size p J)(F:r.length+1<=c)(a6:r.length+1<=5000)(a8:w.cell? ⟨g,o,none⟩=some (.int .i64 x))(P:∀y∈x::r,y<f/\y<ns.length)(hT:PlV cg bg w (.slice (if c=1 then some ⟨g,o,none⟩else some ⟨g,o+1,none⟩) r.length (c-1)) r): Calls prog 90 #[.pointer (some ⟨V,0,none⟩),.int .i64 k,.pointer p] w fun e w'=>e= .returned (.tuple #[])/\Kp cg bg w w'/\Dy ns.length cg bg (ZQ G r ([(Xi ns k,(k:Int))]::J) (G x J s)) w':=by
 have f0:=hF.f0;have f1:=hF.f1;have HG:=X1 hG;have HF:=X1 hF;have HD:=X1 hD;have HC:=X1 hC;have a4:=X1 P;have HT:=X1 hT;have C:=P x (by simp);have E:Hid (∀s1,ZB ns k ([],s1)=([(Xi ns k,(k:Int))],s1)):=X1 (fun _=>rfl);clear hG hF hD hC P hT;have Y:Hid (c=1->PlV cg bg w (.slice (some ⟨g,o,none⟩) r.length 0) r):=X1 (fun e=>by subst e;simpa using HT.o);have Z:Hid (¬c=1->PlV cg bg w (.slice (some ⟨g,o+1,none⟩) r.length (c-1)) r):=X1 (fun e=>by have:=HT.o;rwa[X2 e]at this);obtain⟨vt,v,a7⟩:∃vt,Hid (PlV cg bg w vt r)/\(c=1/\vt= .slice (some ⟨g,o,none⟩) r.length 0\/¬c=1/\vt= .slice (some ⟨g,o+1,none⟩) r.length (c-1)):=by
  by_cases z:c=1
  .exact⟨_,X1 (Y.o z),.inl ⟨z,rfl⟩⟩
  .exact⟨_,X1 (Z.o z),.inr ⟨z,rfl⟩⟩
 clear HT Y Z;rcases a7 with⟨rfl,rfl⟩|⟨z,rfl⟩
 .have a5:r=[]:=by
   cases r with
   | nil=>rfl
   | cons _ _=>simp at F
  subst a5;simp only[ZN,Xn]at a2 v;clear F a6;rcases a0 with rfl|rfl;all_goals
   go_enter func90,ntmps90;go_wp2_with fail;refine(HG.o x p J s w C.1 C.2 HF.o HD.o HC.o).mono ?_;rintro e D⟨rfl,j,l⟩;have a3:=X1 l;have t:=X1 (HF.o.kept j);have u:=X1 (Fi.start (p:=p) l);clear l;go_wp2_with fail;refine(IJ p D).mono ?_;rintro e w3⟨rfl,B⟩;have d:Hid (Fi ns cg bg D p [] (G x J s) w3):=X1 (by rw[B];exact u.o);have M:=d.o.l1;have N:=d.o.l2;clear B u;go_wp2_with fail;refine(Iw ns ks V S X Q W cg bg k (D.heap.size+1) D.heap.size [] _ w3 hn a1 (t.o.kept d.o.kp) d.o.dy d.o.c0 d.o.sp (by omega) (by omega) (by simp)).mono ?_;rintro e w4⟨rfl,A,m,n⟩;rw[E.o]at m n;have a:=X1 (d.o.enter A m n);have q:=X1 (Zf.inner (Zf.kept j.size (fun b hb h1 h2=>j.block b hb h1 h2) HC.o) a.o.kp a.o.c0 a.o.c1 a.o.sp a.o.sz M N);have H:=X1 (Ih ns ks V S X Q W cg bg f G HG.o [] _ _ _ _ w4 (fun y hy=>by cases hy) (by simp) (t.o.kept a.o.kp) a.o.dy q.o ((v.o.kept j).kept a.o.kp));have I:=X1 (j.trans a.o.kp);clear A m n d q v;go_wp2_with fail;refine H.o.mono ?_;rintro e w5⟨rfl,L,K⟩;go_wp2;(first|go_end0|refine X7 (Yf rfl _ _ _) rfl ?_);exact⟨rfl,I.o.trans L,K⟩
 rcases a0 with rfl|rfl;all_goals
  go_enter func90,ntmps90;go_wp2_with fail;refine(HG.o x p J s w C.1 C.2 HF.o HD.o HC.o).mono ?_;rintro e D⟨rfl,j,l⟩;have a3:=X1 l;have t:=X1 (HF.o.kept j);have u:=X1 (Fi.start (p:=p) l);clear l;go_wp2_with fail;refine(IJ p D).mono ?_;rintro e w3⟨rfl,B⟩;have d:Hid (Fi ns cg bg D p [] (G x J s) w3):=X1 (by rw[B];exact u.o);have M:=d.o.l1;have N:=d.o.l2;clear B u;go_wp2_with fail;refine(Iw ns ks V S X Q W cg bg k (D.heap.size+1) D.heap.size [] _ w3 hn a1 (t.o.kept d.o.kp) d.o.dy d.o.c0 d.o.sp (by omega) (by omega) (by simp)).mono ?_;rintro e w4⟨rfl,A,m,n⟩;rw[E.o]at m n;have a:=X1 (d.o.enter A m n);have q:=X1 (Zf.inner (Zf.kept j.size (fun b hb h1 h2=>j.block b hb h1 h2) HC.o) a.o.kp a.o.c0 a.o.c1 a.o.sp a.o.sz M N);have H:=X1 (Ih ns ks V S X Q W cg bg f G HG.o r _ _ _ _ w4 (fun y hy=>a4.o y (by simp[hy])) (by omega) (t.o.kept a.o.kp) a.o.dy q.o ((v.o.kept j).kept a.o.kp));have I:=X1 (j.trans a.o.kp);clear A m n d q v;go_wp2_with fail;refine H.o.mono ?_;rintro e w5⟨rfl,L,K⟩;go_wp2;(first|go_end0|refine X7 (Yf rfl _ _ _) rfl ?_);exact⟨rfl,I.o.trans L,K⟩
theorem Y6r(ns:List Nd)(ks:List (List Nat))(V S Q P N cg bg f:Nat)(hG:Vo ns ks V S Q P N cg bg f (YX ns ks f))(hn:ns.length<=5000)(q:∀k (h:k<ks.length),∀x∈ks[k],x<k)(E:∀k (h:k<ks.length),(ks[k]).length<=5000/\(X8 ns k=14->(ks[k]).length=2)/\(X8 ns k=16->1<=(ks[k]).length)/\(X8 ns k=15\/X8 ns k=20->1<=(ks[k]).length)):Vo ns ks V S Q P N cg bg (f+1) (YX ns ks (f+1)):=by
 intro k p a s w b7 v I hD hC;have H:k<ks.length:=by rw[I.len];exact v
 obtain⟨n0,_⟩:=I.nodes.2 k v;obtain⟨v2,K,a5⟩:=I.kids k H;have f0:=I.f0;have f1:=I.f1;have b6:=(hD.c.lt cg rfl).2;have b5:=(hD.b.lt bg rfl).2;have HG:=X1 hG;have Z:=X1 I;have Y:=X1 hD;have X:=X1 hC;have t:=X1 a5;have d:=E k H;rw[ZC v]at d;have D:∀k (h:k<ks.length),(ks[k]).length<=5000:=fun k h=>(E k h).1;have J:∀k,(X9 ks k).length<=5000:=by
  intro k;unfold X9;by_cases h:k<ks.length
  .rw[YH h];exact D k h
  .rw[JD (by omega)];simp
 have a1:∀k (h:k<ks.length),∀x∈ks[k],x<ns.length:=fun k h x hx=>by have:=q k h x hx;have:=I.len;omega
 have b0:=X1 q;have a8:=X1 D;have a9:=X1 J;have b1:=X1 a1;have a4:=q k H
 have j:=X1 (show YX ns ks (f+1) k a s=(if ns[k].kind=5 then WI ns k a s
  else if ns[k].kind=14\/ns[k].kind=16 then I5 (YX ns ks f) ns k a s ks[k]
  else if ns[k].kind=15\/ns[k].kind=20 then Jq (YX ns ks f) ns ks ks[k] [] a false s
  else if ns[k].kind=24 then WH (YX ns ks f) ns ks ks[k] a s
  else ZQ (YX ns ks f) ks[k] a s) by
   rw[YX,ZC v,show X9 ks k=ks[k]from by simp[X9,H]])
 have z:Hid (∀x∈ks[k],x<f/\x<ns.length):=X1 (fun x hx=>by have:=a4 x hx;omega);clear hG I hD hC a5 E q D J a1 a4;generalize ks[k]=ls at *;generalize ns[k].kind=kd at *;by_cases W:kd=5
 .subst W;have l:Hid (YX ns ks (f+1) k a s=WI ns k a s):=X1 (by rw[j.o,X3 rfl]);clear j;go_enter func90,ntmps90;go_wp2_with fail;refine(X9g ns ks V S Q P N cg bg k w.heap.size a p s w v Z.o Y.o X.o).mono ?_;rintro e w2⟨rfl,n,m⟩;go_wp2;(first|go_end0|refine X7 (Yf rfl _ _ _) rfl ?_);exact⟨rfl,n,by rw[l.o];exact m⟩
 .have q5:(kd==5)=false:=by simpa using W
  by_cases A:kd=14\/kd=16
  .have l:Hid (YX ns ks (f+1) k a s=I5 (YX ns ks f) ns k a s ls):=X1 (by rw[j.o,X2 W,X3 A]);clear j;cases ls with
   | nil=>exfalso;simp at d;omega
   | cons x r=>
    obtain⟨g,o,c,hv,L,M,C,u⟩:∃g o c,v2= .slice (some ⟨g,o,none⟩) (x::r).length c/\g≠cg/\g≠bg/\(x::r).length<=c/\Yz w g o (x::r):=by
     rcases t.o with⟨_,_,_,h⟩|h
     .cases h
     .exact h
    subst hv;have a6:=u.2 0 (by simp);simp only[WA,Ls]at a6;have b8:=z.o x (by simp);have a0:r.length+1<=c:=by simpa using C
    have b4:r.length+1<=5000:=by have:=d.1;simpa using this
    have HT:=X1 (PlV.tail (w:=w) L M C u);have b2:=X1 (show(x::r).length=r.length+1 by simp);have a7:=X1 (show I5 (YX ns ks f) ns k a s (x::r)=ZQ (YX ns ks f) r ([(Xi ns k,(k:Int))]::a) (YX ns ks f x a s)from rfl);rw[b2.o]at K;clear d C u t;have b3:=X1 (Y6q ns ks V S Q P N cg bg f (YX ns ks f) HG.o hn k kd x r g o c a p s w v A K n0 Z.o Y.o X.o a0 b4 a6 z.o HT.o);refine b3.o.mono ?_;rintro e w2⟨rfl,n,m⟩;exact⟨rfl,n,by rw[l.o,a7.o];exact m⟩
  .have b9:(kd==14)=false:=by simp;omega
   have c9:(kd==16)=false:=by simp;omega
   by_cases B:kd=15\/kd=20
   .have l:Hid (YX ns ks (f+1) k a s=Jq (YX ns ks f) ns ks ls [] a false s):=X1 (by rw[j.o,X2 W,X2 A,X3 B]);clear j;have a2:1<=ls.length:=d.2.2.2 B;have a3:=d.1;obtain⟨g,o,c,hv,L,M,C,u⟩:∃g o c,v2= .slice (some ⟨g,o,none⟩) ls.length c/\g≠cg/\g≠bg/\ls.length<=c/\Yz w g o ls:=by
     rcases t.o with⟨_,_,_,h⟩|h
     .subst h;simp at a2
     .exact h
    subst hv;have y:=X1 (X8c ns ks V S Q P N cg bg f _ HG.o hn ls g o c a p s w z.o a3 a2 b0.o a8.o Z.o Y.o X.o L M C u);clear d u t;rcases B with rfl|rfl;all_goals
     go_enter func90,ntmps90;go_wp2_with fail;refine y.o.mono ?_;rintro e w2⟨rfl,n,m⟩;go_wp2;(first|go_end0|refine X7 (Yf rfl _ _ _) rfl ?_);exact⟨rfl,n,by rw[l.o];exact m⟩
   .have c8:(kd==15)=false:=by simp;omega
    have d0:(kd==20)=false:=by simp;omega
    by_cases F:kd=24
    .have l:Hid (YX ns ks (f+1) k a s=WH (YX ns ks f) ns ks ls a s):=X1 (by rw[j.o,X2 W,X2 A,X2 B,X3 F]);subst F;have y:=X1 (X7z ns ks V S Q P N cg bg f _ HG.o hn ls v2 a p s w z.o d.1 b1.o a9.o Z.o Y.o X.o t.o);clear j d;go_enter func90,ntmps90;go_wp2_with fail;refine y.o.mono ?_;rintro e w2⟨rfl,n,m⟩;go_wp2;(first|go_end0|refine X7 (Yf rfl _ _ _) rfl ?_);exact⟨rfl,n,by rw[l.o];exact m⟩
    .have d1:(kd==24)=false:=by simpa using F
     have l:Hid (YX ns ks (f+1) k a s=ZQ (YX ns ks f) ls a s):=X1 (by rw[j.o,X2 W,X2 A,X2 B,X2 F]);have a3:=d.1;have y:=X1 (Ih ns ks V S Q P N cg bg f _ HG.o ls v2 a p s w z.o (by omega) Z.o Y.o X.o t.o);clear j d;go_enter func90,ntmps90;go_wp2_with fail;refine y.o.mono ?_;rintro e w2⟨rfl,n,m⟩;go_wp2;(first|go_end0|refine X7 (Yf rfl _ _ _) rfl ?_);exact⟨rfl,n,by rw[l.o];exact m⟩
theorem Y6p(ns:List Nd)(ks:List (List Nat))(m l j g d cg bg:Nat)(q:ns.length<=5000)(a:∀k (h:k<ks.length),∀x∈ks[k],x<k)(c:∀k (h:k<ks.length),(ks[k]).length<=5000/\(X8 ns k=14->(ks[k]).length=2)/\(X8 ns k=16->1<=(ks[k]).length)/\(X8 ns k=15\/X8 ns k=20->1<=(ks[k]).length))(f:Nat):Vo ns ks m l j g d cg bg f (YX ns ks f):=by
 induction f with
 | zero=>intro k p t s w n;omega
 | succ f r=>exact Y6r ns ks m l j g d cg bg f r q a c
theorem Sk{P:Program}{c:Array Oper}{o:Oper}{a:Act}{w:World}{K:Act->World->Prop}{Q:Exit->Act->World->Prop}{E:Prop}(g:o.guard=none)(s x:Operand)(t:TypeId)(l:o.op= .call {callee:= .builtin .append,args:=#[s,x],argTypes:=#[t,t]})(e:TypeId)(i:TypeInfo)(q:P.underlying t=some (.slice e))(hi:P.info? e=some i)(d:Option Addr)(j:Nat)(n:a.eval s= .slice none 0 0)(u:a.eval x= .slice d 0 j)(k:K (a.put o.dst (.slice none 0 0)) w): if Region.wanted o (yielded c a.tmps)=true then Oper.wp P o a w K Q else E:=by
 have r:Region.wanted o (yielded c a.tmps)=true:=by simp[Region.wanted,g]
 rw[X3 r];have m:(Builtin.append_ #[t,t] o.type #[.slice none 0 0,.slice d 0 j]).run P w= .ok (.slice none 0 0) w:=by
  cases d<;>simp[Builtin.append_,Gq q,sizeOf,typeInfo,hi,Builtin.lenOf,Builtin.firstCells,loadCells,loadCellsFrom]
 unfold Oper.wp execOp;simp only[l,resolve,invoke,builtin,Zk,QM,Zj,KP,Xu,Yc,n,u,m];exact k
theorem Xbr(w:World)(n base:Nat)(a:base<=w.heap.size)(c:n<=maxLen):(w.alloc (.cells (madeCells #[.slice none 0 0] n) 55)).ownsRow base 55 1 (.slice (some ⟨w.heap.size,0,none⟩) n n) n (List.replicate n (.slice none 0 0)):=by
 refine⟨by simp,.inr ⟨w.heap.size,n,_,rfl,a,XM w _,X4 _,c,by rw[L7,DI],?_⟩⟩;rw[U7 (by simp[L7])];apply List.ext_getElem
 .simp[L7]
 .intro i d g;simp[madeCells,Nat.mod_one]
theorem Xbs(n:Nat)(k:n<=5000)(W:World):(Instr.makeSlice 49 (.int .i64 (n:Int)) (.int .i64 (n:Int))).run prog W= .ok (.slice (some ⟨W.heap.size,0,none⟩) n n) (W.alloc (.cells (madeCells (Value.cells (.slice none 0 0)) (n*1)) 55)):=by
 obtain⟨j,g,d,c,a⟩:=Yk Rf;have:=run_make (P:=prog) W 49 55 j (.slice none 0 0) underlying49 g d .i64 .i64 (n:Int) (n:Int) (by omega) (OL _) (by rw[a];omega) (by omega);rw[c,Int.toNat_natCast]at this;exact this
def Pl1(B:Nat)(v3:Value)(w:World)(v:Value)(ls:List Nat):Prop:=(v= .slice none 0 0/\ls=[])\/∃g c,v= .slice (some ⟨g,0,none⟩) ls.length c/\B<=g/\v3.ownBlock≠some g/\ls.length<=c/\Yz w g 0 ls
theorem Pl1.same{B:Nat}{j a:Value}{w w':World}{v:Value}{ls:List Nat}(h:Pl1 B j w v ls)(r:∀g,B<=g->g<w.heap.size->j.ownBlock≠some g->w'.heap[g]?=w.heap[g]?)(n:∀g,g<w.heap.size->j.ownBlock≠some g->a.ownBlock≠some g):Pl1 B a w' v ls:=by
 rcases h with h|⟨g,c,m,k,l,q,d⟩
 .exact .inl h
 .exact .inr ⟨g,c,m,k,n g d.1 l,q,d.heap (r g k d.1 l)⟩
structure Kd (w:World) (n i:Nat) (v3:Value) (vs:List Value) (ks:List (List Nat)) (op:List Nat) (wr:World):Prop where
 B:Below w.heap.size w wr
 sz:w.heap.size<wr.heap.size
 kr:wr.ownsRow w.heap.size 55 1 (.slice (some ⟨w.heap.size,0,none⟩) n n) n (vs++List.replicate (n-i) (.slice none 0 0))
 vl:vs.length=i
 kl:ks.length=i
 ol:op.length<=i
 or3:wr.ownsRow (w.heap.size+1) 3 1 v3 op.length (op.map YW)
 rows:∀j (h:j<ks.length),∃v,vs[j]?=some v/\Pl1 (w.heap.size+1) v3 wr v ks[j]
theorem Kd.cell{w:World}{n i:Nat}{a:Value}{c:List Value}{ks:List (List Nat)}{op:List Nat}{wr:World}(h:Kd w n i a c ks op wr)(hi:i<n):wr.cell? ⟨w.heap.size,i,none⟩=some (.slice none 0 0)/\wr.frozen? ⟨w.heap.size,i,none⟩=false:=by
 refine⟨?_,h.kr.frozenAt i⟩;rw[h.kr.cellAt i (by omega),K6 (by rw[h.vl];exact X4 _),h.vl,WC,SR,X3 (by omega)]
theorem Y1o{j:World}{b:Nat}{e:TypeId}{g:Value}{n:Nat}{k:List Value}(c:j.ownsRow b e 1 g n k)(a:¬g= .slice none 0 0):∃d c2,g= .slice (some ⟨d,0,none⟩) n c2:=by
 rcases c.2 with⟨h,_⟩|⟨d,c2,_,h,_⟩
 .exact absurd h a
 .exact⟨d,c2,h⟩
theorem Y1x(a:List Value)(n i:Nat)(z v:Value)(c:a.length=i)(hi:i<n):(a++List.replicate (n-i) z).set i v=a++[v]++List.replicate (n-(i+1)) z:=by
 obtain⟨k,rfl⟩:∃k,n=i+1+k:=⟨n-(i+1),by omega⟩;rw[show i+1+k-i=k+1 from by omega,show i+1+k-(i+1)=k from by omega,List.replicate_succ,P3 (h:=by omega)]
 simp[c]
structure Km (w:World) (n i m:Nat) (v3 v1:Value) (vs:List Value) (ks:List (List Nat)) (op:List Nat) (wx:World):Prop where
 B:Below w.heap.size w wx
 sz:w.heap.size<wx.heap.size
 kr:wx.ownsRow w.heap.size 55 1 (.slice (some ⟨w.heap.size,0,none⟩) n n) n (vs++[v1]++List.replicate (n-(i+1)) (.slice none 0 0))
 or3:wx.ownsRow (w.heap.size+1) 3 1 v3 op.length (op.map YW)
 rows:∀j (h:j<ks.length),∃v,vs[j]?=some v/\Pl1 (w.heap.size+1) v3 wx v ks[j]
 new:Pl1 (w.heap.size+1) v3 wx v1 (op.drop m)
theorem Kd.mid{w:World}{n i m:Nat}{C l:Value}{D:List Value}{ks:List (List Nat)}{op:List Nat}{wr X w1:World}(h:Kd w n i C D ks op wr)(hi:i<n)(a:BL wr X)(u:X.grownBy w1 none)(J:(l= .slice none 0 0/\op.drop m=[])\/∃g c,l= .slice (some ⟨g,0,none⟩) (op.drop m).length c/\wr.heap.size<=g/\(op.drop m).length<=c/\Yz w1 g 0 (op.drop m)):Km w n i m C l D ks op (w1.setCell ⟨w.heap.size,i,none⟩ l):=by
 have d:∀b,b<wr.heap.size->w1.heap[b]?=wr.heap[b]?:=fun b r=>(u.block b (Xd r a.size) (by simp)).trans (a.block b r);have k:∀b,b≠w.heap.size->(w1.setCell ⟨w.heap.size,i,none⟩ l).heap[b]?=w1.heap[b]?:=fun b r=>Y4 _ _ _ _ (by simpa using r);have A:=h.sz;have P:wr.heap.size<=w1.heap.size:=XO a.size u.size;have t:BL w w1:=((h.B.trans (a.mono (by omega)))).grown u (by have:=a.size;omega) (fun q e=>by cases e);have K:∀g,C.ownBlock=some g->g<wr.heap.size:=fun g e=>(h.or3.lt g e).2;refine⟨t.setCell (X4 _) _,by simp;omega,?_,?_,fun j L=>?_,?_⟩
 .have N:=Q4 h.kr (d _ A);have F:=(N.stored i l).1;rw[Y1x D n i _ l h.vl hi]at F;exact F
 .exact ER h.or3 fun g y z=>(k g (by omega)).trans (d g z)
 .obtain⟨v,Q,M⟩:=h.rows j L;exact⟨v,Q,M.same (fun g y z _=>(k g (by omega)).trans (d g z)) (fun _ _ e=>e)⟩
 .rcases J with⟨s,E⟩|⟨g,c,s,E,H,I⟩
  .exact .inl ⟨s,E⟩
  .exact .inr ⟨g,c,s,by omega,fun e=>by have:=K g e;omega,H,I.heap (k g (by omega))⟩
theorem Km.alloc{w:World}{n i m:Nat}{l k:Value}{q:List Value}{ks:List (List Nat)}{op:List Nat}{a:World}(h:Km w n i m l k q ks op a)(o:Obj):Km w n i m l k q ks op (a.alloc o).drew:=by
 have d:∀g,g<a.heap.size->(a.alloc o).heap[g]?=a.heap[g]?:=fun g r=>((X5 a.heap.size a).alloc (X4 _) o).block g r;have u:=h.sz;refine⟨(h.B.alloc (by omega) o).drew,?_,h.kr.alloc o,h.or3.alloc o,fun j s=>?_,?_⟩
 .show w.heap.size<(a.alloc o).heap.size;simp;omega
 .obtain⟨v,y,t⟩:=h.rows j s;exact⟨v,y,t.same (fun g _ c _=>d g c) (fun _ _ e=>e)⟩
 .exact h.new.same (fun g _ c _=>d g c) (fun _ _ e=>e)
theorem Km.next{w:World}{n i m k:Nat}{a:Option Addr}{c7:Nat}{J A:Value}{K:List Value}{ks:List (List Nat)}{op:List Nat}{c C:World}{o:Obj}(h:Km w n i m (.slice a op.length c7) J K ks op c)(X:op.length=m+k)(z:K.length=i)(s:ks.length=i)(Q:op.length<=i)(u:C.ownsRow (w.heap.size+1) 3 1 A (m+1) ((op.map YW).take m++[.int .i64 (i:Int)]))(D:(c.alloc o).grownBy C (Value.slice a m c7).ownBlock)(l:A.ownBlock=(Value.slice a m c7).ownBlock\/A.ownBlock=some (c.heap.size+1)): Kd w n (i+1) A (K++[J]) (ks++[op.drop m]) (op.take m++[i]) C:=by
 have H:(Value.slice a m c7).ownBlock=(Value.slice a op.length c7).ownBlock:=by cases a<;>rfl
 rw[H]at D l;have L:∀g,(Value.slice a op.length c7).ownBlock=some g->w.heap.size+1<=g/\g<c.heap.size:=fun g e=>h.or3.lt g e;have r:∀b,b<c.heap.size->(Value.slice a op.length c7).ownBlock≠some b->C.heap[b]?=c.heap[b]?:=fun b r hne=>Vz D b r (fun e=>hne e.symm);have I:=h.sz;have V:c.heap.size<C.heap.size:=by have:=D.size;simp at this;omega
 have hne:∀g,g<c.heap.size->(Value.slice a op.length c7).ownBlock≠some g->A.ownBlock≠some g:=by
  intro g N y e;rcases l with d|d
  .rw[d]at e;exact y e
  .rw[d]at e;cases e;omega
 refine⟨?_,by omega,?_,by simp[z],by simp[s],by simp;omega,?_,fun j P=>?_⟩
 .exact(h.B.alloc (by omega) o).grown D (by simp;omega) (fun q e=>by have:=(L q e).1;omega)
 .exact Q4 h.kr (r _ I (fun e=>by have:=(L _ e).1;omega))
 .have F:(op.take m++[i]).length=m+1:=by rw[Xo,YM,QL (by omega)];rfl
  have t:(op.take m++[i]).map YW=(op.map YW).take m++[.int .i64 i]:=by rw[ZO,J7];rfl
  rw[F,t];exact u
 .by_cases e:j<ks.length
  .obtain⟨v,W,S⟩:=h.rows j e;rw[Vg e,QY (by omega)];exact⟨v,W,S.same (fun g _ E y=>r g E y) hne⟩
  .have d:j=ks.length:=by simp at P;omega
   subst d;refine⟨J,?_,?_⟩
   .rw[K6 (by omega),z,s,WC];rfl
   .have M:(ks++[op.drop m])[ks.length]=op.drop m:=by simp
    rw[M];exact h.new.same (fun g _ E y=>r g E y) hne
theorem Xfg(ns:List Nd)(V tc:Nat)(w:World)(hn:ns.length<=5000)(C:Kk ns=true)(ht:Yw w V ns): Calls prog 89 #[.slice (some ⟨V,0,none⟩) ns.length tc] w fun e w'=>∃Z v3 op,e= .returned (.slice (some ⟨w.heap.size,0,none⟩) ns.length ns.length)/\Kd w ns.length ns.length v3 Z (Xc ns) op w':=by
 obtain⟨Y,X,Q,P,N⟩:=Yk WZ;obtain⟨iR,hR,e8,e7,e6⟩:=Yk Rf;have f5:=Xbs ns.length hn;have W:=X1 ht;have c9:=X1 C;have d0:=X1 (Xbr w ns.length w.heap.size (X4 _) (by unfold maxLen;omega));clear ht C;go_enter func89,ntmps89;go_wp2
 go_loopw[3,13] (fun v3 t wr=>∃(i:Nat) (Z:List Value) (ks:List (List Nat)) (op:List Nat),i<=ns.length/\t= .int .i64 i/\Kd w ns.length i v3 Z ks op wr/\
   Xv ns 0 []=(ks++(Xv (ns.drop i) i op).1,(Xv (ns.drop i) i op).2)) (fun _ t _=>ns.length-(intOf t).toNat)
 case atStart=>exact⟨0,[],[],[],X6 _,rfl,⟨bA _,by simp,d0.o,rfl,rfl,X4 _,ZJ _ _ _ _,fun j h=>absurd h (U8 _)⟩,rfl⟩
 case round=>
  obtain⟨i,Z,ks,op,f2,rfl,l,he⟩:=hrel;have HE:=X1 he;have F:=X1 l;clear he;by_cases u:i<ns.length
  .obtain⟨b0,b1,b2,b3,b4⟩:=W.o.2 i u;have a0:=(l.B.cell (p:=⟨V,i*5,none⟩) W.o.1).trans b0;have a1:=(l.B.cell (p:=⟨V,i*5+1,none⟩) W.o.1).trans b1;have a2:=(l.B.cell (p:=⟨V,i*5+2,none⟩) W.o.1).trans b2;have a3:=(l.B.cell (p:=⟨V,i*5+3,none⟩) W.o.1).trans b3;have a4:=(l.B.cell (p:=⟨V,i*5+4,none⟩) W.o.1).trans b4;have b9:¬(ns[i].kids<0\/(op.length:Int)<ns[i].kids):=by
    intro b6;have:=(D7 HE.o (Pn ns i u op b6)).2;have hg:=c9.o;unfold Kk at hg;rw[this]at hg;cases hg
   have a8:=X1 (Po ns i u op);obtain⟨d6,d7⟩:=l.cell u;obtain⟨a7,c7,e2⟩:=CL l.or3;subst e2;have d9:=l.ol;generalize d8:ns[i].kids=kd at *;obtain⟨k,rfl⟩:∃k:Nat,kd=k:=⟨kd.toNat,by omega⟩;obtain⟨m,hm⟩:∃m,op.length=m+k:=⟨op.length-k,by omega⟩;clear b0 b1 b2 b3 b4 b9 d8 l;have HM:=X1 hm;have f4:m+k<=i:=by omega
   have y:=F.o.or3;rw[hm]at y⊢;have L:=F.o.sz;have a5:=X1 (F.o.kl);have a6:=X1 (F.o.vl);have b5:∀o:Obj,BL wr (wr.alloc o).drew:=fun o=>(bA o).drew;have I:=X1 b5;clear b5;go_upto_region 7 with fail;go_cut[]from 23 to 34 (fun wx=>∃v1,Km w ns.length i m (.slice a7 op.length c7) v1 Z ks op wx)
   case first=>
    have hA:∀o:Obj,(wr.alloc o).cell? ⟨w.heap.size,i,none⟩=some (.slice none 0 0)/\(wr.alloc o).frozen? ⟨w.heap.size,i,none⟩=false:=fun o=>⟨(((X5 wr.heap.size wr).alloc (X4 _) o).cell (p:=⟨w.heap.size,i,none⟩) L).trans d6,(((X5 wr.heap.size wr).alloc (X4 _) o).frozen (p:=⟨w.heap.size,i,none⟩) L).trans d7⟩;obtain⟨d4,d5⟩:=hA (.cells #[.int .i64 ns[i].kind,.int .i64 ns[i].op,.int .i64 ns[i].n,.string ns[i].text,.int .i64 (k:Int)] 48);have HA:=X1 hA;clear hA;rcases y.2 with⟨v,D⟩|⟨M,c5,d3,g,_⟩
    .obtain⟨rfl,hz,rfl⟩:a7=none/\m+k=0/\c7=0:=by simpa using v
     obtain rfl:m=0:=by omega
     obtain rfl:k=0:=by omega
     have E:op.drop 0=[]:=by
      cases op with
      | nil=>rfl
      | cons _ _=>simp at hm
     have J:=X1 E;clear E v D;go_region_law(refine Sk rfl (.tmp 28) (.tmp 31) 55 rfl 3 Y underlying55 X none 0 (by first|(simp[Act.eval];done)|simp[Act.eval,Act.put]) (by first|(simp[Act.eval];done)|simp[Act.eval,Act.put]) ?_);all_goals
      go_wp2_with fail;go_meet
      case rel=>exact⟨_,(Kd.mid (w1:=wr) F.o u (X5 _ _) ⟨rfl,rfl,rfl,X4 _,fun _ _ _=>rfl⟩ (.inl ⟨rfl,J.o⟩)).alloc _⟩
    .obtain⟨rfl,rfl⟩:a7=some ⟨M,0,none⟩/\c7=c5:=by simpa using g
     have b7:=(Qx y).1;have f1:=(y.lt M rfl);clear g;by_cases c8:k=0
     .subst c8;have E:op.drop m=[]:=List.drop_eq_nil_of_le (by omega);have J:=X1 E;clear E;by_cases b8:c7=m
      .subst b8;go_region_law(refine Sk rfl (.tmp 28) (.tmp 31) 55 rfl 3 Y underlying55 X (some ⟨M,0,none⟩) 0 (by first|(simp[Act.eval];done)|simp[Act.eval,Act.put]) (by first|(simp[Act.eval];done)|simp[Act.eval,Act.put]) ?_);all_goals
        go_wp2_with fail;go_meet
        case rel=>exact⟨_,(Kd.mid (w1:=wr) F.o u (X5 _ _) ⟨rfl,rfl,rfl,X4 _,fun _ _ _=>rfl⟩ (.inl ⟨rfl,J.o⟩)).alloc _⟩
      .go_region_law(refine Sk rfl (.tmp 28) (.tmp 31) 55 rfl 3 Y underlying55 X (some ⟨M,m,none⟩) (c7-m) (by first|(simp[Act.eval];done)|simp[Act.eval,Act.put]) (by first|(simp[Act.eval];done)|simp[Act.eval,Act.put]) ?_);all_goals
        go_wp2_with fail;go_meet
        case rel=>exact⟨_,(Kd.mid (w1:=wr) F.o u (X5 _ _) ⟨rfl,rfl,rfl,X4 _,fun _ _ _=>rfl⟩ (.inl ⟨rfl,J.o⟩)).alloc _⟩
     .have b8:¬c7=m:=by omega
      have e4:(m:Int)<=(m:Int)+(k:Int):=by omega
      have d1:=X1 (fun o=>Ee (o:=m) HM.o ((F.o.or3.alloc o)) (fun _=>rfl));have H:Hid ((op.drop m).length=k):=X1 (by simp;omega);go_region_law(refine Ur rfl (.tmp 28) (.tmp 31) 55 rfl wr.heap.size 3 Y (.int .i64 0) 1 8 underlying55 X Q P N rfl (by decide) (.slice none 0 0) 0 [] (by first|(simp[Act.eval];done)|simp[Act.eval,Act.put]) (ZJ _ _ _ _) ⟨M,m,none⟩ k (c7-m) ((op.drop m).map YW) (by first|(simp[Act.eval];done)|simp[Act.eval,Act.put]) (by rw[Z9,H.o,DI]) (d1.o _) (Ot _) (by unfold maxLen;omega) (by omega) ((I.o _).size) ?_;intro v1 w1 c r S e3;rw[Xn,UD]at c;have e9:w1.cell? ⟨w.heap.size,i,none⟩=some (.slice none 0 0):=(Xy (r.block w.heap.size (Xd L (I.o _).size) (by simp[Value.ownBlock]))).trans d4;have f0:w1.frozen? ⟨w.heap.size,i,none⟩=false:=(KU (r.block w.heap.size (Xd L (I.o _).size) (by simp[Value.ownBlock]))).trans d5;obtain⟨g1,c1,rfl⟩:=Y1o c (fun e=>c8 (S.1 e).2));all_goals
       go_wp2_with fail;go_meet
       case rel=>
        refine⟨_,Kd.mid F.o u (I.o _) r (.inr ⟨g1,c1,by rw[H.o],(c.lt g1 rfl).1,by rw[H.o];exact(Qx c).1,?_⟩)⟩;have q:=c;rw[←H.o]at q;exact Mr q
   case rest=>
    obtain⟨v1,K⟩:=hcut;have a9:=X1 K;have e5:=K.sz;have A:=K.or3;rw[hm]at A;clear K;rcases y.2 with⟨v,D⟩|⟨M,c5,d3,g,_⟩
    .obtain⟨rfl,hz,rfl⟩:a7=none/\m+k=0/\c7=0:=by simpa using v
     obtain rfl:m=0:=by omega
     obtain rfl:k=0:=by omega
     have e0:op=[]:=JC (by have:=HM.o;omega);subst e0;clear v D y A;go_wp2_with(at_builtin;refine Yg _ rfl _ _ 55 rfl (w.heap.size+1) 3 Y (.int .i64 0) 1 8 underlying55 X Q P N rfl (by decide) (.slice none 0 0) 0 [] rfl (ZJ _ _ _ _) ⟨wc.heap.size,0,none⟩ 1 1 [.int .i64 i] rfl rfl (UO _ _ _) (by simp[Value.oneCell']) (by unfold maxLen;omega) (by omega) (by simp;omega) ?_);intro v3 w3 d a z s;have HN:=X1 (Km.next a9.o HM.o a6.o a5.o (X6 _) d a (by simpa using s));clear d a z s;go_wp2;go_roundw
     case rel=>exact⟨i+1,_,_,_,by omega,by go_num,HN.o,by rw[HE.o,a8.o 0 0 rfl rfl];simp⟩
     case measure=>simp[intOf];omega
    .obtain⟨rfl,rfl⟩:a7=some ⟨M,0,none⟩/\c7=c5:=by simpa using g
     have b7:=(Qx y).1;have d2:=X1 (S7 A m (by omega));have HL:=X1 d9;have f3:(m:Int)<=(c7:Int):=by omega
     clear g y A;go_wp2_with(at_builtin;refine Yg _ rfl _ _ 55 rfl (w.heap.size+1) 3 Y (.int .i64 0) 1 8 underlying55 X Q P N rfl (by decide) (.slice (some ⟨M,0,none⟩) m c7) m ((op.map YW).take m) rfl (d2.o.alloc _) ⟨wc.heap.size,0,none⟩ 1 1 [.int .i64 i] rfl rfl (UO _ _ _) (by simp[Value.oneCell']) (by unfold maxLen;omega) (by omega) (by simp;omega) ?_);intro v3 w3 d a z s;have HN:=X1 (Km.next a9.o HM.o a6.o a5.o HL.o d a (by simpa using s));clear d a z s;go_wp2;go_roundw
     case rel=>exact⟨i+1,_,_,_,by omega,by go_num,HN.o,by rw[HE.o,a8.o k m rfl HM.o];simp⟩
     case measure=>simp[intOf];omega
  .have hi:i=ns.length:=by omega
   subst hi;obtain⟨e1,_⟩:=D7 HE.o (show Xv (ns.drop ns.length) ns.length op=([],some op) by rw[Yu (X4 _)];rfl);have E1:=X1 e1;clear e1;go_wp2;go_ret;exact⟨Z,_,op,rfl,by rw[E1.o];exact F.o⟩
