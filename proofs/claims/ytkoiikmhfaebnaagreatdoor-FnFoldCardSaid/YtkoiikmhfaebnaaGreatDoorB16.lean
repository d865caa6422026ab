import Derived.Test.YtkoiikmhfaebnaaGreatDoorB13
import Derived.Test.YtkoiikmhfaebnaaGreatDoorB09
set_option maxHeartbeats 4000000
set_option maxRecDepth 100000
namespace Go.Proofs.YtkoiikmhfaebnaaGreatDoor
open Tryz Go.RowKit
theorem Z8{P:Program}{c:Array Oper}{o:Oper}{a:Act}{w:World}{K:Act->World->Prop}{Q:Exit->Act->World->Prop}{E:Prop}(t:o.guard=none)(f:FuncId)(l:List Operand)(y:Array TypeId)(k:o.op=Op.call {callee:=Callee.value (Operand.func f),args:=l.toArray,argTypes:=y})(d:List Value)(v:l.map a.eval=d)(fn:Func)(j:P.funcs[f]?=some fn)(hne:(fn.name == "runtime.NumGoroutine")=false)(g:fn.body.isNone=false)(R:Value->World->Prop)(q:Calls P f d.toArray w fun e w'=>∃r,e= .returned r/\R r w')(s:∀r w',R r w'->K (a.put o.dst r) w'): if Region.wanted o (yielded c a.tmps)=true then Oper.wp P o a w K Q else E:=by
 have u:Region.wanted o (yielded c a.tmps)=true:=by simp[Region.wanted,t]
 rw[X3 u];have m:(callFunc f d.toArray).run P w= .ok (.enter f d.toArray) w:=by
  simp only[callFunc,Zk,Wk,Zj,j,hne,g];rfl
 unfold Oper.wp;simp only[execOp,k,resolve,invoke,KP,v,Deferred.ofValue,Zk];rw[show a.eval (Operand.func f)=Value.func (Fn.func f) #[] #[]from rfl];simp only[QM,Zj];simp[m];refine q.mono fun e z h=>?_;obtain⟨r,rfl,n⟩:=h;exact s _ _ n
abbrev lnO(x:Nd)(sl:Value)(p b:Int):Obj:= .cells #[.int .i64 x.kind,.int .i64 x.op,.int .i64 x.n,.string x.text,.int .i64 x.kids,sl,.int .i64 p,.int .i64 b] 114
def Yx(w:World)(a:Nat)(x:Nd)(sl:Value)(p b:Int):Prop:=w.heap[a]?=some (lnO x sl p b)
abbrev pt(a:Nat):Value:= .pointer (some ⟨a,0,none⟩)
theorem Yx.lt{w:World}{a:Nat}{x:Nd}{d:Value}{p b:Int}(h:Yx w a x d p b):a<w.heap.size:=by
 rcases J0 a w.heap.size with c|c
 .exact c
 .unfold Yx at h;rw[U3 c]at h;cases h
theorem Yx.below{w w':World}{a:Nat}{x:Nd}{c:Value}{p b:Int}(h:Yx w a x c p b)(d:BL w w'):Yx w' a x c p b:=(d.block a h.lt).trans h
theorem Yx.c0{w:World}{a:Nat}{x:Nd}{c:Value}{p b:Int}(h:Yx w a x c p b):w.cell? ⟨a,0,none⟩=some (.int .i64 x.kind):=by rw[World.cell?,show w.heap[a]?=_ from h];rfl
theorem Yx.c1{w:World}{a:Nat}{x:Nd}{c:Value}{p b:Int}(h:Yx w a x c p b):w.cell? ⟨a,1,none⟩=some (.int .i64 x.op):=by rw[World.cell?,show w.heap[a]?=_ from h];rfl
theorem Yx.c2{w:World}{a:Nat}{x:Nd}{c:Value}{p b:Int}(h:Yx w a x c p b):w.cell? ⟨a,2,none⟩=some (.int .i64 x.n):=by rw[World.cell?,show w.heap[a]?=_ from h];rfl
theorem Yx.c3{w:World}{a:Nat}{x:Nd}{c:Value}{p b:Int}(h:Yx w a x c p b):w.cell? ⟨a,3,none⟩=some (.string x.text):=by rw[World.cell?,show w.heap[a]?=_ from h];rfl
theorem Yx.c4{w:World}{a:Nat}{x:Nd}{c:Value}{p b:Int}(h:Yx w a x c p b):w.cell? ⟨a,4,none⟩=some (.int .i64 x.kids):=by rw[World.cell?,show w.heap[a]?=_ from h];rfl
theorem Yx.c5{w:World}{a:Nat}{x:Nd}{c:Value}{p b:Int}(h:Yx w a x c p b):w.cell? ⟨a,5,none⟩=some c:=by rw[World.cell?,show w.heap[a]?=_ from h];rfl
theorem Yx.c6{w:World}{a:Nat}{x:Nd}{c:Value}{p b:Int}(h:Yx w a x c p b):w.cell? ⟨a,6,none⟩=some (.int .i64 p):=by rw[World.cell?,show w.heap[a]?=_ from h];rfl
theorem Yx.c7{w:World}{a:Nat}{x:Nd}{c:Value}{p b:Int}(h:Yx w a x c p b):w.cell? ⟨a,7,none⟩=some (.int .i64 b):=by rw[World.cell?,show w.heap[a]?=_ from h];rfl
theorem Yx.fr{w:World}{a:Nat}{x:Nd}{c:Value}{p b:Int}(h:Yx w a x c p b)(i:Nat):w.frozen? ⟨a,i,none⟩=false:=by rw[World.frozen?,show w.heap[a]?=_ from h];simp
theorem Yx.set{w:World}{a:Nat}{x:Nd}{c:Value}{p b:Int}(h:Yx w a x c p b)(v:Value):Yx (w.setCell ⟨a,5,none⟩ v) a x v p b:=by
 unfold Yx;rw[heap_setCell_same _ _ _ _ _ _ h];rfl
theorem Rh:(prog.info? 52).map (fun i=>(i.zero,i.size,i.bytes))=some (some (.pointer none),1,8):=by kernel_rfl
theorem Qj{w w':World}{base a size:Nat}{e:TypeId}{v:Value}{n:Nat}{k:List Value}(h:w.ownsRow base e size v n k)(t:∀q,v.ownBlock=some q->a<=q)(s:∀q,v.ownBlock=some q->w'.heap[q]?=w.heap[q]?):w'.ownsRow a e size v n k:=by
 refine⟨h.1,?_⟩;rcases h.2 with l|⟨g,c,d,j,u,m,r⟩
 .exact .inl l
 .have e:v.ownBlock=some g:=by rw[j];rfl
  exact .inr ⟨g,c,d,j,t g e,(s g e).trans m,r⟩
namespace Fd
def At(B:Nat->Prop)(w:World):Fd->Nat->Prop
 | .mk x p b ks,a=>∃(sl:Value) (ad:List Nat),Yx w a x sl p b/\B a/\w.ownsRow 0 52 1 sl ks.length (ad.map pt)/\(∀q,sl.ownBlock=some q->B q)/\atL B w ks ad
 where
 atL (B:Nat->Prop) (w:World):List Fd->List Nat->Prop
 | [],ad=>ad=[]
 | t::r,ad=>∃a s,ad=a::s/\At B w t a/\atL B w r s
theorem UM(B:Nat->Prop)(w:World)(x:Nd)(p b:Int)(ks:List Fd)(a:Nat):At B w (.mk x p b ks) a↔∃(c:Value) (d:List Nat),Yx w a x c p b/\B a/\w.ownsRow 0 52 1 c ks.length (d.map pt)/\(∀q,c.ownBlock=some q->B q)/\At.atL B w ks d:=by rw[At]
variable {B:Nat->Prop}
theorem Vr(w:World)(a:List Nat):At.atL B w [] a↔a=[]:=by rw[At.atL]
theorem UL(w:World)(t:Fd)(r:List Fd)(c:List Nat):At.atL B w (t::r) c↔∃a s,c=a::s/\At B w t a/\At.atL B w r s:=by rw[At.atL]
theorem Ps{w:World}:∀{l:List Fd} {c:List Nat},At.atL B w l c->c.length=l.length
 | [],c,h=>by rw[(Vr w c).1 h];rfl
 | t::r,c,h=>by
  obtain⟨a,s,rfl,_,d⟩:=(UL w t r c).1 h;rw[Ya,Ya,Ps d]
theorem DR{w:World}:∀{l:List Fd} {c:List Nat} (i:Nat),At.atL B w l c->(hi:i<l.length)->∃a,c[i]?=some a/\At B w l[i] a
 | t::r,c,0,h,_=>by
  obtain⟨a,s,rfl,d,_⟩:=(UL w t r c).1 h;exact⟨a,rfl,d⟩
 | t::r,c,i+1,h,hi=>by
  obtain⟨a,s,rfl,_,g⟩:=(UL w t r c).1 h;obtain⟨b,j,k⟩:=DR i g (by simpa using hi);exact⟨b,by simpa using j,by simpa using k⟩
theorem Pu{w:World}:∀{l:List Fd} {c:List Nat} {t:Fd} {a:Nat},At.atL B w l c->At B w t a->At.atL B w (l++[t]) (c++[a])
 | [],c,t,a,h,ht=>by
  rw[(Vr w c).1 h];exact(UL _ _ _ _).2 ⟨a,[],rfl,ht,(Vr _ _).2 rfl⟩
 | y::r,c,t,a,h,ht=>by
  obtain⟨b,s,rfl,d,g⟩:=(UL w y r c).1 h;exact(UL _ _ _ _).2 ⟨b,s++[a],rfl,d,Pu g ht⟩
theorem X0q{B':Nat->Prop}{w w':World}(z:∀q,B q->B' q)(C:∀q,B q->w'.heap[q]?=w.heap[q]?):∀(n:Nat) (y:Fd),y.size<=n->∀{a:Nat},At B w y a->At B' w' y a:=by
 intro n;induction n with
 | zero=>intro y d;have:=size_pos y;omega
 | succ n H=>
  intro y d a h;obtain⟨x,p,b,ks⟩:=y;rw[Zi]at d;have A:∀t∈ks,t.size<=n:=fun t F=>by have:=Ql F;omega
  obtain⟨I,l,m,g,u,j,v⟩:=(UM _ _ _ _ _ _ _).1 h;refine(UM _ _ _ _ _ _ _).2 ⟨I,l,(C a g).trans m,z a g,Qj u (fun _ _=>X6 _) (fun q e=>C q (j q e)),fun q e=>z q (j q e),?_⟩;clear m g u j h d;induction ks generalizing l with
  | nil=>exact(Vr _ _).2 ((Vr _ _).1 v)
  | cons t r k=>
   obtain⟨c,s,rfl,D,E⟩:=(UL _ _ _ _).1 v;exact(UL _ _ _ _).2 ⟨c,s,rfl,H t (A t (by simp)) D,k (fun y d=>A y (by simp[d])) s E⟩
theorem At.go{B':Nat->Prop}{w w':World}{y:Fd}{a:Nat}(h:At B w y a)(c:∀q,B q->B' q)(d:∀q,B q->w'.heap[q]?=w.heap[q]?):At B' w' y a:=X0q c d _ y (X4 _) h
theorem W3{B':Nat->Prop}{w w':World}(d:∀q,B q->B' q)(g:∀q,B q->w'.heap[q]?=w.heap[q]?):∀{l:List Fd} {a:List Nat},At.atL B w l a->At.atL B' w' l a
 | [],a,h=>(Vr _ _).2 ((Vr _ _).1 h)
 | t::r,a,h=>by
  obtain⟨c,s,rfl,j,k⟩:=(UL _ _ _ _).1 h;exact(UL _ _ _ _).2 ⟨c,s,rfl,j.go d g,W3 d g k⟩
abbrev Is(w:World)(y:Fd)(a:Nat):Prop:=At (fun q=>q<w.heap.size) w y a
theorem Is.below{w w':World}{y:Fd}{a:Nat}(h:Is w y a)(c:BL w w'):Is w' y a:=At.go h (fun _ e=>Xd e c.size) (fun q e=>c.block q e)
end Fd
def Lp(w:World)(y:Fd)(e:Ending)(w':World):Prop:=∃a,e= .returned (pt a)/\Fd.At (fun q=>w.heap.size<=q/\q<w'.heap.size) w' y a/\Below w.heap.size w w'
structure LnB (w0:World) (x:Nd) (p b:Int) (bo:Nat) (done:List Fd) (sl:Value) (ad:List Nat) (w:World):Prop where
 B:Below w0.heap.size w0 w
 ge:w0.heap.size<=bo
 ln:Yx w bo x sl p b
 row:w.ownsRow w0.heap.size 52 1 sl done.length (ad.map pt)
 kids:Fd.At.atL (fun q=>w0.heap.size<=q/\q<w.heap.size/\q≠bo/\sl.ownBlock≠some q) w done ad
 ne:sl.ownBlock≠some bo
theorem LnB.new{c w:World}{x:Nd}{p b:Int}(a:BL c w):LnB c x p b w.heap.size [] (.slice none 0 0) [] (w.alloc (lnO x (.slice none 0 0) p b)):=⟨a.alloc a.size _,a.size,XM _ _,ZJ _ _ _ _,(Fd.Vr _ _).2 rfl,fun e=>by cases e⟩
theorem LnB.below{k:World}{x:Nd}{p b:Int}{g:Nat}{a:List Fd}{j:Value}{d:List Nat}{w w':World}(h:LnB k x p b g a j d w)(c:BL w w'):LnB k x p b g a j d w':=⟨h.B.trans (c.mono h.B.size),h.ge,h.ln.below c,KJ h.row c,Fd.W3 (fun _ e=>⟨e.1,Xd e.2.1 c.size,e.2.2⟩) (fun q e=>c.block q e.2.1) h.kids,h.ne⟩
theorem UY{w:World}{a i q:Nat}{v:Value}(h:q≠a):(w.setCell ⟨a,i,none⟩ v).heap[q]?=w.heap[q]?:=by
 exact Y4 w ⟨a,i,none⟩ v q h
theorem LnB.push{v:World}{x:Nd}{p b:Int}{c:Nat}{g:List Fd}{s:Value}{C:List Nat}{wr w5 j:World}(h:LnB v x p b c g s C wr){t:Fd}{a:Nat}{o:Obj}{d:Value}(N:BL wr w5)(V:Fd.At (fun q=>wr.heap.size<=q/\q<w5.heap.size) w5 t a)(m:j.ownsRow v.heap.size 52 1 d (g.length+1) (C.map pt++[pt a]))(F:(w5.alloc o).grownBy j s.ownBlock)(y:d.ownBlock=s.ownBlock\/d.ownBlock=some (w5.alloc o).heap.size): LnB v x p b c (g++[t]) d (C++[a]) (j.setCell ⟨c,5,none⟩ d):=by
 have u:=h.below N;have P:=h.ln.lt;have A:c<w5.heap.size:=u.ln.lt;have I:(w5.alloc o).heap.size=w5.heap.size+1:=Xb _ _;have S:w5.heap.size+1<=j.heap.size:=by rw[←I];exact F.size
 have l:∀q,q<w5.heap.size->s.ownBlock≠some q->j.heap[q]?=w5.heap[q]?:=fun q Q hne=>(F.block q (by omega) (fun e=>hne e.symm)).trans (((X5 w5.heap.size w5).alloc (X4 _) o).block q Q);have z:Yx j c x s p b:=(l c A u.ne).trans u.ln;have H:(j.setCell ⟨c,5,none⟩ d).heap.size=j.heap.size:=Ie _ _ _;have n:∀q,s.ownBlock=some q->v.heap.size<=q/\q<wr.heap.size:=fun q e=>h.row.lt q e;have r:d.ownBlock≠some c:=by
  rcases y with e|e
  .rw[e];exact h.ne
  .rw[e,I];intro k;cases k;omega
 have K:∀q,q<w5.heap.size->q≠c->s.ownBlock≠some q->v.heap.size<=q->(v.heap.size<=q/\q<(j.setCell ⟨c,5,none⟩ d).heap.size/\q≠c/\d.ownBlock≠some q):=by
  intro q J D E M;refine⟨M,by rw[H];omega,D,?_⟩;rcases y with e|e
  .rw[e];exact E
  .rw[e,I];intro k;cases k;omega
 have L:∀q,q<w5.heap.size->q≠c->s.ownBlock≠some q->(j.setCell ⟨c,5,none⟩ d).heap[q]?=w5.heap[q]?:=fun q J D E=>(UY D).trans (l q J E);refine⟨?_,h.ge,z.set d,?_,?_,r⟩
 .exact((u.B.alloc u.B.size o).grown F (by have:=u.B.size;omega) (fun q e=>(n q e).1)).setCell h.ge d
 .rw[Xo,ZO];exact Qj m (fun q e=>(m.lt q e).1) (fun q e=>UY (fun k=>r (k ▸ e)))
 .refine Fd.Pu (Fd.W3 (fun q e=>K q e.2.1 e.2.2.1 e.2.2.2 e.1) (fun q e=>L q e.2.1 e.2.2.1 e.2.2.2) u.kids) (V.go (fun q e=>K q e.2 ?_ ?_ ?_) (fun q e=>L q e.2 ?_ ?_));all_goals first|(intro k;subst k;omega)|(intro k;have:=(n q k).2;omega)|(have:=h.B.size;omega)
theorem MP(w:World)(v:Value)(t:TypeId)(j:Nat)(u:Value)(h:[v][j]?=some u):(w.alloc (.cells #[v] t)).cell? ((⟨w.heap.size,0,none⟩:Addr).add j)=some u:=by
 cases j with
 | zero=>
  have e:v=u:=by simpa using h
  subst e;have a:((⟨w.heap.size,0,none⟩:Addr).add 0)=⟨w.heap.size,0,none⟩:=by simp[Addr.add]
  rw[a,World.cell?,XM];rfl
 | succ j=>simp at h
theorem Q3{w:World}{base:Nat}{e:TypeId}{size n:Nat}{v:Value}{d:List Value}(h:w.ownsRow base e size v n d)(j:0<n):∃g c,v= .slice (some ⟨g,0,none⟩) n c:=by
 rcases h.2 with⟨_,a⟩|⟨g,c,_,a,_⟩
 .omega
 .exact⟨_,_,a⟩
theorem YV{w:World}{B e size n:Nat}{v:Value}{j:List Value}(h:w.ownsRow B e size v n j):∃p c,v= .slice p n c:=by
 rcases h.2 with⟨d,a⟩|⟨g,c,_,a,_⟩
 .exact⟨none,0,by rw[a];exact d⟩
 .exact⟨_,c,a⟩
theorem ZF{w:World}{B size g c m:Nat}{e:TypeId}{a:List Value}(h:w.ownsRow B e size (.slice (some ⟨g,0,none⟩) m c) m a){j:Nat}{u:Value}(d:a[j]?=some u):w.cell? ⟨g,j,none⟩=some u:=by
 have:=h.cells rfl j u d
 rwa[show((⟨g,0,none⟩:Addr).add j)=⟨g,j,none⟩ by simp[Addr.add];exact fun h=>h.symm]at this
theorem Ue{w w':World}(h:Below w.drew.heap.size w.drew w'):Below w.heap.size w w':=⟨h.os,h.tape,h.output,h.size,h.block⟩
theorem LnB.end_{j:World}{x:Nd}{p b:Int}{d:Nat}{a:List Fd}{g:Value}{c:List Nat}{w:World}(h:LnB j x p b d a g c w):Fd.At (fun q=>j.heap.size<=q/\q<w.heap.size) w (.mk x p b a) d:=(Fd.UM _ _ _ _ _ _ _).2 ⟨g,c,h.ln,⟨h.ge,h.ln.lt⟩,Qj h.row (fun _ _=>X6 _) (fun _ _=>rfl),fun q e=>⟨(h.row.lt q e).1,(h.row.lt q e).2⟩,Fd.W3 (fun _ e=>⟨e.1,e.2.1⟩) (fun _ _=>rfl) h.kids⟩
theorem LnB.IK{q:World}{x:Nd}{p b:Int}{c:Nat}{a:List Fd}{g:Value}{k:List Nat}{wr w5 j:World}{o:Obj}(h:LnB q x p b c a g k wr)(l:BL wr w5)(m:(w5.alloc o).grownBy j g.ownBlock):Yx j c x g p b:=by
 have d:=h.below l;have r:(w5.alloc o).heap.size=w5.heap.size+1:=Xb _ _;have n:=d.ln.lt;exact((m.block c (by omega) (fun e=>d.ne e.symm)).trans (((X5 w5.heap.size w5).alloc (X4 _) o).block c n)).trans d.ln
theorem LnB.AT{m:World}{x:Nd}{p b:Int}{d:Nat}{a:List Fd}{c:Value}{j:List Nat}{wr w5 g:World}{o:Obj}(h:LnB m x p b d a c j wr)(k:BL wr w5)(l:(w5.alloc o).grownBy g c.ownBlock):g.cell? ⟨d,5,none⟩=some c:=(h.IK k l).c5
theorem LnB.Ca{m:World}{x:Nd}{p b:Int}{c:Nat}{a:List Fd}{d:Value}{j:List Nat}{wr w5 g:World}{o:Obj}(h:LnB m x p b c a d j wr)(k:BL wr w5)(l:(w5.alloc o).grownBy g d.ownBlock):g.frozen? ⟨c,5,none⟩=false:=(h.IK k l).fr 5
theorem Y1i(m:Int)(c:Nd):∀(n:Nat) (y:Fd),y.size<=n->n<=1000000->∀(a M:Nat) (z:Value) (cp cb:Int) (w:World),Fd.Is w y a->Yx w M c z cp cb->Calls prog 71 #[pt a,.int .i64 m,pt M] w fun e w'=>Lp w (Fd.Yr m c y) e w':=by
 intro n;induction n with
 | zero=>intro y hy;have:=Fd.size_pos y;omega
 | succ n ih=>
  intro y hy hn a M z cp cb w h hc;obtain⟨x,p,b,ks⟩:=y;rw[Fd.Zi]at hy;have hs:∀t∈ks,t.size<=n:=fun t ht=>by have:=Fd.Ql ht;omega
  obtain⟨sl,ad,W,a0,h2,a1,X⟩:=(Fd.UM _ _ _ _ _ _ _).1 h;have N:=Fd.Ps X;have b4:ks.length<=Fd.YP ks:=by
   clear X h2 hs hy h N;induction ks with
   | nil=>simp
   | cons t r ih=>have:=Fd.size_pos t;rw[Fd.Qk,Ya];omega
  have HA:=X1 X;have Z:=X1 h2;have J:=X1 hc;have K:=X1 W;have k0:=W.c0;have k7:=W.c7;rw[Fd.Up];clear h W h2 X hc a0 a1;by_cases A:x.kind=5/\b=m
  .rw[X3 A];obtain⟨A,rfl⟩:=A;have b5:(x.kind==5)=true:=by simpa using A
   have c0:=J.o.c0;have c1:=J.o.c1;have c2:=J.o.c2;have c3:=J.o.c3;have c4:=J.o.c4;go_enter func71,ntmps71;go_wp2;go_ret;refine⟨_,rfl,?_,?_⟩
   .exact(LnB.new (X5 _ _)).end_
   .exact bA _
  .rw[X2 A];obtain⟨iN,hN,a6,a4,a3⟩:=Yk Rh;obtain⟨sp,sc,H⟩:=YV Z.o;subst H;have c1:=K.o.c1;have c2:=K.o.c2;have c3:=K.o.c3;have c4:=K.o.c4;have c6:=K.o.c6;have D:(x.kind==5)=false\/((x.kind==5)=true/\(b==m)=false):=by
    by_cases e:x.kind=5
    .exact .inr ⟨by simpa using e,by simpa using fun e2=>A ⟨e,e2⟩⟩
    .exact .inl (by simpa using e)
   clear A;go_enter func71,ntmps71;go_upto_region 1 with fail;go_cut[22]from 9 to 22 (fun b1 wx=>b1= .bool false/\wx=w)
   case first=>
    rcases D with a2|⟨a2,b3⟩;all_goals
     go_wp2_with fail;go_meet
     case rel=>exact⟨rfl,rfl⟩
   case rest=>
    obtain⟨rfl,I⟩:=hcut;have I:=I.symm;subst I;go_upto_region 3 with fail;go_cut[7]from 29 to 42 (fun v7 wx=>∃L,v7=pt L/\LnB w x p b L [] (.slice none 0 0) [] wx)
    case first=>
     go_region_law(fail);all_goals
      go_wp2_with fail;go_meet
      case rel=>exact⟨_,rfl,LnB.new (X5 _ _).drew⟩
    case rest=>
     obtain⟨L,rfl,P⟩:=hcut;have Y:=X1 P;clear P k0 k7 c1 c2 c3 c4 c6;go_wp2_with fail;go_loopw[8] (fun t wr=>∃(i:Nat) (sb:Value) (ab:List Nat),i<=ks.length/\t= .int .i64 (i:Int)/\LnB w x p b L ((ks.take i).map (Fd.Yr m c)) sb ab wr) (fun t _=>ks.length-(intOf t).toNat)
     case atStart=>exact⟨0,_,_,X6 _,rfl,Y.o⟩
     case round=>
      obtain⟨i,sb,ab,hi,rfl,hL⟩:=hrel;have l:=X1 hL;have k5:=(K.o.below hL.B).c5;clear hL;by_cases Q:i<ks.length
      .have b2:(i:Int)<(ks.length:Int):=by omega
       obtain⟨g,cc,H⟩:=Q3 Z.o (by omega);cases H;obtain⟨ai,a7,a8⟩:=Fd.DR i HA.o Q;have ke:wr.cell? ⟨g,i,none⟩=some (pt ai):=ZF (KJ Z.o l.o.B) (by rw[Vf,a7];rfl);have S:ks[i]∈ks:=XR _;have HK:=X1 (ih ks[i] (hs _ S) (by omega) ai M z cp cb wr.drew ((Fd.Is.below a8 l.o.B).below (X5 _ _).drew) ((J.o.below l.o.B).below (X5 _ _).drew));have b5:=l.o.ln.c5;obtain⟨b0,a9,V⟩:=YV l.o.row;have E:((ks.take i).map (Fd.Yr m c)).length=i:=by rw[Z9,YM];omega
       rw[E]at V;subst V;go_wp2_with fail;go_region_law(first
        | (refine Z8 rfl 71 [.tmp 63,.tmp 64,.tmp 65] _ rfl [pt ai,.int .i64 m,pt M] (by simp[Act.eval]) f71 func71 (by kernel_rfl) (by kernel_rfl) (fun r w5=>∃s,r=pt s/\Fd.At (fun q=>wr.heap.size<=q/\q<w5.heap.size) w5 (Fd.Yr m c ks[i]) s/\BL wr w5) (HK.o.mono (fun _ _ ⟨s,q1,q2,q3⟩=>⟨pt s,q1,s,rfl,q2,Ue q3⟩)) ?_;rintro r w5⟨s,rfl,u,j⟩;have q5:=(l.o.below j).ln.c5;have b6:=((l.o.below j).below (bA (.cells #[pt s] 52))).ln.c5)
        | (refine Ur rfl (.tmp 56) (.tmp 67) 112 rfl w.heap.size 52 iN _ 1 8 underlying112 hN a6 a4 a3 rfl (by decide) (.slice b0 i a9) i (ab.map pt) (by simp[Act.eval]) (((E ▸ (l.o.below j).row)).alloc _) ⟨w5.heap.size,0,none⟩ 1 1 [pt s] (by simp[Act.eval]) rfl (MP _ _ _) (by simp[Value.oneCell']) (by unfold maxLen;omega) (by omega) (by have:=(l.o.below j).B.size;simp;omega) ?_;intro v6 w6 k d F v;obtain⟨p6,c6,rfl⟩:=YV k;have q6:=LnB.AT l.o j d;have b7:=LnB.Ca l.o j d))
       all_goals
         have hp:=l.o.push j u (E.symm ▸ k) d v;have e:(ks.take (i+1)).map (Fd.Yr m c)=(ks.take i).map (Fd.Yr m c)++[Fd.Yr m c ks[i]]:=by rw[Kt Q,ZO];rfl
         rw[←e]at hp;have HP:=X1 hp;clear hp d k v F u j;go_wp2;go_roundw
         case rel=>exact⟨i+1,_,_,by omega,by go_num,HP.o⟩
         case measure=>simp[intOf];omega
      .obtain rfl:i=ks.length:=by omega
       have C:=l.o;rw[JG]at C;have HF:=X1 C;clear C;go_wp2;go_ret;exact⟨L,rfl,HF.o.end_,HF.o.B⟩
def Ip.ty(k:Int):TypeId:=bif k==5 then 192 else bif k==6 then 193 else bif k==7 then 194 else bif k==8 then 195 else bif k==9 then 196 else bif k==10 then 197 else bif k==11 then 198 else bif k==12 then 199 else bif k==13 then 200 else bif k==14 then 201 else bif k==15 then 202 else bif k==16 then 203 else bif k==17 then 204 else bif k==18 then 205 else bif k==19 then 206 else bif k==20 then 207 else bif k==21 then 208 else bif k==22 then 209 else bif k==23 then 210 else bif k==24 then 211 else 212
def Ip.pv(x:Nd)(sl:Value):Value:= .iface (Ip.ty x.kind) (.agg #[.int .i64 x.kind,.int .i64 x.op,.int .i64 x.n,.string x.text,.int .i64 x.kids,sl])
theorem Um(k o m c0:Int)(t:ByteArray)(p:Option Addr)(n c:Nat)(w:World): Calls prog 65 #[.agg #[.int .i64 k,.int .i64 o,.int .i64 m,.string t,.int .i64 c0],.slice p n c] w fun e w'=>e= .returned (Ip.pv ⟨k,o,m,t,n⟩ (.slice p n c))/\Below w.heap.size w w':=by
 have a:Hid (∀k:Int,Ip.pv ⟨k,o,m,t,n⟩ (.slice p n c)= .iface (Ip.ty k) (.agg #[.int .i64 k,.int .i64 o,.int .i64 m,.string t,.int .i64 n,.slice p n c])):=X1 (fun _=>rfl);rw[a.o];go_enter func65,ntmps65;go_wp2;all_goals
  go_ret;refine⟨?_,?_⟩
  .clear a;simp only[Ip.ty, *,cond_true,cond_false];rfl
  .repeat(first|(refine VN ?_ (by show w.heap.size<=w.heap.size;exact X4 _) _)|(refine Below.alloc ?_ (by simp) _))
   exact X5 _ _
theorem G9(k o m c:Int)(t:ByteArray)(a:Value)(d:∃p n c,a= .slice p n c)(w:World): Calls prog 294 #[.agg #[.int .i64 k,.int .i64 o,.int .i64 m,.string t,.int .i64 c,a]] w fun e w'=>e= .returned a/\Below w.heap.size w w':=by
 obtain⟨p,n,c,rfl⟩:=d;go_enter func294,ntmps294;go_wp2;go_ret;exact⟨rfl,bA _⟩
theorem D5(k o m c:Int)(t:ByteArray)(a:Value)(d:∃p n c,a= .slice p n c)(w:World): Calls prog 297 #[.agg #[.int .i64 k,.int .i64 o,.int .i64 m,.string t,.int .i64 c,a]] w fun e w'=>e= .returned (.agg #[.int .i64 k,.int .i64 o,.int .i64 m,.string t,.int .i64 c])/\Below w.heap.size w w':=by
 obtain⟨p,n,c',rfl⟩:=d;go_enter func297,ntmps297;go_wp2;refine X7 (v:= .agg #[.int .i64 k,.int .i64 o,.int .i64 m,.string t,.int .i64 c]) (by simp[results,results297,go_sem]) rfl ⟨rfl,?_⟩;repeat(first|(refine VN ?_ (by show w.heap.size<=w.heap.size+1;omega) _)|(refine Below.alloc ?_ (by simp) _))
 exact X5 _ _
theorem Ip.PJ{c:Bool}{a b:TypeId}{l:List TypeId}(d:a∈l)(g:b∈l):cond c a b∈l:=by cases c<;>assumption
theorem Ip.Y4w(k:Int):Ip.ty k∈([192,193,194,195,196,197,198,199,200,201,202,203,204,205,206,207,208,209,210,211,212]:List TypeId):=by
 unfold Ip.ty;repeat(refine Ip.PJ (by simp) ?_)
 simp
theorem Ip.FA(k:Int):Ip.ty k=192\/Ip.ty k=193\/Ip.ty k=194\/Ip.ty k=195\/Ip.ty k=196\/Ip.ty k=197\/Ip.ty k=198\/Ip.ty k=199\/Ip.ty k=200\/Ip.ty k=201\/Ip.ty k=202\/Ip.ty k=203\/Ip.ty k=204\/Ip.ty k=205\/Ip.ty k=206\/Ip.ty k=207\/Ip.ty k=208\/Ip.ty k=209\/Ip.ty k=210\/Ip.ty k=211\/Ip.ty k=212:=by
 have h:=Ip.Y4w k;simpa only[Y6,ZA,Zy]using h
theorem Ge(k o m c:Int)(t:ByteArray)(a:Value)(w:World):(Go.method 464 (Ip.ty k) (.agg #[.int .i64 k,.int .i64 o,.int .i64 m,.string t,.int .i64 c,a]) "loop.example/kilnclay/impl.kids").run prog w= .ok (294,.agg #[.int .i64 k,.int .i64 o,.int .i64 m,.string t,.int .i64 c,a]) w:=by
 rcases Ip.FA k with h|h|h|h|h|h|h|h|h|h|h|h|h|h|h|h|h|h|h|h|h<;>rw[h]<;>kernel_rfl
theorem Dc(k o m c:Int)(t:ByteArray)(a:Value)(w:World):(Go.method 464 (Ip.ty k) (.agg #[.int .i64 k,.int .i64 o,.int .i64 m,.string t,.int .i64 c,a]) "loop.example/kilnclay/impl.self").run prog w= .ok (297,.agg #[.int .i64 k,.int .i64 o,.int .i64 m,.string t,.int .i64 c,a]) w:=by
 rcases Ip.FA k with h|h|h|h|h|h|h|h|h|h|h|h|h|h|h|h|h|h|h|h|h<;>rw[h]<;>kernel_rfl
namespace Fd
def nk(x:Nd)(n:Nat):Nd:={x with kids:=n}
def Pt(B:Nat->Prop)(w:World):Fd->Value->Prop
 | .mk x _ _ ks,v=>∃(sl:Value) (xs:List Value),v=Ip.pv (nk x ks.length) sl/\w.ownsRow 0 44 1 sl ks.length xs/\(∀q,sl.ownBlock=some q->B q)/\ptL B w ks xs
 where
 ptL (B:Nat->Prop) (w:World):List Fd->List Value->Prop
 | [],xs=>xs=[]
 | t::r,xs=>∃v s,xs=v::s/\Pt B w t v/\ptL B w r s
theorem Q2(B:Nat->Prop)(w:World)(x:Nd)(p b:Int)(ks:List Fd)(v:Value):Pt B w (.mk x p b ks) v↔∃(a:Value) (c:List Value),v=Ip.pv (nk x ks.length) a/\w.ownsRow 0 44 1 a ks.length c/\(∀q,a.ownBlock=some q->B q)/\Pt.ptL B w ks c:=by rw[Pt]
variable {B:Nat->Prop}
theorem Qh(w:World)(a:List Value):Pt.ptL B w [] a↔a=[]:=by rw[Pt.ptL]
theorem Ka(w:World)(t:Fd)(r:List Fd)(a:List Value):Pt.ptL B w (t::r) a↔∃v s,a=v::s/\Pt B w t v/\Pt.ptL B w r s:=by rw[Pt.ptL]
theorem MW{w:World}:∀{l:List Fd} {c:List Value},Pt.ptL B w l c->c.length=l.length
 | [],c,h=>by rw[(Qh w c).1 h];rfl
 | t::r,c,h=>by
  obtain⟨a,s,rfl,_,d⟩:=(Ka w t r c).1 h;rw[Ya,Ya,MW d]
theorem Gi{w:World}:∀{l:List Fd} {c:List Value} (i:Nat),Pt.ptL B w l c->(hi:i<l.length)->∃a,c[i]?=some a/\Pt B w l[i] a
 | t::r,c,0,h,_=>by
  obtain⟨a,s,rfl,d,_⟩:=(Ka w t r c).1 h;exact⟨a,rfl,d⟩
 | t::r,c,i+1,h,hi=>by
  obtain⟨a,s,rfl,_,g⟩:=(Ka w t r c).1 h;obtain⟨b,j,k⟩:=Gi i g (by simpa using hi);exact⟨b,by simpa using j,by simpa using k⟩
theorem RT{w:World}:∀{l:List Fd} {c:List Value} {t:Fd} {a:Value},Pt.ptL B w l c->Pt B w t a->Pt.ptL B w (l++[t]) (c++[a])
 | [],c,t,a,h,ht=>by
  rw[(Qh w c).1 h];exact(Ka _ _ _ _).2 ⟨a,[],rfl,ht,(Qh _ _).2 rfl⟩
 | y::r,c,t,a,h,ht=>by
  obtain⟨b,s,rfl,d,g⟩:=(Ka w y r c).1 h;exact(Ka _ _ _ _).2 ⟨b,s++[a],rfl,d,RT g ht⟩
theorem Y0s{B':Nat->Prop}{w w':World}(C:∀q,B q->B' q)(E:∀q,B q->w'.heap[q]?=w.heap[q]?):∀(n:Nat) (y:Fd),y.size<=n->∀{a:Value},Pt B w y a->Pt B' w' y a:=by
 intro n;induction n with
 | zero=>intro y d;have:=size_pos y;omega
 | succ n F=>
  intro y d a h;obtain⟨x,p,b,ks⟩:=y;rw[Zi]at d;have u:∀t∈ks,t.size<=n:=fun t D=>by have:=Ql D;omega
  obtain⟨H,v,k,l,g,m⟩:=(Q2 _ _ _ _ _ _ _).1 h;refine(Q2 _ _ _ _ _ _ _).2 ⟨H,v,k,Qj l (fun _ _=>X6 _) (fun q e=>E q (g q e)),fun q e=>C q (g q e),?_⟩;clear k l g h d;induction ks generalizing v with
  | nil=>exact(Qh _ _).2 ((Qh _ _).1 m)
  | cons t r j=>
   obtain⟨c,s,rfl,z,A⟩:=(Ka _ _ _ _).1 m;exact(Ka _ _ _ _).2 ⟨c,s,rfl,F t (u t (by simp)) z,j (fun y d=>u y (by simp[d])) s A⟩
theorem Pt.go{B':Nat->Prop}{w w':World}{y:Fd}{a:Value}(h:Pt B w y a)(c:∀q,B q->B' q)(d:∀q,B q->w'.heap[q]?=w.heap[q]?):Pt B' w' y a:=Y0s c d _ y (X4 _) h
theorem QW{B':Nat->Prop}{w w':World}(d:∀q,B q->B' q)(g:∀q,B q->w'.heap[q]?=w.heap[q]?):∀{l:List Fd} {a:List Value},Pt.ptL B w l a->Pt.ptL B' w' l a
 | [],a,h=>(Qh _ _).2 ((Qh _ _).1 h)
 | t::r,a,h=>by
  obtain⟨c,s,rfl,j,k⟩:=(Ka _ _ _ _).1 h;exact(Ka _ _ _ _).2 ⟨c,s,rfl,j.go d g,QW d g k⟩
abbrev IsP(w:World)(y:Fd)(v:Value):Prop:=Pt (fun q=>q<w.heap.size) w y v
theorem IsP.below{w w':World}{y:Fd}{v:Value}(h:IsP w y v)(a:BL w w'):IsP w' y v:=Pt.go h (fun _ e=>Xd e a.size) (fun q e=>a.block q e)
end Fd
def Fd.dv(k n:Int)(t:ByteArray):Value:=if k=1 then .iface 356 (.agg #[])else if k=2 then .iface 73 (.bool (n==1))else if k=3 then .iface 96 (.int .i64 n)else if k=4 then .iface 81 (.string t)else .nilIface
theorem Bf(k o n c:Int)(t:ByteArray)(w:World): Calls prog 302 #[.agg #[.int .i64 k,.int .i64 o,.int .i64 n,.string t,.int .i64 c]] w fun e w'=>e= .returned (.tuple #[Fd.dv k n t,.bool (decide (1<=k/\k<=4))])/\Below w.heap.size w w':=by
 have fin:∀v b,Fd.dv k n t=v->decide (1<=k/\k<=4)=b->Ending.returned (.tuple #[v,.bool b])=Ending.returned (.tuple #[Fd.dv k n t,.bool (decide (1<=k/\k<=4))]):=fun v b a d=>by rw[a,d]
 have r:=X1 fin;have q:Hid (BL w (w.alloc (.cells #[.int .i64 k,.int .i64 o,.int .i64 n,.string t,.int .i64 c] 48))):=X1 (bA _);clear fin;by_cases a:k=1
 .have s:(k==1)=true:=by simpa using a
  have j:Hid (Fd.dv k n t= .iface 356 (.agg #[])):=X1 (by unfold Fd.dv;rw[X3 a]);have g:Hid (decide (1<=k/\k<=4)=true):=X1 (YJ (by omega));clear a;go_enter func302,ntmps302;go_wp2;refine X7 (v:= .tuple #[.iface 356 (.agg #[]),.bool true]) (by simp[results,results302,go_sem]) rfl ⟨r.o _ _ j.o g.o,q.o⟩
 .have s:(k==1)=false:=by simpa using a
  by_cases d:k=2
  .have u:(k==2)=true:=by simpa using d
   have j:Hid (Fd.dv k n t= .iface 73 (.bool (n==1))):=X1 (by unfold Fd.dv;rw[X2 a,X3 d]);have g:Hid (decide (1<=k/\k<=4)=true):=X1 (YJ (by omega));clear a d;go_enter func302,ntmps302;go_wp2;refine X7 (v:= .tuple #[.iface 73 (.bool (n==1)),.bool true]) (by simp[results,results302,go_sem]) rfl ⟨r.o _ _ j.o g.o,q.o⟩
  .have u:(k==2)=false:=by simpa using d
   by_cases l:k=3
   .have y:(k==3)=true:=by simpa using l
    have j:Hid (Fd.dv k n t= .iface 96 (.int .i64 n)):=X1 (by unfold Fd.dv;rw[X2 a,X2 d,X3 l]);have g:Hid (decide (1<=k/\k<=4)=true):=X1 (YJ (by omega));clear a d l;go_enter func302,ntmps302;go_wp2;refine X7 (v:= .tuple #[.iface 96 (.int .i64 n),.bool true]) (by simp[results,results302,go_sem]) rfl ⟨r.o _ _ j.o g.o,q.o⟩
   .have y:(k==3)=false:=by simpa using l
    by_cases m:k=4
    .have z:(k==4)=true:=by simpa using m
     have j:Hid (Fd.dv k n t= .iface 81 (.string t)):=X1 (by unfold Fd.dv;rw[X2 a,X2 d,X2 l,X3 m]);have g:Hid (decide (1<=k/\k<=4)=true):=X1 (YJ (by omega));clear a d l m;go_enter func302,ntmps302;go_wp2;refine X7 (v:= .tuple #[.iface 81 (.string t),.bool true]) (by simp[results,results302,go_sem]) rfl ⟨r.o _ _ j.o g.o,q.o⟩
    .have z:(k==4)=false:=by simpa using m
     have j:Hid (Fd.dv k n t= .nilIface):=X1 (by unfold Fd.dv;rw[X2 a,X2 d,X2 l,X2 m]);have g:Hid (decide (1<=k/\k<=4)=false):=X1 (Yb (by omega));clear a d l m;go_enter func302,ntmps302;go_wp2;refine X7 (v:= .tuple #[.nilIface,.bool false]) (by simp[results,results302,go_sem]) rfl ⟨r.o _ _ j.o g.o,q.o⟩
end Go.Proofs.YtkoiikmhfaebnaaGreatDoor
namespace Go.Proofs.YtkoiikmhfaebnaaGreatDoor.Vl
open Tryz Go.RowKit
def Xp(x:Int):Prop:=-9223372036854775808<=x/\x<=9223372036854775807
theorem Y6u(p:Int):∃k:Int,wrap64 p=p+k*18446744073709551616/\Xp (wrap64 p):=by
 refine⟨- ((p+9223372036854775808) / 18446744073709551616),?_,?_⟩
 .unfold wrap64;omega
 .unfold Xp;unfold wrap64;omega
theorem Jn{p:Int}(h:Xp p):wrap64 p=p:=by unfold Xp at h;unfold wrap64;omega
theorem Oi(z y:Int)(c:Xp z)(j:y≠0)(d:¬(y= -1)):Xp (z.tdiv y):=by
 unfold Xp at *;have h:=ON z y;by_cases a:y=1
 .subst a;rw[OO];exact c
 .have g:z.natAbs.div y.natAbs<=z.natAbs / 2:=P6 (by omega) (by omega);omega
theorem Ld(z y:Int)(a:y≠0):(z.tmod y).natAbs<y.natAbs:=by rw[Int.natAbs_tmod];exact WB _ (by omega)
theorem Eb(x y:Int)(l:Xp x)(s:Xp y)(a:y≠0):(wrap64 ((wrap64 (x*y)).tdiv y)=x/\¬(y= -1/\x= -9223372036854775808))↔Xp (x*y):=by
 obtain⟨k,q,m⟩:=Y6u (x*y);generalize wrap64 (x*y)=z at *;have c:=OM z y;have r:=Ld z y a;constructor
 .rintro⟨g,n⟩;by_cases j:y= -1
  .subst j;unfold Xp at *;omega
  .rw[Jn (Oi z y m a j)]at g;rw[g]at c;rw[Int.mul_comm]at c;generalize x*y=p at *;unfold Xp at *;omega
 .intro h;have d:z=x*y:=by
   generalize x*y=p at *;unfold Xp at *;omega
  refine⟨?_,?_⟩
  .rw[d,Int.mul_tdiv_cancel _ a];exact Jn l
  .rintro⟨rfl,rfl⟩;unfold Xp at h;omega
end Go.Proofs.YtkoiikmhfaebnaaGreatDoor.Vl
namespace Go.Proofs.YtkoiikmhfaebnaaGreatDoor
open Tryz Go.RowKit
def Fd.cn(k n:Int)(s:ByteArray):Nd:=⟨k,0,n,s,0⟩
def VAt(w:World)(v:Value)(x:Nd):Prop:=∃g c,v= .agg #[.slice (some ⟨g,0,none⟩) 1 c]/\g<w.heap.size/\w.cell? ⟨g,0,none⟩=some (.int .i64 x.kind)/\w.cell? ⟨g,1,none⟩=some (.int .i64 x.n)/\w.cell? ⟨g,2,none⟩=some (.string x.text)/\w.cell? ⟨g,3,none⟩=some (.int .i64 0)
theorem VAt.below{w w':World}{v:Value}{x:Nd}(h:VAt w v x)(d:BL w w'):VAt w' v x:=by
 obtain⟨g,c,j,a,k,l,m,n⟩:=h;exact⟨g,c,j,Xd a d.size,(d.cell (p:=⟨g,0,none⟩) a).trans k,(d.cell (p:=⟨g,1,none⟩) a).trans l,(d.cell (p:=⟨g,2,none⟩) a).trans m,(d.cell (p:=⟨g,3,none⟩) a).trans n⟩
theorem VAt.set{w:World}{g c b i:Nat}{u:Value}{x:Nd}(h:VAt w (.agg #[.slice (some ⟨g,0,none⟩) 1 c]) x)(s:g≠b):VAt (w.setCell ⟨b,i,none⟩ u) (.agg #[.slice (some ⟨g,0,none⟩) 1 c]) x:=by
 obtain⟨t,c',k,l,m,n,q,r⟩:=h;cases k;have d:∀j,(w.setCell ⟨b,i,none⟩ u).cell? ⟨g,j,none⟩=w.cell? ⟨g,j,none⟩:=fun j=>Xy (w:=w) (a:=⟨g,j,none⟩) (UY s);exact⟨g,c,rfl,by rw[Ie];exact l,(d 0).trans m,(d 1).trans n,(d 2).trans q,(d 3).trans r⟩
def Ia(w:World)(x:Nd)(e:Ending)(w':World):Prop:=∃g c,e= .returned (.agg #[.slice (some ⟨g,0,none⟩) 1 c])/\w.heap.size<=g/\VAt w' (.agg #[.slice (some ⟨g,0,none⟩) 1 c]) x/\Below w.heap.size w w'
structure OQ:Prop where
 Xcv:∀w,Calls prog 120 #[] w (Ia w (Fd.cn 1 0 ⟨#[]⟩))
 X1e:∀(b:Bool) w,Calls prog 121 #[.bool b] w (Ia w (Fd.cn 2 (if b then 1 else 0) ⟨#[]⟩))
 X8t:∀(n:Int) w,Calls prog 122 #[.int .i64 n] w (Ia w (Fd.cn 3 n ⟨#[]⟩))
 Y3r:∀(t:ByteArray) w,Calls prog 123 #[.string t] w (Ia w (Fd.cn 4 0 t))
def Hf(w:World)(x:Nd)(e:Ending)(w':World):Prop:=Below w.heap.size w w'/\((Fd.isC x/\∃g c,e= .returned (.tuple #[.agg #[.slice (some ⟨g,0,none⟩) 1 c],.bool true])/\w.heap.size<=g/\VAt w' (.agg #[.slice (some ⟨g,0,none⟩) 1 c]) x)\/(¬Fd.isC x/\e= .returned (.tuple #[.agg #[.slice none 0 0],.bool false])))
theorem Be(N:OQ)(a:Nat)(x:Nd)(sl:Value)(p b:Int)(w:World)(h:Yx w a x sl p b)(hc:Fd.isC x->Fd.CN x):Calls prog 67 #[pt a] w fun e w'=>Hf w x e w':=by
 have HX:=X1 h;have H:BL w (w.alloc (.cells #[.slice none 0 0] 118)):=bA _;have m:=X1 H;have D:=X1 N;have k0:=(h.below H).c0;have k2:=(h.below H).c2;have k3:=(h.below H).c3;clear h H N;by_cases C:Fd.isC x
 .have A:=hc C;have hk:x.kind=1\/x.kind=2\/x.kind=3\/x.kind=4:=by unfold Fd.isC at C;omega
  have tail:∀y:Nd,y.kind=x.kind->y.n=x.n->y.text=x.text->∀(w5:World) (S:Value),VAt w5 S y->VAt w5 S x:=fun y J I K _ _ hv=>by
   obtain⟨g,c,z,V,W,X,Y,Z⟩:=hv;exact⟨g,c,z,V,J ▸ W,I ▸ X,K ▸ Y,Z⟩
  rcases hk with J|I|K|P
  .have L:(x.kind==1)=true:=by simpa using J
   have B:=X1 (D.o.Xcv (w.alloc (.cells #[.slice none 0 0] 118)));go_enter func67,ntmps67;go_wp2_with fail;refine B.o.mono ?_;rintro e w5⟨s,c5,rfl,l,u,j⟩;obtain⟨_,_,t,d⟩:=u;cases t;simp only[Xb]at l;have k:w5.cell? ⟨w.heap.size,0,none⟩=some (.slice none 0 0):=(j.cell (p:=⟨w.heap.size,0,none⟩) (by simp)).trans (by simp);have F:w5.frozen? ⟨w.heap.size,0,none⟩=false:=(KU (a:=⟨w.heap.size,0,none⟩) (j.block w.heap.size (by simp))).trans (by simp);have E:=X1 (m.o.trans (j.mono m.o.size));have r:=X1 d;have q:Hid (s≠w.heap.size):=X1 (fun e=>by have z:=d.2.1;rw[e,k]at z;cases z);clear j d B;go_wp2;refine X7 (v:= .tuple #[.agg #[.slice (some ⟨s,0,none⟩) 1 c5],.bool true]) (by simp[results,results67,go_sem,k]) rfl ⟨?_,.inl ⟨C,_,_,rfl,by omega,?_⟩⟩
   .exact E.o.setCell (X4 _) _
   .refine tail (Fd.cn 1 0 ⟨#[]⟩) J.symm (A.zero (by omega) (by omega)).symm (A.text (by omega)).symm _ _ ?_;exact VAt.set ⟨s,c5,rfl,r.o⟩ q.o
  .have L:(x.kind==1)=false:=by simpa using(by omega:x.kind≠1)
   have M:(x.kind==2)=true:=by simpa using I
   have B:=X1 (fun b=>D.o.X1e b (w.alloc (.cells #[.slice none 0 0] 118)));go_enter func67,ntmps67;go_wp2_with fail;refine(B.o _).mono ?_;rintro e w5⟨s,c5,rfl,l,u,j⟩;obtain⟨_,_,t,d⟩:=u;cases t;simp only[Xb]at l;have k:w5.cell? ⟨w.heap.size,0,none⟩=some (.slice none 0 0):=(j.cell (p:=⟨w.heap.size,0,none⟩) (by simp)).trans (by simp);have F:w5.frozen? ⟨w.heap.size,0,none⟩=false:=(KU (a:=⟨w.heap.size,0,none⟩) (j.block w.heap.size (by simp))).trans (by simp);have E:=X1 (m.o.trans (j.mono m.o.size));have r:=X1 d;have q:Hid (s≠w.heap.size):=X1 (fun e=>by have z:=d.2.1;rw[e,k]at z;cases z);clear j d B;go_wp2;refine X7 (v:= .tuple #[.agg #[.slice (some ⟨s,0,none⟩) 1 c5],.bool true]) (by simp[results,results67,go_sem,k]) rfl ⟨?_,.inl ⟨C,_,_,rfl,by omega,?_⟩⟩
   .exact E.o.setCell (X4 _) _
   .refine tail (Fd.cn 2 (if x.n==1 then 1 else 0) ⟨#[]⟩) I.symm (by show(if(x.n==1)=true then(1:Int)else 0)=x.n;rcases A.bit I with e|e<;>rw[e]<;>rfl) (A.text (by omega)).symm _ _ ?_
    exact VAt.set ⟨s,c5,rfl,r.o⟩ q.o
  .have L:(x.kind==1)=false:=by simpa using(by omega:x.kind≠1)
   have M:(x.kind==2)=false:=by simpa using(by omega:x.kind≠2)
   have Q:(x.kind==3)=true:=by simpa using K
   have B:=X1 (D.o.X8t x.n (w.alloc (.cells #[.slice none 0 0] 118)));go_enter func67,ntmps67;go_wp2_with fail;refine B.o.mono ?_;rintro e w5⟨s,c5,rfl,l,u,j⟩;obtain⟨_,_,t,d⟩:=u;cases t;simp only[Xb]at l;have k:w5.cell? ⟨w.heap.size,0,none⟩=some (.slice none 0 0):=(j.cell (p:=⟨w.heap.size,0,none⟩) (by simp)).trans (by simp);have F:w5.frozen? ⟨w.heap.size,0,none⟩=false:=(KU (a:=⟨w.heap.size,0,none⟩) (j.block w.heap.size (by simp))).trans (by simp);have E:=X1 (m.o.trans (j.mono m.o.size));have r:=X1 d;have q:Hid (s≠w.heap.size):=X1 (fun e=>by have z:=d.2.1;rw[e,k]at z;cases z);clear j d B;go_wp2;refine X7 (v:= .tuple #[.agg #[.slice (some ⟨s,0,none⟩) 1 c5],.bool true]) (by simp[results,results67,go_sem,k]) rfl ⟨?_,.inl ⟨C,_,_,rfl,by omega,?_⟩⟩
   .exact E.o.setCell (X4 _) _
   .refine tail (Fd.cn 3 x.n ⟨#[]⟩) K.symm rfl (A.text (by omega)).symm _ _ ?_;exact VAt.set ⟨s,c5,rfl,r.o⟩ q.o
  .have L:(x.kind==1)=false:=by simpa using(by omega:x.kind≠1)
   have M:(x.kind==2)=false:=by simpa using(by omega:x.kind≠2)
   have Q:(x.kind==3)=false:=by simpa using(by omega:x.kind≠3)
   have t4:(x.kind==4)=true:=by simpa using P
   have B:=X1 (D.o.Y3r x.text (w.alloc (.cells #[.slice none 0 0] 118)));go_enter func67,ntmps67;go_wp2_with fail;refine B.o.mono ?_;rintro e w5⟨s,c5,rfl,l,u,j⟩;obtain⟨_,_,t,d⟩:=u;cases t;simp only[Xb]at l;have k:w5.cell? ⟨w.heap.size,0,none⟩=some (.slice none 0 0):=(j.cell (p:=⟨w.heap.size,0,none⟩) (by simp)).trans (by simp);have F:w5.frozen? ⟨w.heap.size,0,none⟩=false:=(KU (a:=⟨w.heap.size,0,none⟩) (j.block w.heap.size (by simp))).trans (by simp);have E:=X1 (m.o.trans (j.mono m.o.size));have r:=X1 d;have q:Hid (s≠w.heap.size):=X1 (fun e=>by have z:=d.2.1;rw[e,k]at z;cases z);clear j d B;go_wp2;refine X7 (v:= .tuple #[.agg #[.slice (some ⟨s,0,none⟩) 1 c5],.bool true]) (by simp[results,results67,go_sem,k]) rfl ⟨?_,.inl ⟨C,_,_,rfl,by omega,?_⟩⟩
   .exact E.o.setCell (X4 _) _
   .refine tail (Fd.cn 4 0 x.text) P.symm (A.zero (by omega) (by omega)).symm rfl _ _ ?_;exact VAt.set ⟨s,c5,rfl,r.o⟩ q.o
 .have L:(x.kind==1)=false:=by unfold Fd.isC at C;simpa using(by omega:x.kind≠1)
  have M:(x.kind==2)=false:=by unfold Fd.isC at C;simpa using(by omega:x.kind≠2)
  have Q:(x.kind==3)=false:=by unfold Fd.isC at C;simpa using(by omega:x.kind≠3)
  have t4:(x.kind==4)=false:=by unfold Fd.isC at C;simpa using(by omega:x.kind≠4)
  go_enter func67,ntmps67;go_wp2;refine X7 (v:= .tuple #[.agg #[.slice none 0 0],.bool false]) (by simp[results,results67,go_sem]) rfl ⟨?_,.inr ⟨C,rfl⟩⟩;exact m.o
end Go.Proofs.YtkoiikmhfaebnaaGreatDoor
namespace Go.Proofs.YtkoiikmhfaebnaaGreatDoor
open Tryz
namespace Fd
def KG(t:ByteArray):List Fd->Nat
 | []=>0
 | y::r=>if r=[]then 1 else if y.x.text=t then 1 else 1+KG t r
def opn(t:ByteArray)(x:Nd)(ks:List Fd):Nat:=if x.kind=14\/x.kind=16 then(if x.text=t then 1 else ks.length)else if x.kind=15 then KG t ks else ks.length
theorem C4(t:ByteArray):∀l:List Fd,KG t l<=l.length
 | []=>by simp[KG]
 | y::r=>by
  have:=C4 t r;unfold KG;rw[Ya];split
  .omega
  .split<;>omega
theorem BR(t:ByteArray)(c:Nd):∀l:List Fd,fill.fillP t c l=(l.take (KG t l)).map (fill t c)++l.drop (KG t l)
 | []=>by simp[Mf,KG]
 | y::r=>by
  rw[BQ];unfold KG;by_cases d:r=[]
  .subst d;simp[Mf]
  .rw[X2 d];by_cases a:y.x.text=t
   .rw[X3 a,X3 a];simp
   .rw[X2 a,X2 a,BR t c r,VV 1,UE,Ve,Xu,OU]
theorem X5c(t:ByteArray)(c:Nd)(x:Nd)(p b:Int)(ks:List Fd)(k:¬(x.kind=5/\x.text=t))(j:x.kind=14\/x.kind=16->0<ks.length):fill t c (.mk x p b ks)= .mk x p b ((ks.take (opn t x ks)).map (fill t c)++ks.drop (opn t x ks)):=by
 rw[PT,X2 k];unfold opn;by_cases a:x.kind=14\/x.kind=16
 .rw[X3 a,X3 a];by_cases g:x.text=t
  .rw[X3 g,X3 g];cases ks with
   | nil=>have:=j a;simp at this
   | cons y r=>rw[BP];simp
  .rw[X2 g,X2 g];simp
 .rw[X2 a,X2 a];by_cases d:x.kind=15
  .rw[X3 d,X3 d,BR]
  .rw[X2 d,X2 d];simp
theorem Xep(t:ByteArray)(x:Nd)(ks:List Fd)(a:x.kind=14\/x.kind=16->0<ks.length):opn t x ks<=ks.length:=by
 unfold opn;split
 .rename_i h;have:=a h;split<;>omega
 .split
  .exact C4 t ks
  .exact X4 _
end Fd
end Go.Proofs.YtkoiikmhfaebnaaGreatDoor
namespace Go.Proofs.YtkoiikmhfaebnaaGreatDoor
open Tryz Go.RowKit
structure Gw (v v':Value) (w w':World):Prop where
 os:w'.os=w.os
 tape:w'.tape=w.tape
 output:w'.output=w.output
 size:w.heap.size<=w'.heap.size
 block:∀q,q<w.heap.size->v.ownBlock≠some q->w'.heap[q]?=w.heap[q]?
 own:∀q,v'.ownBlock=some q->v.ownBlock=some q\/w.heap.size<=q
theorem Gw.refl(v:Value)(w:World):Gw v v w w:=⟨rfl,rfl,rfl,X4 _,fun _ _ _=>rfl,fun _ e=> .inl e⟩
theorem Gw.trans{v g j:Value}{w w1 k:World}(a:Gw v g w w1)(b:Gw g j w1 k):Gw v j w k:=
 ⟨b.os.trans a.os,b.tape.trans a.tape,b.output.trans a.output,XO a.size b.size,fun q c d=>(b.block q (Xd c a.size) (fun e=>(a.own q e).elim (fun e=>d e) (fun e=>absurd c (Lz.2 e)))).trans (a.block q c d),
  fun q e=>(b.own q e).elim (fun e=>a.own q e) (fun e=> .inr (XO a.size e))⟩
theorem Gw.of{v:Value}{w w':World}(h:BL w w'):Gw v v w w':=⟨h.os,h.tape,h.output,h.size,fun q a _=>h.block q a,fun _ e=> .inl e⟩
theorem Gw.below{v v':Value}{w w':World}{B:Nat}(h:Gw v v' w w')(c:∀q,v.ownBlock=some q->B<=q)(d:B<=w.heap.size):Below B w w':=⟨h.os,h.tape,h.output,h.size,fun q a=>h.block q (by omega) (fun e=>absurd a (Lz.2 (c q e)))⟩
abbrev GAt(v:Value)(w:World)(y:Fd)(a:Nat):Prop:=Fd.At (fun q=>q<w.heap.size/\v.ownBlock≠some q) w y a
theorem GAt.gw{v v':Value}{w w':World}{y:Fd}{a:Nat}(h:GAt v w y a)(g:Gw v v' w w'):GAt v' w' y a:=Fd.At.go h (fun q e=>⟨Xd e.1 g.size,fun c=>(g.own q c).elim e.2 (fun d=>absurd e.1 (Lz.2 d))⟩) (fun q e=>g.block q e.1 e.2)
theorem Eg(l:List Nd)(x:Nd):Xe (l++[x])=Xe l++x.cells:=by simp[Xe]
theorem Cy:(prog.info? 48).map (fun i=>(i.zero,i.size,i.bytes))=some (some (.agg #[.int .i64 0,.int .i64 0,.int .i64 0,.string ⟨#[]⟩,.int .i64 0]),5,48):=by kernel_rfl
abbrev IW(x:Nd):Obj:= .cells #[.int .i64 x.kind,.int .i64 x.op,.int .i64 x.n,.string x.text,.int .i64 x.kids] 48
theorem AU(w:World)(x:Nd)(j:Nat)(u:Value)(h:x.cells[j]?=some u):(w.alloc (IW x)).cell? ((⟨w.heap.size,0,none⟩:Addr).add j)=some u:=by
 have e:((⟨w.heap.size,0,none⟩:Addr).add j)=⟨w.heap.size,j,none⟩:=by simp[Addr.add];exact fun h=>h.symm
 rw[e,World.cell?,XM];show(x.cells.toArray)[j]?=some u;rw[Q8];exact h
def SH(v:Value)(w:World)(base:Nat)(l:List Nd)(e:Ending)(w':World):Prop:=∃v',e= .returned v'/\w'.ownsRow base 48 5 v' l.length (Xe l)/\Gw v v' w w'
theorem Fd.IP:∀l:List Fd,l.length<=Fd.YP l
 | []=>by simp
 | t::r=>by have:=Fd.size_pos t;have:=Fd.IP r;rw[Fd.Qk,Ya];omega
theorem Fd.R6:∀(l:List Fd) (i:Nat),(Fd.XP.giveL (l.take i)).length+Fd.YP (l.drop i)<=Fd.YP l
 | [],i=>by simp[Fd.XP.giveL]
 | t::r,0=>by simp[Fd.XP.giveL]
 | t::r,i+1=>by
  have:=Fd.R6 r i;rw[UE,Ve,Fd.UT,Fd.Qk,Xo,Fd.Cf _ t (X4 _)];omega
theorem X6p(base:Nat):∀(n:Nat) (y:Fd),y.size<=n->∀(a:Nat) (v:Value) (l:List Nd) (w:World),l.length+y.size<=1000000->GAt v w y a->w.ownsRow base 48 5 v l.length (Xe l)->base<=w.heap.size->Calls prog 21 #[v,pt a] w fun e w'=>SH v w base (l++Fd.XP y) e w':=by
 intro n;induction n with
 | zero=>intro y hy;have:=Fd.size_pos y;omega
 | succ n ih=>
  intro y hy a v l w hl h hr b0;obtain⟨x,p,b,ks⟩:=y;rw[Fd.Zi]at hy hl;have hs:∀t∈ks,t.size<=n:=fun t ht=>by have:=Fd.Ql ht;omega
  have HY:=X1 h;have b7:=Fd.IP ks;have a4:=X1 hr;rw[Fd.G7];obtain⟨iN,hN,a8,a7,a6⟩:=Yk Cy;obtain⟨b3,_,h1,_,h2,_⟩:=(Fd.UM _ _ _ _ _ _ _).1 h;obtain⟨sp,sc,b1⟩:=YV h2;obtain⟨vp,vc,hv⟩:=YV hr;have HF:Hid (∀v' w',Gw v v' w w'->∃I,Yx w' a x (.slice sp ks.length sc) p b/\w'.ownsRow 0 52 1 (.slice sp ks.length sc) ks.length (I.map pt)/\Fd.At.atL (fun q=>q<w'.heap.size/\v'.ownBlock≠some q) w' ks I):=X1 (fun v' w' g=>by
   obtain⟨sl,I,r,_,K,_,Z⟩:=(Fd.UM _ _ _ _ _ _ _).1 (HY.o.gw g);obtain⟨c8,_,b5,M,_,_,_⟩:=(Fd.UM _ _ _ _ _ _ _).1 HY.o;have e1:w'.heap[a]?=w.heap[a]?:=g.block a M.1 M.2;have J:sl= .slice sp ks.length sc:=by
    have:=r.symm.trans (e1.trans h1);unfold lnO at this;simp only[ZP,Obj.cells.injEq]at this;have h3:=Zd (fun z=>z[5]?) this.1;have h4:sl=b3:=by simpa using h3
    rw[h4,b1]
   rw[J]at r K;exact⟨I,r,K,Z⟩)
  clear h hr h1 h2;subst hv;go_enter func21,ntmps21;go_wp2_with fail;go_loopw[0,5] (fun v' t wr=>∃i:Nat,i<=ks.length/\t= .int .i64 (i:Int)/\wr.ownsRow base 48 5 v' (l++Fd.XP.giveL (ks.take i)).length (Xe (l++Fd.XP.giveL (ks.take i)))/\Gw (.slice vp l.length vc) v' w wr) (fun _ t _=>ks.length-(intOf t).toNat)
  case atStart=>exact⟨0,X6 _,rfl,by simpa[Fd.XP.giveL]using a4.o,Gw.refl _ _⟩
  case round=>
   obtain⟨i,hi,rfl,d,hg⟩:=hrel;have HG:=X1 hg;have Q:(Fd.XP.giveL (ks.take i)).length+Fd.YP (ks.drop i)<=Fd.YP ks:=Fd.R6 ks i;have a5:(l++Fd.XP.giveL (ks.take i)).length+Fd.YP (ks.drop i)<=l.length+Fd.YP ks:=by rw[Xo];omega
   obtain⟨L,s⟩:∃L,L=l++Fd.XP.giveL (ks.take i):=⟨_,rfl⟩;rw[←s]at d a5;have H:=X1 s;clear s Q;have Y:=X1 d;obtain⟨I,r,K,Z⟩:=HF.o _ _ hg;have F:=X1 r;have HK:=X1 K;have HA:=X1 Z;have b8:=hg.size;have x5:=r.c5;clear hg d r K Z;by_cases A:i<ks.length
   .have b4:(i:Int)<(ks.length:Int):=by omega
    obtain⟨g,cc,V⟩:=Q3 HK.o (by omega);cases V;obtain⟨ai,a9,b2⟩:=Fd.DR i HA.o A;have ke:wr.cell? ⟨g,i,none⟩=some (pt ai):=ZF HK.o (by rw[Vf,a9];rfl);have S:ks[i]∈ks:=XR _;have b6:Fd.YP (ks.drop i)=ks[i].size+Fd.YP (ks.drop (i+1)):=by rw[Zp A,Fd.Qk]
    obtain⟨X,W,D⟩:=YV Y.o;subst D;have HC:=X1 (ih ks[i] (hs _ S) ai _ L wr (by omega) b2 Y.o (by omega));go_wp2_with fail;refine HC.o.mono ?_;rintro e w5⟨v5,rfl,C,P⟩;have e5:L++Fd.XP ks[i]=l++Fd.XP.giveL (ks.take (i+1)):=by
     rw[H.o,Kt A,Fd.Ce,Jo];congr 2;rw[Fd.UT];simp[Fd.XP.giveL]
    rw[e5]at C;have a2:=X1 C;have a1:=X1 (HG.o.trans P);clear C P HC;go_wp2;go_roundw
    case rel=>exact⟨i+1,by omega,by go_num,a2.o,a1.o⟩
    case measure=>simp[intOf];omega
   .obtain rfl:i=ks.length:=by omega
    have c0:=F.o.c0;have c1:=F.o.c1;have c2:=F.o.c2;have c3:=F.o.c3;have c4:=F.o.c4;have c9:=(F.o.below (bA (IW x))).c5;obtain⟨X,W,D⟩:=YV Y.o;subst D;have b9:L.length<=1000000:=by omega
    go_wp2_with(at_builtin;refine Yg _ rfl _ _ 23 rfl base 48 iN _ 5 48 underlying23 hN a8 a7 a6 rfl (by decide) _ _ _ rfl ((Y.o.alloc _).alloc _) ⟨wr.heap.size+1,0,none⟩ 1 1 ({x with kids:=ks.length}:Nd).cells rfl rfl ?_ ?_ ?_ ?_ ?_ ?_)
    .intro j u h;have:=AU (wr.alloc (IW {x with kids:=ks.length})) {x with kids:=ks.length} j u h;rw[Xb]at this;exact this
    .simp[Nd.cells,Value.oneCell']
    .unfold maxLen;omega
    .omega
    .simp;omega
    .intro v6 w6 k c B m;have B0:Below 0 wr w6:=(((X5 0 wr).alloc (X6 _) _).alloc (X6 _) _).grown c (X6 _) (fun _ _=>X6 _);have E:∀(o o2:Obj),((wr.alloc o).alloc o2).heap.size=wr.heap.size+1+1:=fun o o2=>by rw[Xb,Xb]
     have N:Gw (.slice X L.length W) v6 wr w6:=by
      refine⟨B0.os,B0.tape,B0.output,B0.size,fun q h1 h2=>?_,fun q e=>?_⟩
      .exact(c.block q (by rw[E];omega) (fun e=>h2 e.symm)).trans ((((X5 wr.heap.size wr).alloc (X4 _) _).alloc (by simp) _).block q h1)
      .rcases m with J|J
       .exact .inl (J ▸ e)
       .rw[J]at e;cases e;exact .inr (by first|omega|(rw[E];omega))
     have a0:=X1 (HG.o.trans N);have er:L++[({x with kids:=ks.length}:Nd)]=l++(Fd.XP.giveL ks++[({x with kids:=ks.length}:Nd)]):=by rw[H.o,JG,Jo]
     have d:w6.ownsRow base 48 5 v6 (L++[({x with kids:=ks.length}:Nd)]).length (Xe (L++[({x with kids:=ks.length}:Nd)])):=by rw[Eg,Xo];exact k
     rw[er]at d;have a3:=X1 d;clear d er N B0 E c k B m;go_wp2;go_ret;exact⟨v6,rfl,a3.o,a0.o⟩
