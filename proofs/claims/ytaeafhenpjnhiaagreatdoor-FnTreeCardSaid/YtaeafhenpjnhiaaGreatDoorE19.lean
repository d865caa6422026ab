import Derived.Test.YtaeafhenpjnhiaaGreatDoorE18
set_option maxHeartbeats 8000000
set_option maxRecDepth 100000
namespace Go.Proofs.YtaeafhenpjnhiaaGreatDoor
open Tryz Go.RowKit
section
def TMk(w:World)(m:Nat)(e:Ending)(w':World):Prop:=∃v l,e= .returned (.agg #[v])/\NR w' v l/\0<l.length/\l.length<=m/\Below w.heap.size w w'
theorem ZP[LB]{w:World}{b:Nat}{v:Value}{t:TypeId}(h:w.heap[b]?=some (.cells #[v] t)):w.cell? ⟨b,0,none⟩=some v/\w.frozen? ⟨b,0,none⟩=false:=⟨by rw[World.cell?,h];rfl,by rw[World.frozen?,h];simp⟩
theorem TM[LB](m:Nat)(w:World)(a5:2<=m)(hm:m<=100):Calls prog 64 #[.q (m:Int)] w (TMk w 110):=by
 have a6:IntKind.i64.wrap ((m:Int)-2)=(m:Int)-2:=by rw[Yp];omega
 have X0:Hid ((w.alloc (.cells #[.slice none 0 0] 25)).heap[w.heap.size]?=some (.cells #[.slice none 0 0] 25)):=X1 (YV _ _);have B0:Hid (BL w (w.alloc (.cells #[.slice none 0 0] 25))):=X1 (bA _);have L0:Hid (w.heap.size<(w.alloc (.cells #[.slice none 0 0] 25)).heap.size):=X1 (by simp);go_enter func64,ntmps64;go_wp2_with fail;go_fit(VU 1 _ (by decide));rintro e w1⟨v1,l1,rfl,u,p1,m1,Q⟩;obtain⟨g1,c1,a1⟩:=u.form p1;subst a1;have L:=X1 u;have J:=X1 (B0.o.trans (Q.mono B0.o.size));have O:=X1 ((Q.block _ L0.o).trans X0.o);clear u Q;go_wp2_with fail;go_loopw[3,4] (fun sv tv wr=>∃(i:Nat) (l:List Nd),i+2<=m/\tv= .q (i:Int)/\NR wr sv l/\0<l.length/\l.length<=i+1/\BL w wr/\wr.heap[w.heap.size]?=some (.cells #[.slice none 0 0] 25)) (fun _ tv _=>m-(intOf tv).toNat)
 case atStart=>exact⟨0,_,by omega,rfl,L.o,p1,m1,J.o,O.o⟩
 case round=>
  obtain⟨i,l,hi,rfl,C,hp,hl,Z,H⟩:=hrel;obtain⟨g,c,hv⟩:=C.form hp;subst hv;have E:w.heap.size<wr.heap.size:=QE wr ⟨w.heap.size,0,none⟩ (ZP H).1;have y:=X1 Z;have HX:=X1 H;by_cases a4:(i:Int)<(m:Int)-2
  .have A:=X1 (ZW ⟨6,2,0,⟨#[]⟩,0⟩ [_] _ _ (i+1) (pr1 C hp) (by rw[fl1];omega) (by omega) (by simp));unfold ndV at A;clear C Z H;go_wp2_with fail;go_fit A.o;rintro e2 w2⟨v2,l2,rfl,a,F,m2,r⟩;obtain⟨W,U,s⟩:=a.form F;subst s;have M:=X1 a;have d:=X1 ((y.o.alloc (y.o.size) (.cells #[.l g l.length c] 23)).trans (r.mono (Xz y.o.size (by simp))));have j:=X1 ((r.block _ (by simp;omega)).trans (((bA (.cells #[.l g l.length c] 23)).block _ E).trans HX.o));clear a r;go_wp2;go_roundw
   case rel=>exact⟨i+1,_,by omega,by go_num,M.o,F,by omega,d.o,j.o⟩
   case measure=>simp[intOf];omega
  .have A:=X1 (ZW ⟨21,0,0,⟨#[120]⟩,0⟩ [_] _ _ (i+1) (pr1 C hp) (by rw[fl1];omega) (by omega) (by simp));unfold ndV at A;clear C Z H;go_wp2_with fail;go_fit A.o;rintro e2 w2⟨v2,l2,rfl,a,F,m2,r⟩;obtain⟨W,U,s⟩:=a.form F;subst s;have d:=X1 ((y.o.alloc (y.o.size) (.cells #[.l g l.length c] 23)).trans (r.mono (Xz y.o.size (by simp))));have j:=X1 ((r.block _ (by simp;omega)).trans (((bA (.cells #[.l g l.length c] 23)).block _ E).trans HX.o));have a3:w.heap.size<w2.heap.size:=QE w2 ⟨w.heap.size,0,none⟩ (ZP j.o).1;have B:=X1 (ZW ⟨24,0,0,⟨#[]⟩,0⟩ [_] _ _ (i+2) (pr1 a F) (by rw[fl1];omega) (by omega) (by simp));unfold ndV at B;clear a r;go_wp2_with fail;go_fit B.o;rintro e3 w3⟨v3,I,rfl,n,p3,m3,S⟩;obtain⟨X,V,a2⟩:=n.form p3;subst a2;have K:=X1 ((d.o.alloc (d.o.size) (.cells #[.l W l2.length U] 23)).trans (S.mono (Xz d.o.size (by simp))));have k:=(S.block _ (by simp;omega)).trans (((bA (.cells #[.l W l2.length U] 23)).block _ a3).trans j.o);have t0:=(ZP k).1;have ft:=(ZP k).2;have a0:Xo w3 w.heap.size≠some 64:=by unfold Xo;rw[k];decide
   have N:Hid (NR (w3.setCell ⟨w.heap.size,0,none⟩ (.l X I.length V)) (.l X I.length V) I):=X1 ⟨Kc n.1 a0,n.2⟩;clear n S k;go_wp2;refine Xq (v:= .agg #[.l X I.length V]) (by simp[results,results64,go_sem,t0]) rfl ⟨_,_,rfl,N.o,p3,by omega,K.o.setCell (p:=⟨w.heap.size,0,none⟩) (X5 _) _⟩
def Ec:Value->Nat
 | .slice _ n _=>n
 | _=>0
def Rq[LB](rb:Nat)(vb:Value)(n q:Nat)(w:World):Prop:=∃p,p<=q/\Rd w rb vb n p
section
variable {rb:Nat} {vb:Value} {n q:Nat} {w w':World}
theorem Rq.mono[LB](h:Rq rb vb n q w){q':Nat}(g:q<=q'):Rq rb vb n q' w:=by
 obtain⟨p,d,a⟩:=h;exact⟨p,by omega,a⟩
theorem Rq.below[LB](h:Rq rb vb n q w)(a:BL w w'):Rq rb vb n q w':=by
 obtain⟨p,d,g⟩:=h;exact⟨p,d,g.Zi a⟩
theorem Rq.lt[LB](h:Rq rb vb n q w):rb<w.heap.size:=by
 obtain⟨p,d,a⟩:=h;exact a.lt
theorem Rq.pf[LB]{B:Nat}(h:Rq rb vb n q w)(d:Pf B w w')(j:rb<B):Rq rb vb n q w':=by
 obtain⟨p,g,a⟩:=h;have k:=a.lt;exact⟨p,g,a.JV (fun b m=>d.block b (by omega) (.inl (by omega)))⟩
theorem Rq.set[LB]{b o:Nat}{v:Value}(h:Rq rb vb n q w)(g:rb<b):Rq rb vb n q (w.setCell ⟨b,o,none⟩ v):=by
 obtain⟨p,a,d⟩:=h;exact⟨p,a,d.JV (fun x j=>Y0 _ _ _ _ (show x≠b by omega))⟩
theorem Rq.pick[LB](h:Rq rb vb n q w)(u:q<=900000000)(m:Int)(g:1<=m)(j:m<=1000000):Calls prog 22 #[.p rb,.q m] w fun e w'=>∃z:Nat,(z:Int)<m/\e= .returned (.q (z:Int))/\Rq rb vb n (q+1) w'/\Ty w w':=by
 obtain⟨p,s,d⟩:=h;go_fit(LG rb n p vb m w d (by omega) g j);rintro e v⟨z,r,rfl,a,k⟩;exact⟨z,r,rfl,⟨p+1,by omega,a⟩,.dr k d.own⟩
theorem Ty.same[LB](h:Ty w w'){b:Nat}{cs:Array Value}{t:TypeId}(a:w.heap[b]?=some (.cells cs t))(g:¬XL (some t)):w'.heap[b]?=some (.cells cs t):=by
 have d:b<w.heap.size:=by
  rcases V5 b w.heap.size with h|h
  .exact h
  .rw[Wm h]at a;cases a
 exact(h.block b d (by unfold Xo;rw[a];exact g)).trans a
theorem Pf.same[LB]{B:Nat}(h:Pf B w w'){b:Nat}{cs:Array Value}{t:TypeId}(a:w.heap[b]?=some (.cells cs t))(g:t≠23):w'.heap[b]?=some (.cells cs t):=by
 have d:b<w.heap.size:=by
  rcases V5 b w.heap.size with h|h
  .exact h
  .rw[Wm h]at a;cases a
 exact(h.block b d (.inr (by unfold Xo;rw[a];exact fun e=>g (Zq e)))).trans a
theorem E7[LB]{b o:Nat}{v:Value}{W:World}(h:Ty w W)(s:w.heap.size<=b):Ty w (W.setCell ⟨b,o,none⟩ v):=by
 have k:=(X8 0 W).setCell (p:=⟨b,o,none⟩) (Xb _) v;have e:∀q,q<w.heap.size->(W.setCell ⟨b,o,none⟩ v).heap[q]?=W.heap[q]?:=fun q u=>Y0 _ _ _ _ (show q≠b by omega);exact⟨k.os.trans h.os,k.tape.trans h.tape,k.output.trans h.output,Xz h.size k.size,fun q d g=>(e q d).trans (h.block q d g),fun j q d g=>by
  obtain⟨m,r⟩:=h.two j q d g;exact⟨(KI (e q d)).trans m,(XQ (a:=⟨q,2,none⟩) (e q d)).trans r⟩,fun q d g=>(e q d).trans (h.old q d g)⟩
end
theorem TyM.same[LB]{w w':World}{b:Nat}{o:Obj}(a:w.heap[b]?=some o)(h:BL w w'):w'.heap[b]?=some o:=by
 have d:b<w.heap.size:=by
  rcases V5 b w.heap.size with h|h
  .exact h
  .rw[Wm h]at a;cases a
 exact(h.block b d).trans a
theorem US[LB]:¬XL (some 25):=by unfold XL;simp
theorem La[LB]{w:World}{b:Nat}{cs:Array Value}{t:TypeId}(h:w.heap[b]?=some (.cells cs t))(o:Nat)(v:Value):(w.setCell ⟨b,o,none⟩ v).heap[b]?=some (.cells (cs.setIfInBounds o v) t):=by
 unfold World.setCell;simp only[Array.getElem?_modify,h];rfl
def NX(c:Nat)(w:World)(v:Value)(l:List Nd):Prop:=w.ownsRow c 64 5 v l.length (Xh l)/\Sh l
def PX(c B:Nat)(w:World)(v:Value)(ls:List (List Nd)):Prop:=∃vs:List Value,w.ownsRow B 23 1 v ls.length vs/\∀i (h:i<ls.length),∃u,vs[i]?=some u/\NX c w u ls[i]/\0<ls[i].length
theorem PX.pw[LB]{c B:Nat}{w:World}{v:Value}{ls:List (List Nd)}(h:PX c B w v ls):PW B w v ls:=by
 obtain⟨k,g,j⟩:=h;exact⟨k,g,fun i hi=>by obtain⟨u,a,b,d⟩:=j i hi;exact⟨u,a,⟨Qo b.1 (Xb _),b.2⟩,d⟩⟩
theorem PX.ty[LB]{c B:Nat}{w w':World}{v:Value}{ls:List (List Nd)}(h:PX c B w v ls)(g:Ty w w'):PX c B w' v ls:=by
 obtain⟨m,j,k⟩:=h;exact⟨m,Yz j g Lp,fun i hi=>by obtain⟨u,a,b,d⟩:=k i hi;exact⟨u,a,⟨Yz b.1 g Gq,b.2⟩,d⟩⟩
theorem PX.set[LB]{c B b o:Nat}{w:World}{v u:Value}{ls:List (List Nd)}(h:PX c B w v ls)(m:b<c)(r:Xo w b≠some 23):PX c B (w.setCell ⟨b,o,none⟩ u) v ls:=by
 obtain⟨y,g,j⟩:=h;exact⟨y,Kc g r,fun i hi=>by obtain⟨s,a,k,d⟩:=j i hi;exact⟨s,a,⟨Gz k.1 m _,k.2⟩,d⟩⟩
theorem Xff[LB]{c B:Nat}{W W':World}{O:Obj}{v v' u:Value}{l:List Nd}{ls:List (List Nd)}{j:List Value}(r:W.ownsRow B 23 1 v ls.length j)(s:∀i (h:i<ls.length),∃u,j[i]?=some u/\NX c W u ls[i]/\0<ls[i].length)(k:NX c W u l)(A:0<l.length)(C:W'.ownsRow B 23 1 v' (ls.length+1) (j++[u]))(E:(W.alloc O).grownBy W' v.ownBlock):PX c B W' v' (ls++[l])/\Pf B W W':=by
 obtain⟨_,g⟩:=D5 r (fun i hi=>by obtain⟨u,a,b,d⟩:=s i hi;exact⟨u,a,⟨Qo b.1 (Xb _),b.2⟩,d⟩) ⟨Qo k.1 (Xb _),k.2⟩ A C E;have m:j.length=ls.length:=by have:=r.1;omega
 refine⟨⟨j++[u],by rw[Xj];exact C,fun i hi=>?_⟩,g⟩;by_cases y:i<ls.length
 .obtain⟨F,a,b,d⟩:=s i y;rw[I6 y];exact⟨F,by rw[Jt (by omega)];exact a,⟨g.row b.1 (by decide),b.2⟩,d⟩
 .have hi':i=ls.length:=by simp only[Xj,XI,Ya]at hi;omega
  subst hi';have e:(ls++[l])[ls.length]'hi=l:=by simp
  rw[e];exact⟨u,by rw[Q7 (by omega),m];simp,⟨g.row k.1 (by decide),k.2⟩,A⟩
def RTk[LB](rb:Nat)(vb:Value)(n q m:Nat)(w:World)(e:Ending)(w':World):Prop:=∃v l,e= .returned (.agg #[v])/\NR w' v l/\l.length<=m/\Rq rb vb n (q+m) w'/\Tf w w'
structure EV [LB] (rb:Nat) (vb:Value) (n:Nat) (w:World) (K:Int) (sv:Value) (ls:List (List Nd)) (q:Nat) (W:World):Prop where
 r:Rq rb vb n q W
 t:Ty w W
 p:PX (w.heap.size+3) w.heap.size W sv ls
 x:W.heap[w.heap.size]?=some (.cells #[.slice none 0 0] 25)
 y:W.heap[w.heap.size+2]?=some (.cells #[.q K,.q 0,.q 0,.t #[],.q 0] 64)
section
variable {rb n q q':Nat} {vb sv:Value} {w W W':World} {K:Int} {ls:List (List Nd)}
theorem EV.ty[LB](B:EV rb vb n w K sv ls q W)(a:Rq rb vb n q' W')(h:Ty W W'):EV rb vb n w K sv ls q' W':=⟨a,B.t.trans h,B.p.ty h,Ty.same h B.x US,Ty.same h B.y Gq⟩
theorem EV.be[LB](B:EV rb vb n w K sv ls q W)(h:BL W W'):EV rb vb n w K sv ls q W':=B.ty (B.r.below h) (.of h)
theorem EV.yl[LB](B:EV rb vb n w K sv ls q W):w.heap.size+2<W.heap.size:=(QS.1 B.y).1
theorem EV.cs[LB](B:EV rb vb n w K sv ls q W):W.cell? ⟨w.heap.size+2,0,none⟩=some (.q K)/\W.cell? ⟨w.heap.size+2,1,none⟩=some (.q 0)/\W.cell? ⟨w.heap.size+2,2,none⟩=some (.q 0)/\W.cell? ⟨w.heap.size+2,3,none⟩=some (.t #[])/\W.cell? ⟨w.heap.size+2,4,none⟩=some (.q 0)/\W.frozen? ⟨w.heap.size+2,0,none⟩=false:=by
 have:=B.y;refine⟨?_,?_,?_,?_,?_,?_⟩<;>simp[World.cell?,World.frozen?,this]
theorem EV.kd[LB](B:EV rb vb n w K sv ls q W)(d:rb<w.heap.size)(a:Int):EV rb vb n w a sv ls q (W.setCell ⟨w.heap.size+2,0,none⟩ (.q a)):=⟨Rq.set (o:=0) B.r (by omega),E7 (o:=0) B.t (by omega),PX.set (o:=0) B.p (by omega) (by unfold Xo;rw[B.y];show some 64≠some 23;decide),(Y0 W ⟨w.heap.size+2,0,none⟩ (.q a) w.heap.size (show w.heap.size≠w.heap.size+2 by omega)).trans B.x,La B.y 0 (.q a)⟩
theorem EV.ap[LB]{O:Obj}{u v':Value}{l:List Nd}{g:List Value}(B:EV rb vb n w K sv ls q W)(d:rb<w.heap.size)(A:NX (w.heap.size+3) W u l)(s:0<l.length)(j:W.ownsRow w.heap.size 23 1 sv ls.length g)(k:∀i (h:i<ls.length),∃u,g[i]?=some u/\NX (w.heap.size+3) W u ls[i]/\0<ls[i].length)(C:W'.ownsRow w.heap.size 23 1 v' (ls.length+1) (g++[u]))(m:(W.alloc O).grownBy W' sv.ownBlock):EV rb vb n w K v' (ls++[l]) q W':=by
 obtain⟨v,a⟩:=Xff j k A s C m;exact⟨B.r.pf a d,a.tyM B.t (X5 _),v,a.same B.x (by decide),a.same B.y (by decide)⟩
theorem EV.nd[LB](B:EV rb vb n w K sv ls q W)(d:Nd)(g:Sm d:=by first|exact⟨XJ.le _,n0⟩|exact⟨YM rfl,n0⟩|exact⟨by assumption,n0⟩|assumption|exact⟨YM rfl,by decide⟩):∃a,w.heap.size+2<W.heap.size/\(W.alloc (.cells #[.q d.kind,.q d.op,.q d.n,.string d.text,.q d.kids] 64)).ownsRow w.heap.size 23 1 sv ls.length a/\(∀i (h:i<ls.length),∃u,a[i]?=some u/\NX (w.heap.size+3) (W.alloc (.cells #[.q d.kind,.q d.op,.q d.n,.string d.text,.q d.kids] 64)) u ls[i]/\0<ls[i].length)/\Hid (NX (w.heap.size+3) (W.alloc (.cells #[.q d.kind,.q d.op,.q d.n,.string d.text,.q d.kids] 64)) (.l W.heap.size 1 1) [d])/\EV rb vb n w K sv ls q (W.alloc (.cells #[.q d.kind,.q d.op,.q d.n,.string d.text,.q d.kids] 64)):=by
 have B':=B.be (bA (.cells #[.q d.kind,.q d.op,.q d.n,.string d.text,.q d.kids] 64));obtain⟨a,j,k⟩:=B'.p;exact⟨a,B.yl,j,k,X1 ⟨Y4 (base:=w.heap.size+3) (e:=64) (size:=5) W #[.q d.kind,.q d.op,.q d.n,.string d.text,.q d.kids] 1 (by have:=B.yl;omega) (by unfold maxLen;omega) rfl,LN g⟩,B'⟩
theorem EV.o[LB]{l:List Nd}{q0 m g c:Nat}(B:EV rb vb n w K sv ls q W)(d:rb<w.heap.size)(a:BL W W')(nr:NR W' (.l g l.length c) l)(hm:l.length<=m/\q<=q0+m):W'.cell? ⟨w.heap.size,0,none⟩=some (.slice none 0 0)/\W'.frozen? ⟨w.heap.size,0,none⟩=false/\RTk rb vb n q0 m w (.returned (.agg #[.l g l.length c])) (W'.setCell ⟨w.heap.size,0,none⟩ (.l g l.length c)):=by
 have B':=B.be a;refine⟨(ZP B'.x).1,(ZP B'.x).2,_,_,rfl,⟨Kc nr.1 (by unfold Xo;rw[B'.x];decide),nr.2⟩,hm.1,(Rq.set (o:=0) B'.r d).mono hm.2,Ty.tf (E7 (o:=0) B'.t (X5 _))⟩
end
theorem X5c(z:Int)(w:World):Calls prog 65 #[.q z] w fun e w'=>e= .returned (.l w.heap.size 1 1)/\w'=w.z #[.q 3,.q 0,.q z,.t #[],.q 0] 64:=by
 go_enter func65,ntmps65;go_wp2;go_ret;exact⟨rfl,rfl⟩
variable (rb:Nat) (vb:Value) (n:Nat)
theorem X0i[LB](q:Nat)(w:World)(h:Rq rb vb n q w)(hq:q<=800000000):Calls prog 34 #[.p rb] w (RTk rb vb n q 300 w):=by
 obtain⟨iP,hP,b0,a9,a8⟩:=YK WR;have k:rb<w.heap.size:=h.lt;have b1:BL w (w.z #[.slice none 0 0] 25):=bA _;have b2:BL w ((w.z #[.slice none 0 0] 25).z #[] 23):=b1.alloc b1.size _;have b3:BL w (((w.z #[.slice none 0 0] 25).z #[] 23).z #[.q 8,.q 0,.q 0,.t #[],.q 0] 64):=b2.alloc b2.size _;have a4:=X1 (h.below b3);have a5:Hid (Ty w (((w.z #[.slice none 0 0] 25).z #[] 23).z #[.q 8,.q 0,.q 0,.t #[],.q 0] 64)):=X1 (.of b3);have p1:PW w.heap.size ((w.z #[.slice none 0 0] 25).z #[] 23) (.l (w.heap.size+1) 0 0) []:=by
  have:=PW.new (B:=w.heap.size) (w.z #[.slice none 0 0] 25) b1.size
  rwa[Yx]at this
 have a3:Hid (PX (w.heap.size+3) w.heap.size (((w.z #[.slice none 0 0] 25).z #[] 23).z #[.q 8,.q 0,.q 0,.t #[],.q 0] 64) (.l (w.heap.size+1) 0 0) []):=X1 (by obtain⟨vs,a,_⟩:=p1.below (bA (.cells #[.q 8,.q 0,.q 0,.t #[],.q 0] 64));exact⟨vs,a,fun _ hi=>absurd hi (JK _)⟩);have x1:((w.z #[.slice none 0 0] 25).z #[] 23).heap[w.heap.size]?=some (.cells #[.slice none 0 0] 25):=TyM.same (YV w (.cells #[.slice none 0 0] 25)) (bA _);have a6:Hid ((((w.z #[.slice none 0 0] 25).z #[] 23).z #[.q 8,.q 0,.q 0,.t #[],.q 0] 64).heap[w.heap.size]?=some (.cells #[.slice none 0 0] 25)):=X1 (TyM.same x1 (bA _));have a7:Hid ((((w.z #[.slice none 0 0] 25).z #[] 23).z #[.q 8,.q 0,.q 0,.t #[],.q 0] 64).heap[w.heap.size+2]?=some (.cells #[.q 8,.q 0,.q 0,.t #[],.q 0] 64)):=X1 (by
  have:=YV ((w.z #[.slice none 0 0] 25).z #[] 23) (.cells #[.q 8,.q 0,.q 0,.t #[],.q 0] 64);simpa using this)
 have B:EV rb vb n w 8 _ [] q _:=⟨a4.o,a5.o,a3.o,a6.o,a7.o⟩;clear b1 b2 b3 p1 x1 h a4 a5 a3 a6 a7;go_enter func34,ntmps34;go_wp2_with fail;go_fit(Rq.pick B.r (by omega) 4 (by omega) (by omega));rintro e W⟨z,hz,rfl,b7,b8⟩;have B:=B.ty b7 b8;clear b7 b8;have c9:z=0\/z=1\/z=2\/z=3:=by omega
 clear hz;have E:=X1 (fun q (W:World) (h:Rq rb vb n q W) (hq:q<=900000000)=>h.pick hq 2 (by omega) (by omega));rcases c9 with rfl|rfl|rfl|rfl
 .go_wp2_with fail;go_fit(E.o _ _ B.r (by omega));rintro e W⟨j,Q,rfl,d,g⟩;have B:=B.ty d g;clear d g;have HD:=X1 (fun w0=>TM (50+j) w0 (by omega) (by omega));rw[show((50+j:Nat):Int)=50+(j:Int)from by omega]at HD
  go_wp2_with fail;go_fit(HD.o _);rintro e W⟨v3,l3,rfl,S,p3,m3,b3⟩;obtain⟨g3,c3,rfl⟩:=S.form p3;obtain⟨t0,ft,ho⟩:=B.o k b3 S (q0:=q) (m:=300) (by omega);have HO:=X1 ho;clear S b3 ho;go_wp2;exact Xq (v:= .agg #[.l g3 l3.length c3]) (by simp[results,results34,go_sem,t0]) rfl HO.o
 focus
  go_wp2_with fail;go_fit(E.o _ _ B.r (by omega));rintro e W⟨j,Q,rfl,d,g⟩;have B:=B.ty d g;clear d g;have en:(200:Int)+(j:Int)=((200+j:Nat):Int):=by omega
  have O:200+j<=290:=by omega
  have F:([]:List (List Nd)).flatten.length<=([]:List (List Nd)).length:=X5 _;have L:([]:List (List Nd)).length<=200+j:=Xb _;generalize 200+j=N at *;obtain⟨K,B⟩:∃K,EV rb vb n w K _ _ _ _:=⟨_,B⟩
 rotate_left;focus
  go_wp2_with fail;go_fit(E.o _ _ B.r (by omega));rintro e W⟨j,Q,rfl,d,g⟩;have B:=B.ty d g;obtain⟨d5,-,-,-,-,c1⟩:=B.cs;have B:=B.kd k 12;clear d g;have en:(8:Int)+(j:Int)+1=((8+j+1:Nat):Int):=by omega
  have O:8+j+1<=290:=by omega
  have F:([]:List (List Nd)).flatten.length<=([]:List (List Nd)).length:=X5 _;have L:([]:List (List Nd)).length<=8+j+1:=Xb _;generalize 8+j+1=N at *;obtain⟨K,B⟩:∃K,EV rb vb n w K _ _ _ _:=⟨_,B⟩
 rotate_left;focus
  go_wp2_with fail;go_fit(E.o _ _ B.r (by omega));rintro e W⟨j,Q,rfl,d,g⟩;have B:=B.ty d g;clear d g;have en:(8:Int)+(j:Int)=((8+j:Nat):Int):=by omega
  have O:8+j<=280:=by omega
  generalize 8+j=M at *;go_wp2_with fail;go_loopw[3,6] (fun sv tv wr=>∃(i:Nat) (ls:List (List Nd)),i<=M/\tv= .q (i:Int)/\ls.length<=i/\ls.flatten.length<=ls.length/\EV rb vb n w 8 sv ls (q+1+1) wr) (fun _ tv _=>M-(intOf tv).toNat)
  case atStart=>exact⟨0,[],Xb _,rfl,X5 _,X5 _,B⟩
  clear B;obtain⟨i,ls,hi,rfl,c2,F,B⟩:=hrel;have c8:=B.yl;obtain⟨d4,u,-⟩:=B.p;obtain⟨d1,d0,rfl⟩:=XA u;clear u;by_cases c7:(i:Int)<(M:Int)
  .have b9:=X1 (WI i wr (by omega));have d9:=Wy i;generalize KE i=dc at *;have d7:(⟨dc.toArray⟩:ByteArray).size<=1000:=by show dc.toArray.size<=_;simp;omega
   go_wp2_with fail;go_fit b9.o;rintro e4 w4⟨rfl,b4⟩;have d6:((⟨#[112]⟩:ByteArray)++⟨dc.toArray⟩).size<=1000000:=by rw[KA];show 1+_<=_;omega
   generalize e1:(⟨#[112]⟩:ByteArray)++⟨dc.toArray⟩=st at *;have e2:=b4.size;obtain⟨a0,e3,y,A,H,B⟩:=(B.be b4).nd ⟨19,0,0,st,0⟩;have s:=X1 y;have I:=X1 A;have J:Hid ((w4.z #[.q 19,.q 0,.q 0,.string st,.q 0] 64).heap.size=w4.heap.size+1):=X1 (by simp);clear b4 y A;go_wp2_with(at_builtin;refine YY _ rfl _ _ 119 rfl w.heap.size 23 iP _ 1 24 underlying119 hP b0 a9 a8 rfl (by decide) _ ls.length a0 rfl (s.o.alloc _) ⟨w4.heap.size+1,0,none⟩ 1 1 [.l w4.heap.size 1 1] rfl rfl (Qr _ [_] _ _ J.o.symm) (by simp[Value.oneCell']) (by unfold maxLen;omega) (by omega) (by simp;omega) ?_);intro v5 w5 Z C rc rd;obtain⟨d3,d2,rfl⟩:=XA Z;have B:=B.ap k H.o (by simp) s.o I.o Z C;clear Z C rc rd;go_wp2;go_roundw
   case rel=>exact⟨i+1,_,by omega,by go_num,by rw[Xj];simp only[XI,Ya];omega,by rw[Uc,Xj,Xj,fl1];simp only[XI,Ya];omega,B⟩
   case measure=>simp[intOf];omega
  obtain⟨d5,-,-,-,-,c1⟩:=B.cs;have B:=B.kd k 15;have d8:(M:Int)+1=((M+1:Nat):Int):=by omega
  have O:M+1<=290:=by omega
  have L:ls.length<=M+1:=by omega
  generalize M+1=N at *;obtain⟨K,B⟩:∃K,EV rb vb n w K _ _ _ _:=⟨_,B⟩
 all_goals
  go_wp2_with fail;go_loopw[3] (fun sv wr=>∃(ls:List (List Nd)),ls.length<=N/\ls.flatten.length<=ls.length/\EV rb vb n w K sv ls (q+1+1) wr) (fun sv _=>N-Ec sv)
  case atStart=>exact⟨_,L,F,B⟩
  case round=>
   clear B;obtain⟨ls,c2,F,B⟩:=hrel;have c8:=B.yl;obtain⟨d4,u,-⟩:=B.p;obtain⟨d1,d0,rfl⟩:=XA u;clear u;by_cases c7:(ls.length:Int)<((N:Nat):Int)
   .go_wp2_with fail;go_fit(X5c 3 _);rintro e4 w4⟨rfl,rfl⟩;obtain⟨a0,e0,y,A,H,B⟩:=B.nd ⟨3,0,3,⟨#[]⟩,0⟩;have s:=X1 y;have I:=X1 A;have J:Hid ((wr.z #[.q 3,.q 0,.q 3,.t #[],.q 0] 64).heap.size=wr.heap.size+1):=X1 (by simp);clear y A;go_wp2_with(at_builtin;refine YY _ rfl _ _ 119 rfl w.heap.size 23 iP _ 1 24 underlying119 hP b0 a9 a8 rfl (by decide) _ ls.length a0 rfl (s.o.alloc _) ⟨wr.heap.size+1,0,none⟩ 1 1 [.l wr.heap.size 1 1] rfl rfl (Qr _ [_] _ _ J.o.symm) (by simp[Value.oneCell']) (by unfold maxLen;omega) (by omega) (by simp;omega) ?_);intro v5 w5 Z C rc rd;obtain⟨d3,d2,rfl⟩:=XA Z;have B:=B.ap k H.o (by simp) s.o I.o Z C;clear Z C rc rd;go_wp2;go_roundw
    case rel=>exact⟨_,by rw[Xj];simp only[XI,Ya];omega,by rw[Uc,Xj,Xj,fl1];simp only[XI,Ya];omega,B⟩
    case measure=>simp only[Ec];omega
   .have HO:=X1 (ZW ⟨K,0,0,⟨#[]⟩,0⟩ ls _ _ N B.p.pw.pr (by omega) (by omega) (by omega));unfold ndV at HO;obtain⟨y0,y1,y2,y3,y4,-⟩:=B.cs;go_wp2_with fail;go_fit HO.o;rintro e4 W⟨v4,l4,rfl,U,p4,m4,b4⟩;obtain⟨g4,c4,rfl⟩:=U.form p4;have a1:=X1 (ZW ⟨21,0,0,⟨#[120]⟩,0⟩ [_] _ _ (N+1) (pr1 U p4) (by rw[fl1];omega) (by omega) (by simp));unfold ndV at a1;have B:=(B.be b4).be (bA (.cells #[.l g4 l4.length c4] 23));clear U b4 y0 y1 y2 y3 y4;go_wp2_with fail;go_fit a1.o;rintro e5 W⟨v5,l5,rfl,V,p5,m5,b5⟩;obtain⟨g5,c5,rfl⟩:=V.form p5;have a2:=X1 (ZW ⟨24,0,0,⟨#[]⟩,0⟩ [_] _ _ (N+2) (pr1 V p5) (by rw[fl1];omega) (by omega) (by simp));unfold ndV at a2;have B:=(B.be b5).be (bA (.cells #[.l g5 l5.length c5] 23));clear V b5;go_wp2_with fail;go_fit a2.o;rintro e6 W⟨v6,l6,rfl,X,p6,m6,b6⟩;obtain⟨g6,c6,rfl⟩:=X.form p6;obtain⟨t0,ft,ho⟩:=B.o k b6 X (q0:=q) (m:=300) (by omega);have c0:=X1 ho;clear X b6 ho;go_wp2;exact Xq (v:= .agg #[.l g6 l6.length c6]) (by simp[results,results34,go_sem,t0]) rfl c0.o
def VE(ns:List Nd):List (Nd × List Nat)->Bool
 | []=>true
 | (d,k)::r=>Xr d&&XU ns d.kind k&&VE ns r
def Qj:List (List Nat)->List Nat->List Nat
 | [],hs=>hs
 | k::r,hs=>Qj r (hs++[YU hs k 0])
theorem S6(ks:List (List Nat))(a:List Nat):∃t,Qj ks a=a++t/\t.length=ks.length:=by
 induction ks generalizing a with
 | nil=>exact⟨[],by simp[Qj]⟩
 | cons k r j=>
  obtain⟨t,d,g⟩:=j (a++[YU a k 0]);exact⟨YU a k 0::t,by rw[Qj,d];simp,by simp[g]⟩
theorem Nr(ns:List Nd)(m:List Nd)(ks:List (List Nat))(a:List Nat)(h:m.length=ks.length)(g:∀x∈a,x<=50): (Jg ns (m.zip ks) a=true)↔(VE ns (m.zip ks)=true/\∀x∈Qj ks a,x<=50):=by
 induction m generalizing ks a with
 | nil=>
  cases ks with
  | nil=>simp[Jg,VE,Qj];exact g
  | cons k r=>simp at h
 | cons d r v=>
  cases ks with
  | nil=>simp at h
  | cons k t=>
   simp only[Rv,Jg,VE,Qj,XE];by_cases s:50<YU a k 0
   .have e:(!decide (50<YU a k 0))=false:=by simp[s]
    rw[e];simp only[Jq,false_and,false_iff];rintro⟨_,q⟩;obtain⟨u,n,_⟩:=S6 t (a++[YU a k 0]);have:=q (YU a k 0) (by rw[n];simp);omega
   .have e:(!decide (50<YU a k 0))=true:=by simp;omega
    rw[e,v t (a++[YU a k 0]) (by simpa using h) (fun x j=>by
     rcases KC.1 j with j|j
     .exact g x j
     .have:x=YU a k 0:=by simpa using j
      omega)]
    simp only[I0,and_assoc]
theorem FI(ns:List Nd)(a:List Nat)(y x:Nat)(h:x<a.length):XY ns (a++[y]) x=XY ns a x:=by
 unfold XY;rw[Jt h]
theorem Hm(ns:List Nd):∀(m i:Nat) (op a:List Nat),m=ns.length-i->i<=ns.length->a.length=i->(∀x∈op,x<i)->ZS (ns.drop i) (op.map (XY ns a))=match(XF (ns.drop i) i op).2 with
   | none=>none
   | some fin=>if VE ns ((ns.drop i).zip (XF (ns.drop i) i op).1)=true then some (fin.map (XY ns (Qj (XF (ns.drop i) i op).1 a)))else none:=by
 intro m;induction m with
 | zero=>
  intro i op a hm hi y d;have e:ns.drop i=[]:=YI (by omega);rw[e];rfl
 | succ m I=>
  intro i op a hm hi y d;have j:i<ns.length:=by omega
  rw[KM j];by_cases v:ns[i].kids<0\/(op.length:Int)<ns[i].kids
  .rw[ZS,Xa (by rw[Ju];exact v),XF,Xa v]
  .obtain⟨k,C⟩:∃k:Nat,ns[i].kids=k:=⟨ns[i].kids.toNat,by omega⟩;rw[ZS,X6 (by rw[Ju];exact v),XF,X6 v];have s:(op.map (XY ns a)).length-ns[i].kids.toNat=op.length-ns[i].kids.toNat:=by rw[Ju]
   rw[s];generalize J:op.length-ns[i].kids.toNat=q;have F:(op.drop q).length=k:=by simp;omega
   have B:∀x∈op.drop q,x<ns.length:=fun x g=>Ic (d x (Q8 g)) j;rw[←Ud,←Uz];have E:KQ ns[i] ((op.drop q).map (XY ns a))=(Xr ns[i]&&XU ns ns[i].kind (op.drop q)):=by
    unfold KQ;rw[Rg,C,←F,N6 ns a _ _ B]
   rw[E];have r:(op.take q).map (XY ns a)++[(⟨ns[i],Zs ((op.drop q).map (XY ns a)) 0⟩:Gr)]=(op.take q++[i]).map (XY ns (a++[YU a (op.drop q) 0])):=by
    rw[JI];congr 1
    .apply List.map_congr_left;intro x g;rw[FI _ _ _ _ (by rw[y];exact d x (Ue g))]
    .have H:XY ns (a++[YU a (op.drop q) 0]) i=⟨ns[i],YU a (op.drop q) 0⟩:=by
      unfold XY;rw[K0 j,Q7 (by omega),y,Nat.sub_self];rfl
     rw[N7,Y5,YD,H]
   have n:=I (i+1) (op.take q++[i]) (a++[YU a (op.drop q) 0]) (by omega) (by omega) (by simp[y]) (fun x g=>by
    rcases KC.1 g with g|g
    .have:=d x (Ue g);omega
    .have:x=i:=by simpa using g
     omega)
   simp only[Rv,VE,Qj];by_cases u:(Xr ns[i]&&XU ns ns[i].kind (op.drop q))=true
   .rw[Xa u,r,n];simp only[u,Vs]
   .rw[X6 u];have A:(Xr ns[i]&&XU ns ns[i].kind (op.drop q))=false:=by simpa using u
    simp only[A,UW,Jq,Kl];cases(XF (ns.drop (i+1)) (i+1) (op.take q++[i])).2<;>rfl
theorem Hk(a ls:List Nat)(h:Nat):h<=YU a ls h/\∀x∈ls,a[x]?.getD 0+1<=YU a ls h:=by
 induction ls generalizing h with
 | nil=>simp[YU]
 | cons y r g=>
  rw[YU];have q:=g (if h<a[y]?.getD 0+1 then a[y]?.getD 0+1 else h);have j:h<=(if h<a[y]?.getD 0+1 then a[y]?.getD 0+1 else h)/\a[y]?.getD 0+1<=(if h<a[y]?.getD 0+1 then a[y]?.getD 0+1 else h):=by split<;>omega
  refine⟨by omega,fun x d=>?_⟩;rcases Kr.1 d with rfl|d
  .omega
  .exact q.2 x d
theorem Hi(s:List Nd):∀(i:Nat) (op a:List Nat),a.length=i->(∀x∈op,x<i)->(∀y∈a,∃x∈op,y<=a[x]?.getD 0)->∀fin,(XF s i op).2=some fin->∀y∈Qj (XF s i op).1 a,∃x∈fin,y<=(Qj (XF s i op).1 a)[x]?.getD 0:=by
 induction s with
 | nil=>
  intro i op a _ _ h fin k;simp only[XF,ZO]at k;subst k;exact h
 | cons d r C=>
  intro i op a u m h fin k;by_cases B:d.kids<0\/(op.length:Int)<d.kids
  .rw[XF,Xa B]at k;cases k
  .rw[XF,X6 B]at k⊢;generalize E:op.length-d.kids.toNat=q at *;simp only[Qj];refine C (i+1) (op.take q++[i]) (a++[YU a (op.drop q) 0]) (by simp[u]) ?_ ?_ fin k
   .intro x g;rcases KC.1 g with g|g
    .have:=m x (Ue g);omega
    .have:x=i:=by simpa using g
     omega
   .intro y n;have j:(a++[YU a (op.drop q) 0])[i]?.getD 0=YU a (op.drop q) 0:=by simp[←u]
    rcases KC.1 n with n|n
    .obtain⟨x,g,v⟩:=h y n;have A:x<a.length:=by rw[u];exact m x g
     rw[←JX q op]at g;rcases KC.1 g with g|g
     .exact⟨x,by simp[g],by rw[Jt A];exact v⟩
     .have:=(Hk a (op.drop q) 0).2 x g;exact⟨i,by simp,by rw[j];omega⟩
    .have:y=YU a (op.drop q) 0:=by simpa using n
     exact⟨i,by simp,by rw[j];omega⟩
theorem N2(g:List Nd):∀(i:Nat) (op:List Nat),(g=[]->op.getLast?=some (i-1)/\1<=i)->∀fin,(XF g i op).2=some fin->fin.getLast?=some (i+g.length-1):=by
 induction g with
 | nil=>
  intro i op h fin a;simp only[XF,ZO]at a;subst a;simpa using(h rfl).1
 | cons d r k=>
  intro i op h fin a;by_cases j:d.kids<0\/(op.length:Int)<d.kids
  .rw[XF,Xa j]at a;cases a
  .rw[XF,X6 j]at a;have:=k (i+1) _ (fun _=>⟨by simp,by omega⟩) fin a;rw[this,XI];congr 1;omega
theorem Iw(ns:List Nd):Kk ns=YG ns:=by
 have I:=Hm ns ns.length 0 [] [] (by simp) (Xb _) rfl (fun x h=>by cases h);rw[Kh,YD]at I;unfold Kk YG;by_cases s:ns=[]
 .subst s;rfl
 have K:1<=ns.length:=by
  cases ns with
  | nil=>exact absurd rfl s
  | cons x r=>simp
 have L:Xs ns.length 1 5000=decide (ns.length<=5000):=by unfold Xs;rw[YH];simp;omega
 rw[L,I,Rg,Rg];congr 1
 have A:Qc ns=match(XF ns 0 []).2 with
  | none=>false
  | some op=>op.length==1:=rfl
 have v:YF ns=(XF ns 0 []).1:=rfl;have k:=S9 ns 0 [];have u:=Hi ns 0 [] [] rfl (fun x h=>by cases h) (fun x h=>by cases h);have C:=N2 ns 0 [] (fun h=>absurd h s);rw[A,v];generalize Q:XF ns 0 []=W at *;obtain⟨ks,N⟩:=W;cases N with
 | none=>simp[UH]
 | some fin=>
  have B:ks.length=ns.length:=k.2 (by simp);have H:=Nr ns ns ks [] B.symm (fun x h=>by cases h);have d:=C fin rfl;have g:=u fin rfl;simp only at H g⊢
  match fin,d with
  | [r],d=>
   have S:r=ns.length-1:=by simpa using d
   have F:WA ns=(XY ns (Qj ks []) r).nd.kind:=by
    rw[MD,S];unfold WA QC;rw[Rp];cases ns[ns.length-1]? <;> rfl
   have m:(Qj ks [])[r]?.getD 0∈Qj ks []:=by
    obtain⟨t,O,X⟩:=S6 ks [];have J:r<(Qj ks []).length:=by rw[O];simp;omega
    rw[K0 J];exact YJ J
   have j:(∀x∈Qj ks [],x<=50)↔(XY ns (Qj ks []) r).high<=50:=by
    constructor
    .intro h;exact h _ m
    .intro h x U;obtain⟨y,V,E⟩:=g x U;have:y=r:=by simpa using V
     subst this;exact Xz E h
   rw[F];by_cases n:VE ns (ns.zip ks)=true
   .rw[Xa n];simp only[Y5,YD,UH];rw[YH];simp only[XE,J2,H,j,n,I0];simp
   .rw[X6 n];have:Jg ns (ns.zip ks) []=false:=by
     rw[Bool.eq_false_iff];intro h;exact n (H.1 h).1
    simp[UH,this]
  | [],d=>simp at d
  | a::b::t,_=>
   have M:((a::b::t).length==1)=false:=by simp
   rw[M];simp only[UW,Bool.and_false];split<;>simp[UH]
end
namespace Rb
def nod(ns:List Nd)(k:Nat):Nd:=ns[k]?.getD ⟨0,0,0,⟨#[]⟩,0⟩
def tre(ns:List Nd)(ks:List (List Nat)):Nat->Nat->Fd
 | 0,k=> .mk (nod ns k) 0 0 []
 | f+1,k=> .mk (nod ns k) 0 0 ((Ik.Ka ks k).map (tre ns ks f))
theorem M1(ns:List Nd)(ks:List (List Nat))(f k:Nat):tre ns ks (f+1) k= .mk (nod ns k) 0 0 ((Ik.Ka ks k).map (tre ns ks f)):=rfl
theorem BM{ns:List Nd}{k:Nat}(h:k<ns.length):nod ns k=ns[k]:=by unfold nod;rw[K0 h];rfl
theorem Y2m(ns:List Nd)(ks:List (List Nat))(f k:Nat):(tre ns ks f k).x=nod ns k:=by cases f<;>rfl
theorem Y2l{ns:List Nd}{ks:List (List Nat)}{b e:Nat}{l:List Nat}(h:Ik.Cov ks b l e):∀f g,(∀y∈l,y<f/\y<g)->l.map (tre ns ks f)=l.map (tre ns ks g):=by
 induction h using Ik.Cov.ind with
 | nil b=>intro f g _;rfl
 | @cons b x e r h1 h2 ih1 ih2=>
  intro f g k;obtain⟨m,n⟩:=k x (by simp);obtain⟨a,rfl⟩:∃a,f=a+1:=⟨f-1,by omega⟩;obtain⟨d,rfl⟩:∃d,g=d+1:=⟨g-1,by omega⟩;rw[Y5,Y5,ih2 _ _ (fun y j=>k y (by simp[j])),M1,M1,ih1 a d (fun y j=>by have:=h1.mem j;omega)]
def at_(ns:List Nd)(ks:List (List Nat))(k:Nat):Fd:=tre ns ks (k+1) k
theorem Sp{ns:List Nd}{ks:List (List Nat)}{b k:Nat}(j:k<ns.length)(h:Ik.Cov ks b (Ik.Ka ks k) k):at_ ns ks k= .mk ns[k] 0 0 ((Ik.Ka ks k).map (at_ ns ks)):=by
 unfold at_;rw[M1,BM j];congr 1;have:∀{b e:Nat} {l:List Nat},Ik.Cov ks b l e->∀f,(∀y∈l,y<f)->l.map (tre ns ks f)=l.map fun y=>tre ns ks (y+1) y:=by
  intro b e l g;induction g using Ik.Cov.ind with
  | nil b=>intro f _;rfl
  | @cons b x e r h1 h2 _ ih2=>
   intro f d;rw[Y5,Y5,ih2 f (fun y a=>d y (by simp[a]))];have m:=d x (by simp);have:=Y2l (ns:=ns) (Ik.Cov.cons h1 (Ik.Cov.nil _)) f (x+1) (fun y a=>by rw[V1.1 a];omega);simp only[Y5,YD,List.cons.injEq,and_true]at this;rw[this]
 exact this h k (fun y a=>(h.mem a).2)
theorem X1v{ns:List Nd}{ks:List (List Nat)}(s:∀k (h:k<ns.length),ns[k].kids=(Ik.Ka ks k).length):∀{b e:Nat} {l:List Nat},Ik.Cov ks b l e->e<=ns.length->Fd.Xy.giveL (l.map (at_ ns ks))=(ns.drop b).take (e-b):=by
 intro b e l h;induction h using Ik.Cov.ind with
 | nil b=>intro _;simp[Fd.Xy.giveL]
 | @cons b x e r h1 h2 ih1 ih2=>
  intro n;have B:=h1.le;have l2:=h2.le;have u:=ih1 (by omega);have v:=ih2 n;have d:x<ns.length:=by omega
  have m:({ns[x]with kids:=(((Ik.Ka ks x).map (at_ ns ks)).length:Int)}:Nd)=ns[x]:=by
   rw[Ju,←s x d]
  rw[Y5,Fd.Jh,Sp d h1,Fd.Zh,m,u,v];have j:ns.drop b=(ns.drop b).take (x-b)++ns[x]::ns.drop (x+1):=by
   have a:=(JX (x-b) (ns.drop b)).symm;rw[Ub,show b+(x-b)=x by omega,KM d]at a;exact a
  have g:((ns.drop b).take (x-b)).length=x-b:=by rw[YO,YC];omega
  generalize y:(ns.drop b).take (x-b)=A at j g⊢;rw[j,show e-b=A.length+(1+(e-(x+1))) by omega,List.take_length_add_append,V4 1,Jc,KL];rfl
theorem Bg:∀(r:List Nd) (i:Nat) (op:List Nat),(XF r i op).2≠none->∀j (h:j<r.length),r[j].kids=(Ik.Ka (XF r i op).1 j).length
 | [],_,_,_,j,h=>by cases h
 | x::r,i,op,hn,j,h=>by
  rw[XF]at hn⊢;by_cases a:x.kids<0\/(op.length:Int)<x.kids
  .rw[Xa a]at hn;exact absurd rfl hn
  .rw[X6 a]at hn⊢;cases j with
   | zero=>show x.kids=(((op.drop (op.length-x.kids.toNat)).length:Nat):Int);rw[YC];omega
   | succ j=>exact Bg r _ _ hn j (by simpa using h)
def root(ns:List Nd):Fd:=at_ ns (YF ns) (ns.length-1)
theorem Pq{ns:List Nd}(g:YG ns=true):(root ns).Xy=ns:=by
 unfold YG at g;simp only[XE]at g;obtain⟨⟨⟨j,_⟩,a⟩,_⟩:=g;have m:=KP j;obtain⟨d,r⟩:=Ik.CH a;have n:∀k (h:k<ns.length),ns[k].kids=(Ik.Ka (YF ns) k).length:=by
  refine Bg ns 0 [] fun e=>?_;unfold Qc at a;rw[e]at a;cases a
 have:=X1v n (.cons d (.nil _)) (by omega);rw[Y5,YD,Fd.Jh,show ns.length-1+1-0=ns.length by omega,Kh,JY]at this;simpa[Fd.Xy.giveL,root]using this
theorem CI{ns:List Nd}(j:YG ns=true):(root ns).VF=true/\∃x ks,root ns= .mk x 0 0 ks/\x.kind=24:=by
 have hi:Kk ns=true:=by rw[Iw];exact j
 unfold Kk at hi;rw[XE]at hi;have a:=hi.2;have k:=Pq j;rw[←k,Fd.Oj]at a;have d:(root ns).VF=true:=by
  cases h:(root ns).VF
  .rw[h]at a;cases a
  .rfl
 refine⟨d,?_⟩;rw[d,Xa rfl]at a;obtain⟨x,ks,e⟩:∃x ks,root ns= .mk x 0 0 ks:=⟨_,_,M1 _ _ _ _⟩;refine⟨x,ks,e,?_⟩;simp only[UH,XE]at a;have g:=eq_of_beq a.1;rw[Fd.Az,e]at g;exact g
