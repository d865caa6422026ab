import Derived.Test.YtkoiikmhfaebnaaGreatDoorB10
set_option maxHeartbeats 16000000
set_option maxRecDepth 100000
namespace Go.Proofs.YtkoiikmhfaebnaaGreatDoor
open Tryz Go.RowKit
def TMk(w:World)(m:Nat)(e:Ending)(w':World):Prop:=∃v l,e= .returned (.agg #[v])/\NR w' v l/\0<l.length/\l.length<=m/\Below w.heap.size w w'
theorem ZK[LB]{w:World}{b:Nat}{v:Value}{t:TypeId}(h:w.heap[b]?=some (.cells #[v] t)):w.cell? ⟨b,0,none⟩=some v/\w.frozen? ⟨b,0,none⟩=false:=⟨by rw[World.cell?,h];rfl,by rw[World.frozen?,h];simp⟩
theorem X3r[LB](m:Nat)(w:World)(a1:2<=m)(hm:m<=100):Calls prog 77 #[.int .i64 (m:Int)] w fun e w'=>TMk w 110 e w':=by
 have a2:IntKind.i64.wrap ((m:Int)-2)=(m:Int)-2:=by rw[Yt];omega
 have X0:Hid ((w.alloc (.cells #[.slice none 0 0] 25)).heap[w.heap.size]?=some (.cells #[.slice none 0 0] 25)):=X1 (XM _ _);have B0:Hid (BL w (w.alloc (.cells #[.slice none 0 0] 25))):=X1 (bA _);have L0:Hid (w.heap.size<(w.alloc (.cells #[.slice none 0 0] 25)).heap.size):=X1 (by simp);go_enter func77,ntmps77;go_wp2_with fail;refine(D3 1 _ (by decide)).mono ?_;rintro e w1⟨v1,l1,rfl,s,p1,m1,L⟩;obtain⟨g1,c1,W⟩:=s.form p1;subst W;have H:=X1 s;have E:=X1 (B0.o.trans (L.mono B0.o.size));have K:=X1 ((L.block _ L0.o).trans X0.o);clear s L;go_wp2_with fail;go_loopw[3,4] (fun sv Z wr=>∃(i:Nat) (l:List Nd),i+2<=m/\Z= .int .i64 (i:Int)/\NR wr sv l/\0<l.length/\l.length<=i+1/\BL w wr/\wr.heap[w.heap.size]?=some (.cells #[.slice none 0 0] 25)) (fun _ Z _=>m-(intOf Z).toNat)
 case atStart=>exact⟨0,_,by omega,rfl,H.o,p1,m1,E.o,K.o⟩
 case round=>
  obtain⟨i,l,hi,rfl,z,S,hl,Q,C⟩:=hrel;obtain⟨g,c,hv⟩:=z.form S;subst hv;have A:w.heap.size<wr.heap.size:=J1 wr ⟨w.heap.size,0,none⟩ (ZK C).1;have t:=X1 Q;have HX:=X1 C;by_cases a0:(i:Int)<(m:Int)-2
  .have u:=X1 (ZY ⟨6,2,0,⟨#[]⟩,0⟩ [_] _ _ (i+1) (pr1 z S) (by rw[fl1];omega) (by omega) (by simp));unfold ndV at u;clear z Q C;go_wp2_with fail;refine u.o.mono ?_;rintro e2 w2⟨v2,l2,rfl,a,B,m2,q⟩;obtain⟨N,c2,r⟩:=a.form B;subst r;have I:=X1 a;have d:=X1 ((t.o.alloc (t.o.size) (.cells #[.slice (some ⟨g,0,none⟩) l.length c] 23)).trans (q.mono (XO t.o.size (by simp))));have j:=X1 ((q.block _ (by simp;omega)).trans (((bA (.cells #[.slice (some ⟨g,0,none⟩) l.length c] 23)).block _ A).trans HX.o));clear a q;go_wp2;go_roundw
   case rel=>exact⟨i+1,_,by omega,by go_num,I.o,B,by omega,d.o,j.o⟩
   case measure=>simp[intOf];omega
  .have u:=X1 (ZY ⟨21,0,0,⟨#[120]⟩,0⟩ [_] _ _ (i+1) (pr1 z S) (by rw[fl1];omega) (by omega) (by simp));unfold ndV at u;clear z Q C;go_wp2_with fail;refine u.o.mono ?_;rintro e2 w2⟨v2,l2,rfl,a,B,m2,q⟩;obtain⟨N,c2,r⟩:=a.form B;subst r;have d:=X1 ((t.o.alloc (t.o.size) (.cells #[.slice (some ⟨g,0,none⟩) l.length c] 23)).trans (q.mono (XO t.o.size (by simp))));have j:=X1 ((q.block _ (by simp;omega)).trans (((bA (.cells #[.slice (some ⟨g,0,none⟩) l.length c] 23)).block _ A).trans HX.o));have Y:w.heap.size<w2.heap.size:=J1 w2 ⟨w.heap.size,0,none⟩ (ZK j.o).1;have y:=X1 (ZY ⟨24,0,0,⟨#[]⟩,0⟩ [_] _ _ (i+2) (pr1 a B) (by rw[fl1];omega) (by omega) (by simp));unfold ndV at y;clear a q;go_wp2_with fail;refine y.o.mono ?_;rintro e3 w3⟨v3,D,rfl,n,p3,m3,M⟩;obtain⟨P,c3,X⟩:=n.form p3;subst X;have F:=X1 ((d.o.alloc (d.o.size) (.cells #[.slice (some ⟨N,0,none⟩) l2.length c2] 23)).trans (M.mono (XO d.o.size (by simp))));have k:=(M.block _ (by simp;omega)).trans (((bA (.cells #[.slice (some ⟨N,0,none⟩) l2.length c2] 23)).block _ Y).trans j.o);have t0:=(ZK k).1;have ft:=(ZK k).2;have V:Xm w3 w.heap.size≠some 48:=by unfold Xm;rw[k];decide
   have J:Hid (NR (w3.setCell ⟨w.heap.size,0,none⟩ (.slice (some ⟨P,0,none⟩) D.length c3)) (.slice (some ⟨P,0,none⟩) D.length c3) D):=X1 ⟨Kc n.1 V,n.2⟩;clear n M k;go_wp2;refine X7 (v:= .agg #[.slice (some ⟨P,0,none⟩) D.length c3]) (by simp[results,results77,go_sem,t0]) rfl ⟨_,_,rfl,J.o,p3,by omega,F.o.setCell (p:=⟨w.heap.size,0,none⟩) (X4 _) _⟩
def F5:Value->Nat
 | .slice _ n _=>n
 | _=>0
def Rq[LB](rb:Nat)(vb:Value)(n q:Nat)(w:World):Prop:=∃p,p<=q/\Rd w rb vb n p
section
variable {rb:Nat} {vb:Value} {n q:Nat} {w w':World}
theorem Rq.mono[LB](h:Rq rb vb n q w){q':Nat}(d:q<=q'):Rq rb vb n q' w:=by
 obtain⟨p,c,a⟩:=h;exact⟨p,by omega,a⟩
theorem Rq.below[LB](h:Rq rb vb n q w)(a:BL w w'):Rq rb vb n q w':=by
 obtain⟨p,c,d⟩:=h;exact⟨p,c,d.XH a⟩
theorem Rq.lt[LB](h:Rq rb vb n q w):rb<w.heap.size:=by
 obtain⟨p,c,a⟩:=h;exact a.lt
theorem Rq.pf[LB]{B:Nat}(h:Rq rb vb n q w)(c:Pf B w w')(g:rb<B):Rq rb vb n q w':=by
 obtain⟨p,d,a⟩:=h;have j:=a.lt;exact⟨p,d,a.Uw (fun b k=>c.block b (by omega) (.inl (by omega)))⟩
theorem Rq.set[LB]{b o:Nat}{v:Value}(h:Rq rb vb n q w)(d:rb<b):Rq rb vb n q (w.setCell ⟨b,o,none⟩ v):=by
 obtain⟨p,a,c⟩:=h;exact⟨p,a,c.Uw (fun x g=>Y4 _ _ _ _ (show x≠b by omega))⟩
theorem Rq.pick[LB](h:Rq rb vb n q w)(r:q<=900000000)(m:Int)(d:1<=m)(g:m<=1000000):Calls prog 23 #[.pointer (some ⟨rb,0,none⟩),.int .i64 m] w fun e w'=>∃z:Nat,(z:Int)<m/\e= .returned (.int .i64 (z:Int))/\Rq rb vb n (q+1) w'/\Ty w w':=by
 obtain⟨p,l,c⟩:=h;refine(MU rb n p vb m w c (by omega) d g).mono ?_;rintro e w1⟨z,k,rfl,a,j⟩;exact⟨z,k,rfl,⟨p+1,by omega,a⟩,.dr j c.own⟩
theorem Ty.same[LB](h:Ty w w'){b:Nat}{cs:Array Value}{t:TypeId}(a:w.heap[b]?=some (.cells cs t))(d:¬XS (some t)):w'.heap[b]?=some (.cells cs t):=by
 have c:b<w.heap.size:=by
  rcases J0 b w.heap.size with h|h
  .exact h
  .rw[U3 h]at a;cases a
 exact(h.block b c (by unfold Xm;rw[a];exact d)).trans a
theorem Pf.same[LB]{B:Nat}(h:Pf B w w'){b:Nat}{cs:Array Value}{t:TypeId}(a:w.heap[b]?=some (.cells cs t))(d:t≠23):w'.heap[b]?=some (.cells cs t):=by
 have c:b<w.heap.size:=by
  rcases J0 b w.heap.size with h|h
  .exact h
  .rw[U3 h]at a;cases a
 exact(h.block b c (.inr (by unfold Xm;rw[a];exact fun e=>d (YD e)))).trans a
theorem EZ[LB]{b o:Nat}{v:Value}{W:World}(h:Ty w W)(m:w.heap.size<=b):Ty w (W.setCell ⟨b,o,none⟩ v):=by
 have k:=(X5 0 W).setCell (p:=⟨b,o,none⟩) (X6 _) v;have e:∀q,q<w.heap.size->(W.setCell ⟨b,o,none⟩ v).heap[q]?=W.heap[q]?:=fun q r=>Y4 _ _ _ _ (show q≠b by omega);exact⟨k.os.trans h.os,k.tape.trans h.tape,k.output.trans h.output,XO h.size k.size,fun q c d=>(e q c).trans (h.block q c d),fun g q c d=>by
  obtain⟨j,l⟩:=h.two g q c d;exact⟨(Q6 (e q c)).trans j,(Xy (a:=⟨q,2,none⟩) (e q c)).trans l⟩,fun q c d=>(e q c).trans (h.old q c d)⟩
end
theorem TyM.same[LB]{w w':World}{b:Nat}{o:Obj}(a:w.heap[b]?=some o)(h:BL w w'):w'.heap[b]?=some o:=by
 have c:b<w.heap.size:=by
  rcases J0 b w.heap.size with h|h
  .exact h
  .rw[U3 h]at a;cases a
 exact(h.block b c).trans a
theorem VD[LB]:¬XS (some 25):=by unfold XS;simp
theorem Mo[LB]{w:World}{b:Nat}{cs:Array Value}{t:TypeId}(h:w.heap[b]?=some (.cells cs t))(o:Nat)(v:Value):(w.setCell ⟨b,o,none⟩ v).heap[b]?=some (.cells (cs.setIfInBounds o v) t):=by
 unfold World.setCell;simp only[Ox,h];rfl
def NX(c:Nat)(w:World)(v:Value)(l:List Nd):Prop:=w.ownsRow c 48 5 v l.length (Xe l)/\Sh l
def PX(c B:Nat)(w:World)(v:Value)(ls:List (List Nd)):Prop:=∃vs:List Value,w.ownsRow B 23 1 v ls.length vs/\∀i (h:i<ls.length),∃u,vs[i]?=some u/\NX c w u ls[i]/\0<ls[i].length
theorem PX.pw[LB]{c B:Nat}{w:World}{v:Value}{ls:List (List Nd)}(h:PX c B w v ls):PW B w v ls:=by
 obtain⟨k,g,j⟩:=h;exact⟨k,g,fun i hi=>by obtain⟨u,a,b,d⟩:=j i hi;exact⟨u,a,⟨QJ b.1 (X6 _),b.2⟩,d⟩⟩
theorem PX.ty[LB]{c B:Nat}{w w':World}{v:Value}{ls:List (List Nd)}(h:PX c B w v ls)(g:Ty w w'):PX c B w' v ls:=by
 obtain⟨l,j,k⟩:=h;exact⟨l,YL j g MA,fun i hi=>by obtain⟨u,a,b,d⟩:=k i hi;exact⟨u,a,⟨YL b.1 g IV,b.2⟩,d⟩⟩
theorem PX.set[LB]{c B b o:Nat}{w:World}{v u:Value}{ls:List (List Nd)}(h:PX c B w v ls)(l:b<c)(m:Xm w b≠some 23):PX c B (w.setCell ⟨b,o,none⟩ u) v ls:=by
 obtain⟨s,g,j⟩:=h;exact⟨s,Kc g m,fun i hi=>by obtain⟨r,a,k,d⟩:=j i hi;exact⟨r,a,⟨MT k.1 l _,k.2⟩,d⟩⟩
theorem Y0y[LB]{c B:Nat}{W W':World}{O:Obj}{v v' u:Value}{l:List Nd}{ls:List (List Nd)}{j:List Value}(s:W.ownsRow B 23 1 v ls.length j)(t:∀i (h:i<ls.length),∃u,j[i]?=some u/\NX c W u ls[i]/\0<ls[i].length)(k:NX c W u l)(z:0<l.length)(A:W'.ownsRow B 23 1 v' (ls.length+1) (j++[u]))(C:(W.alloc O).grownBy W' v.ownBlock):PX c B W' v' (ls++[l])/\Pf B W W':=by
 obtain⟨_,g⟩:=Gj s (fun i hi=>by obtain⟨u,a,b,d⟩:=t i hi;exact⟨u,a,⟨QJ b.1 (X6 _),b.2⟩,d⟩) ⟨QJ k.1 (X6 _),k.2⟩ z A C;have r:j.length=ls.length:=by have:=s.1;omega
 refine⟨⟨j++[u],by rw[Xo];exact A,fun i hi=>?_⟩,g⟩;by_cases y:i<ls.length
 .obtain⟨D,a,b,d⟩:=t i y;rw[Vg y];exact⟨D,by rw[QY (by omega)];exact a,⟨g.row b.1 (by decide),b.2⟩,d⟩
 .have m:i=ls.length:=by simp only[Xo,Ya,ZN]at hi;omega
  subst m;have e:(ls++[l])[ls.length]'hi=l:=by simp
  rw[e];exact⟨u,by rw[K6 (by omega),r];simp,⟨g.row k.1 (by decide),k.2⟩,z⟩
def RTk[LB](rb:Nat)(vb:Value)(n q m:Nat)(w:World)(e:Ending)(w':World):Prop:=∃v l,e= .returned (.agg #[v])/\NR w' v l/\l.length<=m/\Rq rb vb n (q+m) w'/\Tf w w'
structure EV [LB] (rb:Nat) (vb:Value) (n:Nat) (w:World) (K:Int) (sv:Value) (ls:List (List Nd)) (q:Nat) (W:World):Prop where
 r:Rq rb vb n q W
 t:Ty w W
 p:PX (w.heap.size+3) w.heap.size W sv ls
 x:W.heap[w.heap.size]?=some (.cells #[.slice none 0 0] 25)
 y:W.heap[w.heap.size+2]?=some (.cells #[.int .i64 K,.int .i64 0,.int .i64 0,.string ⟨#[]⟩,.int .i64 0] 48)
section
variable {rb n q q':Nat} {vb sv:Value} {w W W':World} {K:Int} {ls:List (List Nd)}
theorem EV.ty[LB](B:EV rb vb n w K sv ls q W)(a:Rq rb vb n q' W')(h:Ty W W'):EV rb vb n w K sv ls q' W':=⟨a,B.t.trans h,B.p.ty h,Ty.same h B.x VD,Ty.same h B.y IV⟩
theorem EV.be[LB](B:EV rb vb n w K sv ls q W)(h:BL W W'):EV rb vb n w K sv ls q W':=B.ty (B.r.below h) (.of h)
theorem EV.yl[LB](B:EV rb vb n w K sv ls q W):w.heap.size+2<W.heap.size:=(Kh.1 B.y).1
theorem EV.cs[LB](B:EV rb vb n w K sv ls q W):W.cell? ⟨w.heap.size+2,0,none⟩=some (.int .i64 K)/\W.cell? ⟨w.heap.size+2,1,none⟩=some (.int .i64 0)/\W.cell? ⟨w.heap.size+2,2,none⟩=some (.int .i64 0)/\W.cell? ⟨w.heap.size+2,3,none⟩=some (.string ⟨#[]⟩)/\W.cell? ⟨w.heap.size+2,4,none⟩=some (.int .i64 0)/\W.frozen? ⟨w.heap.size+2,0,none⟩=false:=by
 have:=B.y;refine⟨?_,?_,?_,?_,?_,?_⟩<;>simp[World.cell?,World.frozen?,this]
theorem EV.kd[LB](B:EV rb vb n w K sv ls q W)(c:rb<w.heap.size)(a:Int):EV rb vb n w a sv ls q (W.setCell ⟨w.heap.size+2,0,none⟩ (.int .i64 a)):=⟨Rq.set (o:=0) B.r (by omega),EZ (o:=0) B.t (by omega),PX.set (o:=0) B.p (by omega) (by unfold Xm;rw[B.y];show some 48≠some 23;decide),(Y4 W ⟨w.heap.size+2,0,none⟩ (.int .i64 a) w.heap.size (show w.heap.size≠w.heap.size+2 by omega)).trans B.x,Mo B.y 0 (.int .i64 a)⟩
theorem EV.ap[LB]{O:Obj}{u v':Value}{l:List Nd}{d:List Value}(B:EV rb vb n w K sv ls q W)(c:rb<w.heap.size)(v:NX (w.heap.size+3) W u l)(m:0<l.length)(g:W.ownsRow w.heap.size 23 1 sv ls.length d)(j:∀i (h:i<ls.length),∃u,d[i]?=some u/\NX (w.heap.size+3) W u ls[i]/\0<ls[i].length)(z:W'.ownsRow w.heap.size 23 1 v' (ls.length+1) (d++[u]))(k:(W.alloc O).grownBy W' sv.ownBlock):EV rb vb n w K v' (ls++[l]) q W':=by
 obtain⟨s,a⟩:=Y0y g j v m z k;exact⟨B.r.pf a c,a.tyM B.t (X4 _),s,a.same B.x (by decide),a.same B.y (by decide)⟩
theorem EV.nd[LB](B:EV rb vb n w K sv ls q W)(d:Nd)(c:Sm d:=by first|exact⟨XC.le _,n0⟩|exact⟨YC rfl,n0⟩|exact⟨by assumption,n0⟩|assumption|exact⟨YC rfl,by decide⟩):∃a,w.heap.size+2<W.heap.size/\(W.alloc (.cells #[.int .i64 d.kind,.int .i64 d.op,.int .i64 d.n,.string d.text,.int .i64 d.kids] 48)).ownsRow w.heap.size 23 1 sv ls.length a/\(∀i (h:i<ls.length),∃u,a[i]?=some u/\NX (w.heap.size+3) (W.alloc (.cells #[.int .i64 d.kind,.int .i64 d.op,.int .i64 d.n,.string d.text,.int .i64 d.kids] 48)) u ls[i]/\0<ls[i].length)/\Hid (NX (w.heap.size+3) (W.alloc (.cells #[.int .i64 d.kind,.int .i64 d.op,.int .i64 d.n,.string d.text,.int .i64 d.kids] 48)) (.slice (some ⟨W.heap.size,0,none⟩) 1 1) [d])/\EV rb vb n w K sv ls q (W.alloc (.cells #[.int .i64 d.kind,.int .i64 d.op,.int .i64 d.n,.string d.text,.int .i64 d.kids] 48)):=by
 have B':=B.be (bA (.cells #[.int .i64 d.kind,.int .i64 d.op,.int .i64 d.n,.string d.text,.int .i64 d.kids] 48));obtain⟨a,g,j⟩:=B'.p;exact⟨a,B.yl,g,j,X1 ⟨XV (base:=w.heap.size+3) (e:=48) (size:=5) W #[.int .i64 d.kind,.int .i64 d.op,.int .i64 d.n,.string d.text,.int .i64 d.kids] 1 (by have:=B.yl;omega) (by unfold maxLen;omega) rfl,Oa c⟩,B'⟩
theorem EV.o[LB]{l:List Nd}{q0 m g c:Nat}(B:EV rb vb n w K sv ls q W)(j:rb<w.heap.size)(d:BL W W')(nr:NR W' (.slice (some ⟨g,0,none⟩) l.length c) l)(a:l.length<=m/\q<=q0+m):W'.cell? ⟨w.heap.size,0,none⟩=some (.slice none 0 0)/\W'.frozen? ⟨w.heap.size,0,none⟩=false/\RTk rb vb n q0 m w (.returned (.agg #[.slice (some ⟨g,0,none⟩) l.length c])) (W'.setCell ⟨w.heap.size,0,none⟩ (.slice (some ⟨g,0,none⟩) l.length c)):=by
 have B':=B.be d;refine⟨(ZK B'.x).1,(ZK B'.x).2,_,_,rfl,⟨Kc nr.1 (by unfold Xm;rw[B'.x];decide),nr.2⟩,a.1,(Rq.set (o:=0) B'.r j).mono a.2,Ty.tf (EZ (o:=0) B'.t (X4 _))⟩
end
theorem X8u(z:Int)(w:World):Calls prog 79 #[.int .i64 z] w fun e w'=>e= .returned (.slice (some ⟨w.heap.size,0,none⟩) 1 1)/\w'=w.alloc (.cells #[.int .i64 3,.int .i64 0,.int .i64 z,.string ⟨#[]⟩,.int .i64 0] 48):=by
 go_enter func79,ntmps79;go_wp2;go_ret;exact⟨rfl,rfl⟩
variable (rb:Nat) (vb:Value) (n:Nat)
theorem X4n[LB](q:Nat)(w:World)(h:Rq rb vb n q w)(hq:q<=800000000):Calls prog 26 #[.pointer (some ⟨rb,0,none⟩)] w fun e w'=>RTk rb vb n q 300 w e w':=by
 obtain⟨iP,hP,a8,a7,a6⟩:=Yk Ga;have j:rb<w.heap.size:=h.lt;have b1:BL w (w.alloc (.cells #[.slice none 0 0] 25)):=bA _;have b2:BL w ((w.alloc (.cells #[.slice none 0 0] 25)).alloc (.cells #[] 23)):=b1.alloc b1.size _;have X:BL w (((w.alloc (.cells #[.slice none 0 0] 25)).alloc (.cells #[] 23)).alloc (.cells #[.int .i64 8,.int .i64 0,.int .i64 0,.string ⟨#[]⟩,.int .i64 0] 48)):=b2.alloc b2.size _;have a2:=X1 (h.below X);have a3:Hid (Ty w (((w.alloc (.cells #[.slice none 0 0] 25)).alloc (.cells #[] 23)).alloc (.cells #[.int .i64 8,.int .i64 0,.int .i64 0,.string ⟨#[]⟩,.int .i64 0] 48))):=X1 (.of X);have p1:PW w.heap.size ((w.alloc (.cells #[.slice none 0 0] 25)).alloc (.cells #[] 23)) (.slice (some ⟨w.heap.size+1,0,none⟩) 0 0) []:=by
  have:=PW.new (B:=w.heap.size) (w.alloc (.cells #[.slice none 0 0] 25)) b1.size
  rwa[Xb]at this
 have a1:Hid (PX (w.heap.size+3) w.heap.size (((w.alloc (.cells #[.slice none 0 0] 25)).alloc (.cells #[] 23)).alloc (.cells #[.int .i64 8,.int .i64 0,.int .i64 0,.string ⟨#[]⟩,.int .i64 0] 48)) (.slice (some ⟨w.heap.size+1,0,none⟩) 0 0) []):=X1 (by obtain⟨vs,a,_⟩:=p1.below (bA (.cells #[.int .i64 8,.int .i64 0,.int .i64 0,.string ⟨#[]⟩,.int .i64 0] 48));exact⟨vs,a,fun _ hi=>absurd hi (U8 _)⟩);have x1:((w.alloc (.cells #[.slice none 0 0] 25)).alloc (.cells #[] 23)).heap[w.heap.size]?=some (.cells #[.slice none 0 0] 25):=TyM.same (XM w (.cells #[.slice none 0 0] 25)) (bA _);have a4:Hid ((((w.alloc (.cells #[.slice none 0 0] 25)).alloc (.cells #[] 23)).alloc (.cells #[.int .i64 8,.int .i64 0,.int .i64 0,.string ⟨#[]⟩,.int .i64 0] 48)).heap[w.heap.size]?=some (.cells #[.slice none 0 0] 25)):=X1 (TyM.same x1 (bA _));have a5:Hid ((((w.alloc (.cells #[.slice none 0 0] 25)).alloc (.cells #[] 23)).alloc (.cells #[.int .i64 8,.int .i64 0,.int .i64 0,.string ⟨#[]⟩,.int .i64 0] 48)).heap[w.heap.size+2]?=some (.cells #[.int .i64 8,.int .i64 0,.int .i64 0,.string ⟨#[]⟩,.int .i64 0] 48)):=X1 (by
  have:=XM ((w.alloc (.cells #[.slice none 0 0] 25)).alloc (.cells #[] 23)) (.cells #[.int .i64 8,.int .i64 0,.int .i64 0,.string ⟨#[]⟩,.int .i64 0] 48);simpa using this)
 have B:EV rb vb n w 8 _ [] q _:=⟨a2.o,a3.o,a1.o,a4.o,a5.o⟩;clear b1 b2 X p1 x1 h a2 a3 a1 a4 a5;go_enter func26,ntmps26;go_wp2_with fail;refine(Rq.pick B.r (by omega) 4 (by omega) (by omega)).mono ?_;rintro e W⟨z,hz,rfl,a9,b0⟩;have B:=B.ty a9 b0;clear a9 b0;have d1:z=0\/z=1\/z=2\/z=3:=by omega
 clear hz;have y:=X1 (fun q (W:World) (h:Rq rb vb n q W) (hq:q<=900000000)=>h.pick hq 2 (by omega) (by omega));rcases d1 with rfl|rfl|rfl|rfl
 .go_wp2_with fail;refine(y.o _ _ B.r (by omega)).mono ?_;rintro e W⟨g,I,rfl,c,d⟩;have B:=B.ty c d;clear c d;have HD:=X1 (fun w0=>X3r (50+g) w0 (by omega) (by omega));rw[show((50+g:Nat):Int)=50+(g:Int)from by omega]at HD
  go_wp2_with fail;refine(HD.o _).mono ?_;rintro e W⟨v3,l3,rfl,J,p3,m3,X⟩;obtain⟨g3,c3,rfl⟩:=J.form p3;obtain⟨t0,ft,ho⟩:=B.o j X J (q0:=q) (m:=300) (by omega);have HO:=X1 ho;clear J X ho;go_wp2;exact X7 (v:= .agg #[.slice (some ⟨g3,0,none⟩) l3.length c3]) (by simp[results,results26,go_sem,t0]) rfl HO.o
 focus
  go_wp2_with fail;refine(y.o _ _ B.r (by omega)).mono ?_;rintro e W⟨g,I,rfl,c,d⟩;have B:=B.ty c d;clear c d;have en:(200:Int)+(g:Int)=((200+g:Nat):Int):=by omega
  have H:200+g<=290:=by omega
  have A:([]:List (List Nd)).flatten.length<=([]:List (List Nd)).length:=X4 _;have F:([]:List (List Nd)).length<=200+g:=X6 _;generalize 200+g=N at *;obtain⟨K,B⟩:∃K,EV rb vb n w K _ _ _ _:=⟨_,B⟩
 rotate_left;focus
  go_wp2_with fail;refine(y.o _ _ B.r (by omega)).mono ?_;rintro e W⟨g,I,rfl,c,d⟩;have B:=B.ty c d;obtain⟨d7,-,-,-,-,b9⟩:=B.cs;have B:=B.kd j 12;clear c d;have en:(8:Int)+(g:Int)+1=((8+g+1:Nat):Int):=by omega
  have H:8+g+1<=290:=by omega
  have A:([]:List (List Nd)).flatten.length<=([]:List (List Nd)).length:=X4 _;have F:([]:List (List Nd)).length<=8+g+1:=X6 _;generalize 8+g+1=N at *;obtain⟨K,B⟩:∃K,EV rb vb n w K _ _ _ _:=⟨_,B⟩
 rotate_left;focus
  go_wp2_with fail;refine(y.o _ _ B.r (by omega)).mono ?_;rintro e W⟨g,I,rfl,c,d⟩;have B:=B.ty c d;clear c d;have en:(8:Int)+(g:Int)=((8+g:Nat):Int):=by omega
  have H:8+g<=280:=by omega
  generalize 8+g=M at *;go_wp2_with fail;go_loopw[3,6] (fun sv tv wr=>∃(i:Nat) (ls:List (List Nd)),i<=M/\tv= .int .i64 (i:Int)/\ls.length<=i/\ls.flatten.length<=ls.length/\EV rb vb n w 8 sv ls (q+1+1) wr) (fun _ tv _=>M-(intOf tv).toNat)
  case atStart=>exact⟨0,[],X6 _,rfl,X4 _,X4 _,B⟩
  clear B;obtain⟨i,ls,hi,rfl,c8,A,B⟩:=hrel;have d0:=B.yl;obtain⟨d6,l,-⟩:=B.p;obtain⟨d3,d2,rfl⟩:=XQ l;clear l;by_cases c9:(i:Int)<(M:Int)
  .have b7:=X1 (DZ i wr (by omega));have e1:=DL i;generalize KC i=dc at *;have d9:(⟨dc.toArray⟩:ByteArray).size<=1000:=by show dc.toArray.size<=_;simp;omega
   go_wp2_with fail;refine b7.o.mono ?_;rintro e4 w4⟨rfl,Y⟩;have d8:((⟨#[112]⟩:ByteArray)++⟨dc.toArray⟩).size<=1000000:=by rw[JA];show 1+_<=_;omega
   generalize e3:(⟨#[112]⟩:ByteArray)++⟨dc.toArray⟩=st at *;have e7:=Y.size;obtain⟨V,e8,s,t,C,B⟩:=(B.be Y).nd ⟨19,0,0,st,0⟩;have k:=X1 s;have D:=X1 t;have E:Hid ((w4.alloc (.cells #[.int .i64 19,.int .i64 0,.int .i64 0,.string st,.int .i64 0] 48)).heap.size=w4.heap.size+1):=X1 (by simp);clear Y s t;go_wp2_with(at_builtin;refine Yg _ rfl _ _ 138 rfl w.heap.size 23 iP _ 1 24 underlying138 hP a8 a7 a6 rfl (by decide) _ ls.length V rfl (k.o.alloc _) ⟨w4.heap.size+1,0,none⟩ 1 1 [.slice (some ⟨w4.heap.size,0,none⟩) 1 1] rfl rfl (QD _ [_] _ _ E.o.symm) (by simp[Value.oneCell']) (by unfold maxLen;omega) (by omega) (by simp;omega) ?_);intro v5 w5 S u rc rd;obtain⟨d5,d4,rfl⟩:=XQ S;have B:=B.ap j C.o (by simp) k.o D.o S u;clear S u rc rd;go_wp2;go_roundw
   case rel=>exact⟨i+1,_,by omega,by go_num,by rw[Xo];simp only[Ya,ZN];omega,by rw[UA,Xo,Xo,fl1];simp only[Ya,ZN];omega,B⟩
   case measure=>simp[intOf];omega
  obtain⟨d7,-,-,-,-,b9⟩:=B.cs;have B:=B.kd j 15;have e0:(M:Int)+1=((M+1:Nat):Int):=by omega
  have H:M+1<=290:=by omega
  have F:ls.length<=M+1:=by omega
  generalize M+1=N at *;obtain⟨K,B⟩:∃K,EV rb vb n w K _ _ _ _:=⟨_,B⟩
 all_goals
  go_wp2_with fail;go_loopw[3] (fun sv wr=>∃(ls:List (List Nd)),ls.length<=N/\ls.flatten.length<=ls.length/\EV rb vb n w K sv ls (q+1+1) wr) (fun sv _=>N-F5 sv)
  case atStart=>exact⟨_,F,A,B⟩
  case round=>
   clear B;obtain⟨ls,c8,A,B⟩:=hrel;have d0:=B.yl;obtain⟨d6,l,-⟩:=B.p;obtain⟨d3,d2,rfl⟩:=XQ l;clear l;by_cases c9:(ls.length:Int)<((N:Nat):Int)
   .go_wp2_with fail;refine(X8u 3 _).mono ?_;rintro e4 w4⟨rfl,rfl⟩;obtain⟨V,e2,s,t,C,B⟩:=B.nd ⟨3,0,3,⟨#[]⟩,0⟩;have k:=X1 s;have D:=X1 t;have E:Hid ((wr.alloc (.cells #[.int .i64 3,.int .i64 0,.int .i64 3,.string ⟨#[]⟩,.int .i64 0] 48)).heap.size=wr.heap.size+1):=X1 (by simp);clear s t;go_wp2_with(at_builtin;refine Yg _ rfl _ _ 138 rfl w.heap.size 23 iP _ 1 24 underlying138 hP a8 a7 a6 rfl (by decide) _ ls.length V rfl (k.o.alloc _) ⟨wr.heap.size+1,0,none⟩ 1 1 [.slice (some ⟨wr.heap.size,0,none⟩) 1 1] rfl rfl (QD _ [_] _ _ E.o.symm) (by simp[Value.oneCell']) (by unfold maxLen;omega) (by omega) (by simp;omega) ?_);intro v5 w5 S u rc rd;obtain⟨d5,d4,rfl⟩:=XQ S;have B:=B.ap j C.o (by simp) k.o D.o S u;clear S u rc rd;go_wp2;go_roundw
    case rel=>exact⟨_,by rw[Xo];simp only[Ya,ZN];omega,by rw[UA,Xo,Xo,fl1];simp only[Ya,ZN];omega,B⟩
    case measure=>simp only[F5];omega
   .have HO:=X1 (ZY ⟨K,0,0,⟨#[]⟩,0⟩ ls _ _ N B.p.pw.pr (by omega) (by omega) (by omega));unfold ndV at HO;obtain⟨y0,y1,y2,y3,y4,-⟩:=B.cs;go_wp2_with fail;refine HO.o.mono ?_;rintro e4 W⟨v4,l4,rfl,L,p4,m4,Y⟩;obtain⟨g4,c4,rfl⟩:=L.form p4;have Z:=X1 (ZY ⟨21,0,0,⟨#[120]⟩,0⟩ [_] _ _ (N+1) (pr1 L p4) (by rw[fl1];omega) (by omega) (by simp));unfold ndV at Z;have B:=(B.be Y).be (bA (.cells #[.slice (some ⟨g4,0,none⟩) l4.length c4] 23));clear L Y y0 y1 y2 y3 y4;go_wp2_with fail;refine Z.o.mono ?_;rintro e5 W⟨v5,l5,rfl,P,p5,m5,b5⟩;obtain⟨g5,c5,rfl⟩:=P.form p5;have a0:=X1 (ZY ⟨24,0,0,⟨#[]⟩,0⟩ [_] _ _ (N+2) (pr1 P p5) (by rw[fl1];omega) (by omega) (by simp));unfold ndV at a0;have B:=(B.be b5).be (bA (.cells #[.slice (some ⟨g5,0,none⟩) l5.length c5] 23));clear P b5;go_wp2_with fail;refine a0.o.mono ?_;rintro e6 W⟨v6,l6,rfl,Q,p6,m6,b6⟩;obtain⟨g6,c6,rfl⟩:=Q.form p6;obtain⟨t0,ft,ho⟩:=B.o j b6 Q (q0:=q) (m:=300) (by omega);have b8:=X1 ho;clear Q b6 ho;go_wp2;exact X7 (v:= .agg #[.slice (some ⟨g6,0,none⟩) l6.length c6]) (by simp[results,results26,go_sem,t0]) rfl b8.o
def Fm(gb M:Nat)(w:World):Prop:=∃p m c,m<=M/\w.cell? ⟨gb,2,none⟩=some (.slice p m c)
theorem Fm.ty[LB]{gb M:Nat}{w w':World}(h:Fm gb M w)(l:Xm w gb=some 150)(g:gb<w.heap.size)(a:Ty w w'):Fm gb M w':=by
 obtain⟨p,m,c,j,d⟩:=h;exact⟨p,m,c,j,(a.two (by unfold XS;simp) gb g l).2.trans d⟩
theorem Fm.pf[LB]{gb M B:Nat}{w w':World}(h:Fm gb M w)(r:Xm w gb=some 150)(j:gb<w.heap.size)(d:Pf B w w'):Fm gb M w':=by
 obtain⟨p,m,c,l,g⟩:=h;exact⟨p,m,c,l,(Xy (a:=⟨gb,2,none⟩) (d.block gb j (.inr (by rw[r];decide)))).trans g⟩
theorem Fm.mono[LB]{gb M a:Nat}{w:World}(h:Fm gb M w)(j:M<=a):Fm gb a w:=by
 obtain⟨p,m,c,g,d⟩:=h;exact⟨p,m,c,by omega,d⟩
theorem Uq[LB]{M:Option TypeId->Prop}{w W:World}{b o:Nat}{v:Value}(h:TyM M w W)(r:w.heap.size<=b):TyM M w (W.setCell ⟨b,o,none⟩ v):=by
 have k:=(X5 0 W).setCell (p:=⟨b,o,none⟩) (X6 _) v;have e:∀q,q<w.heap.size->(W.setCell ⟨b,o,none⟩ v).heap[q]?=W.heap[q]?:=fun q s=>Y4 _ _ _ _ (show q≠b by omega);exact⟨k.os.trans h.os,k.tape.trans h.tape,k.output.trans h.output,XO h.size k.size,fun q c d=>(e q c).trans (h.block q c d),fun g q c d=>by
  obtain⟨j,l⟩:=h.two g q c d;exact⟨(Q6 (e q c)).trans j,(Xy (a:=⟨q,2,none⟩) (e q c)).trans l⟩,fun q c d=>(e q c).trans (h.old q c d)⟩
theorem X6t[LB]{gb rb n q k b o:Nat}{vb v x:Value}{w:World}(h:Gn gb rb vb n q k w)(X:rb<b)(N:w.heap[b]?=some (.cells #[x] 25)):Gn gb rb vb n q k (w.setCell ⟨b,o,none⟩ v):=by
 have K:Xm w b=some 25:=by unfold Xm;rw[N];rfl
 have e:∀c,c≠b->(w.setCell ⟨b,o,none⟩ v).heap[c]?=w.heap[c]?:=fun c g=>Y4 _ _ _ _ g;have l:∀t,t≠25->∀c,c<w.heap.size->Xm w c=some t->(w.setCell ⟨b,o,none⟩ v).heap[c]?=w.heap[c]?:=fun t E c _ y=>e c (fun e'=>by rw[e',K]at y;exact E (YD y).symm);have r:=l _ (by decide) gb h.lt h.ty;have d:∀j,(w.setCell ⟨b,o,none⟩ v).cell? ⟨gb,j,none⟩=w.cell? ⟨gb,j,none⟩:=fun j=>Xy (a:=⟨gb,j,none⟩) r;have s:=h.up;obtain⟨p,I,J⟩:=h.R;obtain⟨v',S,n1,n2,n3⟩:=h.nm;obtain⟨Q,m,V,A,B,C,D⟩:=h.fn;obtain⟨c,g,F⟩:=h.ct;obtain⟨z,P,u,H⟩:=h.sz;exact⟨⟨p,I,J.Uw (fun c g=>e c (by omega))⟩,s,(Q6 r).trans h.ty,(d 0).trans h.c0,⟨v',S,(d 1).trans n1,KK n2 (l _ (by decide)),n3⟩,⟨Q,m,V,(d 2).trans A,KK B (l _ (by decide)),C,D.XH (l _ (by decide))⟩,⟨c,g,(d 3).trans F⟩,⟨z,P,u,(d 4).trans H⟩,fun j=>(KU (a:=⟨gb,j,none⟩) r).trans (h.fr j),h.km⟩
theorem Tf.same[LB]{w w':World}(h:Tf w w'){b:Nat}{cs:Array Value}{t:TypeId}(a:w.heap[b]?=some (.cells cs t))(d:¬VU (some t)):w'.heap[b]?=some (.cells cs t):=by
 have c:b<w.heap.size:=by
  rcases J0 b w.heap.size with h|h
  .exact h
  .rw[U3 h]at a;cases a
 exact(h.block b c (by unfold Xm;rw[a];exact d)).trans a
theorem Dd[LB]:¬VU (some 25):=by unfold VU XS;simp
variable (gb rb:Nat) (vb:Value) (n:Nat)
def OG[LB]:Prop:=∀(q k M:Nat) (s:XC) (w:World),Gn gb rb vb n q k w->Fm gb M w->M<=500->q+9000<=700000000->k+20<=900->Calls prog 146 #[.pointer (some ⟨gb,0,none⟩),.string s,.int .i64 3] w fun e w'=>∃v l,e= .returned v/\NR w' v l/\0<l.length/\l.length<=9000/\Gn gb rb vb n (q+9000) k w'/\Tf w w'/\Fm gb (M+2) w'
theorem NRs.tf[LB]{w w':World}(a:Tf w w'):∀{L:NL},NRs w L->NRs w' L
 | [],_=>trivial
 | _::_,h=>⟨⟨h.1.1.tf a,h.1.2⟩,NRs.tf a h.2⟩
structure FV [LB] (gb rb:Nat) (vb:Value) (n:Nat) (W:World) (M:Nat) (sv:Value) (ls:List (List Nd)) (L:NL) (q k:Nat) (w:World):Prop where
 g:Gn gb rb vb n q k w
 t:Tf W w
 p:PW W.heap.size w sv ls
 f:Fm gb M w
 x:w.heap[W.heap.size]?=some (.cells #[.slice none 0 0] 25)
 n:NRs w L
section
variable {gb rb n M q k m:Nat} {vb sv:Value} {W w w':World} {ls:List (List Nd)} {L:NL}
theorem FV.ty[LB]{q' k':Nat}(B:FV gb rb vb n W M sv ls L q k w)(a:Gn gb rb vb n q' k' w')(h:Ty w w'):FV gb rb vb n W M sv ls L q' k' w':=⟨a,B.t.trans (Ty.tf h),B.p.ty h,B.f.ty B.g.ty B.g.lt h,Ty.same h B.x VD,B.n.ty h⟩
theorem FV.be[LB](B:FV gb rb vb n W M sv ls L q k w)(h:BL w w'):FV gb rb vb n W M sv ls L q k w':=B.ty (B.g.below h) (.of h)
def FN[LB](gb rb:Nat)(vb:Value)(n:Nat)(W:World)(M:Nat)(sv:Value)(ls:List (List Nd))(L:NL)(q m k:Nat)(e:Ending)(w':World):Prop:=∃g c l,e= .returned (.slice (some ⟨g,0,none⟩) (List.length l) c)/\l.length<=m/\w'.cell? ⟨gb,0,none⟩=some (.pointer (some ⟨rb,0,none⟩))/\FV gb rb vb n W M sv ls ((.slice (some ⟨g,0,none⟩) l.length c,l)::L) q k w'
theorem FV.pk[LB](B:FV gb rb vb n W M sv ls L q k w)(m:Int)(h:q<=900000000/\1<=m/\m<=1000000):Calls prog 23 #[.pointer (some ⟨rb,0,none⟩),.int .i64 m] w fun e w'=>∃z:Nat,(z:Int)<m/\e= .returned (.int .i64 (z:Int))/\w'.cell? ⟨gb,0,none⟩=some (.pointer (some ⟨rb,0,none⟩))/\FV gb rb vb n W M sv ls L (q+1) k w':=(B.g.pick h.1 m h.2.1 h.2.2).mono fun _ _ ⟨z,d,e,a,c⟩=>⟨z,d,e,a.c0,B.ty a c⟩
theorem FV.e[LB]{d kd:Nat}{kind:Int}(B:FV gb rb vb n W M sv ls L q k w)(j:EAt gb rb vb n d kd)(h:q+kd<=700000000/\k+d<=900):Calls prog 147 #[.pointer (some ⟨gb,0,none⟩),.int .i64 kind,.int .i64 (d:Int)] w (FN gb rb vb n W M sv ls L (q+kd) kd k):=(j _ _ _ _ B.g h.1 h.2).mono fun _ w' ⟨v,l,e,n1,n2,n3,a,r⟩=>by
 obtain⟨g,c,rfl⟩:=n1.form n2
 have B':=B.ty a r
 exact⟨g,c,l,e,n3,a.c0,B'.g,B'.t,B'.p,B'.f,B'.x,⟨n1,n2⟩,B'.n⟩
theorem FV.o1[LB]{r:Value}{j:List Nd}(B:FV gb rb vb n W M sv ls ((r,j)::L) q k w)(d:Nd)(h:j.length<=100000000)(a:Sm d:=by first|exact⟨XC.le _,n0⟩|exact⟨YC rfl,n0⟩|exact⟨by assumption,n0⟩|assumption|exact⟨YC rfl,by decide⟩):Calls prog 80 #[ndV d,.slice (some ⟨w.heap.size,0,none⟩) 1 1] (w.alloc (.cells #[r] 23)) (FN gb rb vb n W M sv ls L q (j.length+1) k):=
 (ZY d [_] _ _ _ (pr1 B.n.1.1 B.n.1.2) (by rw[fl1];exact X4 _) h (by simp) a).mono fun _ w' ⟨v,l,e,n1,n2,n3,s⟩=>by
 obtain⟨g,c,rfl⟩:=n1.form n2;have B':=(B.be (bA _)).be s;exact⟨g,c,l,e,n3,B'.g.c0,B'.g,B'.t,B'.p,B'.f,B'.x,⟨n1,n2⟩,B'.n.2⟩
theorem FV.ap[LB]{O:Obj}{u v':Value}{l:List Nd}{d:List Value}(B:FV gb rb vb n W M sv ls ((u,l)::L) q k w)(c:rb<W.heap.size)(j:w.ownsRow W.heap.size 23 1 sv ls.length d)(r:∀i (h:i<ls.length),∃u,d[i]?=some u/\NR w u ls[i]/\0<ls[i].length)(y:w'.ownsRow W.heap.size 23 1 v' (ls.length+1) (d++[u]))(s:(w.alloc O).grownBy w' sv.ownBlock):FV gb rb vb n W M v' (ls++[l]) [] q k w':=by
 obtain⟨v,a⟩:=Gj j r B.n.1.1 B.n.1.2 y s;exact⟨a.gn B.g c,a.tyM B.t (X4 _),v,B.f.pf B.g.ty B.g.lt a,a.same B.x (by decide),trivial⟩
end
theorem X4y[LB](X:EAt gb rb vb n 3 6860)(Y:EAt gb rb vb n 4 34360)(V:OG gb rb vb n)(q lb N:Nat)(w:World)(h:Gn gb rb vb n q 0 w)(hf:Fm gb 0 w)(hN:N<=6)(hq:q<=100000000):Calls prog 83 #[.pointer (some ⟨gb,0,none⟩),.slice (some ⟨lb,0,none⟩) 0 0,.int .i64 (N:Int)] w fun e w'=>∃v l k,e= .returned (.agg #[v])/\NR w' v l/\0<l.length/\l.length<=250000/\Gn gb rb vb n (q+250000) k w'/\Tf w w':=by
 obtain⟨iP,hP,I,H,F⟩:=Yk Ga;obtain⟨iN,c9,d1,d0,c8⟩:=Yk Rj;have f0:=h.up;have J:rb<w.heap.size:=GU h.up h.lt;have b1:BL w (w.alloc (.cells #[.slice none 0 0] 25)):=bA _;have D:=X1 (h.below b1);have a0:=X1 (hf.ty h.ty h.lt (.of b1));have a4:Hid (Tf w (w.alloc (.cells #[.slice none 0 0] 25))):=X1 (.of b1);have a6:Hid ((w.alloc (.cells #[.slice none 0 0] 25)).heap[w.heap.size]?=some (.cells #[.slice none 0 0] 25)):=X1 (XM w _);have Z:=X1 (XV (base:=w.heap.size) (e:=23) (size:=1) (w.alloc (.cells #[.slice none 0 0] 25)) #[] 0 b1.size (X6 _) rfl);have X:=X1 X;have Y:=X1 Y;have V:=X1 V;have b4:=X1 b1;clear h hf b1;rw[Xb]at Z;go_enter func83,ntmps83;go_wp2_with(at_builtin;refine Yg _ rfl _ _ 138 rfl w.heap.size 23 iP _ 1 24 underlying138 hP I H F rfl (by decide) _ 0 [] rfl Z.o ⟨lb,0,none⟩ 0 0 [] rfl rfl (by intro j u hu;simp at hu) (by simp) (by unfold maxLen;omega) (by omega) (by simp;omega) ?_);intro v1 w1 r1 P r3 r4;have B1:Below (w.alloc (.cells #[.slice none 0 0] 25)).heap.size (w.alloc (.cells #[.slice none 0 0] 25)) w1:=(bA (.cells #[] 23)).grown P (by simp) (fun q e=>by cases e;simp);obtain⟨e1,e0,d5⟩:=XQ r1;subst d5;have a2:=X1 (D.o.below B1);have a1:=X1 (a0.o.ty D.o.ty D.o.lt (.of B1));have a5:=X1 (a4.o.trans (.of B1));have a7:=X1 (TyM.same a6.o B1);have a3:Hid (PW w.heap.size w1 (.slice e1 0 e0) []):=X1 ⟨[],r1,fun _ hi=>absurd hi (U8 _)⟩;clear r1 P r3 r4 B1 b4 Z D a0 a4 a6;go_wp2_with fail;go_loopw[7,8,9,10] (fun sv tv _ _ wr=>∃(i k:Nat) (ls:List (List Nd)),i<=N/\tv= .int .i64 (i:Int)/\k<=i/\ls.length<=i/\ls.flatten.length<=i*40000/\FV gb rb vb n w (2*i) sv ls [] (q+i*40000) k wr) (fun _ tv _ _ _=>N-(intOf tv).toNat)
 case atStart=>exact⟨0,0,[],X6 _,rfl,X4 _,X4 _,X4 _,a2.o,a5.o,a3.o,a1.o,a7.o,trivial⟩
 case round=>
  obtain⟨i,k,ls,hi,rfl,e4,e7,e3,B⟩:=hrel;have c0:=B.g.c0;obtain⟨f8,b3,_⟩:=B.p;obtain⟨f7,f6,rfl⟩:=XQ b3;clear b3 a2 a5 a3 a1 a7;by_cases e8:(i:Int)<(N:Int)
  .go_wp2_with fail;refine(B.pk 8 (by omega)).mono ?_;rintro e W⟨z,hz,rfl,c0,B⟩;by_cases d7:z=0\/z=1
   .rcases d7 with rfl|rfl;all_goals
     have S:=X1 (fun x0=>DZ i x0 (by omega));have d2:=DL i;generalize KC i=E at *;have a9:(⟨E.toArray⟩:ByteArray).size<=1000:=by show E.toArray.size<=_;simp;omega
     go_wp2_with fail;refine(S.o _).mono ?_;rintro e w1⟨rfl,b⟩;have B:=B.be b;have c0:=B.g.c0;clear b;go_wp2_with fail;obtain⟨sf,s⟩:∃sf:XC,sf.val=(⟨#[102]⟩:ByteArray)++⟨E.toArray⟩:=⟨⟨(⟨#[102]⟩:ByteArray)++⟨E.toArray⟩,(by rw[JA];show 1+_<=_;omega)⟩,rfl⟩;rw[←s];refine(V.o _ _ _ sf _ B.g B.f (by omega) (by omega) (by omega)).mono ?_;rintro e W⟨v,l,rfl,nr,pn,mn,hg,ht,hf⟩;obtain⟨g,c,rfl⟩:=nr.form pn;have B:FV gb rb vb n w _ _ ls [(_,l)] _ k W:=⟨hg,B.t.trans ht,B.p.tf ht,hf,Tf.same ht B.x Dd,⟨nr,pn⟩,trivial⟩;have c0:=B.g.c0;clear nr hg ht hf;obtain⟨vs,pv,pw⟩:=B.p;have Q:=X1 pv;have HW:=X1 pw;have b0:=B.t.size;clear pv pw;focus go_wp2_with(at_builtin;refine Yg _ rfl _ _ 138 rfl w.heap.size 23 iP _ 1 24 underlying138 hP I H F rfl (by decide) _ ls.length vs rfl (Q.o.alloc _) ⟨W.heap.size,0,none⟩ 1 1 [.slice (some ⟨g,0,none⟩) l.length c] rfl rfl (QD _ [_] _ _ rfl) (by simp[Value.oneCell']) (by unfold maxLen;omega) (by omega) (by simp;omega) ?_)
     intro v1 w1 C r rc rd;obtain⟨sp,sc,rfl⟩:=XQ C;have B:=B.ap J Q.o HW.o C r;clear C r rc rd;go_wp2;go_roundw
     case rel=>exact⟨i+1,k,_,by omega,by go_num,by omega,by rw[Xo];simp only[Ya,ZN];omega,by rw[UA,Xo,fl1];omega,(B.g.mono (by omega)),B.t,B.p,B.f.mono (by omega),B.x,trivial⟩
     case measure=>simp[intOf];omega
   by_cases d8:z=2\/z=3\/z=4
   .rcases d8 with rfl|rfl|rfl;all_goals
     have S:=X1 (fun x0=>DZ i x0 (by omega));have d2:=DL i;generalize KC i=E at *;have a9:(⟨E.toArray⟩:ByteArray).size<=1000:=by show E.toArray.size<=_;simp;omega
     go_wp2_with fail;refine(S.o _).mono ?_;rintro e w1⟨rfl,b⟩;have B:=B.be b;have c0:=B.g.c0;clear b;have e2:((⟨#[115]⟩:ByteArray)++⟨E.toArray⟩).size<=2000:=by rw[JA];show 1+_<=_;omega
     generalize a8:(⟨#[115]⟩:ByteArray)++⟨E.toArray⟩=st at *;go_wp2_with fail;try rw[a8]
     clear a8;refine(B.pk 8 (by omega)).mono ?_;rintro e W⟨z,hz,rfl,c0,B⟩;have d9:z=0\/((z:Int)==0)=false:=by rcases Ly z with h|h;exact .inl h;exact .inr (by simp;omega)
     rcases d9 with rfl|e9;focus
      go_wp2_with fail;obtain⟨st,s⟩:∃sf:XC,sf.val=(⟨#[95]⟩:ByteArray)++st:=⟨⟨_,(by rw[JA];show 1+_<=_;omega)⟩,rfl⟩;rw[←s];clear s
     rotate_left;focus
      go_wp2_with fail;obtain⟨st,s⟩:∃sf:XC,sf.val=st:=⟨⟨st,by omega⟩,rfl⟩;rw[←s];clear s
     all_goals
      refine(B.pk 6 (by omega)).mono ?_;rintro e W⟨z,hz,rfl,c0,B⟩;go_wp2_with fail;refine(B.e Y.o (by omega)).mono ?_;rintro e W⟨g,c,l,rfl,hl,c0,B⟩;go_wp2_with fail;refine(B.o1 ⟨21,0,0,st,0⟩ (by omega)).mono ?_;rintro e W⟨g,c,l,rfl,hl,c0,B⟩;obtain⟨vs,pv,pw⟩:=B.p;have Q:=X1 pv;have HW:=X1 pw;have b0:=B.t.size;clear pv pw;focus go_wp2_with(at_builtin;refine Yg _ rfl _ _ 138 rfl w.heap.size 23 iP _ 1 24 underlying138 hP I H F rfl (by decide) _ ls.length vs rfl (Q.o.alloc _) ⟨W.heap.size,0,none⟩ 1 1 [.slice (some ⟨g,0,none⟩) l.length c] rfl rfl (QD _ [_] _ _ rfl) (by simp[Value.oneCell']) (by unfold maxLen;omega) (by omega) (by simp;omega) ?_)
      intro v1 w1 C r rc rd;obtain⟨sp,sc,rfl⟩:=XQ C;have B:=B.ap J Q.o HW.o C r;clear C r rc rd;obtain⟨vn,xs,n1,n2,n3⟩:=B.g.nm;obtain⟨np,nc,rfl⟩:=XQ n2;have d3:=n2.1;have e5:=B.g.km;have bx:=(X5 w1.heap.size w1).alloc (X4 _) (.cells #[.string st,.int .i64 (z:Int)] 246);have d:=X1 (B.g.below bx);have b2:=(bx.cell (p:=⟨gb,1,none⟩) B.g.lt).trans n1;have y:=X1 (n2.alloc (.cells #[.string st,.int .i64 (z:Int)] 246));have HS:=X1 (n3.snoc d3 st (z:Int));have b9:Hid (Ty w1 (w1.alloc (.cells #[.string st,.int .i64 (z:Int)] 246))):=X1 (.of bx);have d4:rb+1<=(w1.alloc (.cells #[.string st,.int .i64 (z:Int)] 246)).heap.size:=by have:=B.t.size;simp;omega
      clear n2 n3 bx;focus go_wp2_with(at_builtin;refine Yg _ rfl _ _ 147 rfl (rb+1) 246 iN _ 2 24 underlying147 c9 d1 d0 c8 rfl (by decide) _ _ xs rfl y.o ⟨w1.heap.size,0,none⟩ 1 1 [.string st,.int .i64 (z:Int)] rfl rfl (QD _ [_,_] _ _ rfl) (by simp[Value.oneCell']) (by unfold maxLen;omega) (by omega) d4 ?_)
      intro v5 w5 r1 P r3 r4;have ne:some gb≠(Value.slice np k nc).ownBlock:=fun e=>by have h1:=Q5 y.o e.symm;rw[d.o.ty]at h1;cases h1
      have q5:=(Xy (a:=⟨gb,1,none⟩) (P.block gb d.o.lt ne)).trans b2;have q6:=(KU (a:=⟨gb,1,none⟩) (P.block gb d.o.lt ne)).trans (d.o.fr 1);obtain⟨g5,c5,rfl⟩:∃g c,v5= .slice (some ⟨g,0,none⟩) (k+1) c:=by
       rcases r1.2 with⟨_,h0⟩|⟨g,c,_,h2,_⟩
       .omega
       .exact⟨g,c,h2⟩
      have B:=B.ty (d.o.push b2 P r1 HS.o (by omega)) ((b9.o.trans (.grown P (fun b hb=>by rw[Q5 y.o hb];exact .inr (.inr rfl)) (fun b hb=>by rw[Q5 y.o hb];decide) (fun b hb=>XO d.o.lo (A2 (y.o.lt b hb).1)))).trans (.set (by rw[Q6 (P.block gb d.o.lt ne)];exact d.o.V0) (by decide)));clear r1 P r3 r4 ne;go_wp2;go_roundw
      case rel=>exact⟨i+1,k+1,_,by omega,by go_num,by omega,by rw[Xo];simp only[Ya,ZN];omega,by rw[UA,Xo,fl1];omega,(B.g.mono (by omega)),B.t,B.p,B.f.mono (by omega),B.x,trivial⟩
      case measure=>simp[intOf];omega
   have f1:((z:Int)==0)=false:=by simp;omega
   have f2:((z:Int)==1)=false:=by simp;omega
   have f3:((z:Int)==2)=false:=by simp;omega
   have f4:((z:Int)==3)=false:=by simp;omega
   have f5:((z:Int)==4)=false:=by simp;omega
   go_wp2_with fail;refine(B.e X.o (by omega)).mono ?_;rintro e W⟨g,c,l,rfl,hl,c0,B⟩;go_wp2_with fail;refine(B.o1 ⟨22,0,0,⟨#[]⟩,0⟩ (by omega)).mono ?_;rintro e W⟨g,c,l,rfl,hl,c0,B⟩;obtain⟨vs,pv,pw⟩:=B.p;have Q:=X1 pv;have HW:=X1 pw;have b0:=B.t.size;clear pv pw;go_wp2_with(at_builtin;refine Yg _ rfl _ _ 138 rfl w.heap.size 23 iP _ 1 24 underlying138 hP I H F rfl (by decide) _ ls.length vs rfl (Q.o.alloc _) ⟨W.heap.size,0,none⟩ 1 1 [.slice (some ⟨g,0,none⟩) l.length c] rfl rfl (QD _ [_] _ _ rfl) (by simp[Value.oneCell']) (by unfold maxLen;omega) (by omega) (by simp;omega) ?_);intro v1 w1 C r rc rd;obtain⟨sp,sc,rfl⟩:=XQ C;have B:=B.ap J Q.o HW.o C r;clear C r rc rd;go_wp2;go_roundw
   case rel=>exact⟨i+1,k,_,by omega,by go_num,by omega,by rw[Xo];simp only[Ya,ZN];omega,by rw[UA,Xo,fl1];omega,(B.g.mono (by omega)),B.t,B.p,B.f.mono (by omega),B.x,trivial⟩
   case measure=>simp[intOf];omega
  .have HO:=X1 (ZY ⟨24,0,0,⟨#[]⟩,0⟩ ls _ _ 240000 B.p.pr (by omega) (by omega) (by omega));unfold ndV at HO;go_wp2_with fail;refine HO.o.mono ?_;rintro e6 w6⟨v6,l6,rfl,K,p6,m6,b6⟩;obtain⟨g6,c6,rfl⟩:=K.form p6;have A:=TyM.same B.x b6;have t0:=(ZK A).1;have ft:=(ZK A).2;have d6:Xm w6 w.heap.size≠some 48:=by unfold Xm;rw[A];decide
   have b7:Hid (NR (w6.setCell ⟨w.heap.size,0,none⟩ (.slice (some ⟨g6,0,none⟩) l6.length c6)) (.slice (some ⟨g6,0,none⟩) l6.length c6) l6):=X1 ⟨Kc K.1 d6,K.2⟩;have b5:=X1 (X6t (o:=0) (v:= .slice (some ⟨g6,0,none⟩) l6.length c6) (B.g.below b6) J A);have b8:=X1 (Uq (o:=0) (v:= .slice (some ⟨g6,0,none⟩) l6.length c6) (B.t.trans (.of b6)) (X4 _));clear K b6 A;go_wp2;exact X7 (v:= .agg #[.slice (some ⟨g6,0,none⟩) l6.length c6]) (by simp[results,results83,go_sem,t0]) rfl ⟨_,_,k,rfl,b7.o,p6,by omega,b5.o.mono (by omega),b8.o⟩
variable (gb rb:Nat) (vb:Value) (n:Nat)
theorem Xdn[LB](d kd:Nat):OfK gb rb vb n d kd 2:=by
 intro j m r q k w h L K H;have I:IntKind.i64.wrap (d:Int)=(d:Int):=by rw[Yt];omega
 have B:=h.B0;have c0:=h.c0;have m:=X1 m;have r:=X1 r;have j:=X1 j;clear h;go_enter func212,ntmps212;go_wp2_with fail;refine(B.pk 5 (by omega)).mono ?_;rintro e w⟨z,y,rfl,c0,B⟩;go_wp2_with fail;refine(B.pk 6 (by omega)).mono ?_;rintro e w⟨z,y,rfl,c0,B⟩;by_cases s:z=0
 .subst s;go_wp2_with fail;refine(B.e j.o (by omega)).mono ?_;rintro e w⟨g,c,l,rfl,a,c0,B⟩;go_wp2_with fail;refine(B.o1 ⟨6,1,0,⟨#[]⟩,0⟩ (by omega)).mono ?_;rintro e w⟨g,c,l,rfl,a,c0,B⟩;go_wp2;go_ret;exact B.ret (by omega)
 by_cases t:z=1\/z=2
 .rcases t with rfl|rfl;all_goals
   go_wp2_with fail;refine(B.pk 2 (by omega)).mono ?_;rintro e w⟨z,y,rfl,c0,B⟩;go_wp2_with fail;refine(B.e j.o (by omega)).mono ?_;rintro e w⟨g,c,l,rfl,a,c0,B⟩;go_wp2_with fail;refine(B.e j.o (by omega)).mono ?_;rintro e w⟨g,c,l,rfl,a,c0,B⟩;go_wp2_with fail;refine(B.bn _ (by omega)).mono ?_;rintro e w⟨g,c,l,rfl,a,c0,B⟩;go_wp2;go_ret;exact B.ret (by omega)
 by_cases u:z=3
 .subst u;go_wp2_with fail;refine(B.ik E5 [.int .i64 1,.int .i64 3,.int .i64 4] 3 rfl rfl (by omega)).mono ?_;rintro e w⟨z,M,y,rfl,J,c0,B⟩;go_wp2_with fail;refine(B.e j.o (by omega)).mono ?_;rintro e w⟨g,c,l,rfl,a,c0,B⟩;go_wp2_with fail;refine(B.e j.o (by omega)).mono ?_;rintro e w⟨g,c,l,rfl,a,c0,B⟩;go_wp2_with fail;refine(B.bn _ (by omega)).mono ?_;rintro e w⟨g,c,l,rfl,a,c0,B⟩;go_wp2;go_ret;exact B.ret (by omega)
 by_cases v:z=4
 .subst v;go_wp2_with fail;refine(B.e j.o (by omega)).mono ?_;rintro e w⟨g,c,l,rfl,a,c0,B⟩;go_wp2_with fail;refine(B.e j.o (by omega)).mono ?_;rintro e w⟨g,c,l,rfl,a,c0,B⟩;go_wp2_with fail;refine(B.n2 ⟨#[98,101,103,105,110,115]⟩ (by omega)).mono ?_;rintro e w⟨g,c,l,rfl,a,c0,B⟩;go_wp2;go_ret;exact B.ret (by omega)
 have A:((z:Int)==0)=false:=by simp;omega
 have C:((z:Int)==1)=false:=by simp;omega
 have D:((z:Int)==2)=false:=by simp;omega
 have E:((z:Int)==3)=false:=by simp;omega
 have F:((z:Int)==4)=false:=by simp;omega
 go_wp2_with fail;refine(B.pk 6 (by omega)).mono ?_;rintro e w⟨z,y,rfl,c0,B⟩;go_wp2_with fail;refine(B.e j.o (by omega)).mono ?_;rintro e w⟨g,c,l,rfl,a,c0,B⟩;go_wp2_with fail;refine(B.e j.o (by omega)).mono ?_;rintro e w⟨g,c,l,rfl,a,c0,B⟩;go_wp2_with fail;refine(B.bn _ (by omega)).mono ?_;rintro e w⟨g,c,l,rfl,a,c0,B⟩;go_wp2;go_ret;exact B.ret (by omega)
theorem Xdt[LB](d kd:Nat):OfK gb rb vb n d kd 4:=by
 intro j r m q k w h H F D;have E:IntKind.i64.wrap (d:Int)=(d:Int):=by rw[Yt];omega
 have B:=h.B0;have c0:=h.c0;have r:=X1 r;have m:=X1 m;have j:=X1 j;clear h;go_enter func212,ntmps212;go_wp2_with fail;refine(B.pk 6 (by omega)).mono ?_;rintro e w⟨z,I,rfl,c0,B⟩;by_cases s:z=0
 .subst s;go_wp2_with fail;refine(B.e j.o (by omega)).mono ?_;rintro e w⟨g,c,l,rfl,a,c0,B⟩;go_wp2_with fail;refine(B.e j.o (by omega)).mono ?_;rintro e w⟨g,c,l,rfl,a,c0,B⟩;go_wp2_with fail;refine(B.bn _ (by omega)).mono ?_;rintro e w⟨g,c,l,rfl,a,c0,B⟩;go_wp2;go_ret;exact B.ret (by omega)
 by_cases t:z=1
 .subst t;go_wp2_with fail;refine(B.e j.o (by omega)).mono ?_;rintro e w⟨g,c,l,rfl,a,c0,B⟩;go_wp2_with fail;refine(B.mo (Dk ⟨#[97]⟩ _)).mono ?_;rintro e w⟨g,c,l,rfl,a,c0,B⟩;go_wp2_with fail;refine(B.n2 ⟨#[119,105,116,104,111,117,116]⟩ (by omega)).mono ?_;rintro e w⟨g,c,l,rfl,a,c0,B⟩;go_wp2;go_ret;exact B.ret (by omega)
 by_cases u:z=2
 .subst u;go_wp2_with fail;refine(B.f (by omega)).mono ?_;rintro e w⟨C,rfl,c0,B⟩;go_wp2_with fail;refine(B.mo (MC C _)).mono ?_;rintro e w⟨g,c,l,rfl,a,c0,B⟩;go_wp2_with fail;refine(B.e j.o (by omega)).mono ?_;rintro e w⟨g,c,l,rfl,a,c0,B⟩;go_wp2_with fail;refine(B.o2 ⟨8,0,0,⟨#[]⟩,0⟩ (by omega)).mono ?_;rintro e w⟨g,c,l,rfl,a,c0,B⟩;go_wp2_with fail;refine(B.e j.o (by omega)).mono ?_;rintro e w⟨g,c,l,rfl,a,c0,B⟩;go_wp2_with fail;refine(B.n1 ⟨#[117,110,105,113,117,101]⟩ (by omega)).mono ?_;rintro e w⟨g,c,l,rfl,a,c0,B⟩;have B:=B.sw;go_wp2_with fail;refine(B.o2 ⟨16,0,0,C,0⟩ (by omega)).mono ?_;rintro e w⟨g,c,l,rfl,a,c0,B⟩;go_wp2_with fail;refine(B.n1 ⟨#[114,101,99,111,114,100]⟩ (by omega)).mono ?_;rintro e w⟨g,c,l,rfl,a,c0,B⟩;go_wp2;go_ret;exact B.ret (by omega)
 have v:((z:Int)==0)=false:=by simp;omega
 have y:((z:Int)==1)=false:=by simp;omega
 have A:((z:Int)==2)=false:=by simp;omega
 go_wp2_with fail;refine(B.nd (m.o _ _ _ B.g (by omega) (by omega))).mono ?_;rintro e w⟨g,c,l,rfl,a,c0,B⟩;go_wp2;go_ret;exact B.ret (by omega)
