import Derived.Test.YtkoiikmhfaebnaaGreatDoorB04
set_option maxHeartbeats 4000000
set_option maxRecDepth 100000
namespace Go.Proofs.YtkoiikmhfaebnaaGreatDoor
open Tryz Go.RowKit
def Vj(xs:List Value)(k:Nat):Prop:=∀i,i<k->∃(s:XC) (z:Int),xs[i*2]?=some (.string s)/\xs[i*2+1]?=some (.int .i64 z)
def FnC(w:World)(ys:List Value)(m:Nat):Prop:=∀i,i<m->∃(s:XC) (pv:Value) (ps:List Int) (f z:Int),ys[i*4]?=some (.string s)/\ys[i*4+1]?=some pv/\ys[i*4+2]?=some (.int .i64 f)/\ys[i*4+3]?=some (.int .i64 z)/\w.ownsRow 0 3 1 pv ps.length (ps.map (Value.int .i64))/\ps.length<=3/\0<=f/\f<=3
theorem FnC.XH[LB]{w w':World}{a:List Value}{m:Nat}(h:FnC w a m)(t:∀q,q<w.heap.size->Xm w q=some 3->w'.heap[q]?=w.heap[q]?):FnC w' a m:=fun i hi=>by
 obtain⟨s,pv,u,f,z,c,d,g,j,l,r⟩:=h i hi
 exact⟨s,pv,u,f,z,c,d,g,j,KK l t,r⟩
structure Gn [LB] (gb rb:Nat) (vb:Value) (n q k:Nat) (w:World):Prop where
 R:∃p,p<=q/\Rd w rb vb n p
 up:rb<gb
 ty:Xm w gb=some 150
 c0:w.cell? ⟨gb,0,none⟩=some (.pointer (some ⟨rb,0,none⟩))
 nm:∃v xs,w.cell? ⟨gb,1,none⟩=some v/\w.ownsRow (rb+1) 246 2 v k xs/\Vj xs k
 fn:∃v m ys,w.cell? ⟨gb,2,none⟩=some v/\w.ownsRow (rb+1) 296 4 v m ys/\m<=1000/\FnC w ys m
 ct:∃c:Nat,c<=q/\w.cell? ⟨gb,3,none⟩=some (.int .i64 c)
 sz:∃c:Int,-(q:Int)<=c/\c<=1000/\w.cell? ⟨gb,4,none⟩=some (.int .i64 c)
 fr:∀j,w.frozen? ⟨gb,j,none⟩=false
 km:k<=1000
section
variable {gb rb:Nat} {vb:Value} {n q k:Nat} {w w':World}
theorem Gn.lt[LB](h:Gn gb rb vb n q k w):gb<w.heap.size:=J1 w ⟨gb,0,none⟩ h.c0
theorem Gn.rty[LB](h:Gn gb rb vb n q k w):Xm w rb=some 65:=by obtain⟨p,_,a⟩:=h.R;exact a.ty
theorem Gn.ne[LB](h:Gn gb rb vb n q k w):gb≠rb:=fun e=>by have:=h.up;omega
theorem Gn.mono[LB](h:Gn gb rb vb n q k w){q':Nat}(B:q<=q'):Gn gb rb vb n q' k w:=by
 obtain⟨⟨p,A,v⟩,d,g,j,l,m,⟨c,y,r⟩,⟨z,C,a,s⟩,t,u⟩:=h;exact⟨⟨p,by omega,v⟩,d,g,j,l,m,⟨c,by omega,r⟩,⟨z,by omega,a,s⟩,t,u⟩
theorem Gn.XH[LB](h:Gn gb rb vb n q k w){q':Nat}(A:q<=q')(y:∀b,b<w.heap.size->b≠rb->w'.heap[b]?=w.heap[b]?)(J:∃p,p<=q'/\Rd w' rb vb n p):Gn gb rb vb n q' k w':=by
 have I:=h.lt;have hne:=h.ne;have r:=h.rty;have l:=y gb I hne;have d:∀j,w'.cell? ⟨gb,j,none⟩=w.cell? ⟨gb,j,none⟩:=fun j=>Xy (a:=⟨gb,j,none⟩) l;have u:∀t,t≠65->∀q,q<w.heap.size->Xm w q=some t->w'.heap[q]?=w.heap[q]?:=fun t K q A g=>y q A (fun e=>by rw[e,r]at g;exact K (YD g).symm);obtain⟨v,M,n1,n2,n3⟩:=h.nm;obtain⟨L,m,N,B,C,D,E⟩:=h.fn;obtain⟨c,P,F⟩:=h.ct;obtain⟨z,Q,s,H⟩:=h.sz;exact⟨J,h.up,(Q6 l).trans h.ty,(d 0).trans h.c0,⟨v,M,(d 1).trans n1,KK n2 (u _ (by decide)),n3⟩,⟨L,m,N,(d 2).trans B,KK C (u _ (by decide)),D,E.XH (u _ (by decide))⟩,⟨c,by omega,(d 3).trans F⟩,⟨z,by omega,s,(d 4).trans H⟩,fun j=>(KU (a:=⟨gb,j,none⟩) l).trans (h.fr j),h.km⟩
theorem Gn.below[LB](h:Gn gb rb vb n q k w)(a:BL w w'):Gn gb rb vb n q k w':=h.XH (X4 _) (fun b d _=>a.block b d) (by obtain⟨p,c,g⟩:=h.R;exact⟨p,c,g.XH a⟩)
theorem Rd.Uw[LB]{p:Nat}(h:Rd w rb vb n p)(j:∀b,b<=rb->w'.heap[b]?=w.heap[b]?):Rd w' rb vb n p:=by
 have d:=j rb (X4 _);refine⟨(Xy (a:=⟨rb,0,none⟩) d).trans h.c0,(Xy (a:=⟨rb,1,none⟩) d).trans h.c1,(KU (a:=⟨rb,1,none⟩) d).trans h.f1,(Q6 d).trans h.ty,h.lo,?_⟩;rcases h.by_ with h|⟨g,o,c,l,m,r,s,t⟩
 .exact .inl h
 .refine .inr ⟨g,o,c,l,m,r,s,fun i hi=>?_⟩;obtain⟨k,v,u⟩:=t i hi;exact⟨k,v,(Xy (a:=⟨g,o+i,none⟩) (j g (by omega))).trans u⟩
theorem Kc[LB]{base size b o:Nat}{e:TypeId}{v:Value}{m:Nat}{a:List Value}{u:Value}(h:w.ownsRow base e size v m a)(d:Xm w b≠some e):(w.setCell ⟨b,o,none⟩ u).ownsRow base e size v m a:=KK h (fun q _ c=>Y4 _ _ _ _ (fun e'=>d (by rw[←c,e'])))
theorem Gn.count[LB](h:Gn gb rb vb n q k w){c:Nat}(K:c<=q+1):Gn gb rb vb n (q+1) k (w.setCell ⟨gb,3,none⟩ (.int .i64 c)):=by
 have a:=h.ty;have l:=h.up;have d:∀j,j≠3->(w.setCell ⟨gb,3,none⟩ (.int .i64 c)).cell? ⟨gb,j,none⟩=w.cell? ⟨gb,j,none⟩:=fun j D=>Zs _ _ _ _ (fun e=>D (Zd Addr.off e).symm);obtain⟨p,L,E⟩:=h.R;obtain⟨v,H,n1,n2,n3⟩:=h.nm;obtain⟨F,m,I,s,t,u,y⟩:=h.fn;obtain⟨c',C,A⟩:=h.ct;obtain⟨z,M,r,B⟩:=h.sz;exact⟨⟨p,by omega,E.Uw (fun b J=>Y4 _ _ _ _ (show b≠gb by omega))⟩,l,by rw[Dp];exact a,(d 0 (by decide)).trans h.c0,⟨v,H,(d 1 (by decide)).trans n1,Kc n2 (by rw[a];decide),n3⟩,⟨F,m,I,(d 2 (by decide)).trans s,Kc t (by rw[a];decide),u,y.XH (fun q' _ g=>Y4 _ _ _ _ (fun e=>by have e':q'=gb:=e;rw[e',a]at g;cases g))⟩,⟨c,by omega,JM _ _ _ A⟩,⟨z,by omega,r,(d 4 (by decide)).trans B⟩,fun j=>by rw[LM];exact h.fr j,h.km⟩
theorem Gn.down[LB](h:Gn gb rb vb n q k w){c:Int}(L:-((q:Int)+1)<=c)(l:c<=1000):Gn gb rb vb n (q+1) k (w.setCell ⟨gb,4,none⟩ (.int .i64 c)):=by
 have a:=h.ty;have r:=h.up;have d:∀j,j≠4->(w.setCell ⟨gb,4,none⟩ (.int .i64 c)).cell? ⟨gb,j,none⟩=w.cell? ⟨gb,j,none⟩:=fun j D=>Zs _ _ _ _ (fun e=>D (Zd Addr.off e).symm);obtain⟨p,M,E⟩:=h.R;obtain⟨v,I,n1,n2,n3⟩:=h.nm;obtain⟨H,m,J,s,t,u,y⟩:=h.fn;obtain⟨c',C,A⟩:=h.ct;obtain⟨z,N,F,B⟩:=h.sz;exact⟨⟨p,by omega,E.Uw (fun b K=>Y4 _ _ _ _ (show b≠gb by omega))⟩,r,by rw[Dp];exact a,(d 0 (by decide)).trans h.c0,⟨v,I,(d 1 (by decide)).trans n1,Kc n2 (by rw[a];decide),n3⟩,⟨H,m,J,(d 2 (by decide)).trans s,Kc t (by rw[a];decide),u,y.XH (fun q' _ g=>Y4 _ _ _ _ (fun e=>by have e':q'=gb:=e;rw[e',a]at g;cases g))⟩,⟨c',by omega,(d 3 (by decide)).trans A⟩,⟨c,by omega,l,JM _ _ _ B⟩,fun j=>by rw[LM];exact h.fr j,h.km⟩
theorem Gn.names[LB](h:Gn gb rb vb n q k w){v':Value}{k':Nat}{r:List Value}(I:w.ownsRow (rb+1) 246 2 v' k' r)(H:Vj r k')(E:k'<=1000):Gn gb rb vb n q k' (w.setCell ⟨gb,1,none⟩ v'):=by
 have a:=h.ty;have g:=h.up;have c:∀j,j≠1->(w.setCell ⟨gb,1,none⟩ v').cell? ⟨gb,j,none⟩=w.cell? ⟨gb,j,none⟩:=fun j D=>Zs _ _ _ _ (fun e=>D (Zd Addr.off e).symm);obtain⟨p,M,F⟩:=h.R;obtain⟨v,_,n1,_,_⟩:=h.nm;obtain⟨J,m,K,s,t,u,y⟩:=h.fn;obtain⟨c',C,A⟩:=h.ct;obtain⟨z,N,l,B⟩:=h.sz;exact⟨⟨p,by omega,F.Uw (fun b L=>Y4 _ _ _ _ (show b≠gb by omega))⟩,g,by rw[Dp];exact a,(c 0 (by decide)).trans h.c0,⟨v',r,JM _ _ _ n1,Kc I (by rw[a];decide),H⟩,⟨J,m,K,(c 2 (by decide)).trans s,Kc t (by rw[a];decide),u,y.XH (fun q' _ d=>Y4 _ _ _ _ (fun e=>by have e':q'=gb:=e;rw[e',a]at d;cases d))⟩,⟨c',by omega,(c 3 (by decide)).trans A⟩,⟨z,by omega,l,(c 4 (by decide)).trans B⟩,fun j=>by rw[LM];exact h.fr j,E⟩
theorem Gn.push[LB](h:Gn gb rb vb n q k w){v v':Value}(E:w.cell? ⟨gb,1,none⟩=some v)(D:w.grownBy w' v.ownBlock){k':Nat}{C:List Value}(hx:w'.ownsRow (rb+1) 246 2 v' k' C)(hs:Vj C k')(W:k'<=1000):Gn gb rb vb n q k' (w'.setCell ⟨gb,1,none⟩ v'):=by
 have X:=h.lt;have A:=h.up;obtain⟨I,a0,n1,n2,n3⟩:=h.nm;obtain rfl:I=v:=by rw[n1]at E;exact YD E
 have own:∀b,I.ownBlock=some b->rb+1<=b/\Xm w b=some 246:=fun b l=>⟨(n2.lt b l).1,Q5 n2 l⟩;have F:∀t,t≠246->∀q,q<w.heap.size->Xm w q=some t->w'.heap[q]?=w.heap[q]?:=fun t ht q y d=>D.block q y (fun e=>by have:=(own q e.symm).2;rw[d]at this;exact ht (YD this));have u:=F _ (by decide) gb X h.ty;have d:Xm w' gb=some 150:=(Q6 u).trans h.ty;have s:∀j,j≠1->(w'.setCell ⟨gb,1,none⟩ v').cell? ⟨gb,j,none⟩=w.cell? ⟨gb,j,none⟩:=fun j V=>(Zs _ _ _ _ (fun e=>V (Zd Addr.off e).symm)).trans (Xy (a:=⟨gb,j,none⟩) u);have H:∀b,b≠gb->(w'.setCell ⟨gb,1,none⟩ v').heap[b]?=w'.heap[b]?:=fun b l=>Y4 _ _ _ _ l;have r:∀t,t≠246->t≠150->∀q,q<w.heap.size->Xm w q=some t->(w'.setCell ⟨gb,1,none⟩ v').heap[q]?=w.heap[q]?:=fun t N P q y g=>(H q (fun e=>by rw[e,h.ty]at g;exact P (YD g).symm)).trans (F t N q y g);obtain⟨p,Y,Z⟩:=h.R;obtain⟨vf,m,ys,J,K,L,M⟩:=h.fn;obtain⟨c,hc,Q⟩:=h.ct;obtain⟨z,hz,B,S⟩:=h.sz;exact⟨⟨p,Y,Z.Uw (fun b l=>(H b (by omega)).trans (D.block b (by omega) (fun e=>by have:=(own b e.symm).1;omega)))⟩,A,by rw[Dp];exact d,(s 0 (by decide)).trans h.c0,⟨v',C,JM _ _ _ ((Xy (a:=⟨gb,1,none⟩) u).trans n1),Kc hx (by rw[d];decide),hs⟩,⟨vf,m,ys,(s 2 (by decide)).trans J,KK K (r _ (by decide) (by decide)),L,M.XH (r _ (by decide) (by decide))⟩,⟨c,by omega,(s 3 (by decide)).trans Q⟩,⟨z,by omega,B,(s 4 (by decide)).trans S⟩,fun j=>by rw[LM];exact(KU (a:=⟨gb,j,none⟩) u).trans (h.fr j),W⟩
theorem Gn.pick[LB](h:Gn gb rb vb n q k w)(s:q<=900000000)(m:Int)(g:1<=m)(j:m<=1000000):Calls prog 23 #[.pointer (some ⟨rb,0,none⟩),.int .i64 m] w fun e w'=>∃z:Nat,(z:Int)<m/\e= .returned (.int .i64 (z:Int))/\Gn gb rb vb n (q+1) k w'/\Ty w w':=by
 obtain⟨p,r,d⟩:=h.R;refine(MU rb n p vb m w d (by omega) g j).mono ?_;rintro e w1⟨z,l,rfl,a,c⟩;exact⟨z,l,rfl,h.XH (by omega) c.block ⟨p+1,by omega,a⟩,.dr c d.own⟩
theorem Gn.Xfc[LB](h:Gn gb rb vb n q k w)(j:q<=900000000)(m:Nat)(l:m<=1000000):Calls prog 23 #[.pointer (some ⟨rb,0,none⟩),.int .i64 m] w fun e w'=>∃z:Nat,(0<m->z<m)/\e= .returned (.int .i64 (z:Int))/\Gn gb rb vb n (q+1) k w'/\Ty w w'/\z<=m:=by
 rcases Ly m with rfl|r
 .obtain⟨p,s,g⟩:=h.R;refine(EA rb n p vb w g (by omega)).mono ?_;rintro e w1⟨rfl,c,d⟩;exact⟨0,fun h=>h,rfl,h.XH (by omega) d.block ⟨p+1,by omega,c⟩,.dr d g.own,X4 _⟩
 .refine(h.pick j m (by omega) (by omega)).mono ?_;rintro e w1⟨z,t,rfl,a,b⟩;exact⟨z,fun _=>by omega,rfl,a,b,by omega⟩
theorem Gn.text[LB](h:Gn gb rb vb n q k w)(m:q<=900000000):Calls prog 242 #[.pointer (some ⟨rb,0,none⟩)] w fun e w'=>∃t:XC,e= .returned (.string t)/\Gn gb rb vb n (q+7) k w'/\Ty w w':=by
 obtain⟨p,l,d⟩:=h.R;refine(X4b rb n p vb w d (by omega)).mono ?_;rintro e w1⟨t,j,rfl,g,a,c⟩;exact⟨t,rfl,h.XH (by omega) c.block ⟨j,by omega,a⟩,.dr c d.own⟩
theorem Gn.lo[LB](h:Gn gb rb vb n q k w):JT<=rb:=by obtain⟨p,_,a⟩:=h.R;exact a.lo
theorem Gn.V0[LB](h:Gn gb rb vb n q k w):XS (Xm w gb)/\JT<=gb:=⟨by rw[h.ty];exact .inr (.inl rfl),by have:=h.lo;have:=h.up;omega⟩
end
theorem Nh[LB]:∀(k n:Nat),n<10 ^ (k+1)->(KC n).length<=k+1:=by
 intro k;induction k with
 | zero=>intro n a;rw[KC,dif_pos (by simpa using a)];exact X4 _
 | succ k c=>
  intro n a;rw[KC];split
  .show 1<=_;omega
  .rw[Xo];have:=c (n / 10) (by rw[Nat.div_lt_iff_lt_mul (by omega)];rw[Nat.pow_succ]at a;exact a);show _+1<=_;omega
variable (gb rb:Nat) (vb:Value) (n:Nat)
theorem C8[LB](q k:Nat)(w:World)(h:Gn gb rb vb n q k w)(z:q<=900000000):Calls prog 209 #[.pointer (some ⟨gb,0,none⟩)] w fun e w'=>∃t:XC,e= .returned (.string t)/\Gn gb rb vb n (q+1) k w'/\Ty w w':=by
 obtain⟨c,y,m⟩:=h.ct;have v:=h.fr 3;have g:=X1 (h.count (c:=c+1) (by omega));have j:Hid (Ty w (w.setCell ⟨gb,3,none⟩ (.int .i64 ((c+1:Nat):Int)))):=X1 (.set h.V0 (by decide));have u:(w.setCell ⟨gb,3,none⟩ (.int .i64 ((c:Int)+1))).cell? ⟨gb,3,none⟩=some (.int .i64 ((c:Int)+1)):=JM _ _ _ m;have r:=Nh 8 (c+1) (by show c+1<1000000000;omega);have d:=X1 (DZ (c+1) (w.setCell ⟨gb,3,none⟩ (.int .i64 ((c+1:Nat):Int))) (by omega));rw[show((c+1:Nat):Int)=(c:Int)+1 from by omega]at d g j
 generalize KC (c+1)=a at *;clear h;go_enter func209,ntmps209;go_wp2_with fail;refine d.o.mono ?_;rintro e w1⟨rfl,l⟩;have s:(⟨a.toArray⟩:ByteArray).size<=1000:=by show a.toArray.size<=_;simp;omega
 go_wp2;go_ret;exact⟨⟨(⟨#[110]⟩:ByteArray)++⟨a.toArray⟩,by rw[JA];show 1+(⟨a.toArray⟩:ByteArray).size<=_;omega⟩,rfl,g.o.below l,j.o.trans (.of l)⟩
variable (gb rb:Nat) (vb:Value) (n:Nat)
theorem EN[LB]{w:World}{B g c k:Nat}{e:TypeId}{a:List Value}(h:w.ownsRow B e 2 (.slice (some ⟨g,0,none⟩) k c) k a){j:Nat}{u:Value}(d:a[j]?=some u):w.cell? ⟨g,j,none⟩=some u:=by
 have:=h.cells rfl j u d
 rwa[Ye,Xn]at this
def GMk[LB](q m k:Nat)(w:World)(e:Ending)(w':World):Prop:=∃v l,e= .returned v/\NR w' v l/\0<l.length/\l.length<=m/\Gn gb rb vb n (q+m) k w'/\Ty w w'
def GOk[LB](q m k:Nat)(w:World)(e:Ending)(w':World):Prop:=∃v l b,e= .returned (.tuple #[v,.bool b])/\(b=true->NR w' v l/\0<l.length/\l.length<=m)/\(b=false->Gn gb rb vb n (q+1) k w')/\Gn gb rb vb n (q+m) k w'/\Ty w w'/\∃p i c,v= .slice p i c
theorem Xck[LB](q k:Nat)(kind:Int)(w:World)(h:Gn gb rb vb n q k w)(hq:q<=800000000):Calls prog 240 #[.pointer (some ⟨gb,0,none⟩),.int .i64 kind] w fun e w'=>GOk gb rb vb n q 1 k w e w':=by
 have c0:=h.c0;obtain⟨v,xs,n1,n2,n3⟩:=h.nm;obtain⟨vp,vc,rfl⟩:=XQ n2;have a2:=h.km;have M:=X1 (h.Xfc (by omega) k (by omega));clear n2 n3 h;go_enter func240,ntmps240;go_wp2_with fail;refine M.o.mono ?_;rintro e w1⟨z,hz,rfl,m,u,a4⟩;have D:=X1 m;have E:=X1 u;clear m u M c0 n1;go_wp2_with fail;go_loopw[8] (fun t wr=>∃(i:Nat),i<=k/\t= .int .i64 i/\Gn gb rb vb n (q+1) k wr/\Ty w wr) (fun t _=>k-(intOf t).toNat)
 case atStart=>exact⟨0,X6 _,rfl,D.o,E.o⟩
 case round=>
  obtain⟨i,hi,rfl,d,A⟩:=hrel;by_cases a3:i<k
  .obtain⟨v,xs,n1,n2,n3⟩:=d.nm;obtain⟨g,c,hv⟩:∃g c,v= .slice (some ⟨g,0,none⟩) k c:=by
    rcases n2.2 with⟨_,h0⟩|⟨g,c,_,Z,_⟩
    .omega
    .exact⟨g,c,Z⟩
   subst hv;have J:(z+i)%k<k:=WB _ (by omega);have Y:((z:Int)+(i:Int))%(k:Int)=(((z+i)%k:Nat):Int):=by simp
   have e2:((z:Int)+(i:Int)).tmod (k:Int)=(((z+i)%k:Nat):Int):=by rw[Dw (by omega)];exact Y
   have e3:IntKind.i64.wrap ((z:Int)+(i:Int))=(z:Int)+(i:Int):=by rw[Yt];omega
   have a0:¬k=0:=by omega
   generalize(z+i)%k=x at *;obtain⟨s,B,P,Q⟩:=n3 x J;have S:=EN n2 P;have W:=EN n2 Q;have bx:=(X5 wr.heap.size wr).alloc (X4 _) (.cells #[.string ⟨#[]⟩,.int .i64 0] 246);have a5:=(bx.cell (p:=⟨gb,1,none⟩) d.lt).trans n1;have V:=(bx.cell (p:=⟨g,x*2,none⟩) ((n2.lt g rfl).2)).trans S;have X:=(bx.cell (p:=⟨g,x*2+1,none⟩) ((n2.lt g rfl).2)).trans W;have j:=X1 d;have y:=X1 A;have HX:=X1 bx;clear d A n2 n3 P Q bx;by_cases r:B=kind
   .subst r;go_wp2_with fail;go_region;all_goals
     have a:Hid (BL wr (wr.alloc (.cells #[.string s,.int .i64 B] 246)).drew):=X1 (bA _).drew;go_wp2_with fail;refine(MC s _).mono ?_;rintro e w9⟨v9,l9,rfl,H,N,m9,I⟩;obtain⟨g9,c9,L⟩:=H.form N;subst L;have l:=X1 ((j.o.below a.o).below I);have F:=X1 ((y.o.trans (.of a.o)).trans (.of I));have C:=X1 H;clear H I;go_wp2;go_ret2;exact⟨_,l9,true,rfl,fun _=>⟨C.o,N,m9⟩,fun _=>l.o,l.o,F.o,_,_,_,rfl⟩
   .have a1:(B==kind)=false:=by simpa using r
    go_wp2_with fail;go_region;all_goals
     have a:Hid (BL wr (wr.alloc (.cells #[.string s,.int .i64 B] 246)).drew):=X1 (bA _).drew;go_wp2;go_roundw
     case rel=>exact⟨i+1,by omega,by go_num,j.o.below a.o,y.o.trans (.of a.o)⟩
     case measure=>simp[intOf];omega
  .have K:i=k:=by omega
   subst K;have j:=X1 d;have y:=X1 A;clear d A;go_wp2;go_ret2;exact⟨_,[],false,rfl,(fun h=>by cases h),fun _=>j.o.below (bA _),j.o.below (bA _),y.o.trans (.of (bA _)),_,_,_,rfl⟩
theorem Rj:(prog.info? 246).map (fun i=>(i.zero,i.size,i.bytes))=some (some (.agg #[.string ⟨#[]⟩,.int .i64 0]),2,24):=by kernel_rfl
theorem Vj.snoc[LB]{a:List Value}{k:Nat}(h:Vj a k)(c:a.length=k*2)(s:XC)(z:Int):Vj (a++[.string s,.int .i64 z]) (k+1):=fun i hi=>by
 by_cases j:i<k
 .obtain⟨l,m,d,g⟩:=h i j
  exact⟨l,m,by rw[QY (by omega)];exact d,by rw[QY (by omega)];exact g⟩
 .obtain rfl:i=k:=by omega
  exact⟨s,z,by rw[K6 (by omega),c];simp,by rw[K6 (by omega),c,show i*2+1-i*2=1 from by omega];rfl⟩
theorem Vj.take[LB]{a:List Value}{k m:Nat}(h:Vj a k)(l:m<=k):Vj (a.take (m*2)) m:=fun i hi=>by
 obtain⟨g,j,c,d⟩:=h i (by omega)
 exact⟨g,j,by rw[List.getElem?_take_of_lt (by omega)];exact c,by rw[List.getElem?_take_of_lt (by omega)];exact d⟩
theorem EP[LB]{w:World}{B g c k m:Nat}{e:TypeId}{size:Nat}{l:List Value}(h:w.ownsRow B e size (.slice (some ⟨g,0,none⟩) k c) k l)(y:m<=k):w.ownsRow B e size (.slice (some ⟨g,0,none⟩) m c) m (l.take (m*size)):=by
 have d:m*size<=k*size:=DH _ y;refine⟨by rw[YM,h.1];omega,?_⟩;rcases h.2 with⟨q,_⟩|⟨A,j,a,z,r,s,C,t,u,v⟩
 .cases q
 .cases z;exact .inr ⟨g,c,a,rfl,r,s,by omega,t,u,by rw[←v,Lu,QL d]⟩
theorem Gl[LB]{w:World}{B g c k:Nat}{e:TypeId}{size:Nat}{r:List Value}(h:w.ownsRow B e size (.slice (some ⟨g,0,none⟩) k c) k r):k<=c/\c<=maxLen:=by
 rcases h.2 with⟨j,_⟩|⟨s,a,d,q,t,u,l,m,_⟩
 .cases j
 .cases q;exact⟨l,m⟩
variable (gb rb:Nat) (vb:Value) (n:Nat)
def EAt[LB](d kd:Nat):Prop:=∀(q k:Nat) (kind:Int) (w:World),Gn gb rb vb n q k w->q+kd<=700000000->k+d<=900->Calls prog 147 #[.pointer (some ⟨gb,0,none⟩),.int .i64 kind,.int .i64 (d:Int)] w fun e w'=>GMk gb rb vb n q kd k w e w'
theorem Cz[LB](d kd:Nat)(HE:EAt gb rb vb n d kd)(q k:Nat)(s:XC)(kind F:Int)(w:World)(h:Gn gb rb vb n q k w)(hq:q+kd<=700000000)(hk:k+1+d<=900):Calls prog 210 #[.pointer (some ⟨gb,0,none⟩),.string s,.int .i64 kind,.int .i64 F,.int .i64 (d:Int)] w fun e w'=>GMk gb rb vb n q kd k w e w':=by
 obtain⟨iN,hN,V,S,Q⟩:=Yk Rj;obtain⟨v,xs,n1,n2,n3⟩:=h.nm;obtain⟨vp,vc,rfl⟩:=XQ n2;have X:=n2.1;have W:=h.lt;have a4:=h.up;have bx:=(X5 w.heap.size w).alloc (X4 _) (.cells #[.string s,.int .i64 kind] 246);have j:=X1 (h.below bx);have D:=(bx.cell (p:=⟨gb,1,none⟩) W).trans n1;have l:=X1 (n2.alloc (.cells #[.string s,.int .i64 kind] 246));have HS:=X1 (n3.snoc X s kind);have N:Hid (Ty w (w.alloc (.cells #[.string s,.int .i64 kind] 246))):=X1 (.of bx);have f1:=h.fr 1;have H:=X1 HE;clear h n2 n3 bx HE;go_enter func210,ntmps210;go_wp2_with(at_builtin;refine Yg _ rfl _ _ 147 rfl (rb+1) 246 iN _ 2 24 underlying147 hN V S Q rfl (by decide) _ k xs rfl l.o ⟨w.heap.size,0,none⟩ 1 1 [.string s,.int .i64 kind] rfl rfl (QD _ [_,_] _ _ rfl) (by simp[Value.oneCell']) (by unfold maxLen;omega) (by omega) (by simp;omega) ?_);intro v5 w5 r1 A r3 r4;have q5:=(Xy (a:=⟨gb,1,none⟩) (A.block gb j.o.lt (fun e=>by have u:=Q5 l.o e.symm;rw[j.o.ty]at u;cases u))).trans D;have q6:=(KU (a:=⟨gb,1,none⟩) (A.block gb j.o.lt (fun e=>by have u:=Q5 l.o e.symm;rw[j.o.ty]at u;cases u))).trans (j.o.fr 1);obtain⟨g5,c5,Y⟩:∃g c,v5= .slice (some ⟨g,0,none⟩) (k+1) c:=by
  rcases r1.2 with⟨_,h0⟩|⟨g,c,_,P,_⟩
  .omega
  .exact⟨g,c,P⟩
 subst Y;have I:=X1 (j.o.push D A r1 HS.o (by omega));have L:Hid (Ty w (w5.setCell ⟨gb,1,none⟩ (.slice (some ⟨g5,0,none⟩) (k+1) c5))):=X1 ((N.o.trans (.grown A (fun b B=>by rw[Q5 l.o B];exact .inr (.inr rfl)) (fun b B=>by rw[Q5 l.o B];decide) (fun b B=>XO j.o.lo (A2 (l.o.lt b B).1)))).trans (.set (by rw[Q6 (A.block gb j.o.lt (fun e=>by have u:=Q5 l.o e.symm;rw[j.o.ty]at u;cases u))];exact j.o.V0) (by decide)));clear r1 A r3 r4;go_wp2_with fail;refine(H.o _ _ _ _ I.o (by omega) (by omega)).mono ?_;rintro e w6⟨v6,l6,rfl,z,p6,m6,r,C⟩;obtain⟨gq,cq,a0⟩:=z.form p6;subst a0;obtain⟨v7,a6,a5,t,E⟩:=r.nm;obtain⟨g7,c7,Z⟩:∃g c,v7= .slice (some ⟨g,0,none⟩) (k+1) c:=by
  rcases t.2 with⟨_,h0⟩|⟨g,c,_,P,_⟩
  .omega
  .exact⟨g,c,P⟩
 subst Z;have y:=Gl t;have a3:k<=c7:=by omega
 have a2:c7<=9223372036854775807:=by have:=y.2;unfold maxLen at this;omega
 have a1:=r.fr 1;have J:=X1 (r.names (EP t (m:=k) (by omega)) (E.take (by omega)) (by omega));have M:Hid (Ty w (w6.setCell ⟨gb,1,none⟩ (.slice (some ⟨g7,0,none⟩) k c7))):=X1 ((L.o.trans C).trans (.set r.V0 (by decide)));have K:Hid (NR (w6.setCell ⟨gb,1,none⟩ (.slice (some ⟨g7,0,none⟩) k c7)) _ _):=X1 (z.ty (.set r.V0 (by decide)));clear r C z t E y;go_wp2;go_ret;exact⟨_,_,rfl,K.o,p6,m6,J.o,M.o⟩
abbrev NL:=List (Value × List Nd)
def NRs(w:World):NL->Prop
 | []=>True
 | x::r=>(NR w x.1 x.2/\0<x.2.length)/\NRs w r
theorem NRs.ty[LB]{w w':World}(a:Ty w w'):∀{L:NL},NRs w L->NRs w' L
 | [],_=>trivial
 | _::_,h=>⟨⟨h.1.1.ty a,h.1.2⟩,NRs.ty a h.2⟩
structure GB [LB] (gb rb:Nat) (vb:Value) (n:Nat) (W0:World) (L:NL) (q k:Nat) (w:World):Prop where
 g:Gn gb rb vb n q k w
 t:Ty W0 w
 n:NRs w L
variable {gb rb:Nat} {vb:Value} {n:Nat} {W0 w w':World} {L:NL} {q k m:Nat}
theorem Gn.B0[LB](h:Gn gb rb vb n q k w):GB gb rb vb n w [] q k w:=⟨h,.refl w,trivial⟩
theorem GB.al[LB](B:GB gb rb vb n W0 L q k w)(o:Obj):GB gb rb vb n W0 L q k (w.alloc o):=
 have b:=bA o
 ⟨B.g.below b,B.t.trans (.of b),B.n.ty (.of b)⟩
theorem GB.pop[LB]{x:Value × List Nd}(B:GB gb rb vb n W0 (x::L) q k w):GB gb rb vb n W0 L q k w:=⟨B.g,B.t,B.n.2⟩
theorem GB.sw[LB]{x y:Value × List Nd}(B:GB gb rb vb n W0 (x::y::L) q k w):GB gb rb vb n W0 (y::x::L) q k w:=⟨B.g,B.t,B.n.2.1,B.n.1,B.n.2.2⟩
theorem GB.up[LB]{q':Nat}(B:GB gb rb vb n W0 L q k w)(h:q<=q'):GB gb rb vb n W0 L q' k w:=⟨B.g.mono h,B.t,B.n⟩
def GN[LB](gb rb:Nat)(vb:Value)(n:Nat)(W0:World)(L:NL)(q m k:Nat)(e:Ending)(w':World):Prop:=∃g c l,e= .returned (.slice (some ⟨g,0,none⟩) (List.length l) c)/\l.length<=m/\w'.cell? ⟨gb,0,none⟩=some (.pointer (some ⟨rb,0,none⟩))/\GB gb rb vb n W0 ((.slice (some ⟨g,0,none⟩) l.length c,l)::L) q k w'
theorem GB.nd[LB](B:GB gb rb vb n W0 L q k w){f:FuncId}{j:Array Value}(h:Calls prog f j w fun e w'=>GMk gb rb vb n q m k w e w'):Calls prog f j w (GN gb rb vb n W0 L (q+m) m k):=h.mono fun _ w' ⟨v,l,e,n1,n2,n3,a,d⟩=>by
 obtain⟨g,c,rfl⟩:=n1.form n2
 exact⟨g,c,l,e,n3,a.c0,a,B.t.trans d,⟨n1,n2⟩,B.n.ty d⟩
theorem GB.mo[LB](B:GB gb rb vb n W0 L q k w){f:FuncId}{d:Array Value}(h:Calls prog f d w fun e w'=>Mk w m e w'):Calls prog f d w (GN gb rb vb n W0 L q m k):=h.mono fun _ w' ⟨v,l,e,n1,n2,n3,a⟩=>by
 obtain⟨g,c,rfl⟩:=n1.form n2
 exact⟨g,c,l,e,n3,(B.g.below a).c0,B.g.below a,B.t.trans (.of a),⟨n1,n2⟩,B.n.ty (.of a)⟩
theorem GB.pk[LB](B:GB gb rb vb n W0 L q k w)(m:Int)(h:q<=900000000/\1<=m/\m<=1000000):Calls prog 23 #[.pointer (some ⟨rb,0,none⟩),.int .i64 m] w fun e w'=>∃z:Nat,(z:Int)<m/\e= .returned (.int .i64 (z:Int))/\w'.cell? ⟨gb,0,none⟩=some (.pointer (some ⟨rb,0,none⟩))/\GB gb rb vb n W0 L (q+1) k w':=(B.g.pick h.1 m h.2.1 h.2.2).mono fun _ _ ⟨z,d,e,a,c⟩=>⟨z,d,e,a.c0,a,B.t.trans c,B.n.ty c⟩
theorem GB.st[LB]{j:Nat}(B:GB gb rb vb n W0 L q k w){f:FuncId}{d:Array Value}(h:Calls prog f d w fun e w'=>∃t:XC,e= .returned (.string t)/\Gn gb rb vb n (q+j) k w'/\Ty w w'):Calls prog f d w fun e w'=>∃t:XC,e= .returned (.string t)/\w'.cell? ⟨gb,0,none⟩=some (.pointer (some ⟨rb,0,none⟩))/\GB gb rb vb n W0 L (q+j) k w':=h.mono fun _ _ ⟨t,e,a,c⟩=>⟨t,e,a.c0,a,B.t.trans c,B.n.ty c⟩
theorem GB.lk[LB](B:GB gb rb vb n W0 L q k w){t:TypeId}(a:List Value)(y:¬XS (some t)){C:Value->Prop}(r:∀v∈a,C v)(h:q<=900000000/\1<=a.length/\a.length<=1000000):Calls prog 23 #[.pointer (some ⟨rb,0,none⟩),.int .i64 a.length] (w.alloc (.cells a.toArray t)) fun e w'=>∃(z:Nat) (u:Value),(z:Int)<a.length/\e= .returned (.int .i64 (z:Int))/\C u/\w'.cell? ⟨w.heap.size,z,none⟩=some u/\w'.cell? ⟨gb,0,none⟩=some (.pointer (some ⟨rb,0,none⟩))/\GB gb rb vb n W0 L (q+1) k w':=
 ((B.al (.cells a.toArray t)).g.pick h.1 a.length (by omega) (by omega)).mono fun _ w' ⟨z,A,e,l,d⟩=>by
   have B':=B.al (.cells a.toArray t);have c:z<a.length:=by omega
   have s:=YL (XV (base:=0) (e:=t) (size:=1) w a.toArray a.length (X6 _) (by unfold maxLen;omega) (by simp)) d y;have j:=s.cells rfl z _ (YH c);rw[Ye,Xn]at j;exact⟨z,a[z],A,e,r _ (XR c),j,l.c0,l,B'.t.trans d,B'.n.ty d⟩
def sC(v:Value):Prop:=∃u:XC,v= .string u
def iC(v:Value):Prop:=∃u:Int,u<9223372036854775808/\v= .int .i64 u
def sB:Value->Bool
 | .string u=>u.size<=1000000
 | _=>false
theorem Y1u{a:List Value}(h:a.all sB=true):∀v∈a,sC v:=fun v c=>by
 have:=OS.1 h v c
 cases v<;>simp[sB]at this
 exact⟨⟨_,this⟩,rfl⟩
def iB:Value->Bool
 | .int .i64 u=>decide (u<9223372036854775808)
 | _=>false
theorem X7u{a:List Value}(h:a.all iB=true):∀v∈a,iC v:=fun v c=>by
 have:=OS.1 h v c
 unfold iB at this
 split at this
 .exact⟨_,QR this,rfl⟩
 .cases this
theorem Xcd[LB]:¬XS (some 9):=by unfold XS;simp
theorem Xcc[LB]:¬XS (some 2):=by unfold XS;simp
theorem E5[LB]:¬XS (some 3):=by unfold XS;simp
theorem GB.sk[LB](B:GB gb rb vb n W0 L q k w)(a:List Value)(m:Int)(l:(a.length:Int)=m)(j:a.all sB=true)(h:q<=900000000/\1<=m/\m<=1000000):Calls prog 23 #[.pointer (some ⟨rb,0,none⟩),.int .i64 m] (w.alloc (.cells a.toArray 9)) fun e w'=>∃(z:Nat) (u:XC),(z:Int)<m/\e= .returned (.int .i64 (z:Int))/\w'.cell? ⟨w.heap.size,z,none⟩=some (.string u)/\w'.cell? ⟨gb,0,none⟩=some (.pointer (some ⟨rb,0,none⟩))/\GB gb rb vb n W0 L (q+1) k w':=l ▸ (B.lk a Xcd (Y1u j) (by omega)).mono fun _ _ ⟨z,_,c,d,⟨u,rfl⟩,g⟩=>⟨z,u,c,d,g⟩
theorem GB.ik[LB](B:GB gb rb vb n W0 L q k w){t:TypeId}(r:¬XS (some t))(a:List Value)(m:Int)(l:(a.length:Int)=m)(j:a.all iB=true)(h:q<=900000000/\1<=m/\m<=1000000):Calls prog 23 #[.pointer (some ⟨rb,0,none⟩),.int .i64 m] (w.alloc (.cells a.toArray t)) fun e w'=>∃(z:Nat) (u:Int),((z:Int)<m/\u<9223372036854775808)/\e= .returned (.int .i64 (z:Int))/\w'.cell? ⟨w.heap.size,z,none⟩=some (.int .i64 u)/\w'.cell? ⟨gb,0,none⟩=some (.pointer (some ⟨rb,0,none⟩))/\GB gb rb vb n W0 L (q+1) k w':=l ▸ (B.lk a r (X7u j) (by omega)).mono fun _ _ ⟨z,_,c,d,⟨u,s,rfl⟩,g⟩=>⟨z,u,⟨c,s⟩,d,g⟩
theorem GB.ret[LB]{v:Value}{l:List Nd}{q0:Nat}(B:GB gb rb vb n W0 ((v,l)::L) q k w)(a:l.length<=m/\q<=q0+m):GMk gb rb vb n q0 m k W0 (.returned v) w:=⟨v,l,rfl,B.n.1.1,B.n.1.2,a.1,B.g.mono a.2,B.t⟩
theorem GB.bx[LB](B:GB gb rb vb n W0 L q k w)(d:Nd)(a:Sm d:=by first|exact⟨XC.le _,n0⟩|exact⟨YC rfl,n0⟩|exact⟨by assumption,n0⟩|assumption|exact⟨YC rfl,by decide⟩):GB gb rb vb n W0 ((.slice (some ⟨w.heap.size,0,none⟩) 1 1,[d])::L) q k (w.alloc (.cells #[.int .i64 d.kind,.int .i64 d.op,.int .i64 d.n,.string d.text,.int .i64 d.kids] 48)):=
 have B':=B.al (.cells #[.int .i64 d.kind,.int .i64 d.op,.int .i64 d.n,.string d.text,.int .i64 d.kids] 48)
 ⟨B'.g,B'.t,⟨IY w d a,Nat.one_pos⟩,B'.n⟩
theorem GB.e[LB]{d kd:Nat}{kind:Int}(B:GB gb rb vb n W0 L q k w)(a:EAt gb rb vb n d kd)(h:q+kd<=700000000/\k+d<=900):Calls prog 147 #[.pointer (some ⟨gb,0,none⟩),.int .i64 kind,.int .i64 (d:Int)] w (GN gb rb vb n W0 L (q+kd) kd k):=B.nd (a _ _ _ _ B.g h.1 h.2)
theorem GB.i[LB]{d kd:Nat}{s:XC}{kind a:Int}(B:GB gb rb vb n W0 L q k w)(c:EAt gb rb vb n d kd)(h:q+kd<=700000000/\k+1+d<=900):Calls prog 210 #[.pointer (some ⟨gb,0,none⟩),.string s,.int .i64 kind,.int .i64 a,.int .i64 (d:Int)] w (GN gb rb vb n W0 L (q+kd) kd k):=B.nd (Cz gb rb vb n d kd c _ _ _ _ _ _ B.g h.1 h.2)
theorem GB.f[LB](B:GB gb rb vb n W0 L q k w)(h:q<=900000000):Calls prog 209 #[.pointer (some ⟨gb,0,none⟩)] w fun e w'=>∃t:XC,e= .returned (.string t)/\w'.cell? ⟨gb,0,none⟩=some (.pointer (some ⟨rb,0,none⟩))/\GB gb rb vb n W0 L (q+1) k w':=B.st (C8 gb rb vb n _ _ _ B.g h)
section
variable {v1 v2 v3:Value} {l1 l2 l3:List Nd}
theorem GB.o1[LB](B:GB gb rb vb n W0 ((v1,l1)::L) q k w)(d:Nd)(h:l1.length<=100000000)(a:Sm d:=by first|exact⟨XC.le _,n0⟩|exact⟨YC rfl,n0⟩|exact⟨by assumption,n0⟩|assumption|exact⟨YC rfl,by decide⟩):Calls prog 80 #[ndV d,.slice (some ⟨w.heap.size,0,none⟩) 1 1] (w.alloc (.cells #[v1] 23)) (GN gb rb vb n W0 L q (l1.length+1) k):=(B.pop.al _).mo (ZY d [_] _ _ _ (pr1 B.n.1.1 B.n.1.2) (by rw[fl1];exact X4 _) h (by simp) a)
theorem GB.o2[LB](B:GB gb rb vb n W0 ((v2,l2)::(v1,l1)::L) q k w)(d:Nd)(h:l1.length+l2.length<=100000000)(a:Sm d:=by first|exact⟨XC.le _,n0⟩|exact⟨YC rfl,n0⟩|exact⟨by assumption,n0⟩|assumption|exact⟨YC rfl,by decide⟩):Calls prog 80 #[ndV d,.slice (some ⟨w.heap.size,0,none⟩) 2 2] (w.alloc (.cells #[v1,v2] 23)) (GN gb rb vb n W0 L q (l1.length+l2.length+1) k):=(B.pop.pop.al _).mo (ZY d [_,_] _ _ _ (pr2 B.n.2.1.1 B.n.1.1 B.n.2.1.2 B.n.1.2) (by rw[fl2];exact X4 _) h (by simp) a)
theorem GB.o3[LB](B:GB gb rb vb n W0 ((v3,l3)::(v2,l2)::(v1,l1)::L) q k w)(d:Nd)(h:l1.length+l2.length+l3.length<=100000000)(a:Sm d:=by first|exact⟨XC.le _,n0⟩|exact⟨YC rfl,n0⟩|exact⟨by assumption,n0⟩|assumption|exact⟨YC rfl,by decide⟩):Calls prog 80 #[ndV d,.slice (some ⟨w.heap.size,0,none⟩) 3 3] (w.alloc (.cells #[v1,v2,v3] 23)) (GN gb rb vb n W0 L q (l1.length+l2.length+l3.length+1) k):=(B.pop.pop.pop.al _).mo (ZY d [_,_,_] _ _ _ (pr3 B.n.2.2.1.1 B.n.2.1.1 B.n.1.1 B.n.2.2.1.2 B.n.2.1.2 B.n.1.2) (by rw[fl3];exact X4 _) h (by simp) a)
theorem GB.n1[LB](B:GB gb rb vb n W0 ((v1,l1)::L) q k w)(s:ByteArray)(h:l1.length<=10000000)(a:s.size<=1000000:=by first|exact XC.le _|exact YC rfl|assumption):Calls prog 244 #[.string s,.slice (some ⟨w.heap.size,0,none⟩) 1 1] (w.alloc (.cells #[v1] 23)) (GN gb rb vb n W0 L q (l1.length+2) k):=(B.pop.al _).mo (WQ s [_] _ _ _ (pr1 B.n.1.1 B.n.1.2) (by rw[fl1];exact X4 _) h (by simp) (by simp) a)
theorem GB.n2[LB](B:GB gb rb vb n W0 ((v2,l2)::(v1,l1)::L) q k w)(s:ByteArray)(h:l1.length+l2.length<=10000000)(a:s.size<=1000000:=by first|exact XC.le _|exact YC rfl|assumption):Calls prog 244 #[.string s,.slice (some ⟨w.heap.size,0,none⟩) 2 2] (w.alloc (.cells #[v1,v2] 23)) (GN gb rb vb n W0 L q (l1.length+l2.length+2) k):=(B.pop.pop.al _).mo (WQ s [_,_] _ _ _ (pr2 B.n.2.1.1 B.n.1.1 B.n.2.1.2 B.n.1.2) (by rw[fl2];exact X4 _) h (by simp) (by simp) a)
theorem GB.n3[LB](B:GB gb rb vb n W0 ((v3,l3)::(v2,l2)::(v1,l1)::L) q k w)(s:ByteArray)(h:l1.length+l2.length+l3.length<=10000000)(a:s.size<=1000000:=by first|exact XC.le _|exact YC rfl|assumption):Calls prog 244 #[.string s,.slice (some ⟨w.heap.size,0,none⟩) 3 3] (w.alloc (.cells #[v1,v2,v3] 23)) (GN gb rb vb n W0 L q (l1.length+l2.length+l3.length+2) k):=(B.pop.pop.pop.al _).mo (WQ s [_,_,_] _ _ _ (pr3 B.n.2.2.1.1 B.n.2.1.1 B.n.1.1 B.n.2.2.1.2 B.n.2.1.2 B.n.1.2) (by rw[fl3];exact X4 _) h (by simp) (by simp) a)
theorem GB.bn[LB](B:GB gb rb vb n W0 ((v2,l2)::(v1,l1)::L) q k w)(op:Int)(h:l1.length+l2.length<=100000000):Calls prog 245 #[.int .i64 op,v1,v2] w (GN gb rb vb n W0 L q (l1.length+l2.length+1) k):=B.pop.pop.mo (X0x op _ _ _ _ _ _ B.n.2.1.1 B.n.1.1 B.n.2.1.2 B.n.1.2 (X4 _) h)
end
