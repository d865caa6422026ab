import Derived.Test.YtkoiikmhfaebnaaGreatDoorB30
import Derived.Test.YtkoiikmhfaebnaaGreatDoorB21
namespace Go.Proofs.YtkoiikmhfaebnaaGreatDoor
structure Tr.Ren (ns us:List Nd) (a:Nat) (nm:ByteArray) (B:List Int):Prop where
 kind:∀k,X8 us k=X8 ns k
 ka:X8 ns a=14\/X8 ns a=16
 ta:Xi us a=nm
 tn:∀k b,k≠a->B[k]?=some b->b≠(a:Int)->Xi us k=Xi ns k
 tb:∀k,B[k]?=some (a:Int)->Xi us k=nm
 new:∀k,k<ns.length->Xi ns k≠nm
 b5:∀k b,B[k]?=some b->X8 ns k≠5->b= -1
 len:B.length=ns.length
def ZT(a:Nat)(nm:ByteArray)(kn:List Kn):List Kn:=kn.map (fun p=>(if p.2=a then nm else p.1,p.2))
theorem Ay(a:Nat)(nm:ByteArray)(c:List Kn)(p:Kn):ZT a nm (c++[p])=ZT a nm c++[(if p.2=a then nm else p.1,p.2)]:=by unfold ZT;rw[ZO];rfl
theorem LK{a:Nat}{nm x:ByteArray}(j:x≠nm):∀(k:List Kn),XE x k≠some a->XE x (ZT a nm k)=XE x k
 | [],_=>rfl
 | p::r,h=>by
  rw[XE]at h;show XE x ((if p.2=a then nm else p.1,p.2)::ZT a nm r)=_;rw[XE,XE];cases d:XE x r with
  | some c=>
   rw[d]at h;rw[LK j r (by rw[d];exact h),d]
  | none=>
   rw[d]at h;rw[LK j r (by rw[d];simp),d];simp only at h⊢;by_cases g:p.2=a
   .rw[X3 g,X2 (fun e=>j e.symm)];by_cases l:p.1=x
    .rw[X3 l,g]at h;exact absurd rfl h
    .rw[X2 l]
   .rw[X2 g]
theorem Au{a:Nat}{nm x:ByteArray}:∀(l:List Kn),(∀p∈l,p.2≠a->p.1≠nm)->(∃p∈l,p.2=a)->XE nm (ZT a nm l)=some a
 | [],_,⟨_,h,_⟩=>by cases h
 | p::r,hk,⟨q,j,hqa⟩=>by
  show XE nm ((if p.2=a then nm else p.1,p.2)::ZT a nm r)=_;rw[XE];have c:∀p∈r,p.2≠a->p.1≠nm:=fun p d=>hk p (by simp[d]);by_cases k:∃q∈r,q.2=a
  .rw[Au (x:=x) r c k]
  .have n:XE nm (ZT a nm r)=none:=by
    have g:∀p∈r,p.2≠a:=fun p d e=>k ⟨p,d,e⟩;clear k j hk hqa;induction r with
    | nil=>rfl
    | cons y t s=>
     show XE nm ((if y.2=a then nm else y.1,y.2)::ZT a nm t)=_;rw[XE,s (fun p d=>c p (by simp[d])) (fun p d=>g p (by simp[d]))];have m:=g y (by simp);simp only[X2 m,X2 (c y (by simp) m)]
   rw[n];rcases Y6.1 j with rfl|j
   .simp[hqa]
   .exact absurd ⟨q,j,hqa⟩ k
def Tr.Ki(b e:Nat)(s:St):Prop:=∀j,b<=j->j<e->s.binds[j]?=some (-1)
def Tr.Kg(B:List Int)(b e:Nat)(s:St):Prop:=∀j,b<=j->j<e->s.binds[j]?=B[j]?
theorem Tr.Ki.XH{b e m:Nat}{s c:St}(h:Tr.Ki b e s)(k:Tr.Xx b m s c)(l:b<=m):Tr.Ki m e c:=fun j d g=>(k j (.inr d)).trans (h j (by omega) g)
theorem Tr.Ki.same{b e:Nat}{s c:St}(h:Tr.Ki b e s)(k:c.binds=s.binds):Tr.Ki b e c:=fun j d g=>by rw[k];exact h j d g
theorem Tr.Ki.mono{b e b' e':Nat}{s:St}(h:Tr.Ki b e s)(c:b<=b')(d:e'<=e):Tr.Ki b' e' s:=fun j g k=>h j (by omega) (by omega)
theorem Tr.Kg.mono{B:List Int}{b e b' e':Nat}{s:St}(h:Tr.Kg B b e s)(c:b<=b')(d:e'<=e):Tr.Kg B b' e' s:=fun j g k=>h j (by omega) (by omega)
theorem Tr.Kg.first{B:List Int}{b m e:Nat}{s c:St}(h:Tr.Kg B b e c)(k:Tr.Xx m e s c)(l:m<=e):Tr.Kg B b m s:=fun j d g=>(k j (.inl g)).symm.trans (h j d (by omega))
section
variable {ns us:List Nd} {a:Nat} {nm:ByteArray} {B:List Int} {ks:List (List Nat)}
theorem Tr.Ren.text(R:Tr.Ren ns us a nm B){k:Nat}(g:k<ns.length)(d:X8 ns k≠5):Xi us k=if k=a then nm else Xi ns k:=by
 by_cases h:k=a
 .rw[X3 h,h];exact R.ta
 .rw[X2 h];obtain⟨b,c⟩:∃b,B[k]?=some b:=⟨_,YH (by rw[R.len];exact g)⟩;have:=R.b5 k b c d;exact R.tn k b h c (by omega)
theorem Tr.Ren.use(R:Tr.Ren ns us a nm B){k:Nat}(y:k<ns.length)(C:X8 ns k=5){d:List Kn}(q:Tr.Ks ns d){s:St}(v:s.binds[k]?=some (-1))(t:(K9 ns k d s).binds[k]?=B[k]?):K9 us k (ZT a nm d) s=K9 ns k d s:=by
 have l:k≠a:=fun e=>by have:=R.ka;rw[←e,C]at this;omega
 have j:k<s.binds.length:=(GQ.1 v).1;cases g:XE (Xi ns k) d with
 | some c=>
  have n:B[k]?=some (c:Int):=by
   rw[←t];unfold K9;rw[g];simp only;exact OX j
  by_cases u:c=a
  .subst u;have E:=As g;have m:XE nm (ZT c nm d)=some c:=Au (x:=nm) d (fun p F _=>by obtain⟨z,A⟩:=q p F;rw[A];exact R.new _ z) ⟨_,E,rfl⟩;unfold K9;rw[g,R.tb k n,m]
  .have r:=R.tn k c l n (by omega);unfold K9;rw[r,LK (R.new k y) d (by rw[g];intro e;exact u (YD e)),g]
 | none=>
  have n:∃b,B[k]?=some b/\b≠(a:Int):=by
   rw[←t];unfold K9;rw[g];simp only;split
   .exact⟨-2,OX j,by omega⟩
   .exact⟨-1,by rw[DN];exact v,by omega⟩
  obtain⟨b,D,hne⟩:=n;have r:=R.tn k b l D hne;unfold K9;rw[r,LK (R.new k y) d (by rw[g];simp),g]
theorem Tr.Ren.fold(G d:Nat->St->St)(m:∀c s b,Tr.Cov ks b (X9 ks c) c->Tr.Xx b (c+1) s (G c s))(n:∀c s b,c<ns.length->Tr.Cov ks b (X9 ks c) c->Tr.Ki b (c+1) s->Tr.Kg B b (c+1) (G c s)->d c s=G c s):∀(l:List Nat) (s:St) (b e:Nat),Tr.Cov ks b l e->e<=ns.length->Tr.Ki b e s->Tr.Kg B b e (l.foldl (fun s y=>G y s) s)->l.foldl (fun s y=>d y s) s=l.foldl (fun s y=>G y s) s
 | [],_,_,_,_,_,_,_=>rfl
 | x::r,s,b,e,h,he,hf,hA=>by
  cases h using Tr.Cov.cas with
  | cons g j=>
   rw[ZI]at hA;rw[ZI,ZI];have t:=g.le;have l2:=j.le;have k:Tr.Kg B b (x+1) (G x s):=hA.first (Tr.Xx.fold G m r _ _ _ j) l2;have q:=n x s b (by omega) g (hf.mono (X4 _) l2) k;rw[q];exact Tr.Ren.fold G d m n r _ _ _ j he (hf.XH (m x s b g) (by omega)) (hA.mono (by omega) (X4 _))
theorem Nq{p:Nat}{c:List Nat}(d:Xi us p=Xi ns p)(g:∀x∈c,Xi us x=Xi ns x)(s:St):Z1 us p c s=Z1 ns p c s:=by
 unfold Z1;induction c generalizing s with
 | nil=>rfl
 | cons x r k=>
  rw[ZI,ZI,d,g x (by simp)];have:=k (fun y j=>g y (by simp[j]));rw[d]at this;exact this _
theorem Tr.Ren.fn(R:Tr.Ren ns us a nm B)(G A:Nat->List Kn->St->St)(E:∀c g s b,Tr.Cov ks b (X9 ks c) c->Tr.Xx b (c+1) s (G c g s))(C:∀c g s b,c<ns.length->Tr.Ks ns g->Tr.Cov ks b (X9 ks c) c->Tr.Ki b (c+1) s->Tr.Kg B b (c+1) (G c g s)->A c (ZT a nm g) s=G c g s):∀(l d:List Nat) (g:List Kn) (k:Bool) (s:St) (b e:Nat),(∀x∈l.dropLast,X8 ns x=19)->(∀x∈d,Xi us x=Xi ns x)->Tr.Ks ns g->Tr.Cov ks b l e->e<=ns.length->Tr.Ki b e s->Tr.Kg B b e (Yd G ns ks l d g k s)->Yd A us ks l d (ZT a nm g) k s=Yd G ns ks l d g k s
 | [],_,_,_,_,_,_,_,_,_,_,_,_,_=>by rw[Yd,Yd]
 | [x],_,g,_,s,b,e,_,_,hkn,h,he,hf,hA=>by
  rw[Yd]at hA;rw[Yd,Yd];cases h using Tr.Cov.cas with
  | cons u v=>
   have l2:=v.le;exact C x g s b (by omega) hkn u (hf.mono (X4 _) l2) (hA.mono (X4 _) l2)
 | p::q::r,d,g,k,s,b,e,h19,hs,hkn,h,he,hf,hA=>by
  rw[Yd]at hA;rw[Yd,Yd];cases h using Tr.Cov.cas with
  | cons u v=>
   have L:=u.le;have l2:=v.le;have F:p<ns.length:=by omega
   have m:X8 ns p=19:=h19 p (by simp[List.dropLast]);have z:p≠a:=fun e=>by have:=R.ka;rw[←e,m]at this;omega
   have n:Xi us p=Xi ns p:=by rw[R.text F (by rw[m];decide),X2 z]
   have y:=hkn.snoc F;have D:=Tr.Xx.par ns G E p d g k s b u;have j:Tr.Kg B b (p+1) (Zv G ns ks p d g k s):=hA.first (Tr.Xx.fn ns G E (q::r) _ _ _ _ _ _ v) l2;have H:Zv A us ks p d (ZT a nm g) k s=Zv G ns ks p d g k s:=by
    unfold Zv at j⊢;rw[Nq n hs s];cases K:X9 ks p with
    | nil=>rfl
    | cons c N=>
     rw[K]at j u;simp only at j⊢;cases u using Tr.Cov.cas with
     | cons I J=>
      have M:=J.le;exact C c g _ b (by omega) hkn I ((hf.same (I2 _ _ _ _)).mono (X4 _) (by omega)) (j.mono (X4 _) (by omega))
   rw[H,show ZT a nm g++[(Xi us p,p)]=ZT a nm (g++[(Xi ns p,p)]) by rw[Ay,n];simp only[X2 z]];refine Tr.Ren.fn R G A E C (q::r) _ _ _ _ _ _ (fun x t=>h19 x (by simp only[SL];simp[t])) (fun x t=>?_) y v he (hf.XH D (by omega)) (hA.mono (by omega) (X4 _));rcases K7.1 t with t|t
   .exact hs x t
   .rw[QZ.1 t];exact n
theorem Tr.Ren.IQ(G m:Nat->List Kn->St->St)(q:∀c d s b,Tr.Cov ks b (X9 ks c) c->Tr.Xx b (c+1) s (G c d s))(u:∀c d s b,c<ns.length->Tr.Ks ns d->Tr.Cov ks b (X9 ks c) c->Tr.Ki b (c+1) s->Tr.Kg B b (c+1) (G c d s)->m c (ZT a nm d) s=G c d s)(d more:List Kn)(t:Tr.Ks ns d)(A:Tr.Ks ns more)(s:St):∀(l:List Nat) (b e:Nat),Tr.Cov ks b l e->e<=ns.length->Tr.Ki b e s->Tr.Kg B b e (KS G d more s l)->KS m (ZT a nm d) (ZT a nm more) s l=KS G d more s l
 | [],_,_,_,_,_,_=>by rw[KS,KS]
 | x::r,b,e,h,he,hf,hA=>by
  rw[KS]at hA;rw[KS,KS];cases h using Tr.Cov.cas with
  | cons g j=>
   have C:=g.le;have l2:=j.le;have n:Tr.Kg B b (x+1) (G x d s):=hA.first (Tr.Xx.fold (fun y s=>G y more s) (fun c s b k=>q c more s b k) r _ _ _ j) l2;have v:=u x d s b (by omega) t g (hf.mono (X4 _) l2) n;rw[v];exact Tr.Ren.fold (ns:=ns) (B:=B) (fun y s=>G y more s) (fun y s=>m y (ZT a nm more) s) (fun c s b k=>q c more s b k) (fun c s b k g j z=>u c more s b k A g j z) r _ _ _ j he (hf.XH (q x d s b g) (by omega)) (hA.mono (by omega) (X4 _))
theorem Tr.Ren.go(R:Tr.Ren ns us a nm B)(n:∀k,X8 ns k=15\/X8 ns k=20->∀x∈(X9 ks k).dropLast,X8 ns x=19):∀(f k b:Nat) (d:List Kn) (s:St),k<ns.length->Tr.Ks ns d->Tr.Cov ks b (X9 ks k) k->Tr.Ki b (k+1) s->Tr.Kg B b (k+1) (Xg ns ks f k d s)->Xg us ks f k (ZT a nm d) s=Xg ns ks f k d s
 | 0,_,_,_,_,_,_,_,_,_=>by rw[Xg,Xg]
 | f+1,k,b,d,s,hkl,hkn,h,hf,hA=>by
  have v:∀c d s b,c<ns.length->Tr.Ks ns d->Tr.Cov ks b (X9 ks c) c->Tr.Ki b (c+1) s->Tr.Kg B b (c+1) (Xg ns ks f c d s)->Xg us ks f c (ZT a nm d) s=Xg ns ks f c d s:=fun c d s b r t u C m=>Tr.Ren.go R n f c b d s r t u C m;have z:∀c d s b,Tr.Cov ks b (X9 ks c) c->Tr.Xx b (c+1) s (Xg ns ks f c d s):=fun c d s b q=>Tr.Xx.go ns f c b d s q;rw[Xg]at hA;rw[Xg,Xg,R.kind k];have A:=h.le;by_cases m:X8 ns k=5
  .rw[X3 m]at hA⊢;rw[X3 m];exact R.use hkl m hkn (hf k A (by omega)) (hA k A (by omega))
  .rw[X2 m]at hA⊢;rw[X2 m];by_cases j:X8 ns k=23
   .rw[X3 j,X3 j]
   .rw[X2 j]at hA⊢;rw[X2 j];by_cases g:X8 ns k=15\/X8 ns k=20
    .rw[X3 g]at hA⊢;rw[X3 g];exact R.fn _ _ z v _ [] d false s b k (n k g) (fun x D=>by cases D) hkn h (by omega) (hf.mono (X4 _) (by omega)) (hA.mono (X4 _) (by omega))
    .rw[X2 g]at hA⊢;rw[X2 g];by_cases l:X8 ns k=14\/X8 ns k=16
     .rw[X3 l]at hA⊢;rw[X3 l];rw[show ZT a nm d++[(Xi us k,k)]=ZT a nm (d++[(Xi ns k,k)]) by rw[Ay,R.text hkl m]];exact Tr.Ren.IQ _ _ z v d _ hkn (hkn.snoc hkl) s _ b k h (by omega) (hf.mono (X4 _) (by omega)) (hA.mono (X4 _) (by omega))
     .rw[X2 l]at hA⊢;rw[X2 l];exact Tr.Ren.fold (ns:=ns) (B:=B) (fun y s=>Xg ns ks f y d s) (fun y s=>Xg us ks f y (ZT a nm d) s) (fun c s b q=>z c d s b q) (fun c s b q r t u=>v c d s b q hkn r t u) _ s b k h (by omega) (hf.mono (X4 _) (by omega)) (hA.mono (X4 _) (by omega))
end
def Tr.Q1(ns:List Nd)(k:Nat):Nd:=ns[k]?.getD ⟨0,0,0,⟨#[]⟩,0⟩
def Tr.bOf(B:List Int)(k:Nat):Int:=B[k]?.getD (-1)
theorem Tr.Ul{ns:List Nd}{k:Nat}(h:k<ns.length):(Tr.Q1 ns k).kind=X8 ns k:=by
 rw[ZC h];unfold Tr.Q1;rw[YH h];rfl
theorem Tr.Df{ns:List Nd}{k:Nat}(h:k<ns.length):(Tr.Q1 ns k).text=Xi ns k:=by
 unfold Tr.Q1 Xi;rw[YH h];rfl
namespace Fd
def take(ns:List Nd)(ks:List (List Nat))(B:List Int):Nat->Nat->Fd
 | 0,k=> .mk (Tr.Q1 ns k) k (Tr.bOf B k) []
 | f+1,k=> .mk (Tr.Q1 ns k) k (Tr.bOf B k) ((X9 ks k).map (take ns ks B f))
theorem take_succ(ns:List Nd)(ks:List (List Nat))(B:List Int)(f k:Nat):take ns ks B (f+1) k= .mk (Tr.Q1 ns k) k (Tr.bOf B k) ((X9 ks k).map (take ns ks B f)):=rfl
theorem VJ(ns:List Nd)(ks:List (List Nat))(B:List Int)(f k:Nat):(take ns ks B f k).x=Tr.Q1 ns k/\(take ns ks B f k).p=k:=by cases f<;>exact⟨rfl,rfl⟩
def eK(kn:List Kn)(s:ByteArray):Int:=match XE s kn with
 | some a=>a
 | none=>if s.data.toList∈Q9 then -2 else -1
def uK(kn:List Kn)(z:Int):Prop:=z<0\/∃q∈kn,z=(q.2:Int)
theorem CU(x:ByteArray)(t:ByteArray)(p:Nat):∀a:List Kn,XE x (a++[(t,p)])=if t=x then some p else XE x a
 | []=>by simp[XE]
 | q::r=>by
  rw[OU,XE,CU x t p r,XE];by_cases h:t=x
  .rw[X3 h,X3 h]
  .rw[X2 h,X2 h]
theorem Bt(a:List Kn)(t:ByteArray)(p:Nat):eK (a++[(t,p)])=upd (eK a) t p:=by
 funext s;unfold eK upd;rw[CU];by_cases h:t=s
 .rw[X3 h,X3 h.symm]
 .have c:¬s=t:=fun e=>h e.symm;rw[X2 h,X2 c]
theorem FE(c:List Kn)(t:ByteArray)(p:Nat):uK (c++[(t,p)])=more (uK c) p:=by
 funext z;refine propext ⟨fun h=>?_,fun h=>?_⟩
 .rcases h with h|⟨q,a,h⟩
  .exact .inl (.inl h)
  .rcases K7.1 a with a|a
   .exact .inl (.inr ⟨q,a,h⟩)
   .obtain rfl:q=(t,p):=by simpa using a
    exact .inr h
 .rcases h with(h|⟨q,a,h⟩)|h
  .exact .inl h
  .exact .inr ⟨q,by simp[a],h⟩
  .exact .inr ⟨(t,p),by simp,h⟩
theorem IT{x:ByteArray}{a:Nat}:∀{g:List Kn},XE x g=some a->∃q∈g,q.2=a
 | [],h=>by simp[XE]at h
 | q::r,h=>by
  rw[XE]at h;cases d:XE x r with
  | some c=>
   rw[d]at h;obtain⟨l,j,k⟩:=IT d;exact⟨l,by simp[j],k.trans (by simpa using h)⟩
  | none=>
   rw[d]at h;simp only at h;split at h
   .exact⟨q,by simp,by simpa using h⟩
   .cases h
theorem FD(c:List Kn)(s:ByteArray):uK c (eK c s):=by
 unfold eK;cases h:XE s c with
 | some a=>
  obtain⟨q,d,g⟩:=IT h;exact .inr ⟨q,d,by simp[g]⟩
 | none=>
  simp only;split
  .exact .inl (by omega)
  .exact .inl (by omega)
section
variable {ns:List Nd} {ks:List (List Nat)} {B:List Int}
def P7(ns:List Nd)(ks:List (List Nat))(B:List Int)(f:Nat):Prop:=∀(g k b:Nat) (kn:List Kn) (s:St),k<f->k<g->k<ns.length->X8 ns k<20->(∀q∈kn,q.2<b\/k<q.2\/20<=X8 ns q.2\/X8 ns q.2=5)->Tr.Cov ks b (X9 ks k) k->Tr.Ki b (k+1) s->Tr.Kg B b (k+1) (Xg ns ks f k kn s)->Ok (eK kn) (uK kn) (take ns ks B g k)
theorem MJ{f:Nat}(v:P7 ns ks B f)(g:Nat)(a:List Kn):∀(l:List Nat) (s:St) (b e:Nat),Tr.Cov ks b l e->(∀x∈l,x<f/\x<g/\x<ns.length/\X8 ns x<20)->(∀q∈a,q.2<b\/e<=q.2\/20<=X8 ns q.2\/X8 ns q.2=5)->Tr.Ki b e s->Tr.Kg B b e (l.foldl (fun s y=>Xg ns ks f y a s) s)->∀x∈l,Ok (eK a) (uK a) (take ns ks B g x)
 | [],_,_,_,_,_,_,_,_,x,j=>by cases j
 | y::r,s,b,e,n,hl,hq,hf,hA,x,j=>by
  cases n using Tr.Cov.cas with
  | cons k m=>
   rw[ZI]at hA;obtain⟨C,D,E,F⟩:=hl y (by simp);have d:=m.le;have H:=k.le;have t:Tr.Xx b (y+1) s (Xg ns ks f y a s):=Tr.Xx.go ns f y b a s k;have u:Tr.Xx (y+1) e (Xg ns ks f y a s) (r.foldl (fun s y=>Xg ns ks f y a s) (Xg ns ks f y a s)):=Tr.Xx.fold (fun y s=>Xg ns ks f y a s) (fun c s b n=>Tr.Xx.go ns f c b a s n) r _ _ _ m;rcases Y6.1 j with rfl|j
   .exact v g x b a s C D E F (fun q h=>by have:=hq q h;omega) k (hf.mono (X4 _) d) (hA.first u d)
   .exact MJ v g a r _ _ _ m (fun z A=>hl z (by simp[A])) (fun q h=>by have:=hq q h;omega) (hf.XH t (by omega)) (hA.mono (by omega) (X4 _)) x j
theorem RH{f:Nat}(J:P7 ns ks B f)(g:Nat)(H:∀k,k<ns.length->X8 ns k<20->∀x∈X9 ks k,x<k/\X8 ns x<20)(y:∀k,X8 ns k=19->(X9 ks k).length<=1): ∀(l a:List Nat) (d:List Kn) (C:Bool) (s:St) (b e:Nat),Tr.Cov ks b l e->(∀x∈l,x<f/\x<g/\x<ns.length/\X8 ns x<20)->(∀x∈l.dropLast,X8 ns x=19)->(∀q∈d,q.2<b\/e<=q.2\/20<=X8 ns q.2\/X8 ns q.2=5)->Tr.Ki b e s->Tr.Kg B b e (Yd (Xg ns ks f) ns ks l a d C s)->Ok.okP (eK d) (uK d) (l.map (take ns ks B g))
 | [],_,_,_,_,_,_,_,_,_,_,_,_=>Gg _ _
 | [x],_,d,_,s,b,e,j,hl,_,hq,hf,hA=>by
  cases j using Tr.Cov.cas with
  | cons D F=>
   have u:=F.le;obtain⟨Q,S,E,P⟩:=hl x (by simp);rw[Yd]at hA;exact(JW _ _ _ _).2 ⟨J g x b d s Q S E P (fun q h=>by have:=hq q h;omega) D (hf.mono (X4 _) u) (hA.mono (X4 _) u),fun h=>absurd rfl h,Gg _ _⟩
 | p::q::r,a,d,C,s,b,e,j,hl,hd,hq,hf,hA=>by
  cases j using Tr.Cov.cas with
  | cons D F=>
   have u:=F.le;have hb:=D.le;obtain⟨Q,S,E,P⟩:=hl p (by simp);have A:X8 ns p=19:=hd p (by simp);rw[Yd]at hA;have L:Tr.Xx b (p+1) s (Zv (Xg ns ks f) ns ks p a d C s):=Tr.Xx.par ns _ (fun c d s b j=>Tr.Xx.go ns f c b d s j) p a d C s b D;have M:=Tr.Xx.fn ns _ (fun c d s b j=>Tr.Xx.go ns f c b d s j) (q::r) (a++[p]) (d++[(Xi ns p,p)]) (C||!decide ((X9 ks p).length=0)) (Zv (Xg ns ks f) ns ks p a d C s) (p+1) e F;have n:=hA.first M u;rw[Xu];refine(JW _ _ _ _).2 ⟨?_,fun _=>?_,?_⟩
   .obtain⟨K,rfl⟩:∃K,g=K+1:=⟨g-1,by omega⟩;rw[take_succ,QI,Tr.Ul E,X2 (by omega),X2 (by omega),X2 (by omega)];refine⟨by omega,(J3 _ _ _).2 fun t X=>?_⟩;obtain⟨c,j,rfl⟩:=Zq.1 X;have v:=y p A;obtain⟨c1,c2⟩:=H p E P c j;unfold Zv at n;cases I:X9 ks p with
    | nil=>rw[I]at j;cases j
    | cons c' Y=>
     rw[I]at j v n D;have N:Y=[]:=JC (by rw[Ya]at v;omega);subst N;obtain rfl:c=c':=by simpa using j
     simp only at n;cases D using Tr.Cov.cas with
     | cons W Z=>
      exact J K c b d _ (by omega) (by omega) (by omega) c2 (fun q h=>by have:=hq q h;omega) W ((hf.same (I2 _ _ _ _)).mono (X4 _) (by omega)) (n.mono (X4 _) (by omega))
   .rw[(VJ ns ks B g p).1,(VJ ns ks B g p).2,Tr.Ul E];refine⟨A,?_⟩;rintro(h|⟨z,m,h⟩)
    .omega
    .have V:z.2=p:=by omega
     have:=hq z m;rw[V]at this;omega
   .rw[(VJ ns ks B g p).1,(VJ ns ks B g p).2,Tr.Df E,←Bt,←FE];exact RH J g H y (q::r) _ _ _ _ _ _ F (fun z m=>hl z (by simp[m])) (fun z m=>hd z (by simp[List.dropLast]at m⊢;exact .inr m)) (fun z m=>by
     rcases K7.1 m with m|m
     .have:=hq z m;omega
     .obtain rfl:z=_:=QZ.1 m;exact .inl (XI _)) (hf.XH L (by omega)) (hA.mono (by omega) (X4 _))
theorem Xdy(L:∀k,k<ns.length->X8 ns k<20->∀x∈X9 ks k,x<k/\X8 ns x<20)(P:∀k,X8 ns k=19->(X9 ks k).length<=1)(Q:∀k,X8 ns k=15\/X8 ns k=20->∀x∈(X9 ks k).dropLast,X8 ns x=19)(Y:∀k,k<ns.length->X8 ns k=5->X9 ks k=[]):∀f,P7 ns ks B f:=by
 intro f;induction f with
 | zero=>intro g k b l s h;omega
 | succ f S=>
  intro g k b l s J a6 u K hq n I j;obtain⟨g,rfl⟩:∃g',g=g'+1:=⟨g-1,by omega⟩;have hb:=n.le;rw[take_succ,QI,Tr.Ul u,Tr.Df u];rw[Xg]at j;have M:∀x∈X9 ks k,x<f/\x<g/\x<ns.length/\X8 ns x<20:=fun x hx=>by
   obtain⟨a1,a2⟩:=L k u K x hx;exact⟨by omega,by omega,by omega,a2⟩
  have v:∀q∈l,q.2<b\/k<=q.2\/20<=X8 ns q.2\/X8 ns q.2=5:=fun q h=>by have:=hq q h;omega
  by_cases X:X8 ns k=5
  .rw[X3 X]at j⊢;refine⟨?_,by rw[Y k u X];rfl⟩;have D:=I k hb (by omega);have d:=j k hb (by omega);have C:k<s.binds.length:=by
    rcases J0 k s.binds.length with h|h
    .exact h
    .rw[JD h]at D;cases D
   unfold K9 at d;unfold Tr.bOf eK;cases N:XE (Xi ns k) l with
   | some a=>
    rw[N]at d;simp only[OX C]at d;rw[←d];rfl
   | none=>
    rw[N]at d;simp only at d⊢;by_cases H:(Xi ns k).data.toList∈Q9
    .rw[X3 H]at d⊢;simp only[OX C]at d;rw[←d];rfl
    .rw[X2 H]at d⊢;rw[DN,D]at d;rw[←d];rfl
  .rw[X2 X]at j⊢;rw[X2 (by omega)]at j;by_cases m:X8 ns k=15
   .rw[X3 (.inl m)]at j;rw[X2 (by omega),X3 m];exact RH S g L P _ [] l false s b k n M (Q k (.inl m)) v (I.mono (X4 _) (by omega)) (j.mono (X4 _) (by omega))
   .rw[X2 (by omega)]at j;by_cases E:X8 ns k=14\/X8 ns k=16
    .rw[X3 E]at j⊢;refine⟨?_,?_⟩
     .rintro(h|⟨z,A,h⟩)
      .omega
      .have ez:z.2=k:=by omega
       have:=hq z A;rw[ez]at this;omega
     .rw[←Bt,←FE];cases a3:X9 ks k with
      | nil=>exact RG _ _ _ _
      | cons y r=>
       rw[a3]at j n M;cases n using Tr.Cov.cas with
       | cons V W=>
        rw[KS]at j;have a4:=W.le;have a5:=V.le;obtain⟨y1,y2,y3,y4⟩:=M y (by simp);have J:Tr.Xx b (y+1) s (Xg ns ks f y l s):=Tr.Xx.go ns f y b l s V;have a0:Tr.Xx (y+1) k (Xg ns ks f y l s) (r.foldl (fun s y=>Xg ns ks f y (l++[(Xi ns k,k)]) s) (Xg ns ks f y l s)):=Tr.Xx.fold (fun y s=>Xg ns ks f y (l++[(Xi ns k,k)]) s) (fun c s b n=>Tr.Xx.go ns f c b _ s n) r _ _ _ W;have F:=j.mono (b':=b) (e':=k) (X4 _) (by omega);rw[Xu];refine(Ji _ _ _ _ _ _).2 ⟨S g y b l s y1 y2 y3 y4 (fun q h=>by have:=v q h;omega) V (I.mono (X4 _) (by omega)) (F.first a0 a4),fun t ht=>?_⟩;obtain⟨c,n,rfl⟩:=Zq.1 ht;exact MJ S g _ r _ _ _ W (fun z A=>M z (by simp[A])) (fun z A=>by
         rcases K7.1 A with A|A
         .have:=v z A;omega
         .obtain rfl:z=_:=QZ.1 A;exact .inr (.inl (X4 _))) ((I.mono (b':=b) (e':=k) (X4 _) (by omega)).XH J (by omega)) (F.mono (by omega) (X4 _)) c n
    .rw[X2 E]at j⊢;rw[X2 m];refine⟨K,(J3 _ _ _).2 fun t ht=>?_⟩;obtain⟨c,Z,rfl⟩:=Zq.1 ht;exact MJ S g l _ s b k n M v (I.mono (X4 _) (by omega)) (j.mono (X4 _) (by omega)) c Z
end
end Fd
namespace Fd
def U9(t:Fd):Prop:=∃e U,Ok e U t/\∀s,U (e s)
theorem Li{e:ByteArray->Int}{U:Int->Prop}(a:∀s,U (e s))(t:ByteArray)(z:Int)(s:ByteArray):more U z (upd e t z s):=by
 by_cases h:s=t
 .subst h;rw[Uv];exact .inr rfl
 .rw[JZ e z h];exact .inl (a s)
theorem U9.kids{t:Fd}(h:U9 t):∀k∈t.ks,U9 k:=by
 obtain⟨e,U,c,j⟩:=h;obtain⟨x,p,b,ks⟩:=t;show ∀k∈ks,U9 k;rw[QI]at c;by_cases m:x.kind=5
 .rw[X3 m]at c;rw[c.2];intro k a;cases a
 .rw[X2 m]at c;by_cases d:x.kind=14\/x.kind=16
  .rw[X3 d]at c;cases ks with
   | nil=>intro k a;cases a
   | cons y r=>
    obtain⟨l,n⟩:=(Ji _ _ _ _ _ _).1 c.2;intro k a;rcases Y6.1 a with rfl|a
    .exact⟨e,U,l,j⟩
    .exact⟨_,_,n k a,Li j _ _⟩
  .rw[X2 d]at c;by_cases g:x.kind=15
   .rw[X3 g]at c;clear d g m;induction ks generalizing e U with
    | nil=>intro k a;cases a
    | cons y r s=>
     obtain⟨l,_,q⟩:=(JW _ _ _ _).1 c;intro k a;rcases Y6.1 a with rfl|a
     .exact⟨e,U,l,j⟩
     .exact s _ _ (Li j _ _) q k a
   .rw[X2 g]at c;exact fun k a=>⟨e,U,(J3 _ _ _).1 c.2 k a,j⟩
theorem Xdv{l:List Fd}:∀{e:ByteArray->Int} {U:Int->Prop},Ok.okP e U l->(∀s,U (e s))->∀k∈l,U9 k:=by
 induction l with
 | nil=>intro e U _ _ k a;cases a
 | cons y r m=>
  intro e U j c k a;obtain⟨d,_,g⟩:=(JW _ _ _ _).1 j;rcases Y6.1 a with rfl|a
  .exact⟨e,U,d,c⟩
  .exact m g (Li c _ _) k a
def Stmt(t:Fd):Prop:=20<=t.x.kind/\t.x.kind<=23/\∀k∈t.ks,U9 k
def OI(t:Fd):Prop:=t.x.kind=24/\∀k∈t.ks,Stmt k
section
variable {ns:List Nd} {ks:List (List Nat)} {B:List Int}
theorem size_take:∀{b e:Nat} {l:List Nat},Tr.Cov ks b l e->∀g,(∀x∈l,x<g)->YP (l.map (take ns ks B g))=e-b:=by
 intro b e l h;induction h using Tr.Cov.ind with
 | nil b=>intro g _;rw[Yc,Gs];omega
 | @cons b x e r h1 h2 ih1 ih2=>
  intro g d;have m:=d x (by simp);obtain⟨a,rfl⟩:∃a,g=a+1:=⟨g-1,by omega⟩;have j:=ih1 a (fun y c=>by have:=h1.mem c;omega);have k:=ih2 (a+1) (fun y c=>d y (by simp[c]));have n:=h1.le;have l2:=h2.le;rw[Xu,Qk,take_succ,Zi,j,k];omega
end
end Fd
theorem Tr.Y6n{ns:List Nd}:∀(r:List (Nd × List Nat)) (g:List Nat),Qq ns r g=true->∀p∈r,Xh p.1=true:=by
 intro r;induction r with
 | nil=>intro g _ p c;cases c
 | cons a r j=>
  intro g h p c;obtain⟨d,k⟩:=a;simp only[Qq,XD]at h;rcases Y6.1 c with rfl|c
  .exact h.1.1.2
  .exact j _ h.2 p c
theorem Tr.Y6g{ns:List Nd}(h:YS ns=true)(k:Nat)(a:k<ns.length):Xh (Tr.Q1 ns k)=true/\XA ns (X8 ns k) (X9 (Xc ns) k)=true:=by
 unfold YS at h;simp only[XD]at h;have j:=Vn h.1.2;have c:=Pr ns ns (Xc ns) [] h.2 k a (by omega);have g:k<(ns.zip (Xc ns)).length:=by rw[List.length_zip];omega
 have d:=Tr.Y6n _ _ h.2 _ (XR g);rw[SS]at d;refine⟨by unfold Tr.Q1;rw[YH a];exact d,?_⟩;rw[ZC a,show X9 (Xc ns) k=(Xc ns)[k]'(by omega)from by simp[X9,show k<(Xc ns).length by omega]]
 exact c
theorem Fd.By{x:ByteArray}(h:(x.toList==[])=true):x=⟨#[]⟩:=by
 have h:x.toList=[]:=by simpa using h
 exact Wx (Ww.1 (by simpa[VP]using h))
theorem Fd.Xbp{x:Nd}(h:Xh x=true)(v:x.n<9223372036854775808){ns:List Nd}{ls:List Nat}(a:XA ns x.kind ls=true){ks:List Fd}(s:ks.length=ls.length):Fd.Loc x ks:=by
 have m:(ls.length:Int)=0->ks=[]:=fun e=>JC (by rw[s];omega);unfold Xh at h;split at h
 .cases h
 rename_i r;simp only[OF,XD,not_or,not_and,OE,LX,ne_eq,Decidable.not_not]at r;obtain⟨⟨t,u⟩,A⟩:=r;have z:x.kind=1\/x.kind=2\/x.kind=3\/x.kind=4->ks=[]:=fun e=>m (by
  unfold XA at a;rw[X3 (by omega)]at a;exact QR a)
 refine⟨fun c=>⟨⟨c,?_,?_,v,?_,?_,?_,?_⟩,z (by unfold Fd.isC at c;omega)⟩,fun e=>?_,fun e=>?_,fun e=>?_,fun e=>?_,fun e=>?_,fun e=>?_,fun e=>?_,?_,?_⟩
 .unfold Fd.isC at c;exact A ⟨by omega,by omega⟩
 .unfold Fd.isC at c;by_cases d:x.kind=2
  .rw[X3 d]at h;simp only[OF,JP]at h;omega
  .by_cases j:x.kind=3
   .rw[X2 d,X3 j]at h;exact QR h
   .have:=u ⟨d,j⟩;omega
 .intro d;rw[X3 d]at h;simpa using h
 .exact fun d j=>u ⟨d,j⟩
 .intro q;unfold Fd.isC at c;refine Fd.By ?_;have:XU x.kind=false:=by
   have:x.kind=1\/x.kind=2\/x.kind=3:=by omega
   rcases this with e|e|e<;>rw[e]<;>decide
  have:=t this;simpa using this
 .unfold Fd.isC at c;by_cases q:x.kind=4
  .rw[X2 (by omega),X2 (by omega),X3 (.inl q)]at h;have:=QR h;omega
  .have y:XU x.kind=false:=by
    have:x.kind=1\/x.kind=2\/x.kind=3:=by omega
    rcases this with e|e|e<;>rw[e]<;>decide
   have:=t y;have e:x.text=⟨#[]⟩:=Fd.By (by simpa using this);rw[e];decide
 .refine m ?_;unfold XA at a;rw[X3 (by omega)]at a;exact QR a
 .unfold XA at a;rw[X2 (by omega),X3 (by omega)]at a;have k:=QR a;rw[X2 (by omega),X2 (by omega),X2 (by omega),X3 e]at h;have:=Ua h;exact⟨by omega,by omega,by omega⟩
 .unfold XA at a;rw[X2 (by omega),X2 (by omega),X3 (by omega)]at a;have k:=QR a;rw[X2 (by omega),X2 (by omega),X2 (by omega),X2 (by omega),X3 e]at h;have:=Ua h;exact⟨by omega,by omega,by omega⟩
 .unfold XA at a;rw[X2 (by omega),X2 (by omega),X2 (by omega),X3 e]at a;have k:=QR a;omega
 .unfold XA at a;rw[X2 (by omega),X2 (by omega),X3 (by omega)]at a;have k:=QR a;omega
 .unfold XA at a;rw[X2 (by omega),X2 (by omega),X2 (by omega),X2 (by omega),X2 (by omega),X2 (by omega),X2 (by omega),X2 (by omega),X2 (by omega),X3 (by omega)]at a;simp only[XD]at a;rw[s];cases ls with
  | nil=>simp at a
  | cons _ _=>simp
 .unfold XA at a;rw[X2 (by omega),X2 (by omega),X2 (by omega),X2 (by omega),X3 e]at a;have k:=QR a;omega
 .by_cases g:1<=x.kind
  .exact g
  .unfold XA at a;rw[X2 (by omega),X2 (by omega),X2 (by omega),X2 (by omega),X2 (by omega),X2 (by omega),X2 (by omega),X2 (by omega),X2 (by omega),X2 (by omega),X2 (by omega),X2 (by omega)]at a;cases a
 .by_cases l:x.kind<=24
  .exact l
  .unfold XA at a;rw[X2 (by omega),X2 (by omega),X2 (by omega),X2 (by omega),X2 (by omega),X2 (by omega),X2 (by omega),X2 (by omega),X2 (by omega),X2 (by omega),X2 (by omega),X2 (by omega)]at a;cases a
theorem Fd.FU{ns:List Nd}{ks:List (List Nat)}{B:List Int}(f:Nat)(a:List Kn):∀(l:List Nat) (s:St) (b e:Nat),Tr.Cov ks b l e->Tr.Ki b e s->Tr.Kg B b e (l.foldl (fun s y=>Xg ns ks f y a s) s)->∀y∈l,∃b' t,Tr.Cov ks b' (X9 ks y) y/\Tr.Ki b' (y+1) t/\Tr.Kg B b' (y+1) (Xg ns ks f y a t)
 | [],_,_,_,_,_,_,y,g=>by cases g
 | z::r,s,b,e,m,hf,hA,y,g=>by
  cases m using Tr.Cov.cas with
  | cons j k=>
   rw[ZI]at hA;have d:=k.le;have u:=j.le;have n:Tr.Xx b (z+1) s (Xg ns ks f z a s):=Tr.Xx.go ns f z b a s j;have q:Tr.Xx (z+1) e (Xg ns ks f z a s) (r.foldl (fun s y=>Xg ns ks f y a s) (Xg ns ks f z a s)):=Tr.Xx.fold (fun y s=>Xg ns ks f y a s) (fun c s b m=>Tr.Xx.go ns f c b a s m) r _ _ _ k;rcases Y6.1 g with rfl|g
   .exact⟨b,s,j,hf.mono (X4 _) d,hA.first q d⟩
   .exact Fd.FU f a r _ _ _ k (hf.XH n (by omega)) (hA.mono (by omega) (X4 _)) y g
theorem Tr.E7(ns:List Nd):∀(c:List Nat) (a:List Kn) (s:St),∀q∈(Zu ns c a s).1,q∈a\/q.2∈c
 | [],a,_,q,h=>by rw[Zu]at h;exact .inl h
 | x::r,a,s,q,h=>by
  rw[Zu]at h;rcases Tr.E7 ns r _ _ q h with h|h
  .rcases K7.1 h with h|h
   .exact .inl h
   .rw[QZ.1 h];exact .inr (by simp)
  .exact .inr (by simp[h])
theorem Tr.E6(ns:List Nd):∀(d:List Nat) (a:List Kn) (s:St),(Zu ns d a s).2.binds=s.binds
 | [],_,_=>by rw[Zu]
 | x::r,a,s=>by
  rw[Zu,Tr.E6 ns r];unfold Qo;induction a generalizing s with
  | nil=>rfl
  | cons p r c=>rw[ZI,c];split;exact DN _ _ _;rfl
theorem Fd.PV{ns:List Nd}(hf:Zb ns=true)(a0:∀x∈ns,x.n<9223372036854775808): Fd.OI (Fd.take ns (Xc ns) (Yl ns) ns.length (ns.length-1))/\Fd.Good (Fd.take ns (Xc ns) (Yl ns) ns.length (ns.length-1))/\(Fd.take ns (Xc ns) (Yl ns) ns.length (ns.length-1)).size=ns.length:=by
 have hv:=DO hf;obtain⟨b4,b5,H,_⟩:=JL hv;obtain⟨r,v,a5,b3⟩:=LL hv;obtain⟨u,_⟩:=Az H;have d:=Tr.Y6g hv;obtain⟨m,K⟩:∃m,ns.length=m+1:=⟨ns.length-1,by omega⟩;have hB:Yl ns=(QC ns (Xc ns)).binds:=by unfold Yl;rw[X3 hf]
 have C:∀g k,k<g->k<ns.length->Fd.Good (Fd.take ns (Xc ns) (Yl ns) g k):=by
  intro g;induction g with
  | zero=>intro k h;omega
  | succ g ih=>
   intro k h1 Z;rw[Fd.take_succ,Fd.Jb];obtain⟨a1,a2⟩:=d k Z;refine⟨Fd.Xbp (ls:=X9 (Xc ns) k) a1 ?_ (by rw[Tr.Ul Z];exact a2) (by rw[Z9]),fun t L=>?_⟩
   .unfold Tr.Q1;rw[YH Z];exact a0 _ (XR _)
   .obtain⟨c,F,rfl⟩:=Zq.1 L;exact ih c (by have:=r.lt k c F;omega) (by have:=r.lt k c F;omega)
 refine⟨⟨?_,?_⟩,C _ _ (by omega) (by omega),?_⟩
 .rw[(Fd.VJ _ _ _ _ _).1,Tr.Ul (by omega)];exact v
 .intro t L;rw[K,Fd.take_succ]at L;obtain⟨y,Y,rfl⟩:=Zq.1 L;rw[show m+1-1=m from rfl]at Y;have V:X8 ns m=24:=by have:=v;rw[K]at this;exact this
  have b6:y<m:=r.lt m y Y;have D:y<ns.length:=by omega
  have N:20<=X8 ns y/\X8 ns y<=23:=by
   have:=(d m (by omega)).2;rw[V]at this;simp[XA]at this;have h5:=VX ns _ _ this.1 y Y;simp[Xl]at h5;omega
  have S:∀k,k<ns.length->X8 ns k<20->∀x∈X9 (Xc ns) k,x<k/\X8 ns x<20:=by
   intro k hk b0 x J;have:=Pk (d k hk).2 (by omega) (by omega) x J;exact⟨r.lt k x J,by omega⟩
  have P:∀k,k<ns.length->X8 ns k=5->X9 (Xc ns) k=[]:=by
   intro k hk h5;have:=(d k hk).2;rw[h5]at this;simp[XA]at this;exact this
  have IH:=Fd.Xdy (B:=Yl ns) S r.one r.par P;obtain⟨a,rfl⟩:∃a,m=a+1:=⟨m-1,by omega⟩;refine⟨by rw[(Fd.VJ _ _ _ _ _).1,Tr.Ul D];exact N.1,by rw[(Fd.VJ _ _ _ _ _).1,Tr.Ul D];exact N.2,?_⟩;rw[Fd.take_succ];intro t L;obtain⟨c,F,rfl⟩:=Zq.1 (show t∈(X9 (Xc ns) y).map (Fd.take ns (Xc ns) (Yl ns) a)from L);have b2:=r.lt y c F;by_cases E:X8 ns y=23
  .have Q:X8 ns c=5:=by
    have:=(d y D).2;rw[E]at this;simp[XA]at this;simpa using VX ns _ _ this.1 c F
   obtain⟨m2,rfl⟩:∃m2,a=m2+1:=⟨a-1,by omega⟩;refine⟨fun _=>Tr.bOf (Yl ns) c,fun _=>True,?_,fun _=>trivial⟩;rw[Fd.take_succ,Fd.QI,Tr.Ul (by omega),X3 Q,P c (by omega) Q];exact⟨rfl,rfl⟩
  .obtain⟨A,s0,a7,a6,I⟩:∃A s0,s0.binds=List.replicate ns.length (-1)/\(∀q∈A,20<=X8 ns q.2\/X8 ns q.2=5)/\QC ns (Xc ns)=Xg ns (Xc ns) ns.length (ns.length-1) A s0:=by
    refine⟨_,_,?_,?_,rfl⟩
    .rw[Tr.E6];rfl
    .intro q X;rcases Tr.E7 ns _ _ _ q X with h|h
     .cases h
     .unfold Yn at h;obtain⟨z,hz,l⟩:=GR.1 h;unfold Ja at l;split at l
      .rename_i b7;rw[QZ.1 l];omega
      .split at l
       .rename_i a8;have a9:z<ns.length:=by have:=r.lt _ z hz;omega
        have:=(d z a9).2;rw[a8]at this;simp[XA]at this;exact .inr (by simpa using VX ns _ _ this.1 q.2 l)
       .cases l
   have a3:Tr.Kg (Yl ns) 0 (a+1) ((X9 (Xc ns) (a+1)).foldl (fun s y=>Xg ns (Xc ns) (a+1) y A s) s0):=by
    intro j _ _;rw[hB,I,K,show a+1+1-1=a+1 from rfl,Xg,V];rfl
   have a4:Tr.Ki 0 (a+1) s0:=by
    intro j _ hj;rw[a7,SR,X3 (by omega)]
   rw[K,show a+1+1-1=a+1 from rfl]at u;obtain⟨b',s',w1,w2,W⟩:=Fd.FU (a+1) A _ s0 0 (a+1) u a4 a3 y Y;rw[Xg,X2 (by omega),X2 E]at W;have b1:=w1.le;have hl:∀x∈X9 (Xc ns) y,x<a/\x<a/\x<ns.length/\X8 ns x<20:=fun x J=>by
    have a1:=r.lt y x J;have a2:=Pk (d y D).2 E (by omega) x J;exact⟨by omega,by omega,by omega,by omega⟩
   have X:∀q∈A,q.2<b'\/y<=q.2\/20<=X8 ns q.2\/X8 ns q.2=5:=fun q h=>by have:=a6 q h;omega
   by_cases M:X8 ns y=20
   .rw[X3 (.inr M)]at W;have:=Fd.RH (IH a) a S r.one _ [] A false s' b' y w1 hl (r.par y (.inr M)) X (w2.mono (X4 _) (by omega)) (W.mono (X4 _) (by omega));exact Fd.Xdv this (Fd.FD A) _ (Zq.2 ⟨c,F,rfl⟩)
   .rw[X2 (by omega),X2 (by omega)]at W;have:=Fd.MJ (IH a) a A _ s' b' y w1 hl X (w2.mono (X4 _) (by omega)) (W.mono (X4 _) (by omega)) c F;exact⟨_,_,this,Fd.FD A⟩
 .have:=Fd.size_take (ns:=ns) (B:=Yl ns) u m (fun x J=>by have:=r.lt _ x J;omega);rw[K,Fd.take_succ,Fd.Zi,show m+1-1=m from rfl];rw[K,show m+1-1=m from rfl]at this;rw[this];omega
