import Derived.Test.YtkoiikmhfaebnaaGreatDoorB20
import Derived.Test.YtkoiikmhfaebnaaGreatDoorB10
namespace Go.Proofs.YtkoiikmhfaebnaaGreatDoor
open Go.RowKit
/-! ### faults -/
def Za(s:St):Prop:=∀c∈s.Xj,c=0
theorem I3(k:Nat)(c:Int)(s:St):(Xq k c s).Xj.length=s.Xj.length:=by
 unfold Xq;split<;>simp
theorem LG(k:Nat)(c:Int)(s:St):(Xq k c s).binds=s.binds:=by
 unfold Xq;split<;>rfl
theorem Nt(k:Nat)(c:Int)(s t:St)(h:s.Xj=t.Xj):(Xq k c s).Xj=(Xq k c t).Xj:=by
 unfold Xq;rw[h];split<;>simp[h]
theorem St.ext'{s t:St}(a:s.Xj=t.Xj)(c:s.binds=t.binds):s=t:=by
 cases s;cases t;simp at a c;simp[a,c]
theorem LH{k:Nat}{c:Int}{s:St}(a:c≠0)(h:Za (Xq k c s)):Za s:=by
 unfold Xq at h;split at h
 .by_cases d:k<s.Xj.length
  .exact absurd (h c (List.mem_set d c)) a
  .intro x g;exact h x (by show x∈s.Xj.set k c;rw[List.set_eq_of_length_le (by omega)];exact g)
 .exact h
theorem LI{k:Nat}{c:Int}{s:St}(d:c≠0)(a:k<s.Xj.length):¬Za (Xq k c s):=by
 intro h;unfold Xq at h;split at h
 .exact d (h c (List.mem_set a c))
 .rename_i g;apply g;left;rw[YH a];exact h _ (XR a)
theorem Ah(k:Nat)(c:Int)(s:St)(d:c≠0):Xq k c (Xq k c s)=Xq k c s:=by
 by_cases h:s.Xj[k]?.getD 0=0\/c<s.Xj[k]?.getD 0
 .have e:Xq k c s={s with Xj:=s.Xj.set k c}:=by unfold Xq;rw[X3 h]
  rw[e];by_cases g:k<s.Xj.length
  .unfold Xq;rw[X2];simp[g];exact d
  .have a:s.Xj.set k c=s.Xj:=List.set_eq_of_length_le (by omega);rw[a,e,a]
 .have e:Xq k c s=s:=by unfold Xq;rw[X2 h]
  rw[e,e]
theorem Pg(k p:Nat)(c d:Int)(s:St)(h:k≠p):Xq k c (Xq p d s)=Xq p d (Xq k c s):=by
 have l:∀(v:Int),(s.Xj.set p v)[k]?.getD 0=s.Xj[k]?.getD 0:=fun v=>by rw[OW (Ne.symm h)]
 have m:∀(v:Int),(s.Xj.set k v)[p]?.getD 0=s.Xj[p]?.getD 0:=fun v=>by rw[OW h]
 unfold Xq;by_cases j:s.Xj[k]?.getD 0=0\/c<s.Xj[k]?.getD 0<;>by_cases g:s.Xj[p]?.getD 0=0\/d<s.Xj[p]?.getD 0
 .rw[X3 g,X3 j];simp only[l,m];rw[X3 j,X3 g,List.set_comm _ _ (Ne.symm h)]
 .rw[X2 g,X3 j];simp only[m];rw[X2 g]
 .rw[X3 g,X2 j];simp only[l];rw[X2 j,X3 g]
 .rw[X2 g,X2 j,X2 g]
/-! ### a fault further on commutes with what the specification It -/
def Tr.Cm(G:Nat->List Kn->St->St)(p:Nat)(d:Int)(m:Nat):Prop:=∀y,y<m->∀kn s,G y kn (Xq p d s)=Xq p d (G y kn s)
theorem Tr.Cm.fold{G:Nat->List Kn->St->St}{p:Nat}{d:Int}{m:Nat}(h:Tr.Cm G p d m)(c:List Kn)(ls:List Nat)(a:∀y∈ls,y<m)(s:St): ls.foldl (fun s y=>G y c s) (Xq p d s)=Xq p d (ls.foldl (fun s y=>G y c s) s):=by
 induction ls generalizing s with
 | nil=>rfl
 | cons x r j=>rw[ZI,ZI,h x (a x (by simp)),j (fun y g=>a y (by simp[g]))]
theorem No(ns:List Nd)(q p:Nat)(d:Int)(h:q≠p)(a:List Nat)(s:St):Z1 ns q a (Xq p d s)=Xq p d (Z1 ns q a s):=by
 unfold Z1;induction a generalizing s with
 | nil=>rfl
 | cons x r c=>
  rw[ZI,ZI];split
  .rw[Pg _ _ _ _ _ h,c]
  .exact c s
theorem Tr.Cm.par{G:Nat->List Kn->St->St}{p:Nat}{d:Int}{m:Nat}(h:Tr.Cm G p d m)(u:m<=p)(ns:List Nd)(ks:List (List Nat))(t:∀k,∀x∈X9 ks k,x<k)(q:Nat)(v:q<m)(a:List Nat)(n:List Kn)(l:Bool)(s:St): Zv G ns ks q a n l (Xq p d s)=Xq p d (Zv G ns ks q a n l s):=by
 unfold Zv;have g:=No ns q p d (by omega) a s;cases j:X9 ks q with
 | nil=>
  simp only;split
  .rw[g,Pg _ _ _ _ _ (by omega)]
  .exact g
 | cons c r=>
  simp only;have:=t q c (by rw[j];simp);rw[g,h c (by omega)]
theorem Tr.Cm.fn{G:Nat->List Kn->St->St}{p:Nat}{d:Int}{m:Nat}(h:Tr.Cm G p d m)(l:m<=p)(ns:List Nd)(ks:List (List Nat))(j:∀k,∀x∈X9 ks k,x<k): ∀(ls a:List Nat) (g:List Kn) (c:Bool) (s:St),(∀y∈ls,y<m)->Yd G ns ks ls a g c (Xq p d s)=Xq p d (Yd G ns ks ls a g c s)
 | [],_,_,_,_,_=>rfl
 | [x],_,_,_,_,hl=>h x (hl x (by simp)) _ _
 | q::x::r,a,g,c,s,hl=>by
  rw[Yd,Yd,h.par l ns ks j q (hl q (by simp))];exact Tr.Cm.fn h l ns ks j (x::r) _ _ _ _ (fun y n=>hl y (by simp only[Y6]at n⊢;exact .inr n))
theorem Tr.Cm.go(ns:List Nd)(ks:List (List Nat))(l:∀k,∀x∈X9 ks k,x<k)(p:Nat)(d:Int)(f:Nat):Tr.Cm (Xg ns ks f) p d p:=by
 induction f with
 | zero=>intro y _ m s;rfl
 | succ f g=>
  intro y q m s;rw[Xg,Xg];have c:∀x∈X9 ks y,x<p:=fun x n=>GU (l y x n) q;split
  .unfold K9;cases XE (Xi ns y) m with
   | some a=>exact St.ext' (by simp only[Xq];split<;>rfl) (by simp[LG])
   | none=>
    simp only;split
    .exact St.ext' (by simp only[Xq];split<;>rfl) (by simp[LG])
    .rw[Pg _ _ _ _ _ (by omega)]
  .split
   .rfl
   .split
    .exact g.fn (X4 _) ns ks l _ _ _ _ _ c
    .split
     .unfold KS;cases j:X9 ks y with
      | nil=>rfl
      | cons x r=>
       rw[j]at c;simp only;rw[g x (c x (by simp)),g.fold _ r (fun z t=>c z (by simp[t]))]
     .exact g.fold _ _ c _
/-! ### the two come to one -/
structure Tr.Re (n:Nat) (s t:St):Prop where
 len:s.Xj.length=n
 Xj:s.Xj=t.Xj
 binds:Za s->s.binds=t.binds
structure Tr.Se (ch:List Sp) (kn:List Kn) (s:St):Prop where
 U1:∀x,(Qa x ch).isSome=((XE x kn).isSome||decide (x.data.toList∈Q9))
 exact:Za s->∀x,Qa x ch=match XE x kn with
  | some a=>some (a:Int)
  | none=>if x.data.toList∈Q9 then some (-2)else none
theorem Tr.Se.later{a:List Sp}{d:List Kn}{s g:St}(h:Tr.Se a d s)(j:Za g->Za s):Tr.Se a d g:=⟨h.U1,fun c=>h.exact (j c)⟩
theorem Tr.Re.fault{n:Nat}{s t:St}(h:Tr.Re n s t)(k:Nat){c:Int}(a:c≠0):Tr.Re n (Xq k c s) (Xq k c t):=⟨(I3 _ _ _).trans h.len,Nt _ _ _ _ h.Xj,fun q=>by rw[LG,LG];exact h.binds (LH a q)⟩
theorem Pp(x t:ByteArray)(k:Nat)(a:List Kn):XE x (a++[(t,k)])=if t=x then some k else XE x a:=Ar x a (t,k)
theorem A9(x t:ByteArray)(v:Int)(c:Sp)(a:List Sp):Qa x (((t,v)::c)::a)=if t=x then some v else Qa x (c::a):=by
 rw[VY,VY,ZU];split<;>rfl
theorem Tr.Se.push{g:Sp}{a:List Sp}{d:List Kn}{s:St}(h:Tr.Se (g::a) d s)(t:ByteArray)(k:Nat):Tr.Se (((t,(k:Int))::g)::a) (d++[(t,k)]) s:=by
 constructor
 .intro x;rw[A9,Pp];by_cases e:t=x
  .rw[X3 e,X3 e];rfl
  .rw[X2 e,X2 e];exact h.U1 x
 .intro c x;rw[A9,Pp];by_cases e:t=x
  .rw[X3 e,X3 e]
  .rw[X2 e,X2 e];exact h.exact c x
theorem Tr.Se.open{a:List Sp}{d:List Kn}{s:St}(h:Tr.Se a d s):Tr.Se ([]::a) d s:=⟨fun x=>by rw[VY];exact h.U1 x,fun c x=>by rw[VY];exact h.exact c x⟩
theorem Ad{n:Nat}{ns:List Nd}{k:Nat}{a:Sp}{g:List Sp}{m:List Kn}{s t:St}(r:k<n)(d:Tr.Re n s t)(j:Tr.Se (a::g) m s): Tr.Re n (ZB ns k (a,s)).2 (if(ZU (Xi ns k) a).isSome=true then Xq k 8 t else t)/\Tr.Se ((ZB ns k (a,s)).1::g) (m++[(Xi ns k,k)]) (ZB ns k (a,s)).2/\(Za (ZB ns k (a,s)).2->Za s)/\∀x,(ZU x (ZB ns k (a,s)).1).isSome=((ZU x a).isSome||decide (Xi ns k=x)):=by
 unfold ZB;simp only;cases l:ZU (Xi ns k) a with
 | none=>
  simp only[Option.isSome_none];refine⟨by simpa using d,j.push _ _,id,fun x=>?_⟩;rw[ZU];by_cases e:Xi ns k=x
  .simp[e]
  .simp[e]
 | some v=>
  simp only[Option.isSome_some,X3];have q:=LI (k:=k) (c:=8) (s:=s) (by decide) (by rw[d.len];exact r);refine⟨d.fault k (by decide),⟨fun x=>?_,fun c=>absurd c q⟩,LH (by decide),fun x=>?_⟩
  .rw[Pp];by_cases e:Xi ns k=x
   .rw[X3 e,VY,←e,l];rfl
   .rw[X2 e];exact j.U1 x
  .by_cases e:Xi ns k=x
   .rw[←e,l];rfl
   .simp[e]
theorem Np(ns:List Nd)(p:Nat)(a:List Nat)(s:St):Z1 ns p a s=if a.any (fun x=>decide (Xi ns x=Xi ns p))=true then Xq p 8 s else s:=by
 unfold Z1;induction a generalizing s with
 | nil=>rfl
 | cons x r c=>
  rw[ZI,List.any_cons];by_cases e:Xi ns x=Xi ns p
  .rw[X3 e,c,YJ e,Bool.true_or,X3 rfl];split
   .exact Ah _ _ _ (by decide)
   .rfl
  .rw[X2 e,c,Yb e,OD]
theorem Nl(ns:List Nd)(p:Nat)(a:List Kn)(s:St):Qo ns p a s=if a.any (fun x=>decide (x.1=Xi ns p))=true then Xq p 8 s else s:=by
 unfold Qo;induction a generalizing s with
 | nil=>rfl
 | cons x r c=>
  rw[ZI,List.any_cons];by_cases e:x.1=Xi ns p
  .rw[X3 e,c,YJ e,Bool.true_or,X3 rfl];split
   .exact Ah _ _ _ (by decide)
   .rfl
  .rw[X2 e,c,Yb e,OD]
structure Tr.okN (ns:List Nd) (k:Nat):Prop where
 lt:k<ns.length
 a:X8 ns k≠23
 b:X8 ns k≠24
structure Tr.Kids (ns:List Nd) (ks:List (List Nat)):Prop where
 lt:∀k,∀x∈X9 ks k,x<k
 ok:∀k,Tr.okN ns k->∀x∈X9 ks k,Tr.okN ns x
 one:∀k,X8 ns k=19->(X9 ks k).length<=1
 par:∀k,X8 ns k=15\/X8 ns k=20->∀x∈(X9 ks k).dropLast,X8 ns x=19
def Tr.Gok(ns:List Nd)(G:Nat->List Sp->St->St)(H:Nat->List Kn->St->St):Prop:=∀k ch kn s t,Tr.okN ns k->Tr.Re ns.length s t->Tr.Se ch kn s->Tr.Re ns.length (G k ch s) (H k kn t)/\(Za (G k ch s)->Za s)
theorem Tr.Gok.fold{ns:List Nd}{G:Nat->List Sp->St->St}{H:Nat->List Kn->St->St}(u:Tr.Gok ns G H)(a:List Sp)(d:List Kn)(ls:List Nat)(l:∀x∈ls,Tr.okN ns x)(s t:St)(j:Tr.Re ns.length s t)(k:Tr.Se a d s): Tr.Re ns.length (ZQ G ls a s) (ls.foldl (fun s y=>H y d s) t)/\(Za (ZQ G ls a s)->Za s):=by
 unfold ZQ;induction ls generalizing s t with
 | nil=>exact⟨j,id⟩
 | cons x r z=>
  rw[ZI,ZI];obtain⟨m,g⟩:=u x a d s t (l x (by simp)) j k;obtain⟨n,q⟩:=z (fun y v=>l y (by simp[v])) _ _ m (k.later g);exact⟨n,fun c=>g (q c)⟩
theorem Tr.Gok.fn{ns:List Nd}{ks:List (List Nat)}{G:Nat->List Sp->St->St}{H:Nat->List Kn->St->St}(D:Tr.Gok ns G H)(B:Tr.Kids ns ks)(K:∀p d,Tr.Cm H p d p)(m:List Sp): ∀(ls a:List Nat) (g:Sp) (l:List Kn) (j:Bool) (s t:St),(∀x∈ls,Tr.okN ns x)->(∀x∈ls.dropLast,X8 ns x=19)->Tr.Re ns.length s t->Tr.Se (g::m) l s->(∀x,(ZU x g).isSome=a.any (fun y=>decide (Xi ns y=x)))->Tr.Re ns.length (Jq G ns ks ls g m j s) (Yd H ns ks ls a l j t)/\(Za (Jq G ns ks ls g m j s)->Za s)
 | [],_,_,_,_,_,_,_,_,hR,_,_=>⟨hR,id⟩
 | [x],_,_,_,_,_,_,hl,_,hR,hS,_=>D x _ _ _ _ (hl x (by simp)) hR hS
 | p::q::r,a,g,l,j,s,t,hl,h19,hR,hS,hsc=>by
  rw[Jq,Yd];have L:=hl p (by simp);have n:=B.one p (h19 p (by simp));have A:=B.ok p L;obtain⟨S,J⟩:=D.fold (g::m) l (X9 ks p) A s t hR hS;obtain⟨C,N,P,Q⟩:=Ad (ns:=ns) (k:=p) L.lt S (hS.later J);rw[hsc (Xi ns p)]at C
  -- the specification's one
  have u:Zv H ns ks p a l j t=if j=true/\(X9 ks p).length=0 then Xq p 10 (if a.any (fun y=>decide (Xi ns y=Xi ns p))=true then Xq p 8 ((X9 ks p).foldl (fun s y=>H y l s) t)else(X9 ks p).foldl (fun s y=>H y l s) t)
    else(if a.any (fun y=>decide (Xi ns y=Xi ns p))=true then Xq p 8 ((X9 ks p).foldl (fun s y=>H y l s) t)else(X9 ks p).foldl (fun s y=>H y l s) t):=by
   unfold Zv;rw[Np];cases z:X9 ks p with
   | nil=>simp only[ZN,and_true,List.foldl_nil]
   | cons c M=>
    rw[z]at n
    obtain rfl:M=[]:=by cases M with
     | nil=>rfl
     | cons _ _=>simp at n
    have E:=B.lt p c (by rw[z];simp);simp only[JE,ZI,List.foldl_nil];rw[X2 (show ¬(j=true/\1=0) by simp)];split
    .exact K p 8 c E l t
    .rfl
  have F:Tr.Re ns.length (JJ G ns ks p g m j s).2 (Zv H ns ks p a l j t):=by
   rw[u];unfold JJ;simp only;split
   .exact C.fault p (by decide)
   .exact C
  have v:Za (JJ G ns ks p g m j s).2->Za (ZB ns p (g,ZQ G (X9 ks p) (g::m) s)).2:=by
   unfold JJ;simp only;split
   .exact LH (by decide)
   .exact id
  obtain⟨V,W⟩:=Tr.Gok.fn D B K m (q::r) (a++[p]) (JJ G ns ks p g m j s).1 (l++[(Xi ns p,p)]) (j||!decide ((X9 ks p).length=0)) _ _
   (fun y I=>hl y (DC _ I)) (fun y I=>h19 y (by rw[List.dropLast_cons_of_ne_nil (by simp)];exact DC _ I)) F (N.later v)
   (fun x=>by rw[show(JJ G ns ks p g m j s).1=(ZB ns p (g,ZQ G (X9 ks p) (g::m) s)).1 from rfl,Q x,hsc x,List.any_append];simp)
  exact⟨V,fun c=>J (P (v (W c)))⟩
theorem NZ{ns:List Nd}{ks:List (List Nat)}(z:Tr.Kids ns ks)(f:Nat):Tr.Gok ns (YX ns ks f) (Xg ns ks f):=by
 induction f with
 | zero=>intro k q F s t _ j _;exact⟨j,id⟩
 | succ f I=>
  intro k q F s t D j A;rw[YX,Xg,X2 D.a,X2 D.b];by_cases H:X8 ns k=5
  .rw[X3 H,X3 H];unfold WI K9;have B:=A.U1 (Xi ns k);have n:=fun c=>A.exact c (Xi ns k);cases M:XE (Xi ns k) F with
   | some a=>
    rw[M]at B n;obtain⟨v,E⟩:=Option.isSome_iff_exists.1 (B.trans rfl);rw[E]at n⊢;exact⟨⟨j.len,j.Xj,fun c=>by
     have J:=j.binds c;have u:=n c;simp only[ZP]at u;simp only[J,u]⟩,id⟩
   | none=>
    rw[M]at B n;simp only at n⊢;by_cases C:(Xi ns k).data.toList∈Q9
    .rw[X3 C];obtain⟨v,E⟩:=Option.isSome_iff_exists.1 (B.trans (by simp[C]));rw[E]at n⊢;exact⟨⟨j.len,j.Xj,fun c=>by
      have J:=j.binds c;have u:=n c;rw[X3 C]at u;simp only[ZP]at u;simp only[J,u]⟩,id⟩
    .rw[X2 C];have E:Qa (Xi ns k) q=none:=by
      cases S:Qa (Xi ns k) q with
      | none=>rfl
      | some v=>rw[S]at B;simp[C]at B
     rw[E];exact⟨j.fault k (by decide),LH (by decide)⟩
  .rw[X2 H,X2 H];by_cases l:X8 ns k=14\/X8 ns k=16
   .have g:¬(X8 ns k=15\/X8 ns k=20):=by omega
    rw[X3 l,X2 g,X3 l];unfold I5 KS;have m:=z.ok k D;cases K:X9 ks k with
    | nil=>exact⟨j,id⟩
    | cons x r=>
     rw[K]at m;simp only;obtain⟨N,L⟩:=I x q F s t (m x (by simp)) j A;obtain⟨P,Q⟩:=I.fold _ _ r (fun y V=>m y (by simp[V])) _ _ N ((A.open.push (Xi ns k) k).later L);exact⟨P,fun c=>L (Q c)⟩
   .rw[X2 l];by_cases g:X8 ns k=15\/X8 ns k=20
    .rw[X3 g,X3 g];exact I.fn z (fun p d=>Tr.Cm.go ns ks z.lt p d f) q _ [] [] F false s t (z.ok k D) (z.par k g) j A.open (fun x=>rfl)
    .rw[X2 g,X2 g,X2 l];exact I.fold q F _ (z.ok k D) s t j A
theorem Ag{ns:List Nd}(g:List Sp):∀(c:List Nat) (a:Sp) (s:St) (d:List Kn) (t:St),(∀x∈c,x<ns.length)->Tr.Re ns.length s t->Tr.Se (a::g) d s->(∀x,(ZU x a).isSome=d.any (fun p=>decide (p.1=x)))->Tr.Re ns.length (ZR ns c (a,s)).2 (Zu ns c d t).2/\Tr.Se ((ZR ns c (a,s)).1::g) (Zu ns c d t).1 (ZR ns c (a,s)).2
 | [],_,_,_,_,_,hR,hS,_=>⟨hR,hS⟩
 | k::r,a,s,d,t,hl,hR,hS,hsc=>by
  obtain⟨j,l,q,m⟩:=Ad (ns:=ns) (k:=k) (hl k (by simp)) hR hS;rw[hsc]at j;rw[show ZR ns (k::r) (a,s)=ZR ns r ((ZB ns k (a,s)).1,(ZB ns k (a,s)).2)from rfl,Zu,Nl];exact Ag g r _ _ _ _ (fun x n=>hl x (by simp[n])) j l (fun x=>by rw[m,hsc,List.any_append];simp)
theorem NK(ns:List Nd)(ks:List (List Nat))(f:Nat)(a:List Kn)(ls:List Nat)(s:St):ls.foldl (fun s y=>Xg ns ks f y a s) s=(ls.filter fun x=>X8 ns x !=23).foldl (fun s y=>Xg ns ks f y a s) s:=by
 induction ls generalizing s with
 | nil=>rfl
 | cons x r c=>
  rw[ZI,List.filter_cons,c];by_cases h:X8 ns x=23
  .have e:Xg ns ks f x a s=s:=by
    cases f with
    | zero=>rfl
    | succ f=>rw[Xg,X2 (by omega),X3 h]
   rw[e,X2 (by simp[h])]
  .rw[X3 (by simpa using h),ZI]
theorem TQ(ls:List (List UInt8))(x:ByteArray):ZU x (ls.map fun l=>(⟨l.toArray⟩,(-2:Int)))=if x.data.toList∈ls then some (-2)else none:=by
 induction ls with
 | nil=>rfl
 | cons l r a=>
  rw[Xu,ZU,a];by_cases e:l=x.data.toList
  .rw[X3 (by rw[e]),X3 (by simp[e])]
  .rw[X2 (fun h=>e (by rw[←h]))];by_cases h:x.data.toList∈r
   .rw[X3 h,X3 (by simp[h])]
   .rw[X2 h,X2 (by simp[h,Ne.symm e])]
theorem A8(x:ByteArray):ZU x Vm=if x.data.toList∈Q9 then some (-2)else none:=by
 unfold Vm;rw[TQ];congr 1;apply propext;unfold Q9;simp only[Y6,ZA,Zy];constructor<;>(intro h;rcases h with h|h|h|h|h|h|h|h|h|h|h|h|h|h|h<;>simp[h])
def I6(ns:List Nd)(ks:List (List Nat)):St:=YX ns ks ns.length (ns.length-1) [Vm] (K8 ns.length)
theorem TR(n:Nat):Za (K8 n):=fun _ h=>(List.mem_replicate.1 h).2
theorem NU{ns:List Nd}{ks:List (List Nat)}(D:Tr.Kids ns ks)(F:1<=ns.length)(g:X8 ns (ns.length-1)=24)(c:∀x∈X9 ks (ns.length-1),X8 ns x≠24)(d:∀k,∀x∈X9 ks k,x<ns.length): Tr.Re ns.length (I6 ns ks) (QC ns ks):=by
 unfold I6 QC;obtain⟨f,A⟩:∃f,ns.length=f+1:=⟨ns.length-1,by omega⟩;generalize H:ns.length-1=m at *;have q:∀z s,Xg ns ks ns.length m z s=(X9 ks m).foldl (fun s y=>Xg ns ks f y z s) s:=by
  intro z s;rw[A,Xg,X2 (by omega),X2 (by omega),X2 (by omega),X2 (by omega)]
 have r:∀l s,YX ns ks ns.length m l s=WH (YX ns ks f) ns ks (X9 ks m) l s:=by
  intro l s;rw[A,YX,X2 (by omega),X2 (by omega),X2 (by omega),X3 g]
 rw[q,r,NK];unfold WH;have t:∀x∈Yn ns ks (X9 ks m),x<ns.length:=by
  intro x u;obtain⟨y,E,a⟩:=GR.1 u;unfold Ja at a;split at a
  .have:x=y:=by simpa using a
   subst this;exact d m x E
  .split at a
   .exact d y x a
   .cases a
 have n:Tr.Se ([]::[Vm]) [] (K8 ns.length):=by
  refine Tr.Se.open ⟨fun x=>?_,fun _ x=>?_⟩
  .rw[VY,A8];by_cases h:x.data.toList∈Q9
   .simp[h,XE]
   .simp[h,XE,Qa]
  .rw[VY,A8];by_cases h:x.data.toList∈Q9
   .simp[h,XE]
   .simp[h,XE,Qa]
 obtain⟨B,C⟩:=Ag (ns:=ns) [Vm] (Yn ns ks (X9 ks m)) [] (K8 ns.length) [] (K8 ns.length) t ⟨by simp[K8],rfl,fun _=>rfl⟩ n (fun x=>rfl);exact((NZ D f).fold _ _ _ (fun x u=>by
  obtain⟨j,v⟩:=P2.1 u;exact⟨d m x j,by simpa using v,c x j⟩) _ _ B C).1
theorem Aj(l:List Int)(i:Nat):(Zl l i).1=0↔∀c∈l,c=0:=by
 induction l generalizing i with
 | nil=>simp[Zl]
 | cons c r a=>
  rw[Zl];by_cases h:c=0
  .rw[X3 h,a];simp[h]
  .rw[X2 h];simp[h]
theorem Ns(ns:List Nd)(ls:List Nat)(h:Y7 ns ls=ls.length):∀x∈ls,Yy ns x=true:=by
 induction ls with
 | nil=>intro x a;cases a
 | cons y r g=>
  have d:=UH ns r;rw[Y7,Ya]at h;cases c:Yy ns y
  .rw[c]at h;simp at h;omega
  .rw[c]at h;simp only[J2]at h;intro x a;rcases Y6.1 a with rfl|a
   .exact c
   .exact g (by omega) x a
theorem VX(ns:List Nd)(p:Int->Bool)(ls:List Nat)(h:XJ ns p ls=true):∀x∈ls,p (X8 ns x)=true:=by
 induction ls with
 | nil=>intro x a;cases a
 | cons y r c=>
  rw[XJ,XD]at h;intro x a;rcases Y6.1 a with rfl|a
  .exact h.1
  .exact c h.2 x a
theorem Nw(ns:List Nd)(ls:List Nat):∀x∈ls,Yy ns x=true\/x∈ls.drop (YI ns ls):=by
 induction ls with
 | nil=>intro x a;cases a
 | cons y r d=>
  intro x a;cases c:Yy ns y
  .have e:YI ns (y::r)=0:=by rw[YI,c];rfl
   rw[e];exact .inr a
  .have e:YI ns (y::r)=YI ns r+1:=by rw[YI,c,X3 rfl,VV]
   rw[e,Ve];rcases Y6.1 a with rfl|a
   .exact .inl c
   .exact d x a
theorem Ph{ns:List Nd}{x:Nat}(h:Yy ns x=true):1<=X8 ns x/\X8 ns x<=16:=by
 simpa[Yy,Xl]using h
theorem Pk{ns:List Nd}{k:Int}{ls:List Nat}(h:XA ns k ls=true)(g:k≠23)(j:k≠24):∀x∈ls,1<=X8 ns x/\X8 ns x<=19:=by
 have c:(Y7 ns ls:Int)=ls.length->∀x∈ls,1<=X8 ns x/\X8 ns x<=19:=fun e x a=>by
  have:=Ph (Ns ns ls (by omega) x a);omega
 have d:∀n:Int,(ls.length:Int)=n/\(Y7 ns ls:Int)=n->∀x∈ls,1<=X8 ns x/\X8 ns x<=19:=fun n e=>c (by omega);unfold XA at h;by_cases c0:k=1\/k=2\/k=3\/k=4\/k=5
 .rw[X3 c0]at h;intro x a;have t:(ls.length:Int)=0:=by simpa using h
  have:ls=[]:=JC (by omega);rw[this]at a;cases a
 rw[X2 c0]at h;by_cases c1:k=6\/k=11\/k=17\/k=18\/k=21\/k=22
 .rw[X3 c1]at h;exact d 1 (by simpa using h)
 rw[X2 c1]at h;by_cases c2:k=7\/k=10\/k=14
 .rw[X3 c2]at h;exact d 2 (by simpa using h)
 rw[X2 c2]at h;by_cases c3:k=13
 .rw[X3 c3]at h;exact d 3 (by simpa using h)
 rw[X2 c3]at h;by_cases c4:k=16
 .rw[X3 c4]at h;rw[Qr]at h;exact c h.2
 rw[X2 c4]at h;by_cases c5:k=19
 .rw[X3 c5]at h;rw[Qr]at h;exact c h.2
 rw[X2 c5]at h;by_cases c6:k=8
 .rw[X3 c6]at h;rw[Qr]at h;exact c h.1
 rw[X2 c6]at h;by_cases c7:k=9
 .rw[X3 c7]at h;simp only[XD]at h;intro x a;have:=VX ns _ ls h.1.1 x a;rw[JP]at this;omega
 rw[X2 c7]at h;by_cases r:k=12
 .rw[X3 r]at h;simp only[XD]at h;intro x a;rcases Nw ns ls x a with l|l
  .have:=Ph l;omega
  .have:=VX ns _ _ h.1.1.1 x l;rw[JP]at this;omega
 rw[X2 r]at h;by_cases s:k=15\/k=20
 .rw[X3 s]at h;simp only[XD]at h;intro x a;have hne:ls≠[]:=by intro e;rw[e]at a;cases a
  rw[←List.dropLast_concat_getLast hne]at a;rcases K7.1 a with a|a
  .have:=VX ns _ _ h.1.1 x a;rw[JP]at this;omega
  .have m:=h.1.2;rw[Hi hne,Vi]at m;have q:x=ls.getLast hne:=by simpa using a
   rw[←q]at m;have:=Ph (ns:=ns) (x:=x) (by simpa using m);omega
 rw[X2 s]at h;rw[X2 g,X2 j]at h;cases h
theorem LL{ns:List Nd}(h:YS ns=true):Tr.Kids ns (Xc ns)/\X8 ns (ns.length-1)=24/\(∀x∈X9 (Xc ns) (ns.length-1),X8 ns x≠24)/\∀k,∀x∈X9 (Xc ns) k,x<ns.length:=by
 obtain⟨C,D,r,_⟩:=JL h;unfold YS at h;simp only[XD]at h;obtain⟨⟨⟨_,t⟩,y⟩,z⟩:=h;have A:=Vn y;have v:=Pr ns ns (Xc ns) [] z;have u:=WJ ns;have n:∀k,∀x∈X9 (Xc ns) k,∃d:k<(Xc ns).length,x∈(Xc ns)[k]:=by
  intro k x c;unfold X9 at c;by_cases d:k<(Xc ns).length
  .rw[YH d]at c;exact⟨d,c⟩
  .rw[JD (by omega)]at c;cases c
 have m:∀k,∀x∈X9 (Xc ns) k,x<k/\k<ns.length:=by
  intro k x c;obtain⟨d,B⟩:=n k x c;exact⟨u k d x B,by omega⟩
 have j:∀k (d:k<ns.length),XA ns (X8 ns k) (X9 (Xc ns) k)=true:=by
  intro k d;have:=v k d (by omega);rw[ZC d,show X9 (Xc ns) k=(Xc ns)[k]'(by omega)from by simp[X9,show k<(Xc ns).length by omega]]
  exact this
 have g:X8 ns (ns.length-1)=24:=by
  have s:=t;unfold WL at s;rw[P0,YH (by omega)]at s;rw[ZC (by omega)];simpa using s
 refine⟨⟨fun k x c=>(m k x c).1,fun k d x c=>?_,fun k d=>?_,fun k d=>?_⟩,g,fun x c=>?_,fun k x c=>by have:=m k x c;omega⟩
 .have:=Pk (j k d.lt) d.a d.b x c;have E:=m k x c;exact⟨by omega,by omega,by omega⟩
 .by_cases l:k<ns.length
  .have:=j k l;rw[d]at this;simp[XA]at this;omega
  .rw[show X9 (Xc ns) k=[]from by unfold X9;rw[JD (by omega)];rfl];simp
 .by_cases l:k<ns.length
  .have:=j k l;intro x c;have q:XJ ns (fun x=>x==19) (X9 (Xc ns) k).dropLast=true:=by
    rcases d with e|e<;>(rw[e]at this;simp[XA]at this;exact this.1.1)
   simpa using VX ns _ _ q x c
  .rw[show X9 (Xc ns) k=[]from by unfold X9;rw[JD (by omega)];rfl];simp
 .have:=j (ns.length-1) (by omega);rw[g]at this;simp[XA]at this;have q:=VX ns _ _ this.1 x c;simp[Xl]at q;omega
theorem NT{ns:List Nd}(h:YS ns=true):Zl (I6 ns (Xc ns)).Xj 0=Yi ns/\(Zb ns=true->(I6 ns (Xc ns)).binds=Yl ns):=by
 obtain⟨n,c,a,g⟩:=LL h;obtain⟨j,_⟩:=JL h;have d:=NU n j c a g;have k:Yi ns=Zl (QC ns (Xc ns)).Xj 0:=by unfold Yi;rw[h];rfl
 refine⟨by rw[d.Xj,k],fun l=>?_⟩;unfold Yl;rw[X3 l];refine d.binds ?_;have m:(Zl (I6 ns (Xc ns)).Xj 0).1=0:=by
  rw[d.Xj,←k];simpa[Zb]using l
 exact(Aj _ _).1 m
theorem Ny{ns:List Nd}:Zb ns=true↔Yi ns=(0,0):=by
 constructor
 .intro h;have a:(Yi ns).1=0:=by simpa[Zb]using h
  have j:∀(l:List Int) (i:Nat),(Zl l i).1=0->Zl l i=(0,0):=by
   intro l;induction l with
   | nil=>intro i _;rfl
   | cons c r k=>
    intro i d;rw[Zl]at d⊢;by_cases e:c=0
    .rw[X3 e]at d⊢;exact k _ d
    .rw[X2 e]at d;exact absurd d e
  unfold Yi at a⊢;split
  .rename_i g;rw[X3 g]at a;exact j _ _ a
  .rename_i g;rw[X2 g]at a;cases a
 .intro h;simp[Zb,h]
end Go.Proofs.YtkoiikmhfaebnaaGreatDoor
namespace Go.Proofs.YtkoiikmhfaebnaaGreatDoor
def Tr.Ks(ns:List Nd)(kn:List Kn):Prop:=∀p∈kn,p.2<ns.length/\p.1=Xi ns p.2
def Pb(ns:List Nd)(i:Nat)(b:Int):Prop:=b= -1\/(X8 ns i=5/\(b= -2\/∃a:Nat,b=a/\a<ns.length/\Xi ns a=Xi ns i))
def Tr.XG(ns:List Nd)(s:St):Prop:=s.binds.length=ns.length/\∀i b,s.binds[i]?=some b->Pb ns i b
theorem Tj{ns:List Nd}{k:Nat}(h:X8 ns k≠0):k<ns.length:=by
 rcases J0 k ns.length with a|a
 .exact a
 .exact absurd (by unfold X8;rw[JD a]) h
theorem Tr.Ks.snoc{ns:List Nd}{c:List Kn}(h:Tr.Ks ns c){k:Nat}(d:k<ns.length):Tr.Ks ns (c++[(Xi ns k,k)]):=fun p g=>by
 rcases List.mem_append.mp g with a|a
 .exact h p a
 .rw[List.mem_singleton.mp a];exact⟨d,rfl⟩
theorem As{x:ByteArray}{d:List Kn}{a:Nat}(h:XE x d=some a):(x,a)∈d:=by
 induction d with
 | nil=>cases h
 | cons p r j=>
  rw[XE]at h;cases c:XE x r with
  | some b=>rw[c]at h;cases h;exact DC _ (j c)
  | none=>
   rw[c]at h;simp only at h;split at h
   .rename_i g;cases h;rw[←g];exact SW
   .cases h
theorem Tr.XG.fault{ns:List Nd}{s:St}(h:Tr.XG ns s)(k:Nat)(c:Int):Tr.XG ns (Xq k c s):=by
 unfold Xq;split
 .exact h
 .exact h
theorem Tr.XG.set{ns:List Nd}{s:St}(h:Tr.XG ns s)(k:Nat)(b:Int)(c:Pb ns k b):Tr.XG ns {s with binds:=s.binds.set k b}:=by
 refine⟨by simpa using h.1,fun i x a=>?_⟩;simp only[List.getElem?_set]at a;split at a
 .rename_i d;subst d;split at a
  .cases a;exact c
  .cases a
 .exact h.2 i x a
theorem Tr.XG.use{ns:List Nd}{s:St}(h:Tr.XG ns s){k:Nat}{c:List Kn}(l:Tr.Ks ns c)(d:X8 ns k=5):Tr.XG ns (K9 ns k c s):=by
 unfold K9;cases m:XE (Xi ns k) c with
 | some a=>
  obtain⟨g,j⟩:=l _ (As m);exact h.set k a (.inr ⟨d,.inr ⟨a,rfl,g,j.symm⟩⟩)
 | none=>
  simp only;split
  .exact h.set k (-2) (.inr ⟨d,.inl rfl⟩)
  .exact h.fault _ _
theorem Tr.XG.fold{α:Type}{ns:List Nd}(f:St->α->St)(a:∀s x,Tr.XG ns s->Tr.XG ns (f s x)):∀(l:List α) (s:St),Tr.XG ns s->Tr.XG ns (l.foldl f s)
 | [],_,h=>h
 | x::r,s,h=>Tr.XG.fold f a r (f s x) (a s x h)
theorem Tr.XG.dup{ns:List Nd}{s:St}(h:Tr.XG ns s)(p:Nat)(a:List Nat):Tr.XG ns (Z1 ns p a s):=
 Tr.XG.fold _ (fun s x c=>by
  show Tr.XG ns (if _ then _ else _);split
  .exact c.fault _ _
  .exact c) a s h
section
variable {ns:List Nd} {ks:List (List Nat)} {G:Nat->List Kn->St->St}
theorem Tr.XG.par(g:∀k c s,Tr.Ks ns c->Tr.XG ns s->Tr.XG ns (G k c s)){s:St}(h:Tr.XG ns s)(p:Nat)(a:List Nat){c:List Kn}(j:Tr.Ks ns c)(d:Bool):Tr.XG ns (Zv G ns ks p a c d s):=by
 unfold Zv;split
 .split
  .exact(h.dup p a).fault _ _
  .exact h.dup p a
 .exact g _ _ _ j (h.dup p a)
theorem Tr.XG.fn(g:∀k c s,Tr.Ks ns c->Tr.XG ns s->Tr.XG ns (G k c s)):∀(l a:List Nat) (c:List Kn) (d:Bool) (s:St),(∀x∈l,x<ns.length)->Tr.Ks ns c->Tr.XG ns s->Tr.XG ns (Yd G ns ks l a c d s)
 | [],_,_,_,_,_,_,h=>by rw[Yd];exact h
 | [x],_,_,_,_,_,hk,h=>by rw[Yd];exact g _ _ _ hk h
 | p::q::r,a,c,d,s,hl,hk,h=>by
  rw[Yd];exact Tr.XG.fn g (q::r) _ _ _ _ (fun x j=>hl x (DC _ j)) (hk.snoc (hl p SW)) (Tr.XG.par g h p a hk d)
theorem Tr.XG.IQ(c:∀k a s,Tr.Ks ns a->Tr.XG ns s->Tr.XG ns (G k a s)){a more:List Kn}(d:Tr.Ks ns a)(g:Tr.Ks ns more){s:St}(h:Tr.XG ns s)(l:List Nat):Tr.XG ns (KS G a more s l):=by
 unfold KS;split
 .exact h
 .exact Tr.XG.fold _ (fun s y j=>c y more s g j) _ _ (c _ _ _ d h)
end
theorem Tr.XG.go{ns:List Nd}{ks:List (List Nat)}(c:∀k,∀x∈X9 ks k,x<ns.length):∀(f k:Nat) (d:List Kn) (s:St),Tr.Ks ns d->Tr.XG ns s->Tr.XG ns (Xg ns ks f k d s)
 | 0,_,_,_,_,h=>by rw[Xg];exact h
 | f+1,k,d,s,hk,h=>by
  rw[Xg];split
  .rename_i j;exact h.use hk j
  .split
   .exact h
   .split
    .exact Tr.XG.fn (fun k d s a b=>Tr.XG.go c f k d s a b) _ _ _ _ _ (c k) hk h
    .split
     .rename_i g;exact Tr.XG.IQ (fun k d s a b=>Tr.XG.go c f k d s a b) hk (hk.snoc (Tj (by rcases g with e|e<;>rw[e]<;>decide))) h _
     .exact Tr.XG.fold _ (fun s y l=>Tr.XG.go c f y d s hk l) _ _ h
theorem Tr.XG.mk{ns:List Nd}:∀(l:List Nat) (a:List Kn) (s:St),(∀x∈l,x<ns.length)->Tr.Ks ns a->Tr.XG ns s->Tr.Ks ns (Zu ns l a s).1/\Tr.XG ns (Zu ns l a s).2
 | [],_,_,_,hk,h=>by rw[Zu];exact⟨hk,h⟩
 | x::r,a,s,hl,hk,h=>by
  rw[Zu];refine Tr.XG.mk r _ _ (fun y d=>hl y (DC _ d)) (hk.snoc (hl x SW)) ?_;exact Tr.XG.fold _ (fun s p c=>by
   show Tr.XG ns (if _ then _ else _);split
   .exact c.fault _ _
   .exact c) a s h
theorem Tr.XG.start(ns:List Nd):Tr.XG ns (K8 ns.length):=by
 refine⟨by simp[K8],fun i b a=>?_⟩;simp only[K8,SR]at a;split at a
 .cases a;exact .inl rfl
 .cases a
theorem Tr.XG.look{ns:List Nd}{ks:List (List Nat)}(a:∀k (h:k<ks.length),∀x∈ks[k],x<ns.length):Tr.XG ns (QC ns ks):=by
 have j:∀k,∀x∈X9 ks k,x<ns.length:=by
  intro k x c;unfold X9 at c;rcases J0 k ks.length with h|h
  .rw[YH h]at c;exact a k h x c
  .rw[JD h]at c;cases c
 unfold QC;obtain⟨d,g⟩:=Tr.XG.mk (Yn ns ks (X9 ks (ns.length-1))) [] _ (Aw ns ks _ a) (fun _ h=>by cases h) (Tr.XG.start ns);exact Tr.XG.go j _ _ _ _ d g
theorem Ak:∀(l:List Int) (i:Nat),(Zl l i).1=0->Zl l i=(0,0)
 | [],_,_=>rfl
 | c::r,i,h=>by
  rw[Zl]at h⊢;split at h
  .rename_i a;rw[X3 a];exact Ak r (i+1) h
  .rename_i a;exact absurd h a
theorem NA(ns:List Nd):Zb ns=true↔Yi ns=(0,0):=by
 unfold Zb;constructor
 .intro h;have a:(Yi ns).1=0:=by simpa using h
  unfold Yi at a⊢;split at a
  .rename_i c;rw[X3 c];exact Ak _ _ a
  .cases a
 .intro h;rw[h];rfl
theorem N8(ns:List Nd):(∀i b,(Yl ns)[i]?=some b->Pb ns i b)/\(Zb ns=true->(Yl ns).length=ns.length/\0<ns.length)/\(Zb ns=false->Yl ns=[]):=by
 unfold Yl;cases d:Zb ns
 .exact⟨fun i b h=>by simp at h,(fun h=>by cases h),fun _=>rfl⟩
 .have m:=DO d;have a:=m;unfold YS at a;simp only[XD]at a;have g:=Ua a.1.1.1;have l:=Vn a.1.2;have c:=Tr.XG.look (ns:=ns) (ks:=Xc ns) (fun k j x n=>by have:=WJ ns k j x n;omega);refine⟨fun i b h=>c.2 i b (by simpa using h),fun _=>⟨by simpa using c.1,by omega⟩,(fun h=>by cases h)⟩
def Tr.Cov (ks:List (List Nat)) (b:Nat) (l:List Nat) (e:Nat):Prop:=∀m:Nat→List Nat→Nat→Prop,(∀b,m b [] b)→(∀b x e r,m b (X9 ks x) x→m (x+1) r e→m b (x :: r) e)→m b l e
section
variable {ks:List (List Nat)} {b x e:Nat} {l r:List Nat}
theorem Tr.Cov.nil (b:Nat):Tr.Cov ks b [] b:=fun _ h _=>h b
theorem Tr.Cov.cons (h:Tr.Cov ks b (X9 ks x) x) (k:Tr.Cov ks (x+1) r e):Tr.Cov ks b (x :: r) e:=fun m n c=>c _ _ _ _ (h m n c) (k m n c)
theorem Tr.Cov.ind {m:∀b l e,Tr.Cov ks b l e→Prop} (nil:∀b,m b [] b (.nil b)) (cons:∀{b x e r} (h:Tr.Cov ks b (X9 ks x) x) (k:Tr.Cov ks (x+1) r e),m _ _ _ h→m _ _ _ k→m b (x :: r) e (.cons h k)) {b:Nat} {l:List Nat} {e:Nat} (h:Tr.Cov ks b l e):m b l e h:=(h (fun b l e=>∃h,m b l e h) (fun b=>⟨_,nil b⟩) (fun _ _ _ _ ⟨h,i⟩ ⟨k,j⟩=>⟨_,cons h k i j⟩)).2
theorem Tr.Cov.inv (h:Tr.Cov ks b l e):(l=[]→b=e)∧∀x r,l=x :: r→Tr.Cov ks b (X9 ks x) x∧Tr.Cov ks (x+1) r e:=by
 induction h using Tr.Cov.ind with
 | nil b=>exact ⟨fun _=>rfl,fun x r h=>(by cases h)⟩
 | cons h k _ _=>exact ⟨fun h=>(by cases h),fun x r e=>(by cases e;exact ⟨h,k⟩)⟩
theorem Tr.Cov.cas {m:Tr.Cov ks b (x :: r) e→Prop} (cons:∀(h:Tr.Cov ks b (X9 ks x) x) (k:Tr.Cov ks (x+1) r e),m (.cons h k)) (h:Tr.Cov ks b (x :: r) e):m h:=cons (h.inv.2 x r rfl).1 (h.inv.2 x r rfl).2
theorem Tr.Cov.nl (h:Tr.Cov ks b [] e):b=e:=h.inv.1 rfl
end
theorem Tr.Cov.le{ks:List (List Nat)}{b e:Nat}{l:List Nat}(h:Tr.Cov ks b l e):b<=e:=by
 induction h using Tr.Cov.ind with
 | nil b=>exact X4 _
 | cons _ _ a c=>omega
theorem Tr.Cov.mem{ks:List (List Nat)}{b e y:Nat}{l:List Nat}(h:Tr.Cov ks b l e)(a:y∈l):b<=y/\y<e:=by
 induction h using Tr.Cov.ind with
 | nil b=>cases a
 | cons c d _ g=>
  rcases Y6.1 a with rfl|a
  .have:=c.le;have:=d.le;omega
  .have:=c.le;have:=g a;omega
theorem Tr.Cov.append{ks:List (List Nat)}{b m e:Nat}{c l2:List Nat}(h:Tr.Cov ks b c m)(a:Tr.Cov ks m l2 e):Tr.Cov ks b (c++l2) e:=by
 induction h using Tr.Cov.ind with
 | nil b=>exact a
 | cons d _ _ g=>exact .cons d (g a)
theorem Tr.Cov.split{ks:List (List Nat)}:∀(a:List Nat) {l2:List Nat} {b e:Nat},Tr.Cov ks b (a++l2) e->∃m,Tr.Cov ks b a m/\Tr.Cov ks m l2 e
 | [],_,b,_,h=>⟨b,.nil b,h⟩
 | x::r,_,_,_,h=>by
  cases h using Tr.Cov.cas with
  | cons g j=>
   obtain⟨m,c,d⟩:=Tr.Cov.split r j;exact⟨m,.cons g c,d⟩
theorem Ap(ks:List (List Nat)):∀(ns:List Nd) (i:Nat) (op a:List Nat),ks.drop i=(Xv ns i op).1->Tr.Cov ks 0 op i->(Xv ns i op).2=some a->Tr.Cov ks 0 a (i+ns.length)
 | [],i,op,a,_,hc,he=>by
  rw[Xv]at he;cases he;exact hc
 | x::r,i,op,a,hd,hc,he=>by
  rw[Xv]at hd he;split at he
  .cases he
  .rename_i k;rw[X2 k]at hd;simp only at hd he;generalize op.length-x.kids.toNat=m at *;have c:ks[i]?=some (op.drop m):=by
    have:=Zd (fun l=>l[0]?) hd;simpa using this
   have d:ks.drop (i+1)=(Xv r (i+1) (op.take m++[i])).1:=by
    have:=Zd List.tail hd;simpa[List.tail_drop]using this
   have g:X9 ks i=op.drop m:=by unfold X9;rw[c];rfl
   obtain⟨j,c1,c2⟩:=Tr.Cov.split (op.take m) (l2:=op.drop m) (by rw[Vh];exact hc);have c3:Tr.Cov ks 0 (op.take m++[i]) (i+1):=c1.append (.cons (by rw[g];exact c2) (.nil _));have:=Ap ks r (i+1) _ a d c3 he;rw[Ya,show i+(r.length+1)=i+1+r.length from by omega]
   exact this
theorem Az{ns:List Nd}(h:Kk ns=true):Tr.Cov (Xc ns) 0 (X9 (Xc ns) (ns.length-1)) (ns.length-1)/\0<ns.length:=by
 unfold Kk at h;split at h
 .cases h
 .rename_i op j;have g:op.length=1:=by simpa using h
  have a:=Ap (Xc ns) ns 0 [] op rfl (.nil 0) j;rw[Xn]at a;generalize ns.length=n at a⊢
  match op,g with
  | [r],_=>
   cases a using Tr.Cov.cas with
   | cons c d=>
    cases d.nl;exact⟨by rw[Lx];exact c,by omega⟩
theorem DN(k:Nat)(c:Int)(s:St):(Xq k c s).binds=s.binds:=by unfold Xq;split<;>rfl
theorem I2(ns:List Nd)(p:Nat)(a:List Nat)(s:St):(Z1 ns p a s).binds=s.binds:=by
 unfold Z1;induction a generalizing s with
 | nil=>rfl
 | cons x r c=>rw[ZI,c];split;exact DN _ _ _;rfl
def Tr.Xx(b e:Nat)(s s':St):Prop:=∀j,j<b\/e<=j->s'.binds[j]?=s.binds[j]?
theorem Tr.Xx.refl(b e:Nat)(s:St):Tr.Xx b e s s:=fun _ _=>rfl
theorem Tr.Xx.of{b e:Nat}{s a:St}(h:a.binds=s.binds):Tr.Xx b e s a:=fun _ _=>by rw[h]
theorem Tr.Xx.trans{b e:Nat}{s c d:St}(h:Tr.Xx b e s c)(g:Tr.Xx b e c d):Tr.Xx b e s d:=fun j a=>(g j a).trans (h j a)
theorem Tr.Xx.mono{b e b' e':Nat}{s a:St}(h:Tr.Xx b e s a)(c:b'<=b)(d:e<=e'):Tr.Xx b' e' s a:=fun j g=>h j (by omega)
section
variable {ks:List (List Nat)}
theorem Tr.Xx.fold(G:Nat->St->St)(g:∀c s b,Tr.Cov ks b (X9 ks c) c->Tr.Xx b (c+1) s (G c s)):∀(l:List Nat) (s:St) (b e:Nat),Tr.Cov ks b l e->Tr.Xx b e s (l.foldl (fun s y=>G y s) s)
 | [],s,b,e,_=> .refl b e s
 | x::r,s,b,e,h=>by
  cases h using Tr.Cov.cas with
  | cons a d=>
   rw[ZI];exact((g x s b a).mono (X4 _) d.le).trans ((Tr.Xx.fold G g r _ _ _ d).mono (by have:=a.le;omega) (X4 _))
theorem Tr.Xx.par(ns:List Nd)(G:Nat->List Kn->St->St)(l:∀c d s b,Tr.Cov ks b (X9 ks c) c->Tr.Xx b (c+1) s (G c d s))(p:Nat)(a:List Nat)(d:List Kn)(g:Bool)(s:St)(b:Nat)(h:Tr.Cov ks b (X9 ks p) p):Tr.Xx b (p+1) s (Zv G ns ks p a d g s):=by
 unfold Zv;split
 .split
  .exact .of (by rw[DN,I2])
  .exact .of (I2 _ _ _ _)
 .rename_i c q m;rw[m]at h;cases h using Tr.Cov.cas with
  | cons j k=>
   have n:=(l c d (Z1 ns p a s) b j).mono (X4 _) (show c+1<=p+1 by have:=k.le;omega);exact(Tr.Xx.of (I2 _ _ _ _)).trans n
theorem Tr.Xx.fn(ns:List Nd)(G:Nat->List Kn->St->St)(m:∀c d s b,Tr.Cov ks b (X9 ks c) c->Tr.Xx b (c+1) s (G c d s)):∀(l a:List Nat) (d:List Kn) (k:Bool) (s:St) (b e:Nat),Tr.Cov ks b l e->Tr.Xx b e s (Yd G ns ks l a d k s)
 | [],_,_,_,s,b,e,_=>by rw[Yd];exact .refl b e s
 | [x],_,d,_,s,b,e,h=>by
  rw[Yd];cases h using Tr.Cov.cas with
  | cons g j=>exact(m x d s b g).mono (X4 _) j.le
 | p::q::r,a,d,k,s,b,e,h=>by
  rw[Yd];cases h using Tr.Cov.cas with
  | cons g j=>exact((Tr.Xx.par ns G m p a d k s b g).mono (X4 _) j.le).trans ((Tr.Xx.fn ns G m (q::r) _ _ _ _ _ _ j).mono (by have:=g.le;omega) (X4 _))
theorem Tr.Xx.IQ(G:Nat->List Kn->St->St)(j:∀c a s b,Tr.Cov ks b (X9 ks c) c->Tr.Xx b (c+1) s (G c a s))(a more:List Kn)(s:St):∀(l:List Nat) (b e:Nat),Tr.Cov ks b l e->Tr.Xx b e s (KS G a more s l)
 | [],b,e,_=>by rw[KS];exact .refl b e s
 | x::r,b,e,h=>by
  rw[KS];cases h using Tr.Cov.cas with
  | cons d g=>exact((j x a s b d).mono (X4 _) g.le).trans ((Tr.Xx.fold (fun y s=>G y more s) (fun c s b k=>j c more s b k) r _ _ _ g).mono (by have:=d.le;omega) (X4 _))
theorem Tr.Xx.use(ns:List Nd)(k:Nat)(c:List Kn)(s:St)(b:Nat)(d:b<=k):Tr.Xx b (k+1) s (K9 ns k c s):=by
 unfold K9;split
 .intro j a;simp only;rw[OW (by omega)]
 .split
  .intro j a;simp only;rw[OW (by omega)]
  .exact .of (DN _ _ _)
theorem Tr.Xx.go(ns:List Nd):∀(f k b:Nat) (a:List Kn) (s:St),Tr.Cov ks b (X9 ks k) k->Tr.Xx b (k+1) s (Xg ns ks f k a s)
 | 0,k,b,a,s,_=>by rw[Xg];exact .refl _ _ _
 | f+1,k,b,a,s,h=>by
  have d:∀c a s b,Tr.Cov ks b (X9 ks c) c->Tr.Xx b (c+1) s (Xg ns ks f c a s):=fun c a s b g=>Tr.Xx.go ns f c b a s g;rw[Xg];split
  .exact Tr.Xx.use ns k a s b h.le
  .split
   .exact .refl _ _ _
   .split
    .exact(Tr.Xx.fn ns _ d _ _ _ _ _ b k h).mono (X4 _) (by omega)
    .split
     .exact(Tr.Xx.IQ _ d _ _ _ _ b k h).mono (X4 _) (by omega)
     .exact(Tr.Xx.fold (fun y s=>Xg ns ks f y a s) (fun c s b g=>d c a s b g) _ _ b k h).mono (X4 _) (by omega)
end
