import Derived.Test.YtaeafhenpjnhiaaGreatDoorE14
import Derived.Test.YtaeafhenpjnhiaaGreatDoorE12
namespace Go.Proofs.YtaeafhenpjnhiaaGreatDoor
namespace Sc
theorem PY(p:UInt8->Bool):∀(l:List UInt8) (m:Nat),(l.takeWhile p).length<=m->(l.take m).takeWhile p=l.takeWhile p
 | [],m,_=>by simp
 | b::r,0,h=>by
  cases a:p b
  .simp[a]
  .simp[a]at h
 | b::r,m+1,h=>by
  rw[Jc];cases a:p b
  .simp[a]
  .simp only[V2,a,Kv,XI]at h⊢;rw[PY p r m (by omega)]
theorem M4(b:UInt8)(r:List UInt8):unq (b::r)=if b.toNat=34 then some ([],1)else if b.toNat=92 then(match r with
   | h::lo::r'=>if XZ h<0\/XZ lo<0 then none else(unq r').map fun p=>(UInt8.ofNat (16*XZ h+XZ lo).toNat::p.1,p.2+3)
   | _=>none)
  else if b.toNat<32\/126<b.toNat then none
  else(unq r).map fun p=>(b::p.1,p.2+1):=by
 rw[unq.eq_def]
 match r with
 | []=>rfl
 | [_]=>rfl
 | _::_::_=>rfl
theorem R7:∀(l t:List UInt8) (n m:Nat),unq l=some (t,n)->n<=m->unq (l.take m)=some (t,n)
 | [],t,n,m,h,_=>by simp[unq]at h
 | [b],t,n,m,h,hm=>by
  have B:=Wi [b] t n h;obtain⟨k,rfl⟩:∃k,m=k+1:=⟨m-1,by omega⟩;simpa using h
 | b::c::r,t,n,m,h,hm=>by
  have B:=Wi (b::c::r) t n h;obtain⟨k,rfl⟩:∃k,m=k+1:=⟨m-1,by omega⟩;rw[Jc];rw[M4]at h⊢;by_cases y:b.toNat=34
  .rw[Xa y]at h⊢;exact h
  .rw[X6 y]at h⊢;by_cases A:b.toNat=92
   .rw[Xa A]at h⊢;cases r with
    | nil=>simp at h
    | cons lo u=>
     simp only at h;by_cases a:XZ c<0\/XZ lo<0
     .rw[Xa a]at h;cases h
     .rw[X6 a]at h;simp only[Option.map_eq_some_iff]at h;obtain⟨⟨v,s⟩,j,d⟩:=h;simp only[Prod.mk.injEq]at d;obtain⟨rfl,rfl⟩:=d;have C:=Wi u v s j;obtain⟨g,rfl⟩:∃g,k=g+2:=⟨k-2,by omega⟩;rw[show(c::lo::u).take (g+2)=c::lo::u.take g from by simp]
      simp only;rw[X6 a,R7 u v s g j (by omega)];rfl
   .rw[X6 A]at h⊢;by_cases a:b.toNat<32\/126<b.toNat
    .rw[Xa a]at h;cases h
    .rw[X6 a]at h⊢;simp only[Option.map_eq_some_iff]at h;obtain⟨⟨v,s⟩,j,d⟩:=h;simp only[Prod.mk.injEq]at d;obtain⟨rfl,rfl⟩:=d;have E:=R7 (c::r) v s k j (by omega);rw[E];rfl
theorem Xey{m l:List UInt8}{k:Nat}(h:m.length<=k):m.isPrefixOf (l.take k)=m.isPrefixOf l:=by
 rw[YH,V0,V0];constructor
 .exact fun a=>a.trans (List.take_prefix _ _)
 .intro a;exact List.prefix_take_iff.2 ⟨a,h⟩
theorem Ah(l:List UInt8)(k:Nat):∀(g:List (List UInt8)) (m:List UInt8),g.find? (fun x=>x.isPrefixOf l)=some m->m.length<=k->g.find? (fun x=>x.isPrefixOf (l.take k))=some m
 | [],m,h,_=>by simp at h
 | x::r,m,h,hk=>by
  rw[List.find?_cons]at h⊢;cases a:x.isPrefixOf l
  .rw[a]at h;have:x.isPrefixOf (l.take k)=false:=by
    cases d:x.isPrefixOf (l.take k)
    .rfl
    .rw[V0]at d;have:=(V0.2 (d.trans (List.take_prefix _ _)));rw[a]at this;cases this
   rw[this];exact Ah l k r m h hk
  .rw[a]at h;cases h;rw[Xey hk,a]
theorem Xch(l:List UInt8)(m:Nat)(a:(one l).code=0)(hm:(one l).size<=m):one (l.take m)=one l:=by
 have B:=Vj l a;cases l with
 | nil=>simp
 | cons b r=>
  obtain⟨k,rfl⟩:∃k,m=k+1:=⟨m-1,by omega⟩;have g:(b::r).take (k+1)=b::r.take k:=Jc;unfold one at a hm⊢;rw[g];simp only at a hm⊢;by_cases j:dig b=true
  .rw[Xa j]at a hm⊢;rw[Xa j,←g];unfold ZV at a hm⊢;by_cases u:((b::r).takeWhile nm).all dig=true/\YR ((b::r).takeWhile nm)<=9223372036854775807/\¬((b::r).head?=some 48/\1<((b::r).takeWhile nm).length)
   .rw[Xa u]at hm;rw[PY nm (b::r) (k+1) hm,g,Xa u];rw[Xa (by simpa using u)]
   .rw[X6 u]at a;simp[bad]at a
  .rw[X6 j]at a hm⊢;rw[X6 j];by_cases n:beg b=true
   .rw[Xa n]at a hm⊢;rw[Xa n,←g];have y:((b::r).takeWhile nm).length<=k+1:=by
     unfold Kx at a hm;split at hm
     .exact hm
     .split at hm
      .rename_i d s;rw[X6 d,Xa s]at a;simp[bad]at a
      .exact hm
    unfold Kx;rw[PY nm (b::r) (k+1) y]
   .rw[X6 n]at a hm⊢;rw[X6 n];by_cases d:b.toNat=34
    .rw[Xa d]at a hm⊢;rw[Xa d];unfold KZ at a hm⊢;simp only[List.tail_cons]at a hm⊢;cases A:unq r with
     | none=>rw[A]at a;simp[bad]at a
     | some p=>
      rw[A]at a hm;simp only at a hm;by_cases s:1000<p.1.length
      .rw[Xa s]at a;simp[bad]at a
      .rw[X6 s]at hm;rw[R7 r p.1 p.2 k A (by simp only at hm;omega)]
    .rw[X6 d]at a hm⊢;rw[X6 d,←g];unfold ZM at a hm⊢;cases v:marks.find? (fun x=>x.isPrefixOf (b::r))with
     | none=>rw[v]at a;simp[bad]at a
     | some x=>
      rw[v]at hm;rw[Ah (b::r) (k+1) marks x v hm]
theorem G7:∀(b:Bool) (l:List UInt8) (m:Nat),m<=Xl b l->Xl b (l.take m)=m
 | _,[],m,h=>by simp[Xl]at h;subst h;simp[Xl]
 | b,c::r,0,_=>by cases b<;>simp[Xl]
 | false,c::r,m+1,h=>by
  rw[Jc];rw[Xl]at h⊢;by_cases a:c.toNat=35
  .rw[Xa a]at h⊢;rw[G7 true r m (by omega)];omega
  .rw[X6 a]at h⊢;by_cases d:c.toNat=32\/c.toNat=10
   .rw[Xa d]at h⊢;rw[G7 false r m (by omega)];omega
   .rw[X6 d]at h;omega
 | true,c::r,m+1,h=>by
  rw[Jc];rw[Xl]at h⊢;by_cases a:c.toNat=10
  .rw[Xa a]at h⊢;rw[G7 false r m (by omega)];omega
  .rw[X6 a]at h⊢;rw[G7 true r m (by omega)];omega
theorem X1u{l:List UInt8}{m:Nat}(h:Xl false l=0):Xl false (l.take m)=0:=by
 cases l with
 | nil=>simp[Xl]
 | cons c r=>
  cases m with
  | zero=>simp[Xl]
  | succ m=>
   rw[Jc];rw[Xl]at h⊢;by_cases a:c.toNat=35
   .rw[Xa a]at h;omega
   .rw[X6 a]at h⊢;by_cases d:c.toNat=32\/c.toNat=10
    .rw[Xa d]at h;omega
    .rw[X6 d]
theorem alone(x:List UInt8)(j:Xl false x=0)(d:(one x).code=0)(f:Nat)(u:2<=f)(h:Nat)(r:h<=Xl false (x.drop (one x).size)): scan f 0 (x.take ((one x).size+h))=([⟨(one x).kind,(one x).text,(one x).n,0⟩],0,0):=by
 obtain⟨g,rfl⟩:∃g,f=g+2:=⟨f-2,by omega⟩;have v:=Vj x d;have a:Xl false (x.take ((one x).size+h))=0:=X1u j;have s:=Xch x ((one x).size+h) d (by omega);rw[scan,a,Kh];have hne:x.take ((one x).size+h)≠[]:=by
  intro e;have:=Yt List.length e;rw[YO,Ya]at this;omega
 rw[X6 hne,s,X6 (by omega)];have k:(x.take ((one x).size+h)).drop (one x).size=(x.drop (one x).size).take h:=by
  rw[List.drop_take];congr 1;omega
 have m:scan (g+1) (0+0+(one x).size) ((x.drop (one x).size).take h)=([],0,0):=by
  rw[scan,G7 false _ h r,Xa];rw[List.drop_take,Nat.sub_self,List.take_zero]
 rw[k,m]
end Sc
namespace Rb
variable {ts:List Sc.T} {sz:Nat}
def cs:List (List Sc.T)->List Sc.T
 | []=>[]
 | a::r=>tm [44]::(a++cs r)
def cm:List (List Sc.T)->List Sc.T
 | []=>[]
 | a::r=>a++cs r
theorem SN{c:Sc.T}{r:List Sc.T}(a:fin 1 (c::r)=true):∀L:List (List Sc.T),fin 1 (cs L++c::r)=true
 | []=>a
 | _::_=>rfl
theorem TG{c:Sc.T}{r:List Sc.T}{t:List UInt8}(a:isT (c::r) t=false)(d:t≠[44]):∀L:List (List Sc.T),isT (cs L++c::r) t=false
 | []=>a
 | _::_=>by
  show(((5:Nat)==2||(5:Nat)==5)&&(([44]:List UInt8)==t))=false;simp[Ne.symm d]
abbrev It:=List Sc.T × List Nd
def os(L:List It):List Nd:=L.flatMap (·.2)
theorem Bo:∀(L:List It),(∀i∈L,LE ts sz i.1 i.2)->∀n p out r,rem ts p=cs (L.map (·.1))++tm [93]::r->Pr.Cv ts sz (.Zl n) (D p out) (D (p+(cs (L.map (·.1))).length) (out++os L),n+L.length)
 | [],_,n,p,out,r,hr=>by
  refine Cv.to (Pr.Cv.Gh (s:=D p out) (by rw[Xt,hr];rfl)) (YB rfl (by simp[os]) rfl) rfl
 | i::L,h,n,p,out,r,hr=>by
  have r1:rem ts (p+1)=i.1++(cs (L.map (·.1))++tm [93]::r):=by rw[Y9 hr];simp
  have d:=h i (by simp) (p+1) out _ r1 (SN rfl _);have g:=Bo L (fun j a=>h j (by simp[a])) (n+1) _ (out++i.2) r (YL r1);refine Cv.to (Pr.Cv.Gi (s:=D p out) (by rw[Xt,hr];rfl) d g) ?_ rfl;exact YB (by simp[cs];omega) (by simp[os]) (by simp;omega)
theorem X8f(L:List It)(h:∀i∈L,LE ts sz i.1 i.2/\Hd 0 i.1):Rd ts sz .list (fun _=>True) (cm (L.map (·.1))++[tm [93]]) (os L++[nd 8 0 0 [] L.length]) 0:=fun p out r g _=>by
 cases L with
 | nil=>exact Cv.to (Pr.Cv.list_nil (s:=D p out) (by rw[Xt,g];rfl)) (YB rfl (by simp[os,nd]) rfl) rfl
 | cons i L=>
  obtain⟨hi,a⟩:=h i (by simp)
  have r1:rem ts p=i.1++(cs (L.map (·.1))++tm [93]::r):=by rw[g];simp[cm]
  have r2:=YL r1
  have m:=Bo L (fun j k=>(h j (by simp[k])).1) 1 _ (out++i.2) r r2
  refine Cv.to (Pr.Cv.VZ (s:=D p out) (by rw[Xt,r1,QI a.ne];exact a.cb.1) (by rw[Xt,r2];exact TG rfl (by decide) _) (hi p out _ r1 (SN rfl _)) m) ?_ rfl
  refine(Yt (fun d=>(X9 d 8 0 0 [] (1+L.length),0)) (ZU (sz:=sz) (YL r2) (t:=[93]) rfl (out++i.2++os L))).trans ?_
  exact YB (by simp[cm];omega) (by simp[os,nd];omega) rfl
theorem X8d{t:List UInt8}{a b:List Sc.T}{d g:List Nd}(B:LE ts sz a d)(n:Hd 0 a)(C:LE ts sz b g):Rd ts sz .list (fun _=>True) (a++tw Zr::tn t::tw Y1::(b++[tm [93]])) (g++d++[nd 16 0 0 t 2]) 0:=fun p out r E _=>by
 have r1:rem ts p=a++tw Zr::tn t::tw Y1::(b++tm [93]::r):=by rw[E];simp
 have r2:=YL r1
 have j:=Y9 r2
 have u:=Y9 j
 have v:=Y9 u
 have y:=YL v
 have F:=B p out _ r1 rfl;have k:({X2 (D (p+a.length) (out++d))with o:=(D (p+a.length) (out++d)).o.take (D p out).o.length}:Pr.Dk)=D (p+a.length+1) out:=by
  show D _ ((out++d).take out.length)=_;rw[List.take_left];rfl
 have A:Xd ts sz (Xm ts sz {X2 (D (p+a.length) (out++d))with o:=(D (p+a.length) (out++d)).o.take (D p out).o.length}) Y1=D (p+a.length+1+1+1) out:=by
  rw[k,(KX j out).1,ZU u rfl]
 have H:=Cv.to (C _ out _ v rfl) rfl A;have m:({D (p+a.length+1+1+1+b.length) (out++g)with o:=(D (p+a.length+1+1+1+b.length) (out++g)).o++(D (p+a.length) (out++d)).o.drop (D p out).o.length}:Pr.Dk)=D (p+a.length+1+1+1+b.length) (out++g++d):=by
  show D _ ((out++g)++(out++d).drop out.length)=_;rw[List.drop_left];rfl
 refine Cv.to (Pr.Cv.VY (s:=D p out) (by rw[Xt,r1,QI n.ne];exact n.cb.1) (by rw[Xt,r2];rfl) (by rw[m,Xt,y];rfl) F H) ?_ rfl;rw[m,k,(KX j out).2,ZU y rfl];exact YB (by simp;omega) (by simp[nd]) rfl
theorem X8e{t:List UInt8}{a b c:List Sc.T}{d g u:List Nd}(E:LE ts sz a d)(n:Hd 0 a)(F:LE ts sz b g)(H:LE ts sz c u):Rd ts sz .list (fun _=>True) (a++tw Zr::tn t::tw Y1::(b++tw XR::(c++[tm [93]]))) (g++d++u++[nd 16 0 0 t 3]) 0:=fun p out r I _=>by
 have r1:rem ts p=a++tw Zr::tn t::tw Y1::(b++tw XR::(c++tm [93]::r)):=by rw[I];simp
 have r2:=YL r1
 have j:=Y9 r2
 have v:=Y9 j
 have y:=Y9 v
 have A:=YL y
 have B:=Y9 A
 have J:=E p out _ r1 rfl;have k:({X2 (D (p+a.length) (out++d))with o:=(D (p+a.length) (out++d)).o.take (D p out).o.length}:Pr.Dk)=D (p+a.length+1) out:=by
  show D _ ((out++d).take out.length)=_;rw[List.take_left];rfl
 have C:Xd ts sz (Xm ts sz {X2 (D (p+a.length) (out++d))with o:=(D (p+a.length) (out++d)).o.take (D p out).o.length}) Y1=D (p+a.length+1+1+1) out:=by
  rw[k,(KX j out).1,ZU v rfl]
 have K:=Cv.to (F _ out _ y rfl) rfl C;have m:({D (p+a.length+1+1+1+b.length) (out++g)with o:=(D (p+a.length+1+1+1+b.length) (out++g)).o++(D (p+a.length) (out++d)).o.drop (D p out).o.length}:Pr.Dk)=D (p+a.length+1+1+1+b.length) (out++g++d):=by
  show D _ ((out++g)++(out++d).drop out.length)=_;rw[List.drop_left];rfl
 have L:=Cv.to (H _ (out++g++d) _ B rfl) rfl (show X2 {D (p+a.length+1+1+1+b.length) (out++g)with o:=(D (p+a.length+1+1+1+b.length) (out++g)).o++(D (p+a.length) (out++d)).o.drop (D p out).o.length}=_ by rw[m];rfl);refine Cv.to (Pr.Cv.WV (s:=D p out) (by rw[Xt,r1,QI n.ne];exact n.cb.1) (by rw[Xt,r2];rfl) (by rw[m,Xt,A];rfl) J K L) ?_ rfl;rw[k,(KX j out).2,ZU (YL B) rfl];exact YB (by simp;omega) (by simp[nd]) rfl
def Step(C C':Nat->Zb)(cnt:Nat->Nat)(i:It):Prop:=∀n p out q r,rem ts p=i.1++tm q::r->
 (q=[44]->∀res,Pr.Cv ts sz (C' (n+1)) (D (p+i.1.length+1) (out++i.2)) res->Pr.Cv ts sz (C n) (D p out) res)/\
 (q=[41]\/q=[125]\/q=[59]->Pr.Cv ts sz (C n) (D p out) (D (p+i.1.length) (out++i.2),cnt (n+1)))
theorem Gj{C:Nat->Zb}{cnt:Nat->Nat}{q:List UInt8}{r:List Sc.T}(a:q=[41]\/q=[125]\/q=[59]):∀(L:List It) (i:It),(∀j∈i::L,Step (ts:=ts) (sz:=sz) C C cnt j)->∀n p out,rem ts p=cm ((i::L).map (·.1))++tm q::r->Pr.Cv ts sz (C n) (D p out) (D (p+(cm ((i::L).map (·.1))).length) (out++os (i::L)),cnt (n+(L.length+1)))
 | [],i,h,n,p,out,hr=>by
  have r1:rem ts p=i.1++tm q::r:=by rw[hr];simp[cm,cs]
  exact Cv.to ((h i (by simp) n p out _ _ r1).2 a) (YB (by simp[cm,cs]) (by simp[os]) rfl) rfl
 | j::L,i,h,n,p,out,hr=>by
  have r1:rem ts p=i.1++(tm [44]::(cm ((j::L).map (·.1))++tm q::r)):=by rw[hr];simp[cm,cs]
  have k:=Gj a L j (fun x d=>h x (by simp[Kr.1 d])) (n+1) (p+i.1.length+1) (out++i.2) (Y9 (YL r1));exact Cv.to ((h i (by simp) n p out _ _ r1).1 rfl _ k) (YB (by simp[cm,cs];omega) (by simp[os]) (by congr 1;simp;omega)) rfl
end Rb
namespace Rb
variable {ts:List Sc.T} {sz:Nat}
theorem G1{q:List UInt8}(a:q=[44]\/q=[41]\/q=[125]\/q=[59])(r:List Sc.T):fin 1 (tm q::r)=true/\isT (tm q::r) [61]=false:=by
 rcases a with rfl|rfl|rfl|rfl<;>exact⟨rfl,rfl⟩
theorem D6{q:List UInt8}(a:q=[41]\/q=[125]\/q=[59])(r:List Sc.T):isT (tm q::r) [44]=false:=by
 rcases a with rfl|rfl|rfl<;>rfl
theorem DJ{b c:Bool}(h:c=false):(b&&c)=false:=by rw[h,Bool.and_false]
theorem Xdc(t:List UInt8):Step (ts:=ts) (sz:=sz) .Yn .Yn id ([tn t],[nd 19 0 0 t 0]):=fun n p out q r g=>by
 have r1:=Y9 g
 have e:=(KX (sz:=sz) g out).1
 have a:=(KX (sz:=sz) g out).2
 have j:(n==0&&X4 ts sz (D p out) [41])=false:=DJ (by rw[Xt,g];rfl)
 refine⟨fun d u k=>?_,fun d=>?_⟩
 .subst d
  refine Pr.Cv.GC rfl j (by rw[e,Xt,r1];rfl) (by rw[e,a];exact(Xt (p+1) (out++[nd 19 0 0 t 0]) _).trans (by rw[r1];rfl)) ?_
  rw[e,a]
  exact k
 .have m:=G1 (Or.inr d) r
  have k:=Pr.Cv.GD (ts:=ts) (sz:=sz) (s:=D p out) (n:=n) rfl j (by rw[e,Xt,r1];exact m.2) (by rw[e,a];exact(Xt (p+1) (out++[nd 19 0 0 t 0]) _).trans (by rw[r1];exact D6 d r))
  rw[e,a]at k
  exact k
theorem Xdd{t:List UInt8}{l:List Sc.T}{o:List Nd}(h:LE ts sz l o):Step (ts:=ts) (sz:=sz) .Yn .Yn id (tn t::tm [61]::l,o++[nd 19 0 0 t 1]):=fun n p out q r g=>by
 have r1:=Y9 g
 have r2:rem ts (p+1+1)=l++tm q::r:=Y9 r1
 have y:=YL r2
 have e:=(KX (sz:=sz) g out).1
 have a:=(KX (sz:=sz) g out).2
 have m:(n==0&&X4 ts sz (D p out) [41])=false:=DJ (by rw[Xt,g];rfl)
 have u:X4 ts sz (Xm ts sz (D p out)) [61]=true:=by rw[e,Xt,r1];rfl
 have v:X2 (Xm ts sz (D p out))=D (p+1+1) out:=by rw[e];rfl
 refine⟨fun d A k=>?_,fun d=>?_⟩
 .subst d
  have j:=Cv.to (h _ out _ r2 rfl) rfl v
  refine Pr.Cv.GF rfl m u (by rw[a];exact(Xt (p+1+1+l.length) (out++o++[nd 19 0 0 t 1]) _).trans (by rw[y];rfl)) j ?_
  rw[a]
  exact Cv.to k rfl (Vt (by simp;omega) (by simp))
 .have j:=Cv.to (h _ out _ r2 (G1 (Or.inr d) r).1) rfl v
  have k:=Pr.Cv.GG (ts:=ts) (sz:=sz) (s:=D p out) (n:=n) rfl m u (by rw[a];exact(Xt (p+1+1+l.length) (out++o++[nd 19 0 0 t 1]) _).trans (by rw[y];exact D6 d r)) j
  rw[a]at k
  exact Cv.to k (YB (by simp;omega) (by simp[nd]) rfl) rfl
theorem Xfk(L:List It)(h:∀i∈L,Step (ts:=ts) (sz:=sz) .Yn .Yn id i):Rd ts sz .params (fun _=>True) (tm [40]::(cm (L.map (·.1))++[tm [41]])) (os L) L.length:=fun p out r a _=>by
 have r1:rem ts (p+1)=cm (L.map (·.1))++tm [41]::r:=by rw[Y9 a];simp
 have k:Pr.Cv ts sz (.Yn 0) (Xd ts sz (D p out) [40]) (D (p+1+(cm (L.map (·.1))).length) (out++os L),L.length):=by
  rw[ZU a rfl];cases L with
  | nil=>exact Cv.to (Pr.Cv.LF (s:=D (p+1) out) rfl (by rw[Xt,r1];rfl)) (YB rfl (by simp[os]) rfl) rfl
  | cons i L=>exact Cv.to (Gj (.inl rfl) L i h 0 (p+1) out r1) (YB rfl rfl (by simp)) rfl
 refine Cv.to (Pr.Cv.params (s:=D p out) k) ?_ rfl;refine(Yt (fun d=>(d,L.length)) (ZU (sz:=sz) (YL r1) (t:=[41]) rfl (out++os L))).trans ?_;exact YB (by simp;omega) rfl rfl
theorem Cx{x:Sc.T}(v:(x.kind==1||x.kind==4)=true){l:List Sc.T}{o:List Nd}(h:LE ts sz l o):Step (ts:=ts) (sz:=sz) .recordL .recordL (2 * ·) (x::tm [58]::l,o++[nd 17 0 0 x.text 1]):=fun n p out q r g=>by
 have r1:=Y9 g
 have r2:rem ts (p+1+1)=l++tm q::r:=Y9 r1
 have A:=YL r2
 obtain⟨B,a,_⟩:=JB (sz:=sz) g out;have m:(n==0&&X4 ts sz (D p out) [125])=false:=DJ (by
  rw[Xt,g];show((x.kind==2||x.kind==5)&&x.text==[125])=false;rcases UX _ _ ▸ v with e|e<;>rw[eq_of_beq e]<;>rfl)
 have u:((X3 ts sz (D p out)).kind==1||(X3 ts sz (D p out)).kind==4)=true:=by rw[B];exact v
 have y:Xd ts sz (X2 (D p out)) [58]=D (p+1+1) out:=ZU (p:=p+1) r1 rfl out;refine⟨fun d C k=>?_,fun d=>?_⟩
 .subst d;have j:=Cv.to (h _ out _ r2 rfl) rfl y;refine Pr.Cv.Vl rfl m u (by rw[a];exact(Xt (p+1+1+l.length) (out++o++[nd 17 0 0 x.text 1]) _).trans (by rw[A];rfl)) j ?_;rw[a];exact Cv.to k rfl (Vt (by simp;omega) (by simp))
 .have j:=Cv.to (h _ out _ r2 (G1 (Or.inr d) r).1) rfl y;have k:=Pr.Cv.Vm (ts:=ts) (sz:=sz) (s:=D p out) (n:=n) rfl m u (by rw[a];exact(Xt (p+1+1+l.length) (out++o++[nd 17 0 0 x.text 1]) _).trans (by rw[A];exact D6 d r)) j;rw[a]at k;exact Cv.to k (YB (by simp;omega) (by simp[nd]) rfl) rfl
theorem X8g(L:List It)(h:∀i∈L,Step (ts:=ts) (sz:=sz) .recordL .recordL (2 * ·) i):Rd ts sz .record (fun _=>True) (cm (L.map (·.1))++[tm [125]]) (os L++[nd 9 0 0 [] L.length]) 0:=fun p out r a _=>by
 have r1:rem ts p=cm (L.map (·.1))++tm [125]::r:=by rw[a];simp
 have k:Pr.Cv ts sz (.recordL 0) (D p out) (D (p+(cm (L.map (·.1))).length) (out++os L),2*L.length):=by
  cases L with
  | nil=>exact Cv.to (Pr.Cv.Pm (s:=D p out) rfl (by rw[Xt,r1];rfl)) (YB rfl (by simp[os]) rfl) rfl
  | cons i L=>exact Cv.to (Gj (.inr (.inl rfl)) L i h 0 p out r1) (YB rfl rfl (by simp)) rfl
 refine Cv.to (Pr.Cv.GM (s:=D p out) (by simp) k) ?_ rfl;refine(Yt (fun d=>(X9 d 9 0 0 [] (2*L.length / 2),0)) (ZU (sz:=sz) (YL r1) (t:=[125]) rfl (out++os L))).trans ?_;exact YB (by simp;omega) (by simp[nd]) rfl
theorem OL(p:Nat)(o:List Nd):Yl ts sz (D p o)=WX (rem ts p):=by
 unfold Yl;cases h:rem ts p with
 | nil=>
  have j:ts[p]?=none:=by
   have d:ts.drop p=[]:=by unfold rem at h;simpa using h
   rw[←List.head?_drop,d];rfl
  have:(X3 ts sz (D p o)).kind=0:=by show(ts[p]?.getD _).kind=0;rw[j];rfl
  rw[this];rfl
 | cons x r=>
  obtain⟨a,_,_⟩:=JB (sz:=sz) h o;have g:=Y9 h;cases r with
  | nil=>
   have d:ts.length<=p+1:=by
    have k:ts.drop (p+1)=[]:=by unfold rem at g;simpa using g
    simpa using k
   have:decide ((D p o).p+1<ts.length)=false:=JP (by show ¬p+1<ts.length;omega);rw[this];simp[WX]
  | cons y r=>
   obtain⟨b,c,_⟩:=JB (sz:=sz) g o;have d:=(GZ (sz:=sz) g o).2;have:decide ((D p o).p+1<ts.length)=true:=DU d;rw[this,a];show(x.kind==1&&true&&(X3 ts sz (D (p+1) o)).kind==5&&(X3 ts sz (D (p+1) o)).text==[61])=_;rw[b,c];simp[WX]
theorem ND{l:List Sc.T}{o:List Nd}(h:LE ts sz l o)(g:Hd 0 l):Step (ts:=ts) (sz:=sz) (.argsL · false) (.argsL · false) id (l,o):=fun n p out q r a=>by
 have j:(n==0&&X4 ts sz (D p out) [41])=false:=DJ (by rw[Xt,a,QI g.ne];exact g.cb.2)
 have r1:=YL a
 refine⟨fun d m k=>?_,fun d=>?_⟩
 .subst d
  exact Pr.Cv.DL rfl j (by rw[OL,a];exact g.nm _ _ rfl) (by rw[Xt,r1];rfl) (h p out _ a rfl) k
 .refine Pr.Cv.DM rfl j (by rw[OL,a];exact g.nm _ _ (by rcases d with rfl|rfl|rfl<;>rfl)) (by rw[Xt,r1];exact D6 d r) (h p out _ a (G1 (Or.inr d) r).1)
theorem NC{t:List UInt8}{l:List Sc.T}{o:List Nd}(h:LE ts sz l o)(b:Bool):Step (ts:=ts) (sz:=sz) (.argsL · b) (.argsL · true) id (tn t::tm [61]::l,o++[nd 18 0 0 t 1]):=fun n p out q r a=>by
 have r1:=Y9 a
 have r2:rem ts (p+1+1)=l++tm q::r:=Y9 r1
 have y:=YL r2
 have e:=(KX (sz:=sz) a out).1
 have d:=(KX (sz:=sz) a out).2
 have m:(n==0&&X4 ts sz (D p out) [41])=false:=DJ (by rw[Xt,a];rfl)
 have u:(b||Yl ts sz (D p out))=true:=by rw[OL,a];show(b||true)=true;simp
 have v:Xd ts sz (Xm ts sz (D p out)) [61]=D (p+1+1) out:=by rw[e,ZU r1 rfl]
 refine⟨fun g A k=>?_,fun g=>?_⟩
 .subst g
  have j:=Cv.to (h _ out _ r2 rfl) rfl v
  refine Pr.Cv.VH rfl m u (by rw[d];exact(Xt (p+1+1+l.length) (out++o++[nd 18 0 0 t 1]) _).trans (by rw[y];rfl)) j ?_
  rw[d]
  exact Cv.to k rfl (Vt (by simp;omega) (by simp))
 .have j:=Cv.to (h _ out _ r2 (G1 (Or.inr g) r).1) rfl v
  have k:=Pr.Cv.VI (ts:=ts) (sz:=sz) (s:=D p out) (n:=n) rfl m u (by rw[d];exact(Xt (p+1+1+l.length) (out++o++[nd 18 0 0 t 1]) _).trans (by rw[y];exact D6 g r)) j
  rw[d]at k
  exact Cv.to k (YB (by simp;omega) (by simp[nd]) rfl) rfl
end Rb
namespace Rb
variable {ts:List Sc.T} {sz:Nat}
theorem NJ{r:List Sc.T}(M:List It)(i:It)(b:Bool)(hi:Step (ts:=ts) (sz:=sz) (.argsL · b) (.argsL · true) id i)(d:∀j∈M,Step (ts:=ts) (sz:=sz) (.argsL · true) (.argsL · true) id j)(n p:Nat)(out:List Nd)(a:rem ts p=cm ((i::M).map (·.1))++tm [41]::r):Pr.Cv ts sz (.argsL n b) (D p out) (D (p+(cm ((i::M).map (·.1))).length) (out++os (i::M)),n+(M.length+1)):=by
 cases M with
 | nil=>
  have r1:rem ts p=i.1++tm [41]::r:=by rw[a];simp[cm,cs]
  exact Cv.to ((hi n p out _ _ r1).2 (.inl rfl)) (YB (by simp[cm,cs]) (by simp[os]) rfl) rfl
 | cons j M=>
  have r1:rem ts p=i.1++(tm [44]::(cm ((j::M).map (·.1))++tm [41]::r)):=by rw[a];simp[cm,cs]
  have k:=Gj (.inl rfl) M j d (n+1) (p+i.1.length+1) (out++i.2) (Y9 (YL r1));exact Cv.to ((hi n p out _ _ r1).1 rfl _ k) (YB (by simp[cm,cs];omega) (by simp[os]) (by simp;omega)) rfl
theorem args_at{r:List Sc.T}(M:List It)(a:∀j∈M,∀b,Step (ts:=ts) (sz:=sz) (.argsL · b) (.argsL · true) id j):∀(L:List It),(∀j∈L,Step (ts:=ts) (sz:=sz) (.argsL · false) (.argsL · false) id j)->L++M≠[]->∀n p out,rem ts p=cm ((L++M).map (·.1))++tm [41]::r->Pr.Cv ts sz (.argsL n false) (D p out) (D (p+(cm ((L++M).map (·.1))).length) (out++os (L++M)),n+(L++M).length)
 | [],_,hne,n,p,out,hr=>by
  cases M with
  | nil=>exact absurd rfl hne
  | cons i M=>exact NJ M i false (a i (by simp) false) (fun j d=>a j (by simp[d]) true) n p out hr
 | i::L,hL,_,n,p,out,hr=>by
  by_cases e:L++M=[]
  .have r1:rem ts p=i.1++tm [41]::r:=by rw[hr,Ux,e];simp[cm,cs]
   refine Cv.to ((hL i (by simp) n p out _ _ r1).2 (.inl rfl)) ?_ rfl;rw[Ux,e];exact YB (by simp[cm,cs]) (by simp[os]) rfl
  .have k:=args_at (r:=r) M a L (fun j d=>hL j (by simp[d])) e (n+1) (p+i.1.length+1) (out++i.2);rw[Ux]at hr⊢;cases g:L++M with
   | nil=>exact absurd g e
   | cons j X=>
    rw[g]at k hr;have r1:rem ts p=i.1++(tm [44]::(cm ((j::X).map (·.1))++tm [41]::r)):=by rw[hr];simp[cm,cs]
    refine Cv.to ((hL i (by simp) n p out _ _ r1).1 rfl _ (k (Y9 (YL r1)))) (YB (by simp[cm,cs];omega) (by simp[os]) (by simp;omega)) rfl
theorem Xfj(L M:List It)(a:∀j∈L,Step (ts:=ts) (sz:=sz) (.argsL · false) (.argsL · false) id j)(g:∀j∈M,∀b,Step (ts:=ts) (sz:=sz) (.argsL · b) (.argsL · true) id j):Rd ts sz .args (fun _=>True) (cm ((L++M).map (·.1))++[tm [41]]) (os (L++M)) (L++M).length:=fun p out r m _=>by
 have r1:rem ts p=cm ((L++M).map (·.1))++tm [41]::r:=by rw[m];simp
 have k:Pr.Cv ts sz (.argsL 0 false) (D p out) (D (p+(cm ((L++M).map (·.1))).length) (out++os (L++M)),(L++M).length):=by
  by_cases e:L++M=[]
  .rw[e]at r1⊢;exact Cv.to (Pr.Cv.MI (s:=D p out) rfl (by rw[Xt,r1];rfl)) (YB rfl (by simp[os]) rfl) rfl
  .exact Cv.to (args_at M g L a e 0 p out r1) (YB rfl rfl (by omega)) rfl
 refine Cv.to (Pr.Cv.args (s:=D p out) k) ?_ rfl;refine(Yt (fun d=>(d,(L++M).length)) (ZU (sz:=sz) (YL r1) (t:=[41]) rfl (out++os (L++M)))).trans ?_;exact YB (by simp;omega) rfl rfl
theorem Xcz{a b:List Sc.T}{d j:List Nd}{n:Nat}(m:L8 ts sz a d)(s:Rd ts sz .args (fun _=>True) b j n):L8 ts sz (a++tm [40]::b) (d++j++[nd 12 0 0 [] (1+n)]):=fun p out r g v u=>by
 have k:rem ts p=a++tm [40]::(b++r):=by rw[v];simp
 have r1:=YL k
 have r2:=Y9 r1
 refine m p out _ g k (Pr.Cv.GH rfl (by rw[Xt,r1];rfl) (s _ (out++d) _ r2 trivial) ?_)
 exact Cv.to u rfl (Vt (by simp;omega) (by simp[nd]))
theorem X8r{a b:List Sc.T}{g j:List Nd}{n:Nat}(k:Rd ts sz .params (fun _=>True) a g n)(m:LE ts sz b j):LE ts sz (tw Zz::(a++tm [61,62]::b)) (g++j++[nd 15 0 0 [] (n+1)]):=fun p out r d u=>by
 have r1:rem ts (p+1)=a++tm [61,62]::(b++r):=by rw[Y9 d];simp
 have r2:=YL r1
 have v:=k _ out _ r1 trivial
 have y:=Cv.to (m _ (out++g) r (Y9 r2) u) rfl (ZU (sz:=sz) r2 (t:=[61,62]) rfl (out++g))
 refine Cv.to (Pr.Cv.IN (s:=D p out) (by rw[Xt,d];rfl) (by rw[Xt,d];rfl) (by rw[Xt,d];rfl) v y) ?_ rfl
 exact YB (by simp;omega) (by simp[nd]) rfl
def LS(ts:List Sc.T)(sz:Nat)(l:List Sc.T)(o:List Nd):Prop:=Rd ts sz .statement (fun _=>True) l o 0
theorem Y0n{t:List UInt8}{a b:List Sc.T}{g j:List Nd}{n:Nat}(v:Rd ts sz .params (fun _=>True) a g n)(y:LE ts sz b j):LS ts sz (tw Z7::tn t::(a++tm [61]::(b++[tm [59]]))) (g++j++[nd 20 0 0 t (n+1)]):=fun p out r k _=>by
 have r1:=Y9 k
 have r2:rem ts (p+1+1)=a++tm [61]::(b++tm [59]::r):=by rw[Y9 r1];simp
 have m:=YL r2
 have u:=Y9 m
 have A:=Cv.to (v _ out _ r2 trivial) rfl (show Xm ts sz (X2 (D p out))=D (p+1+1) out from(KX r1 out).1)
 have B:=Cv.to (y _ (out++g) _ u rfl) rfl (ZU (sz:=sz) m (t:=[61]) rfl (out++g))
 refine Cv.to (Pr.Cv.LQ (s:=D p out) (by rw[Xt,k];rfl) A B) ?_ rfl
 show(Xd ts sz (X9 _ 20 0 0 (Xe ts sz (D (p+1) out)) (n+1)) [59],0)=_
 rw[(KX r1 out).2]
 refine(Yt (fun d=>(d,0)) (ZU (sz:=sz) (YL u) (t:=[59]) rfl (out++g++j++[nd 20 0 0 t (n+1)]))).trans ?_
 exact YB (by simp;omega) (by simp) rfl
theorem Y0q{t:List UInt8}{b:List Sc.T}{g:List Nd}(m:LE ts sz b g):LS ts sz (tw XM::tn t::tm [61]::(b++[tm [59]])) (g++[nd 21 0 0 t 1]):=fun p out r a _=>by
 have r1:=Y9 a
 have r2:=Y9 r1
 have j:rem ts (p+1+1+1)=b++tm [59]::r:=by rw[Y9 r2];simp
 have k:Xd ts sz (Xm ts sz (X2 (D p out))) [61]=D (p+1+1+1) out:=by
  show Xd ts sz (Xm ts sz (D (p+1) out)) [61]=_;rw[(KX r1 out).1,ZU r2 rfl]
 have n:=Cv.to (m _ out _ j rfl) rfl k;refine Cv.to (Pr.Cv.LU (s:=D p out) (by rw[Xt,a];rfl) (by rw[Xt,a];rfl) n) ?_ rfl;show(Xd ts sz (X9 _ 21 0 0 (Xe ts sz (D (p+1) out)) 1) [59],0)=_;rw[(KX r1 out).2];refine(Yt (fun d=>(d,0)) (ZU (sz:=sz) (YL j) (t:=[59]) rfl (out++g++[nd 21 0 0 t 1]))).trans ?_;exact YB (by simp;omega) (by simp) rfl
theorem Y0o{b:List Sc.T}{g:List Nd}(j:LE ts sz b g):LS ts sz (tw K3::(b++[tm [59]])) (g++[nd 22 0 0 [] 1]):=fun p out r a _=>by
 have r1:rem ts (p+1)=b++tm [59]::r:=by rw[Y9 a];simp
 refine Cv.to (Pr.Cv.LR (s:=D p out) (by rw[Xt,a];rfl) (by rw[Xt,a];rfl) (by rw[Xt,a];rfl) (j _ out _ r1 rfl)) ?_ rfl
 refine(Yt (fun d=>(d,0)) (ZU (sz:=sz) (YL r1) (t:=[59]) rfl (out++g++[nd 22 0 0 [] 1]))).trans ?_
 exact YB (by simp;omega) (by simp) rfl
theorem X9g(t:List UInt8):Step (ts:=ts) (sz:=sz) .YX .YX id ([tn t],[nd 5 0 0 t 0]):=fun n p out q r g=>by
 have r1:=Y9 g
 have e:=(KX (sz:=sz) g out).1
 have a:=(KX (sz:=sz) g out).2
 refine⟨fun d j k=>?_,fun d=>?_⟩
 .subst d
  refine Pr.Cv.Ln rfl (by rw[e,a];exact(Xt (p+1) (out++[nd 5 0 0 t 0]) _).trans (by rw[r1];rfl)) ?_
  rw[e,a]
  exact k
 .have k:=Pr.Cv.Lo (ts:=ts) (sz:=sz) (s:=D p out) (n:=n) rfl (by rw[e,a];exact(Xt (p+1) (out++[nd 5 0 0 t 0]) _).trans (by rw[r1];exact D6 d r))
  rw[e,a]at k
  exact k
theorem Y0p{t:List UInt8}(L:List It)(i:It)(h:∀j∈i::L,Step (ts:=ts) (sz:=sz) .YX .YX id j):LS ts sz (tw Kj::tt t::tm [58]::(cm ((i::L).map (·.1))++[tm [59]])) (os (i::L)++[nd 23 0 0 t (L.length+1)]):=fun p out r g _=>by
 have r1:=Y9 g
 have r2:=Y9 r1
 have k:rem ts (p+1+1+1)=cm ((i::L).map (·.1))++tm [59]::r:=by rw[Y9 r2];simp
 obtain⟨a,b,_⟩:=JB (sz:=sz) r1 out
 have m:=Cv.to (Gj (.inr (.inr rfl)) L i h 0 _ out k) rfl (show Xd ts sz (X2 (X2 (D p out))) [58]=_ from ZU (p:=p+1+1) r2 rfl out)
 refine Cv.to (Pr.Cv.LV (s:=D p out) (by rw[Xt,g];rfl) (by rw[Xt,g];rfl) (by rw[Xt,g];rfl) (by rw[Xt,g];rfl) (by show((X3 ts sz (D (p+1) out)).kind==4)=true;rw[a];rfl) m) ?_ rfl
 show(Xd ts sz (X9 _ 23 0 0 (X3 ts sz (D (p+1) out)).text _) [59],0)=_
 rw[b]
 refine(Yt (fun d=>(d,0)) (ZU (sz:=sz) (YL k) (t:=[59]) rfl (out++os (i::L)++[nd 23 0 0 t (0+(L.length+1))]))).trans ?_
 exact YB (by simp;omega) (by simp) rfl
theorem Y0b{p:Nat}(h:rem ts p=[]):ts.length<=p:=by
 have:ts.drop p=[]:=by unfold rem at h;simpa using h
 simpa using this
theorem Ae:∀(L:List It),(∀i∈L,LS ts sz i.1 i.2/\i.1≠[])->∀n p out,rem ts p=L.flatMap (·.1)->Pr.Cv ts sz (.fileL n) (D p out) (D (p+(L.flatMap (·.1)).length) (out++os L),n+L.length)
 | [],_,n,p,out,hr=>Cv.to (Pr.Cv.WL (s:=D p out) (by show(false||decide (ts.length<=p))=true;simpa using Y0b hr)) (YB rfl (by simp[os]) rfl) rfl
 | i::L,h,n,p,out,hr=>by
  obtain⟨hi,hne⟩:=h i (by simp);have r1:rem ts p=i.1++L.flatMap (·.1):=by rw[hr];simp
  have k:p<ts.length:=by
   cases a:i.1 with
   | nil=>exact absurd a hne
   | cons x l=>rw[a]at r1;exact(GZ (sz:=sz) r1 out).2
  have g:=Ae L (fun j d=>h j (by simp[d])) (n+1) _ (out++i.2) (YL r1);refine Cv.to (Pr.Cv.G0 (s:=D p out) (by show(false||decide (ts.length<=p))=false;simp;omega) (hi p out _ r1 trivial) g) ?_ rfl;exact YB (by simp;omega) (by simp[os]) (by simp;omega)
