import Derived.Test.YtaeafhenpjnhiaaGreatDoorE15
import Derived.Test.YtaeafhenpjnhiaaGreatDoorE17
namespace Go.Proofs.YtaeafhenpjnhiaaGreatDoor
open Tryz Go.RowKit
section
def PW(B:Nat)(w:World)(v:Value)(ls:List (List Nd)):Prop:=∃vs:List Value,w.ownsRow B 23 1 v ls.length vs/\∀i (h:i<ls.length),∃u,vs[i]?=some u/\NR w u ls[i]/\0<ls[i].length
theorem PW.pr[LB]{B:Nat}{w:World}{v:Value}{ls:List (List Nd)}(h:PW B w v ls):PR w v ls:=by
 obtain⟨g,a,d⟩:=h;exact⟨g,Qo a (Xb _),d⟩
theorem PW.ty[LB]{B:Nat}{w w':World}{v:Value}{ls:List (List Nd)}(h:PW B w v ls)(d:Ty w w'):PW B w' v ls:=by
 obtain⟨k,g,j⟩:=h;exact⟨k,Yz g d Lp,fun i hi=>by obtain⟨u,a,b,c⟩:=j i hi;exact⟨u,a,b.ty d,c⟩⟩
theorem PW.tf[LB]{B:Nat}{w w':World}{v:Value}{ls:List (List Nd)}(h:PW B w v ls)(d:Tf w w'):PW B w' v ls:=by
 obtain⟨k,g,j⟩:=h;exact⟨k,Yz g d X9z,fun i hi=>by obtain⟨u,a,b,c⟩:=j i hi;exact⟨u,a,b.tf d,c⟩⟩
theorem PW.below[LB]{B:Nat}{w w':World}{v:Value}{ls:List (List Nd)}(h:PW B w v ls)(a:BL w w'):PW B w' v ls:=h.ty (.of a)
theorem PW.new[LB]{B:Nat}(w:World)(a:B<=w.heap.size):PW B (w.alloc (.cells #[] 23)) (.l w.heap.size 0 0) []:=⟨[],Y4 (base:=B) (e:=23) (size:=1) w #[] 0 a (Xb _) rfl,fun _ hi=>absurd hi (JK _)⟩
theorem PW.one[LB]{B:Nat}{w:World}{a:Value}{d:List Nd}(g:NR w a d)(k:0<d.length)(j:B<=w.heap.size):PW B (w.alloc (.cells #[a] 23)) (.l w.heap.size 1 1) [d]:=
 ⟨[a],Y4 (base:=B) (e:=23) (size:=1) w #[a] 1 j (by unfold maxLen;omega) rfl,fun i hi=>by
  obtain rfl:i=0:=by simpa using hi
  exact⟨_,rfl,g.below (bA _),k⟩⟩
structure Pf (B:Nat) (w w':World):Prop where
 os:w'.os=w.os
 tape:w'.tape=w.tape
 output:w'.output=w.output
 size:w.heap.size<=w'.heap.size
 block:∀b,b<w.heap.size->(b<B\/Xo w b≠some 23)->w'.heap[b]?=w.heap[b]?
theorem Pf.row[LB]{B base size:Nat}{w w':World}{e:TypeId}{v:Value}{m:Nat}{a:List Value}(h:Pf B w w')(k:w.ownsRow base e size v m a)(g:e≠23):w'.ownsRow base e size v m a:=Kz k (fun q j r=>h.block q j (.inr (by rw[r];exact fun d=>g (Zq d))))
theorem Pf.nr[LB]{B:Nat}{w w':World}{v:Value}{l:List Nd}(h:Pf B w w')(a:NR w v l):NR w' v l:=⟨h.row a.1 (by decide),a.2⟩
theorem Pf.tyM[LB]{B:Nat}{M:Option TypeId->Prop}{w W m:World}(h:Pf B W m)(g:TyM M w W)(k:w.heap.size<=B):TyM M w m:=
 ⟨h.os.trans g.os,h.tape.trans g.tape,h.output.trans g.output,Xz g.size h.size,fun q d j=>(h.block q (XH d g.size) (.inl (XH d k))).trans (g.block q d j),fun r q d j=>by
  obtain⟨s,u⟩:=g.two r q d j;have e:=h.block q (XH d g.size) (.inl (XH d k));exact⟨(KI e).trans s,(XQ (a:=⟨q,2,none⟩) e).trans u⟩,fun q d j=>(h.block q (XH d g.size) (.inl (XH d k))).trans (g.old q d j)⟩
theorem Pf.gn[LB]{B gb rb n q k:Nat}{vb:Value}{w w':World}(h:Pf B w w')(d:Gn gb rb vb n q k w)(X:rb<B):Gn gb rb vb n q k w':=by
 have r:∀t,t≠23->∀q,q<w.heap.size->Xo w q=some t->w'.heap[q]?=w.heap[q]?:=fun t Q q N u=>h.block q N (.inr (by rw[u];exact fun e=>Q (Zq e)));have s:=r _ (by decide) gb d.lt d.ty;have g:∀j,w'.cell? ⟨gb,j,none⟩=w.cell? ⟨gb,j,none⟩:=fun j=>XQ (a:=⟨gb,j,none⟩) s;have L:=d.lt;have y:=d.up;obtain⟨p,M,O⟩:=d.R;obtain⟨v,V,n1,n2,n3⟩:=d.nm;obtain⟨U,m,W,C,E,F,H⟩:=d.fn;obtain⟨c,K,I⟩:=d.ct;obtain⟨z,S,A,J⟩:=d.sz;exact⟨⟨p,M,O.JV (fun b Z=>h.block b (by omega) (.inl (by omega)))⟩,y,(KI s).trans d.ty,(g 0).trans d.c0,⟨v,V,(g 1).trans n1,Kz n2 (r _ (by decide)),n3⟩,⟨U,m,W,(g 2).trans C,Kz E (r _ (by decide)),F,H.Zi (r _ (by decide))⟩,⟨c,K,(g 3).trans I⟩,⟨z,S,A,(g 4).trans J⟩,fun j=>(ZC (a:=⟨gb,j,none⟩) s).trans (d.fr j),d.km⟩
theorem D5[LB]{B:Nat}{W j:World}{O:Obj}{v v' u:Value}{l:List Nd}{ls:List (List Nd)}{m:List Value}(s:W.ownsRow B 23 1 v ls.length m)(E:∀i (h:i<ls.length),∃u,m[i]?=some u/\NR W u ls[i]/\0<ls[i].length)(I:NR W u l)(H:0<l.length)(J:j.ownsRow B 23 1 v' (ls.length+1) (m++[u]))(k:(W.alloc O).grownBy j v.ownBlock):PW B j v' (ls++[l])/\Pf B W j:=by
 have g:=(X8 W.heap.size W).alloc (X5 _) O;have d:Pf B W j:=⟨k.os.trans g.os,k.tape.trans g.tape,k.output.trans g.output,Xz g.size k.size,fun b C r=>by
  refine(k.block b (XH C g.size) (fun e=>?_)).trans (g.block b C);have L:=s.lt b e.symm;have F:=KH s e.symm;rcases r with r|r
  .omega
  .exact r F⟩
 have y:m.length=ls.length:=by have:=s.1;omega
 refine⟨⟨m++[u],by rw[Xj];exact J,fun i hi=>?_⟩,d⟩;by_cases A:i<ls.length
 .obtain⟨K,a,b,c⟩:=E i A;rw[I6 A];exact⟨K,by rw[Jt (by omega)];exact a,d.nr b,c⟩
 .have hi':i=ls.length:=by simp only[Xj,XI,Ya]at hi;omega
  subst hi';have e:(ls++[l])[ls.length]'hi=l:=by simp
  rw[e];exact⟨u,by rw[Q7 (by omega),y];simp,d.nr I,H⟩
variable (gb rb:Nat) (vb:Value) (n:Nat)
def Rj[LB](d kd:Nat):Prop:=∀(q k:Nat) (kind:Int) (w:World),Gn gb rb vb n q k w->q+5*kd+40<=700000000->k+1+d<=900->Calls prog 119 #[.p gb,.q kind,.q ((d:Int)+1)] w (GOk gb rb vb n q (4*kd+30) k w)
theorem Xdu[LB]{q k:Nat}{w:World}(h:Gn gb rb vb n q k w)(u:q<=900000000)(m:Nat)(r:m<=1000000):Calls prog 22 #[.p rb,.q m] w fun e w'=>∃z:Nat,(0<m->z<m)/\e= .returned (.q (z:Int))/\Gn gb rb vb n (q+1) k w'/\Ty w w'/\z<=m/\∀b,b<w.heap.size->b≠rb->w'.heap[b]?=w.heap[b]?:=by
 obtain⟨p,s,g⟩:=h.R;rcases Ia m with rfl|hm
 .refine(Ca rb n p vb w g (by omega)).mono ?_;rintro e j⟨rfl,d,a⟩;exact⟨0,fun h=>h,rfl,h.Zi (by omega) a.block ⟨p+1,by omega,d⟩,.dr a g.own,X5 _,a.block⟩
 .refine(LG rb n p vb m w g (by omega) (by omega) (by omega)).mono ?_;rintro e j⟨z,v,rfl,d,a⟩;exact⟨z,fun _=>by omega,rfl,h.Zi (by omega) a.block ⟨p+1,by omega,d⟩,.dr a g.own,by omega,a.block⟩
def Ik.Ka(ks:List (List Nat))(k:Nat):List Nat:=ks[k]?.getD []
def Ik.Cov (ks:List (List Nat))(b:Nat)(l:List Nat)(e:Nat):Prop:=∀m:Nat->List Nat->Nat->Prop,(∀b,m b [] b)->(∀b x e r,m b (Ik.Ka ks x) x->m (x+1) r e->m b (x::r) e)->m b l e
section
variable {ks:List (List Nat)}{b x e:Nat}{l r:List Nat}
theorem Ik.Cov.nil (b:Nat):Ik.Cov ks b [] b:=fun _ h _=>h b
theorem Ik.Cov.cons(h:Ik.Cov ks b (Ik.Ka ks x) x)(k:Ik.Cov ks (x+1) r e):Ik.Cov ks b (x::r) e:=fun m n c=>c _ _ _ _ (h m n c) (k m n c)
theorem Ik.Cov.ind {m:∀b l e,Ik.Cov ks b l e->Prop}(nil:∀b,m b [] b (.nil b))(cons:∀{b x e r}(h:Ik.Cov ks b (Ik.Ka ks x) x)(k:Ik.Cov ks (x+1) r e),m _ _ _ h->m _ _ _ k->m b (x::r) e (.cons h k)) {b:Nat}{l:List Nat}{e:Nat}(h:Ik.Cov ks b l e):m b l e h:=(h (fun b l e=>∃h,m b l e h) (fun b=>⟨_,nil b⟩) (fun _ _ _ _ ⟨h,i⟩ ⟨k,j⟩=>⟨_,cons h k i j⟩)).2
theorem Ik.Cov.inv(h:Ik.Cov ks b l e):(l=[]->b=e)/\∀x r,l=x::r->Ik.Cov ks b (Ik.Ka ks x) x/\Ik.Cov ks (x+1) r e:=by
 induction h using Ik.Cov.ind with
 | nil b=>exact ⟨fun _=>rfl,fun x r h=>(by cases h)⟩
 | cons h k _ _=>exact ⟨fun h=>(by cases h),fun x r e=>(by cases e;exact ⟨h,k⟩)⟩
theorem Ik.Cov.cas {m:Ik.Cov ks b (x::r) e->Prop}(cons:∀(h:Ik.Cov ks b (Ik.Ka ks x) x)(k:Ik.Cov ks (x+1) r e),m (.cons h k))(h:Ik.Cov ks b (x::r) e):m h:=cons (h.inv.2 x r rfl).1 (h.inv.2 x r rfl).2
theorem Ik.Cov.nl(h:Ik.Cov ks b [] e):b=e:=h.inv.1 rfl
end
theorem Ik.Cov.le{ks:List (List Nat)}{b e:Nat}{l:List Nat}(h:Ik.Cov ks b l e):b<=e:=by
 induction h using Ik.Cov.ind with
 | nil b=>exact X5 _
 | cons _ _ a d=>omega
theorem Ik.Cov.mem{ks:List (List Nat)}{b e y:Nat}{l:List Nat}(h:Ik.Cov ks b l e)(a:y∈l):b<=y/\y<e:=by
 induction h using Ik.Cov.ind with
 | nil b=>cases a
 | cons d g _ j=>
  rcases Kr.1 a with rfl|a
  .have:=d.le;have:=g.le;omega
  .have:=d.le;have:=j a;omega
theorem Ik.Cov.append{ks:List (List Nat)}{b m e:Nat}{d l2:List Nat}(h:Ik.Cov ks b d m)(a:Ik.Cov ks m l2 e):Ik.Cov ks b (d++l2) e:=by
 induction h using Ik.Cov.ind with
 | nil b=>exact a
 | cons g _ _ j=>exact .cons g (j a)
theorem Ik.Cov.split{ks:List (List Nat)}:∀(a:List Nat) {l2:List Nat} {b e:Nat},Ik.Cov ks b (a++l2) e->∃m,Ik.Cov ks b a m/\Ik.Cov ks m l2 e
 | [],_,b,_,h=>⟨b,.nil b,h⟩
 | x::r,_,_,_,h=>by
  cases h using Ik.Cov.cas with
  | cons j n=>
   obtain⟨m,d,g⟩:=Ik.Cov.split r n;exact⟨m,.cons j d,g⟩
theorem Ik.Bf(ks:List (List Nat)):∀(ns:List Nd) (i:Nat) (op a:List Nat),ks.drop i=(XF ns i op).1->Ik.Cov ks 0 op i->(XF ns i op).2=some a->Ik.Cov ks 0 a (i+ns.length)
 | [],i,op,a,_,hc,he=>by
  rw[XF]at he;cases he;exact hc
 | x::r,i,op,a,hd,hc,he=>by
  rw[XF]at hd he;split at he
  .cases he
  .rename_i y;rw[X6 y]at hd;simp only at hd he;generalize op.length-x.kids.toNat=m at *;have s:ks[i]?=some (op.drop m):=by
    have:=Yt (fun l=>l[0]?) hd;simpa using this
   have u:ks.drop (i+1)=(XF r (i+1) (op.take m++[i])).1:=by
    have:=Yt List.tail hd;simpa[List.tail_drop]using this
   have v:Ik.Ka ks i=op.drop m:=by unfold Ik.Ka;rw[s];rfl
   obtain⟨j,d,g⟩:=Ik.Cov.split (op.take m) (l2:=op.drop m) (by rw[JX];exact hc);have n:Ik.Cov ks 0 (op.take m++[i]) (i+1):=d.append (.cons (by rw[v];exact g) (.nil _));have:=Ik.Bf ks r (i+1) _ a u n he;rw[XI,show i+(r.length+1)=i+1+r.length from by omega]
   exact this
theorem Ik.CH{ns:List Nd}(h:Qc ns=true):Ik.Cov (YF ns) 0 (Ik.Ka (YF ns) (ns.length-1)) (ns.length-1)/\0<ns.length:=by
 unfold Qc at h;split at h
 .cases h
 .rename_i op m;have j:op.length=1:=by simpa using h
  have a:=Ik.Bf (YF ns) ns 0 [] op rfl (.nil 0) m;rw[Xu]at a;generalize ns.length=n at a⊢
  match op,j with
  | [r],_=>
   cases a using Ik.Cov.cas with
   | cons d g=>
    cases g.nl;exact⟨by rw[Dt];exact d,by omega⟩
theorem Ik.Cov.uniq{ks:List (List Nat)}{b e:Nat}{l:List Nat}(h:Ik.Cov ks b l e):∀{a:Nat},Ik.Cov ks a l e->b=a:=by
 induction h using Ik.Cov.ind with
 | nil b=>intro a d;exact d.nl.symm
 | cons m n g r=>intro a d;cases d using Ik.Cov.cas with|cons j s=>exact g j
theorem Ik.Cov.at{ks:List (List Nat)}{b e y:Nat}{l:List Nat}(h:Ik.Cov ks b l e):y∈l->∃d,Ik.Cov ks d (Ik.Ka ks y) y/\b<=d:=by
 induction h using Ik.Cov.ind with
 | nil b=>intro a;cases a
 | cons g r _ m=>
  intro a;rcases Kr.1 a with rfl|a
  .exact⟨_,g,X5 _⟩
  .obtain⟨d,j,n⟩:=m a;have:=g.le;exact⟨d,j,by omega⟩
theorem Zp(a:Array UInt8):(⟨a⟩:ByteArray).size=a.size:=rfl
theorem Cr(s:ByteArray)(h:s.size<=1000):(⟨(Y3 s.data.toList).toArray⟩:ByteArray).size<=3002:=by
 have a:∀l:List UInt8,(l.flatMap ZL).length<=3*l.length:=by
  intro l;induction l with
  | nil=>simp
  | cons b r d=>have:=Sb b;rw[JH,Xj,XI];omega
 have e:s.data.toList.length=s.size:=JG;have:=a s.data.toList;show(Y3 s.data.toList).toArray.size<=3002;rw[List.size_toArray];unfold Y3;rw[XI,Xj];simp only[XI,Ya];omega
theorem TL(k:Nat):∀n,n<10 ^ (k+1)->(Yh n).length<=k+1:=by
 induction k with
 | zero=>intro n h;rw[Yh,dif_pos (by simpa using h)];simp
 | succ k a=>
  intro n h;rw[Yh];split
  .simp
  .rw[Xj];have:=a (n / 10) (by rw[Nat.pow_succ]at h;omega);simp only[XI,Ya];omega
theorem SY(n:Nat)(h:n<=9223372036854775807):(⟨(Yh n).toArray⟩:ByteArray).size<=19:=by
 rw[Zp,List.size_toArray];exact TL 18 n (Ib h (by decide))
variable {w0:World} {pb:Nat} {ks:List (List Nat)} {k:Nat}
theorem Ik.AY{f:Nat->ByteArray}{b e:Nat}{ls:List Nat}(s:Ik.Cov ks b ls e)(u:∀y∈ls,∀a,Ik.Cov ks a (Ik.Ka ks y) y->(f y).size+100<=3500*(y+1-a)): ∀i≤ls.length,∃m,Ik.Cov ks m (ls.drop i) e/\b<=m/\(QY (fun y=>(f y).data.toList) ls i).length<=3500*(m-b)/\(QW (fun y=>(f y).data.toList) ls i).length<=3500*(m-b):=by
 intro i;induction i with
 | zero=>intro _;exact⟨b,s,X5 _,by simp[QY],by simp[QW]⟩
 | succ i A=>
  intro hi;obtain⟨m,hm,r,E,v⟩:=A (by omega);rw[KM (by omega)]at hm;cases hm using Ik.Cov.cas with
  | cons j n=>
   have B:=u _ (YJ (by omega:i<ls.length)) _ j;have C:=j.le;have d:ls[i]?.getD 0=ls[i]:=by simp[show i<ls.length from by omega]
   have g:(f ls[i]).data.toList.length=(f ls[i]).size:=JG;refine⟨_,n,by omega,?_,?_⟩
   .rw[QY,Xj,Xj,d,g];have:(if i=0 then([]:List UInt8)else[44,32]).length<=2:=by split<;>simp
    omega
   .rw[QW,Xj,d,g];omega
end
namespace Rb
variable {ts:List Sc.T} {sz:Nat} {x:Nd} {p b:Int}
theorem Xbm{a:Fd}(d:x.kind=17)(h:Nf x [a])(k:Ok ts sz a):Ok ts sz (.mk x p b [a]):=by
 have g:=(k.le (h.e (by omega) a (by simp))).1;refine⟨fun _ e=>absurd e (by show ¬x.kind<=16;omega),fun _=>?_,fun e=>absurd e (by show x.kind≠18;omega),fun e=>absurd e (by show x.kind≠19;omega),fun e=>absurd e (by show ¬20<=x.kind;omega),fun e=>absurd e (by show x.kind≠5;omega)⟩;rw[Fd.Zh,Uj,ZJ,ZE d (h.op (by omega) (by omega)) (h.n (by omega) (by omega)) rfl];have j:frm [] [] x ([a].map fun t=>(rk t.x,tk t))=(if K6 x.text=true then tn (tx x)else tt (tx x))::tm [58]::tk a:=by simp[frm,d]
 rw[j];split
 .exact Cx (x:=tn (tx x)) rfl g
 .exact Cx (x:=tt (tx x)) rfl g
theorem Xbu{a:Fd}(d:x.kind=18)(h:Nf x [a])(k:Ok ts sz a):Ok ts sz (.mk x p b [a]):=by
 have m:=(k.le (h.e (by omega) a (by simp))).1;refine⟨fun _ e=>absurd e (by show ¬x.kind<=16;omega),fun e=>absurd e (by show x.kind≠17;omega),fun _ g=>?_,fun e=>absurd e (by show x.kind≠19;omega),fun e=>absurd e (by show ¬20<=x.kind;omega),fun e=>absurd e (by show x.kind≠5;omega)⟩;rw[Fd.Zh,Uj,ZJ,ZE d (h.op (by omega) (by omega)) (h.n (by omega) (by omega)) rfl];have j:frm [] [] x ([a].map fun t=>(rk t.x,tk t))=tn (tx x)::tm [61]::tk a:=by simp[frm,d]
 rw[j];exact NC m g
theorem Xbv{ks:List Fd}(d:x.kind=19)(h:Nf x ks)(j:∀t∈ks,Ok ts sz t):Ok ts sz (.mk x p b ks):=by
 refine⟨fun _ e=>absurd e (by show ¬x.kind<=16;omega),fun e=>absurd e (by show x.kind≠17;omega),fun e=>absurd e (by show x.kind≠18;omega),fun _=>?_,fun e=>absurd e (by show ¬20<=x.kind;omega),fun e=>absurd e (by show x.kind≠5;omega)⟩;rcases h.len.2.2.2.2.1 d with e|e
 .obtain rfl:=Uy.1 e;rw[Fd.Zh,ZJ,ZE d (h.op (by omega) (by omega)) (h.n (by omega) (by omega)) rfl];have g:frm [] [] x (([]:List Fd).map fun t=>(rk t.x,tk t))=[tn (tx x)]:=by simp[frm,d]
  rw[g];exact Xdc _
 .obtain⟨a,rfl⟩:=ZG ks e;have k:=((j a (by simp)).le (h.e (by omega) a (by simp))).1;rw[Fd.Zh,Uj,ZJ,ZE d (h.op (by omega) (by omega)) (h.n (by omega) (by omega)) rfl];have g:frm [] [] x ([a].map fun t=>(rk t.x,tk t))=tn (tx x)::tm [61]::tk a:=by simp[frm,d]
  rw[g];exact Xdd k
theorem Xbg{q:List Fd}{z:Fd}(a:x.kind=20)(h:Nf x (q++[z]))(d:∀t∈q++[z],Ok ts sz t):Ok ts sz (.mk x p b (q++[z])):=by
 obtain⟨j,k⟩:=C8 (.inr a) h d;refine Ok.Lw (show 20<=x.kind by omega) ?_;have g:frm [] [] x ((q++[z]).map fun t=>(rk t.x,tk t))=tw Z7::tn (tx x)::(tm [40]::(cm (q.map tk)++[tm [41]])++tm [61]::(tk z++[tm [59]])):=by
  unfold frm;simp only[a];rw[IW.1,IW.2];simp[WG]
 rw[Fd.Zh,Fd.Ax,Uj,ZJ,ZE a (h.op (by omega) (by omega)) (h.n (by omega) (by omega)) rfl,g,show(q++[z]).length=q.length+1 by simp];exact⟨Y0n j k,by simp⟩
theorem Xbx{a:Fd}(d:x.kind=21)(h:Nf x [a])(j:Ok ts sz a):Ok ts sz (.mk x p b [a]):=by
 have k:=(j.le (h.e (by omega) a (by simp))).1;refine Ok.Lw (show 20<=x.kind by omega) ?_;have g:frm [] [] x ([a].map fun t=>(rk t.x,tk t))=tw XM::tn (tx x)::tm [61]::(tk a++[tm [59]]):=by simp[frm,d]
 rw[Fd.Zh,Uj,ZJ,ZE d (h.op (by omega) (by omega)) (h.n (by omega) (by omega)) rfl,g];exact⟨Y0q k,by simp⟩
theorem Xbk{a:Fd}(d:x.kind=22)(h:Nf x [a])(j:Ok ts sz a):Ok ts sz (.mk x p b [a]):=by
 have k:=(j.le (h.e (by omega) a (by simp))).1;refine Ok.Lw (show 20<=x.kind by omega) ?_;have g:frm [] [] x ([a].map fun t=>(rk t.x,tk t))=tw K3::(tk a++[tm [59]]):=by simp[frm,d]
 rw[Fd.Zh,Uj,ZJ,ZE d (h.op (by omega) (by omega)) (h.n (by omega) (by omega)) (h.tx (by rw[d];rfl)),g];exact⟨Y0o k,by simp⟩
theorem Xbt{ks:List Fd}(d:x.kind=23)(h:Nf x ks)(j:∀t∈ks,Ok ts sz t):Ok ts sz (.mk x p b ks):=by
 have s:∀t∈ks,5<=t.x.kind/\t.x.kind<=5:=by
  have:=h.fit;unfold YE at this;rw[X6 (by omega),X6 (by omega),X6 (by omega),Xa d]at this;exact btw this
 cases ks with
 | nil=>have:=h.len.2.2.2.2.2 (by omega);simp at this
 | cons a r=>
  refine Ok.Lw (show 20<=x.kind by omega) ?_;have k:=Y0p (ts:=ts) (sz:=sz) (t:=tx x) (its r) (tk a,a.Xy) (fun i hi=>by
   obtain⟨t,g,rfl⟩:=VV (l:=a::r) hi;exact(j t g).l (by have:=s t g;omega))
  have m:frm [] [] x ((a::r).map fun t=>(rk t.x,tk t))=tw Kj::tt (tx x)::tm [58]::(cm (((tk a,a.Xy)::its r).map (·.1))++[tm [59]]):=by
   rw[show((tk a,a.Xy)::its r).map (·.1)=(a::r).map tk from Gf (a::r)];simp[frm,d,WG];rfl
  rw[show os ((tk a,a.Xy)::its r)=Fd.Xy.giveL (a::r)from VW (a::r),show(its r).length=r.length by simp[its]]at k;rw[Fd.Zh,ZJ,ZE d (h.op (by omega) (by omega)) (h.n (by omega) (by omega)) rfl,m];exact⟨k,by simp⟩
theorem Xbd:∀(n:Nat) (y:Fd),y.size<=n->y.VF=true->y.x.kind≠24->Ok ts sz y:=by
 intro n;induction n with
 | zero=>intro y I;have:=Fd.size_pos y;omega
 | succ n K=>
  intro y I H A;obtain⟨x,p,b,ks⟩:=y;rw[Fd.UU]at I;have h:=Nf.of H;have E:=(Wj H).2.2.2;have F:x.kind≠24:=A;have C:∀t∈ks,t.x.kind≠24:=by
   by_cases B:x.kind<20
   .intro t u e;have:=Fd.Ak h.fit B t u;omega
   .intro t u e;have s:=h.fit;unfold YE at s;rw[X6 (by omega),X6 (by omega)]at s;split at s
    .rw[XE,Ju,←Uz,←Ud]at s;have:t∈ks.take (ks.length-1)++ks.drop (ks.length-1):=by rw[JX];exact u
     rcases KC.1 this with m|m
     .have:=btw s.1 t m;omega
     .have:=btw s.2 t m;omega
    .split at s
     .have:=btw s t u;omega
     .have:=btw s t u;omega
  have g:∀t∈ks,Ok ts sz t:=fun t u=>K t (by have:=Fd.Wc u;omega) (E t u) (C t u);have j:=h.len;have v:=h.cnt;by_cases J:1<=x.kind/\x.kind<=5
  .have:ks=[]:=by
    unfold K5 at v;rw[Xa (by omega)]at v;have:=Qn v;exact Uy.1 (by omega)
   subst this;exact Xbq J h.pl
  have L:6<=x.kind/\x.kind<=23:=by
   unfold K5 at v;by_cases e:6<=x.kind/\x.kind<=23
   .exact e
   .exfalso;rw[X6 (by omega),X6 (by omega),X6 (by omega),X6 (by omega),X6 (by omega),X6 (by omega),X6 (by omega),X6 (by omega),X6 (by omega)]at v;have:=Qn v;omega
  have B:x.kind=6\/x.kind=7\/x.kind=8\/x.kind=9\/x.kind=10\/x.kind=11\/x.kind=12\/x.kind=13\/x.kind=14\/x.kind=15\/x.kind=16\/x.kind=17\/x.kind=18\/x.kind=19\/x.kind=20\/x.kind=21\/x.kind=22\/x.kind=23:=by omega
  rcases B with k|k|k|k|k|k|k|k|k|k|k|k|k|k|k|k|k|k
  .obtain⟨a,rfl⟩:=ZG ks (j.1 (by omega));exact Xby k h (g a (by simp))
  .obtain⟨a,c,rfl⟩:=QR ks (j.2.1 (by omega));exact Xbe k h (g a (by simp)) (g c (by simp))
  .exact Xbs k h g
  .exact Xbw k h g
  .obtain⟨a,c,rfl⟩:=QR ks (j.2.1 (by omega));exact Xbp k h (g a (by simp)) (g c (by simp))
  .obtain⟨a,rfl⟩:=ZG ks (j.1 (by omega));exact Xbh k h (g a (by simp))
  .cases ks with
   | nil=>have:=j.2.2.2.2.2 (by omega);simp at this
   | cons a r=>exact Xbf k h g
  .obtain⟨a,c,d,rfl⟩:=Wf ks (j.2.2.1 k);exact Xbo k h (g a (by simp)) (g c (by simp)) (g d (by simp))
  .obtain⟨a,c,rfl⟩:=QR ks (j.2.1 (by omega));exact Xbr k h (g a (by simp)) (g c (by simp))
  .obtain⟨q,z,rfl⟩:=WU ks (j.2.2.2.2.2 (by omega));exact Xbn k h g
  .rcases j.2.2.2.1 k with e|e
   .obtain⟨a,c,rfl⟩:=QR ks e;exact Xbi k h (g a (by simp)) (g c (by simp))
   .obtain⟨a,c,d,rfl⟩:=Wf ks e;exact Xbj k h (g a (by simp)) (g c (by simp)) (g d (by simp))
  .obtain⟨a,rfl⟩:=ZG ks (j.1 (by omega));exact Xbm k h (g a (by simp))
  .obtain⟨a,rfl⟩:=ZG ks (j.1 (by omega));exact Xbu k h (g a (by simp))
  .exact Xbv k h g
  .obtain⟨q,z,rfl⟩:=WU ks (j.2.2.2.2.2 (by omega));exact Xbg k h g
  .obtain⟨a,rfl⟩:=ZG ks (j.1 (by omega));exact Xbx k h (g a (by simp))
  .obtain⟨a,rfl⟩:=ZG ks (j.1 (by omega));exact Xbk k h (g a (by simp))
  .exact Xbt k h g
theorem X0x{x:Nd}{p b:Int}{ks:List Fd}(g:x.kind=24)(j:(Fd.mk x p b ks).VF=true){ts:List Sc.T}{sz:Nat}(h:ts.map cl=tk (.mk x p b ks)):Pr.Cv ts sz (.fileL 0) (D 0 []) (D ts.length (Fd.Xy.giveL ks),ks.length):=by
 have r:=Nf.of j;have a:=r.fit;unfold YE at a;rw[X6 (by omega),X6 (by omega),X6 (by omega),X6 (by omega),Xa g]at a;have n:=btw a;have d:tk (.mk x p b ks)=(its ks).flatMap (·.1):=by
  rw[ZJ];simp[frm,g,its,Mg]
 have k:=Ae (ts:=ts) (sz:=sz) (its ks) (fun i hi=>by
  obtain⟨t,m,rfl⟩:=VV hi;have:=n t m;exact(Xbd _ t (X5 _) ((Wj j).2.2.2 t m) (by omega)).s (by omega) (by omega)) 0 0 [] (by rw[←d,←h];unfold rem;rw[Kh])
 rw[←d,←h,VW]at k;exact Cv.to k (YB (by simp) (by simp) (by simp[its])) rfl
end Rb
namespace Rb
def Gd(l:List Sc.T):Prop:=∀r,okN r->Ch l r
def Gs(l:List Sc.T):Prop:=∀r,Ch l r
def okH(l:List Sc.T):Prop:=∀r,okN r->okN (bts l++r)
theorem Uh(t:Sc.T)(l:List Sc.T):bts (t::l)=bt t++bts l:=by simp[bts]
theorem BT{b:UInt8}{l:List UInt8}(h:Sc.nm b=false):okN (b::l):=fun c a=>by injection a with e;rw[←e];exact h
theorem BS{t:Sc.T}{l:List Sc.T}{b:UInt8}{q:List UInt8}(h:bt t=b::q)(a:Sc.nm b=false):okH (t::l):=fun r _=>by
 rw[Uh,h];exact BT a
theorem hsp(l:List Sc.T):okH (sp::l):=BS (b:=32) rfl rfl
theorem K8:okH []:=fun _ h=>h
theorem X9v:∀m∈Sc.marks,∃b q,m=b::q/\Sc.nm b=false:=by
 have h:Sc.marks.all (fun w=>match w with|[]=>false|b::_=>!Sc.nm b)=true:=by decide
 intro w a;have:=Ua.1 h w a;cases w with
 | nil=>simp at this
 | cons b r=>simp at this;exact⟨b,r,rfl,this⟩
theorem hm{m:List UInt8}(h:m∈Sc.marks)(l:List Sc.T):okH (tm m::l):=by
 obtain⟨b,q,e,a⟩:=X9v m h;exact BS (show bt (tm m)=b::q from e) a
theorem Qs:Gd []:=fun _ _=>trivial
theorem gsp{l:List Sc.T}(h:Gd l):Gd (sp::l):=fun r a=>⟨.inl rfl,h r a⟩
theorem no5{k:Nat}(a:k=4\/k=5){P:Prop}:k=1\/k=2\/k=3->P:=fun e=>by omega
theorem gm{m:List UInt8}{l:List Sc.T}(hm:m∈Sc.marks/\m≠[61]/\m≠[60]/\m≠[62])(h:Gd l):Gd (tm m::l):=fun r a=>by
 have d:Sep (tm m) (bts l++r):=by
  refine⟨no5 (.inr rfl),fun _ e=>?_⟩;rcases e with e|e|e
  .exact absurd e hm.2.1
  .exact absurd e hm.2.2.1
  .exact absurd e hm.2.2.2
 exact⟨⟨.inr (.inr (.inr (.inr ⟨rfl,hm.1,rfl⟩))),rfl,d⟩,h r a⟩
theorem gms{m:List UInt8}{l:List Sc.T}(hm:m∈Sc.marks)(h:Gd l):Gd (tm m::sp::l):=fun r d=>by
 have g:Sep (tm m) (bts (sp::l)++r):=by
  refine⟨no5 (.inr rfl),fun _ _ b a=>?_⟩;rw[Uh]at a;have:b=32:=by injection a with e;exact e.symm
  subst this;exact⟨by decide,by decide⟩
 exact⟨⟨.inr (.inr (.inr (.inr ⟨rfl,hm,rfl⟩))),rfl,g⟩,gsp h r d⟩
theorem gn{t:List UInt8}{l:List Sc.T}(j:Dv t)(h:Gd l)(d:okH l):Gd (tn t::l):=fun r a=>by
 have g:Sep (tn t) (bts l++r):=⟨fun _=>d r a,fun e=>by cases e⟩
 exact⟨⟨.inl ⟨rfl,j,rfl⟩,rfl,g⟩,h r a⟩
theorem gw{t:List UInt8}{l:List Sc.T}(j:t∈Sc.words)(h:Gd l)(d:okH l):Gd (tw t::l):=fun r a=>by
 have g:Sep (tw t) (bts l++r):=⟨fun _=>d r a,fun e=>by cases e⟩
 exact⟨⟨.inr (.inl ⟨rfl,j,rfl⟩),rfl,g⟩,h r a⟩
theorem gi{n:Nat}(a:n<=9223372036854775807):Gd [ti n]:=fun r d=>by
 have g:Sep (ti n) (bts []++r):=⟨fun _=>d,fun e=>by cases e⟩
 exact⟨⟨.inr (.inr (.inl ⟨rfl,rfl,a⟩)),rfl,g⟩,trivial⟩
theorem gt{t:List UInt8}{l:List Sc.T}(g:t.length<=1000)(h:Gd l):Gd (tt t::l):=fun r a=>by
 have d:Sep (tt t) (bts l++r):=⟨no5 (.inl rfl),fun e=>by cases e⟩
 exact⟨⟨.inr (.inr (.inr (.inl ⟨rfl,g,rfl⟩))),rfl,d⟩,h r a⟩
theorem ga{a b:List Sc.T}(g:Gd a)(j:Gd b)(k:okH b):Gd (a++b):=fun r d=>(IK a b r).2 ⟨g _ (k r d),j r d⟩
theorem gO{o:Nat}{l:List Sc.T}(a:1<=o)(d:o<=14)(h:Gd l):Gd (tO o::sp::l):=by
 have:o=1\/o=2\/o=3\/o=4\/o=5\/o=6\/o=7\/o=8\/o=9\/o=10\/o=11\/o=12\/o=13\/o=14:=by omega
 rcases this with rfl|rfl|rfl|rfl|rfl|rfl|rfl|rfl|rfl|rfl|rfl|rfl|rfl|rfl
 .exact gw (by decide) (gsp h) (hsp _)
 .exact gw (by decide) (gsp h) (hsp _)
 .exact gms (by decide) h
 .exact gms (by decide) h
 .exact gms (by decide) h
 .exact gms (by decide) h
 .exact gms (by decide) h
 .exact gms (by decide) h
 .exact gw (by decide) (gsp h) (hsp _)
 .exact gms (by decide) h
 .exact gms (by decide) h
 .exact gms (by decide) h
 .exact gms (by decide) h
 .exact gms (by decide) h
theorem gbr{k:Nat}{i:Nat × List Sc.T}(h:Gd i.2):Gd (br k i):=by
 unfold br;split
 .exact gm (by decide) (ga h (gm (by decide) Qs) (hm (by decide) _))
 .exact h
theorem gcs:∀{L:List (List Sc.T)},(∀a∈L,Gd a)->Gd (csg [sp] L)/\okH (csg [sp] L)
 | [],_=>⟨Qs,K8⟩
 | a::L,h=>by
  obtain⟨x,y⟩:=gcs (L:=L) (fun b d=>h b (by simp[d]));exact⟨gm (by decide) (gsp (ga (h a (by simp)) x y)),hm (by decide) _⟩
theorem gcm{L:List (List Sc.T)}(h:∀a∈L,Gd a):Gd (cmg [sp] L):=by
 cases L with
 | nil=>exact Qs
 | cons a L=>
  obtain⟨x,y⟩:=gcs (L:=L) (fun b d=>h b (by simp[d]));exact ga (h a (by simp)) x y
theorem L4{l:List Sc.T}(h:Gd l):Gs (l++[nl]):=fun r=>(IK l [nl] r).2 ⟨h _ (BT (b:=10) rfl),.inr rfl,trivial⟩
theorem Sf{p:UInt8->Bool}:∀{l:List UInt8},Kt p l=true->l.all p=true
 | [],_=>rfl
 | b::r,h=>by
  rw[VC,XE]at h;simp only[List.all_cons,XE];exact⟨h.1,Sf h.2⟩
theorem BJ{s:ByteArray}(h:K6 s=true):Dv s.data.toList:=by
 unfold K6 at h;simp only[XE]at h;obtain⟨⟨⟨a,b⟩,c⟩,d⟩:=h;have j:=KP a;have e:s.size=s.data.toList.length:=rfl;refine⟨?_,Sf d,by omega,by simpa using c⟩;cases g:s.data.toList with
 | nil=>rw[g]at b;simp at b
 | cons x r=>rw[g]at b;exact⟨x,r,rfl,by simpa using b⟩
theorem Ur{x:Nd}(h:Xr x=true)(a:x.kind=5\/x.kind=11\/x.kind=14\/x.kind=16\/x.kind=18\/x.kind=19\/x.kind=20\/x.kind=21):Dv (tx x):=by
 unfold Xr at h;split at h
 .cases h
 .rw[X6 (by omega),X6 (by omega),X6 (by omega),X6 (by omega),X6 (by omega),X6 (by omega)]at h;have d:Yq x.kind=true:=by rcases a with e|e|e|e|e|e|e|e<;>rw[e]<;>rfl
  rw[d]at h;exact BJ (by simpa using h)
theorem Y2e{x:Nd}(h:Xr x=true)(a:x.kind=4\/x.kind=17\/x.kind=23):(tx x).length<=1000:=by
 have e:x.text.size=(tx x).length:=rfl;unfold Xr at h;split at h
 .cases h
 .rw[X6 (by omega),X6 (by omega)]at h;split at h
  .have:=Qn h;omega
  .rw[X6 (by omega),X6 (by omega),Xa (by omega)]at h;unfold U0 at h;rw[XE]at h;have:=KP h.1;omega
end Rb
namespace Rb
set_option linter.unusedSimpArgs false
abbrev P(y:Fd):List Sc.T:=pc [sp] [nl] y
theorem VA(x:Nd)(p b:Int)(ks:List Fd):P (.mk x p b ks)=frm [sp] [nl] x (ks.map fun t=>(rk t.x,P t)):=P9 _ _ _ _ _ _
theorem Gk(l:List Fd):(l.map fun t=>(rk t.x,P t)).map (·.2)=l.map P:=by simp
theorem WM{l:List Fd}(h:∀t∈l,Gd (P t)):Gd (cmg [sp] (l.map P)):=gcm (fun a d=>by
 obtain⟨t,g,rfl⟩:=Vw.1 d
 exact h t g)
theorem IX{q:List Fd}{z:Fd}:((q++[z]).map fun t=>(rk t.x,P t)).dropLast.map (·.2)=q.map P/\(((q++[z]).map fun t=>(rk t.x,P t)).getLast?.getD (0,[])).2=P z:=by
 rw[JI,List.map_singleton,List.dropLast_concat,List.getLast?_concat];exact⟨Gk q,rfl⟩
theorem G9{t:Fd}{z:Nd}:∀{l:List Fd},t∈l->z∈t.Xy->z∈Fd.Xy.giveL l
 | a::r,h,hz=>by
  rw[Fd.Jh];rcases Kr.1 h with rfl|h
  .exact List.mem_append_left _ hz
  .exact List.mem_append_right _ (G9 h hz)
variable {x:Nd} {p b:Int}
theorem Nf.nm{ks:List Fd}(h:Nf x ks)(a:x.kind=5\/x.kind=11\/x.kind=14\/x.kind=16\/x.kind=18\/x.kind=19\/x.kind=20\/x.kind=21):Dv (Rb.tx x):=Ur h.pl a
theorem Nf.tl{ks:List Fd}(h:Nf x ks)(a:x.kind=4\/x.kind=17\/x.kind=23):(Rb.tx x).length<=1000:=Y2e h.pl a
theorem g_e{ks:List Fd}(h:Nf x ks)(y:1<=x.kind/\x.kind<=19)(v:x.n<=9223372036854775807)(K:∀t∈ks,Gd (P t)):Gd (P (.mk x p b ks)):=by
 have g:=h.len;rw[VA];have u:x.kind=1\/x.kind=2\/x.kind=3\/x.kind=4\/x.kind=5\/x.kind=6\/x.kind=7\/x.kind=8\/x.kind=9\/x.kind=10\/x.kind=11\/x.kind=12\/x.kind=13\/x.kind=14\/x.kind=15\/x.kind=16\/x.kind=17\/x.kind=18\/x.kind=19:=by omega
 rcases u with k|k|k|k|k|k|k|k|k|k|k|k|k|k|k|k|k|k|k
 .simp only[frm,k];exact gw (by decide) Qs K8
 .simp only[frm,k];by_cases e:x.n=0
  .simp[e];exact gw (by decide) Qs K8
  .simp[e];exact gw (by decide) Qs K8
 .simp only[frm,k];exact gi (by omega)
 .simp only[frm,k];exact gt (h.tl (by omega)) Qs
 .simp only[frm,k];exact gn (h.nm (by omega)) Qs K8
 .obtain⟨a,rfl⟩:=ZG ks (g.1 (by omega));have s:=K a (by simp);simp only[frm,k,Y5,YD];by_cases e:x.op=1
  .simp only[e];exact gw (by decide) (gsp (gbr s)) (hsp _)
  .simp only[e];exact gm (by decide) (gbr s)
 .obtain⟨a,c,rfl⟩:=QR ks (g.2.1 (by omega));have A:1<=x.op/\x.op<=14:=by
   have:=h.pl;unfold Xr at this;split at this
   .cases this
   .exact KP (by simpa[k]using this)
  simp only[frm,k,Y5,YD];exact ga (gbr (K a (by simp))) (gsp (gO (by omega) (by omega) (gbr (K c (by simp))))) (hsp _)
 .simp only[frm,k];rw[Gk];exact gm (by decide) (ga (WM K) (gm (by decide) Qs) (hm (by decide) _))
 .simp only[frm,k];rw[Gk];exact gm (by decide) (ga (WM K) (gm (by decide) Qs) (hm (by decide) _))
 .obtain⟨a,c,rfl⟩:=QR ks (g.2.1 (by omega));simp only[frm,k,Y5,YD];exact ga (gbr (K a (by simp))) (gm (by decide) (ga (K c (by simp)) (gm (by decide) Qs) (hm (by decide) _))) (hm (by decide) _)
 .obtain⟨a,rfl⟩:=ZG ks (g.1 (by omega));simp only[frm,k,Y5,YD];exact ga (gbr (K a (by simp))) (gm (by decide) (gn (h.nm (by omega)) Qs K8)) (hm (by decide) _)
 .cases ks with
  | nil=>have:=g.2.2.2.2.2 (by omega);simp at this
  | cons a r=>
   simp only[frm,k,Y5];rw[Gk];exact ga (gbr (K a (by simp))) (gm (by decide) (ga (WM fun t m=>K t (by simp[m])) (gm (by decide) Qs) (hm (by decide) _))) (hm (by decide) _)
 .obtain⟨a,c,d,rfl⟩:=Wf ks (g.2.2.1 k);simp only[frm,k,Y5,YD];exact gw (by decide) (gsp (ga (K a (by simp)) (gsp (gw (by decide) (gsp (ga (K c (by simp)) (gsp (gw (by decide) (gsp (K d (by simp))) (hsp _))) (hsp _))) (hsp _))) (hsp _))) (hsp _)
 .obtain⟨a,c,rfl⟩:=QR ks (g.2.1 (by omega));simp only[frm,k,Y5,YD];exact gw (by decide) (gsp (gn (h.nm (by omega)) (gsp (gms (by decide) (ga (K a (by simp)) (gsp (gw (by decide) (gsp (K c (by simp))) (hsp _))) (hsp _)))) (hsp _))) (hsp _)
 .obtain⟨q,z,rfl⟩:=WU ks (g.2.2.2.2.2 (by omega));simp only[frm,k];rw[IX.1,IX.2];exact gw (by decide) (gm (by decide) (ga (WM fun t m=>K t (by simp[m])) (gm (by decide) (gsp (gms (by decide) (K z (by simp))))) (hm (by decide) _))) (hm (by decide) _)
 .have j:=h.nm (by omega);rcases g.2.2.2.1 k with e|e
  .obtain⟨a,c,rfl⟩:=QR ks e;simp only[frm,k,Y5,YD];exact gm (by decide) (ga (K c (by simp)) (gsp (gw (by decide) (gsp (gn j (gsp (gw (by decide) (gsp (ga (K a (by simp)) (gm (by decide) Qs) (hm (by decide) _))) (hsp _))) (hsp _))) (hsp _))) (hsp _))
  .obtain⟨a,c,d,rfl⟩:=Wf ks e;simp only[frm,k,Y5,YD];exact gm (by decide) (ga (K c (by simp)) (gsp (gw (by decide) (gsp (gn j (gsp (gw (by decide) (gsp (ga (K a (by simp)) (gsp (gw (by decide) (gsp (ga (K d (by simp)) (gm (by decide) Qs) (hm (by decide) _))) (hsp _))) (hsp _))) (hsp _))) (hsp _))) (hsp _))) (hsp _))
 .obtain⟨a,rfl⟩:=ZG ks (g.1 (by omega));simp only[frm,k,Y5,YD];by_cases e:K6 x.text=true
  .simp only[e];exact gn (BJ e) (gm (by decide) (gsp (K a (by simp)))) (hm (by decide) _)
  .simp only[e];exact gt (h.tl (by omega)) (gm (by decide) (gsp (K a (by simp))))
 .obtain⟨a,rfl⟩:=ZG ks (g.1 (by omega));simp only[frm,k,Y5,YD];exact gn (h.nm (by omega)) (gsp (gms (by decide) (K a (by simp)))) (hsp _)
 .have j:=h.nm (by omega);rcases g.2.2.2.2.1 k with e|e
  .obtain rfl:=Uy.1 e;simp only[frm,k,YD];exact gn j Qs K8
  .obtain⟨a,rfl⟩:=ZG ks e;simp only[frm,k,Y5,YD];exact gn j (gsp (gms (by decide) (K a (by simp)))) (hsp _)
theorem g_s{ks:List Fd}(h:Nf x ks)(r:20<=x.kind/\x.kind<=23)(K:∀t∈ks,Gd (P t)):Gs (P (.mk x p b ks)):=by
 have g:=h.len;rw[VA];have j:x.kind=20\/x.kind=21\/x.kind=22\/x.kind=23:=by omega
 have d:∀{l:List Sc.T},Gd l->Gd (l++[tm [59]]):=fun h=>ga h (gm (by decide) Qs) (hm (by decide) _);rcases j with k|k|k|k
 .obtain⟨q,z,rfl⟩:=WU ks (g.2.2.2.2.2 (by omega));simp only[frm,k];rw[IX.1,IX.2];have e:=L4 (gw (t:=Z7) (by decide) (gsp (gn (h.nm (by omega)) (gm (m:=[40]) (by decide) (ga (WM (l:=q) fun t n=>K t (by simp[n])) (gm (m:=[41]) (by decide) (gsp (gms (m:=[61]) (by decide) (d (K z (by simp)))))) (hm (by decide) _))) (hm (by decide) _))) (hsp _));simpa[tx]using e
 .obtain⟨a,rfl⟩:=ZG ks (g.1 (by omega));simp only[frm,k,Y5,YD];have e:=L4 (gw (t:=XM) (by decide) (gsp (gn (h.nm (by omega)) (gsp (gms (m:=[61]) (by decide) (d (K a (by simp))))) (hsp _))) (hsp _));simpa[tx]using e
 .obtain⟨a,rfl⟩:=ZG ks (g.1 (by omega));simp only[frm,k,Y5,YD];have e:=L4 (gw (t:=K3) (by decide) (gsp (d (K a (by simp)))) (hsp _));simpa[tx]using e
 .simp only[frm,k];rw[Gk];have e:=L4 (gw (t:=Kj) (by decide) (gsp (gt (h.tl (by omega)) (gm (m:=[58]) (by decide) (gsp (d (WM K)))))) (hsp _));simpa[tx]using e
theorem X1q:∀(n:Nat) (y:Fd),y.size<=n->y.VF=true->y.x.kind≠24->(∀z∈y.Xy,z.n<=9223372036854775807)->(y.x.kind<=19->Gd (P y))/\(20<=y.x.kind->Gs (P y)):=by
 intro n;induction n with
 | zero=>intro y B;have:=Fd.size_pos y;omega
 | succ n H=>
  intro y B A j k;obtain⟨x,p,b,ks⟩:=y;rw[Fd.UU]at B;have h:=Nf.of A;have s:=(Wj A).2.2.2;have u:x.kind≠24:=j;rw[Fd.Zh]at k;have g:∀t∈ks,t.x.kind<=19:=by
   by_cases C:x.kind<20
   .intro t a;have:=Fd.Ak h.fit C t a;omega
   .intro t a;have d:=h.fit;unfold YE at d;rw[X6 (by omega),X6 (by omega)]at d;split at d
    .rw[XE,Ju,←Uz,←Ud]at d;have:t∈ks.take (ks.length-1)++ks.drop (ks.length-1):=by rw[JX];exact a
     rcases KC.1 this with m|m
     .have:=btw d.1 t m;omega
     .have:=btw d.2 t m;omega
    .split at d
     .have:=btw d t a;omega
     .have:=btw d t a;omega
  have K:∀t∈ks,Gd (P t):=fun t a=>(H t (by have:=Fd.Wc a;omega) (s t a) (by have:=g t a;omega) (fun z F=>k z (List.mem_append_left _ (G9 a F)))).1 (g t a);have E:x.n<=9223372036854775807:=k {x with kids:=ks.length} (by simp);have v:1<=x.kind/\x.kind<=23:=by
   have r:=h.cnt;unfold K5 at r;by_cases e:1<=x.kind/\x.kind<=23
   .exact e
   .exfalso;rw[X6 (by omega),X6 (by omega),X6 (by omega),X6 (by omega),X6 (by omega),X6 (by omega),X6 (by omega),X6 (by omega),X6 (by omega)]at r;have:=Qn r;omega
  exact⟨fun e=>g_e h ⟨v.1,e⟩ E K,fun e=>g_s h ⟨e,v.2⟩ K⟩
def txt(y:Fd):List UInt8:=bts (P y)
theorem SH:∀{L:List (List Sc.T)},(∀a∈L,Gs a)->Ch L.flatten []
 | [],_=>trivial
 | a::L,h=>(IK a L.flatten []).2 ⟨h a (by simp) _,SH fun b d=>h b (by simp[d])⟩
theorem X0y{ks:List Fd}(k:x.kind=24)(m:(Fd.mk x p b ks).VF=true)(j:∀z∈(Fd.mk x p b ks).Xy,z.n<=9223372036854775807):(Sc.from_ (txt (.mk x p b ks)) 0).1.map cl=tk (.mk x p b ks)/\(Sc.from_ (txt (.mk x p b ks)) 0).2=(0,0):=by
 have d:=(Nf.of m).fit;unfold YE at d;rw[X6 (by omega),X6 (by omega),X6 (by omega),X6 (by omega),Xa k]at d;have v:=btw d;rw[Fd.Zh]at j;have r:P (.mk x p b ks)=(ks.map P).flatten:=by
  rw[VA];simp only[frm,k];simp[Mg,List.flatMap_def];try rfl
 have u:Ch (P (.mk x p b ks)) []:=by
  rw[r];refine SH fun a s=>?_;obtain⟨t,g,rfl⟩:=Vw.1 s;have:=v t g;exact(X1q _ t (X5 _) ((Wj m).2.2.2 t g) (by omega) (fun z y=>j z (List.mem_append_left _ (G9 g y)))).2 (by omega)
 have:=LL _ u ((txt (.mk x p b ks)).length+1) 0 (Q9 _);rw[Y2k _ _ (X5 _)]at this;unfold Sc.from_;rw[Kh];exact this
