import Derived.Test.YtaeafhenpjnhiaaGreatDoorE09
import Derived.Test.YtaeafhenpjnhiaaGreatDoorE10
import Derived.Test.YtaeafhenpjnhiaaGreatDoorE06
namespace Go.Proofs.YtaeafhenpjnhiaaGreatDoor
open Go.RowKit
theorem X7s(a:Int)(ns:List Nd)(ls:List Nat)(j tc g c:Nat)(w:World)(k:ls.length<=1048576)(m:K1 w j ns)(hi:YZ w g 0 ls)(d:∀x∈ls,x<ns.length)(n:ls.length<=c): CB 41 #[.agg #[.l j ns.length tc],.q a,.l g ls.length c] w (.bool (XU ns a ls)):=by
 by_cases y:a<1\/24<a
 .exact X7u a ns ls j tc g c w k m hi d y
 by_cases A:a=9
 .exact X7r a ns ls j tc g c w k m hi d A
 by_cases r:a=12
 .exact X7m a ns ls j tc g c w k m hi d r n
 by_cases s:a=15\/a=20
 .exact X7t a ns ls j tc g c w k m hi d s
 by_cases u:a=23
 .exact X7p a ns ls j tc g c w k m hi d u
 by_cases v:a=24
 .exact X7q a ns ls j tc g c w k m hi d v
 exact X7v a ns ls j tc g c w k m hi d (by omega)
theorem N3(ns:List Nd)(i:Nat)(op:List Nat)(h:∀x∈op,x<i):∀j ks,(XF ns i op).1[j]?=some ks->∀x∈ks,x<i+j:=by
 induction ns generalizing i op with
 | nil=>intro j ks a;simp[XF]at a
 | cons d r s=>
  intro j ks a x n;by_cases m:d.kids<0\/(op.length:Int)<d.kids
  .simp[XF,m]at a
  .have e:(XF (d::r) i op).1=op.drop (op.length-d.kids.toNat)::(XF r (i+1) (op.take (op.length-d.kids.toNat)++[i])).1:=by
    rw[XF,X6 m]
   have k:∀x∈op.take (op.length-d.kids.toNat)++[i],x<i+1:=by
    intro y g;rcases KC.1 g with g|g
    .have:=h y (Ue g);omega
    .have:y=i:=by simpa using g
     omega
   rw[e]at a;cases j with
   | zero=>
    rw[Kq]at a;cases a;exact h x (Q8 n)
   | succ j=>
    rw[ZZ]at a;have:=s (i+1) _ k j ks a x n;omega
theorem Hw(ns:List Nd)(j:Nat)(a:j<(YF ns).length):∀x∈(YF ns)[j],x<j:=by
 intro x d;have:=N3 ns 0 [] (fun x h=>by cases h) j _ (K0 a) x d;omega
theorem N4(ns:List Nd)(i:Nat)(op:List Nat):∀j ks,(XF ns i op).1[j]?=some ks->ks.length<=op.length+j:=by
 induction ns generalizing i op with
 | nil=>intro j ks a;simp[XF]at a
 | cons d r k=>
  intro j ks a;by_cases g:d.kids<0\/(op.length:Int)<d.kids
  .simp[XF,g]at a
  .have e:(XF (d::r) i op).1=op.drop (op.length-d.kids.toNat)::(XF r (i+1) (op.take (op.length-d.kids.toNat)++[i])).1:=by
    rw[XF,X6 g]
   rw[e]at a;cases j with
   | zero=>
    rw[Kq]at a;cases a;simp
   | succ j=>
    rw[ZZ]at a;have:=k (i+1) _ j ks a;simp at this;omega
theorem S8(ns:List Nd)(j:Nat)(a:j<(YF ns).length):((YF ns)[j]).length<=j:=by
 have:=N4 ns 0 [] j _ (K0 a);simpa using this
theorem S9(ns:List Nd)(i:Nat)(op:List Nat):(XF ns i op).1.length<=ns.length/\((XF ns i op).2≠none->(XF ns i op).1.length=ns.length):=by
 induction ns generalizing i op with
 | nil=>simp[XF]
 | cons d r g=>
  by_cases a:d.kids<0\/(op.length:Int)<d.kids
  .simp[XF,a]
  .have:=g (i+1) (op.take (op.length-d.kids.toNat)++[i]);simp only[XF,X6 a,XI];exact⟨by omega,fun h=>by have:=this.2 h;omega⟩
theorem S7{ns:List Nd}(h:Qc ns=true):(YF ns).length=ns.length:=by
 refine(S9 ns 0 []).2 fun e=>?_;unfold Qc at h;rw[e]at h;cases h
section
variable {ts:List Sc.T} {sz:Nat} {s:Pr.Dk}
theorem RC{o x:Nat}(g:1<=o/\o<=14)(j:1<=x/\x<=14)(h:Yd o=Yd x):o=x:=by
 have d:∀a:Fin 15,∀b:Fin 15,1<=a.val->1<=b.val->Yd a.val=Yd b.val->a.val=b.val:=by decide
 exact d ⟨o,by omega⟩ ⟨x,by omega⟩ g.1 j.1 h
theorem Ij{t u:List UInt8}(h:X4 ts sz s t=true)(k:X4 ts sz s u=true):t=u:=by
 unfold X4 at h k;simp only[XE,Ql]at h k;rw[←h.2,←k.2]
theorem Dz{r:Nat}:∀f o,Ks ts sz s r f o=0\/(o<=Ks ts sz s r f o/\Ks ts sz s r f o<o+f/\Xi (Ks ts sz s r f o)=r/\X4 ts sz s (Yd (Ks ts sz s r f o))=true)
 | 0,_=> .inl rfl
 | f+1,o=>by
  rw[Ks];split
  .rename_i h;simp only[XE,Ql]at h;exact .inr ⟨X5 _,by omega,h.1,h.2⟩
  .rcases Dz f (o+1)with h|⟨g,j,a,d⟩
   .exact .inl h
   .exact .inr ⟨by omega,by omega,a,d⟩
theorem RG{r x:Nat}(d:Xi x=r)(k:X4 ts sz s (Yd x)=true):∀f o,o<=x->x<o+f->Ks ts sz s r f o≠0\/(x=0)
 | 0,_,h1,h2=>by omega
 | f+1,o,h1,h2=>by
  rw[Ks];split
  .by_cases u:o=0
   .rename_i h;by_cases m:x=0
    .exact .inr m
    .subst u;simp only[XE,Ql]at h;have hm:Yd 0=([]:List UInt8):=rfl;have:=Ij h.2 k;exfalso;rw[hm]at this;have g:x<=14\/14<x:=by omega
     rcases g with g|g
     .have n:∀a:Fin 15,1<=a.val->([]:List UInt8)≠Yd a.val:=by decide
      exact n ⟨x,by omega⟩ (by show 1<=x;omega) this
     .unfold Xi at h d;rw[Xa (by omega)]at h;rw[X6 (by omega),X6 (by omega),X6 (by omega)]at d;omega
   .exact .inl u
  .rename_i h;by_cases j:o=x
   .subst j;exact absurd (by rw[d,k];simp) h
   .exact RG d k f (o+1) (by omega) (by omega)
theorem Ms{x:Nat}(j:1<=x)(n:x<=14)(k:X4 ts sz s (Yd x)=true):YT ts sz s (Xi x)=x/\∀r,r≠Xi x->YT ts sz s r=0:=by
 unfold YT;refine⟨?_,fun r v=>?_⟩
 .rcases RG rfl k 14 1 j (by omega)with h|h
  .rcases Dz (ts:=ts) (sz:=sz) (s:=s) (r:=Xi x) 14 1 with g|⟨a,u,_,d⟩
   .exact absurd g h
   .exact RC ⟨a,by omega⟩ ⟨j,n⟩ (Ij d k)
  .omega
 .rcases Dz (ts:=ts) (sz:=sz) (s:=s) (r:=r) 14 1 with g|⟨a,u,m,d⟩
  .exact g
  .have:=RC ⟨a,by omega⟩ ⟨j,n⟩ (Ij d k);rw[this]at m;exact absurd m.symm v
theorem Fe(h:∀x,1<=x->x<=14->X4 ts sz s (Yd x)=false)(r:Nat):YT ts sz s r=0:=by
 unfold YT;rcases Dz (ts:=ts) (sz:=sz) (s:=s) (r:=r) 14 1 with g|⟨d,j,_,a⟩
 .exact g
 .rw[h _ d (by omega)]at a;cases a
theorem RJ{x:Nat}(g:1<=x)(j:x<=14):Xi x∈([6,5,4,2,1]:List Nat):=by
 have d:∀a:Fin 15,1<=a.val->Xi a.val∈([6,5,4,2,1]:List Nat):=by decide
 exact d ⟨x,by omega⟩ g
end
namespace Rb
def cl(t:Sc.T):Sc.T:={t with place:=0}
def rem(ts:List Sc.T)(p:Nat):List Sc.T:=(ts.drop p).map cl
def isT(l:List Sc.T)(t:List UInt8):Bool:=match l with
 | []=>false
 | x::_=>(x.kind==2||x.kind==5)&&x.text==t
def fin(k:Nat)(l:List Sc.T):Bool:=(List.range 15).all (fun o=>o==0||decide (Xi o<k)||!isT l (Yd o))&&!isT l [40]&&!isT l [91]&&!isT l [46]
def D(p:Nat)(o:List Nd):Pr.Dk:=⟨p,false,0,o⟩
variable {ts:List Sc.T} {sz:Nat}
theorem YL{p:Nat}{l r:List Sc.T}(h:rem ts p=l++r):rem ts (p+l.length)=r:=by
 unfold rem at *;rw[←Ub,Ud,h,List.drop_left]
theorem Y9{p:Nat}{x:Sc.T}{r:List Sc.T}(h:rem ts p=x::r):rem ts (p+1)=r:=YL (l:=[x]) h
theorem GZ{p:Nat}{x:Sc.T}{r:List Sc.T}(h:rem ts p=x::r)(o:List Nd):cl (X3 ts sz (D p o))=x/\p<ts.length:=by
 unfold rem at h;cases d:ts.drop p with
 | nil=>rw[d]at h;cases h
 | cons a b=>
  rw[d]at h;have g:ts[p]?=some a:=by rw[←List.head?_drop,d];rfl
  have j:cl a=x:=by injection h
  refine⟨?_,?_⟩
  .show cl (ts[p]?.getD _)=x;rw[g];exact j
  .exact(I5.1 g).1
theorem Xt(p:Nat)(o:List Nd)(t:List UInt8):X4 ts sz (D p o) t=isT (rem ts p) t:=by
 cases h:rem ts p with
 | nil=>
  have a:ts[p]?=none:=by
   have d:ts.drop p=[]:=by unfold rem at h;simpa using h
   rw[←List.head?_drop,d];rfl
  unfold X4 X3 isT;show(!false&&((ts[p]?.getD _).kind==2||(ts[p]?.getD _).kind==5)&&(ts[p]?.getD _).text==t)=false;rw[a];rfl
 | cons x r=>
  have:=(GZ (sz:=sz) h o).1;unfold X4 isT;rw[←this];show(!false&&((X3 ts sz (D p o)).kind==2||(X3 ts sz (D p o)).kind==5)&&(X3 ts sz (D p o)).text==t)=_;simp[cl]
theorem QI{l:List Sc.T}(h:l≠[])(r:List Sc.T)(t:List UInt8):isT (l++r) t=isT l t:=by
 cases l with
 | nil=>exact absurd rfl h
 | cons x l=>rfl
theorem IT{k j:Nat}{l:List Sc.T}(h:fin k l=true)(d:k<=j):fin j l=true:=by
 unfold fin at *;simp only[XE,Ua,UX,VO]at h⊢;refine⟨⟨⟨fun o a=>?_,h.1.1.2⟩,h.1.2⟩,h.2⟩;rcases h.1.1.1 o a with(h|h)|h
 .exact .inl (.inl h)
 .exact .inl (.inr (by omega))
 .exact .inr h
theorem C2{k j p:Nat}(h:fin k (rem ts p)=true)(u:k<=j)(o:List Nd):YT ts sz (D p o) j=0:=by
 unfold YT;rcases Dz (ts:=ts) (sz:=sz) (s:=D p o) (r:=j) 14 1 with g|⟨m,d,n,a⟩
 .exact g
 .exfalso;rw[Xt]at a;unfold fin at h;simp only[XE,Ua,UX,VO]at h;rcases h.1.1.1 _ (Wq.2 d)with(h|h)|h
  .have:=eq_of_beq h;omega
  .omega
  .rw[a]at h;cases h
theorem X0z{k p:Nat}(h:fin k (rem ts p)=true)(o:List Nd):X4 ts sz (D p o) [40]=false/\X4 ts sz (D p o) [91]=false/\X4 ts sz (D p o) [46]=false:=by
 unfold fin at h;simp only[XE,Rh]at h;rw[Xt,Xt,Xt];exact⟨h.1.1.2,h.1.2,h.2⟩
variable (ts sz)
def Rd(c:Zb)(F:List Sc.T->Prop)(l:List Sc.T)(o:List Nd)(n:Nat):Prop:=∀p out r,rem ts p=l++r->F r->Pr.Cv ts sz c (D p out) (D (p+l.length) (out++o),n)
def LC(k:Nat)(l:List Sc.T)(o:List Nd):Prop:=∀p out r res,rem ts p=l++r->fin (k+1) r=true->Pr.Cv ts sz (.opsL k) (D (p+l.length) (out++o)) res->Pr.Cv ts sz (.ops k) (D p out) res
def LD(k:Nat)(l:List Sc.T)(o:List Nd):Prop:=Rd ts sz (.ops k) (fun r=>fin k r=true) l o 0
def L8(l:List Sc.T)(o:List Nd):Prop:=∀p out r res,rem ts p=l++r->Pr.Cv ts sz .Yr (D (p+l.length) (out++o)) res->Pr.Cv ts sz .post (D p out) res
def L9(l:List Sc.T)(o:List Nd):Prop:=Rd ts sz .single (fun _=>True) l o 0
def LE(l:List Sc.T)(o:List Nd):Prop:=Rd ts sz .e (fun r=>fin 1 r=true) l o 0
def Lv(k:Nat)(l:List Sc.T)(o:List Nd):Prop:=if k=0 then LE ts sz l o else if k=1\/k=2\/k=5\/k=6 then LC ts sz k l o else if k=8 then L8 ts sz l o else if k=9 then L9 ts sz l o else LD ts sz k l o
variable {ts sz}
theorem LC.read{k:Nat}{l:List Sc.T}{o:List Nd}(h:LC ts sz k l o):LD ts sz k l o:=fun p out r d a=>
 h p out r _ d (IT a (Qy k)) (Pr.Cv.Lz (by rw[C2 (by rw[YL d];exact a) (X5 k)];rfl))
theorem L9.down{l:List Sc.T}{o:List Nd}(h:L9 ts sz l o):L8 ts sz l o:=fun p out r _ d a=>Pr.Cv.post (h p out r d trivial) a
theorem L8.down{l:List Sc.T}{o:List Nd}(h:L8 ts sz l o)(k:l≠[])(g:isT l [45]=false):LD ts sz 7 l o:=fun p out r d j=>by
 obtain⟨a,b,c⟩:=X0z (sz:=sz) (show fin 7 (rem ts (p+l.length))=true by rw[YL d];exact j) (out++o)
 exact Pr.Cv.D0 rfl rfl (by rw[Xt,d,QI k];exact g) (h p out r _ d (Pr.Cv.Pc rfl a b c))
theorem LD.up{k:Nat}{l:List Sc.T}{o:List Nd}(h:LD ts sz (k+1) l o)(a:(k==3)=false)(d:(k==7)=false):LC ts sz k l o:=fun p out r _ m j g=>
 Pr.Cv.Vk rfl a d (h p out r m j) g
theorem LD.TR{l:List Sc.T}{o:List Nd}(h:LD ts sz 5 l o):LD ts sz 4 l o:=fun p out r d a=>
 Pr.Cv.Vk rfl rfl rfl (h p out r d (IT a (by omega))) (Pr.Cv.Lz (by rw[C2 (by rw[YL d];exact a) (X5 4)];rfl))
theorem LD.TQ{l:List Sc.T}{o:List Nd}(h:LD ts sz 4 l o)(j:l≠[])(d:isT l Zk=false):LD ts sz 3 l o:=fun p out r a g=>
 Pr.Cv.P3 rfl (by rw[Xt,a,QI j];exact d) (h p out r a (IT g (by omega)))
theorem LD.TS{l:List Sc.T}{o:List Nd}(h:LD ts sz 1 l o)(d:l≠[])(g:isT l XM=false)(j:isT l XR=false)(k:isT l Zz=false):LE ts sz l o:=fun p out r a m=>
 Pr.Cv.VP (by rw[Xt,a,QI d];exact g) (by rw[Xt,a,QI d];exact j) (by rw[Xt,a,QI d];exact k) (h p out r a m)
def WX(l:List Sc.T):Bool:=match l with
 | x::y::_=>x.kind==1&&y.kind==5&&y.text==[61]
 | _=>false
structure Hd (k:Nat) (l:List Sc.T):Prop where
 ne:l≠[]
 cb:isT l [93]=false/\isT l [41]=false
 nm:∀y r,(y.kind==5&&y.text==[61])=false->WX (l++y::r)=false
 e:1<=k->isT l XM=false/\isT l XR=false/\isT l Zz=false
 no:4<=k->isT l Zk=false
 neg:8<=k->isT l [45]=false
theorem Hd.le{k j:Nat}{l:List Sc.T}(h:Hd k l)(d:j<=k):Hd j l:=⟨h.ne,h.cb,h.nm,fun a=>h.e (by omega),fun a=>h.no (by omega),fun a=>h.neg (by omega)⟩
theorem Lv.step{k:Nat}{l:List Sc.T}{o:List Nd}(g:k<9)(h:Lv ts sz (k+1) l o)(a:Hd (k+1) l):Lv ts sz k l o:=by
 have d:k=0\/k=1\/k=2\/k=3\/k=4\/k=5\/k=6\/k=7\/k=8:=by omega
 rcases d with rfl|rfl|rfl|rfl|rfl|rfl|rfl|rfl|rfl
 .exact LD.TS (LC.read (k:=1) h) a.ne (a.e (by omega)).1 (a.e (by omega)).2.1 (a.e (by omega)).2.2
 .exact LD.up (k:=1) (LC.read (k:=2) h) rfl rfl
 .exact LD.up (k:=2) h rfl rfl
 .exact LD.TQ h a.ne (a.no (by omega))
 .exact LD.TR (LC.read (k:=5) h)
 .exact LD.up (k:=5) (LC.read (k:=6) h) rfl rfl
 .exact LD.up (k:=6) h rfl rfl
 .exact L8.down h a.ne (a.neg (by omega))
 .exact L9.down h
theorem Lv.down{l:List Sc.T}{o:List Nd}:∀(k j:Nat),j<=k->k<=9->Lv ts sz k l o->Hd k l->Lv ts sz j l o
 | 0,j,hj,_,h,_=>by
  obtain rfl:j=0:=by omega
  exact h
 | k+1,j,hj,hk,h,hd=>by
  by_cases e:j=k+1
  .rw[e];exact h
  .exact Lv.down k j (by omega) (by omega) (Lv.step (by omega) h hd) (hd.le (by omega))
theorem Lv.ops{k:Nat}{l:List Sc.T}{o:List Nd}(h:Lv ts sz k l o)(d:1<=k)(g:k<=7):LD ts sz k l o:=by
 have a:k=1\/k=2\/k=3\/k=4\/k=5\/k=6\/k=7:=by omega
 rcases a with rfl|rfl|rfl|rfl|rfl|rfl|rfl
 .exact LC.read (k:=1) h
 .exact LC.read (k:=2) h
 .exact h
 .exact h
 .exact LC.read (k:=5) h
 .exact LC.read (k:=6) h
 .exact h
end Rb
section
variable {ts:List Sc.T} {sz:Nat} {s:Pr.Dk} {q n:Nat}
def Pr.Bd(q:Nat)(s:Pr.Dk):Prop:=s.bad=true/\s.place=q
theorem Pr.Bd.X7(h:Pr.Bd q s)(t:List UInt8):Pr.Bd q (Xd ts sz s t):=by rw[Il h.1];exact h
theorem Pr.Bd.put(h:Pr.Bd q s)(k o n:Int)(t:List UInt8)(c:Nat):Pr.Bd q (X9 s k o n t c):=h
theorem Pr.Bd.outs(h:Pr.Bd q s)(l:List Nd):Pr.Bd q {s with o:=l}:=h
theorem Pr.Bd.Zw{t:List UInt8}(a:s.bad=false)(h:X4 ts sz s t=false):Pr.Bd (X3 ts sz s).place (Xd ts sz s t):=Fa a h
theorem Pr.Bd.Ur(a:s.bad=false)(h:K2 ts sz s=false):Pr.Bd (X3 ts sz s).place (Xm ts sz s):=by
 unfold Xm Z0;rw[h,a];exact⟨rfl,rfl⟩
theorem Pr.Bd.LW(a:s.bad=false):Pr.Bd (X3 ts sz s).place (Z0 ts sz s):=by
 unfold Z0;rw[a];exact⟨rfl,rfl⟩
theorem Jw(h:K2 ts sz s=true):Xm ts sz s=X2 s:=by unfold Xm;rw[h];rfl
theorem UB(h:K2 ts sz s=true):Xe ts sz s=(X3 ts sz s).text:=by unfold Xe;rw[h];rfl
theorem QA(a:s.bad=false):K2 ts sz s=((X3 ts sz s).kind==1):=by unfold K2;rw[a];rfl
theorem Pr.Ends.of{c:Zb}{r:Pr.Dk × Nat}(k:Pr.Cv ts sz c s r)(h:Pr.Bd q r.1):Pr.Ends ts sz c s q:=⟨r,k,h.1,h.2⟩
theorem Pr.Ends.get{c:Zb}(h:Pr.Ends ts sz c s q):∃r,Pr.Cv ts sz c s r/\Pr.Bd q r.1:=h
theorem Pr.Bd.e(h:Pr.Bd q s):Pr.Ends ts sz .e s q:=h.2 ▸ Pr.Ends.e h.1
theorem Pr.Bd.params(h:Pr.Bd q s):Pr.Ends ts sz .params s q:=h.2 ▸ Pr.Ends.params h.1
theorem Pr.Bd.Yn(h:Pr.Bd q s)(n:Nat):Pr.Ends ts sz (.Yn n) s q:=h.2 ▸ Pr.Ends.Yn h.1 n
theorem Pr.Bd.Zl(h:Pr.Bd q s)(n:Nat):Pr.Ends ts sz (.Zl n) s q:=h.2 ▸ Pr.Ends.Zl h.1 n
theorem Pr.Bd.YX(h:Pr.Bd q s)(n:Nat):Pr.Ends ts sz (.YX n) s q:=h.2 ▸ Pr.Ends.YX h.1 n
theorem Pr.Bd.Yr(h:Pr.Bd q s):Pr.Ends ts sz .Yr s q:=h.2 ▸ Pr.Ends.Yr h.1
theorem Pr.Bd.is(h:Pr.Bd q s)(t:List UInt8):X4 ts sz s t=false:=V6 h.1 t
theorem Yc{t u:List UInt8}(h:X4 ts sz s t=true)(hne:(t==u)=false):X4 ts sz s u=false:=by
 cases k:X4 ts sz s u
 .rfl
 .have:=Ij h k;subst this;simp at hne
theorem Qh{t:List UInt8}(h:X4 ts sz s t=true)(k:Nat)(a:(k==2)=false)(d:(k==5)=false):((X3 ts sz s).kind==k)=false:=by
 unfold X4 at h;simp only[XE,UX,Ql]at h;rcases h.1.2 with e|e
 .rw[e];rw[UM]at a⊢;exact fun x=>a x.symm
 .rw[e];rw[UM]at d⊢;exact fun x=>d x.symm
theorem Ki{t:List UInt8}(h:X4 ts sz s t=true):s.bad=false:=by
 cases e:s.bad
 .rfl
 .rw[V6 e]at h;cases h
/- let, if, fn -/
theorem Pr.Ends.Oz(hi:X4 ts sz s XM=true)(h:Pr.Ends ts sz .e (Xd ts sz (Xm ts sz (X2 s)) [61]) q):Pr.Ends ts sz .e s q:=by
 obtain⟨r1,g,a⟩:=h.get;obtain⟨r2,j,d⟩:=(a.X7 Y1).e.get;exact .of (.DW hi g j) (d.put _ _ _ _ _)
theorem Pr.Ends.Bl{r1:Pr.Dk × Nat}(hi:X4 ts sz s XM=true)(d:Pr.Cv ts sz .e (Xd ts sz (Xm ts sz (X2 s)) [61]) r1)(h:Pr.Ends ts sz .e (Xd ts sz r1.1 Y1) q):Pr.Ends ts sz .e s q:=by
 obtain⟨r2,g,a⟩:=h.get;exact .of (.DW hi d g) (a.put _ _ _ _ _)
theorem Pr.Ends.if3{r1 r2:Pr.Dk × Nat}(hi:X4 ts sz s XR=true)(d:Pr.Cv ts sz .e (X2 s) r1)(g:Pr.Cv ts sz .e (Xd ts sz r1.1 Qi) r2)(h:Pr.Ends ts sz .e (Xd ts sz r2.1 Qq) q):Pr.Ends ts sz .e s q:=by
 obtain⟨k,j,a⟩:=h.get;exact .of (.IQ (Yc hi (by decide)) hi d g j) (a.put _ _ _ _ _)
theorem Pr.Ends.if2{r1:Pr.Dk × Nat}(hi:X4 ts sz s XR=true)(d:Pr.Cv ts sz .e (X2 s) r1)(h:Pr.Ends ts sz .e (Xd ts sz r1.1 Qi) q):Pr.Ends ts sz .e s q:=by
 obtain⟨r2,g,a⟩:=h.get;exact .if3 hi d g (a.X7 _).e
theorem Pr.Ends.if1(hi:X4 ts sz s XR=true)(h:Pr.Ends ts sz .e (X2 s) q):Pr.Ends ts sz .e s q:=by
 obtain⟨r1,d,a⟩:=h.get;exact .if2 hi d (a.X7 _).e
theorem Pr.Ends.fn2{r1:Pr.Dk × Nat}(hi:X4 ts sz s Zz=true)(d:Pr.Cv ts sz .params (X2 s) r1)(h:Pr.Ends ts sz .e (Xd ts sz r1.1 [61,62]) q):Pr.Ends ts sz .e s q:=by
 obtain⟨r2,g,a⟩:=h.get;exact .of (.IN (Yc hi (by decide)) (Yc hi (by decide)) hi d g) (a.put _ _ _ _ _)
theorem Pr.Ends.fn1(hi:X4 ts sz s Zz=true)(h:Pr.Ends ts sz .params (X2 s) q):Pr.Ends ts sz .e s q:=by
 obtain⟨r1,d,a⟩:=h.get;exact .fn2 hi d (a.X7 _).e
theorem Pr.Ends.VP(d:X4 ts sz s XM=false)(g:X4 ts sz s XR=false)(j:X4 ts sz s Zz=false)(h:Pr.Ends ts sz (.ops 1) s q):Pr.Ends ts sz .e s q:=by
 obtain⟨r1,k,a⟩:=h.get;exact .of (.VP d g j k) a
/- params -/
theorem Pr.Ends.params1(h:Pr.Ends ts sz (.Yn 0) (Xd ts sz s [40]) q):Pr.Ends ts sz .params s q:=by
 obtain⟨r1,d,a⟩:=h.get;exact .of (.params d) (a.X7 _)
theorem Pr.Ends.params2{r1:Pr.Dk × Nat}(a:Pr.Cv ts sz (.Yn 0) (Xd ts sz s [40]) r1)(h:Pr.Bd q (Xd ts sz r1.1 [41])):Pr.Ends ts sz .params s q:= .of (.params a) h
theorem Pr.Ends.Xde(a:s.bad=false)(d:(n==0&&X4 ts sz s [41])=false)(h:Pr.Bd q (Xm ts sz s)):Pr.Ends ts sz (.Yn n) s q:=.of (.GD a d (h.is _) ((h.put _ _ _ _ _).is _)) (h.put _ _ _ _ _)
theorem Pr.Ends.Xdf(g:s.bad=false)(j:(n==0&&X4 ts sz s [41])=false)(d:X4 ts sz (Xm ts sz s) [61]=true)(h:Pr.Ends ts sz .e (X2 (Xm ts sz s)) q):Pr.Ends ts sz (.Yn n) s q:=by
 obtain⟨r1,k,a⟩:=h.get;exact .of (.GG g j d ((a.put _ _ _ _ _).is _) k) (a.put _ _ _ _ _)
theorem Pr.Ends.Xdg{r1:Pr.Dk × Nat}(j:s.bad=false)(k:(n==0&&X4 ts sz s [41])=false)(d:X4 ts sz (Xm ts sz s) [61]=true)(m:Pr.Cv ts sz .e (X2 (Xm ts sz s)) r1)(g:X4 ts sz (X9 r1.1 19 0 0 (Xe ts sz s) 1) [44]=true)(h:Pr.Ends ts sz (.Yn (n+1)) (X2 (X9 r1.1 19 0 0 (Xe ts sz s) 1)) q):Pr.Ends ts sz (.Yn n) s q:=by
 obtain⟨r2,r,a⟩:=h.get;exact .of (.GF j k d g m r) a
theorem Pr.Ends.Xdh(j:s.bad=false)(k:(n==0&&X4 ts sz s [41])=false)(d:X4 ts sz (Xm ts sz s) [61]=false)(g:X4 ts sz (X9 (Xm ts sz s) 19 0 0 (Xe ts sz s) 0) [44]=true)(h:Pr.Ends ts sz (.Yn (n+1)) (X2 (X9 (Xm ts sz s) 19 0 0 (Xe ts sz s) 0)) q):Pr.Ends ts sz (.Yn n) s q:=by
 obtain⟨r2,m,a⟩:=h.get;exact .of (.GC j k d g m) a
/- args -/
theorem Pr.Ends.NF(h:Pr.Ends ts sz (.argsL 0 false) s q):Pr.Ends ts sz .args s q:=by
 obtain⟨r1,d,a⟩:=h.get;exact .of (.args d) (a.X7 _)
theorem Pr.Ends.NG{r1:Pr.Dk × Nat}(a:Pr.Cv ts sz (.argsL 0 false) s r1)(h:Pr.Bd q (Xd ts sz r1.1 [41])):Pr.Ends ts sz .args s q:= .of (.args a) h
theorem Pr.Ends.Nx{b:Bool}(g:s.bad=false)(j:(n==0&&X4 ts sz s [41])=false)(d:(b||Yl ts sz s)=true)(h:Pr.Ends ts sz .e (Xd ts sz (Xm ts sz s) [61]) q):Pr.Ends ts sz (.argsL n b) s q:=by
 obtain⟨r1,k,a⟩:=h.get;exact .of (.VI g j d ((a.put _ _ _ _ _).is _) k) (a.put _ _ _ _ _)
theorem Pr.Ends.Ny{b:Bool}{r1:Pr.Dk × Nat}(j:s.bad=false)(k:(n==0&&X4 ts sz s [41])=false)(d:(b||Yl ts sz s)=true)(m:Pr.Cv ts sz .e (Xd ts sz (Xm ts sz s) [61]) r1)(g:X4 ts sz (X9 r1.1 18 0 0 (Xe ts sz s) 1) [44]=true)(h:Pr.Ends ts sz (.argsL (n+1) true) (X2 (X9 r1.1 18 0 0 (Xe ts sz s) 1)) q):Pr.Ends ts sz (.argsL n b) s q:=by
 obtain⟨r2,r,a⟩:=h.get;exact .of (.VH j k d g m r) a
theorem Pr.Ends.Nz{b:Bool}(g:s.bad=false)(j:(n==0&&X4 ts sz s [41])=false)(d:(b||Yl ts sz s)=false)(h:Pr.Ends ts sz .e s q):Pr.Ends ts sz (.argsL n b) s q:=by
 obtain⟨r1,k,a⟩:=h.get;exact .of (.DM g j d (a.is _) k) a
theorem Pr.Ends.NA{b:Bool}{r1:Pr.Dk × Nat}(j:s.bad=false)(k:(n==0&&X4 ts sz s [41])=false)(d:(b||Yl ts sz s)=false)(m:Pr.Cv ts sz .e s r1)(g:X4 ts sz r1.1 [44]=true)(h:Pr.Ends ts sz (.argsL (n+1) false) (X2 r1.1) q):Pr.Ends ts sz (.argsL n b) s q:=by
 obtain⟨r2,r,a⟩:=h.get;exact .of (.DL j k d g m r) a
/- record -/
theorem Pr.Ends.Xfw(h:Pr.Ends ts sz (.recordL 0) s q):Pr.Ends ts sz .record s q:=by
 obtain⟨r1,d,a⟩:=h.get;cases e:(r1.2%2==1)
 .exact .of (.GM e d) ((a.X7 _).put _ _ _ _ _)
 .exact .of (.Cz e d) a
theorem Pr.Ends.Xfx{t:Pr.Dk}(a:Pr.Cv ts sz (.recordL 0) s (t,2*n))(h:Pr.Bd q (Xd ts sz t [125])):Pr.Ends ts sz .record s q:=.of (.GM (by rw[UM];show 2*n%2≠1;omega) a) (h.put _ _ _ _ _)
theorem Pr.Ends.IS(g:s.bad=false)(j:(n==0&&X4 ts sz s [125])=false)(d:((X3 ts sz s).kind==1||(X3 ts sz s).kind==4)=true)(h:Pr.Ends ts sz .e (Xd ts sz (X2 s) [58]) q):Pr.Ends ts sz (.recordL n) s q:=by
 obtain⟨r1,k,a⟩:=h.get;exact .of (.Vm g j d ((a.put _ _ _ _ _).is _) k) (a.put _ _ _ _ _)
theorem Pr.Ends.Ad{r1:Pr.Dk × Nat}(j:s.bad=false)(k:(n==0&&X4 ts sz s [125])=false)(d:((X3 ts sz s).kind==1||(X3 ts sz s).kind==4)=true)(m:Pr.Cv ts sz .e (Xd ts sz (X2 s) [58]) r1)(g:X4 ts sz (X9 r1.1 17 0 0 (X3 ts sz s).text 1) [44]=true)(h:Pr.Ends ts sz (.recordL (n+1)) (X2 (X9 r1.1 17 0 0 (X3 ts sz s).text 1)) q):Pr.Ends ts sz (.recordL n) s q:=by
 obtain⟨r2,r,a⟩:=h.get;exact .of (.Vl j k d g m r) a
theorem Pr.Ends.X0s(a:s.bad=false)(g:(n==0&&X4 ts sz s [125])=false)(d:((X3 ts sz s).kind==1||(X3 ts sz s).kind==4)=false):Pr.Ends ts sz (.recordL n) s (X3 ts sz s).place:=.of (.Pn a g d) (.LW a)
/- list -/
theorem Pr.Ends.X8v(g:X4 ts sz s [93]=false)(h:Pr.Ends ts sz .e s q):Pr.Ends ts sz .list s q:=by
 obtain⟨r1,j,a⟩:=h.get;obtain⟨r2,k,d⟩:=(a.Zl (ts:=ts) (sz:=sz) 1).get;exact .of (.VZ g (a.is _) j k) ((d.X7 _).put _ _ _ _ _)
theorem Pr.Ends.X8w{r1:Pr.Dk × Nat}(d:X4 ts sz s [93]=false)(j:Pr.Cv ts sz .e s r1)(g:X4 ts sz r1.1 Zr=false)(h:Pr.Ends ts sz (.Zl 1) r1.1 q):Pr.Ends ts sz .list s q:=by
 obtain⟨r2,k,a⟩:=h.get;exact .of (.VZ d g j k) ((a.X7 _).put _ _ _ _ _)
theorem Pr.Ends.Bm{r1 r2:Pr.Dk × Nat}(a:X4 ts sz s [93]=false)(g:Pr.Cv ts sz .e s r1)(d:X4 ts sz r1.1 Zr=false)(j:Pr.Cv ts sz (.Zl 1) r1.1 r2)(h:Pr.Bd q (Xd ts sz r2.1 [93])):Pr.Ends ts sz .list s q:=.of (.VZ a d g j) (h.put _ _ _ _ _)
theorem Pr.Ends.O2{r1:Pr.Dk × Nat}(d:X4 ts sz s [93]=false)(j:Pr.Cv ts sz .e s r1)(g:X4 ts sz r1.1 Zr=true)(h:Pr.Ends ts sz .e (Xd ts sz (Xm ts sz {X2 r1.1 with o:=r1.1.o.take s.o.length}) Y1) q):Pr.Ends ts sz .list s q:=by
 obtain⟨r2,k,a⟩:=h.get;exact .of (.VY d g ((a.outs _).is _) j k) (((a.outs _).X7 _).put _ _ _ _ _)
theorem Pr.Ends.X1k{r1 r2:Pr.Dk × Nat}(a:X4 ts sz s [93]=false)(j:Pr.Cv ts sz .e s r1)(d:X4 ts sz r1.1 Zr=true)(k:Pr.Cv ts sz .e (Xd ts sz (Xm ts sz {X2 r1.1 with o:=r1.1.o.take s.o.length}) Y1) r2)(g:X4 ts sz {r2.1 with o:=r2.1.o++r1.1.o.drop s.o.length} XR=false)(h:Pr.Bd q (Xd ts sz {r2.1 with o:=r2.1.o++r1.1.o.drop s.o.length} [93])):Pr.Ends ts sz .list s q:=.of (.VY a d g j k) (h.put _ _ _ _ _)
theorem Pr.Ends.Ao{r1 r2 a:Pr.Dk × Nat}(d:X4 ts sz s [93]=false)(k:Pr.Cv ts sz .e s r1)(g:X4 ts sz r1.1 Zr=true)(m:Pr.Cv ts sz .e (Xd ts sz (Xm ts sz {X2 r1.1 with o:=r1.1.o.take s.o.length}) Y1) r2)(j:X4 ts sz {r2.1 with o:=r2.1.o++r1.1.o.drop s.o.length} XR=true)(r:Pr.Cv ts sz .e (X2 {r2.1 with o:=r2.1.o++r1.1.o.drop s.o.length}) a)(h:Pr.Bd q (Xd ts sz a.1 [93])):Pr.Ends ts sz .list s q:=.of (.WV d g j k m r) (h.put _ _ _ _ _)
theorem Pr.Ends.X1l{r1 r2:Pr.Dk × Nat}(d:X4 ts sz s [93]=false)(k:Pr.Cv ts sz .e s r1)(g:X4 ts sz r1.1 Zr=true)(m:Pr.Cv ts sz .e (Xd ts sz (Xm ts sz {X2 r1.1 with o:=r1.1.o.take s.o.length}) Y1) r2)(j:X4 ts sz {r2.1 with o:=r2.1.o++r1.1.o.drop s.o.length} XR=true)(h:Pr.Ends ts sz .e (X2 {r2.1 with o:=r2.1.o++r1.1.o.drop s.o.length}) q):Pr.Ends ts sz .list s q:=by
 obtain⟨u,r,a⟩:=h.get;exact .Ao d k g m j r (a.X7 _)
theorem Pr.Ends.X8x(d:X4 ts sz s [44]=true)(h:Pr.Ends ts sz .e (X2 s) q):Pr.Ends ts sz (.Zl n) s q:=by
 obtain⟨r1,g,a⟩:=h.get;exact .of (.Gi d g (.Gh (a.is _))) a
theorem Pr.Ends.X8y{r1:Pr.Dk × Nat}(d:X4 ts sz s [44]=true)(g:Pr.Cv ts sz .e (X2 s) r1)(h:Pr.Ends ts sz (.Zl (n+1)) r1.1 q):Pr.Ends ts sz (.Zl n) s q:=by
 obtain⟨r2,j,a⟩:=h.get;exact .of (.Gi d g j) a
/- load -/
theorem Pr.Ends.X9e(a:s.bad=false)(h:Pr.Bd q (Xm ts sz s)):Pr.Ends ts sz (.YX n) s q:= .of (.Lo a ((h.put _ _ _ _ _).is _)) (h.put _ _ _ _ _)
theorem Pr.Ends.X9f(g:s.bad=false)(d:X4 ts sz (X9 (Xm ts sz s) 5 0 0 (Xe ts sz s) 0) [44]=true)(h:Pr.Ends ts sz (.YX (n+1)) (X2 (X9 (Xm ts sz s) 5 0 0 (Xe ts sz s) 0)) q):Pr.Ends ts sz (.YX n) s q:=by
 obtain⟨r2,j,a⟩:=h.get;exact .of (.Ln g d j) a
/- what stands alone -/
theorem Pr.Cv.Vi{r1:Pr.Dk × Nat}(hi:X4 ts sz s [91]=true)(k:Pr.Cv ts sz .list (X2 s) r1):Pr.Cv ts sz .single s r1:=.PC (Ki hi) (Qh hi 3 rfl rfl) (Qh hi 4 rfl rfl) (Qh hi 1 rfl rfl) (Yc hi (by decide)) (Yc hi (by decide)) (Yc hi (by decide)) hi k
theorem Pr.Cv.W7{r1:Pr.Dk × Nat}(hi:X4 ts sz s [123]=true)(k:Pr.Cv ts sz .record (X2 s) r1):Pr.Cv ts sz .single s r1:=.PF (Ki hi) (Qh hi 3 rfl rfl) (Qh hi 4 rfl rfl) (Qh hi 1 rfl rfl) (Yc hi (by decide)) (Yc hi (by decide)) (Yc hi (by decide)) (Yc hi (by decide)) hi k
theorem Pr.Cv.Gx{r1:Pr.Dk × Nat}(hi:X4 ts sz s [40]=true)(k:Pr.Cv ts sz .e (X2 s) r1):Pr.Cv ts sz .single s (Xd ts sz r1.1 [41],0):=.PG (Ki hi) (Qh hi 3 rfl rfl) (Qh hi 4 rfl rfl) (Qh hi 1 rfl rfl) (Yc hi (by decide)) (Yc hi (by decide)) (Yc hi (by decide)) (Yc hi (by decide)) (Yc hi (by decide)) hi k
theorem Pr.Cv.OU(hi:X4 ts sz s Zj=true):Pr.Cv ts sz .single s (X9 (X2 s) 1 0 0 [] 0,0):=.PE (Ki hi) (Qh hi 3 rfl rfl) (Qh hi 4 rfl rfl) (Qh hi 1 rfl rfl) hi
theorem Pr.Cv.OQ(hi:X4 ts sz s ZK=true):Pr.Cv ts sz .single s (X9 (X2 s) 2 0 0 [] 0,0):=.Pz (Ki hi) (Qh hi 3 rfl rfl) (Qh hi 4 rfl rfl) (Qh hi 1 rfl rfl) (Yc hi (by decide)) hi
theorem Pr.Cv.OY(hi:X4 ts sz s K4=true):Pr.Cv ts sz .single s (X9 (X2 s) 2 0 1 [] 0,0):=.PI (Ki hi) (Qh hi 3 rfl rfl) (Qh hi 4 rfl rfl) (Qh hi 1 rfl rfl) (Yc hi (by decide)) (Yc hi (by decide)) hi
theorem Pr.Cv.OR(a:s.bad=false)(h:((X3 ts sz s).kind==3)=true):Pr.Cv ts sz .single s (X9 (X2 s) 3 0 (X3 ts sz s).n [] 0,0):= .PA a h
theorem Pr.Cv.one_text(a:s.bad=false)(h:((X3 ts sz s).kind==4)=true):Pr.Cv ts sz .single s (X9 (X2 s) 4 0 0 (X3 ts sz s).text 0,0):=.PH a (by rw[Ql]at h;rw[h];rfl) h
theorem Pr.Cv.one_name(a:s.bad=false)(h:((X3 ts sz s).kind==1)=true):Pr.Cv ts sz .single s (X9 (X2 s) 5 0 0 (X3 ts sz s).text 0,0):=.PD a (by rw[Ql]at h;rw[h];rfl) (by rw[Ql]at h;rw[h];rfl) h
theorem Pr.Ends.Vi(hi:X4 ts sz s [91]=true)(h:Pr.Ends ts sz .list (X2 s) q):Pr.Ends ts sz .single s q:=by
 obtain⟨r1,d,a⟩:=h.get;exact .of (.Vi hi d) a
theorem Pr.Ends.W7(hi:X4 ts sz s [123]=true)(h:Pr.Ends ts sz .record (X2 s) q):Pr.Ends ts sz .single s q:=by
 obtain⟨r1,d,a⟩:=h.get;exact .of (.W7 hi d) a
theorem Pr.Ends.Xcf(hi:X4 ts sz s [40]=true)(h:Pr.Ends ts sz .e (X2 s) q):Pr.Ends ts sz .single s q:=by
 obtain⟨r1,d,a⟩:=h.get;exact .of (.Gx hi d) (a.X7 _)
theorem Pr.Ends.Xcg{r1:Pr.Dk × Nat}(hi:X4 ts sz s [40]=true)(a:Pr.Cv ts sz .e (X2 s) r1)(h:Pr.Bd q (Xd ts sz r1.1 [41])):Pr.Ends ts sz .single s q:= .of (.Gx hi a) h
/- indexes, dots, calls -/
theorem Pr.Ends.Ti(hi:X4 ts sz s [40]=true)(h:Pr.Ends ts sz .args (X2 s) q):Pr.Ends ts sz .Yr s q:=by
 obtain⟨r1,g,a⟩:=h.get;obtain⟨r2,j,d⟩:=((a.put 12 0 0 [] (1+r1.2)).Yr (ts:=ts) (sz:=sz)).get;exact .of (.GH (Ki hi) hi g j) d
theorem Pr.Ends.call2{r1:Pr.Dk × Nat}(hi:X4 ts sz s [40]=true)(d:Pr.Cv ts sz .args (X2 s) r1)(h:Pr.Ends ts sz .Yr (X9 r1.1 12 0 0 [] (1+r1.2)) q):Pr.Ends ts sz .Yr s q:=by
 obtain⟨r2,g,a⟩:=h.get;exact .of (.GH (Ki hi) hi d g) a
theorem Pr.Ends.Od{r1:Pr.Dk × Nat}(hi:X4 ts sz s [91]=true)(d:Pr.Cv ts sz .e (X2 s) r1)(h:Pr.Ends ts sz .Yr (X9 (Xd ts sz r1.1 [93]) 10 0 0 [] 2) q):Pr.Ends ts sz .Yr s q:=by
 obtain⟨r2,g,a⟩:=h.get;exact .of (.LI (Ki hi) (Yc hi (by decide)) hi d g) a
theorem Pr.Ends.X3n(hi:X4 ts sz s [91]=true)(h:Pr.Ends ts sz .e (X2 s) q):Pr.Ends ts sz .Yr s q:=by
 obtain⟨r1,d,a⟩:=h.get;exact .Od hi d ((a.X7 _).put _ _ _ _ _).Yr
theorem Pr.Ends.A5(hi:X4 ts sz s [46]=true)(h:Pr.Ends ts sz .Yr (X9 (Xm ts sz (X2 s)) 11 0 0 (Xe ts sz (X2 s)) 1) q):Pr.Ends ts sz .Yr s q:=by
 obtain⟨r2,d,a⟩:=h.get;exact .of (.LH (Ki hi) (Yc hi (by decide)) (Yc hi (by decide)) hi d) a
theorem Pr.Ends.Ce{r1:Pr.Dk × Nat}(d:Pr.Cv ts sz .single s r1)(h:Pr.Ends ts sz .Yr r1.1 q):Pr.Ends ts sz .post s q:=by
 obtain⟨r2,g,a⟩:=h.get;exact .of (.post d g) a
theorem Pr.Ends.Xeu(h:Pr.Ends ts sz .single s q):Pr.Ends ts sz .post s q:=by
 obtain⟨r1,d,a⟩:=h.get;exact .Ce d a.Yr
theorem Pr.Ends.neg(hi:X4 ts sz s [45]=true)(h:Pr.Ends ts sz (.ops 7) (X2 s) q):Pr.Ends ts sz (.ops 7) s q:=by
 obtain⟨r1,d,a⟩:=h.get;exact .of (.D3 (Ki hi) rfl hi d) (a.put _ _ _ _ _)
theorem Pr.Ends.P5(d:s.bad=false)(hi:X4 ts sz s [45]=false)(h:Pr.Ends ts sz .post s q):Pr.Ends ts sz (.ops 7) s q:=by
 obtain⟨r1,g,a⟩:=h.get;exact .of (.D0 d rfl hi g) a
/- statements -/
theorem Pr.Ends.SZ{r1 r2:Pr.Dk × Nat}(hi:X4 ts sz s Z7=true)(a:Pr.Cv ts sz .params (Xm ts sz (X2 s)) r1)(d:Pr.Cv ts sz .e (Xd ts sz r1.1 [61]) r2)(h:Pr.Bd q (Xd ts sz (X9 r2.1 20 0 0 (Xe ts sz (X2 s)) (r1.2+1)) [59])):Pr.Ends ts sz .statement s q:= .of (.LQ hi a d) h
theorem Pr.Ends.MT{r1:Pr.Dk × Nat}(hi:X4 ts sz s Z7=true)(d:Pr.Cv ts sz .params (Xm ts sz (X2 s)) r1)(h:Pr.Ends ts sz .e (Xd ts sz r1.1 [61]) q):Pr.Ends ts sz .statement s q:=by
 obtain⟨r2,g,a⟩:=h.get;exact .SZ hi d g ((a.put _ _ _ _ _).X7 _)
theorem Pr.Ends.MS(hi:X4 ts sz s Z7=true)(h:Pr.Ends ts sz .params (Xm ts sz (X2 s)) q):Pr.Ends ts sz .statement s q:=by
 obtain⟨r1,d,a⟩:=h.get;exact .MT hi d (a.X7 _).e
theorem Pr.Ends.E5{r1:Pr.Dk × Nat}(hi:X4 ts sz s XM=true)(a:Pr.Cv ts sz .e (Xd ts sz (Xm ts sz (X2 s)) [61]) r1)(h:Pr.Bd q (Xd ts sz (X9 r1.1 21 0 0 (Xe ts sz (X2 s)) 1) [59])):Pr.Ends ts sz .statement s q:= .of (.LU (Yc hi (by decide)) hi a) h
theorem Pr.Ends.Pv(hi:X4 ts sz s XM=true)(h:Pr.Ends ts sz .e (Xd ts sz (Xm ts sz (X2 s)) [61]) q):Pr.Ends ts sz .statement s q:=by
 obtain⟨r1,d,a⟩:=h.get;exact .E5 hi d ((a.put _ _ _ _ _).X7 _)
theorem Pr.Ends.A7{r1:Pr.Dk × Nat}(hi:X4 ts sz s K3=true)(a:Pr.Cv ts sz .e (X2 s) r1)(h:Pr.Bd q (Xd ts sz (X9 r1.1 22 0 0 [] 1) [59])):Pr.Ends ts sz .statement s q:= .of (.LR (Yc hi (by decide)) (Yc hi (by decide)) hi a) h
theorem Pr.Ends.X0j(hi:X4 ts sz s K3=true)(h:Pr.Ends ts sz .e (X2 s) q):Pr.Ends ts sz .statement s q:=by
 obtain⟨r1,d,a⟩:=h.get;exact .A7 hi d ((a.put _ _ _ _ _).X7 _)
theorem Pr.Ends.ld2{r1:Pr.Dk × Nat}(hi:X4 ts sz s Kj=true)(a:((X3 ts sz (X2 s)).kind==4)=true)(d:Pr.Cv ts sz (.YX 0) (Xd ts sz (X2 (X2 s)) [58]) r1)(h:Pr.Bd q (Xd ts sz (X9 r1.1 23 0 0 (X3 ts sz (X2 s)).text r1.2) [59])):Pr.Ends ts sz .statement s q:= .of (.LV (Yc hi (by decide)) (Yc hi (by decide)) (Yc hi (by decide)) hi a d) h
theorem Pr.Ends.ld1(hi:X4 ts sz s Kj=true)(d:((X3 ts sz (X2 s)).kind==4)=true)(h:Pr.Ends ts sz (.YX 0) (Xd ts sz (X2 (X2 s)) [58]) q):Pr.Ends ts sz .statement s q:=by
 obtain⟨r1,g,a⟩:=h.get;exact .ld2 hi d g ((a.put _ _ _ _ _).X7 _)
theorem Pr.Ends.ld0(hi:X4 ts sz s Kj=true)(a:((X3 ts sz (X2 s)).kind==4)=false):Pr.Ends ts sz .statement s (X3 ts sz (X2 s)).place:=.of (.Ef (Yc hi (by decide)) (Yc hi (by decide)) (Yc hi (by decide)) hi a) (.LW (show s.bad=false from Ki hi))
theorem Pr.Ends.st0(k:s.bad=false)(a:X4 ts sz s Z7=false)(d:X4 ts sz s XM=false)(g:X4 ts sz s K3=false)(j:X4 ts sz s Kj=false):Pr.Ends ts sz .statement s (X3 ts sz s).place:=.of (.Eg a d g j) ((Pr.Bd.LW k).X7 _)
theorem Pr.Ends.X0u(d:s.bad=false)(g:s.p<ts.length)(h:Pr.Ends ts sz .statement s q):Pr.Ends ts sz (.fileL n) s q:=by
 obtain⟨r1,j,a⟩:=h.get;exact .of (.G0 (by rw[d];simpa using g) j (.WL (by rw[a.1];rfl))) a
theorem Pr.Ends.X0v{r1:Pr.Dk × Nat}(d:s.bad=false)(g:s.p<ts.length)(j:Pr.Cv ts sz .statement s r1)(h:Pr.Ends ts sz (.fileL (n+1)) r1.1 q):Pr.Ends ts sz (.fileL n) s q:=by
 obtain⟨r2,k,a⟩:=h.get;exact .of (.G0 (by rw[d];simpa using g) j k) a
