import Derived.Test.YtkoiikmhfaebnaaGreatDoorB32
import Derived.Test.YtkoiikmhfaebnaaGreatDoorB37
import Derived.Test.YtkoiikmhfaebnaaGreatDoorB19
namespace Go.Proofs.YtkoiikmhfaebnaaGreatDoor
open Go.RowKit
def Fd.tn(x:Nd):Vl.T:= .mk x.kind x.n x.text []
def Fd.raw:Vl.Out->Option Nd
 | .inr t=>some (Fd.cn t.kind t.num t.text)
 | .inl _=>none
namespace Vl
def rgW:List UInt8:=[114,97,110,103,101]
def QX(op:Int)(t:T):Out:=if op=1 then(if t.kind=2 then .inr (YT (!(t.num==1)))else .inl tyW)else if t.kind=3 then Qw (XL (0-t.num)) rgW else .inl tyW
def Yh(op:Int)(t u:T):Out:=match Un[(op-1).toNat]? with
 | some R=>R t u
 | none=> .inl tyW
end Vl
def Fd.O:FOp:=⟨fun op x=>Fd.okC (Fd.raw (Vl.QX op (Fd.tn x))),fun op x y=>Fd.okC (Fd.raw (Vl.Yh op (Fd.tn x) (Fd.tn y)))⟩
def Fd.oc(o:Vl.Out):Prop:=∀c,Fd.okC (Fd.raw o)=some c->Fd.CN c
theorem Fd.KI(l:List UInt8):Fd.oc (.inl l):=fun c h=>by cases h
theorem Fd.VG(b:Bool):Fd.oc (.inr (Vl.YT b)):=by
 intro c h;have h:Fd.okC (some (Fd.cn 2 (if b then 1 else 0) ⟨#[]⟩))=some c:=h;rw[Fd.JV,X2 (by show ¬((2:Int)=3/\_);omega)]at h;cases h;refine⟨⟨by show(1:Int)<=2;decide,by show(2:Int)<=4;decide⟩,rfl,?_,?_,fun _=>?_,fun h=>absurd rfl h,fun _=>rfl,by show(0:Nat)<=1000;decide⟩<;>cases b<;>decide
theorem Fd.RE(z:Int)(d:z<9223372036854775808):Fd.oc (.inr (Vl.QF z)):=by
 intro c h;have h:Fd.okC (some (Fd.cn 3 z ⟨#[]⟩))=some c:=h;rw[Fd.JV]at h;by_cases a:z<0
 .rw[X3 ⟨rfl,a⟩]at h;cases h
 .rw[X2 (fun e=>a e.2)]at h;cases h;exact⟨⟨by show(1:Int)<=3;decide,by show(3:Int)<=4;decide⟩,rfl,by show(0:Int)<=z;omega,d,fun h=>absurd h (by show ¬(3:Int)=2;decide),fun _ h=>absurd rfl h,fun _=>rfl,by show(0:Nat)<=1000;decide⟩
theorem Fd.Xdj(s:ByteArray)(a:s.size<=1000):Fd.oc (.inr (.mk 4 0 s [])):=by
 intro c h;have h:Fd.okC (some (Fd.cn 4 0 s))=some c:=h;rw[Fd.JV,X2 (by show ¬((4:Int)=3/\_);omega)]at h;cases h;exact⟨⟨by show(1:Int)<=4;decide,by show(4:Int)<=4;decide⟩,rfl,by show(0:Int)<=0;decide,by show(0:Int)<_;decide,fun h=>absurd h (by show ¬(4:Int)=2;decide),fun _ _=>rfl,fun h=>absurd rfl h,a⟩
theorem Fd.MF(r:Option Int)(l:List UInt8)(h:∀z,r=some z->z<9223372036854775808):Fd.oc (Vl.Qw r l):=by
 cases r with
 | none=>exact Fd.KI l
 | some z=>exact Fd.RE z (h z rfl)
theorem Fd.ME:∀l:List Vl.Out,(∀o∈l,Fd.oc o)->Fd.oc (Vl.KY l)
 | [],_=>Fd.KI _
 | o::r,h=>by
  rw[Vl.KY];split
  .exact Fd.ME r (fun o a=>h o (by simp[a]))
  .exact h o (by simp)
theorem Mh{p z:Int}(h:Vl.XL p=some z):z<9223372036854775808:=by
 unfold Vl.XL at h;split at h
 .cases h;omega
 .cases h
theorem Fd.Jg{c:Prop}[Decidable c]{a b:Vl.Out}(d:c->Fd.oc a)(g:¬c->Fd.oc b):Fd.oc (if c then a else b):=by
 by_cases h:c
 .rw[X3 h];exact d h
 .rw[X2 h];exact g h
theorem Mz{a b:Int}(c:0<=a)(d:0<=b):Vl.Jf a b=false:=by
 unfold Vl.Jf;rw[Yb (by omega),Yb (by omega)];simp
theorem Fd.Xdk(op:Int)(x:Nd):Fd.oc (Vl.QX op (Fd.tn x)):=by
 unfold Vl.QX;refine Fd.Jg (fun _=>Fd.Jg (fun _=>Fd.VG _) fun _=>Fd.KI _) fun _=>Fd.Jg (fun _=>Fd.MF _ _ fun z h=>Mh h) fun _=>Fd.KI _
theorem Fd.Xdi(op:Int)(x y:Nd)(q:Fd.CN x)(r:Fd.CN y):Fd.oc (Vl.Yh op (Fd.tn x) (Fd.tn y)):=by
 unfold Vl.Yh;have k:∀R:Vl.T->Vl.T->Vl.Out,(∀t u,Fd.oc (R t u))->∀t u,Fd.oc (Vl.Lf R t u):=fun R h t u=>Fd.Jg (fun _=>h t u) fun _=>Fd.KI _;have al:∀m t u,Fd.oc (Vl.alike m t u):=fun m t u=>by
  refine Fd.ME _ fun o a=>?_;simp only[Xu,Yc,Y6,ZA,Zy]at a;rcases a with rfl|rfl|rfl|rfl
  .exact Fd.Jg (fun _=>Fd.VG _) fun _=>Fd.KI _
  .exact Fd.Jg (fun _=>Fd.VG _) fun _=>Fd.KI _
  .exact Fd.Jg (fun _=>Fd.VG _) fun _=>Fd.KI _
  .exact Fd.KI _
 have g:∀R:Vl.T->Vl.T->Vl.Out,Fd.oc (R (Fd.tn x) (Fd.tn y))->Fd.oc (Vl.Uu R (Fd.tn x) (Fd.tn y)):=fun R h=>Fd.Jg (fun _=>h) fun _=>Fd.KI _;cases h:Vl.Un[(op-1).toNat]? with
 | none=>exact Fd.KI _
 | some R=>
  have j:=SX h;unfold Vl.Un at j;simp only[Y6,ZA,Zy]at j;show Fd.oc (R (Fd.tn x) (Fd.tn y));have c:=q.n0;have v:=q.n1;have l:=r.n0;have s:=r.n1;rcases j with rfl|rfl|rfl|rfl|rfl|rfl|rfl|rfl|rfl|rfl|rfl|rfl|rfl|rfl
  .exact k _ (fun t u=>Fd.VG _) _ _
  .exact k _ (fun t u=>Fd.VG _) _ _
  .exact Fd.VG _
  .exact Fd.VG _
  .exact al _ _ _
  .exact al _ _ _
  .exact al _ _ _
  .exact al _ _ _
  .refine Fd.ME _ fun o a=>?_;simp only[Xu,Yc,Y6,ZA,Zy]at a;rcases a with rfl|rfl|rfl
   .exact Fd.Jg (fun _=>Fd.VG _) fun _=>Fd.KI _
   .exact Fd.KI _
   .exact Fd.KI _
  .refine Fd.ME _ fun o a=>?_;simp only[Xu,Yc,Y6,ZA,Zy]at a;rcases a with rfl|rfl|rfl|rfl
   .exact g _ (Fd.MF _ _ fun z h=>Mh h)
   .exact Fd.Jg (fun _=>Fd.Jg (fun h=>Fd.Xdj _ h) fun _=>Fd.KI _) fun _=>Fd.KI _
   .exact Fd.KI _
   .exact Fd.KI _
  .exact g _ (Fd.MF _ _ fun z h=>Mh h)
  .exact g _ (Fd.MF _ _ fun z h=>Mh h)
  .refine g _ (Fd.Jg (fun _=>Fd.KI _) fun d=>Fd.Jg (fun _=>Fd.KI _) fun _=>Fd.RE _ ?_);show Vl.Jw x.n y.n<_;unfold Vl.Jw;rw[Mz c l,X2 (by decide)];have d:y.n≠0:=d;rw[Int.tdiv_eq_ediv_of_nonneg c];have:=Int.ediv_le_self y.n c;omega
  .refine g _ (Fd.Jg (fun _=>Fd.KI _) fun d=>Fd.RE _ ?_);show Vl.Jx x.n y.n<_;unfold Vl.Jx;rw[Mz c l,X2 (by decide)];have d:y.n≠0:=d;rw[Dw c];have:=SI x.n (show 0<y.n by omega);omega
theorem Fd.WW:Fd.Uy Fd.O:=⟨fun op k c _ h=>Fd.Xdk op k c h,fun op k l c a d h=>Fd.Xdi op k l a d c h⟩
def Fd.ok(o:Vl.Out):Prop:=∀t,o= .inr t->1<=t.kind/\t.kind<=4
theorem Fd.MK(t:Vl.T)(h:1<=t.kind/\t.kind<=4):Fd.ok (.inr t):=by
 intro c e;cases e;exact h
theorem Fd.ok.isC{o:Vl.Out}(h:Fd.ok o){c:Nd}(e:Fd.okC (Fd.raw o)=some c):Fd.isC c:=by
 cases o with
 | inl l=>cases e
 | inr t=>
  have e:Fd.okC (some (Fd.cn t.kind t.num t.text))=some c:=e;rw[Fd.JV]at e;split at e
  .cases e
  .cases e;exact h t rfl
theorem Fd.Qg(l:List UInt8):Fd.ok (.inl l):=fun c h=>by cases h
theorem Fd.J4{c:Prop}[Decidable c]{a b:Vl.Out}(d:Fd.ok a)(g:Fd.ok b):Fd.ok (if c then a else b):=by split<;>assumption
theorem Fd.RJ(r:Option Int)(l:List UInt8):Fd.ok (Vl.Qw r l):=by
 cases r with
 | none=>exact Fd.Qg l
 | some z=>exact Fd.MK _ ⟨by show(1:Int)<=3;decide,by show(3:Int)<=4;decide⟩
theorem Fd.IZ(b:Bool):Fd.ok (.inr (Vl.YT b)):=Fd.MK _ ⟨by show(1:Int)<=2;decide,by show(2:Int)<=4;decide⟩
theorem Fd.ok_int(z:Int):Fd.ok (.inr (Vl.QF z)):=Fd.MK _ ⟨by show(1:Int)<=3;decide,by show(3:Int)<=4;decide⟩
theorem Fd.Xdw(t u:Vl.T):Fd.ok (.inr (Vl.W7 t u)):=Fd.MK _ ⟨by show(1:Int)<=4;decide,by show(4:Int)<=4;decide⟩
theorem Fd.Eo:∀l:List Vl.Out,(∀o∈l,Fd.ok o)->Fd.ok (Vl.KY l)
 | [],_=>Fd.Qg _
 | o::r,h=>by
  rw[Vl.KY];split
  .exact Fd.Eo r (fun o a=>h o (by simp[a]))
  .exact h o (by simp)
theorem Fd.En(op:Int)(t u:Vl.T):Fd.ok (Vl.Yh op t u):=by
 unfold Vl.Yh;cases h:Vl.Un[(op-1).toNat]? with
 | none=>exact Fd.Qg _
 | some R=>
  have a:=SX h;unfold Vl.Un at a;simp only[Y6,ZA,Zy]at a;show Fd.ok (R t u);rcases a with rfl|rfl|rfl|rfl|rfl|rfl|rfl|rfl|rfl|rfl|rfl|rfl|rfl|rfl
  all_goals first
   | exact Fd.IZ _
   | exact Fd.J4 (Fd.IZ _) (Fd.Qg _)
   | exact Fd.J4 (Fd.RJ _ _) (Fd.Qg _)
   | exact Fd.J4 (Fd.J4 (Fd.Qg _) (Fd.J4 (Fd.Qg _) (Fd.ok_int _))) (Fd.Qg _)
   | exact Fd.J4 (Fd.J4 (Fd.Qg _) (Fd.ok_int _)) (Fd.Qg _)
   | (refine Fd.Eo _ fun o c=>?_
      simp only[Xu,Yc,Y6,ZA,Zy]at c;first
      | (rcases c with rfl|rfl|rfl|rfl<;>first|exact Fd.J4 (Fd.IZ _) (Fd.Qg _)|exact Fd.Qg _|exact Fd.J4 (Fd.RJ _ _) (Fd.Qg _)|exact Fd.J4 (Fd.J4 (Fd.Xdw _ _) (Fd.Qg _)) (Fd.Qg _))
      | (rcases c with rfl|rfl|rfl<;>first|exact Fd.J4 (Fd.IZ _) (Fd.Qg _)|exact Fd.Qg _))
theorem Fd.Et(op:Int)(t:Vl.T):Fd.ok (Vl.QX op t):=by
 unfold Vl.QX;exact Fd.J4 (Fd.J4 (Fd.IZ _) (Fd.Qg _)) (Fd.J4 (Fd.RJ _ _) (Fd.Qg _))
theorem Fd.Bg:Fd.Cs Fd.O:=⟨fun op _ _ h=>(Fd.Et op _).isC h,fun op _ _ _ h=>(Fd.En op _ _).isC h⟩
end Go.Proofs.YtkoiikmhfaebnaaGreatDoor
namespace Go.Proofs.YtkoiikmhfaebnaaGreatDoor
namespace Fd
def Cl:List ByteArray->Fd->Prop
 | kn,.mk x _ _ ks=>
  if x.kind=5 then x.text∈kn\/x.text.data.toList∈Q9
  else if x.kind=23 then True
  else if x.kind=15\/x.kind=20 then clP [] kn false ks
  else if x.kind=14\/x.kind=16 then clA kn (kn++[x.text]) ks
  else clL kn ks
 where
 clL:List ByteArray->List Fd->Prop
 | _,[]=>True
 | kn,t::r=>Cl kn t/\clL kn r
 clA:List ByteArray->List ByteArray->List Fd->Prop
 | _,_,[]=>True
 | kn,mo,t::r=>Cl kn t/\clL mo r
 clP:List ByteArray->List ByteArray->Bool->List Fd->Prop
 | _,_,_,[]=>True
 | seen,kn,df,t::r=>Cl kn t/\(r≠[]->t.x.text∉seen/\(df=true->t.ks≠[]))/\clP (seen++[t.x.text]) (kn++[t.x.text]) (df||!t.ks.isEmpty) r
theorem Vx(a:List ByteArray)(x:Nd)(p b:Int)(ks:List Fd):Cl a (.mk x p b ks)=(if x.kind=5 then x.text∈a\/x.text.data.toList∈Q9 else if x.kind=23 then True else if x.kind=15\/x.kind=20 then Cl.clP [] a false ks else if x.kind=14\/x.kind=16 then Cl.clA a (a++[x.text]) ks else Cl.clL a ks):=by rw[Cl]
theorem Wa(a:List ByteArray):∀l:List Fd,Cl.clL a l↔∀t∈l,Cl a t
 | []=>by simp[Cl.clL]
 | t::r=>by simp[Cl.clL,Wa a r]
theorem Io(a mo:List ByteArray)(t:Fd)(r:List Fd):Cl.clA a mo (t::r)↔Cl a t/\∀y∈r,Cl mo y:=by rw[Cl.clA,Wa]
theorem PE(a mo:List ByteArray):Cl.clA a mo []:=by simp[Cl.clA]
theorem DW(a d:List ByteArray)(c:Bool):Cl.clP a d c []:=by simp[Cl.clP]
theorem Iq(a d:List ByteArray)(c:Bool)(t:Fd)(r:List Fd):Cl.clP a d c (t::r)↔Cl d t/\(r≠[]->t.x.text∉a/\(c=true->t.ks≠[]))/\Cl.clP (a++[t.x.text]) (d++[t.x.text]) (c||!t.ks.isEmpty) r:=by rw[Cl.clP]
theorem CD{a b:List Fd}(h:a=[]↔b=[]):a.isEmpty=b.isEmpty:=by
 rw[Y5,List.isEmpty_iff,List.isEmpty_iff];exact h
theorem B8{F G:Fd->Fd}:∀(l:List Fd) (a c:List ByteArray) (j:Bool),(∀t∈l,∀c,Cl c (F t)->Cl c (G t))->(∀t∈l.dropLast,(G t).x.text=(F t).x.text/\((G t).ks=[]↔(F t).ks=[]))->Cl.clP a c j (l.map F)->Cl.clP a c j (l.map G)
 | [],a,c,j,_,_,_=>DW _ _ _
 | t::r,a,c,j,H,HP,h=>by
  rw[Xu,Iq]at h⊢;refine⟨H t (by simp) _ h.1,?_⟩;cases r with
  | nil=>exact⟨fun e=>absurd rfl e,DW _ _ _⟩
  | cons q r=>
   obtain⟨n,k⟩:=HP t (by simp);rw[n,CD k];have m:=h.2.1 (by simp);exact⟨fun _=>⟨m.1,fun d e=>m.2 d (k.1 e)⟩,B8 (q::r) _ _ _ (fun y g=>H y (by simp only[Y6]at g⊢;exact .inr g)) (fun y g=>HP y (by simp only[SL,Y6]at g⊢;exact .inr g)) h.2.2⟩
theorem PF{F G:Fd->Fd}{x y:Nd}{p b s b':Int}{ks:List Fd}{j:List ByteArray}(n:y.kind=x.kind)(q:y.text=x.text)(H:∀t∈ks,∀j,Cl j (F t)->Cl j (G t))(m:x.kind=15\/x.kind=20->∀t∈ks.dropLast,(G t).x.text=(F t).x.text/\((G t).ks=[]↔(F t).ks=[]))(h:Cl j (.mk x p b (ks.map F))):Cl j (.mk y s b' (ks.map G)):=by
 rw[Vx]at h⊢;rw[n,q];by_cases l:x.kind=5
 .rw[X3 l]at h⊢;exact h
 rw[X2 l]at h⊢;by_cases d:x.kind=23
 .rw[X3 d];trivial
 rw[X2 d]at h⊢;by_cases a:x.kind=15\/x.kind=20
 .rw[X3 a]at h⊢;exact B8 ks _ _ _ H (m a) h
 rw[X2 a]at h⊢;by_cases c:x.kind=14\/x.kind=16
 .rw[X3 c]at h⊢;cases ks with
  | nil=>exact PE _ _
  | cons t r=>
   rw[Xu,Io]at h⊢;refine⟨H t (by simp) _ h.1,fun u k=>?_⟩;obtain⟨z,g,rfl⟩:=Zq.1 k;exact H z (by simp[g]) _ (h.2 _ (Zq.2 ⟨z,g,rfl⟩))
 .rw[X2 c,Wa]at h⊢;intro u k;obtain⟨z,g,rfl⟩:=Zq.1 k;exact H z g _ (h _ (Zq.2 ⟨z,g,rfl⟩))
theorem PG(d:List ByteArray){c:Nd}(h:isC c):Cl d (one c):=by
 unfold isC at h;rw[one,Vx,X2 (by omega),X2 (by omega),X2 (by omega),X2 (by omega),Wa];intro t a;cases a
theorem CF{e:ByteArray->Int}{m:Int}{g c:List ByteArray}(h:∀s∈g,s∈c\/e s=m)(t:ByteArray)(z:Int):∀s∈g++[t],s∈c++[t]\/upd e t z s=m:=by
 intro s a;by_cases d:s=t
 .exact .inl (by simp[d])
 .rcases K7.1 a with a|a
  .rcases h s a with h|h
   .exact .inl (by simp[h])
   .exact .inr (by rw[JZ e z d];exact h)
  .exact absurd (QZ.1 a) d
theorem X2p(m:Int){c:Nd}(S:isC c):∀(n:Nat) (y:Fd),y.size<=n->∀(e:ByteArray->Int) (U:Int->Prop) (D a:List ByteArray),Ok e U y->Cl D y->(∀s∈D,s∈a\/e s=m)->Cl a (Yr m c y):=by
 intro n;induction n with
 | zero=>intro y I;have:=size_pos y;omega
 | succ n J=>
  intro y I e U D a g h v;obtain⟨x,p,b,ks⟩:=y;rw[Zi]at I;have B:∀t∈ks,t.size<=n:=fun t W=>by have:=Ql W;omega
  rw[Up];rw[QI]at g;rw[Vx]at h;by_cases E:x.kind=5
  .rw[X3 E]at g h;by_cases M:b=m
   .rw[X3 ⟨E,M⟩];exact PG _ S
   .rw[X2 (fun q=>M q.2),Vx,X3 E];rcases h with h|h
    .rcases v _ h with h|h
     .exact .inl h
     .exact absurd (g.1.trans h) M
    .exact .inr h
  rw[X2 (fun q=>E q.1),Vx];rw[X2 E]at g h;rw[X2 E];by_cases k:x.kind=14\/x.kind=16
  .rw[X3 k]at g;rw[X2 (by omega),X2 (by omega),X3 k]at h⊢;cases ks with
   | nil=>exact PE _ _
   | cons t r=>
    obtain⟨o1,o2⟩:=(Ji _ _ _ _ _ _).1 g.2;obtain⟨c1,c2⟩:=(Io _ _ _ _).1 h;rw[Xu,Io];refine⟨J t (B t (by simp)) _ _ _ _ o1 c1 v,fun u N=>?_⟩;obtain⟨z,C,rfl⟩:=Zq.1 N;exact J z (B z (by simp[C])) _ _ _ _ (o2 z C) (c2 z C) (CF v _ _)
  rw[X2 k]at g;by_cases A:x.kind=15
  .rw[X3 A]at g;rw[X2 (by omega),X3 (.inl A)]at h⊢;have Q:∀(l:List Fd) (j D a:List ByteArray) (K:Bool) (e:ByteArray->Int) (U:Int->Prop),(∀t∈l,t.size<=n)->Ok.okP e U l->Cl.clP j D K l->(∀s∈D,s∈a\/e s=m)->Cl.clP j a K (l.map (Yr m c)):=by
    intro l;induction l with
    | nil=>intros;exact DW _ _ _
    | cons t r P=>
     intro j D a K e U B g h v;obtain⟨o1,o2,o3⟩:=(JW _ _ _ _).1 g;obtain⟨c1,c2,c3⟩:=(Iq _ _ _ _ _).1 h;rw[Xu,Iq];refine⟨J t (B t (by simp)) _ _ _ _ o1 c1 v,?_⟩;by_cases H:r=[]
     .subst H;exact⟨fun e=>absurd rfl e,DW _ _ _⟩
     .have F:=(o2 H).1;have L:(Yr m c t).x=t.x/\((Yr m c t).ks=[]↔t.ks=[]):=by
       obtain⟨X,Z,Y,tk⟩:=t;have F:X.kind=19:=F;rw[Up,X2 (by omega)];exact⟨rfl,by show tk.map _=[]↔tk=[];simp⟩
      rw[L.1,CD L.2];exact⟨fun _=>⟨(c2 H).1,fun d q=>(c2 H).2 d (L.2.1 q)⟩,P _ _ _ _ _ _ (fun y I=>B y (by simp[I])) o3 c3 (CF v _ _)⟩
   exact Q ks _ _ _ _ _ _ B g h v
  rw[X2 A]at g;have V:=g.1;rw[X2 (by omega),X2 (by omega),X2 k,Wa]at h⊢;intro u N;obtain⟨z,C,rfl⟩:=Zq.1 N;exact J z (B z C) _ _ _ _ ((J3 _ _ _).1 g.2 z C) (h z C) v
theorem Y4v:∀l:List Fd,l.length=2->∃a b,l=[a,b]
 | [a,b],_=>⟨a,b,rfl⟩
theorem X2o{O:FOp}(K:Uy O)(v:Cs O):∀(f:Nat) (y:Fd),y.VF=true->Good y->UG y->∀a,Cl a y->Cl a (fold O f y):=by
 intro f;induction f with
 | zero=>intro y _ _ _ a h;exact h
 | succ f ih=>
  intro y V hg Z a h;obtain⟨x,p,b,ks⟩:=y;obtain⟨P,j⟩:=(Jb _ _ _ _).1 hg;have q:=((Va _ _ _ _).1 V).2;have S:∀k∈ks,UG k:=Z.kids;have A:∀t∈ks.map (fold O f),Good t:=fun u hu=>by
   obtain⟨t,n,rfl⟩:=Zq.1 hu;exact UX K f t (j t n)
  rw[fold_succ];have r:Cl a (.mk x p b (ks.map (fold O f))):=by
   rw[←DB ks]at h;refine PF (F:=id) rfl rfl (fun t n a h=>ih t (q t n) (j t n) (S t n) a h) (fun J t n=>?_) h;have N:=GA V;unfold YE at N;rw[X2 (by omega),X2 (by omega),X3 J,XD,Z9,←J7,JQ,←List.dropLast_eq_take]at N;have a0:=N.1 t n;have E:=List.dropLast_subset _ n;obtain⟨a1,a2⟩:=(Lj K f t (q t E) (j t E)).2.1.o (by omega);exact⟨by rw[a1];rfl,a2⟩
  have kid:x.kind=6\/x.kind=7\/x.kind=13->∀k∈ks.map (fold O f),Cl a k:=fun hx k B=>by
   rw[Vx,X2 (by omega),X2 (by omega),X2 (by omega),X2 (by omega),Wa]at r;exact r k B
  refine Iz O (fold O f) x p b _ (fun t=>Cl a t) r ?_ ?_ ?_ ?_ ?_
  .intro _ k c _ _ L;exact PG a (v.un _ _ _ L)
  .intro h k l e _;exact kid (by omega) k (by rw[e];simp)
  .intro _ k l c _ _ _ L;exact PG a (v.bin _ _ _ _ L)
  .intro h k l m e _;exact⟨kid (by omega) l (by rw[e];simp),kid (by omega) m (by rw[e];simp)⟩
  .intro d k l e B;obtain⟨H,g,rfl⟩:∃H g,ks=[H,g]:=Y4v _ (P.bind d);have e1:k=fold O f H/\l=fold O f g:=by
    rw[Xu,Xu,Yc,List.cons.injEq,List.cons.injEq]at e;exact⟨e.1.symm,e.2.1.symm⟩
   obtain⟨rfl,rfl⟩:=e1;have D:=Z.AI d;have Q:=(CO v f D d B).2;have z:=((A (fold O f H) (by simp)).const B).1;obtain⟨e',U,Y,hU⟩:=D;rw[QI,X2 (by omega),X3 (.inl d)]at Y;have ol:=((Ji _ _ _ _ _ _).1 Y.2).2 g (by simp);have W:=RI v.un v.bin f g _ _ ol (Li hU _ _);rw[Vx,X2 (by omega),X2 (by omega),X2 (by omega),X3 (.inl d),Xu,Io]at r;have I:=r.2 (fold O f g) (by simp);have vl:=(Lj K f g (q g (by simp)) (j g (by simp)));have M:=PU (GA V) (by omega) g (by simp);have X:=vl.2.1.e M;refine ih _ (FQ p z _ _ (X4 _) vl.1 (by omega)).1 (IC p z _ _ (X4 _) (A _ (by simp))) (.inl Q) a ?_;refine X2p p B _ _ (X4 _) _ _ _ a W I fun s C=>?_;rcases K7.1 C with C|C
   .exact .inl C
   .rw[QZ.1 C];exact .inr (Uv _ _ _)
def Ju(t:Fd):List ByteArray:=if t.x.kind=20\/t.x.kind=21 then[t.x.text]else if t.x.kind=23 then t.ks.map fun k=>k.x.text else[]
def ND:List ByteArray->List ByteArray->Prop
 | _,[]=>True
 | kn,t::r=>t∉kn/\ND (kn++[t]) r
def FC(t:Fd):Prop:=ND [] (t.ks.flatMap Ju)/\Cl (t.ks.flatMap Ju) t
theorem X4x{O:FOp}(n:Uy O)(E:Cs O)(f:Nat){y:Fd}(s:y.VF=true)(q:Good y)(d:OI y)(h:FC y):FC (fold O f y):=by
 have e:(fold O f y).ks.flatMap Ju=y.ks.flatMap Ju:=by
  cases f with
  | zero=>rfl
  | succ f=>
   obtain⟨x,p,b,ks⟩:=y;have C:x.kind=24:=d.1;have A:∀k∈ks,Stmt k:=d.2;have l:=((Va _ _ _ _).1 s).2;have j:=((Jb _ _ _ _).1 q).2;rw[fold_succ,G4 _ _ _ _ _ _ (by omega) (by omega) (by omega) (by omega)];show(ks.map (fold O f)).flatMap Ju=ks.flatMap Ju;rw[SN];clear d q s h;induction ks with
   | nil=>rfl
   | cons t r F=>
    rw[GO,GO,F (fun k c=>A k (by simp[c])) (fun k c=>l k (by simp[c])) (fun k c=>j k (by simp[c]))];congr 1;have st:=A t (by simp);have u:=l t (by simp);have z:=j t (by simp);obtain⟨H,I,_⟩:=st;have B:=((Lj n f t u z).2.1.o (by omega)).1;unfold Ju;rw[B];by_cases a:t.x.kind=23
    .have g:¬(t.x.kind=20\/t.x.kind=21):=by omega
     rw[X2 g,X2 g,X3 a,X3 a];cases f with
     | zero=>rfl
     | succ f=>
      obtain⟨x,p,b,ks⟩:=t;have a:x.kind=23:=a;have v:=((Va _ _ _ _).1 u).2;have m:=((Jb _ _ _ _).1 z).2;have d:=GA u;rw[a]at d;have D:=(JQ 5 5 ks).1 d;rw[fold_succ,G4 _ _ _ _ _ _ (by omega) (by omega) (by omega) (by omega)];show(ks.map (fold O f)).map _=ks.map _;rw[Wz];refine JF fun k c=>?_;show(fold O f k).x.text=_;rw[(Lj n f k (v k c) (m k c)).2.2 (by have:=D k c;omega)]
    .rw[X2 a,X2 a]
 unfold FC;rw[e];exact⟨h.1,X2o n E f y s q (.inr (.inr d)) _ h.2⟩
def st:Fd->Fd
 | .mk x _ _ ks=> .mk {x with kids:=ks.length} 0 0 (stL ks)
 where
 stL:List Fd->List Fd
 | []=>[]
 | t::r=>t.st::stL r
theorem Si(x:Nd)(p b:Int)(ks:List Fd):(Fd.mk x p b ks).st= .mk {x with kids:=ks.length} 0 0 (ks.map st):=by
 have h:∀l,st.stL l=l.map st:=by
  intro l;induction l with
  | nil=>simp[st.stL]
  | cons t r a=>simp[st.stL,a]
 rw[st,h]
theorem Wl(t:Fd):t.st.x.text=t.x.text/\t.st.x.kind=t.x.kind/\t.st.ks=t.ks.map st:=by
 cases t;rw[Si];exact⟨rfl,rfl,rfl⟩
def prun:List Nd->List Fd->List Fd
 | [],op=>op
 | x::r,op=>prun r (op.take (op.length-x.kids.toNat)++[.mk x 0 0 (op.drop (op.length-x.kids.toNat))])
theorem EC:∀(n:Nat) (y:Fd),y.size<=n->∀(r:List Nd) (op:List Fd),prun (XP y++r) op=prun r (op++[y.st]):=by
 intro n;induction n with
 | zero=>intro y a;have:=size_pos y;omega
 | succ n m=>
  intro y a r op;obtain⟨x,p,b,ks⟩:=y;rw[Zi]at a;have j:∀t∈ks,t.size<=n:=fun t k=>by have:=Ql k;omega
  have d:∀(l:List Fd),(∀t∈l,t.size<=n)->∀r op,prun (XP.giveL l++r) op=prun r (op++l.map st):=by
   intro l;induction l with
   | nil=>intro _ r op;simp[XP.giveL]
   | cons t l c=>
    intro g r op;rw[UT,Jo,m t (g t (by simp)),c (fun y a=>g y (by simp[a])),Jo];rfl
  rw[G7,Jo,d ks j,Si,List.singleton_append,prun,Xo,Z9,show((ks.length:Int)).toNat=ks.length from rfl,Lx,List.drop_left,List.take_left]
theorem Y2p{t u:Fd}(h:XP t=XP u):t.st=u.st:=by
 have a:=EC _ t (X4 _) [] [];have c:=EC _ u (X4 _) [] [];rw[h]at a;have:=a.symm.trans c;simpa[prun]using this
theorem X2q:∀(n:Nat) (y:Fd),y.size<=n->∀a,(Cl a y↔Cl a y.st):=by
 intro n;induction n with
 | zero=>intro y g;have:=size_pos y;omega
 | succ n j=>
  intro y g a;obtain⟨x,p,b,ks⟩:=y;rw[Zi]at g;have d:∀t∈ks,t.size<=n:=fun t c=>by have:=Ql c;omega
  rw[Si];have e:∀t:Fd,t.st.ks=[]↔t.ks=[]:=fun t=>by rw[(Wl t).2.2];simp
  constructor
  .intro h;rw[←DB ks]at h;exact PF (F:=id) (x:=x) rfl rfl (fun t c a=>(j t (d t c) a).1) (fun _ t _=>⟨(Wl t).1,e t⟩) h
  .intro h;rw[←DB ks];exact PF (G:=id) (y:=x) (p:=0) (b:=0) rfl rfl (fun t c a=>(j t (d t c) a).2) (fun _ t _=>⟨(Wl t).1.symm,(e t).symm⟩) h
theorem BN(y:Fd):FC y↔FC y.st:=by
 have e:y.st.ks.flatMap Ju=y.ks.flatMap Ju:=by
  rw[(Wl y).2.2,SN];congr 1;funext t;unfold Ju;rw[(Wl t).1,(Wl t).2.1,(Wl t).2.2,Wz];congr 2;exact JF fun k _=>(Wl k).1
 unfold FC;rw[e,←X2q _ y (X4 _)]
end Fd
