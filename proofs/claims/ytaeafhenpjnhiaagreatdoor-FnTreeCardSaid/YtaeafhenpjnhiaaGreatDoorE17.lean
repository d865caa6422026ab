import Derived.Test.YtaeafhenpjnhiaaGreatDoorE16
namespace Go.Proofs.YtaeafhenpjnhiaaGreatDoor
namespace Rb
def csg(s:List Sc.T):List (List Sc.T)->List Sc.T
 | []=>[]
 | a::r=>tm [44]::(s++a++csg s r)
def cmg(s:List Sc.T):List (List Sc.T)->List Sc.T
 | []=>[]
 | a::r=>a++csg s r
theorem SU:∀L:List (List Sc.T),csg [] L=cs L
 | []=>rfl
 | a::r=>by rw[csg,cs,SU r];rfl
theorem WG(L:List (List Sc.T)):cmg [] L=cm L:=by cases L<;>simp[cmg,cm,SU]
def rk(x:Nd):Nat:=
 if x.kind=13\/x.kind=14\/x.kind=15 then 0
 else if x.kind=7 then Xi x.op.toNat
 else if x.kind=6 then(if x.op=1 then 3 else 7)
 else if x.kind=10\/x.kind=11\/x.kind=12 then 8
 else 9
def br(k:Nat)(i:Nat × List Sc.T):List Sc.T:=if i.1<k then tm [40]::(i.2++[tm [41]])else i.2
def tx(x:Nd):List UInt8:=x.text.data.toList
def frm(s e:List Sc.T)(x:Nd)(l:List (Nat × List Sc.T)):List Sc.T:=
 if x.kind=1 then[tw Zj]
 else if x.kind=2 then[tw (if x.n=0 then ZK else K4)]
 else if x.kind=3 then[ti x.n.toNat]
 else if x.kind=4 then[tt (tx x)]
 else if x.kind=5 then[tn (tx x)]
 else if x.kind=8 then tm [91]::(cmg s (l.map (·.2))++[tm [93]])
 else if x.kind=9 then tm [123]::(cmg s (l.map (·.2))++[tm [125]])
 else if x.kind=23 then tw Kj::(s++tt (tx x)::tm [58]::(s++cmg s (l.map (·.2))++tm [59]::e))
 else if x.kind=24 then l.flatMap (·.2)
 else if x.kind=15 then tw Zz::tm [40]::(cmg s (l.dropLast.map (·.2))++tm [41]::(s++tm [61,62]::(s++(l.getLast?.getD (0,[])).2)))
 else if x.kind=20 then tw Z7::(s++tn (tx x)::tm [40]::(cmg s (l.dropLast.map (·.2))++tm [41]::(s++tm [61]::(s++(l.getLast?.getD (0,[])).2++tm [59]::e))))
 else match l with
 | []=>[tn (tx x)]
 | a::r=>
  if x.kind=6 then(if x.op=1 then tw Zk::(s++br 3 a)else tm [45]::br 7 a)
  else if x.kind=11 then br 8 a++[tm [46],tn (tx x)]
  else if x.kind=12 then br 8 a++tm [40]::(cmg s (r.map (·.2))++[tm [41]])
  else if x.kind=17 then(if K6 x.text=true then tn (tx x)else tt (tx x))::tm [58]::(s++a.2)
  else if x.kind=18\/x.kind=19 then tn (tx x)::(s++tm [61]::(s++a.2))
  else if x.kind=21 then tw XM::(s++tn (tx x)::(s++tm [61]::(s++a.2++tm [59]::e)))
  else if x.kind=22 then tw K3::(s++a.2++tm [59]::e)
  else match r with
  | []=>[]
  | b::q=>
   if x.kind=7 then br (if Xi x.op.toNat=4 then 5 else Xi x.op.toNat) a++(s++tO x.op.toNat::(s++br (Xi x.op.toNat+1) b))
   else if x.kind=10 then br 8 a++tm [91]::(b.2++[tm [93]])
   else if x.kind=14 then tw XM::(s++tn (tx x)::(s++tm [61]::(s++a.2++(s++tw Y1::(s++b.2)))))
   else match q with
   | []=>tm [91]::(b.2++(s++tw Zr::(s++tn (tx x)::(s++tw Y1::(s++a.2++[tm [93]])))))
   | c::_=>
    if x.kind=13 then tw XR::(s++a.2++(s++tw Qi::(s++b.2++(s++tw Qq::(s++c.2)))))
    else tm [91]::(b.2++(s++tw Zr::(s++tn (tx x)::(s++tw Y1::(s++a.2++(s++tw XR::(s++c.2++[tm [93]])))))))
def pc(s e:List Sc.T):Fd->List Sc.T
 | .mk x _ _ ks=>frm s e x (pcL ks)
 where
 pcL:List Fd->List (Nat × List Sc.T)
 | []=>[]
 | t::r=>(rk t.x,pc s e t)::pcL r
theorem C9(s e:List Sc.T):∀l:List Fd,pc.pcL s e l=l.map fun t=>(rk t.x,pc s e t)
 | []=>by rw[pc.pcL];rfl
 | t::r=>by rw[pc.pcL,C9 s e r];rfl
theorem P9(s e:List Sc.T)(x:Nd)(p b:Int)(ks:List Fd):pc s e (.mk x p b ks)=frm s e x (ks.map fun t=>(rk t.x,pc s e t)):=by rw[pc,C9]
def tk(y:Fd):List Sc.T:=pc [] [] y
theorem ZJ(x:Nd)(p b:Int)(ks:List Fd):tk (.mk x p b ks)=frm [] [] x (ks.map fun t=>(rk t.x,tk t)):=P9 _ _ _ _ _ _
theorem Xah{x:Sc.T}(h:(x.kind==1)=false)(l:List Sc.T):WX (x::l)=false:=by
 cases l with
 | nil=>rfl
 | cons y l=>simp only[WX,h,UW]
theorem Hd.app{k:Nat}{l:List Sc.T}(h:Hd k l)(y:Sc.T)(m:List Sc.T)(d:(y.kind==5&&y.text==[61])=false):Hd k (l++y::m):=⟨by simp,by rw[QI h.ne,QI h.ne];exact h.cb,fun z r _=>by rw[KL];exact h.nm y _ d,fun a=>by rw[QI h.ne,QI h.ne,QI h.ne];exact h.e a,fun a=>by rw[QI h.ne];exact h.no a,fun a=>by rw[QI h.ne];exact h.neg a⟩
theorem J3{k:Nat}{x:Sc.T}(g:(x.kind==1)=false)(a:isT [x] [93]=false)(d:isT [x] [41]=false)(e:1<=k->isT [x] XM=false/\isT [x] XR=false/\isT [x] Zz=false)(j:4<=k->isT [x] Zk=false)(neg:8<=k->isT [x] [45]=false)(l:List Sc.T):Hd k (x::l):=⟨by simp,⟨a,d⟩,fun y r _=>Xah g _,e,j,neg⟩
theorem X2g(t:List UInt8):Hd 9 [tn t]:=
 ⟨by simp,⟨rfl,rfl⟩,fun y r h=>by
  show((1:Nat)==1&&y.kind==5&&y.text==[61])=false;simpa using h,fun _=>⟨rfl,rfl,rfl⟩,fun _=>rfl,fun _=>rfl⟩
theorem AG(a:List Sc.T):Hd 9 (tm [40]::a):=J3 rfl rfl rfl (fun _=>⟨rfl,rfl,rfl⟩) (fun _=>rfl) (fun _=>rfl) a
end Rb
namespace Rb
def bt(t:Sc.T):List UInt8:=if t.kind=3 then Yh t.n else if t.kind=4 then Y3 t.text else t.text
def bts(l:List Sc.T):List UInt8:=l.flatMap bt
def Dv(t:List UInt8):Prop:=(∃b r,t=b::r/\Sc.beg b=true)/\t.all Sc.nm=true/\t.length<=30/\t∉Sc.words
def RY(t:Sc.T):Prop:=(t.kind=1/\Dv t.text/\t.n=0)\/(t.kind=2/\t.text∈Sc.words/\t.n=0)\/(t.kind=3/\t.text=[]/\t.n<=9223372036854775807)\/(t.kind=4/\t.text.length<=1000/\t.n=0)\/(t.kind=5/\t.text∈Sc.marks/\t.n=0)
def okN(r:List UInt8):Prop:=∀b,r.head?=some b->Sc.nm b=false
def okQ(r:List UInt8):Prop:=∀b,r.head?=some b->b≠61/\b≠62
def Sep(t:Sc.T)(r:List UInt8):Prop:=(t.kind=1\/t.kind=2\/t.kind=3->okN r)/\(t.kind=5->t.text=[61]\/t.text=[60]\/t.text=[62]->okQ r)
theorem Em{t r:List UInt8}(h:t.all Sc.nm=true)(a:okN r):(t++r).takeWhile Sc.nm=t:=by
 rw[List.takeWhile_append_of_pos (by simpa using h)];cases r with
 | nil=>simp
 | cons b r=>rw[List.takeWhile_cons_of_neg (by simp[a b rfl])];simp
theorem TN(n:Nat):Sc.dig (Jy n)=true/\(Jy n).toNat=48+n%10:=by
 have h:(Jy n).toNat=48+n%10:=by
  unfold Jy;rw[UInt8.toNat_ofNat'];omega
 refine⟨?_,h⟩;unfold Sc.dig;rw[h];exact DU (by omega)
theorem WY(l:List UInt8)(b:UInt8):Sc.YR (l++[b])=Sc.YR l*10+(b.toNat-48):=by simp[Sc.YR]
theorem SX:∀(k n:Nat),n<=k->(Yh n).all Sc.dig=true/\Sc.YR (Yh n)=n/\Yh n≠[]/\((Yh n).head?=some 48->n=0):=by
 intro k;induction k with
 | zero=>
  intro n s;obtain rfl:n=0:=by omega
  rw[Yh];exact⟨rfl,rfl,by simp,fun _=>rfl⟩
 | succ k u=>
  intro n s;rw[Yh];obtain⟨g,j⟩:=TN n;split
  .rename_i h;refine⟨by simp[g],?_,by simp,fun e=>?_⟩
   .show(0*10+((Jy n).toNat-48))=n;omega
   .have r:Jy n=48:=by simpa using e
    rw[r]at j;have:(48:UInt8).toNat=48:=rfl;omega
  .rename_i h;obtain⟨a,b,c,d⟩:=u (n / 10) (by omega);refine⟨by simp[a,g],?_,by simp,fun e=>?_⟩
   .rw[WY,b,j];omega
   .cases m:Yh (n / 10)with
    | nil=>exact absurd m c
    | cons x l=>
     rw[m]at e d;have:=d (by simpa using e);omega
theorem BK{l:List UInt8}(h:l.all Sc.dig=true):l.all Sc.nm=true:=by
 simp only[Ua]at h⊢;intro b a;simp[Sc.nm,h b a]
theorem OV(n:Nat)(m:n<=9223372036854775807){r:List UInt8}(s:okN r):Sc.one (Yh n++r)=⟨0,3,[],n,(Yh n).length⟩:=by
 obtain⟨a,b,c,d⟩:=SX n n (X5 n);have u:=Em (BK a) s;have j:Sc.ZV (Yh n++r)=⟨0,3,[],n,(Yh n).length⟩:=by
  unfold Sc.ZV;rw[u,b,Xa];refine⟨a,m,fun e=>?_⟩;cases g:Yh n with
  | nil=>exact c g
  | cons x l=>
   rw[g]at e d;have k:=d (by simpa using e.1);subst k;rw[Yh]at g;have:=e.2;simp at g;rw[g.2]at this;simp at this
 cases g:Yh n with
 | nil=>exact absurd g c
 | cons x l=>
  rw[g]at j a;have v:Sc.dig x=true:=by simp only[List.all_cons,XE]at a;exact a.1
  show(if Sc.dig x=true then Sc.ZV (x::l++r)else _)=_;rw[Xa v];exact j
theorem NO{b:UInt8}(h:Sc.beg b=true):Sc.dig b=false:=by
 unfold Sc.beg at h;unfold Sc.dig;have:=Qn h;exact JP (by omega)
theorem BW{t:List UInt8}(d:∃b r,t=b::r/\Sc.beg b=true)(g:t.all Sc.nm=true){r:List UInt8}(j:okN r):Sc.one (t++r)=Sc.Kx (t++r)/\(t++r).takeWhile Sc.nm=t:=by
 obtain⟨b,q,rfl,a⟩:=d;refine⟨?_,Em g j⟩;show(if Sc.dig b=true then _ else if Sc.beg b=true then Sc.Kx (b::q++r)else _)=_;rw[X6 (by rw[NO a];simp),Xa a]
theorem Y3k:∀w∈Sc.words,(∃b r,w=b::r/\Sc.beg b=true)/\w.all Sc.nm=true:=by
 have h:Sc.words.all (fun w=>(match w with|[]=>false|b::_=>Sc.beg b)&&w.all Sc.nm)=true:=by decide
 intro w a;have:=Ua.1 h w a;cases w with
 | nil=>simp at this
 | cons b r=>simp only[XE]at this;exact⟨⟨b,r,rfl,this.1⟩,this.2⟩
end Rb
namespace Rb
set_option linter.unusedSimpArgs false
theorem AI:∀n:Nat,n<16->Sc.XZ (Xv n)=n:=by
 have h:(List.range 16).all (fun n=>decide (Sc.XZ (Xv n)=(n:Int)))=true:=by decide
 intro n a;exact Qn (Ua.1 h n (Wq.2 a))
theorem EB:∀(t r:List UInt8),Sc.unq (t.flatMap ZL++34::r)=some (t,(t.flatMap ZL).length+1)
 | [],r=>by
  show Sc.unq (34::r)=_;rw[Sc.M4,Xa (by decide)];rfl
 | b::t,r=>by
  have g:=EB t r;rw[JH,KL];by_cases h:UI b=true
  .have d:ZL b=[b]:=by unfold ZL;rw[Xa h]
   rw[d];unfold UI at h;have h:=Qn h;show Sc.unq (b::(t.flatMap ZL++34::r))=_;rw[Sc.M4,X6 h.2.2.1,X6 h.2.2.2,X6 (by omega),g];simp
  .have d:ZL b=[92,Xv (b.toNat / 16),Xv (b.toNat%16)]:=by unfold ZL;rw[X6 h]
   rw[d];show Sc.unq (92::Xv (b.toNat / 16)::Xv (b.toNat%16)::(t.flatMap ZL++34::r))=_;have j:b.toNat<256:=b.toNat_lt;have a:=AI (b.toNat / 16) (by omega);have c:=AI (b.toNat%16) (by omega);rw[Sc.M4,X6 (by decide),Xa (by decide)];show(if Sc.XZ (Xv (b.toNat / 16))<0\/Sc.XZ (Xv (b.toNat%16))<0 then none else(Sc.unq (t.flatMap ZL++34::r)).map _)=_;rw[X6 (by omega),g,a,c];have e:UInt8.ofNat (16*((b.toNat / 16:Nat):Int)+((b.toNat%16:Nat):Int)).toNat=b:=by
    have:(16*((b.toNat / 16:Nat):Int)+((b.toNat%16:Nat):Int)).toNat=b.toNat:=by omega
    rw[this];simp
   simp only[UA,ZO,Prod.mk.injEq];refine⟨by rw[e],by simp⟩
theorem Xce{t:List UInt8}(h:t.length<=1000)(r:List UInt8):Sc.one (Y3 t++r)=⟨0,4,t,0,(Y3 t).length⟩:=by
 have e:Y3 t++r=34::(t.flatMap ZL++34::r):=by simp[Y3]
 rw[e];have a:Sc.one (34::(t.flatMap ZL++34::r))=Sc.KZ (34::(t.flatMap ZL++34::r)):=by
  unfold Sc.one;simp only;rw[X6 (by decide),X6 (by decide),Xa (by decide)]
 rw[a];unfold Sc.KZ;rw[List.tail_cons,EB];show(if 1000<t.length then _ else _)=_;rw[X6 (by omega)];simp[Y3]
theorem OS{m:List UInt8}(h:m∈Sc.marks){r:List UInt8}(u:m=[61]\/m=[60]\/m=[62]->okQ r):Sc.one (m++r)=⟨0,5,m,0,m.length⟩:=by
 have g:∀m∈Sc.marks,(m=[61]\/m=[60]\/m=[62]->okQ r)->Sc.ZM (m++r)=⟨0,5,m,0,m.length⟩/\∃b q,m=b::q/\Sc.dig b=false/\Sc.beg b=false/\b.toNat≠34:=by
  intro m hm s;simp only[Sc.marks,Kr,QU,J7]at hm;rcases hm with rfl|rfl|rfl|rfl|rfl|rfl|rfl|rfl|rfl|rfl|rfl|rfl|rfl|rfl|rfl|rfl|rfl|rfl|rfl|rfl|rfl|rfl|rfl;all_goals refine⟨?_,_,_,rfl,by decide,by decide,by decide⟩
  all_goals cases r with
   | nil=>rfl
   | cons c r=>
    first
    | rfl
    | (have j:=s (by simp) c rfl
       have k:((61:UInt8)==c)=false:=by simp[Ne.symm j.1]
       have n:((62:UInt8)==c)=false:=by simp[Ne.symm j.2]
       simp[Sc.ZM,Sc.marks,List.find?,List.isPrefixOf,k,n])
    | simp[Sc.ZM,Sc.marks,List.find?,List.isPrefixOf]
 obtain⟨a,b,q,rfl,c,d,e⟩:=g m h u;show(if Sc.dig b=true then _ else if Sc.beg b=true then _ else if b.toNat=34 then _ else Sc.ZM (b::q++r))=_;rw[X6 (by rw[c];simp),X6 (by rw[d];simp),X6 e];exact a
theorem X9u:∀m∈Sc.marks,∃b q,m=b::q/\b.toNat≠35/\b.toNat≠32/\b.toNat≠10:=by
 have h:Sc.marks.all (fun w=>match w with|[]=>false|b::_=>b.toNat !=35&&b.toNat !=32&&b.toNat !=10)=true:=by decide
 intro w a;have:=Ua.1 h w a;cases w with
 | nil=>simp at this
 | cons b r=>simp at this;exact⟨b,r,rfl,this.1.1,this.1.2,this.2⟩
theorem OO{b:UInt8}(h:Sc.nm b=true):b.toNat≠35/\b.toNat≠32/\b.toNat≠10:=by
 unfold Sc.nm Sc.beg Sc.dig at h;simp only[UX,VO]at h;omega
theorem Xci{t:Sc.T}(h:RY t){r:List UInt8}(j:Sep t r):Sc.one (bt t++r)=⟨0,t.kind,t.text,t.n,(bt t).length⟩/\∃b q,bt t=b::q/\b.toNat≠35/\b.toNat≠32/\b.toNat≠10:=by
 obtain⟨k,x,n,p⟩:=t;rcases h with⟨rfl,h,rfl⟩|⟨rfl,h,rfl⟩|⟨rfl,rfl,h⟩|⟨rfl,h,rfl⟩|⟨rfl,h,rfl⟩
 .show Sc.one (x++r)=⟨0,1,x,0,x.length⟩/\∃b q,x=b::q/\_;obtain⟨g,d,y,u⟩:=h;obtain⟨a,m⟩:=BW g d (j.1 (.inl rfl));refine⟨?_,?_⟩
  .rw[a];unfold Sc.Kx;rw[m,X6 u,X6 (by omega)]
  .obtain⟨b,q,rfl,v⟩:=g;simp only[List.all_cons,XE]at d;exact⟨b,q,rfl,OO d.1⟩
 .show Sc.one (x++r)=⟨0,2,x,0,x.length⟩/\∃b q,x=b::q/\_;obtain⟨g,d⟩:=Y3k x h;obtain⟨a,m⟩:=BW g d (j.1 (.inr (.inl rfl)));refine⟨?_,?_⟩
  .rw[a];unfold Sc.Kx;rw[m,Xa h]
  .obtain⟨b,q,rfl,v⟩:=g;simp only[List.all_cons,XE]at d;exact⟨b,q,rfl,OO d.1⟩
 .show Sc.one (Yh n++r)=⟨0,3,[],n,(Yh n).length⟩/\∃b q,Yh n=b::q/\_;refine⟨OV n h (j.1 (.inr (.inr rfl))),?_⟩;obtain⟨a,_,c,_⟩:=SX n n (X5 n);cases s:Yh n with
  | nil=>exact absurd s c
  | cons b q=>
   rw[s]at a;have:=BK a;simp only[List.all_cons,XE]at this;exact⟨b,q,rfl,OO this.1⟩
 .show Sc.one (Y3 x++r)=⟨0,4,x,0,(Y3 x).length⟩/\∃b q,Y3 x=b::q/\_;exact⟨Xce h r,34,_,rfl,by decide,by decide,by decide⟩
 .show Sc.one (x++r)=⟨0,5,x,0,x.length⟩/\∃b q,x=b::q/\_;exact⟨OS h (j.2 rfl),X9u x h⟩
def Ch:List Sc.T->List UInt8->Prop
 | [],_=>True
 | t::l,r=>(if t.kind=0 then t.text=[32]\/t.text=[10]else RY t/\t.place=0/\Sep t (bts l++r))/\Ch l r
theorem Jz(a b:List Sc.T):bts (a++b)=bts a++bts b:=by simp[bts]
theorem IK:∀(a b:List Sc.T) (r:List UInt8),Ch (a++b) r↔Ch a (bts b++r)/\Ch b r
 | [],b,r=>by simp[Ch]
 | t::a,b,r=>by
  rw[Ux,Ch,Ch,IK a b r,Jz,KL];exact⟨fun h=>⟨⟨h.1,h.2.1⟩,h.2.2⟩,fun h=>⟨h.1.1,h.1.2,h.2⟩⟩
def Xp(l:List Sc.T):List Sc.T:=l.filter fun t=>t.kind !=0
theorem CZ{b:UInt8}(h:b=32\/b=10)(f k:Nat)(l:List UInt8):Sc.scan f k (b::l)=Sc.scan f (k+1) l:=by
 cases f with
 | zero=>rfl
 | succ f=>
  have e:Sc.Xl false (b::l)=1+Sc.Xl false l:=by rcases h with rfl|rfl<;>rfl
  unfold Sc.scan;rw[e,show 1+Sc.Xl false l=Sc.Xl false l+1 by omega,Vv,show k+(Sc.Xl false l+1)=k+1+Sc.Xl false l by omega]
theorem LL:∀(l:List Sc.T),Ch l []->∀f k,(bts l).length<f->(Sc.scan f k (bts l)).1.map cl=Xp l/\(Sc.scan f k (bts l)).2=(0,0)
 | [],_,f+1,k,_=>by
  refine⟨rfl,rfl⟩
 | t::l,h,f+1,k,hf=>by
  rw[Ch,JW]at h;have j:bts (t::l)=bt t++bts l:=by simp[bts]
  by_cases d:t.kind=0
  .rw[Xa d]at h;have n:bt t=t.text:=by unfold bt;rw[X6 (by omega),X6 (by omega)]
   have g:Xp (t::l)=Xp l:=by simp[Xp,d]
   rw[j,n]at hf⊢;rw[g];rcases h.1 with e|e
   .rw[e]at hf⊢;have:=LL l h.2 (f+1) (k+1) (by simp at hf;omega);rw[show([32]:List UInt8)++bts l=32::bts l from rfl,CZ (.inl rfl)];exact this
   .rw[e]at hf⊢;have:=LL l h.2 (f+1) (k+1) (by simp at hf;omega);rw[show([10]:List UInt8)++bts l=10::bts l from rfl,CZ (.inr rfl)];exact this
  .rw[X6 d]at h;obtain⟨⟨r,m,s⟩,u⟩:=h;obtain⟨o1,b,q,o2,n1,n2,n3⟩:=Xci r s;have g:Xp (t::l)=t::Xp l:=by simp[Xp,d]
   rw[j]at hf⊢;have v:Sc.Xl false (bt t++bts l)=0:=by
    rw[o2];show(if b.toNat=35 then _ else if b.toNat=32\/b.toNat=10 then _ else 0)=0;rw[X6 n1,X6 (by omega)]
   have y:(bt t).length≠0:=by rw[o2];simp
   obtain⟨a,c⟩:=LL l u f (k+(bt t).length) (by simp at hf;omega);have hne:bt t++bts l≠[]:=by rw[o2];simp
   unfold Sc.scan;rw[v,Kh,o1,X6 hne];simp only[Vy,List.drop_left];rw[X6 (by simp),g];refine⟨?_,c⟩;rw[Y5,a];congr 1;obtain⟨k',C,A,B⟩:=t;simp only at m;rw[m];rfl
end Rb
namespace Rb
set_option linter.unusedSimpArgs false
theorem YN(a b:List Sc.T):Xp (a++b)=Xp a++Xp b:=by simp[Xp]
theorem Y4b:Xp []=[]:=rfl
theorem Y4a(t:List UInt8)(l:List Sc.T):Xp (tm t::l)=tm t::Xp l:=rfl
theorem Y4f(t:List UInt8)(l:List Sc.T):Xp (tw t::l)=tw t::Xp l:=rfl
theorem Y4d(t:List UInt8)(l:List Sc.T):Xp (tn t::l)=tn t::Xp l:=rfl
theorem Y4c(n:Nat)(l:List Sc.T):Xp (ti n::l)=ti n::Xp l:=rfl
theorem Y4e(t:List UInt8)(l:List Sc.T):Xp (tt t::l)=tt t::Xp l:=rfl
theorem Zd(o:Nat)(l:List Sc.T):Xp (tO o::l)=tO o::Xp l:=by unfold tO;split<;>rfl
theorem Ze(c:Prop)[Decidable c](t:List UInt8)(l:List Sc.T):Xp ((if c then tn t else tt t)::l)=(if c then tn t else tt t)::Xp l:=by split<;>rfl
theorem Z3(k:Nat)(i:Nat × List Sc.T):Xp (br k i)=br k (i.1,Xp i.2):=by
 unfold br;split<;>simp[Y4a,YN,Y4b]
theorem Et(s:List Sc.T):∀L:List (List Sc.T),Xp (csg s L)=csg (Xp s) (L.map Xp)
 | []=>rfl
 | a::r=>by simp[csg,Y4a,YN,Et s r]
theorem Z4(s:List Sc.T)(L:List (List Sc.T)):Xp (cmg s L)=cmg (Xp s) (L.map Xp):=by
 cases L<;>simp[cmg,YN,Et,Y4b]
theorem Y2i(l:List (Nat × List Sc.T)):Xp (l.flatMap (·.2))=(l.map fun i=>(i.1,Xp i.2)).flatMap (·.2):=by
 induction l with
 | nil=>rfl
 | cons a r d=>simp[YN,d]
theorem Bj(l:List (Nat × List Sc.T)):Xp (l.getLast?.getD (0,[])).2=((l.map fun i=>(i.1,Xp i.2)).getLast?.getD (0,[])).2:=by
 rw[List.getLast?_map];cases l.getLast? <;> rfl
theorem Y2j(s e:List Sc.T)(x:Nd)(l:List (Nat × List Sc.T)):Xp (frm s e x l)=frm (Xp s) (Xp e) x (l.map fun i=>(i.1,Xp i.2)):=by
 by_cases F:x.kind=1
 .simp[frm,F,Y4a,Y4f,Y4d,Y4c,Y4e,Zd,Ze,Z3,YN,Y4b,Z4]
 by_cases I:x.kind=2
 .simp[frm,I,Y4a,Y4f,Y4d,Y4c,Y4e,Zd,Ze,Z3,YN,Y4b,Z4]
 by_cases J:x.kind=3
 .simp[frm,J,Y4a,Y4f,Y4d,Y4c,Y4e,Zd,Ze,Z3,YN,Y4b,Z4]
 by_cases K:x.kind=4
 .simp[frm,K,Y4a,Y4f,Y4d,Y4c,Y4e,Zd,Ze,Z3,YN,Y4b,Z4]
 by_cases L:x.kind=5
 .simp[frm,L,Y4a,Y4f,Y4d,Y4c,Y4e,Zd,Ze,Z3,YN,Y4b,Z4]
 by_cases M:x.kind=8
 .simp[frm,M,Y4a,Y4f,Y4d,Y4c,Y4e,Zd,Ze,Z3,YN,Y4b,Z4];try rfl
 by_cases N:x.kind=9
 .simp[frm,N,Y4a,Y4f,Y4d,Y4c,Y4e,Zd,Ze,Z3,YN,Y4b,Z4];try rfl
 by_cases j:x.kind=23
 .simp[frm,j,Y4a,Y4f,Y4d,Y4c,Y4e,Zd,Ze,Z3,YN,Y4b,Z4];try rfl
 by_cases k:x.kind=24
 .simp only[frm,k];exact Y2i l
 by_cases d:x.kind=15
 .simp only[frm,d];simp[Y4a,Y4f,Y4d,Y4c,Y4e,Z3,YN,Y4b,Z4,Bj,List.map_dropLast];try rfl
 by_cases g:x.kind=20
 .simp only[frm,g];simp[Y4a,Y4f,Y4d,Y4c,Y4e,Z3,YN,Y4b,Z4,Bj,List.map_dropLast];try rfl
 rcases l with _|⟨a,r⟩
 .simp[frm,F,I,J,K,L,M,N,j,k,d,g,Y4a,Y4f,Y4d,Y4c,Y4e,Zd,Ze,Z3,YN,Y4b,Z4]
 by_cases O:x.kind=6
 .simp[frm,O,Y4a,Y4f,Y4d,Y4c,Y4e,Zd,Ze,Z3,YN,Y4b,Z4];try(split<;>simp[Y4a,Y4f,Y4d,Y4c,Y4e,Zd,Ze,Z3,YN,Y4b,Z4])
  try rfl
 by_cases m:x.kind=11
 .simp[frm,m,Y4a,Y4f,Y4d,Y4c,Y4e,Zd,Ze,Z3,YN,Y4b,Z4];try(split<;>simp[Y4a,Y4f,Y4d,Y4c,Y4e,Zd,Ze,Z3,YN,Y4b,Z4])
  try rfl
 by_cases n:x.kind=12
 .simp[frm,n,Y4a,Y4f,Y4d,Y4c,Y4e,Zd,Ze,Z3,YN,Y4b,Z4];try(split<;>simp[Y4a,Y4f,Y4d,Y4c,Y4e,Zd,Ze,Z3,YN,Y4b,Z4])
  try rfl
 by_cases u:x.kind=17
 .simp[frm,u,Y4a,Y4f,Y4d,Y4c,Y4e,Zd,Ze,Z3,YN,Y4b,Z4];try(split<;>simp[Y4a,Y4f,Y4d,Y4c,Y4e,Zd,Ze,Z3,YN,Y4b,Z4])
  try rfl
 by_cases v:x.kind=18
 .simp[frm,v,Y4a,Y4f,Y4d,Y4c,Y4e,Zd,Ze,Z3,YN,Y4b,Z4];try(split<;>simp[Y4a,Y4f,Y4d,Y4c,Y4e,Zd,Ze,Z3,YN,Y4b,Z4])
  try rfl
 by_cases y:x.kind=19
 .simp[frm,y,Y4a,Y4f,Y4d,Y4c,Y4e,Zd,Ze,Z3,YN,Y4b,Z4];try(split<;>simp[Y4a,Y4f,Y4d,Y4c,Y4e,Zd,Ze,Z3,YN,Y4b,Z4])
  try rfl
 by_cases A:x.kind=21
 .simp[frm,A,Y4a,Y4f,Y4d,Y4c,Y4e,Zd,Ze,Z3,YN,Y4b,Z4];try(split<;>simp[Y4a,Y4f,Y4d,Y4c,Y4e,Zd,Ze,Z3,YN,Y4b,Z4])
  try rfl
 by_cases B:x.kind=22
 .simp[frm,B,Y4a,Y4f,Y4d,Y4c,Y4e,Zd,Ze,Z3,YN,Y4b,Z4];try(split<;>simp[Y4a,Y4f,Y4d,Y4c,Y4e,Zd,Ze,Z3,YN,Y4b,Z4])
  try rfl
 rcases r with _|⟨b,q⟩
 .simp[frm,F,I,J,K,L,M,N,j,k,d,g,O,m,n,u,v,y,A,B,Y4a,Y4f,Y4d,Y4c,Y4e,Zd,Ze,Z3,YN,Y4b,Z4]
 by_cases Q:x.kind=7
 .simp[frm,Q,Y4a,Y4f,Y4d,Y4c,Y4e,Zd,Ze,Z3,YN,Y4b,Z4]
 by_cases C:x.kind=10
 .simp[frm,C,Y4a,Y4f,Y4d,Y4c,Y4e,Zd,Ze,Z3,YN,Y4b,Z4]
 by_cases E:x.kind=14
 .simp[frm,E,Y4a,Y4f,Y4d,Y4c,Y4e,Zd,Ze,Z3,YN,Y4b,Z4]
 rcases q with _|⟨c,q⟩
 .simp[frm,F,I,J,K,L,M,N,j,k,d,g,O,m,n,u,v,y,A,B,Q,C,E,Y4a,Y4f,Y4d,Y4c,Y4e,Zd,Ze,Z3,YN,Y4b,Z4]
 by_cases H:x.kind=13
 .simp[frm,H,Y4a,Y4f,Y4d,Y4c,Y4e,Zd,Ze,Z3,YN,Y4b,Z4]
 simp[frm,F,I,J,K,L,M,N,j,k,d,g,O,m,n,u,v,y,A,B,Q,C,E,H,Y4a,Y4f,Y4d,Y4c,Y4e,Zd,Ze,Z3,YN,Y4b,Z4]
def sp:Sc.T:=⟨0,[32],0,0⟩
def nl:Sc.T:=⟨0,[10],0,0⟩
theorem Y2k:∀(n:Nat) (y:Fd),y.size<=n->Xp (pc [sp] [nl] y)=tk y:=by
 intro n;induction n with
 | zero=>intro y a;have:=Fd.size_pos y;omega
 | succ n g=>
  intro y a;obtain⟨x,p,b,ks⟩:=y;rw[Fd.UU]at a;rw[P9,ZJ,Y2j,I7];have e:ks.map ((fun i:Nat × List Sc.T=>(i.1,Xp i.2)) ∘ fun t=>(rk t.x,pc [sp] [nl] t))=ks.map fun t=>(rk t.x,tk t):=by
   refine List.map_congr_left fun t d=>?_;have:=g t (by have:=Fd.Wc d;omega);simp[this]
  rw[e];rfl
end Rb
namespace Rb
variable {ts:List Sc.T} {sz:Nat}
theorem ZE{x:Nd}{k o n:Int}{t:List UInt8}(a:x.kind=k)(g:x.op=o)(d:x.n=n)(j:tx x=t)(c:Nat):({x with kids:=(c:Int)}:Nd)=nd k o n t c:=by
 obtain⟨k',s,r,⟨⟨u⟩⟩,m⟩:=x;subst a g d j;rfl
theorem Cb{x:Nd}(h:Xr x=true):(Yq x.kind=false->tx x=[])/\(x.kind≠2->x.kind≠3->x.n=0)/\(x.kind≠6->x.kind≠7->x.op=0):=by
 unfold Xr at h;split at h
 .cases h
 .rename_i d;simp only[UX,XE,Rh,bne_iff_ne,ne_eq,not_or,not_and]at d;refine⟨fun a=>?_,fun a b=>?_,fun a b=>?_⟩
  .have g:=d.1.1 a;rw[Ri]at g;unfold tx;simpa using g
  .have g:=d.1.2 ⟨a,b⟩;omega
  .have g:=d.2 ⟨a,b⟩;omega
theorem ZG{α:Type}:∀l:List α,l.length=1->∃a,l=[a]
 | [a],_=>⟨a,rfl⟩
theorem QR{α:Type}:∀l:List α,l.length=2->∃a b,l=[a,b]
 | [a,b],_=>⟨a,b,rfl⟩
theorem Wf{α:Type}:∀l:List α,l.length=3->∃a b c,l=[a,b,c]
 | [a,b,c],_=>⟨a,b,c,rfl⟩
theorem WU:∀l:List Fd,1<=l.length->∃q z,l=q++[z]:=fun l h=>⟨l.dropLast,l.getLast (by intro e;rw[e]at h;simp at h),(List.dropLast_concat_getLast _).symm⟩
variable (ts sz)
structure Ok (y:Fd):Prop where
 e:1<=y.x.kind->y.x.kind<=16->Lv ts sz (rk y.x) (tk y) y.Xy/\Hd (rk y.x) (tk y)
 f:y.x.kind=17->Step (ts:=ts) (sz:=sz) .recordL .recordL (2 * ·) (tk y,y.Xy)
 n:y.x.kind=18->∀b,Step (ts:=ts) (sz:=sz) (.argsL · b) (.argsL · true) id (tk y,y.Xy)
 p:y.x.kind=19->Step (ts:=ts) (sz:=sz) .Yn .Yn id (tk y,y.Xy)
 s:20<=y.x.kind->y.x.kind<=23->LS ts sz (tk y) y.Xy/\tk y≠[]
 l:y.x.kind=5->Step (ts:=ts) (sz:=sz) .YX .YX id (tk y,y.Xy)
variable {ts sz}
theorem Ok.QK{y:Fd}(h:y.x.kind<=16)(a:y.x.kind≠5)(e:Lv ts sz (rk y.x) (tk y) y.Xy/\Hd (rk y.x) (tk y)):Ok ts sz y:=⟨fun _ _=>e,fun k=>by omega,fun k=>by omega,fun k=>by omega,fun k=>by omega,fun k=>by omega⟩
theorem Ok.Lw{y:Fd}(h:20<=y.x.kind)(e:LS ts sz (tk y) y.Xy/\tk y≠[]):Ok ts sz y:=⟨fun _ k=>by omega,fun k=>by omega,fun k=>by omega,fun k=>by omega,fun _ _=>e,fun k=>by omega⟩
theorem CE(x:Nd):rk x<=9:=by
 unfold rk Xi;repeat' split
 all_goals omega
theorem Ok.le{y:Fd}(h:Ok ts sz y)(d:1<=y.x.kind/\y.x.kind<=16):LE ts sz (tk y) y.Xy/\Hd 0 (tk y):=by
 obtain⟨a,b⟩:=h.e d.1 d.2;exact⟨Lv.down _ 0 (Xb _) (CE _) a b,b.le (Xb _)⟩
theorem Ok.br{y:Fd}(h:Ok ts sz y)(d:1<=y.x.kind/\y.x.kind<=16)(j:Nat)(k:j<=9):Lv ts sz j (br j (rk y.x,tk y)) y.Xy/\Hd j (br j (rk y.x,tk y)):=by
 unfold Rb.br;split
 .have m:Lv ts sz 9 (tm [40]::(tk y++[tm [41]])) y.Xy:=Gx (h.le d).1;exact⟨Lv.down 9 j k (X5 9) m (AG _),(AG _).le k⟩
 .rename_i g;obtain⟨a,b⟩:=h.e d.1 d.2;exact⟨Lv.down _ j (by simpa using g) (CE _) a b,b.le (by simpa using g)⟩
def its(l:List Fd):List It:=l.map fun t=>(tk t,t.Xy)
theorem Gf(l:List Fd):(its l).map (·.1)=l.map tk:=by simp[its]
theorem VW:∀l:List Fd,os (its l)=Fd.Xy.giveL l
 | []=>by simp[its,os,Fd.Xy.giveL]
 | t::r=>by
  have:=VW r;rw[Fd.Jh,←this];simp[its,os]
theorem VV{l:List Fd}{i:It}(h:i∈its l):∃t∈l,i=(tk t,t.Xy):=by
 obtain⟨t,a,e⟩:=Vw.1 h;exact⟨t,a,e.symm⟩
theorem OC(l:List Fd):(l.map fun t=>(rk t.x,tk t)).map (·.2)=l.map tk:=by simp
theorem Uj(a:Fd):Fd.Xy.giveL [a]=a.Xy:=by rw[Fd.Jh];simp[Fd.Xy.giveL]
theorem G8(a b:Fd):Fd.Xy.giveL [a,b]=a.Xy++b.Xy:=by rw[Fd.Jh,Uj]
theorem Aw(a b c:Fd):Fd.Xy.giveL [a,b,c]=a.Xy++b.Xy++c.Xy:=by rw[Fd.Jh,G8,KL]
theorem Wj{x:Nd}{p b:Int}{ks:List Fd}(h:(Fd.mk x p b ks).VF=true):Xr {x with kids:=ks.length}=true/\K5 x.kind ks.length=true/\YE x.kind (ks.map Fd.gr)=true/\∀t∈ks,t.VF=true:=by
 obtain⟨a,d⟩:=(Fd.Y3d x p b ks).1 h;unfold KQ at a;simp only[XE]at a;exact⟨a.1.1,a.1.2,a.2,d⟩
theorem Xbq{x:Nd}{p b:Int}(B:1<=x.kind/\x.kind<=5)(a:Xr {x with kids:=((0:Nat):Int)}=true):Ok ts sz (.mk x p b []):=by
 obtain⟨s,u,m⟩:=Cb a;have d:(Fd.mk x p b []).Xy=[{x with kids:=((0:Nat):Int)}]:=by rw[Fd.Zh];simp[Fd.Xy.giveL]
 have j:rk x=9:=by
  unfold rk;rw[X6 (by omega),X6 (by omega),X6 (by omega),X6 (by omega)]
 have A:x.kind=1\/x.kind=2\/x.kind=3\/x.kind=4\/x.kind=5:=by omega
 rcases A with k|k|k|k|k
 .refine Ok.QK (show x.kind<=16 by omega) (show x.kind≠5 by omega) ?_;show Lv ts sz (rk x) _ _/\Hd (rk x) _;rw[j,d,ZJ,ZE k (m (by show x.kind≠6;omega) (by show x.kind≠7;omega)) (u (by show x.kind≠2;omega) (by show x.kind≠3;omega)) (s (by show Yq x.kind=false;rw[k];rfl)) 0];simp only[frm,k,Kv];exact⟨OU,J3 rfl rfl rfl (fun _=>⟨rfl,rfl,rfl⟩) (fun _=>rfl) (fun _=>rfl) []⟩
 .have g:x.n=0\/x.n=1:=by
   unfold Xr at a;split at a
   .cases a
   .simpa[k]using a
  refine Ok.QK (show x.kind<=16 by omega) (show x.kind≠5 by omega) ?_;show Lv ts sz (rk x) _ _/\Hd (rk x) _;have y:=s (by show Yq x.kind=false;rw[k];rfl);have v:=m (by show x.kind≠6;omega) (by show x.kind≠7;omega);rcases g with g|g
  .rw[j,d,ZJ,ZE k v g y 0];simp[frm,k,g];exact⟨OQ,J3 rfl rfl rfl (fun _=>⟨rfl,rfl,rfl⟩) (fun _=>rfl) (fun _=>rfl) []⟩
  .rw[j,d,ZJ,ZE k v g y 0];simp[frm,k,g];exact⟨OY,J3 rfl rfl rfl (fun _=>⟨rfl,rfl,rfl⟩) (fun _=>rfl) (fun _=>rfl) []⟩
 .have g:0<=x.n:=by
   unfold Xr at a;split at a
   .cases a
   .simpa[k]using a
  refine Ok.QK (show x.kind<=16 by omega) (show x.kind≠5 by omega) ?_;show Lv ts sz (rk x) _ _/\Hd (rk x) _;have e:x.n=((x.n.toNat:Nat):Int):=by omega
  have r:tk (.mk x p b [])=[ti x.n.toNat]:=by rw[ZJ];simp[frm,k]
  rw[j,d,r,ZE k (m (by show x.kind≠6;omega) (by show x.kind≠7;omega)) e (s (by show Yq x.kind=false;rw[k];rfl)) 0];exact⟨OR _,J3 rfl rfl rfl (fun _=>⟨rfl,rfl,rfl⟩) (fun _=>rfl) (fun _=>rfl) []⟩
 .refine Ok.QK (show x.kind<=16 by omega) (show x.kind≠5 by omega) ?_;show Lv ts sz (rk x) _ _/\Hd (rk x) _;rw[j,d,ZJ,ZE k (m (by show x.kind≠6;omega) (by show x.kind≠7;omega)) (u (by show x.kind≠2;omega) (by show x.kind≠3;omega)) rfl 0];simp[frm,k];exact⟨OX _,J3 rfl rfl rfl (fun _=>⟨rfl,rfl,rfl⟩) (fun _=>rfl) (fun _=>rfl) []⟩
 .have r:tk (.mk x p b [])=[tn (tx x)]:=by rw[ZJ];simp[frm,k]
  rw[ZE k (m (by show x.kind≠6;omega) (by show x.kind≠7;omega)) (u (by show x.kind≠2;omega) (by show x.kind≠3;omega)) rfl 0]at d;refine⟨fun _ _=>?_,fun e=>?_,fun e=>?_,fun e=>?_,fun e=>?_,fun _=>?_⟩
  .show Lv ts sz (rk x) _ _/\Hd (rk x) _;rw[j,d,r];exact⟨OT _,X2g _⟩
  .exact absurd e (by show x.kind≠17;omega)
  .exact absurd e (by show x.kind≠18;omega)
  .exact absurd e (by show x.kind≠19;omega)
  .exact absurd e (by show ¬20<=x.kind;omega)
  .rw[d,r];exact X9g _
end Rb
namespace Rb
variable {ts:List Sc.T} {sz:Nat}
structure Nf (x:Nd) (ks:List Fd):Prop where
 cnt:K5 x.kind ks.length=true
 fit:YE x.kind (ks.map Fd.gr)=true
 tx:Yq x.kind=false->tx x=[]
 n:x.kind≠2->x.kind≠3->x.n=0
 op:x.kind≠6->x.kind≠7->x.op=0
 pl:Xr {x with kids:=ks.length}=true
theorem Nf.of{x:Nd}{p b:Int}{ks:List Fd}(h:(Fd.mk x p b ks).VF=true):Nf x ks:=by
 obtain⟨d,g,j,_⟩:=Wj h;obtain⟨a,b,c⟩:=Cb d;exact⟨g,j,a,b,c,d⟩
theorem btw{a b:Int}{l:List Fd}(h:Yg a b (l.map Fd.gr)=true):∀t∈l,a<=t.x.kind/\t.x.kind<=b:=(Fd.VK a b l).1 h
theorem Nf.e{x:Nd}{ks:List Fd}(h:Nf x ks)(a:x.kind=6\/x.kind=7\/x.kind=8\/x.kind=10\/x.kind=11\/x.kind=13\/x.kind=14\/x.kind=16\/x.kind=17\/x.kind=18\/x.kind=19\/x.kind=21\/x.kind=22):∀t∈ks,1<=t.x.kind/\t.x.kind<=16:=by
 have:=h.fit;unfold YE at this;rw[X6 (by omega),X6 (by omega),X6 (by omega),X6 (by omega),X6 (by omega)]at this;exact btw this
theorem Nf.len{x:Nd}{ks:List Fd}(h:Nf x ks):(x.kind=6\/x.kind=11\/x.kind=17\/x.kind=18\/x.kind=21\/x.kind=22->ks.length=1)/\(x.kind=7\/x.kind=10\/x.kind=14->ks.length=2)/\(x.kind=13->ks.length=3)/\(x.kind=16->ks.length=2\/ks.length=3)/\(x.kind=19->ks.length=0\/ks.length=1)/\(x.kind=12\/x.kind=15\/x.kind=20\/x.kind=23->1<=ks.length):=by
 have:=h.cnt;unfold K5 at this;refine⟨fun k=>?_,fun k=>?_,fun k=>?_,fun k=>?_,fun k=>?_,fun k=>?_⟩
 .rw[X6 (by omega),Xa k]at this;have:=Qn this;omega
 .rw[X6 (by omega),X6 (by omega),Xa k]at this;have:=Qn this;omega
 .rw[X6 (by omega),X6 (by omega),X6 (by omega),Xa k]at this;have:=Qn this;omega
 .rw[X6 (by omega),X6 (by omega),X6 (by omega),X6 (by omega),Xa k]at this;have:=Qn this;omega
 .rw[X6 (by omega),X6 (by omega),X6 (by omega),X6 (by omega),X6 (by omega),Xa k]at this;have:=Qn this;omega
 .rw[X6 (by omega),X6 (by omega),X6 (by omega),X6 (by omega),X6 (by omega),X6 (by omega),X6 (by omega)]at this;split at this
  .have:=Qn this;omega
  .rw[Xa (by omega)]at this;have:=Qn this;omega
variable {x:Nd} {p b:Int}
theorem Xby{a:Fd}(g:x.kind=6)(h:Nf x [a])(k:Ok ts sz a):Ok ts sz (.mk x p b [a]):=by
 have j:=h.e (by omega) a (by simp);have m:=h.n (by omega) (by omega);have r:=h.tx (by rw[g];rfl);have d:x.op=1\/x.op=2:=by
  have:=h.pl;unfold Xr at this;split at this
  .cases this
  .have:=KP (by simpa[g]using this);omega
 refine Ok.QK (show x.kind<=16 by omega) (show x.kind≠5 by omega) ?_;show Lv ts sz (rk x) _ _/\Hd (rk x) _;rw[Fd.Zh,Uj,ZJ];rcases d with d|d
 .rw[show rk x=3 by simp[rk,g,d],ZE g d m r];simp only[frm,g,d,Y5,YD,JJ];exact⟨Y2t (k.br j 3 (by omega)).1,J3 rfl rfl rfl (fun _=>⟨rfl,rfl,rfl⟩) (fun e=>by omega) (fun e=>by omega) _⟩
 .rw[show rk x=7 by simp[rk,g,d],ZE g d m r];simp only[frm,g,d,Y5,YD,JJ];exact⟨Y2s (k.br j 7 (by omega)).1,J3 rfl rfl rfl (fun _=>⟨rfl,rfl,rfl⟩) (fun _=>rfl) (fun e=>by omega) _⟩
theorem Ek{o:Nat}(a:1<=o)(d:o<=14):((tO o).kind==5&&(tO o).text==[61])=false:=by
 have:o=1\/o=2\/o=3\/o=4\/o=5\/o=6\/o=7\/o=8\/o=9\/o=10\/o=11\/o=12\/o=13\/o=14:=by omega
 rcases this with rfl|rfl|rfl|rfl|rfl|rfl|rfl|rfl|rfl|rfl|rfl|rfl|rfl|rfl<;>rfl
theorem Xfn{o:Nat}(a:1<=o)(d:o<=14):Xi o=1\/Xi o=2\/Xi o=4\/Xi o=5\/Xi o=6:=by
 unfold Xi;repeat' split
 all_goals omega
theorem Xbe{a c:Fd}(g:x.kind=7)(h:Nf x [a,c])(v:Ok ts sz a)(y:Ok ts sz c):Ok ts sz (.mk x p b [a,c]):=by
 have r:=h.e (by omega) a (by simp);have s:=h.e (by omega) c (by simp);have F:=h.n (by omega) (by omega);have H:=h.tx (by rw[g];rfl);have J:1<=x.op/\x.op<=14:=by
  have:=h.pl;unfold Xr at this;split at this
  .cases this
  .exact KP (by simpa[g]using this)
 obtain⟨o,C⟩:∃o:Nat,x.op=o:=⟨x.op.toNat,by omega⟩;have o1:1<=o:=by omega
 have o2:o<=14:=by omega
 refine Ok.QK (show x.kind<=16 by omega) (show x.kind≠5 by omega) ?_;show Lv ts sz (rk x) _ _/\Hd (rk x) _;have u:x.op.toNat=o:=by omega
 have A:frm [] [] x ([a,c].map fun t=>(rk t.x,tk t))=br (if Xi o=4 then 5 else Xi o) (rk a.x,tk a)++tO o::br (Xi o+1) (rk c.x,tk c):=by simp[frm,g,u]
 have E:rk x=Xi o:=by simp[rk,g,u]
 rw[Fd.Zh,G8,ZJ,ZE g C F H,A,E];by_cases d:Xi o=4
 .rw[Xa d,d];obtain⟨j,m⟩:=v.br r 5 (by omega);exact⟨T3 o1 o2 d (Lv.ops j (by omega) (by omega)) (Lv.ops (y.br s 5 (by omega)).1 (by omega) (by omega)),(m.le (by omega)).app _ _ (Ek o1 o2)⟩
 .rw[X6 d];have K:=Xfn o1 o2;obtain⟨j,m⟩:=v.br r (Xi o) (by omega);have I:=Lv.ops (y.br s (Xi o+1) (by omega)).1 (by omega) (by omega);have B:∀l k,Lv ts sz (Xi o) l k=LC ts sz (Xi o) l k:=fun l k=>by
   unfold Lv;rw[X6 (by omega),Xa (by omega)]
  rw[B]at j⊢;exact⟨T4 o1 o2 rfl d j I,m.app _ _ (Ek o1 o2)⟩
theorem Xbs{ks:List Fd}(a:x.kind=8)(h:Nf x ks)(d:∀t∈ks,Ok ts sz t):Ok ts sz (.mk x p b ks):=by
 have j:=h.e (by omega);refine Ok.QK (show x.kind<=16 by omega) (show x.kind≠5 by omega) ?_;show Lv ts sz (rk x) _ _/\Hd (rk x) _;have g:frm [] [] x (ks.map fun t=>(rk t.x,tk t))=tm [91]::(cm ((its ks).map (·.1))++[tm [93]]):=by
  simp only[frm,a];rw[WG,OC,Gf];simp
 have k:=X8f (ts:=ts) (sz:=sz) (its ks) (fun i hi=>by
  obtain⟨t,m,rfl⟩:=VV hi;exact(d t m).le (j t m))
 rw[VW,show(its ks).length=ks.length by simp[its]]at k;rw[Fd.Zh,ZJ,ZE a (h.op (by omega) (by omega)) (h.n (by omega) (by omega)) (h.tx (by rw[a];rfl)),g,show rk x=9 by simp[rk,a]];exact⟨Vi k,J3 rfl rfl rfl (fun _=>⟨rfl,rfl,rfl⟩) (fun _=>rfl) (fun _=>rfl) _⟩
theorem Xbw{ks:List Fd}(a:x.kind=9)(h:Nf x ks)(d:∀t∈ks,Ok ts sz t):Ok ts sz (.mk x p b ks):=by
 have j:∀t∈ks,17<=t.x.kind/\t.x.kind<=17:=by
  have:=h.fit;unfold YE at this;rw[Xa a,XE]at this;exact btw this.1
 refine Ok.QK (show x.kind<=16 by omega) (show x.kind≠5 by omega) ?_;show Lv ts sz (rk x) _ _/\Hd (rk x) _;have g:frm [] [] x (ks.map fun t=>(rk t.x,tk t))=tm [123]::(cm ((its ks).map (·.1))++[tm [125]]):=by
  simp only[frm,a];rw[WG,OC,Gf];simp
 have k:=X8g (ts:=ts) (sz:=sz) (its ks) (fun i hi=>by
  obtain⟨t,m,rfl⟩:=VV hi;exact(d t m).f (by have:=j t m;omega))
 rw[VW,show(its ks).length=ks.length by simp[its]]at k;rw[Fd.Zh,ZJ,ZE a (h.op (by omega) (by omega)) (h.n (by omega) (by omega)) (h.tx (by rw[a];rfl)),g,show rk x=9 by simp[rk,a]];exact⟨W7 k,J3 rfl rfl rfl (fun _=>⟨rfl,rfl,rfl⟩) (fun _=>rfl) (fun _=>rfl) _⟩
theorem Xbp{a c:Fd}(d:x.kind=10)(h:Nf x [a,c])(m:Ok ts sz a)(r:Ok ts sz c):Ok ts sz (.mk x p b [a,c]):=by
 have j:=h.e (by omega) a (by simp);have k:=h.e (by omega) c (by simp);refine Ok.QK (show x.kind<=16 by omega) (show x.kind≠5 by omega) ?_;show Lv ts sz (rk x) _ _/\Hd (rk x) _;have g:frm [] [] x ([a,c].map fun t=>(rk t.x,tk t))=br 8 (rk a.x,tk a)++tm [91]::(tk c++[tm [93]]):=by simp[frm,d]
 obtain⟨s,u⟩:=m.br j 8 (by omega);rw[Fd.Zh,G8,ZJ,ZE d (h.op (by omega) (by omega)) (h.n (by omega) (by omega)) (h.tx (by rw[d];rfl)),g,show rk x=8 by simp[rk,d]];exact⟨Xdb s (r.le k).1,u.app _ _ rfl⟩
theorem Xbh{a:Fd}(d:x.kind=11)(h:Nf x [a])(k:Ok ts sz a):Ok ts sz (.mk x p b [a]):=by
 have j:=h.e (by omega) a (by simp);refine Ok.QK (show x.kind<=16 by omega) (show x.kind≠5 by omega) ?_;show Lv ts sz (rk x) _ _/\Hd (rk x) _;have g:frm [] [] x ([a].map fun t=>(rk t.x,tk t))=br 8 (rk a.x,tk a)++[tm [46],tn (tx x)]:=by simp[frm,d]
 obtain⟨m,r⟩:=k.br j 8 (by omega);rw[Fd.Zh,Uj,ZJ,ZE d (h.op (by omega) (by omega)) (h.n (by omega) (by omega)) rfl,g,show rk x=8 by simp[rk,d]];exact⟨Xda m,r.app _ _ rfl⟩
theorem Xbf{a:Fd}{r:List Fd}(d:x.kind=12)(h:Nf x (a::r))(j:∀t∈a::r,Ok ts sz t):Ok ts sz (.mk x p b (a::r)):=by
 obtain⟨m,hm⟩:∃m,KR ((a::r).map Fd.gr)=1+m:=⟨_,rfl⟩;have s:=h.fit;unfold YE at s;rw[X6 (by omega),Xa d,hm,XE,XE]at s;obtain⟨⟨u,v⟩,_⟩:=s;rw[←Uz,V4 1 m,Jc]at u;rw[←Ud,V4 1 m,Vv]at v;have y:=btw u;have H:=btw v;have E:=y a (by simp);have F:=j a (by simp);refine Ok.QK (show x.kind<=16 by omega) (show x.kind≠5 by omega) ?_;show Lv ts sz (rk x) _ _/\Hd (rk x) _;have B:its (r.take m)++its (r.drop m)=its r:=by unfold its;rw[←JI,JX]
 have k:=Xfj (ts:=ts) (sz:=sz) (its (r.take m)) (its (r.drop m)) (fun i hi=>by
  obtain⟨t,g,rfl⟩:=VV hi;have:=(j t (by simp[Ue g])).le (y t (by simp[g]));exact ND this.1 this.2) (fun i hi A=>by
  obtain⟨t,g,rfl⟩:=VV hi;exact(j t (by simp[Q8 g])).n (by have:=H t g;omega) A)
 rw[B,VW,show(its r).length=r.length by simp[its]]at k;have C:frm [] [] x ((a::r).map fun t=>(rk t.x,tk t))=br 8 (rk a.x,tk a)++tm [40]::(cm ((its r).map (·.1))++[tm [41]]):=by
  rw[Gf];simp[frm,d,WG];rfl
 obtain⟨I,J⟩:=F.br E 8 (by omega);rw[Fd.Zh,Fd.Jh,ZJ,ZE d (h.op (by omega) (by omega)) (h.n (by omega) (by omega)) (h.tx (by rw[d];rfl)),C,show rk x=8 by simp[rk,d],show(a::r).length=1+r.length by simp;omega];exact⟨Xcz I k,J.app _ _ rfl⟩
theorem Xbo{a c d:Fd}(g:x.kind=13)(h:Nf x [a,c,d])(m:Ok ts sz a)(r:Ok ts sz c)(s:Ok ts sz d):Ok ts sz (.mk x p b [a,c,d]):=by
 have j:=h.e (by omega);refine Ok.QK (show x.kind<=16 by omega) (show x.kind≠5 by omega) ?_;show Lv ts sz (rk x) _ _/\Hd (rk x) _;have k:frm [] [] x ([a,c,d].map fun t=>(rk t.x,tk t))=tw XR::(tk a++tw Qi::(tk c++tw Qq::tk d)):=by simp[frm,g]
 rw[Fd.Zh,Aw,ZJ,ZE g (h.op (by omega) (by omega)) (h.n (by omega) (by omega)) (h.tx (by rw[g];rfl)),k,show rk x=0 by simp[rk,g]];exact⟨X8s (m.le (j a (by simp))).1 (r.le (j c (by simp))).1 (s.le (j d (by simp))).1,J3 rfl rfl rfl (fun e=>by omega) (fun e=>by omega) (fun e=>by omega) _⟩
theorem Xbr{a c:Fd}(d:x.kind=14)(h:Nf x [a,c])(k:Ok ts sz a)(m:Ok ts sz c):Ok ts sz (.mk x p b [a,c]):=by
 have g:=h.e (by omega);refine Ok.QK (show x.kind<=16 by omega) (show x.kind≠5 by omega) ?_;show Lv ts sz (rk x) _ _/\Hd (rk x) _;have j:frm [] [] x ([a,c].map fun t=>(rk t.x,tk t))=tw XM::tn (tx x)::tm [61]::(tk a++tw Y1::tk c):=by simp[frm,d]
 rw[Fd.Zh,G8,ZJ,ZE d (h.op (by omega) (by omega)) (h.n (by omega) (by omega)) rfl,j,show rk x=0 by simp[rk,d]];exact⟨X8t (k.le (g a (by simp))).1 (m.le (g c (by simp))).1,J3 rfl rfl rfl (fun e=>by omega) (fun e=>by omega) (fun e=>by omega) _⟩
theorem C8{q:List Fd}{z:Fd}(j:x.kind=15\/x.kind=20)(h:Nf x (q++[z]))(d:∀t∈q++[z],Ok ts sz t):Rd ts sz .params (fun _=>True) (tm [40]::(cm (q.map tk)++[tm [41]])) (Fd.Xy.giveL q) q.length/\LE ts sz (tk z) z.Xy:=by
 have a:=h.fit;unfold YE at a;rw[X6 (by omega),X6 (by omega),Xa j,XE,Ju,Xj,Ds,Dt,←Uz,←Ud,List.take_left,List.drop_left]at a;have m:=btw a.1;have n:=btw a.2 z (by simp);refine⟨?_,((d z (by simp)).le n).1⟩;have k:=Xfk (ts:=ts) (sz:=sz) (its q) (fun i hi=>by
  obtain⟨t,g,rfl⟩:=VV hi;exact(d t (by simp[g])).p (by have:=m t g;omega))
 rw[VW,Gf,show(its q).length=q.length by simp[its]]at k;exact k
theorem IW{q:List Fd}{z:Fd}:((q++[z]).map fun t=>(rk t.x,tk t)).dropLast.map (·.2)=q.map tk/\(((q++[z]).map fun t=>(rk t.x,tk t)).getLast?.getD (0,[])).2=tk z:=by
 rw[JI,List.map_singleton,List.dropLast_concat,List.getLast?_concat];exact⟨OC q,rfl⟩
theorem Xbn{q:List Fd}{z:Fd}(a:x.kind=15)(h:Nf x (q++[z]))(d:∀t∈q++[z],Ok ts sz t):Ok ts sz (.mk x p b (q++[z])):=by
 obtain⟨j,k⟩:=C8 (.inl a) h d;refine Ok.QK (show x.kind<=16 by omega) (show x.kind≠5 by omega) ?_;show Lv ts sz (rk x) _ _/\Hd (rk x) _;have g:frm [] [] x ((q++[z]).map fun t=>(rk t.x,tk t))=tw Zz::(tm [40]::(cm (q.map tk)++[tm [41]])++tm [61,62]::tk z):=by
  unfold frm;simp only[a];rw[IW.1,IW.2];simp[WG]
 rw[Fd.Zh,Fd.Ax,Uj,ZJ,ZE a (h.op (by omega) (by omega)) (h.n (by omega) (by omega)) (h.tx (by rw[a];rfl)),g,show rk x=0 by simp[rk,a],show(q++[z]).length=q.length+1 by simp];exact⟨X8r j k,J3 rfl rfl rfl (fun e=>by omega) (fun e=>by omega) (fun e=>by omega) _⟩
theorem Xbi{a c:Fd}(d:x.kind=16)(h:Nf x [a,c])(r:Ok ts sz a)(s:Ok ts sz c):Ok ts sz (.mk x p b [a,c]):=by
 have g:=h.e (by omega);refine Ok.QK (show x.kind<=16 by omega) (show x.kind≠5 by omega) ?_;show Lv ts sz (rk x) _ _/\Hd (rk x) _;have m:frm [] [] x ([a,c].map fun t=>(rk t.x,tk t))=tm [91]::(tk c++tw Zr::tn (tx x)::tw Y1::(tk a++[tm [93]])):=by simp[frm,d]
 obtain⟨j,k⟩:=s.le (g c (by simp));rw[Fd.Zh,G8,ZJ,ZE d (h.op (by omega) (by omega)) (h.n (by omega) (by omega)) rfl,m,show rk x=9 by simp[rk,d]];exact⟨Vi (X8d j k (r.le (g a (by simp))).1),J3 rfl rfl rfl (fun _=>⟨rfl,rfl,rfl⟩) (fun _=>rfl) (fun _=>rfl) _⟩
theorem Xbj{a c d:Fd}(j:x.kind=16)(h:Nf x [a,c,d])(s:Ok ts sz a)(u:Ok ts sz c)(v:Ok ts sz d):Ok ts sz (.mk x p b [a,c,d]):=by
 have g:=h.e (by omega);refine Ok.QK (show x.kind<=16 by omega) (show x.kind≠5 by omega) ?_;show Lv ts sz (rk x) _ _/\Hd (rk x) _;have r:frm [] [] x ([a,c,d].map fun t=>(rk t.x,tk t))=tm [91]::(tk c++tw Zr::tn (tx x)::tw Y1::(tk a++tw XR::(tk d++[tm [93]]))):=by simp[frm,j]
 obtain⟨k,m⟩:=u.le (g c (by simp));rw[Fd.Zh,Aw,ZJ,ZE j (h.op (by omega) (by omega)) (h.n (by omega) (by omega)) rfl,r,show rk x=9 by simp[rk,j]];exact⟨Vi (X8e k m (s.le (g a (by simp))).1 (v.le (g d (by simp))).1),J3 rfl rfl rfl (fun _=>⟨rfl,rfl,rfl⟩) (fun _=>rfl) (fun _=>rfl) _⟩
