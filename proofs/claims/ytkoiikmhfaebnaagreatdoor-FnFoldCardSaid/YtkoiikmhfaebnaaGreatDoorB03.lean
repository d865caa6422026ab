import Derived.Test.YtkoiikmhfaebnaaGreatDoorB01
import Derived.OwnWalk
import Derived.Deep.RegionLaw
import Derived.Deep.RegionHeld3
import Derived.WalkSmall
namespace Go.Proofs.YtkoiikmhfaebnaaGreatDoor
open Tryz Go.RowKit
theorem S6{w w':World}{base size:Nat}{e:TypeId}{v:Value}{n:Nat}{l:List Value}(h:w.ownsRow base e size v n l)(r:∀g,base<=g->g<w.heap.size->w'.heap[g]?=w.heap[g]?):w'.ownsRow base e size v n l:=by
 refine⟨h.1,?_⟩;rcases h.2 with m|⟨d,a,c,s,j,k,q⟩
 .exact .inl m
 .exact .inr ⟨d,a,c,s,j,(r d j (Kh.1 k).1).trans k,q⟩
theorem Qi{w w':World}{base size:Nat}{e:TypeId}{v:Value}{n:Nat}{a:List Value}(h:w.ownsRow base e size v n a)(c:BL w w'):w'.ownsRow base e size v n a:=S6 h (fun g _ d=>c.block g d)
theorem V7{P:Program}{A:Array Oper}{o:Oper}{a:Act}{w:World}{K:Act->World->Prop}{Q:Exit->Act->World->Prop}{E:Prop}(F:o.guard=none)(s x:Operand)(t:TypeId)(Y:o.op= .call {callee:= .builtin .append,args:=#[s,x],argTypes:=#[t,t]})(base:Nat)(e:TypeId)(i:TypeInfo)(z:Value)(size g:Nat)(ht:P.underlying t=some (.slice e))(hi:P.info? e=some i)(hz:i.zero=some z)(r:i.size=size)(D:i.bytes=g)(I:z.cells.size=size)(H:0<size)(v:Value)(n:Nat)(J:List Value)(hs:a.eval s=v)(y:w.ownsRow base e size v n J)(B:Addr)(m c:Nat)(d:List Value)(hx:a.eval x= .slice (some B) m c)(X:d.length=m*size)(q:∀j u,d[j]?=some u->w.cell? (B.add j)=some u)(L:∀u∈d,u.oneCell'=true)(C:n+m<=maxLen)(k:(n+m)*g<=140737488355328)(l:base<=w.heap.size)(W:∀v' w',w'.ownsRow base e size v' (n+m) (J++d)->w.grownBy w' v.ownBlock->(v'= .slice none 0 0↔v= .slice none 0 0/\m=0)->(v'.ownBlock=v.ownBlock\/v'.ownBlock=some w.heap.size)->K (a.put o.dst v') w'): if Region.wanted o (yielded A a.tmps)=true then Oper.wp P o a w K Q else E:=by
 have hw:Region.wanted o (yielded A a.tmps)=true:=by simp[Region.wanted,F]
 rw[X3 hw];obtain⟨v',w',Z,M,N,S,V⟩:=S8 (P:=P) w base t o.type e i z size g ht hi hz r D I H v n J y B m c d X q L C k l;unfold Oper.wp execOp;simp only[Y,resolve,invoke,builtin,Zk,QM,Zj,KP,Xu,Yc,hs,hx,Z];exact W _ _ M N S V
theorem Wc:(prog.info? 48).map (fun i=>(i.zero,i.size,i.bytes))=some (some (.agg #[.int .i64 0,.int .i64 0,.int .i64 0,.string ⟨#[]⟩,.int .i64 0]),5,48):=by kernel_rfl
theorem Nf(l:List Nd)(d:Nd):Xe (l++[d])=Xe l++d.cells:=by unfold Xe;rw[OV];simp
theorem Ax(d:Nd):∀u∈d.cells,u.oneCell'=true:=by
 intro u a;simp only[Nd.cells,Y6,ZA,Zy]at a;rcases a with rfl|rfl|rfl|rfl|rfl<;>rfl
theorem Ye(b i j:Nat):(⟨b,i,none⟩:Addr).add j=⟨b,i+j,none⟩:=by unfold Addr.add;split<;>simp_all
theorem AX(W:World)(cs:List Value)(t:TypeId)(q:Nat)(a:q=W.heap.size):∀(j:Nat) (u:Value),cs[j]?=some u->((W.alloc (.cells cs.toArray t)).drew).cell? ((⟨q,0,none⟩:Addr).add j)=some u:=by
 intro j u c;subst a;show(W.alloc (.cells cs.toArray t)).cell? _=_;rw[Ye,Xn,World.cell?,XM];simpa using c
theorem XQ{w:World}{B e size n:Nat}{v:Value}{j:List Value}(h:w.ownsRow B e size v n j):∃p c,v= .slice p n c:=by
 rcases h.2 with⟨d,a⟩|⟨g,c,_,a,_⟩
 .exact⟨none,0,by rw[a];exact d⟩
 .exact⟨_,c,a⟩
theorem Y1q{w:World}{B e size n k g c:Nat}{j:List Value}(h:w.ownsRow B e size (.slice (some ⟨g,0,none⟩) n c) n j)(u:k<=n):w.ownsRow B e size (.slice (some ⟨g,0,none⟩) k c) k (j.take (k*size)):=by
 have d:k*size<=n*size:=DH _ u;rcases h.2 with⟨l,_⟩|⟨y,c',a,v,m,q,z,r,s,t⟩
 .cases l
 .cases v;refine⟨by rw[YM,h.1];omega,.inr ⟨g,c,a,rfl,m,q,by omega,r,s,?_⟩⟩;rw[←t,Lu,QL d]
theorem Ng(l:List Nd)(k:Nat):Xe (l.take k)=(Xe l).take (k*5):=by
 induction l generalizing k with
 | nil=>simp[Xe]
 | cons x r c=>
  cases k with
  | zero=>simp[Xe]
  | succ k=>
   have a:x.cells.length=5:=rfl;rw[UE,show Xe (x::r.take k)=x.cells++Xe (r.take k)from rfl,show Xe (x::r)=x.cells++Xe r from rfl,c,List.take_append,U7 (l:=x.cells) (by omega),a,show(k+1)*5-5=k*5 from by omega]
theorem Nc(l:List Nd)(k:Nat):Xe (l.drop k)=(Xe l).drop (k*5):=by
 induction l generalizing k with
 | nil=>simp[Xe]
 | cons x r c=>
  cases k with
  | zero=>simp
  | succ k=>
   have a:x.cells.length=5:=rfl;rw[Ve,c,show Xe (x::r)=x.cells++Xe r from rfl,List.drop_append,Yu (l:=x.cells) (by omega),a,show(k+1)*5-5=k*5 from by omega,UD]
theorem I1(l:List Nd):(Xe l).length=l.length*5:=by
 induction l with
 | nil=>rfl
 | cons x r a=>rw[show Xe (x::r)=x.cells++Xe r from rfl,Xo,a,Ya];simp[Nd.cells];omega
theorem Pd(l:List Nd):∀u∈Xe l,u.oneCell'=true:=by
 intro u a;unfold Xe at a;obtain⟨d,_,h⟩:=GR.1 a;exact Ax d u h
theorem Gm{w:World}{B e size n g c:Nat}{d:List Value}(h:w.ownsRow B e size (.slice (some ⟨g,0,none⟩) n c) n d){j:Nat}{u:Value}(a:d[j]?=some u):w.cell? ⟨g,j,none⟩=some u:=by
 rcases h.2 with⟨l,_⟩|⟨s,c',k,r,t,m,v,y,z,q⟩
 .cases l
 .cases r;rw[←q]at a;rw[OY]at a;split at a
  .rw[World.cell?,m];simpa using a
  .cases a
theorem Nb(l:List Nd)(i:Nat)(h:i<l.length):(Xe l)[i*5]?=some (.int .i64 l[i].kind)/\(Xe l)[i*5+1]?=some (.int .i64 l[i].op)/\(Xe l)[i*5+2]?=some (.int .i64 l[i].n)/\(Xe l)[i*5+3]?=some (.string l[i].text)/\(Xe l)[i*5+4]?=some (.int .i64 l[i].kids):=by
 induction l generalizing i with
 | nil=>simp at h
 | cons x r c=>
  rw[show Xe (x::r)=x.cells++Xe r from rfl]
  match i,h with
  | 0,_=>simp[Nd.cells]
  | i+1,h=>
   have:=c i (by simpa using h);have a:x.cells.length=5:=rfl;refine⟨?_,?_,?_,?_,?_⟩;all_goals rw[K6 (by omega),a]
   .rw[show(i+1)*5-5=i*5 from by omega];exact this.1
   .rw[show(i+1)*5+1-5=i*5+1 from by omega];exact this.2.1
   .rw[show(i+1)*5+2-5=i*5+2 from by omega];exact this.2.2.1
   .rw[show(i+1)*5+3-5=i*5+3 from by omega];exact this.2.2.2.1
   .rw[show(i+1)*5+4-5=i*5+4 from by omega];exact this.2.2.2.2
theorem Ef{w:World}{B g c:Nat}{l:List Nd}(h:w.ownsRow B 48 5 (.slice (some ⟨g,0,none⟩) l.length c) l.length (Xe l)):Yw w g l:=
 ⟨(h.lt g rfl).2,fun i hi=>by
  obtain⟨a,b,c',d,e⟩:=Nb l i hi;exact⟨Gm h a,Gm h b,Gm h c',Gm h d,Gm h e⟩⟩
theorem S0{w:World}{base a size:Nat}{e:TypeId}{v:Value}{n:Nat}{g:List Value}(h:w.ownsRow base e size v n g)(q:a<=base):w.ownsRow a e size v n g:=by
 refine⟨h.1,?_⟩;rcases h.2 with k|⟨j,c,d,r,l,m⟩
 .exact .inl k
 .exact .inr ⟨j,c,d,r,XO q l,m⟩
end Go.Proofs.YtkoiikmhfaebnaaGreatDoor
namespace Go.Proofs.YtkoiikmhfaebnaaGreatDoor.Vl
open Tryz
structure At where
 kind:Int
 n:Int
 text:ByteArray
 kids:Int
structure T where
 mk ::
 (kind' n':Int)
 (text':ByteArray)
 (ks':List T)
def T.kind:T->Int | .mk k _ _ _=>k
def T.num:T->Int | .mk _ n _ _=>n
def T.text:T->ByteArray | .mk _ _ s _=>s
def T.ks:T->List T | .mk _ _ _ l=>l
def T.atoms:T->List At
 | .mk k n s ks=>atomsL ks++[⟨k,n,s,ks.length⟩]
 where
 atomsL:List T->List At
 | []=>[]
 | t::r=>t.atoms++atomsL r
open T.atoms
def run:List At->List T->Option (List T)
 | [],st=>some st
 | a::r,st=>if a.kids<0\/(st.length:Int)<a.kids then none else run r (st.take (st.length-a.kids.toNat)++[.mk a.kind a.n a.text (st.drop (st.length-a.kids.toNat))])
def Fk(l:List At):Option T:=match run l []with
 | some [t]=>some t
 | _=>none
def slt(a b:ByteArray):Bool:=Go.Op.bytesLess a.toList b.toList
def names:List T->Bool
 | a::_::c::r=>a.kind==4&&c.kind==4&&slt a.text c.text&&names (c::r)
 | [a,_]=>a.kind==4
 | [_]=>false
 | []=>true
def plain(k n:Int)(s:ByteArray)(ks:List T):Bool:=
 (k==2||k==3||n==0)&&(k==4||s.size==0)&&(k==5||k==6||ks.length==0) &&
 (k==1||k==3||k==2&&(n==0||n==1)||k==4&&decide (s.size<=1000)||k==5&&decide (ks.length<=200)||k==6&&decide (ks.length%2=0/\ks.length<=400)&&names ks)
def T.ok:T->Nat->Bool
 | .mk k n s ks,above=>decide (above<=12)&&plain k n s ks&&okL ks (above+1)
 where
 okL:List T->Nat->Bool
 | [],_=>true
 | t::r,above=>t.ok above&&okL r above
open T.ok
theorem T.Ep(t:T)(a:Nat):t.ok a=(decide (a<=12)&&plain t.kind t.num t.text t.ks&&okL t.ks (a+1)):=by cases t;simp[T.ok,T.kind,T.num,T.text,T.ks]
def T.high:T->Nat
 | .mk _ _ _ ks=>highL ks
 where
 highL:List T->Nat
 | []=>0
 | t::r=>max (t.high+1) (highL r)
open T.high
def T.count(t:T):Nat:=t.atoms.length
def T.Y0:T->Bool
 | .mk k n s ks=>plain k n s ks&&decide (highL ks<=12)&&goodL ks
 where
 goodL:List T->Bool
 | []=>true
 | t::r=>t.Y0&&goodL r
open T.Y0
theorem T.UW(t:T):t.Y0=(plain t.kind t.num t.text t.ks&&decide (highL t.ks<=12)&&goodL t.ks):=by cases t;rw[T.Y0];rfl
theorem Ml(a b:List T):goodL (a++b)=(goodL a&&goodL b):=by
 induction a with
 | nil=>simp[goodL]
 | cons t r c=>simp[goodL,c,OC]
def T.Ko:T->Bool
 | .mk k n s ks=>plain k n s ks&&allPlainL ks
 where
 allPlainL:List T->Bool
 | []=>true
 | t::r=>t.Ko&&allPlainL r
open T.Ko
theorem Es(t:T)(a:Nat):t.ok a=(decide (a+t.high<=12)&&t.Ko):=by
 match t with
 | .mk k n s ks=>
  rw[T.ok,T.high,T.Ko,okL_split ks a];by_cases c:ks=[]
  .subst c;simp[highL,allPlainL];rfl
  .cases plain k n s ks<;>cases allPlainL ks<;>simp[c]
   omega
 where
 okL_split (l:List T) (a:Nat):okL l (a+1)=(decide (a+highL l<=12\/l=[])&&allPlainL l):=by
  match l with
  | []=>simp[okL,allPlainL]
  | t::r=>
   rw[okL,highL,allPlainL,Es t (a+1),okL_split r a];cases t.Ko<;>cases allPlainL r<;>simp
   by_cases d:r=[]
   .subst d;simp[highL];omega
   .rw[Y5];simp[d];omega
theorem Cj(t:T):t.Y0=(decide (t.high<=12)&&t.Ko):=by
 match t with
 | .mk k n s ks=>
  rw[T.Y0,T.high,T.Ko];rw[show goodL ks=(decide (highL ks<=13)&&allPlainL ks)from goodL_split ks];cases plain k n s ks<;>cases allPlainL ks<;>simp
  omega
 where
 goodL_split (l:List T):goodL l=(decide (highL l<=13)&&allPlainL l):=by
  match l with
  | []=>simp[goodL,highL,allPlainL]
  | t::r=>
   rw[goodL,highL,allPlainL,Cj t,goodL_split r];cases t.Ko<;>cases allPlainL r<;>simp
   rw[←Bool.decide_and,PM];omega
theorem Xdx(t:T):t.ok 0=t.Y0:=by rw[Es,Cj,Xn]
def Zg:List At->List T->Option (List T)
 | [],st=>some st
 | a::r,st=>if a.kids<0\/(st.length:Int)<a.kids then none else
   if(plain a.kind a.n a.text (st.drop (st.length-a.kids.toNat))&&decide (highL (st.drop (st.length-a.kids.toNat))<=12))=true then
    Zg r (st.take (st.length-a.kids.toNat)++[.mk a.kind a.n a.text (st.drop (st.length-a.kids.toNat))])else none
theorem Ch(st:List T)(k:Nat):goodL st=(goodL (st.take k)&&goodL (st.drop k)):=by rw[←Ml,Vh]
theorem Y1t(l:List At)(st c:List T)(h:run l st=some c)(d:goodL st=false):goodL c=false:=by
 induction l generalizing st with
 | nil=>simp[run]at h;rw[←h];exact d
 | cons a r g=>
  rw[run]at h;split at h
  .cases h
  .refine g _ h ?_;rw[Ch st (st.length-a.kids.toNat)]at d;rw[Ml];simp only[goodL,T.Y0];cases j:goodL (st.take (st.length-a.kids.toNat))<;>cases k:goodL (st.drop (st.length-a.kids.toNat))<;>simp_all
theorem Rk(l:List At)(st:List T)(k:goodL st=true):Zg l st=match run l st with
  | none=>none
  | some c=>if goodL c=true then some c else none:=by
 induction l generalizing st with
 | nil=>simp[Zg,run,k]
 | cons a r s=>
  rw[Zg,run];split
  .rfl
  .have m:=Ch st (st.length-a.kids.toNat);rw[k]at m;obtain⟨g,j⟩:=Bool.and_eq_true_iff.1 m.symm;split
   .rename_i d;rw[s];rw[Ml,g];simp only[goodL,T.Y0,d,j];rfl
   .rename_i d;cases q:run r (st.take (st.length-a.kids.toNat)++[.mk a.kind a.n a.text (st.drop (st.length-a.kids.toNat))])with
    | none=>rfl
    | some c=>
     have:=Y1t r _ c q (by rw[Ml];simp only[goodL,T.Y0];rw[Bool.not_eq_true]at d;rw[d];simp);simp[this]
def valid(l:List At):Bool:=decide (l.length<=1000)&&match Fk l with
 | none=>false
 | some t=>t.ok 0
def ZM(l:List At):Bool:=decide (l.length<=1000)&&match Zg l []with
 | some [_]=>true
 | _=>false
theorem Ms(l:List At):ZM l=valid l:=by
 unfold ZM valid Fk;rw[Rk l [] rfl];cases h:run l []with
 | none=>rfl
 | some st=>
  match st with
  | []=>by_cases h:goodL []=true<;>simp[h]
  | [t]=>
   simp only[goodL,Bool.and_true];rw[Xdx];cases c:t.Y0<;>simp
  | a::b::r=>cases goodL (a::b::r)<;>simp
end Go.Proofs.YtkoiikmhfaebnaaGreatDoor.Vl
namespace Go.Proofs.YtkoiikmhfaebnaaGreatDoor.Vl
open Tryz Go.RowKit T.atoms T.ok T.high T.Y0 T.Ko
theorem X1{p:Prop}(h:p):Hid p:=h
theorem Xf{a b:Bool}(h:a=b):Ending.returned (.bool a)= .returned (.bool b):=by rw[h]
theorem Jy{k:IntKind}{a b:Int}(h:a=b):Ending.returned (.int k a)= .returned (.int k b):=by rw[h]
def Kr(w:World)(g o:Nat)(l:List At):Prop:=g<w.heap.size/\∀i (h:i<l.length),w.cell? ⟨g,o+i*4,none⟩=some (.int .i64 l[i].kind)/\w.cell? ⟨g,o+i*4+1,none⟩=some (.int .i64 l[i].n)/\w.cell? ⟨g,o+i*4+2,none⟩=some (.string l[i].text)/\w.cell? ⟨g,o+i*4+3,none⟩=some (.int .i64 l[i].kids)
theorem Kr.below{w w':World}{g o:Nat}{l:List At}(h:Kr w g o l)(j:BL w w'):Kr w' g o l:=by
 refine⟨Xd h.1 j.size,fun i hi=>?_⟩;obtain⟨a,b,c,d⟩:=h.2 i hi;exact⟨(j.cell (p:=⟨g,o+i*4,none⟩) h.1).trans a,(j.cell (p:=⟨g,o+i*4+1,none⟩) h.1).trans b,(j.cell (p:=⟨g,o+i*4+2,none⟩) h.1).trans c,(j.cell (p:=⟨g,o+i*4+3,none⟩) h.1).trans d⟩
theorem Kr.part{w:World}{g o:Nat}{l a b c:List At}(h:Kr w g o l)(e:l=a++b++c):Kr w g (o+a.length*4) b:=by
 refine⟨h.1,fun i hi=>?_⟩;have q:=h.2 (a.length+i) (by rw[e];simp;omega);have d:l[a.length+i]'(by rw[e];simp;omega)=b[i]:=by
  subst e;rw[Vg (by simp;omega),List.getElem_append_right (by omega)];simp
 rw[d,show o+(a.length+i)*4=o+a.length*4+i*4 from by omega]at q
 exact q
def Oz(w:World)(v:Value)(l:List At):Prop:=(∃p c,v= .slice p 0 c/\l=[])\/∃g o c,v= .slice (some ⟨g,o,none⟩) l.length c/\Kr w g o l/\l.length<=c
theorem Oz.below{w w':World}{v:Value}{l:List At}(h:Oz w v l)(k:BL w w'):Oz w' v l:=by
 rcases h with h|⟨g,o,c,a,d,j⟩
 .exact .inl h
 .exact .inr ⟨g,o,c,a,d.below k,j⟩
def YW(x:Nat):Value:= .int .i64 x
theorem Ot(l:List Nat):∀u∈l.map YW,u.oneCell'=true:=by
 intro u a;obtain⟨x,_,rfl⟩:=Zq.1 a;rfl
theorem heap_alloc_new(w:World)(o:Obj):(w.alloc o).heap[w.heap.size]?=some o:=(Go.MapKept.heap_alloc w o).1
theorem Vq(g o j:Nat):((⟨g,o,none⟩:Addr).add j)=⟨g,o+j,none⟩:=by unfold Addr.add;split<;>simp_all
theorem UO(w:World)(u:Value)(t:TypeId):∀(j:Nat) (x:Value),([u]:List Value)[j]?=some x->(w.alloc (.cells #[u] t)).cell? ((⟨w.heap.size,0,none⟩:Addr).add j)=some x:=by
 intro j x h;rw[Vq,Xn,World.cell?,heap_alloc_new];simpa using h
theorem Wj{w:World}{base a:Nat}{e:TypeId}{size:Nat}{v:Value}{n:Nat}{j:List Value}(h:w.ownsRow base e size v n j)(q:a<=base):w.ownsRow a e size v n j:=by
 refine⟨h.1,?_⟩;rcases h.2 with h|⟨g,c,d,k,l,m⟩
 .exact .inl h
 .exact .inr ⟨g,c,d,k,XO q l,m⟩
theorem S7{w:World}{base size:Nat}{e:TypeId}{g n a:Nat}{l:List Value}(h:w.ownsRow base e size (.slice (some ⟨g,0,none⟩) n a) n l)(m:Nat)(u:m<=n):w.ownsRow base e size (.slice (some ⟨g,0,none⟩) m a) m (l.take (m*size)):=by
 obtain⟨q,d⟩:=h;have j:m*size<=n*size:=DH _ u;refine⟨by rw[YM,q];omega,.inr ?_⟩;rcases d with⟨d,_⟩|⟨A,k,c,z,r,t,B,s,v,y⟩
 .cases d
 .cases z;refine⟨g,a,c,rfl,r,t,by omega,s,v,?_⟩;rw[←y,Lu,QL j]
theorem Qx{w:World}{base:Nat}{e:TypeId}{size g n a:Nat}{q:List Value}(h:w.ownsRow base e size (.slice (some ⟨g,0,none⟩) n a) n q):n<=a/\base<=g/\g<w.heap.size:=by
 have d:=h.lt g rfl;rcases h.2 with⟨k,_⟩|⟨r,c,j,m,s,u,l,t,v,y⟩
 .cases k
 .cases m;exact⟨l,d.1,d.2⟩
theorem KJ{w w1:World}{base:Nat}{e:TypeId}{size:Nat}{v:Value}{n:Nat}{c:List Value}(h:w.ownsRow base e size v n c)(a:BL w w1):w1.ownsRow base e size v n c:=by
 have d:w.grownBy w1 none:=⟨a.os,a.tape,a.output,a.size,fun k g _=>a.block k g⟩;refine h.kept d ?_;cases j:v.ownBlock with
 | none=>exact .inl rfl
 | some k=>exact .inr (by simp)
theorem IS{l:World}{b size:Nat}{e:TypeId}{j:Value}{n g H:Nat}{m:List Value}(d:l.ownsRow b e size j n m)(c:¬j= .slice none 0 0)(k:j.ownBlock=some g\/j.ownBlock=some H):∃a c2,j= .slice (some ⟨a,0,none⟩) n c2/\(a=g\/a=H):=by
 rcases d.2 with⟨h,_⟩|⟨a,c2,_,h,_⟩
 .exact absurd h c
 .subst h;refine⟨a,c2,rfl,?_⟩;simpa[Value.ownBlock]using k
theorem Vz{w a:World}{o:Obj}{row:Option Nat}(h:(w.alloc o).grownBy a row)(g:Nat)(c:g<w.heap.size)(hne:some g≠row):a.heap[g]?=w.heap[g]?:=by
 have:=(X5 w.heap.size w).alloc (X4 _) o;exact(h.block g (by simp;omega) hne).trans (this.block g c)
theorem Kr.heap{w w':World}{g o:Nat}{l:List At}(h:Kr w g o l)(a:w'.heap[g]?=w.heap[g]?):Kr w' g o l:=by
 have c:=h.1;refine⟨?_,fun j d=>?_⟩
 .rcases J0 g w'.heap.size with q|q
  .exact q
  .rw[U3 q,Dt c]at a;cases a
 .have:=h.2 j d;simp only[World.cell?]at this⊢;rw[a];exact this
def JB(w:World)(vs:List Value)(ks:List T):Prop:=vs.length=ks.length/\∀j (h:j<ks.length),∃g o c,vs[j]?=some (.slice (some ⟨g,o,none⟩) (ks[j]).count c)/\Kr w g o (ks[j]).atoms/\(ks[j]).count<=c
theorem JB.below{w w':World}{k:List Value}{ks:List T}(h:JB w k ks)(l:BL w w'):JB w' k ks:=by
 refine⟨h.1,fun j m=>?_⟩;obtain⟨g,o,c,a,b,d⟩:=h.2 j m;exact⟨g,o,c,a,b.below l,d⟩
theorem Dj{P:Program}{c:Array Oper}{o:Oper}{a:Act}{w:World}{K:Act->World->Prop}{Q:Exit->Act->World->Prop}{E:Prop}(q:o.guard=none)(f:FuncId)(x:Operand)(t:TypeId)(j:o.op=Op.call {callee:=Callee.value (Operand.func f),args:=#[x],argTypes:=#[t]})(v r:Value)(u:a.eval x=v)(fn:Func)(g:P.funcs[f]?=some fn)(hne:(fn.name == "runtime.NumGoroutine")=false)(d:fn.body.isNone=false)(R:World->Prop)(m:Calls P f #[v] w fun e w'=>e= .returned r/\R w')(n:∀w',R w'->K (a.put o.dst r) w'): if Region.wanted o (yielded c a.tmps)=true then Oper.wp P o a w K Q else E:=by
 have s:Region.wanted o (yielded c a.tmps)=true:=by simp[Region.wanted,q]
 rw[X3 s];have k:(callFunc f #[v]).run P w= .ok (.enter f #[v]) w:=by
  simp only[callFunc,Zk,Wk,Zj,g,hne,d];rfl
 unfold Oper.wp;simp only[execOp,j,resolve,invoke,KP,Xu,Yc,u,Deferred.ofValue,Zk];rw[show a.eval (Operand.func f)=Value.func (Fn.func f) #[] #[]from rfl];simp only[QM,Zj];simp[k];refine m.mono fun e y h=>?_;obtain⟨rfl,l⟩:=h;exact n _ l
theorem Ur{P:Program}{A:Array Oper}{o:Oper}{a:Act}{w:World}{K:Act->World->Prop}{Q:Exit->Act->World->Prop}{E:Prop}(F:o.guard=none)(s x:Operand)(t:TypeId)(Y:o.op= .call {callee:= .builtin .append,args:=#[s,x],argTypes:=#[t,t]})(base:Nat)(e:TypeId)(i:TypeInfo)(z:Value)(size g:Nat)(ht:P.underlying t=some (.slice e))(hi:P.info? e=some i)(hz:i.zero=some z)(r:i.size=size)(D:i.bytes=g)(I:z.cells.size=size)(H:0<size)(v:Value)(n:Nat)(J:List Value)(hs:a.eval s=v)(y:w.ownsRow base e size v n J)(B:Addr)(m c:Nat)(d:List Value)(hx:a.eval x= .slice (some B) m c)(X:d.length=m*size)(q:∀j u,d[j]?=some u->w.cell? (B.add j)=some u)(L:∀u∈d,u.oneCell'=true)(C:n+m<=maxLen)(k:(n+m)*g<=140737488355328)(l:base<=w.heap.size)(W:∀v' w',w'.ownsRow base e size v' (n+m) (J++d)->w.grownBy w' v.ownBlock->(v'= .slice none 0 0↔v= .slice none 0 0/\m=0)->(v'.ownBlock=v.ownBlock\/v'.ownBlock=some w.heap.size)->K (a.put o.dst v') w'): if Region.wanted o (yielded A a.tmps)=true then Oper.wp P o a w K Q else E:=by
 have hw:Region.wanted o (yielded A a.tmps)=true:=by simp[Region.wanted,F]
 rw[X3 hw];obtain⟨v',w',Z,M,N,S,V⟩:=S8 (P:=P) w base t o.type e i z size g ht hi hz r D I H v n J y B m c d X q L C k l;unfold Oper.wp execOp;simp only[Y,resolve,invoke,builtin,Zk,QM,Zj,KP,Xu,Yc,hs,hx,Z];exact W _ _ M N S V
def KB(w:World):Type:={x:World // Below w.heap.size w x}
def KB.w{w:World}(q:KB w):World:=q.1
theorem KB.below{w:World}(q:KB w):Below w.heap.size w q.w:=q.2
theorem VB{P:Program}{f:FuncId}{a:Array Value}{r:Value}{w:World}(h:∀w1,BL w w1->Calls P f a w1 fun e w'=>e= .returned r/\BL w1 w')(q:KB w): Calls P f a q.w fun e c=>e= .returned r/\∃q':KB w,c=q'.w:=(h q.w q.2).mono fun _ g d=>⟨d.1,⟨⟨g,q.2.trans (d.2.mono q.2.size)⟩,rfl⟩⟩
theorem JY{P:Program}{α:Type}(c:α->World){m:Nat}{Q:Exit->Act->World->Prop}{a:Act}{w:World}{l:List Oper}(k:P.follows .mixedOrders=true)(j:Region.lexB .any l.toArray=true)(g:∃q,w.drewN 1=c q)(h:wpQuiet P l.toArray (fun w'=>∃q,w'=c q) (fun d=>∀w',(∃q,w'=c q)->Q .normal d w') l a):(Code.region m l.toArray true).wp P Q a w:=wp_region_quiet (C:=fun w'=>∃q,w'=c q) k j g (by simpa using h)
theorem WZ:(prog.info? 3).map (fun i=>(i.zero,i.size,i.bytes))=some (some (.int .i64 0),1,8):=by kernel_rfl
end Go.Proofs.YtkoiikmhfaebnaaGreatDoor.Vl
namespace Go.Proofs.YtkoiikmhfaebnaaGreatDoor.Vl
open Tryz Go.RowKit T.atoms T.ok T.high T.Y0 T.Ko
def Lo(w:World)(g o:Nat)(vs:List Value):Prop:=∀j u,vs[j]?=some u->w.cell? ⟨g,o+j,none⟩=some u
def GY(w:World)(x:Nat)(p:Option Addr)(vs:List Value):Prop:=vs=[]\/∃g o,p=some ⟨g,o,none⟩/\g≠x/\g<w.heap.size/\Lo w g o vs
theorem Lo.heap{w w':World}{g o:Nat}{a:List Value}(h:Lo w g o a)(c:w'.heap[g]?=w.heap[g]?):Lo w' g o a:=by
 intro j u d;have:=h j u d;simp only[World.cell?]at this⊢;rw[c];exact this
structure YB (w w':World) (x x':Nat):Prop where
 block:∀q,q<w.heap.size->q≠x->w'.heap[q]?=w.heap[q]?
 size:w.heap.size<=w'.heap.size
 other:∀q,q<w.heap.size->q≠x->q≠x'
theorem YB.below{w w':World}{x:Nat}(a:BL w w'):YB w w' x x:=⟨fun q h _=>a.block q h,a.size,fun _ _ h=>h⟩
theorem YB.fresh{w w':World}{x c:Nat}(a:BL w w')(d:w.heap.size<=c):YB w w' x c:=⟨fun q h _=>a.block q h,a.size,fun q h _=>by omega⟩
theorem YB.trans{w w1 d:World}{x g j:Nat}(a:YB w w1 x g)(b:YB w1 d g j):YB w d x j:=⟨fun q h c=>(b.block q (Xd h a.size) (a.other q h c)).trans (a.block q h c),XO a.size b.size,fun q h c=>b.other q (Xd h a.size) (a.other q h c)⟩
theorem GY.Z4{w w':World}{x k:Nat}{p:Option Addr}{j:List Value}(h:GY w x p j)(c:YB w w' x k):GY w' k p j:=by
 rcases h with h|⟨g,o,l,d,a,m⟩
 .exact .inl h
 .exact .inr ⟨g,o,l,c.other g a d,Xd a c.size,m.heap (c.block g a d)⟩
def Xs(w:World)(x:Nat):T->Value->Prop
 | .mk k n s ks,v=>
  (k=1/\v= .iface 356 (.agg #[]))\/(k=2/\v= .iface 73 (.bool (n==1)))\/(k=3/\v= .iface 96 (.int .i64 n))\/(k=4/\v= .iface 81 (.string s))\/
  (k=5/\∃p c vs,v= .iface 88 (.agg #[.slice p ks.length c,.int .i64 (1+(atomsL ks).length:Nat),.int .i64 (highL ks:Nat)])/\ks.length<=c/\XX w x ks vs/\GY w x p vs)\/
  (k=6/\∃p c m vs,ks.length=2*m/\v= .iface 93 (.agg #[.slice p m c,.int .i64 (1+(atomsL ks).length:Nat),.int .i64 (highL ks:Nat)])/\m<=c/\Uz w x ks vs/\GY w x p vs)
 where
 XX (w:World) (x:Nat):List T->List Value->Prop
 | [],vs=>vs=[]
 | t::r,vs=>∃v vr,vs=v::vr/\Xs w x t v/\XX w x r vr
 Uz (w:World) (x:Nat):List T->List Value->Prop
 | [],vs=>vs=[]
 | [_],_=>False
 | a::b::r,vs=>∃v vr,vs= .string a.text::v::vr/\Xs w x b v/\Uz w x r vr
open Xs
theorem Xs.Z4{w w':World}{x j:Nat}(g:YB w w' x j):∀(t:T) (v:Value),Xs w x t v->Xs w' j t v
 | .mk k n s ks,v,h=>by
  unfold Xs at h⊢;rcases h with h|h|h|h|⟨h,p,c,d,q,z,u,y⟩|⟨h,p,c,m,d,A,q,z,u,y⟩
  .exact .inl h
  .exact .inr (.inl h)
  .exact .inr (.inr (.inl h))
  .exact .inr (.inr (.inr (.inl h)))
  .exact .inr (.inr (.inr (.inr (.inl ⟨h,p,c,d,q,z,movesL g ks d u,y.Z4 g⟩))))
  .exact .inr (.inr (.inr (.inr (.inr ⟨h,p,c,m,d,A,q,z,movesF g ks d u,y.Z4 g⟩))))
 where
 movesL {w w':World} {x j:Nat} (g:YB w w' x j):∀(l:List T) (d:List Value),XX w x l d->XX w' j l d
  | [],d,h=>by unfold XX at h⊢;exact h
  | t::r,d,h=>by
   unfold XX at h⊢;obtain⟨v,vr,q,u,y⟩:=h;exact⟨v,vr,q,Xs.Z4 g t v u,movesL g r vr y⟩
 movesF {w w':World} {x j:Nat} (g:YB w w' x j):∀(l:List T) (d:List Value),Uz w x l d->Uz w' j l d
  | [],d,h=>by unfold Uz at h⊢;exact h
  | [_],d,h=>by unfold Uz at h;exact h.elim
  | a::b::r,d,h=>by
   unfold Uz at h⊢;obtain⟨v,vr,q,u,y⟩:=h;exact⟨v,vr,q,Xs.Z4 g b v u,movesF g r vr y⟩
theorem XX.Z4{w w':World}{x c:Nat}(d:YB w w' x c):∀(l:List T) (a:List Value),XX w x l a->XX w' c l a:=Xs.Z4.movesL d
theorem Uz.Z4{w w':World}{x c:Nat}(d:YB w w' x c):∀(l:List T) (a:List Value),Uz w x l a->Uz w' c l a:=Xs.Z4.movesF d
theorem XX.len{w:World}{x:Nat}:∀{l:List T} {a:List Value},XX w x l a->a.length=l.length
 | [],a,h=>by unfold XX at h;rw[h];rfl
 | t::r,a,h=>by
  unfold XX at h;obtain⟨v,vr,rfl,_,c⟩:=h;simp[XX.len c]
theorem XX.at{w:World}{x:Nat}:∀{l:List T} {a:List Value},XX w x l a->∀j (h:j<l.length),∃v,a[j]?=some v/\Xs w x l[j] v
 | t::r,a,h,0,_=>by
  unfold XX at h;obtain⟨v,vr,rfl,c,_⟩:=h;exact⟨v,rfl,c⟩
 | t::r,a,h,j+1,hj=>by
  unfold XX at h;obtain⟨v,vr,rfl,_,d⟩:=h;obtain⟨u,k,g⟩:=XX.at d j (by simpa using hj);exact⟨u,k,g⟩
theorem XX.snoc{w:World}{x:Nat}:∀{l:List T} {c:List Value} {t:T} {v:Value},XX w x l c->Xs w x t v->XX w x (l++[t]) (c++[v])
 | [],c,t,v,h,ht=>by
  unfold XX at h;subst h;show XX w x [t] [v];unfold XX;exact⟨v,[],rfl,ht,by unfold XX;rfl⟩
 | a::r,c,t,v,h,ht=>by
  unfold XX at h;obtain⟨u,vr,rfl,d,g⟩:=h;show XX w x (a::(r++[t])) (u::(vr++[v]));unfold XX;exact⟨u,vr++[v],rfl,d,XX.snoc g ht⟩
theorem XX.take{w:World}{x:Nat}:∀{l:List T} {a:List Value} (m:Nat),XX w x l a->XX w x (l.take m) (a.take m)
 | l,a,0,h=>by rw[P4,P4];unfold XX;rfl
 | [],a,m+1,h=>by unfold XX at h;subst h;simp;unfold XX;rfl
 | t::r,a,m+1,h=>by
  unfold XX at h;obtain⟨v,vr,rfl,c,d⟩:=h;rw[UE,UE];unfold XX;exact⟨v,_,rfl,c,XX.take m d⟩
theorem XX.drop{w:World}{x:Nat}:∀{l:List T} {a:List Value} (m:Nat),XX w x l a->XX w x (l.drop m) (a.drop m)
 | l,a,0,h=>by rwa[Qm,Qm]
 | [],a,m+1,h=>by unfold XX at h;subst h;simp;unfold XX;rfl
 | t::r,a,m+1,h=>by
  unfold XX at h;obtain⟨v,vr,rfl,d,c⟩:=h;rw[Ve,Ve];exact XX.drop m c
theorem Xs.one{w:World}{x:Nat}{t:T}{v:Value}(h:Xs w x t v):v.oneCell'=true:=by
 cases t;unfold Xs at h;rcases h with⟨_,rfl⟩|⟨_,rfl⟩|⟨_,rfl⟩|⟨_,rfl⟩|⟨_,p,c,a,rfl,_⟩|⟨_,p,c,m,a,_,rfl,_⟩<;>rfl
theorem XX.one{w:World}{x:Nat}:∀{l:List T} {c:List Value},XX w x l c->∀u∈c,u.oneCell'=true
 | [],c,h,u,a=>by unfold XX at h;subst h;cases a
 | t::r,c,h,u,a=>by
  unfold XX at h;obtain⟨v,vr,rfl,d,g⟩:=h;rcases Y6.1 a with rfl|a
  .exact d.one
  .exact XX.one g u a
end Go.Proofs.YtkoiikmhfaebnaaGreatDoor.Vl
