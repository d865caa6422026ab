import Derived.Maps.OwnSet
import Derived.Lib.IndexAny
import Derived.Lib.IndexLaws
import Derived.Shelf.Small.Strs
import Derived.Test.YtkoiikmhfaebnaaGreatDoorB03
import Derived.Lib.Bytealg
import Derived.Laws.Externs
set_option maxHeartbeats 2000000
set_option maxRecDepth 100000
namespace Go.Proofs.YtkoiikmhfaebnaaGreatDoor
open Tryz Go.RowKit
structure Gr where
 nd:Nd
 high:Nat
def Zr:List Gr->Nat->Nat
 | [],h=>h
 | x::r,h=>Zr r (if h<x.high+1 then x.high+1 else h)
def Qb(k n:Int):Bool:=
 if k=1\/k=2\/k=3\/k=4\/k=5 then decide (0<=n/\n<=0)
 else if k=6\/k=11\/k=17\/k=18\/k=21\/k=22 then decide (1<=n/\n<=1)
 else if k=7\/k=10\/k=14 then decide (2<=n/\n<=2)
 else if k=13 then decide (3<=n/\n<=3)
 else if k=16 then decide (2<=n/\n<=3)
 else if k=19 then decide (0<=n/\n<=1)
 else if k=8\/k=9\/k=24 then decide (0<=n/\n<=200)
 else if k=23 then decide (1<=n/\n<=200)
 else if k=12\/k=15\/k=20 then decide (1<=n/\n<=9)
 else decide (0<=n/\n<= -1)
def XY(a b:Int)(l:List Gr):Bool:=l.all fun g=>decide (a<=g.nd.kind)&&decide (g.nd.kind<=b)
def Qn(l:List Gr):Bool:=decide ((l.map fun g=>g.nd.text).Nodup)
def Kl(l:List Gr):Nat:=1+((l.drop 1).takeWhile fun g=>g.nd.kind !=18).length
def YE(k:Int)(l:List Gr):Bool:=
 if k=9 then XY 17 17 l&&Qn l
 else if k=12 then XY 1 16 (l.take (Kl l))&&XY 18 18 (l.drop (Kl l))&&Qn (l.drop (Kl l))
 else if k=15\/k=20 then XY 19 19 (l.take (l.length-1))&&XY 1 16 (l.drop (l.length-1))
 else if k=23 then XY 5 5 l
 else if k=24 then XY 20 23 l
 else XY 1 16 l
def Kw(x:Nd)(l:List Gr):Bool:=Xh x&&Qb x.kind x.kids&&YE x.kind l
def ZS:List Nd->List Gr->Option (List Gr)
 | [],op=>some op
 | x::r,op=>if x.kids<0\/(op.length:Int)<x.kids then none else
   if Kw x (op.drop (op.length-x.kids.toNat))=true then ZS r (op.take (op.length-x.kids.toNat)++[⟨x,Zr (op.drop (op.length-x.kids.toNat)) 0⟩])else none
def UI:Option (List Gr)->Bool
 | some [g]=>(g.nd.kind==24)&&decide (g.high<=50)
 | _=>false
def Kj(ns:List Nd):Bool:=decide (ns.length<=5000)&&UI (ZS ns [])
def KN(w:World)(g o:Nat)(l:List Gr):Prop:=g<w.heap.size/\∀j (h:j<l.length),w.cell? ⟨g,o+j*6,none⟩=some (.int .i64 l[j].nd.kind)/\w.cell? ⟨g,o+j*6+1,none⟩=some (.int .i64 l[j].nd.op)/\w.cell? ⟨g,o+j*6+2,none⟩=some (.int .i64 l[j].nd.n)/\w.cell? ⟨g,o+j*6+3,none⟩=some (.string l[j].nd.text)/\w.cell? ⟨g,o+j*6+4,none⟩=some (.int .i64 l[j].nd.kids)/\w.cell? ⟨g,o+j*6+5,none⟩=some (.int .i64 l[j].high)
theorem KN.below{w w':World}{g o:Nat}{l:List Gr}(h:KN w g o l)(j:BL w w'):KN w' g o l:=by
 refine⟨Xd h.1 j.size,fun i hi=>?_⟩;obtain⟨a,b,c,d,e,f⟩:=h.2 i hi;exact⟨(j.cell (p:=⟨g,o+i*6,none⟩) h.1).trans a,(j.cell (p:=⟨g,o+i*6+1,none⟩) h.1).trans b,(j.cell (p:=⟨g,o+i*6+2,none⟩) h.1).trans c,(j.cell (p:=⟨g,o+i*6+3,none⟩) h.1).trans d,(j.cell (p:=⟨g,o+i*6+4,none⟩) h.1).trans e,(j.cell (p:=⟨g,o+i*6+5,none⟩) h.1).trans f⟩
theorem KN.drop{w:World}{g o:Nat}{l:List Gr}(h:KN w g o l)(k:Nat):KN w g (o+k*6) (l.drop k):=by
 refine⟨h.1,fun j a=>?_⟩;have:=h.2 (k+j) (by simp at a;omega);rw[List.getElem_drop];rw[show o+k*6+j*6=o+(k+j)*6 from by omega]
 exact this
theorem KN.take{w:World}{g o:Nat}{l:List Gr}(h:KN w g o l)(k:Nat):KN w g o (l.take k):=by
 refine⟨h.1,fun j a=>?_⟩;have:=h.2 j (by simp at a;omega);rw[List.getElem_take];exact this
def GrV(w:World)(v:Value)(l:List Gr):Prop:=(∃p c,v= .slice p 0 c/\l=[])\/∃g o c,v= .slice (some ⟨g,o,none⟩) l.length c/\l.length<=c/\KN w g o l
theorem GrV.below{w w':World}{v:Value}{l:List Gr}(h:GrV w v l)(k:BL w w'):GrV w' v l:=by
 rcases h with h|⟨g,o,c,a,j,d⟩
 .exact .inl h
 .exact .inr ⟨g,o,c,a,j,d.below k⟩
theorem KN.PN{w:World}{g o c p n:Nat}{l:List Gr}(h:KN w g o l)(k:p<=l.length)(j:l.length<=c)(a:n=l.length-p):∀q,q=some ⟨g,o+p*6,none⟩\/c=p->GrV w (.slice q n (c-p)) (l.drop p):=by
 intro q d;subst a;by_cases e:c=p
 .have:l.length-p=0:=by omega
  exact .inl ⟨_,_,by rw[this],Yu (by omega)⟩
 .obtain rfl:=d.resolve_right e;exact .inr ⟨g,_,_,by rw[YA],by rw[YA];omega,h.drop p⟩
theorem KN.Fc{w:World}{g o c p:Nat}{l:List Gr}(h:KN w g o l)(a:p<=l.length)(d:l.length<=c):GrV w (.slice (some ⟨g,o,none⟩) p c) (l.take p):=.inr ⟨g,o,c,by rw[YM,QL a],by rw[YM,QL a];omega,h.take p⟩
end Go.Proofs.YtkoiikmhfaebnaaGreatDoor
namespace Go.Proofs.YtkoiikmhfaebnaaGreatDoor
open Tryz
structure Fd where
 mk ::
 (x':Nd)
 (p' b':Int)
 (ks':List Fd)
namespace Fd
def x:Fd->Nd | .mk x _ _ _=>x
def p:Fd->Int | .mk _ p _ _=>p
def b:Fd->Int | .mk _ _ b _=>b
def ks:Fd->List Fd | .mk _ _ _ ks=>ks
def size:Fd->Nat
 | .mk _ _ _ ks=>1+YP ks
 where
 YP:List Fd->Nat
 | []=>0
 | t::r=>t.size+YP r
abbrev YP:=size.YP
theorem Zi(x:Nd)(p b:Int)(ks:List Fd):(Fd.mk x p b ks).size=1+YP ks:=by simp[size]
theorem Gs:YP []=0:=by simp[size.YP]
theorem Qk(t:Fd)(r:List Fd):YP (t::r)=t.size+YP r:=by simp[size.YP]
theorem size_pos(t:Fd):0<t.size:=by cases t;rw[Zi];omega
theorem Ql{t:Fd}{l:List Fd}(h:t∈l):t.size<=YP l:=by
 induction l with
 | nil=>cases h
 | cons a r c=>
  rw[Qk];rcases Y6.1 h with rfl|h
  .omega
  .have:=c h;omega
def upd(e:ByteArray->Int)(t:ByteArray)(m:Int):ByteArray->Int:=fun s=>if s=t then m else e s
def more(U:Int->Prop)(m:Int):Int->Prop:=fun z=>U z\/z=m
def Ok:(ByteArray->Int)->(Int->Prop)->Fd->Prop
 | e,U,.mk x p b ks=>
  if x.kind=5 then b=e x.text/\ks=[]
  else if x.kind=14\/x.kind=16 then ¬U p/\okA e U (upd e x.text p) (more U p) ks
  else if x.kind=15 then okP e U ks
  else x.kind<20/\okL e U ks
 where
 okL:(ByteArray->Int)->(Int->Prop)->List Fd->Prop
 | _,_,[]=>True
 | e,U,t::r=>Ok e U t/\okL e U r
 okA:(ByteArray->Int)->(Int->Prop)->(ByteArray->Int)->(Int->Prop)->List Fd->Prop
 | _,_,_,_,[]=>True
 | e,U,e',U',t::r=>Ok e U t/\okL e' U' r
 okP:(ByteArray->Int)->(Int->Prop)->List Fd->Prop
 | _,_,[]=>True
 | e,U,t::r=>Ok e U t/\(r≠[]->t.x.kind=19/\¬U t.p)/\okP (upd e t.x.text t.p) (more U t.p) r
def Yr(m:Int)(c:Nd):Fd->Fd
 | .mk x p b ks=>if x.kind=5/\b=m then .mk c (-1) (-1) []else .mk x p b (replL m c ks)
 where
 replL (m:Int) (c:Nd):List Fd->List Fd
 | []=>[]
 | t::r=>Yr m c t::replL m c r
def fill(t:ByteArray)(c:Nd):Fd->Fd
 | .mk x p b ks=>
  if x.kind=5/\x.text=t then .mk c (-1) (-1) []
  else if x.kind=14\/x.kind=16 then(if x.text=t then .mk x p b (fillA t c ks)else .mk x p b (fillL t c ks))
  else if x.kind=15 then .mk x p b (fillP t c ks)
  else .mk x p b (fillL t c ks)
 where
 fillL (t:ByteArray) (c:Nd):List Fd->List Fd
 | []=>[]
 | y::r=>fill t c y::fillL t c r
 fillA (t:ByteArray) (c:Nd):List Fd->List Fd
 | []=>[]
 | y::r=>fill t c y::r
 fillP (t:ByteArray) (c:Nd):List Fd->List Fd
 | []=>[]
 | y::r=>fill t c y::(if y.x.text=t then r else fillP t c r)
theorem QI(e:ByteArray->Int)(U:Int->Prop)(x:Nd)(p b:Int)(ks:List Fd):Ok e U (.mk x p b ks)=(if x.kind=5 then b=e x.text/\ks=[]else if x.kind=14\/x.kind=16 then ¬U p/\Ok.okA e U (upd e x.text p) (more U p) ks else if x.kind=15 then Ok.okP e U ks else x.kind<20/\Ok.okL e U ks):=by rw[Ok]
theorem J3(e:ByteArray->Int)(U:Int->Prop)(l:List Fd):Ok.okL e U l↔∀t∈l,Ok e U t:=by
 induction l with
 | nil=>simp[Ok.okL]
 | cons t r a=>simp[Ok.okL,a]
theorem Ji(e:ByteArray->Int)(U:Int->Prop)(e':ByteArray->Int)(a:Int->Prop)(t:Fd)(r:List Fd):Ok.okA e U e' a (t::r)↔Ok e U t/\∀y∈r,Ok e' a y:=by
 rw[Ok.okA,J3]
theorem RG(e:ByteArray->Int)(U:Int->Prop)(e':ByteArray->Int)(a:Int->Prop):Ok.okA e U e' a []:=by simp[Ok.okA]
theorem Gg(e:ByteArray->Int)(U:Int->Prop):Ok.okP e U []:=by simp[Ok.okP]
theorem JW(e:ByteArray->Int)(U:Int->Prop)(t:Fd)(r:List Fd):Ok.okP e U (t::r)↔Ok e U t/\(r≠[]->t.x.kind=19/\¬U t.p)/\Ok.okP (upd e t.x.text t.p) (more U t.p) r:=by rw[Ok.okP]
theorem Up(m:Int)(c:Nd)(x:Nd)(p b:Int)(ks:List Fd):Yr m c (.mk x p b ks)=if x.kind=5/\b=m then .mk c (-1) (-1) []else .mk x p b (ks.map (Yr m c)):=by
 have h:∀l,Yr.replL m c l=l.map (Yr m c):=by
  intro l;induction l with
  | nil=>simp[Yr.replL]
  | cons t r a=>simp[Yr.replL,a]
 rw[Yr,h]
theorem X5a(t:ByteArray)(c:Nd)(l:List Fd):fill.fillL t c l=l.map (fill t c):=by
 induction l with
 | nil=>simp[fill.fillL]
 | cons y r a=>simp[fill.fillL,a]
theorem PT(t:ByteArray)(c:Nd)(x:Nd)(p b:Int)(ks:List Fd):fill t c (.mk x p b ks)=(if x.kind=5/\x.text=t then .mk c (-1) (-1) []else if x.kind=14\/x.kind=16 then(if x.text=t then .mk x p b (fill.fillA t c ks)else .mk x p b (ks.map (fill t c)))else if x.kind=15 then .mk x p b (fill.fillP t c ks)else .mk x p b (ks.map (fill t c))):=by rw[fill,X5a]
theorem BP(t:ByteArray)(c:Nd)(y:Fd)(r:List Fd):fill.fillA t c (y::r)=fill t c y::r:=by simp[fill.fillA]
theorem X4z(t:ByteArray)(c:Nd):fill.fillA t c []=[]:=by simp[fill.fillA]
theorem BQ(t:ByteArray)(c:Nd)(y:Fd)(r:List Fd):fill.fillP t c (y::r)=fill t c y::(if y.x.text=t then r else fill.fillP t c r):=by rw[fill.fillP]
theorem Mf(t:ByteArray)(c:Nd):fill.fillP t c []=[]:=by simp[fill.fillP]
theorem Uv(e:ByteArray->Int)(t:ByteArray)(m:Int):upd e t m t=m:=by simp[upd]
theorem JZ(e:ByteArray->Int){t s:ByteArray}(m:Int)(h:s≠t):upd e t m s=e s:=by simp[upd,h]
theorem Lh{e:ByteArray->Int}{t:ByteArray}{m z:Int}(h:∀s,e s≠m)(c:z≠m):∀s,upd e t z s≠m:=by
 intro s;by_cases a:s=t
 .subst a;rw[Uv];exact c
 .rw[JZ e z a];exact h s
theorem EL(m:Int)(c:Nd):∀(n:Nat) (y:Fd),y.size<=n->∀(e:ByteArray->Int) (U:Int->Prop),Ok e U y->(∀s,e s≠m)->U m->Yr m c y=y:=by
 intro n;induction n with
 | zero=>intro y d;have:=size_pos y;omega
 | succ n z=>
  intro y d e U a q k;obtain⟨x,p,b,ks⟩:=y;rw[Zi]at d;have u:∀t∈ks,t.size<=n:=fun t M=>by have:=Ql M;omega
  rw[Up];rw[QI]at a;by_cases v:x.kind=5
  .rw[X3 v]at a;obtain⟨I,J⟩:=a;rw[X2 (by rintro⟨_,h⟩;exact q _ (I.symm.trans h)),J];rfl
  .rw[X2 (fun h=>v h.1)];rw[X2 v]at a;have D:ks.map (Yr m c)=ks:=by
    by_cases g:x.kind=14\/x.kind=16
    .rw[X3 g]at a;obtain⟨L,H⟩:=a;have l:p≠m:=fun h=>L (h ▸ k);cases ks with
     | nil=>rfl
     | cons t r=>
      obtain⟨A,B⟩:=(Ji _ _ _ _ _ _).1 H;rw[Xu,z t (u t (by simp)) e U A q k];congr 1;refine(JF fun y d=>?_).trans (DB _);exact z y (u y (by simp[d])) _ _ (B y d) (Lh q l) (.inl k)
    .rw[X2 g]at a;by_cases j:x.kind=15
     .rw[X3 j]at a;clear d g j v;induction ks generalizing e U with
      | nil=>rfl
      | cons t r C=>
       obtain⟨A,B,F⟩:=(JW _ _ _ _).1 a;rw[Xu,z t (u t (by simp)) e U A q k];congr 1;by_cases E:r=[]
       .subst E;rfl
       .have l:t.p≠m:=fun h=>(B E).2 (h ▸ k);exact C _ _ (Lh q l) (.inl k) F (fun y d=>u y (by simp[d]))
     .rw[X2 j]at a;have K:=(J3 _ _ _).1 a.2;exact(JF fun y d=>z y (u y d) e U (K y d) q k).trans (DB _)
   rw[D]
theorem FK{e:ByteArray->Int}{t a:ByteArray}{m z:Int}(h:∀s,e s=m↔s=t)(g:z≠m)(d:a≠t):∀s,upd e a z s=m↔s=t:=by
 intro s;by_cases c:s=a
 .subst c;rw[Uv];exact⟨fun h=>absurd h g,fun h=>absurd h d⟩
 .rw[JZ e z c];exact h s
theorem FJ{e:ByteArray->Int}{t:ByteArray}{m z:Int}(h:∀s,e s=m↔s=t)(d:z≠m):∀s,upd e t z s≠m:=by
 intro s;by_cases a:s=t
 .subst a;rw[Uv];exact d
 .rw[JZ e z a];exact fun c=>a ((h s).1 c)
theorem fill_eq(m:Int)(t:ByteArray)(c:Nd):∀(n:Nat) (y:Fd),y.size<=n->∀(e:ByteArray->Int) (U:Int->Prop),Ok e U y->(∀s,e s=m↔s=t)->U m->fill t c y=Yr m c y:=by
 intro n;induction n with
 | zero=>intro y v;have:=size_pos y;omega
 | succ n M=>
  intro y v e U d q l;obtain⟨x,p,b,ks⟩:=y;rw[Zi]at v;have B:∀t∈ks,t.size<=n:=fun t ht=>by have:=Ql ht;omega
  rw[Up,PT];rw[QI]at d;by_cases E:x.kind=5
  .rw[X3 E]at d;obtain⟨Z,hk⟩:=d;have A:b=m↔x.text=t:=by rw[Z];exact q _
   by_cases a:x.text=t
   .rw[X3 ⟨E,a⟩,X3 ⟨E,A.2 a⟩]
   .have n1:¬(x.kind=5/\x.text=t):=fun h=>a h.2;have n2:¬(x.kind=5/\b=m):=fun h=>a (A.1 h.2);have n3:¬(x.kind=14\/x.kind=16):=by omega
    have n4:¬x.kind=15:=by omega
    rw[X2 n1,X2 n2,X2 n3,X2 n4,hk];rfl
  .have n1:¬(x.kind=5/\x.text=t):=fun h=>E h.1;have n2:¬(x.kind=5/\b=m):=fun h=>E h.1;rw[X2 n1,X2 n2];rw[X2 E]at d;by_cases C:x.kind=14\/x.kind=16
   .rw[X3 C]at d⊢;obtain⟨hp,Y⟩:=d;have k:p≠m:=fun h=>hp (h ▸ l);cases ks with
    | nil=>simp[X4z]
    | cons y r=>
     obtain⟨P,J⟩:=(Ji _ _ _ _ _ _).1 Y;have Q:=M y (B y (by simp)) e U P q l;by_cases a:x.text=t
     .subst a;rw[X3 rfl,BP,Xu,Q];have:r.map (Yr m c)=r:=(JF fun z g=>EL m c n z (B z (by simp[g])) _ _ (J z g) (FJ q k) (.inl l)).trans (DB _);rw[this]
     .rw[X2 a,Xu,Xu,Q];rw[JF fun z g=>M z (B z (by simp[g])) _ _ (J z g) (FK q k a) (.inl l)]
   .rw[X2 C]at d⊢;by_cases D:x.kind=15
    .rw[X3 D]at d⊢;congr 1;clear v C D E;induction ks generalizing e U with
     | nil=>simp[Mf]
     | cons y r K=>
      obtain⟨P,J,S⟩:=(JW _ _ _ _).1 d;rw[Xu,BQ,M y (B y (by simp)) e U P q l];congr 1;by_cases I:r=[]
      .subst I;simp[Mf]
      .have k:y.p≠m:=fun h=>(J I).2 (h ▸ l);by_cases a:y.x.text=t
       .rw[X3 a];subst a;have L:=FJ q k;have u:∀z∈r,z.size<=n:=fun z g=>B z (by simp[g]);have j:more U y.p m:= .inl l;clear K I J q d;generalize upd e y.x.text y.p=e' at *;generalize more U y.p=V at *;clear B;induction r generalizing e' V with
        | nil=>rfl
        | cons z r H=>
         obtain⟨W,X,N⟩:=(JW _ _ _ _).1 S;rw[Xu,EL m c n z (u z (by simp)) _ _ W L j];congr 1;by_cases I:r=[]
         .subst I;rfl
         .have F:z.p≠m:=fun h=>(X I).2 (h ▸ j);first|exact H (fun y v=>u y (by simp[v])) _ (Lh L F) _ N (.inl j)|exact H (fun y v=>u y (by simp[v])) _ _ N (Lh L F) (.inl j)|exact H (fun y v=>u y (by simp[v])) _ (Lh L F) _ (.inl j) N
       .rw[X2 a];exact K _ _ (FK q k a) (.inl l) S (fun z g=>B z (by simp[g]))
    .rw[X2 D]at d⊢;have hl:=(J3 _ _ _).1 d.2;rw[JF fun z g=>M z (B z g) e U (hl z g) q l]
end Fd
end Go.Proofs.YtkoiikmhfaebnaaGreatDoor
namespace Go.Proofs.YtkoiikmhfaebnaaGreatDoor.Vl
open Tryz Go.RowKit T.atoms T.ok T.high T.Y0 T.Ko Xs
def ZV(less same:Bool):Int:=if same then 0 else if less then -1 else 1
def YY(a b:Int):Int:=ZV (decide (a<b)) (a==b)
def WS(a b:ByteArray):Int:=ZV (slt a b) (a.toList==b.toList)
def T.ord:T->T->Int
 | .mk k n s ks,.mk k' n' s' ks'=>if k≠k' then ZV (decide (k<k')) false else if k=2\/k=3 then YY n n' else if k=4 then WS s s' else ordL ks ks'
 where
 ordL:List T->List T->Int
 | [],l=>ZV (decide (0<l.length)) (l.length==0)
 | _::_,[]=>1
 | a::r,b::r'=>if a.ord b≠0 then a.ord b else ordL r r'
open T.ord
theorem T.RN(a b:T):a.ord b=if a.kind≠b.kind then ZV (decide (a.kind<b.kind)) false else if a.kind=2\/a.kind=3 then YY a.num b.num else if a.kind=4 then WS a.text b.text else ordL a.ks b.ks:=by
 cases a;cases b;rw[T.ord];rfl
theorem CM:∀a b:List UInt8,(Go.Op.bytesLess a b||(a==b))=!Go.Op.bytesLess b a
 | [],[]=>rfl
 | [],_::_=>rfl
 | _::_,[]=>rfl
 | x::a,y::b=>by
  have j:=CM a b;simp only[Go.Op.bytesLess,List.cons_beq_cons];have g:x<y\/x=y\/y<x:=by
   rcases Nat.lt_trichotomy x.toNat y.toNat with h|h|h
   .exact .inl (UInt8.lt_iff_toNat_lt.2 h)
   .exact .inr (.inl (UInt8.toNat_inj.1 h))
   .exact .inr (.inr (UInt8.lt_iff_toNat_lt.2 h))
  rcases g with h|h|h
  .have c:¬y<x:=UInt8.lt_asymm h;have d:¬y=x:=fun e=>by subst e;exact AA _ h
   simp[h,c,d]
  .subst h;have c:¬x<x:=AA _;simpa[c]using j
  .have c:¬x<y:=UInt8.lt_asymm h;have d:¬x=y:=fun e=>by subst e;exact AA _ h
   simp[h,c,d]
theorem Y2x(x:ByteArray)(w:World):(Instr.typeAssert (.iface 81 (.string x)) 75 81 true).run prog w= .ok (.tuple #[.string x,.bool true]) w:=by kernel_rfl
theorem Y7e(w:World):(zeroValue 81).run prog w= .ok (.string ⟨#[]⟩) w:=by kernel_rfl
theorem Oe(t:TypeId)(v:Value)(w:World)(h:¬t=81):(Instr.typeAssert (.iface t v) 75 81 true).run prog w= .ok (.tuple #[.string ⟨#[]⟩,.bool false]) w:=by
 unfold Instr.typeAssert;simp only[Zk,Gq underlying81,Zj,X2 h,J2,Y7e];rfl
theorem Xs.text{w:World}{x:Nat}{t:T}{v:Value}(h:Xs w x t v)(a:t.kind=4):v= .iface 81 (.string t.text):=by
 cases t with
 | mk k n s ks=>
  unfold Xs at h;have a:k=4:=a;subst a;rcases h with⟨e,_⟩|⟨e,_⟩|⟨e,_⟩|⟨_,e⟩|⟨e,_⟩|⟨e,_⟩;all_goals first|exact e|omega
theorem Xs.other{w:World}{x:Nat}{t:T}{v:Value}(h:Xs w x t v)(a:t.kind≠4):∃y u,v= .iface y u/\¬y=81:=by
 cases t with
 | mk k n s ks=>
  unfold Xs at h;have a:k≠4:=a;rcases h with⟨_,rfl⟩|⟨_,rfl⟩|⟨_,rfl⟩|⟨e,_⟩|⟨_,p,c,d,rfl,_⟩|⟨_,p,c,m,d,_,rfl,_⟩
  .exact⟨_,_,rfl,by decide⟩
  .exact⟨_,_,rfl,by decide⟩
  .exact⟨_,_,rfl,by decide⟩
  .exact absurd e a
  .exact⟨_,_,rfl,by decide⟩
  .exact⟨_,_,rfl,by decide⟩
theorem Xs.isIface{w:World}{x:Nat}{t:T}{v:Value}(h:Xs w x t v):∃y u,v= .iface y u:=by
 by_cases a:t.kind=4
 .exact⟨_,_,h.text a⟩
 .obtain⟨y,u,e,_⟩:=h.other a;exact⟨y,u,e⟩
end Go.Proofs.YtkoiikmhfaebnaaGreatDoor.Vl
namespace Go.Proofs.YtkoiikmhfaebnaaGreatDoor.Vl
open Tryz Go.RowKit T.atoms T.ok T.high T.Y0 T.Ko Xs T.ord
theorem Xcm(a:Int)(w:World):Calls prog 219 #[.int .i64 a] w fun e w'=>e= .returned (.bool false)/\w'=w:=by
 go_enter func219,ntmps219;go_wp2;go_ret;exact⟨rfl,rfl⟩
theorem Bb(a b:Int)(w:World):Calls prog 159 #[.int .i64 a,.int .i64 b] w fun e w'=>e= .returned (.int .i64 (YY a b))/\w'=w:=by
 have d:a<b\/a=b\/b<a:=by omega
 rcases d with h|h|h;focus
  have c:YY a b= -1:=by unfold YY ZV;simp;omega
 rotate_left;focus
  subst h;have c:YY a a=0:=by unfold YY ZV;simp
 rotate_left;focus
  have c:YY a b=1:=by unfold YY ZV;simp;omega
  have g:¬a<b:=by omega
 all_goals
  rw[c];go_enter func159,ntmps159;go_wp2_with(go_at_call 219;refine(Xcm _ _).mono ?_;rintro e w'⟨rfl,rfl⟩);go_ret;exact⟨rfl,rfl⟩
theorem Xcn(a:Int)(w:World):Calls prog 220 #[.int .i64 a] w fun e w'=>e= .returned (.bool false)/\w'=w:=by
 go_enter func220,ntmps220;go_wp2;go_ret;exact⟨rfl,rfl⟩
theorem X2w(a b:Int)(w:World):Calls prog 160 #[.int .i64 a,.int .i64 b] w fun e w'=>e= .returned (.int .i64 (YY a b))/\w'=w:=by
 have d:a<b\/a=b\/b<a:=by omega
 rcases d with h|h|h;focus
  have c:YY a b= -1:=by unfold YY ZV;simp;omega
 rotate_left;focus
  subst h;have c:YY a a=0:=by unfold YY ZV;simp
 rotate_left;focus
  have c:YY a b=1:=by unfold YY ZV;simp;omega
  have g:¬a<b:=by omega
 all_goals
  rw[c];go_enter func160,ntmps160;go_wp2_with(go_at_call 220;refine(Xcn _ _).mono ?_;rintro e w'⟨rfl,rfl⟩);go_ret;exact⟨rfl,rfl⟩
theorem Xco(a:Int)(w:World):Calls prog 221 #[.int .i64 a] w fun e w'=>e= .returned (.bool false)/\w'=w:=by
 go_enter func221,ntmps221;go_wp2;go_ret;exact⟨rfl,rfl⟩
theorem X2x(a b:Int)(w:World):Calls prog 162 #[.int .i64 a,.int .i64 b] w fun e w'=>e= .returned (.int .i64 (YY a b))/\w'=w:=by
 have d:a<b\/a=b\/b<a:=by omega
 rcases d with h|h|h;focus
  have c:YY a b= -1:=by unfold YY ZV;simp;omega
 rotate_left;focus
  subst h;have c:YY a a=0:=by unfold YY ZV;simp
 rotate_left;focus
  have c:YY a b=1:=by unfold YY ZV;simp;omega
  have g:¬a<b:=by omega
 all_goals
  rw[c];go_enter func162,ntmps162;go_wp2_with(go_at_call 221;refine(Xco _ _).mono ?_;rintro e w'⟨rfl,rfl⟩);go_ret;exact⟨rfl,rfl⟩
theorem Xcp(a:ByteArray)(w:World):Calls prog 222 #[.string a] w fun e w'=>e= .returned (.bool false)/\w'=w:=by
 go_enter func222,ntmps222;go_wp2;go_ret;exact⟨Xf (by simp),rfl⟩
theorem X2y(a b:ByteArray)(w:World):Calls prog 163 #[.string a,.string b] w fun e w'=>e= .returned (.int .i64 (WS a b))/\w'=w:=by
 have c:=CM a.toList b.toList;have g:Hid (WS a b=ZV (Go.Op.bytesLess a.toList b.toList) (a.toList==b.toList)):=X1 rfl;cases d:Go.Op.bytesLess a.toList b.toList;all_goals cases j:(a.toList==b.toList)
 all_goals
  rw[d,j]at g c;first
  | (exfalso;have e:a.toList=b.toList:=by simpa using j
     rw[e]at d c;rw[d]at c;simp at c;done)
  | (have k:=X1 c
     clear c;go_enter func163,ntmps163;go_wp2_with(go_at_call 222;refine(Xcp _ _).mono ?_;rintro e w'⟨rfl,rfl⟩);go_ret;exact⟨Jy g.o.symm,rfl⟩)
theorem LW(b:Bool)(w:World):Calls prog 161 #[.bool b] w fun e w'=>e= .returned (.int .i64 (if b then 1 else 0))/\w'=w:=by
 cases b;all_goals
  go_enter func161,ntmps161;go_wp2;go_ret;exact⟨rfl,rfl⟩
def GL(v:Value)(k:Int):Prop:=∃f r,(∀w,(callMethod v "loop.example/kilnclay/impl.kind" #[]).run prog w= .ok (.enter f #[r]) w)/\∀w,Calls prog f #[r] w fun e w'=>e= .returned (.int .i64 k)/\Below w.heap.size w w'
theorem X9n(w:World):(callMethod (.iface 356 (.agg #[])) "loop.example/kilnclay/impl.kind" #[]).run prog w= .ok (.enter 342 #[.agg #[]]) w:=by kernel_rfl
theorem Xak(w:World):Calls prog 342 #[.agg #[]] w fun e w'=>e= .returned (.int .i64 1)/\Below w.heap.size w w':=by
 go_enter func342,ntmps342;go_wp2;go_ret;exact⟨rfl,bA _⟩
theorem X9k(b:Bool)(w:World):(callMethod (.iface 73 (.bool b)) "loop.example/kilnclay/impl.kind" #[]).run prog w= .ok (.enter 284 #[.bool b]) w:=by kernel_rfl
theorem Xag(b:Bool)(w:World):Calls prog 284 #[.bool b] w fun e w'=>e= .returned (.int .i64 2)/\Below w.heap.size w w':=by
 go_enter func284,ntmps284;go_wp2;go_ret;exact⟨rfl,X5 _ _⟩
theorem X9l(n:Int)(w:World):(callMethod (.iface 96 (.int .i64 n)) "loop.example/kilnclay/impl.kind" #[]).run prog w= .ok (.enter 291 #[.int .i64 n]) w:=by kernel_rfl
theorem Xah(n:Int)(w:World):Calls prog 291 #[.int .i64 n] w fun e w'=>e= .returned (.int .i64 3)/\Below w.heap.size w w':=by
 go_enter func291,ntmps291;go_wp2;go_ret;exact⟨rfl,X5 _ _⟩
theorem X9p(x:ByteArray)(w:World):(callMethod (.iface 81 (.string x)) "loop.example/kilnclay/impl.kind" #[]).run prog w= .ok (.enter 286 #[.string x]) w:=by kernel_rfl
theorem Xam(x:ByteArray)(w:World):Calls prog 286 #[.string x] w fun e w'=>e= .returned (.int .i64 4)/\Below w.heap.size w w':=by
 go_enter func286,ntmps286;go_wp2;go_ret;exact⟨rfl,X5 _ _⟩
theorem X9m(p:Option Addr)(n c:Nat)(a d:Int)(w:World):(callMethod (.iface 88 (.agg #[.slice p n c,.int .i64 a,.int .i64 d])) "loop.example/kilnclay/impl.kind" #[]).run prog w= .ok (.enter 289 #[.agg #[.slice p n c,.int .i64 a,.int .i64 d]]) w:=by kernel_rfl
theorem Xai(p:Option Addr)(n c:Nat)(a d:Int)(w:World):Calls prog 289 #[.agg #[.slice p n c,.int .i64 a,.int .i64 d]] w fun e w'=>e= .returned (.int .i64 5)/\Below w.heap.size w w':=by
 go_enter func289,ntmps289;go_wp2;go_ret;exact⟨rfl,bA _⟩
theorem X9o(p:Option Addr)(n c:Nat)(a d:Int)(w:World):(callMethod (.iface 93 (.agg #[.slice p n c,.int .i64 a,.int .i64 d])) "loop.example/kilnclay/impl.kind" #[]).run prog w= .ok (.enter 290 #[.agg #[.slice p n c,.int .i64 a,.int .i64 d]]) w:=by kernel_rfl
theorem Xal(p:Option Addr)(n c:Nat)(a d:Int)(w:World):Calls prog 290 #[.agg #[.slice p n c,.int .i64 a,.int .i64 d]] w fun e w'=>e= .returned (.int .i64 6)/\Below w.heap.size w w':=by
 go_enter func290,ntmps290;go_wp2;go_ret;exact⟨rfl,bA _⟩
theorem CE{w:World}{x:Nat}{t:T}{v:Value}(h:Xs w x t v):GL v t.kind:=by
 cases t with
 | mk k n s ks=>
  unfold Xs at h;show GL v k;rcases h with⟨rfl,rfl⟩|⟨rfl,rfl⟩|⟨rfl,rfl⟩|⟨rfl,rfl⟩|⟨rfl,p,c,a,rfl,_⟩|⟨rfl,p,c,m,a,_,rfl,_⟩
  .exact⟨_,_,X9n,Xak⟩
  .exact⟨_,_,X9k _,Xag _⟩
  .exact⟨_,_,X9l _,Xah _⟩
  .exact⟨_,_,X9p _,Xam _⟩
  .exact⟨_,_,X9m _ _ _ _ _,Xai _ _ _ _ _⟩
  .exact⟨_,_,X9o _ _ _ _ _,Xal _ _ _ _ _⟩
theorem Vb{d:Array Oper}{Q:Exit->Act->World->Prop}{a:Act}{w:World}{c:List Oper}{o:Oper}(n:o.guard=none)(x:Operand)(g:o.op=Op.call {callee:=Callee.invoke x "loop.example/kilnclay/impl.kind",args:=#[],argTypes:=#[]})(v:Value)(k:Int)(u:a.eval x=v)(s:GL v k)(m:∀w',BL w w'->wpList prog d Q c (a.put o.dst (.int .i64 k)) w'):wpList prog d Q (o::c) a w:=by
 refine wpList_step (fun K hKK=>?_);have t:Region.wanted o (yielded d a.tmps)=true:=by simp[Region.wanted,n]
 rw[X3 t];obtain⟨f,r,q,l⟩:=s;unfold Oper.wp;simp only[execOp,g,resolve,invoke,KP,Yc,u,Zk,QM,Zj];simp[q];refine(l w).mono fun e y h=>?_;obtain⟨rfl,j⟩:=h;exact hKK _ _ (m _ j)
end Go.Proofs.YtkoiikmhfaebnaaGreatDoor.Vl
namespace Go.Proofs.YtkoiikmhfaebnaaGreatDoor.Vl
open Tryz Go.RowKit T.atoms T.ok T.high T.Y0 T.Ko Xs T.ord
theorem Y7a(w:World):(zeroValue 73).run prog w= .ok (.bool false) w:=by kernel_rfl
theorem Lb(t:TypeId)(v:Value)(w:World)(h:¬t=73):(Instr.typeAssert (.iface t v) 75 73 true).run prog w= .ok (.tuple #[.bool false,.bool false]) w:=by
 unfold Instr.typeAssert;simp only[Zk,Gq underlying73,Zj,X2 h,J2,Y7a];rfl
theorem Y7b(w:World):(zeroValue 96).run prog w= .ok (.int .i64 0) w:=by kernel_rfl
theorem Lc(t:TypeId)(v:Value)(w:World)(h:¬t=96):(Instr.typeAssert (.iface t v) 75 96 true).run prog w= .ok (.tuple #[.int .i64 0,.bool false]) w:=by
 unfold Instr.typeAssert;simp only[Zk,Gq underlying96,Zj,X2 h,J2,Y7b];rfl
theorem Y7c(w:World):(zeroValue 88).run prog w= .ok (.agg #[.slice none 0 0,.int .i64 0,.int .i64 0]) w:=by kernel_rfl
theorem Og(t:TypeId)(v:Value)(w:World)(h:¬t=88):(Instr.typeAssert (.iface t v) 75 88 true).run prog w= .ok (.tuple #[.agg #[.slice none 0 0,.int .i64 0,.int .i64 0],.bool false]) w:=by
 unfold Instr.typeAssert;simp only[Zk,Gq underlying88,Zj,X2 h,J2,Y7c];rfl
theorem Y7d(w:World):(zeroValue 93).run prog w= .ok (.agg #[.slice none 0 0,.int .i64 0,.int .i64 0]) w:=by kernel_rfl
theorem Oh(t:TypeId)(v:Value)(w:World)(h:¬t=93):(Instr.typeAssert (.iface t v) 75 93 true).run prog w= .ok (.tuple #[.agg #[.slice none 0 0,.int .i64 0,.int .i64 0],.bool false]) w:=by
 unfold Instr.typeAssert;simp only[Zk,Gq underlying93,Zj,X2 h,J2,Y7d];rfl
theorem Wq(b:Bool)(w:World):(Instr.typeAssert (.iface 73 (.bool b)) 75 73 true).run prog w= .ok (.tuple #[.bool b,.bool true]) w:=by kernel_rfl
theorem Y3b(b:Bool)(w:World):(Instr.typeAssert (.iface 73 (.bool b)) 75 73 false).run prog w= .ok (.bool b) w:=by kernel_rfl
theorem Ws(n:Int)(w:World):(Instr.typeAssert (.iface 96 (.int .i64 n)) 75 96 true).run prog w= .ok (.tuple #[.int .i64 n,.bool true]) w:=by kernel_rfl
theorem Y3c(n:Int)(w:World):(Instr.typeAssert (.iface 96 (.int .i64 n)) 75 96 false).run prog w= .ok (.int .i64 n) w:=by kernel_rfl
theorem Gu(x:ByteArray)(w:World):(Instr.typeAssert (.iface 81 (.string x)) 75 81 true).run prog w= .ok (.tuple #[.string x,.bool true]) w:=by kernel_rfl
theorem Y3d(x:ByteArray)(w:World):(Instr.typeAssert (.iface 81 (.string x)) 75 81 false).run prog w= .ok (.string x) w:=by kernel_rfl
theorem Ba{k k':Int}(h:k≠k'):YY k k'≠0/\YY k k'=ZV (decide (k<k')) false:=by
 unfold YY;have:(k==k')=false:=by simpa using h
 rw[this];refine⟨?_,rfl⟩;unfold ZV;by_cases a:k<k'<;>simp[a]
theorem X2v(k:Int):YY k k=0:=by unfold YY ZV;simp
theorem R7{n:Int}{s:ByteArray}{ks:List T}(h:(T.mk 2 n s ks).Y0=true):n=0\/n=1:=by
 rw[T.Y0]at h;simp[plain]at h;omega
theorem Ci{n:Int}{s:ByteArray}{ks:List T}(h:(T.mk 1 n s ks).Y0=true):ks=[]:=by
 rw[T.Y0]at h;simp[plain]at h;exact h.1.1.2
theorem M6:∀(N:Nat) (t r:T) (v v':Value) (x x':Nat) (w:World),t.count<N->t.kind<=4->r.kind<=4->t.Y0=true->r.Y0=true->Xs w x t v->Xs w x' r v'->Calls prog 95 #[v,v'] w fun e w'=>e= .returned (.int .i64 (t.ord r))/\Below w.heap.size w w':=by
 intro N;induction N with
 | zero=>intro t r v v' x x' w h;omega
 | succ N ih=>
 intro t r v v' x x' w hN hc X hg P L z;have IH:=X1 ih;have H:=X1 (CE L);have l:=X1 (CE z);have C:=X1 (T.RN t r);have W:=X1 L;have F:=X1 z;clear ih;by_cases I:t.kind=r.kind
 .have HG:=X1 hg;have K:=X1 P;have HN:=X1 hN;cases t with
  | mk k n s ks=>
  cases r with
  | mk k' A D q=>
  have I:k=k':=I;subst I;have H:Hid (GL v k):=H;have l:Hid (GL v' k):=l;have C:Hid ((T.mk k n s ks).ord (.mk k A D q)=if k=2\/k=3 then YY n A else if k=4 then WS s D else ordL ks q):=X1 (by rw[C.o];simp[T.kind,T.num,T.text,T.ks];rfl);have J:Hid (k<=4):=X1 hc;have j:=X1 (Bb k k);rw[X2v]at j;have M:=W.o;have g:=F.o;unfold Xs at M g;clear L z hg P hN hc X IH W F;have n1:=Lb;have n2:=Lc;have n3:=Oe;have n4:=Og;have n5:=Oh;rcases M with⟨rfl,rfl⟩|⟨rfl,rfl⟩|⟨rfl,rfl⟩|⟨rfl,rfl⟩|⟨rfl,p,c,vs,rfl,Z,Y,Q⟩|⟨rfl,p,c,m,vs,hm,rfl,Z,Y,Q⟩
  .rcases g with⟨_,rfl⟩|⟨h,_⟩|⟨h,_⟩|⟨h,_⟩|⟨h,_⟩|⟨h,_⟩;any_goals(exfalso;revert h;decide)
   have B:Hid ((T.mk 1 n s ks).ord (.mk 1 A D q)=0):=X1 (by rw[C.o,Ci HG.o,Ci K.o];rfl);go_enter func95,ntmps95
   go_wp2_with(show wpList _ _ _ ({dst:=_,op:=Op.call {callee:=Callee.invoke _ _,args:=_,argTypes:=_},type:=_,pos:=_,after:=_,guard:=_}::_) _ _;first
    | (refine Vb rfl (.tmp 11) rfl _ _ (by first|(simp[Act.eval];done)|simp[Act.eval,Act.put]) H.o ?_;intro w1 a)
    | (refine Vb rfl (.tmp 13) rfl _ _ (by first|(simp[Act.eval];done)|simp[Act.eval,Act.put]) l.o ?_;intro S d))
   refine(j.o _).mono ?_;rintro e V⟨rfl,rfl⟩;have E:=a.trans (d.mono a.size);go_wp2;go_ret;exact⟨Jy B.o.symm,E⟩
  .rcases g with⟨h,_⟩|⟨_,rfl⟩|⟨h,_⟩|⟨h,_⟩|⟨h,_⟩|⟨h,_⟩;any_goals(exfalso;revert h;decide)
   have B:Hid ((T.mk 2 n s ks).ord (.mk 2 A D q)=YY (if(n==1)then 1 else 0) (if(A==1)then 1 else 0)):=X1 (by
    rw[C.o,X3 (.inl rfl)];rcases R7 HG.o with rfl|rfl<;>rcases R7 K.o with rfl|rfl<;>rfl)
   generalize(n==1)=b at *;generalize(A==1)=b' at *;cases b;all_goals cases b'
   all_goals
    have y1:=Wq;have y2:=Y3b;go_enter func95,ntmps95
    go_wp2_with(show wpList _ _ _ ({dst:=_,op:=Op.call {callee:=Callee.invoke _ _,args:=_,argTypes:=_},type:=_,pos:=_,after:=_,guard:=_}::_) _ _;first
     | (refine Vb rfl (.tmp 11) rfl _ _ (by first|(simp[Act.eval];done)|simp[Act.eval,Act.put]) H.o ?_;intro w1 a)
     | (refine Vb rfl (.tmp 13) rfl _ _ (by first|(simp[Act.eval];done)|simp[Act.eval,Act.put]) l.o ?_;intro S d))
    refine(j.o _).mono ?_;rintro e V⟨rfl,rfl⟩;have E:=a.trans (d.mono a.size);go_wp2;go_quiet(first|(go_at_call 161;exact Calls.quiet_of_same (LW _ _))|(go_at_call 160;exact Calls.quiet_of_same (X2w _ _ _)));go_wp2;go_ret;exact⟨Jy B.o.symm,below_drewN E _⟩
  .rcases g with⟨h,_⟩|⟨h,_⟩|⟨_,rfl⟩|⟨h,_⟩|⟨h,_⟩|⟨h,_⟩;any_goals(exfalso;revert h;decide)
   have B:Hid ((T.mk 3 n s ks).ord (.mk 3 A D q)=YY n A):=X1 (by rw[C.o,X3 (.inr rfl)]);have y1:=Ws n;have y2:=Y3c A;go_enter func95,ntmps95
   go_wp2_with(show wpList _ _ _ ({dst:=_,op:=Op.call {callee:=Callee.invoke _ _,args:=_,argTypes:=_},type:=_,pos:=_,after:=_,guard:=_}::_) _ _;first
    | (refine Vb rfl (.tmp 11) rfl _ _ (by first|(simp[Act.eval];done)|simp[Act.eval,Act.put]) H.o ?_;intro w1 a)
    | (refine Vb rfl (.tmp 13) rfl _ _ (by first|(simp[Act.eval];done)|simp[Act.eval,Act.put]) l.o ?_;intro S d))
   refine(j.o _).mono ?_;rintro e V⟨rfl,rfl⟩;have E:=a.trans (d.mono a.size);go_wp2_with(go_at_call 162;refine(X2x _ _ _).mono ?_;rintro e w4⟨rfl,rfl⟩);go_ret;exact⟨Jy B.o.symm,E⟩
  .rcases g with⟨h,_⟩|⟨h,_⟩|⟨h,_⟩|⟨_,rfl⟩|⟨h,_⟩|⟨h,_⟩;any_goals(exfalso;revert h;decide)
   have B:Hid ((T.mk 4 n s ks).ord (.mk 4 A D q)=WS s D):=X1 (by rw[C.o,X2 (by decide),X3 rfl]);have y1:=Gu s;have y2:=Y3d D;go_enter func95,ntmps95
   go_wp2_with(show wpList _ _ _ ({dst:=_,op:=Op.call {callee:=Callee.invoke _ _,args:=_,argTypes:=_},type:=_,pos:=_,after:=_,guard:=_}::_) _ _;first
    | (refine Vb rfl (.tmp 11) rfl _ _ (by first|(simp[Act.eval];done)|simp[Act.eval,Act.put]) H.o ?_;intro w1 a)
    | (refine Vb rfl (.tmp 13) rfl _ _ (by first|(simp[Act.eval];done)|simp[Act.eval,Act.put]) l.o ?_;intro S d))
   refine(j.o _).mono ?_;rintro e V⟨rfl,rfl⟩;have E:=a.trans (d.mono a.size);go_wp2_with(go_at_call 163;refine(X2y _ _ _).mono ?_;rintro e w4⟨rfl,rfl⟩);go_ret;exact⟨Jy B.o.symm,E⟩
  .exact absurd J.o (by decide)
  .exact absurd J.o (by decide)
 .have B:Hid (t.ord r=YY t.kind r.kind):=X1 (by rw[C.o,X3 I,(Ba I).2]);have hne:=(Ba I).1;have j:=X1 (Bb t.kind r.kind);obtain⟨y,u,rfl⟩:=L.isIface;obtain⟨y',u',rfl⟩:=z.isIface;generalize t.kind=k at *;generalize r.kind=k' at *;generalize YY k k'=cc at *;clear L z W F C;go_enter func95,ntmps95
  go_wp2_with(show wpList _ _ _ ({dst:=_,op:=Op.call {callee:=Callee.invoke _ _,args:=_,argTypes:=_},type:=_,pos:=_,after:=_,guard:=_}::_) _ _;first
   | (refine Vb rfl (.tmp 11) rfl _ _ (by first|(simp[Act.eval];done)|simp[Act.eval,Act.put]) H.o ?_;intro w1 a)
   | (refine Vb rfl (.tmp 13) rfl _ _ (by first|(simp[Act.eval];done)|simp[Act.eval,Act.put]) l.o ?_;intro S d))
  refine(j.o _).mono ?_;rintro e V⟨rfl,rfl⟩;go_wp2;go_ret;exact⟨Jy B.o.symm,a.trans (d.mono a.size)⟩
end Go.Proofs.YtkoiikmhfaebnaaGreatDoor.Vl
