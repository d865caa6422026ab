import Derived.Test.YtkoiikmhfaebnaaGreatDoorB04
import Derived.Test.YtkoiikmhfaebnaaGreatDoorB13
set_option maxHeartbeats 2000000
set_option maxRecDepth 100000
namespace Go.Proofs.YtkoiikmhfaebnaaGreatDoor
open Tryz Go.RowKit
theorem WK.boxed{d:De}{S:Kz}{p c q:Nat}{o:Obj}{w:World}(h:WK d (Jm S q o) p c w):w.heap[q]?=some o:=h.XH q o (X3 rfl)
def Ut(k:Int)(x:Sc.T):Obj:= .cells #[.int .i64 k,.string ⟨x.text.toArray⟩,.int .i64 x.n,.int .i64 x.place] 235
theorem Dm{w:World}{q:Nat}{k:Int}{x:Sc.T}(h:w.heap[q]?=some (Ut k x)):w.cell? ⟨q,0,none⟩=some (.int .i64 k)/\w.cell? ⟨q,1,none⟩=some (.string ⟨x.text.toArray⟩)/\w.cell? ⟨q,2,none⟩=some (.int .i64 x.n)/\w.frozen? ⟨q,0,none⟩=false:=by
 refine⟨?_,?_,?_,?_⟩<;>simp[World.cell?,World.frozen?,h,Ut]
def wl(d:De)(w:World):Nat:=d.ts.length-(intOf ((w.cell? ⟨d.b,2,none⟩).getD (.int .i64 0))).toNat
theorem WK.wl{d:De}{S:Kz}{p c:Nat}{w:World}(h:WK d S p c w):wl d w=d.ts.length-p:=by
 obtain⟨bad,a,v,out,g,-⟩:=h.st;unfold Proofs.YtkoiikmhfaebnaaGreatDoor.wl;rw[(Z2 g).2.2.1];simp[intOf]
theorem WK.grow{d:De}{S:Kz}{p c c' u:Nat}{w w':World}{bad:Bool}{a:Int}{v v':Value}{l out':List Nd}(h:WK d S p c w)(z:w.heap[d.b]?=some (dsk d p bad a v))(A:w.ownsRow (d.b+1) 48 5 v l.length (Xe l))(t:(∀q,v.ownBlock=some q->S.f q=none)/\∀x∈l,x.n<9223372036854775808)(B:∀x∈out',x.n<9223372036854775808)(r:w.grownBy w' v.ownBlock)(H:w'.ownsRow (d.b+1) 48 5 v' out'.length (Xe out'))(m:v'.ownBlock=v.ownBlock\/v'.ownBlock=some w.heap.size)(F:u<=out'.length)(C:out'.length+c'<=4*p+20000):WK d ⟨S.f,u⟩ p c' (w'.setCell ⟨d.b,5,none⟩ v'):=by
 have E:=h.lt;have k:=(X5 0 w').setCell (p:=⟨d.b,5,none⟩) (X6 _) v';have e:∀q,q≠d.b->(w'.setCell ⟨d.b,5,none⟩ v').heap[q]?=w'.heap[q]?:=fun q j=>Y4 _ _ _ _ j;have y:w'.heap[d.b]?=w.heap[d.b]?:=r.block _ E (fun e'=>by have:=(A.lt _ e'.symm).1;omega);refine⟨k.os.trans (r.os.trans h.os),k.tape.trans (r.tape.trans h.tape),k.output.trans (r.output.trans h.output),fun q o j=>?_,h.ne,h.le,h.KH,h.tk,bad,a,v',out',?_,S6 H (fun g D _=>e g (by omega)),⟨fun q j=>?_,B⟩,F,C⟩
 .have s:=h.XH q o j;refine(e q (fun x=>by rw[x,h.ne]at j;cases j)).trans ((r.block q (Kh.1 s).1 (fun e'=>?_)).trans s);rw[t.1 q e'.symm]at j;cases j
 .show(w'.heap.modify _ _)[d.b]?=_;rw[Ox,X3 rfl,y,z];simp[dsk,dcs]
 .rcases m with m|m
  .exact t.1 q (m.symm.trans j)
  .rw[m]at j;cases j;exact h.fresh
section
variable {d:De} {S:Kz} {p c:Nat} {w:World}
theorem EH(h:WK d S p (c+1) w)(k o n:Int)(t:ByteArray)(m:Int)(hn:n<9223372036854775808):Calls prog 76 #[.pointer (some ⟨d.b,0,none⟩),.agg #[.int .i64 k,.int .i64 o,.int .i64 n,.string t,.int .i64 m]] w fun e w'=>e= .returned (.tuple #[])/\WK d ⟨S.f,S.m+1⟩ p c w':=by
 obtain⟨iN,W,A,z,y⟩:=Yk Wc;have Z:=h.KH.1;have Y:=h.le;have hl:=h.lt;have a0:(w.alloc (.cells #[.int .i64 k,.int .i64 o,.int .i64 n,.string t,.int .i64 m] 48)).heap.size=w.heap.size+1:=by simp
 have l:=h.below (bA (.cells #[.int .i64 k,.int .i64 o,.int .i64 n,.string t,.int .i64 m] 48));have g:=X1 ((l.below (bA (.cells #[.int .i64 k,.int .i64 o,.int .i64 n,.string t,.int .i64 m] 48))).below (X5 _ _).drew);obtain⟨bad,a,v,out,K,-⟩:=l.st;obtain⟨-,-,-,-,-,c5,f⟩:=Z2 K;have f5:=f 5;obtain⟨I,a',v',out',C,D,L,y4,y5⟩:=g.o.st;obtain⟨-,-,-,-,-,E,M⟩:=Z2 C;have hv:v'=v:=by
  have X:=((bA (.cells #[.int .i64 k,.int .i64 o,.int .i64 n,.string t,.int .i64 m] 48)).drew.cell (p:=⟨d.b,5,none⟩) l.lt).trans c5;exact YD (E.symm.trans X)
 subst hv;have j:some d.b≠v'.ownBlock:=fun e'=>by have:=(D.lt _ e'.symm).1;omega
 have N:=X1 C;have F:=X1 D;have H:=X1 L;have P:=X1 E;have Q:=X1 (M 5);clear h l K f C D L E M;go_enter func76,ntmps76;go_wp2_with fail;go_region_law((refine V7 rfl (.tmp 8) (.tmp 10) 23 rfl (d.b+1) 48 iN _ 5 48 underlying23 W A z y rfl (by decide) v' out'.length (Xe out') (by simp[Act.eval]) F.o ⟨w.heap.size+1,0,none⟩ 1 1 [.int .i64 k,.int .i64 o,.int .i64 n,.string t,.int .i64 m] (by simp[Act.eval]) rfl (AX _ [_,_,_,_,_] _ _ (by simp)) (by simp[Value.oneCell']) (by unfold maxLen;omega) (by omega) (by have:=g.o.lt;omega) ?_;intro v5 w5 B q r3 J;obtain⟨p5,V,rfl⟩:=XQ B;have q5:=(Xy (a:=⟨d.b,5,none⟩) (q.block d.b g.o.lt j)).trans P.o;have q6:=(KU (a:=⟨d.b,5,none⟩) (q.block d.b g.o.lt j)).trans Q.o));all_goals
  have r:=X1 B;have s:=X1 q;have u:=X1 J;clear B q r3 J;go_wp2;go_end0;refine⟨rfl,g.o.grow (out':=out'++[⟨k,o,n,t,m⟩]) N.o F.o H.o (fun x hx=>(K7.1 hx).elim (H.o.2 x) (fun h=>by rw[QZ.1 h];exact hn)) s.o ?_ u.o (by rw[Xo,JE];omega) (by rw[Xo,JE];omega)⟩;rw[Nf,Xo];exact r.o
theorem WK.less{n:Nat}(h:WK d ⟨S.f,n⟩ p c w)(g:S.m<=n):WK d S p c w:=by
 obtain⟨bad,a,v,out,j,k,l,q,r⟩:=h.st;exact⟨h.os,h.tape,h.output,h.XH,h.ne,h.le,h.KH,h.tk,bad,a,v,out,j,k,l,XO g q,r⟩
theorem Zh(h:WK d S p (c+1) w){k o n:Int}{t:ByteArray}{m:Int}(a:n<9223372036854775808):Calls prog 76 #[.pointer (some ⟨d.b,0,none⟩),.agg #[.int .i64 k,.int .i64 o,.int .i64 n,.string t,.int .i64 m]] w fun e w'=>e= .returned (.tuple #[])/\WK d S p c w':=(EH h k o n t m a).mono fun _ _ ⟨e,h⟩=>⟨e,h.less (UF _)⟩
end
def Wm(d:De)(f:FuncId)(xs:List Value)(p:Nat):Prop:=∀(S:Kz) (c:Nat) (w:World),WK d S p c w->Calls prog f (Value.pointer (some ⟨d.b,0,none⟩)::xs).toArray w (U d S p c)
def Wn(d:De)(f:FuncId)(p:Nat):Prop:=∀(S:Kz) (c:Nat) (w:World),WK d S p (c+1) w->Calls prog f #[.pointer (some ⟨d.b,0,none⟩)] w fun e w'=>∃(z:Int) (p':Nat),e= .returned (.int .i64 z)/\p<=p'/\WK d S p' c w'
def Wr(d:De)(f:FuncId)(p:Nat):Prop:=∀(S:Kz) (c:Nat) (w:World),WK d S p (c+1) w->Calls prog f #[.pointer (some ⟨d.b,0,none⟩)] w (U d S p c)
abbrev WE(d:De)(p:Nat):Prop:=Wm d 143 [] p
abbrev WO(d:De)(r:Int)(p:Nat):Prop:=Wm d 207 [.int .i64 r] p
theorem e_w{d:De}{p:Nat}(a:∀q,p<q->WE d q)(D:∀q,p<q->Wn d 141 q)(C:WO d 1 p):WE d p:=by
 intro S c w h;go_enter func143,ntmps143;go_wp2_with fail;refine(Zn h _).mono ?_;rintro e w1⟨r,rfl,⟨rfl,g⟩|⟨rfl,g⟩⟩
 .go_wp2_with fail;refine(Zn g _).mono ?_;rintro e w2⟨r,rfl,⟨rfl,z⟩|⟨rfl,z⟩⟩
  .go_wp2_with fail;refine(Zn z _).mono ?_;rintro e w3⟨r,rfl,⟨rfl,B⟩|⟨rfl,B⟩⟩
   .go_wp2_with fail;refine(C _ _ _ B).mono ?_;rintro e w4⟨rfl,p4,q4,E⟩;go_wp2;go_end0;exact⟨rfl,_,by omega,E.mono (by omega)⟩
   .go_wp2_with fail;refine(D _ (by omega) _ _ _ B).mono ?_;rintro e w5⟨z5,p5,rfl,q5,F⟩;go_wp2_with fail;refine(Z7 F _).mono ?_;rintro e w6⟨rfl,p6,q6,H⟩;go_wp2_with fail;refine(a _ (by omega) _ _ _ H).mono ?_;rintro e w7⟨rfl,p7,q7,I⟩;go_wp2_with fail;refine(Zh I (by decide)).mono ?_;rintro e w8⟨rfl,J⟩;go_wp2;go_end0;exact⟨rfl,_,by omega,J.mono (by omega)⟩
  .go_wp2_with fail;refine(a _ (by omega) _ _ _ z).mono ?_;rintro e w9⟨rfl,p9,q9,K⟩;go_wp2_with fail;refine(Z7 K _).mono ?_;rintro e a9⟨rfl,L,Z,j⟩;go_wp2_with fail;refine(a _ (by omega) _ _ _ j).mono ?_;rintro e b0⟨rfl,M,a0,k⟩;go_wp2_with fail;refine(Z7 k _).mono ?_;rintro e b1⟨rfl,N,a1,l⟩;go_wp2_with fail;refine(a _ (by omega) _ _ _ l).mono ?_;rintro e b2⟨rfl,P,a2,m⟩;go_wp2_with fail;refine(Zh m (by decide)).mono ?_;rintro e b3⟨rfl,n⟩;go_wp2;go_end0;exact⟨rfl,_,by omega,n.mono (by omega)⟩
 .go_wp2_with fail;refine(Wg g).mono ?_;rintro e b4⟨a8,Q,rfl,a3,s⟩;go_wp2_with fail;refine(Z7 s _).mono ?_;rintro e b5⟨rfl,V,a4,t⟩;go_wp2_with fail;refine(a _ (by omega) _ _ _ t).mono ?_;rintro e b6⟨rfl,W,a5,u⟩;go_wp2_with fail;refine(Z7 u _).mono ?_;rintro e b7⟨rfl,X,a6,v⟩;go_wp2_with fail;refine(a _ (by omega) _ _ _ v).mono ?_;rintro e b8⟨rfl,Y,a7,y⟩;go_wp2_with fail;refine(Zh y (by decide)).mono ?_;rintro e b9⟨rfl,A⟩;go_wp2;go_end0;exact⟨rfl,_,by omega,A.mono (by omega)⟩
theorem Y1b(o:Int)(w:World):∃z:Int,Calls prog 260 #[.int .i64 o] w fun e w'=>e= .returned (.int .i64 z)/\w'=w:=by
 by_cases a:o<=2
 .refine⟨o,?_⟩;go_enter func260,ntmps260;go_wp2;go_ret;exact⟨rfl,rfl⟩
 by_cases g:o<=9
 .refine⟨4,?_⟩;go_enter func260,ntmps260;go_wp2;go_ret;exact⟨rfl,rfl⟩
 by_cases j:o<=11
 .refine⟨5,?_⟩;go_enter func260,ntmps260;go_wp2;go_ret;exact⟨rfl,rfl⟩
 .refine⟨6,?_⟩;go_enter func260,ntmps260;go_wp2;go_ret;exact⟨rfl,rfl⟩
def MkP(w:World)(e:Ending)(w':World):Prop:=∃t,e= .returned (.string t)/\Below w.heap.size w w'
theorem Xbz(o:Nat)(w:World)(j:1<=o)(l:o<=14):Calls prog 261 #[.int .i64 o] w (MkP w):=by
 have a:=((X5 w.heap.size w).alloc (X4 _) (.cells #[.string ⟨#[]⟩,.string ⟨#[111,114]⟩,.string ⟨#[97,110,100]⟩,.string ⟨#[61,61]⟩,.string ⟨#[33,61]⟩,.string ⟨#[60]⟩,.string ⟨#[60,61]⟩,.string ⟨#[62]⟩,.string ⟨#[62,61]⟩,.string ⟨#[104,97,115]⟩,.string ⟨#[43]⟩,.string ⟨#[45]⟩,.string ⟨#[42]⟩,.string ⟨#[47]⟩,.string ⟨#[37]⟩] 9));have k:o=1\/o=2\/o=3\/o=4\/o=5\/o=6\/o=7\/o=8\/o=9\/o=10\/o=11\/o=12\/o=13\/o=14:=by omega
 have g:=X1 a;clear a j l;rcases k with rfl|rfl|rfl|rfl|rfl|rfl|rfl|rfl|rfl|rfl|rfl|rfl|rfl|rfl;all_goals
  go_enter func261,ntmps261;go_wp2;go_ret;exact⟨_,rfl,g.o⟩
theorem Xek{d:De}{S:Kz}{p c:Nat}{w:World}(h:WK d S p c w)(r:Int):Calls prog 239 #[.pointer (some ⟨d.b,0,none⟩),.int .i64 r] w fun e w'=>∃z:Int,e= .returned (.int .i64 z)/\(z≠0->p<d.ts.length)/\Below w.heap.size w w':=by
 go_enter func239,ntmps239;go_wp2_with fail;go_loopw[5] (fun t wr=>∃o:Nat,1<=o/\o<=15/\t= .int .i64 o/\BL w wr) (fun t _=>15-(intOf t).toNat)
 case atStart=>exact⟨1,by omega,by omega,rfl,X5 _ _⟩
 case round=>
  obtain⟨o,m,A,rfl,s⟩:=hrel;have l:=X1 s;clear s;by_cases y:(o:Int)<=14
  .obtain⟨z,u⟩:=Y1b o wr;have q:=X1 u;clear u;by_cases C:z=r
   .subst C;go_wp2_with fail;refine q.o.mono ?_;rintro e w1⟨rfl,rfl⟩;go_wp2_with fail;refine(Xbz o _ m (by omega)).mono ?_;rintro e D⟨t,rfl,j⟩;have a:=X1 (l.o.trans (j.mono l.o.size));clear j;go_wp2_with fail;refine(Gb (h.below a.o) _).mono ?_;rintro e E⟨v,rfl,n,k⟩;have g:=X1 (a.o.trans (k.mono a.o.size));clear k;cases v
    .go_wp2;go_roundw
     case rel=>exact⟨o+1,by omega,by omega,by go_num,g.o⟩
     case measure=>simp[intOf];omega
    .have B:=(n rfl).1;go_wp2;go_ret;exact⟨_,rfl,fun _=>B,g.o⟩
   .go_wp2_with fail;refine q.o.mono ?_;rintro e w1⟨rfl,rfl⟩;go_wp2;go_roundw
    case rel=>exact⟨o+1,by omega,by omega,by go_num,l.o⟩
    case measure=>simp[intOf];omega
  .go_wp2;go_ret;exact⟨_,rfl,fun e=>absurd rfl e,l.o⟩
def XT(ns:List Nd)(hs:List Nat)(x:Nat):Gr:=⟨ns[x]?.getD ⟨0,0,0,⟨#[]⟩,0⟩,hs[x]?.getD 0⟩
theorem Pc(ns:List Nd)(a:List Nat)(x:Nat):(XT ns a x).nd.kind=X8 ns x:=by
 unfold XT X8;cases h:ns[x]? <;> simp
theorem Tu(ns:List Nd)(a:List Nat)(ls:List Nat)(h:Nat):Zr (ls.map (XT ns a)) h=YR a ls h:=by
 induction ls generalizing h with
 | nil=>rfl
 | cons x r c=>simp only[Xu,Zr,YR];rw[c];rfl
theorem I0(ns:List Nd)(g:List Nat)(a b:Int)(ls:List Nat)(p:Int->Bool)(d:∀k,p k=(decide (a<=k)&&decide (k<=b))):XY a b (ls.map (XT ns g))=XJ ns p ls:=by
 induction ls with
 | nil=>rfl
 | cons x r c=>
  simp only[XY,Xu,List.all_cons,XJ]at c⊢;rw[c,Pc,d]
theorem N2(ns:List Nd)(ls:List Nat):XJ ns (fun k=>Xl k 1 16) ls=decide (Y7 ns ls=ls.length):=by
 induction ls with
 | nil=>rfl
 | cons x r d=>
  have g:=UH ns r;rw[Y5,Qr];have a:XJ ns (fun k=>Xl k 1 16) (x::r)=(Yy ns x&&XJ ns (fun k=>Xl k 1 16) r):=rfl;have c:Y7 ns (x::r)=(if Yy ns x=true then 1 else 0)+Y7 ns r:=rfl;rw[a,c,d,Ya,XD,Qr];by_cases h:Yy ns x=true
  .rw[X3 h];simp only[h,Le];omega
  .rw[X2 h];simp only[h,Du,false_and,false_iff];omega
theorem I7(k a b:Int):Xl k a b=(decide (a<=k)&&decide (k<=b)):=by unfold Xl;rw[Y5];simp
theorem N6(ns:List Nd)(a:List Nat)(ls:List Nat):XY 1 16 (ls.map (XT ns a))=decide (Y7 ns ls=ls.length):=by
 rw[I0 ns a 1 16 ls (fun k=>Xl k 1 16) (fun k=>I7 k 1 16),N2]
theorem LD(ns:List Nd)(c:List Nat)(a:Int)(ls:List Nat):XY a a (ls.map (XT ns c))=XJ ns (fun k=>k==a) ls:=I0 ns c a a ls _ fun k=>by rw[Y5];simp;omega
theorem Ab(ns:List Nd)(l:List Nat)(ls:List Nat)(d:∀x∈ls,x<ns.length):Qn (ls.map (XT ns l))=J9 ns ls:=by
 unfold Qn J9;rw[Y5,Qr,Qr,Wz,SY,SZ,List.pairwise_iff_getElem];have a:∀i (h:i<ls.length),ns[ls[i]]?.map (·.text)=some (XT ns l ls[i]).nd.text:=by
  intro i h;have:=d _ (XR h);simp[XT,this]
 constructor
 .intro h i hi k m e;rw[a i hi,a k (by omega)]at e;exact h k i (by omega) hi m (YD e)
 .intro h i j hi g c e;refine h j g i c ?_;rw[a j g,a i hi];exact Zd some e
theorem Al(ns:List Nd)(ls:List Nat):YI ns ls<=ls.length:=by
 induction ls with
 | nil=>exact X4 _
 | cons x r a=>simp only[YI,Ya];split<;>omega
theorem Nx(ns:List Nd)(ls:List Nat):XJ ns (fun k=>Xl k 1 16) (ls.take (YI ns ls))=true:=by
 induction ls with
 | nil=>rfl
 | cons x r c=>
  simp only[YI];by_cases h:Yy ns x=true
  .rw[X3 h,VV,UE,XJ,c];have a:Xl (X8 ns x) 1 16=true:=h;rw[a];rfl
  .rw[X2 h];rfl
theorem Nv(ns:List Nd)(ls:List Nat)(p:Nat)(a:p<=ls.length)(c:XJ ns (fun k=>Xl k 1 16) (ls.take p)=true)(d:XJ ns (fun k=>k==18) (ls.drop p)=true):YI ns ls=p:=by
 induction ls generalizing p with
 | nil=>simp at a;subst a;rfl
 | cons x r j=>
  match p,a with
  | 0,_=>
   simp only[Qm,XJ,XD,JP]at d;have:Yy ns x=false:=by unfold Yy;rw[d.1];rfl
   simp[YI,this]
  | p+1,a=>
   simp only[UE,XJ,XD]at c;have g:Yy ns x=true:=c.1;have:=j p (by simpa using a) c.2 (by simpa using d);simp[YI,g,this];omega
theorem TT(ns:List Nd)(a:List Nat)(ls:List Nat):((ls.map (XT ns a)).takeWhile fun g=>g.nd.kind !=18).length=(ls.takeWhile fun x=>X8 ns x !=18).length:=by
 induction ls with
 | nil=>rfl
 | cons x r c=>
  simp only[Xu,DF,Pc];cases(X8 ns x !=18)
  .rfl
  .simp[c]
theorem TS(ns:List Nd)(ls:List Nat)(p:Nat)(a:p<=ls.length)(c:XJ ns (fun k=>Xl k 1 16) (ls.take p)=true)(d:XJ ns (fun k=>k==18) (ls.drop p)=true):(ls.takeWhile fun x=>X8 ns x !=18).length=p:=by
 induction ls generalizing p with
 | nil=>simp at a;subst a;rfl
 | cons x r j=>
  match p,a with
  | 0,_=>
   simp only[Qm,XJ,XD,JP]at d;simp[d.1]
  | p+1,a=>
   simp only[UE,XJ,XD]at c;have:=j p (by simpa using a) c.2 (by simpa using d);have g:(X8 ns x !=18)=true:=by
    have:=Ua c.1;rw[LX];omega
   simp[g,this]
theorem N9(ns:List Nd)(d:List Nat)(ls:List Nat)(l:∀x∈ls,x<ns.length)(n:1<=ls.length): (XY 1 16 ((ls.map (XT ns d)).take (Kl (ls.map (XT ns d))))&&XY 18 18 ((ls.map (XT ns d)).drop (Kl (ls.map (XT ns d))))&&Qn ((ls.map (XT ns d)).drop (Kl (ls.map (XT ns d))))) = (XJ ns (fun x=>x==18) (ls.drop (YI ns ls))&&decide (1<=(YI ns ls:Int))&&J9 ns (ls.drop (YI ns ls))):=by
 obtain⟨x,r,rfl⟩:∃x r,ls=x::r:=by
  cases ls with
  | nil=>simp at n
  | cons x r=>exact⟨x,r,rfl⟩
 have s:Kl ((x::r).map (XT ns d))=1+(r.takeWhile fun x=>X8 ns x !=18).length:=by
  unfold Kl;rw[Xu,List.drop_one,List.tail_cons,TT]
 rw[s,←J7,←QB];generalize t:(r.takeWhile fun x=>X8 ns x !=18).length=q;have u:q<=r.length:=by rw[←t];exact(List.takeWhile_sublist _).length_le
 rw[I0 ns d 1 16 _ (fun k=>Xl k 1 16) (fun k=>I7 k 1 16),LD,Ab ns d _ (fun y v=>l y (KQ v))];rw[Y5];simp only[XD,Qr];constructor
 .rintro⟨⟨a,b⟩,c⟩;have e:=Nv ns (x::r) (1+q) (by simp;omega) a b;rw[e];exact⟨⟨b,by omega⟩,c⟩
 .rintro⟨⟨a,b⟩,c⟩;have m:=Al ns (x::r);have g:=Nx ns (x::r);have e:1+q=YI ns (x::r):=by
   obtain⟨f,j⟩:∃f,YI ns (x::r)=f+1:=⟨YI ns (x::r)-1,by omega⟩;rw[j]at g a m;simp only[UE,XJ,XD]at g;have:=TS ns r f (by simpa using m) g.2 (by simpa using a);omega
  rw[e];exact⟨⟨g,a⟩,c⟩
theorem To(ns:List Nd)(a:List Nat)(ls:List Nat)(g:1<=ls.length): (XY 19 19 ((ls.map (XT ns a)).take (ls.length-1))&&XY 1 16 ((ls.map (XT ns a)).drop (ls.length-1))) = (XJ ns (fun x=>x==19) ls.dropLast&&(ls.getLast?.map (Yy ns)==some true)):=by
 have hne:ls≠[]:=by intro e;simp[e]at g
 have c:ls.take (ls.length-1)=ls.dropLast:=(List.dropLast_eq_take).symm;have d:ls.drop (ls.length-1)=[ls.getLast hne]:=by
  rw[Zp (by omega),Yu (by omega),List.getLast_eq_getElem]
 rw[←J7,←QB,c,d,LD,I0 ns a 1 16 _ (fun k=>Xl k 1 16) (fun k=>I7 k 1 16),Hi hne];congr 1;simp only[XJ,Bool.and_true,Vi];unfold Yy;cases Xl (X8 ns (ls.getLast hne)) 1 16<;>rfl
theorem Tt(ns:List Nd)(a:List Nat)(k:Int)(ls:List Nat)(s:∀x∈ls,x<ns.length):(Qb k ls.length&&YE k (ls.map (XT ns a)))=XA ns k ls:=by
 have H:=UH ns ls;by_cases u:k=9
 .subst u;have c:Qb 9 ls.length=decide (0<=(ls.length:Int)/\(ls.length:Int)<=200):=rfl;have f:YE 9 (ls.map (XT ns a))=(XY 17 17 (ls.map (XT ns a))&&Qn (ls.map (XT ns a))):=rfl;have g:XA ns 9 ls=(XJ ns (fun x=>x==17) ls&&decide ((ls.length:Int)<=200)&&J9 ns ls):=rfl;rw[c,f,g,LD,Ab ns a ls s];rw[Y5];simp;grind
 by_cases m:k=12
 .subst m;have c:Qb 12 ls.length=decide (1<=(ls.length:Int)/\(ls.length:Int)<=9):=rfl;have g:XA ns 12 ls=(XJ ns (fun x=>x==18) (ls.drop (YI ns ls))&&decide (1<=(YI ns ls:Int))&&decide ((ls.length:Int)-1<=8)&&J9 ns (ls.drop (YI ns ls))):=rfl;have I:=Al ns ls;by_cases t:1<=ls.length
  .have q:=N9 ns a ls s t;have f:YE 12 (ls.map (XT ns a))=(XY 1 16 ((ls.map (XT ns a)).take (Kl (ls.map (XT ns a))))&&XY 18 18 ((ls.map (XT ns a)).drop (Kl (ls.map (XT ns a))))&&Qn ((ls.map (XT ns a)).drop (Kl (ls.map (XT ns a))))):=rfl;rw[c,f,g,q];have l:decide (1<=(ls.length:Int)/\(ls.length:Int)<=9)=decide ((ls.length:Int)-1<=8):=by rw[Y5];simp;omega
   rw[l];cases decide ((ls.length:Int)-1<=8)<;>simp
  .have l:decide (1<=(ls.length:Int)/\(ls.length:Int)<=9)=false:=by simp;omega
   have F:decide (1<=(YI ns ls:Int))=false:=by simp;omega
   rw[c,g,l,F];simp
 by_cases d:k=15\/k=20
 .have c:Qb k ls.length=decide (1<=(ls.length:Int)/\(ls.length:Int)<=9):=by rcases d with rfl|rfl<;>rfl
  have g:XA ns k ls=(XJ ns (fun x=>x==19) ls.dropLast&&(ls.getLast?.map (Yy ns)==some true)&&decide ((ls.length:Int)-1<=8)):=by rcases d with rfl|rfl<;>rfl
  have f:YE k (ls.map (XT ns a))=(XY 19 19 ((ls.map (XT ns a)).take ((ls.map (XT ns a)).length-1))&&XY 1 16 ((ls.map (XT ns a)).drop ((ls.map (XT ns a)).length-1))):=by rcases d with rfl|rfl<;>rfl
  rw[Z9]at f;by_cases t:1<=ls.length
  .rw[c,f,g,To ns a ls t];have l:decide (1<=(ls.length:Int)/\(ls.length:Int)<=9)=decide ((ls.length:Int)-1<=8):=by rw[Y5];simp;omega
   rw[l];cases decide ((ls.length:Int)-1<=8)<;>simp
  .have l:decide (1<=(ls.length:Int)/\(ls.length:Int)<=9)=false:=by simp;omega
   have E:ls=[]:=JC (by omega);rw[c,g,l,E];simp
 by_cases n:k=23
 .subst n;have c:Qb 23 ls.length=decide (1<=(ls.length:Int)/\(ls.length:Int)<=200):=rfl;have f:YE 23 (ls.map (XT ns a))=XY 5 5 (ls.map (XT ns a)):=rfl;have g:XA ns 23 ls=(XJ ns (fun x=>x==5) ls&&Xl ls.length 1 200):=rfl;rw[c,f,g,LD,I7,Bool.decide_and,Bool.and_comm]
 by_cases r:k=24
 .subst r;have c:Qb 24 ls.length=decide (0<=(ls.length:Int)/\(ls.length:Int)<=200):=rfl;have f:YE 24 (ls.map (XT ns a))=XY 20 23 (ls.map (XT ns a)):=rfl;have g:XA ns 24 ls=(XJ ns (fun x=>Xl x 20 23) ls&&decide ((ls.length:Int)<=200)):=rfl;rw[c,f,g,I0 ns a 20 23 _ (fun k=>Xl k 20 23) (fun k=>I7 k 20 23)];rw[Y5];simp;grind
 have f:YE k (ls.map (XT ns a))=decide (Y7 ns ls=ls.length):=by
  unfold YE;rw[X2 u,X2 m,X2 d,X2 n,X2 r,N6]
 rw[f];unfold Qb XA;simp only[u,m,n,r,JR,false_or,Zy];have j:=not_or.1 d;simp only[j.1,j.2,JR,or_self];by_cases v:k=1\/k=2\/k=3\/k=4\/k=5
 .simp only[v,J2];rw[Y5];simp only[XD,Qr];omega
 simp only[v,JR];by_cases y:k=6\/k=11\/k=17\/k=18\/k=21\/k=22
 .simp only[y,J2];rw[Y5];simp only[XD,Qr];omega
 simp only[y,JR];by_cases z:k=7\/k=10\/k=14
 .simp only[z,J2];rw[Y5];simp only[XD,Qr];omega
 simp only[z,JR];by_cases A:k=13
 .simp only[A,J2];rw[Y5];simp only[XD,Qr];omega
 simp only[A,JR];by_cases B:k=16
 .simp only[B,J2];rw[Y5];simp only[XD,Qr];omega
 simp only[B,JR];by_cases C:k=19
 .simp only[C,J2];rw[Y5];simp only[XD,Qr];omega
 simp only[C,JR];by_cases D:k=8
 .simp only[D,J2];rw[Y5];simp only[XD,Qr];omega
 simp only[D,JR];rw[Y5];simp only[XD,Qr,Du,iff_false];omega
