import Derived.Test.YtaeafhenpjnhiaaGreatDoorE01
import Derived.Deep.RegionLaw
import Derived.Laws.Bits64
import Derived.OwnWalk
set_option maxHeartbeats 2000000
set_option maxRecDepth 100000
namespace Go.Proofs.YtaeafhenpjnhiaaGreatDoor
open Tryz Go.RowKit
def Bs:Type:=Nat
abbrev LB:=Inhabited Bs
def Ji[h:LB]:Nat:=h.default
def Xav:Obj->Option TypeId
 | .cells _ t _=>some t
 | _=>none
def Xo(w:World)(q:Nat):Option TypeId:=(w.heap[q]?).bind Xav
theorem KI[LB]{w w':World}{q:Nat}(h:w'.heap[q]?=w.heap[q]?):Xo w' q=Xo w q:=by unfold Xo;rw[h]
theorem Wh[LB](w:World)(a:Addr)(v:Value)(q:Nat):Xo (w.setCell a v) q=Xo w q:=by
 unfold Xo World.setCell;simp only[Array.getElem?_modify];by_cases h:a.block=q
 .rw[Xa h];cases w.heap[q]? with
  | none=>rfl
  | some o=>cases o<;>rfl
 .rw[X6 h]
theorem M3[LB](w:World)(cs:Array Value)(t:TypeId):Xo (w.alloc (.cells cs t)) w.heap.size=some t:=by unfold Xo;rw[YV];rfl
structure Dr (rb:Nat) (w w':World):Prop where
 os:w'.os=w.os
 tape:w'.tape=w.tape
 output:w'.output=w.output
 size:w.heap.size<=w'.heap.size
 block:∀b,b<w.heap.size->b≠rb->w'.heap[b]?=w.heap[b]?
theorem Dr.trans[LB]{rb:Nat}{w j k:World}(a:Dr rb w j)(b:Dr rb j k):Dr rb w k:=⟨b.os.trans a.os,b.tape.trans a.tape,b.output.trans a.output,Xz a.size b.size,fun q d g=>(b.block q (XH d a.size) g).trans (a.block q d g)⟩
theorem Dr.of[LB]{rb:Nat}{w w':World}(h:BL w w'):Dr rb w w':=⟨h.os,h.tape,h.output,h.size,fun b a _=>h.block b a⟩
theorem Dr.set[LB](rb:Nat)(w:World)(o:Nat)(v:Value):Dr rb w (w.setCell ⟨rb,o,none⟩ v):=by
 have h:=(X8 0 w).setCell (p:=⟨rb,o,none⟩) (Xb _) v;exact⟨h.os,h.tape,h.output,h.size,fun b _ a=>Y0 _ _ _ _ a⟩
structure Rd [LB] (w:World) (rb:Nat) (vb:Value) (n p:Nat):Prop where
 c0:w.cell? ⟨rb,0,none⟩=some vb
 c1:w.cell? ⟨rb,1,none⟩=some (.q (p:Int))
 f1:w.frozen? ⟨rb,1,none⟩=false
 ty:Xo w rb=some 83
 lo:Ji<=rb
 by_:(∃q c,vb= .slice q 0 c/\n=0)\/∃g o c,vb= .slice (some ⟨g,o,none⟩) n c/\0<n/\n<=2000/\g<rb/\∀i,i<n->∃k:Nat,k<256/\w.cell? ⟨g,o+i,none⟩=some (.int .u8 (k:Int))
theorem Rd.own[LB]{w:World}{rb:Nat}{vb:Value}{n p:Nat}(h:Rd w rb vb n p):Xo w rb=some 83/\Ji<=rb:=⟨h.ty,h.lo⟩
theorem Rd.lt[LB]{w:World}{rb:Nat}{vb:Value}{n p:Nat}(h:Rd w rb vb n p):rb<w.heap.size:=QE w ⟨rb,0,none⟩ h.c0
theorem Rd.set[LB]{w:World}{rb:Nat}{vb:Value}{n p:Nat}(h:Rd w rb vb n p)(q:Nat):Rd (w.setCell ⟨rb,1,none⟩ (.q (q:Int))) rb vb n q:=by
 refine⟨(Zt _ _ _ _ (by simp)).trans h.c0,Qk _ _ _ h.c1,by simpa using h.f1,by rw[Wh];exact h.ty,h.lo,?_⟩;rcases h.by_ with h|⟨g,o,c,d,j,m,a,r⟩
 .exact .inl h
 .refine .inr ⟨g,o,c,d,j,m,a,fun i hi=>?_⟩;obtain⟨k,u,s⟩:=r i hi;exact⟨k,u,(Zt _ _ _ _ (fun e=>Nat.ne_of_lt a (Yt Addr.block e).symm)).trans s⟩
theorem Rd.Zi[LB]{w w':World}{rb:Nat}{vb:Value}{n p:Nat}(h:Rd w rb vb n p)(a:BL w w'):Rd w' rb vb n p:=by
 have d:=h.lt;refine⟨(a.cell (p:=⟨rb,0,none⟩) d).trans h.c0,(a.cell (p:=⟨rb,1,none⟩) d).trans h.c1,(a.frozen (p:=⟨rb,1,none⟩) d).trans h.f1,(KI (a.block rb d)).trans h.ty,h.lo,?_⟩;rcases h.by_ with h|⟨g,o,c,j,m,r,s,u⟩
 .exact .inl h
 .refine .inr ⟨g,o,c,j,m,r,s,fun i hi=>?_⟩;obtain⟨k,y,v⟩:=u i hi;exact⟨k,y,(a.cell (p:=⟨g,o+i,none⟩) (by show g<_;omega)).trans v⟩
theorem T5[LB](a b:Nat)(j:a<4611686018427387904)(k:b<4611686018427387904):bits .xor .i64 (a:Int) (b:Int)=((a ^^^ b:Nat):Int):=by
 have m:a ^^^ b<2 ^ 62:=Nat.xor_lt_two_pow (by omega) (by omega);have d:(BitVec.ofInt 64 (a:Int)).toNat=a:=by
  rw[BitVec.ofInt_natCast,BitVec.toNat_ofNat];exact Nat.mod_eq_of_lt (by omega)
 have g:(BitVec.ofInt 64 (b:Int)).toNat=b:=by
  rw[BitVec.ofInt_natCast,BitVec.toNat_ofNat];exact Nat.mod_eq_of_lt (by omega)
 show IntKind.i64.wrap ((BitVec.ofInt 64 (a:Int) ^^^ BitVec.ofInt 64 (b:Int)).toNat:Int)=_;rw[BitVec.toNat_xor,d,g];generalize a ^^^ b=x at *;rw[Yp];omega
def F4[LB](rb:Nat)(vb:Value)(n p:Nat)(m:Int)(w:World)(e:Ending)(w':World):Prop:=∃z:Nat,(z:Int)<m/\e= .returned (.q (z:Int))/\Rd w' rb vb n (p+1)/\Dr rb w w'
theorem LG[LB](rb n p:Nat)(vb:Value)(m:Int)(w:World)(h:Rd w rb vb n p)(hp:p<=1000000000)(hm:1<=m)(S:m<=1000000): Calls prog 22 #[.p rb,.q m] w (F4 rb vb n p m w):=by
 have K:=h.c0;have c1:=h.c1;have f1:=h.f1;have Q:¬m<1:=by omega
 rcases h.by_ with⟨q,c,rfl,U⟩|⟨g,o,c,rfl,r,V,J,I⟩
 .subst U;go_enter func22,ntmps22;go_wp2;go_ret;exact⟨0,by omega,rfl,h.set (p+1),Dr.set _ _ _ _⟩
 .have s:=X1 I;clear I;by_cases O:p<n
  .obtain⟨k,C,E⟩:=s.o p O;go_enter func22,ntmps22;go_wp2;go_ret;have F:0<=(k:Int)%m:=Int.emod_nonneg _ (by omega);have Z:(k:Int)%m<m:=Int.emod_lt_of_pos _ (by omega);exact⟨((k:Int)%m).toNat,by omega,by rw[Rk F];rfl,h.set (p+1),Dr.set _ _ _ _⟩
  .have A:p%n<n:=Wt _ r;have B:(p*7+3)%n<n:=Wt _ r;obtain⟨a,C,u⟩:=s.o _ A;obtain⟨d,E,v⟩:=s.o _ B;have e1:(p:Int)%(n:Int)=((p%n:Nat):Int):=by simp
   have e2:((p:Int)*7+3)%(n:Int)=(((p*7+3)%n:Nat):Int):=by simp
   have e3:(p:Int) / (n:Int)=((p / n:Nat):Int):=by simp
   have N:p / n<=p:=Nat.div_le_self _ _;generalize p%n=W at *;generalize(p*7+3)%n=X at *;generalize p / n=j at *;have d0:(w.setCell ⟨rb,1,none⟩ (.q ((p:Int)+1))).cell? ⟨rb,0,none⟩=some (.slice (some ⟨g,o,none⟩) n c):=(Zt _ _ _ _ (by simp)).trans K;have d1:(w.setCell ⟨rb,1,none⟩ (.q ((p:Int)+1))).cell? ⟨g,o+W,none⟩=some (.int .u8 (a:Int)):=(Zt _ _ _ _ (fun e=>Nat.ne_of_lt J (Yt Addr.block e).symm)).trans u;have d2:(w.setCell ⟨rb,1,none⟩ (.q ((p:Int)+1))).cell? ⟨g,o+X,none⟩=some (.int .u8 (d:Int)):=(Zt _ _ _ _ (fun e=>Nat.ne_of_lt J (Yt Addr.block e).symm)).trans v;have H:((a:Int)*131+(d:Int)*1117+(p:Int)*29+(j:Int)*53)=((a*131+d*1117+p*29+j*53:Nat):Int):=by omega
   have e4:bits .xor .i64 ((a:Int)*131+(d:Int)*1117+(p:Int)*29+(j:Int)*53) (((a:Int)*131+(d:Int)*1117+(p:Int)*29+(j:Int)*53) / 64)=(((a*131+d*1117+p*29+j*53) ^^^ (a*131+d*1117+p*29+j*53) / 64:Nat):Int):=by
    rw[H];have:=T5 (a*131+d*1117+p*29+j*53) ((a*131+d*1117+p*29+j*53) / 64) (by omega) (by omega);rw[←this];congr 1
   generalize((a*131+d*1117+p*29+j*53) ^^^ (a*131+d*1117+p*29+j*53) / 64)=y at *;clear H;have L:=X1 (h.set (p+1));clear h;go_enter func22,ntmps22;go_wp2;go_quiet(fail);go_wp2;go_ret;have F:0<=(y:Int)%m:=Int.emod_nonneg _ (by omega);have Z:(y:Int)%m<m:=Int.emod_lt_of_pos _ (by omega);exact⟨((y:Int)%m).toNat,by omega,by rw[Rk F];rfl,L.o.Zi (below_drewN (X8 _ _) _),(Dr.set _ _ _ _).trans (Dr.of (below_drewN (X8 _ _) _))⟩
theorem Ca[LB](rb n p:Nat)(vb:Value)(w:World)(h:Rd w rb vb n p)(j:p<=1000000000): Calls prog 22 #[.p rb,.q 0] w fun e w'=>e= .returned (.q 0)/\Rd w' rb vb n (p+1)/\Dr rb w w':=by
 have a:=h.c0;have d:=h.c1;have g:=h.f1;go_enter func22,ntmps22;go_wp2;go_ret;exact⟨rfl,h.set (p+1),Dr.set _ _ _ _⟩
abbrev XJ:={s:ByteArray // s.size<=1000000}
theorem XJ.le[LB](s:XJ):s.val.size<=1000000:=s.2
theorem AD[LB](a b j:Nat)(h:j%2=1):(b+a)+(a+a)*(j / 2)=b+a*j:=by
 have e:j=2*(j / 2)+1:=by omega
 generalize j / 2=k at *;subst e;rw[Nat.mul_add,Ws,Nat.mul_one,Nat.mul_comm 2 k,←Nat.mul_assoc,Nat.mul_two];omega
theorem AB[LB](a j:Nat)(h:¬j%2=1):(a+a)*(j / 2)=a*j:=by
 have e:j=2*(j / 2):=by omega
 generalize j / 2=k at *;subst e;rw[Ws,Nat.mul_comm 2 k,←Nat.mul_assoc,Nat.mul_two]
theorem X9k[LB](s:ByteArray)(n:Nat)(w:World)(A:n<=1000000)(F:s.size*n<=1000000): Calls prog 23 #[.string s,.q (n:Int)] w fun e w'=>∃t:XJ,e= .returned (.string t)/\w'=w:=by
 go_enter func23,ntmps23;go_wp2;go_loop[0,1,5] (fun a t o=>∃(j:Nat) (x y:ByteArray),j<=n/\a= .string x/\t= .q (j:Int)/\o= .string y/\y.size+x.size*j<=1000000) (fun _ t _=>(intOf t).toNat)
 case atStart=>exact⟨n,s,_,X5 _,rfl,rfl,rfl,by show 0+s.size*n<=1000000;omega⟩
 case round=>
  obtain⟨j,x,y,E,rfl,rfl,rfl,r⟩:=hrel;by_cases v:0<j
  .have g:x.size<=x.size*j:=Nat.le_mul_of_pos_right _ v;have B:x.size<=1000000:=by omega
   have C:y.size<=1000000:=by omega
   have k:=X1 r;clear r g;by_cases m:j%2=1
   .have d:=X1 (AD x.size y.size j m);have u:(j:Int)%2=1:=by omega
    go_wp2;go_round
    case rel=>exact⟨j / 2,_,_,by omega,rfl,by go_num,rfl,by rw[KA,KA,d.o];exact k.o⟩
    case measure=>simp[intOf];omega
   .have d:=X1 (AB x.size j m);have u:((j:Int)%2==1)=false:=by simp;omega
    go_wp2;go_round
    case rel=>exact⟨j / 2,_,_,by omega,rfl,by go_num,rfl,by rw[KA,d.o];exact k.o⟩
    case measure=>simp[intOf];omega
  .go_wp2;go_ret;exact⟨⟨y,by omega,rfl⟩,rfl⟩
def FH[LB](rb:Nat)(vb:Value)(n p k:Nat)(w:World)(e:Ending)(w':World):Prop:=∃(t:XJ) (q:Nat),e= .returned (.string t)/\q<=p+k/\Rd w' rb vb n q/\Dr rb w w'
theorem TZ[LB](rb n p:Nat)(vb:Value)(w:World)(h:Rd w rb vb n p)(Q:p<=999999000): Calls prog 133 #[.p rb] w (FH rb vb n p 7 w):=by
 have y:=X1 (fun p w (h:Rd w rb vb n p) (Q:p<=1000000000) m (C:1<=m) (S:m<=1000000)=>LG rb n p vb m w h Q C S);have I:=X1 h;clear h;go_enter func133,ntmps133;go_wp2_with fail;go_fit(y.o p _ I.o (by omega) 10 (by omega) (by omega));rintro e w1⟨z,hz,rfl,J,E⟩;have g:=X1 J;have a:=X1 E;clear J E I;go_wp2_with fail
 all_goals first
  | (go_ret;exact⟨⟨_,by exact YM rfl⟩,p+1,rfl,by omega,g.o,a.o⟩)
  | skip
 go_fit(y.o (p+1) _ g.o (by omega) 4 (by omega) (by omega));rintro e w2⟨r,X,rfl,K,F⟩;have A:=X1 K;have u:=X1 (a.o.trans F);clear K F g a;go_wp2_with fail;go_loopw[3,4] (fun o t wr=>∃(j q:Nat) (x:ByteArray),o= .string x/\t= .q ((j:Int)-1)/\x.size+j<=5/\j<=r+1/\q+j<=p+3+r/\Rd wr rb vb n q/\Dr rb w wr) (fun _ t _=>(intOf t+1).toNat)
 case atStart=>exact⟨r+1,p+1+1,_,rfl,by congr 1;omega,by show 0+(r+1)<=5;omega,by omega,by omega,A.o,u.o⟩
 case round=>
  obtain⟨j,q,x,rfl,rfl,W,hj,hq,O,N⟩:=hrel;have V:x.size<=5:=by omega
  have k:=X1 O;have d:=X1 N;clear O N;by_cases h0:1<=j
  .have C:(0:Int)<=(j:Int)-1:=by omega
   go_wp2_with fail;go_fit(y.o q _ k.o (by omega) 4 (by omega) (by omega));rintro e w4⟨s,Z,rfl,L,H⟩;have B:=X1 L;have v:=X1 (d.o.trans H);clear L H k d;have U:s=0\/s=1\/s=2\/s=3:=by omega
   rcases U with rfl|rfl|rfl|rfl;all_goals
    go_wp2;go_roundw
    case rel=>exact⟨j-1,q+1,_,rfl,by congr 1;omega,by rw[KA];show x.size+1+(j-1)<=5;omega,by omega,by omega,B.o,v.o⟩
    case measure=>simp[intOf];omega
  .have C:¬(0:Int)<=(j:Int)-1:=by omega
   go_wp2;go_ret;exact⟨⟨x,by omega⟩,q,rfl,by omega,k.o,d.o⟩
def ByV(w:World)(v:Value)(n:Nat):Prop:=(∃q c,v= .slice q 0 c/\n=0)\/∃g o c,v= .slice (some ⟨g,o,none⟩) n c/\0<n/\n<=c/\g<w.heap.size/\∀i,i<n->∃k:Nat,k<256/\w.cell? ⟨g,o+i,none⟩=some (.int .u8 (k:Int))
def F1[LB](w:World)(e:Ending)(w':World):Prop:=∃rb vb n,e= .returned (.p rb)/\w.heap.size<=rb/\Rd w' rb vb n 0/\Below w.heap.size w w'
theorem C4[LB](n:Nat)(v:Value)(w:World)(h:ByV w v n)(d:Ji<=w.heap.size):Calls prog 13 #[v] w (F1 w):=by
 rcases h with⟨q,c,rfl,rfl⟩|⟨g,o,c,rfl,A,B,u,r⟩
 .go_enter func13,ntmps13;go_wp2;go_ret;refine⟨w.heap.size,.slice q 0 c,0,rfl,X5 _,⟨by simp,by simp,by simp,M3 _ _ _,d,.inl ⟨q,c,rfl,rfl⟩⟩,bA _⟩
 .have s:=X1 r;clear r;have a:∀(X:Obj) (m:Nat),m<=n->∀i,i<m->∃k:Nat,k<256/\(w.alloc X).cell? ⟨g,o+i,none⟩=some (.int .u8 (k:Int)):=fun X m hm i hi=>by
   obtain⟨k,a,y⟩:=s.o i (by omega);exact⟨k,a,(((X8 w.heap.size w).alloc (X5 _) X).cell (p:=⟨g,o+i,none⟩) u).trans y⟩
  have j:=X1 a;clear a;by_cases C:(2000:Int)<(n:Int)
  .go_enter func13,ntmps13;go_wp2;go_ret;refine⟨w.heap.size,.slice (some ⟨g,o,none⟩) 2000 c,2000,rfl,X5 _,⟨by simp,by simp,by simp,M3 _ _ _,d,.inr ⟨g,o,c,rfl,by omega,by omega,by omega,j.o _ 2000 (by omega)⟩⟩,bA _⟩
  .go_enter func13,ntmps13;go_wp2;go_ret;refine⟨w.heap.size,.slice (some ⟨g,o,none⟩) n c,n,rfl,X5 _,⟨by simp,by simp,by simp,M3 _ _ _,d,.inr ⟨g,o,c,rfl,by omega,by omega,by omega,j.o _ n (by omega)⟩⟩,bA _⟩
def XL(t:Option TypeId):Prop:=t=some 83\/t=some 128\/t=some 171
def V3(t:Option TypeId):Prop:=XL t\/t=some 181
structure TyM [LB] (M:Option TypeId->Prop) (w w':World):Prop where
 os:w'.os=w.os
 tape:w'.tape=w.tape
 output:w'.output=w.output
 size:w.heap.size<=w'.heap.size
 block:∀q,q<w.heap.size->¬M (Xo w q)->w'.heap[q]?=w.heap[q]?
 two:¬M (some 181)->∀q,q<w.heap.size->Xo w q=some 128->Xo w' q=some 128/\w'.cell? ⟨q,2,none⟩=w.cell? ⟨q,2,none⟩
 old:∀q,q<w.heap.size->q<Ji->w'.heap[q]?=w.heap[q]?
abbrev Ty[LB]:=TyM XL
abbrev Tf[LB]:=TyM V3
section
variable {M:Option TypeId->Prop}
theorem TyM.refl[LB](w:World):TyM M w w:=⟨rfl,rfl,rfl,X5 _,fun _ _ _=>rfl,fun _ _ _ h=>⟨h,rfl⟩,fun _ _ _=>rfl⟩
theorem TyM.trans[LB]{w k m:World}(a:TyM M w k)(b:TyM M k m):TyM M w m:=
 ⟨b.os.trans a.os,b.tape.trans a.tape,b.output.trans a.output,Xz a.size b.size,fun q d g=>(b.block q (XH d a.size) (by rw[KI (a.block q d g)];exact g)).trans (a.block q d g),fun j q d g=>by
  obtain⟨n,r⟩:=a.two j q d g;obtain⟨s,u⟩:=b.two j q (XH d a.size) n;exact⟨s,u.trans r⟩,fun q d g=>(b.old q (XH d a.size) g).trans (a.old q d g)⟩
theorem TyM.of[LB]{w w':World}(h:BL w w'):TyM M w w':=⟨h.os,h.tape,h.output,h.size,fun b g _=>h.block b g,fun _ q a d=>⟨(KI (h.block q a)).trans d,h.cell (p:=⟨q,2,none⟩) a⟩,fun q a _=>h.block q a⟩
theorem TyM.set[LB]{w:World}{b o:Nat}{v:Value}(h:M (Xo w b)/\Ji<=b)(g:o≠2):TyM M w (w.setCell ⟨b,o,none⟩ v):=by
 have k:=(X8 0 w).setCell (p:=⟨b,o,none⟩) (Xb _) v;exact⟨k.os,k.tape,k.output,k.size,fun q _ d=>Y0 _ _ _ _ (fun e=>d (by rw[e];exact h.1)),fun _ q _ a=>⟨by rw[Wh];exact a,Zt _ _ _ _ (fun e=>g (Yt Addr.off e))⟩,fun q _ d=>Y0 _ _ _ _ (fun e=>by have a:=h.2;have j:q=b:=e;omega)⟩
theorem TyM.grown[LB]{w w':World}{row:Option Nat}(d:w.grownBy w' row)(n:∀q,row=some q->M (Xo w q))(m:∀q,row=some q->Xo w q≠some 128)(k:∀q,row=some q->Ji<=q):TyM M w w':=
 ⟨d.os,d.tape,d.output,d.size,fun q g j=>d.block q g (fun e=>j (n q e.symm)),fun _ q g j=>by
  have e:=d.block q g (fun e=>m q e.symm j);exact⟨(KI e).trans j,XQ (a:=⟨q,2,none⟩) e⟩,fun q g j=>d.block q g (fun e=>by have:=k q e.symm;omega)⟩
theorem Kz[LB]{w w':World}{base size:Nat}{e:TypeId}{v:Value}{n:Nat}{k:List Value}(h:w.ownsRow base e size v n k)(u:∀q,q<w.heap.size->Xo w q=some e->w'.heap[q]?=w.heap[q]?):w'.ownsRow base e size v n k:=by
 refine⟨h.1,?_⟩;rcases h.2 with m|⟨d,a,j,A,r,g,s⟩
 .exact .inl m
 .have y:d<w.heap.size:=by
   rcases V5 d w.heap.size with h|h
   .exact h
   .rw[Wm h]at g;cases g
  exact .inr ⟨d,a,j,A,r,(u d y (by unfold Xo;rw[g];rfl)).trans g,s⟩
theorem Yz[LB]{w w':World}{base size:Nat}{e:TypeId}{v:Value}{n:Nat}{a:List Value}(h:w.ownsRow base e size v n a)(d:TyM M w w')(g:¬M (some e)):w'.ownsRow base e size v n a:=Kz h (fun q j k=>d.block q j (by rw[k];exact g))
theorem KH[LB]{w:World}{base size:Nat}{e:TypeId}{v:Value}{n:Nat}{r:List Value}(h:w.ownsRow base e size v n r){q:Nat}(a:v.ownBlock=some q):Xo w q=some e:=by
 rcases h.2 with⟨j,_⟩|⟨s,d,g,m,u,k,y⟩
 .rw[j]at a;cases a
 .rw[m]at a;cases a;unfold Xo;rw[k];rfl
end
theorem Ty.tf[LB]{w w':World}(h:Ty w w'):Tf w w':=⟨h.os,h.tape,h.output,h.size,fun q a d=>h.block q a (fun e=>d (.inl e)),fun g=>absurd (.inr rfl) g,h.old⟩
theorem Ty.dr[LB]{rb:Nat}{w w':World}(h:Dr rb w w')(k:Xo w rb=some 83/\Ji<=rb):Ty w w':=by
 obtain⟨j,m⟩:=k;exact⟨h.os,h.tape,h.output,h.size,fun q g d=>h.block q g (fun e=>d (by rw[e];exact .inl j)),fun _ q g d=>by
  have e:=h.block q g (fun e=>by rw[e,j]at d;cases d);exact⟨(KI e).trans d,XQ (a:=⟨q,2,none⟩) e⟩,fun q g d=>h.block q g (by omega)⟩
abbrev Sm(d:Nd):Prop:=d.text.size<=1000000/\d.n<9223372036854775808
theorem n0:(0:Int)<9223372036854775808:=by decide
def Sh(l:List Nd):Prop:=∀x∈l,Sm x
def NR(w:World)(v:Value)(l:List Nd):Prop:=w.ownsRow 0 64 5 v l.length (Xh l)/\Sh l
theorem Gq[LB]:¬XL (some 64):=by unfold XL;simp
theorem X9y[LB]:¬V3 (some 64):=by unfold V3 XL;simp
theorem NR.ty[LB]{w w':World}{v:Value}{l:List Nd}(h:NR w v l)(a:Ty w w'):NR w' v l:=⟨Yz h.1 a Gq,h.2⟩
theorem NR.tf[LB]{w w':World}{v:Value}{l:List Nd}(h:NR w v l)(a:Tf w w'):NR w' v l:=⟨Yz h.1 a X9y,h.2⟩
theorem GQ{w w':World}{base size:Nat}{e:TypeId}{v:Value}{n:Nat}{r:List Value}(h:w.ownsRow base e size v n r)(y:∀g,base<=g->g<w.heap.size->w'.heap[g]?=w.heap[g]?):w'.ownsRow base e size v n r:=by
 refine⟨h.1,?_⟩;rcases h.2 with s|⟨j,a,d,A,k,m,u⟩
 .exact .inl s
 .exact .inr ⟨j,a,d,A,k,(y j k (QS.1 m).1).trans m,u⟩
theorem Qu{w w':World}{base size:Nat}{e:TypeId}{v:Value}{n:Nat}{a:List Value}(h:w.ownsRow base e size v n a)(d:BL w w'):w'.ownsRow base e size v n a:=GQ h (fun g _ j=>d.block g j)
theorem U5{P:Program}{ops:Array Oper}{o:Oper}{a:Act}{w:World}{K:Act->World->Prop}{Q:Exit->Act->World->Prop}{E:Prop}(I:o.guard=none)(s x:Operand)(t:TypeId)(Z:o.op= .call {callee:= .builtin .append,args:=#[s,x],argTypes:=#[t,t]})(base:Nat)(e:TypeId)(i:TypeInfo)(z:Value)(size g:Nat)(ht:P.underlying t=some (.slice e))(hi:P.info? e=some i)(hz:i.zero=some z)(A:i.size=size)(H:i.bytes=g)(L:z.cells.size=size)(J:0<size)(v:Value)(n:Nat)(M:List Value)(hs:a.eval s=v)(B:w.ownsRow base e size v n M)(C:Addr)(m c:Nat)(d:List Value)(hx:a.eval x= .slice (some C) m c)(X:d.length=m*size)(y:∀j u,d[j]?=some u->w.cell? (C.add j)=some u)(N:∀u∈d,u.oneCell'=true)(F:n+m<=maxLen)(k:(n+m)*g<=140737488355328)(r:base<=w.heap.size)(W:∀v' w',w'.ownsRow base e size v' (n+m) (M++d)->w.grownBy w' v.ownBlock->(v'= .slice none 0 0↔v= .slice none 0 0/\m=0)->(v'.ownBlock=v.ownBlock\/v'.ownBlock=some w.heap.size)->K (a.put o.dst v') w'): if Region.wanted o (yielded ops a.tmps)=true then Oper.wp P o a w K Q else E:=by
 have hw:Region.wanted o (yielded ops a.tmps)=true:=by simp[Region.wanted,I]
 rw[Xa hw];obtain⟨v',w',hr,O,S,U,V⟩:=CU (P:=P) w base t o.type e i z size g ht hi hz A H L J v n M B C m c d X y N F k r;unfold Oper.wp execOp;simp only[Z,resolve,invoke,builtin,ZB,Jd,ZA,Qg,Y5,YD,hs,hx,hr];exact W _ _ O S U V
theorem Un:(prog.info? 64).map (fun i=>(i.zero,i.size,i.bytes))=some (some (.agg #[.q 0,.q 0,.q 0,.t #[],.q 0]),5,48):=by kernel_rfl
theorem S0(l:List Nd)(d:Nd):Xh (l++[d])=Xh l++d.cells:=by unfold Xh;rw[Dm];simp
theorem Sa(d:Nd):∀u∈d.cells,u.oneCell'=true:=by
 intro u a;simp only[Nd.cells,Kr,QU,J7]at a;rcases a with rfl|rfl|rfl|rfl|rfl<;>rfl
theorem Y8(b i j:Nat):(⟨b,i,none⟩:Addr).add j=⟨b,i+j,none⟩:=by unfold Addr.add;split<;>simp_all
theorem MM(W:World)(cs:List Value)(t:TypeId)(q:Nat)(a:q=W.heap.size):∀(j:Nat) (u:Value),cs[j]?=some u->((W.alloc (.cells cs.toArray t)).drew).cell? ((⟨q,0,none⟩:Addr).add j)=some u:=by
 intro j u d;subst a;show(W.alloc (.cells cs.toArray t)).cell? _=_;rw[Y8,Xu,World.cell?,YV];simpa using d
theorem XA{w:World}{B e size n:Nat}{v:Value}{j:List Value}(h:w.ownsRow B e size v n j):∃p c,v= .slice p n c:=by
 rcases h.2 with⟨d,a⟩|⟨g,c,_,a,_⟩
 .exact⟨none,0,by rw[a];exact d⟩
 .exact⟨_,c,a⟩
theorem CR{w:World}{B e size n k g c:Nat}{j:List Value}(h:w.ownsRow B e size (.l g n c) n j)(A:k<=n):w.ownsRow B e size (.l g k c) k (j.take (k*size)):=by
 have d:k*size<=n*size:=Vz _ A;rcases h.2 with⟨m,_⟩|⟨F,E,a,C,r,s,H,u,v,y⟩
 .cases m
 .cases C;refine⟨by rw[YO,h.1];omega,.inr ⟨g,c,a,rfl,r,s,by omega,u,v,?_⟩⟩;rw[←y,Mm,Jv d]
theorem S1(l:List Nd)(k:Nat):Xh (l.take k)=(Xh l).take (k*5):=by
 induction l generalizing k with
 | nil=>simp[Xh]
 | cons x r d=>
  cases k with
  | zero=>simp[Xh]
  | succ k=>
   have a:x.cells.length=5:=rfl;rw[Jc,show Xh (x::r.take k)=x.cells++Xh (r.take k)from rfl,show Xh (x::r)=x.cells++Xh r from rfl,d,List.take_append,I8 (l:=x.cells) (by omega),a,show(k+1)*5-5=k*5 from by omega]
theorem RZ(l:List Nd)(k:Nat):Xh (l.drop k)=(Xh l).drop (k*5):=by
 induction l generalizing k with
 | nil=>simp[Xh]
 | cons x r d=>
  cases k with
  | zero=>simp
  | succ k=>
   have a:x.cells.length=5:=rfl;rw[Vv,d,show Xh (x::r)=x.cells++Xh r from rfl,List.drop_append,YI (l:=x.cells) (by omega),a,show(k+1)*5-5=k*5 from by omega,JJ]
theorem DG(l:List Nd):(Xh l).length=l.length*5:=by
 induction l with
 | nil=>rfl
 | cons x r a=>rw[show Xh (x::r)=x.cells++Xh r from rfl,Xj,a,XI];simp[Nd.cells];omega
theorem Iu(l:List Nd):∀u∈Xh l,u.oneCell'=true:=by
 intro u a;unfold Xh at a;obtain⟨d,_,h⟩:=List.mem_flatMap.1 a;exact Sa d u h
theorem JU{w:World}{B e size n g c:Nat}{d:List Value}(h:w.ownsRow B e size (.l g n c) n d){j:Nat}{u:Value}(a:d[j]?=some u):w.cell? ⟨g,j,none⟩=some u:=by
 rcases h.2 with⟨m,_⟩|⟨A,y,k,v,C,r,E,F,H,s⟩
 .cases m
 .cases v;rw[←s]at a;rw[Dq]at a;split at a
  .rw[World.cell?,r];simpa using a
  .cases a
theorem FR(l:List Nd)(i:Nat)(h:i<l.length):(Xh l)[i*5]?=some (.q l[i].kind)/\(Xh l)[i*5+1]?=some (.q l[i].op)/\(Xh l)[i*5+2]?=some (.q l[i].n)/\(Xh l)[i*5+3]?=some (.string l[i].text)/\(Xh l)[i*5+4]?=some (.q l[i].kids):=by
 induction l generalizing i with
 | nil=>simp at h
 | cons x r d=>
  rw[show Xh (x::r)=x.cells++Xh r from rfl]
  match i,h with
  | 0,_=>simp[Nd.cells]
  | i+1,h=>
   have:=d i (by simpa using h);have a:x.cells.length=5:=rfl;refine⟨?_,?_,?_,?_,?_⟩;all_goals rw[Q7 (by omega),a]
   .rw[show(i+1)*5-5=i*5 from by omega];exact this.1
   .rw[show(i+1)*5+1-5=i*5+1 from by omega];exact this.2.1
   .rw[show(i+1)*5+2-5=i*5+2 from by omega];exact this.2.2.1
   .rw[show(i+1)*5+3-5=i*5+3 from by omega];exact this.2.2.2.1
   .rw[show(i+1)*5+4-5=i*5+4 from by omega];exact this.2.2.2.2
theorem Gu{w:World}{B g c:Nat}{l:List Nd}(h:w.ownsRow B 64 5 (.l g l.length c) l.length (Xh l)):K1 w g l:=
 ⟨(h.lt g rfl).2,fun i hi=>by
  obtain⟨a,b,j,d,e⟩:=FR l i hi;exact⟨JU h a,JU h b,JU h j,JU h d,JU h e⟩⟩
theorem GO{w:World}{base a size:Nat}{e:TypeId}{v:Value}{n:Nat}{j:List Value}(h:w.ownsRow base e size v n j)(u:a<=base):w.ownsRow a e size v n j:=by
 refine⟨h.1,?_⟩;rcases h.2 with m|⟨k,d,g,y,r,s⟩
 .exact .inl m
 .exact .inr ⟨k,d,g,y,Xz u r,s⟩
def Je(ns:List Nd)(ls:List Nat):Bool:=decide (∀i (h:i<ls.length) k (h':k<i),(ns[ls[k]]?.map (·.text))≠(ns[ls[i]]?.map (·.text)))
theorem FM{ns:List Nd}{ls:List Nat}(h:∀i (h:i<ls.length) k (a:k<i),(ns[ls[k]]?.map (·.text))≠(ns[ls[i]]?.map (·.text))):Je ns ls=true:=by
 unfold Je;exact DU h
theorem FL{ns:List Nd}{ls:List Nat}{i k:Nat}(hi:i<ls.length)(a:k<i)(h:(ns[ls[k]]?.map (·.text))=(ns[ls[i]]?.map (·.text))):Je ns ls=false:=by
 unfold Je;exact JP fun q=>q i hi k a h
theorem Ix(ns:List Nd)(ls:List Nat)(m tc g o c:Nat)(w:World)(hl:ls.length<=1048576)(ht:K1 w m ns)(hi:YZ w g o ls)(A:∀x∈ls,x<ns.length): CB 70 #[.agg #[.l m ns.length tc],.slice (some ⟨g,o,none⟩) ls.length c] w (.bool (Je ns ls)):=by
 have r1:BL w (w.alloc (.cells #[.l m ns.length tc] 25)):=bA _;have L:=X1 ht;have K:=X1 hi;have r:=X1 A;clear ht hi A;go_enter func70,ntmps70;go_wp2;go_loopw[5] (fun t wr=>∃i:Nat,i<=ls.length/\t= .q i/\BL w wr/\w.heap.size<wr.heap.size/\wr.cell? ⟨w.heap.size,0,none⟩=some (.l m ns.length tc)/\(∀j (h:j<ls.length) k (h':k<j),j<i->(ns[ls[k]]?.map (·.text))≠(ns[ls[j]]?.map (·.text)))) (fun t _=>ls.length-(intOf t).toNat)
 case atStart=>exact⟨0,Xb _,rfl,r1,by simp,by simp,fun j _ k _ h=>by omega⟩
 case round=>
  obtain⟨i,a4,rfl,X,H,N,he⟩:=hrel;have V:=X1 he;clear he;by_cases F:i<ls.length
  .have Z:=K.o.2 i F;have hx:ls[i]<ns.length:=r.o _ (YJ _);obtain⟨_,_,_,hN,_⟩:=L.o.2 ls[i] hx;have I:=X1 (show ns[ls[i]]?.map (·.text)=some ns[ls[i]].text by simp[hx]);go_wp2;go_loopw[6] (fun t wr=>∃k:Nat,k<=i/\t= .q k/\BL w wr/\w.heap.size<wr.heap.size/\wr.cell? ⟨w.heap.size,0,none⟩=some (.l m ns.length tc)/\(∀j (h:j<ls.length),j<k->(ns[ls[j]]?.map (·.text))≠(ns[ls[i]]?.map (·.text)))) (fun t _=>i-(intOf t).toNat)
   case atStart=>exact⟨0,Xb _,rfl,X,H,N,fun j _ h=>by omega⟩
   case round=>
    obtain⟨k,hk,rfl,a,d,v,y⟩:=hrel;have n:=X1 y;clear y;by_cases Q:k<i
    .have S:k<ls.length:=by omega
     have hK:=K.o.2 k S;have hy:ls[k]<ns.length:=r.o _ (YJ _);obtain⟨_,_,_,hM,_⟩:=L.o.2 ls[k] hy;have J:=X1 (show ns[ls[k]]?.map (·.text)=some ns[ls[k]].text by simp[hy]);have a0:=(a.cell (p:=⟨g,o+i,none⟩) K.o.1).trans Z;have a1:=(a.cell (p:=⟨g,o+k,none⟩) K.o.1).trans hK;have a2:=(a.cell (p:=⟨m,ls[i]*5+3,none⟩) L.o.1).trans hN;have a3:=(a.cell (p:=⟨m,ls[k]*5+3,none⟩) L.o.1).trans hM;have u:=X1 (show(ns[ls[k]]?.map (·.text)=ns[ls[i]]?.map (·.text))↔(ns[ls[k]].text=ns[ls[i]].text) by rw[I.o,J.o];simp);generalize ns[ls[k]].text=tk at *;generalize ns[ls[i]].text=ti at *;generalize E:ls[k]=xk at *;generalize C:ls[i]=xi at *;clear I J Z hK hN hM;have s:=X1 E;have M:=X1 C;clear E C;cases U:(tk.toList==ti.toList)
     .go_wp2;go_quiet(fail);go_wp2;go_roundw
      case rel=>
       refine⟨k+1,by omega,by go_num,below_drewN a _,d,v,?_⟩;intro j B a6;by_cases e:j=k
       .subst e;rw[s.o];intro h;have:=u.o.1 h;rw[this]at U;simp at U
       .exact n.o j B (by omega)
      case measure=>simp[intOf];omega
     .go_wp2;go_quiet(fail);go_wp2;go_ret;refine⟨Xn ?_,below_drewN a _⟩;refine(FL F Q ?_).symm;rw[s.o,M.o];refine u.o.2 ?_;have W:tk.toList=ti.toList:=by simpa using U
      rw[Js,Js]at W;exact Mb (Rf.1 W)
    .go_wp2;go_roundw
     case rel=>
      refine⟨i+1,by omega,by go_num,a,d,v,?_⟩;intro j B k' O a5;by_cases e:j=i
      .subst e;exact n.o k' (by omega) (by omega)
      .exact V.o j B k' O (by omega)
     case measure=>simp[intOf];omega
  .go_wp2;go_ret;refine⟨Xn ?_,X⟩;exact(FM fun j B k hk=>V.o j B k hk (by omega)).symm
def KS(op:Int):Int:=if op<=2 then op else if op<=9 then 4 else if op<=11 then 5 else 6
def Jf(k op:Int):Int:=
 if k=14\/k=13\/k=15 then 0
 else if k=7 then KS op
 else if k=6 then(if op=1 then 3 else 7)
 else if k=10\/k=11\/k=12 then 8
 else 9
def Tr.marks:List (List UInt8):=[[],[111,114],[97,110,100],[61,61],[33,61],[60],[60,61],[62],[62,61],[104,97,115],[43],[45],[42],[47],[37]]
def JN(op:Nat):List UInt8:=Tr.marks[op]?.getD []
theorem Ct(op:Int)(w:World):CS 72 #[.q op] w (.q (KS op)):=by
 by_cases a:op<=2
 .go_enter func72,ntmps72;go_wp2;go_ret;exact⟨ZQ (by unfold KS;rw[Xa a]),rfl⟩
 .by_cases d:op<=9
  .go_enter func72,ntmps72;go_wp2;go_ret;exact⟨ZQ (by unfold KS;rw[X6 (by omega),Xa d]),rfl⟩
  .by_cases g:op<=11
   .go_enter func72,ntmps72;go_wp2;go_ret;exact⟨ZQ (by unfold KS;rw[X6 (by omega),X6 (by omega),Xa g]),rfl⟩
   .go_enter func72,ntmps72;go_wp2;go_ret;exact⟨ZQ (by unfold KS;rw[X6 (by omega),X6 (by omega),X6 (by omega)]),rfl⟩
theorem Cs(k op n m:Int)(s:ByteArray)(w:World):CB 71 #[.agg #[.q k,.q op,.q n,.string s,.q m]] w (.q (Jf k op)):=by
 have a:BL w (w.alloc (.cells #[.q k,.q op,.q n,.string s,.q m] 64)):=bA _;have d:k=14\/k=13\/k=15\/k=7\/k=6\/k=10\/k=11\/k=12\/(k≠14/\k≠13/\k≠15/\k≠7/\k≠6/\k≠10/\k≠11/\k≠12):=by omega
 rcases d with rfl|rfl|rfl|rfl|rfl|rfl|rfl|rfl|h
 .go_enter func71,ntmps71;go_wp2;go_ret;exact⟨rfl,a⟩
 .go_enter func71,ntmps71;go_wp2;go_ret;exact⟨rfl,a⟩
 .go_enter func71,ntmps71;go_wp2;go_ret;exact⟨rfl,a⟩
 .go_enter func71,ntmps71;go_wp2_with(go_at_call 72;go_fit(Ct _ _);rintro e w'⟨rfl,rfl⟩);go_ret;exact⟨rfl,a⟩
 .cases r:(op==1)
  .have j:Jf 6 op=7:=by
    have:op≠1:=by simpa using r
    simp[Jf,this]
   have g:=X1 j;clear j;go_enter func71,ntmps71;go_wp2;go_ret;exact⟨ZQ g.o.symm,a⟩
  .have j:Jf 6 op=3:=by
    have:op=1:=by simpa using r
    simp[Jf,this]
   have g:=X1 j;clear j;go_enter func71,ntmps71;go_wp2;go_ret;exact⟨ZQ g.o.symm,a⟩
 .go_enter func71,ntmps71;go_wp2;go_ret;exact⟨rfl,a⟩
 .go_enter func71,ntmps71;go_wp2;go_ret;exact⟨rfl,a⟩
 .go_enter func71,ntmps71;go_wp2;go_ret;exact⟨rfl,a⟩
 .have g:=X1 (show Jf k op=9 by unfold Jf;rw[X6 (by omega),X6 (by omega),X6 (by omega),X6 (by omega)]);have B:(k==14)=false:=by simp;omega
  have A:(k==13)=false:=by simp;omega
  have C:(k==15)=false:=by simp;omega
  have F:(k==7)=false:=by simp;omega
  have E:(k==6)=false:=by simp;omega
  have u:(k==10)=false:=by simp;omega
  have v:(k==11)=false:=by simp;omega
  have y:(k==12)=false:=by simp;omega
  clear h;go_enter func71,ntmps71;go_wp2;go_ret;exact⟨ZQ g.o.symm,a⟩
theorem X9n(op:Nat)(w:World)(h:op<15):CB 73 #[.q op] w (.string ⟨(JN op).toArray⟩):=by
 have a:=OA w 9 Tr.marks op h;have hm:Tr.marks[op]=JN op:=by
  unfold JN;rw[K0 (show op<Tr.marks.length from h)];rfl
 rw[hm]at a;clear hm;have d:(w.alloc (.cells #[.t #[],.t #[111,114],.t #[97,110,100],.t #[61,61],.t #[33,61],.t #[60],.t #[60,61],.t #[62],.t #[62,61],.t #[104,97,115],.t #[43],.t #[45],.t #[42],.t #[47],.t #[37]] 9)).cell? ⟨w.heap.size,op,none⟩=some (.string ⟨(JN op).toArray⟩):=a;clear a;generalize(JN op).toArray=mo at *;go_enter func73,ntmps73;go_wp2;go_ret;exact⟨rfl,bA _⟩
theorem Db{P:Program}{ops:Array Oper}{o:Oper}{a:Act}{w:World}{K:Act->World->Prop}{Q:Exit->Act->World->Prop}{E:Prop}(u:o.guard=none)(f:FuncId)(x:Operand)(t:TypeId)(j:o.op=Op.call {callee:=Callee.value (Operand.func f),args:=#[x],argTypes:=#[t]})(v r:Value)(A:a.eval x=v)(fn:Func)(g:P.funcs[f]?=some fn)(hne:(fn.name == "runtime.NumGoroutine")=false)(d:fn.body.isNone=false)(R:World->Prop)(n:Calls P f #[v] w fun e w'=>e= .returned r/\R w')(s:∀w',R w'->K (a.put o.dst r) w'): if Region.wanted o (yielded ops a.tmps)=true then Oper.wp P o a w K Q else E:=by
 have y:Region.wanted o (yielded ops a.tmps)=true:=by simp[Region.wanted,u]
 rw[Xa y];have k:(callFunc f #[v]).run P w= .ok (.enter f #[v]) w:=by
  simp only[callFunc,ZB,JE,ZA,g,hne,d];rfl
 unfold Oper.wp;simp only[execOp,j,resolve,invoke,Qg,Y5,YD,A,Deferred.ofValue,ZB];rw[show a.eval (Operand.func f)=Value.func (Fn.func f) #[] #[]from rfl];simp only[Jd,ZA];simp[k];refine n.mono fun e B h=>?_;obtain⟨rfl,m⟩:=h;exact s _ m
def Jy(n:Nat):UInt8:=UInt8.ofNat (48+n%10)
def Yh(n:Nat):List UInt8:=if _h:n<10 then[Jy n]else Yh (n / 10)++[Jy n]
theorem FU(n:Nat):(Yh n).length<=n / 10+1:=by
 induction n using Nat.strongRecOn with
 | ind n a=>
  rw[Yh];by_cases h:n<10
  .rw[dif_pos h];simp
  .rw[dif_neg h];have:=a (n / 10) (by omega);simp only[Xj,XI,Ya];omega
theorem Ts(W:World)(x:Int):(W.alloc (.cells #[.int .u8 x] 5)).cell? ⟨W.heap.size,0,none⟩=some (.int .u8 x):=by simp
theorem Y1u(o:List UInt8)(c:UInt8):(⟨o.toArray⟩:ByteArray)++⟨#[c]⟩=⟨(o++[c]).toArray⟩:=by
 rw[←Lib.mk_data (⟨o.toArray⟩++⟨#[c]⟩)];congr 1
theorem Sr{B:Nat}{a w:World}(h:Below B a.drew w):Below B a w:=⟨h.os,h.tape,h.output,h.size,h.block⟩
theorem Lx(W:World)(g:Nat)(j:Nat)(x:Int)(a:x=48+(j:Int)%10)(h:W.cell? ⟨g,0,none⟩=some (.int .u8 x)):(convert 22 9 (.l g 1 1)).run prog W= .ok (.t #[Jy j]) W:=by
 have:=run_convert_bytes_arg (P:=prog) W 22 5 underlying22 underlying5 g 0 1 1 [x] rfl (fun i hi=>by
  obtain rfl:i=0:=by omega
  simpa using h) 9 underlying9
 rw[this];subst a;have e:(48+(j:Int)%10).toNat=48+j%10:=by omega
 simp[strOfNums,e,Jy]
theorem TI(n:Nat):∀(w:World),n<=9223372036854775807->CB 42 #[.q n] w (.string ⟨(Yh n).toArray⟩):=by
 induction n using Nat.strongRecOn with
 | ind n v=>
  intro w B;by_cases h:n<10
  .have y:((n:Int)<10):=by omega
   have A:=Lx (w.z #[.int .u8 (48+(n:Int))] 5) w.heap.size n (48+(n:Int)) (by omega) (by simp);have j:=X1 (show Yh n=[Jy n] by rw[Yh,dif_pos h]);go_enter func42,ntmps42;go_wp2;go_ret;exact⟨by rw[j.o];rfl,bA _⟩
  .have y:¬((n:Int)<10):=by omega
   have j:=X1 (show Yh n=Yh (n / 10)++[Jy n] by rw[Yh,dif_neg h]);have k:=X1 (fun w'=>v (n / 10) (by omega) w' (by omega));clear v;have F:(n:Int).tmod 10=(n:Int)%10:=UY (by omega);have C:IntKind.i64.wrap ((n:Int) / 10)=(n:Int) / 10:=by rw[Yp];omega
   have E:IntKind.i64.wrap (48+(n:Int)%10)=48+(n:Int)%10:=by rw[Yp];omega
   have H:IntKind.u8.wrap (48+(n:Int)%10)=48+(n:Int)%10:=by rw[IntKind.wrap_u8];omega
   have d:(w.z #[.int .u8 (48+(n:Int)%10)] 5).drew.cell? ⟨w.heap.size,0,none⟩=some (.int .u8 (48+(n:Int)%10)):=Ts w _;have u:¬9223372036854775807<(Yh (n / 10)).length+1:=by have:=FU (n / 10);omega
   have s:=Lx (w.z #[.int .u8 (48+(n:Int)%10)] 5).drew w.heap.size n _ rfl d;have g:=X1 d;clear d;go_enter func42,ntmps42;go_wp2_with fail;go_region_law(first
    | (refine Db rfl 42 (.tmp 11) 2 rfl (.q (n / 10:Nat)) (.string ⟨(Yh (n / 10)).toArray⟩) (by simp[Act.eval,Act.put]) f42 func42 (by kernel_rfl) (by kernel_rfl) _ (k.o w.drew) ?_;intro w5 a;have m:=Lx (w5.z #[.int .u8 (48+(n:Int)%10)] 5) w5.heap.size n _ rfl (by simp))
    | (refine Db rfl 42 (.tmp 11) 2 rfl (.q (n / 10:Nat)) (.string ⟨(Yh (n / 10)).toArray⟩) (by first|(simp[Act.eval];done)|simp[Act.eval,Act.put]) f42 func42 (by kernel_rfl) (by kernel_rfl) _ (k.o (w.z #[.int .u8 (48+(n:Int)%10)] 5).drew) ?_;intro w5 a;have r:=Lx w5 w.heap.size n (48+(n:Int)%10) rfl ((a.cell (p:=⟨w.heap.size,0,none⟩) (by show w.heap.size<(w.z #[.int .u8 (48+(n:Int)%10)] 5).heap.size;simp)).trans g.o)))
   all_goals
    go_wp2;go_ret;refine⟨by rw[j.o,←Y1u];rfl,?_⟩
    first
     | exact(Sr a).alloc a.size _
     | exact((X8 _ w).alloc (X5 _) _).trans ((Sr a).mono (by simp))
