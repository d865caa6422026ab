import Derived.Test.YtkoiikmhfaebnaaGreatDoorB01
import Derived.Deep.RegionLaw
import Derived.Laws.Bits64
set_option maxHeartbeats 2000000
set_option maxRecDepth 100000
namespace Go.Proofs.YtkoiikmhfaebnaaGreatDoor
open Tryz Go.RowKit
def Bs:Type:=Nat
abbrev LB:=Inhabited Bs
def JT[h:LB]:Nat:=h.default
def Xdh:Obj->Option TypeId
 | .cells _ t _=>some t
 | _=>none
def Xm(w:World)(q:Nat):Option TypeId:=(w.heap[q]?).bind Xdh
theorem Q6[LB]{w w':World}{q:Nat}(h:w'.heap[q]?=w.heap[q]?):Xm w' q=Xm w q:=by unfold Xm;rw[h]
theorem Dp[LB](w:World)(a:Addr)(v:Value)(q:Nat):Xm (w.setCell a v) q=Xm w q:=by
 unfold Xm World.setCell;simp only[Ox];by_cases h:a.block=q
 .rw[X3 h];cases w.heap[q]? with
  | none=>rfl
  | some o=>cases o<;>rfl
 .rw[X2 h]
theorem Om[LB](w:World)(cs:Array Value)(t:TypeId):Xm (w.alloc (.cells cs t)) w.heap.size=some t:=by unfold Xm;rw[XM];rfl
structure Dr (rb:Nat) (w w':World):Prop where
 os:w'.os=w.os
 tape:w'.tape=w.tape
 output:w'.output=w.output
 size:w.heap.size<=w'.heap.size
 block:∀b,b<w.heap.size->b≠rb->w'.heap[b]?=w.heap[b]?
theorem Dr.refl[LB](rb:Nat)(w:World):Dr rb w w:=⟨rfl,rfl,rfl,X4 _,fun _ _ _=>rfl⟩
theorem Dr.trans[LB]{rb:Nat}{w w1 g:World}(a:Dr rb w w1)(b:Dr rb w1 g):Dr rb w g:=⟨b.os.trans a.os,b.tape.trans a.tape,b.output.trans a.output,XO a.size b.size,fun q c d=>(b.block q (Xd c a.size) d).trans (a.block q c d)⟩
theorem Dr.of[LB]{rb:Nat}{w w':World}(h:BL w w'):Dr rb w w':=⟨h.os,h.tape,h.output,h.size,fun b a _=>h.block b a⟩
theorem Dr.set[LB](rb:Nat)(w:World)(o:Nat)(v:Value):Dr rb w (w.setCell ⟨rb,o,none⟩ v):=by
 have h:=(X5 0 w).setCell (p:=⟨rb,o,none⟩) (X6 _) v;exact⟨h.os,h.tape,h.output,h.size,fun b _ a=>Y4 _ _ _ _ a⟩
theorem Dr.below[LB]{rb B:Nat}{w w':World}(h:Dr rb w w')(a:B<=rb)(d:B<=w.heap.size):Below B w w':=⟨h.os,h.tape,h.output,h.size,fun b c=>h.block b (by omega) (by omega)⟩
theorem Dr.cell[LB]{rb:Nat}{w w':World}(h:Dr rb w w'){b o:Nat}(c:b<w.heap.size)(d:b≠rb):w'.cell? ⟨b,o,none⟩=w.cell? ⟨b,o,none⟩:=Xy (a:=⟨b,o,none⟩) (h.block b c d)
structure Rd [LB] (w:World) (rb:Nat) (vb:Value) (n p:Nat):Prop where
 c0:w.cell? ⟨rb,0,none⟩=some vb
 c1:w.cell? ⟨rb,1,none⟩=some (.int .i64 (p:Int))
 f1:w.frozen? ⟨rb,1,none⟩=false
 ty:Xm w rb=some 65
 lo:JT<=rb
 by_:(∃q c,vb= .slice q 0 c/\n=0)\/∃g o c,vb= .slice (some ⟨g,o,none⟩) n c/\0<n/\n<=2000/\g<rb/\∀i,i<n->∃k:Nat,k<256/\w.cell? ⟨g,o+i,none⟩=some (.int .u8 (k:Int))
theorem Rd.own[LB]{w:World}{rb:Nat}{vb:Value}{n p:Nat}(h:Rd w rb vb n p):Xm w rb=some 65/\JT<=rb:=⟨h.ty,h.lo⟩
theorem Rd.lt[LB]{w:World}{rb:Nat}{vb:Value}{n p:Nat}(h:Rd w rb vb n p):rb<w.heap.size:=J1 w ⟨rb,0,none⟩ h.c0
theorem Rd.set[LB]{w:World}{rb:Nat}{vb:Value}{n p:Nat}(h:Rd w rb vb n p)(q:Nat):Rd (w.setCell ⟨rb,1,none⟩ (.int .i64 (q:Int))) rb vb n q:=by
 refine⟨(Zs _ _ _ _ (by simp)).trans h.c0,JM _ _ _ h.c1,by simpa using h.f1,by rw[Dp];exact h.ty,h.lo,?_⟩;rcases h.by_ with h|⟨g,o,c,d,j,l,a,m⟩
 .exact .inl h
 .refine .inr ⟨g,o,c,d,j,l,a,fun i hi=>?_⟩;obtain⟨k,s,r⟩:=m i hi;exact⟨k,s,(Zs _ _ _ _ (fun e=>GV a (Zd Addr.block e).symm)).trans r⟩
theorem Rd.XH[LB]{w w':World}{rb:Nat}{vb:Value}{n p:Nat}(h:Rd w rb vb n p)(a:BL w w'):Rd w' rb vb n p:=by
 have d:=h.lt;refine⟨(a.cell (p:=⟨rb,0,none⟩) d).trans h.c0,(a.cell (p:=⟨rb,1,none⟩) d).trans h.c1,(a.frozen (p:=⟨rb,1,none⟩) d).trans h.f1,(Q6 (a.block rb d)).trans h.ty,h.lo,?_⟩;rcases h.by_ with h|⟨g,o,c,j,l,m,q,r⟩
 .exact .inl h
 .refine .inr ⟨g,o,c,j,l,m,q,fun i hi=>?_⟩;obtain⟨k,t,s⟩:=r i hi;exact⟨k,t,(a.cell (p:=⟨g,o+i,none⟩) (by show g<_;omega)).trans s⟩
theorem X1d[LB](a b:Nat)(g:a<4611686018427387904)(j:b<4611686018427387904):bits .xor .i64 (a:Int) (b:Int)=((a ^^^ b:Nat):Int):=by
 have k:a ^^^ b<2 ^ 62:=Nat.xor_lt_two_pow (by omega) (by omega);have c:(BitVec.ofInt 64 (a:Int)).toNat=a:=by
  rw[BitVec.ofInt_natCast,BitVec.toNat_ofNat];exact Nat.mod_eq_of_lt (by omega)
 have d:(BitVec.ofInt 64 (b:Int)).toNat=b:=by
  rw[BitVec.ofInt_natCast,BitVec.toNat_ofNat];exact Nat.mod_eq_of_lt (by omega)
 show IntKind.i64.wrap ((BitVec.ofInt 64 (a:Int) ^^^ BitVec.ofInt 64 (b:Int)).toNat:Int)=_;rw[BitVec.toNat_xor,c,d];generalize a ^^^ b=x at *;rw[Yt];omega
def Hl[LB](rb:Nat)(vb:Value)(n p:Nat)(m:Int)(w:World)(e:Ending)(w':World):Prop:=∃z:Nat,(z:Int)<m/\e= .returned (.int .i64 (z:Int))/\Rd w' rb vb n (p+1)/\Dr rb w w'
theorem MU[LB](rb n p:Nat)(vb:Value)(m:Int)(w:World)(h:Rd w rb vb n p)(hp:p<=1000000000)(hm:1<=m)(K:m<=1000000): Calls prog 23 #[.pointer (some ⟨rb,0,none⟩),.int .i64 m] w fun e w'=>Hl rb vb n p m w e w':=by
 have c0:=h.c0;have c1:=h.c1;have f1:=h.f1;have J:¬m<1:=by omega
 rcases h.by_ with⟨q,c,rfl,L⟩|⟨g,o,c,rfl,l,N,E,D⟩
 .subst L;go_enter func23,ntmps23;go_wp2;go_ret;exact⟨0,by omega,rfl,h.set (p+1),Dr.set _ _ _ _⟩
 .have r:=X1 D;clear D;by_cases I:p<n
  .obtain⟨k,z,A⟩:=r.o p I;go_enter func23,ntmps23;go_wp2;go_ret;have B:0<=(k:Int)%m:=Int.emod_nonneg _ (by omega);have S:(k:Int)%m<m:=SI _ (by omega);exact⟨((k:Int)%m).toNat,by omega,by rw[SK B];rfl,h.set (p+1),Dr.set _ _ _ _⟩
  .have u:p%n<n:=WB _ l;have v:(p*7+3)%n<n:=WB _ l;obtain⟨a,z,s⟩:=r.o _ u;obtain⟨d,A,t⟩:=r.o _ v;have Y:(p:Int)%(n:Int)=((p%n:Nat):Int):=by simp
   have Z:((p:Int)*7+3)%(n:Int)=(((p*7+3)%n:Nat):Int):=by simp
   have e3:(p:Int) / (n:Int)=((p / n:Nat):Int):=by simp
   have H:p / n<=p:=Nat.div_le_self _ _;generalize p%n=P at *;generalize(p*7+3)%n=Q at *;generalize p / n=j at *;have V:(w.setCell ⟨rb,1,none⟩ (.int .i64 ((p:Int)+1))).cell? ⟨rb,0,none⟩=some (.slice (some ⟨g,o,none⟩) n c):=(Zs _ _ _ _ (by simp)).trans c0;have W:(w.setCell ⟨rb,1,none⟩ (.int .i64 ((p:Int)+1))).cell? ⟨g,o+P,none⟩=some (.int .u8 (a:Int)):=(Zs _ _ _ _ (fun e=>GV E (Zd Addr.block e).symm)).trans s;have X:(w.setCell ⟨rb,1,none⟩ (.int .i64 ((p:Int)+1))).cell? ⟨g,o+Q,none⟩=some (.int .u8 (d:Int)):=(Zs _ _ _ _ (fun e=>GV E (Zd Addr.block e).symm)).trans t;have C:((a:Int)*131+(d:Int)*1117+(p:Int)*29+(j:Int)*53)=((a*131+d*1117+p*29+j*53:Nat):Int):=by omega
   have e4:bits .xor .i64 ((a:Int)*131+(d:Int)*1117+(p:Int)*29+(j:Int)*53) (((a:Int)*131+(d:Int)*1117+(p:Int)*29+(j:Int)*53) / 64)=(((a*131+d*1117+p*29+j*53) ^^^ (a*131+d*1117+p*29+j*53) / 64:Nat):Int):=by
    rw[C];have:=X1d (a*131+d*1117+p*29+j*53) ((a*131+d*1117+p*29+j*53) / 64) (by omega) (by omega);rw[←this];congr 1
   generalize((a*131+d*1117+p*29+j*53) ^^^ (a*131+d*1117+p*29+j*53) / 64)=y at *;clear C;have F:=X1 (h.set (p+1));clear h;go_enter func23,ntmps23;go_wp2;go_quiet(fail);go_wp2;go_ret;have B:0<=(y:Int)%m:=Int.emod_nonneg _ (by omega);have S:(y:Int)%m<m:=SI _ (by omega);exact⟨((y:Int)%m).toNat,by omega,by rw[SK B];rfl,F.o.XH (below_drewN (X5 _ _) _),(Dr.set _ _ _ _).trans (Dr.of (below_drewN (X5 _ _) _))⟩
theorem EA[LB](rb n p:Nat)(vb:Value)(w:World)(h:Rd w rb vb n p)(c:p<=1000000000): Calls prog 23 #[.pointer (some ⟨rb,0,none⟩),.int .i64 0] w fun e w'=>e= .returned (.int .i64 0)/\Rd w' rb vb n (p+1)/\Dr rb w w':=by
 have c0:=h.c0;have c1:=h.c1;have a:=h.f1;go_enter func23,ntmps23;go_wp2;go_ret;exact⟨rfl,h.set (p+1),Dr.set _ _ _ _⟩
theorem Dr.frozen[LB]{rb:Nat}{w w':World}(h:Dr rb w w'){b o:Nat}(a:b<w.heap.size)(c:b≠rb):w'.frozen? ⟨b,o,none⟩=w.frozen? ⟨b,o,none⟩:=KU (h.block b a c)
abbrev XC:={s:ByteArray // s.size<=1000000}
theorem XC.le[LB](s:XC):s.val.size<=1000000:=s.2
theorem X7c[LB](a b j:Nat)(h:j%2=1):(b+a)+(a+a)*(j / 2)=b+a*j:=by
 have e:j=2*(j / 2)+1:=by omega
 generalize j / 2=k at *;subst e;rw[Nat.mul_add,DG,DI,Nat.mul_comm 2 k,←Nat.mul_assoc,Nat.mul_two];omega
theorem X7b[LB](a j:Nat)(h:¬j%2=1):(a+a)*(j / 2)=a*j:=by
 have e:j=2*(j / 2):=by omega
 generalize j / 2=k at *;subst e;rw[DG,Nat.mul_comm 2 k,←Nat.mul_assoc,Nat.mul_two]
theorem Xbw[LB](s:ByteArray)(n:Nat)(w:World)(r:n<=1000000)(A:s.size*n<=1000000): Calls prog 81 #[.string s,.int .i64 (n:Int)] w fun e w'=>∃t:XC,e= .returned (.string t)/\w'=w:=by
 go_enter func81,ntmps81;go_wp2;go_loop[0,1,5] (fun a t o=>∃(j:Nat) (x y:ByteArray),j<=n/\a= .string x/\t= .int .i64 (j:Int)/\o= .string y/\y.size+x.size*j<=1000000) (fun _ t _=>(intOf t).toNat)
 case atStart=>exact⟨n,s,_,X4 _,rfl,rfl,rfl,by show 0+s.size*n<=1000000;omega⟩
 case round=>
  obtain⟨j,x,y,z,rfl,rfl,rfl,l⟩:=hrel;by_cases q:0<j
  .have d:x.size<=x.size*j:=Nat.le_mul_of_pos_right _ q;have u:x.size<=1000000:=by omega
   have v:y.size<=1000000:=by omega
   have g:=X1 l;clear l d;by_cases k:j%2=1
   .have c:=X1 (X7c x.size y.size j k);have m:(j:Int)%2=1:=by omega
    go_wp2;go_round
    case rel=>exact⟨j / 2,_,_,by omega,rfl,by go_num,rfl,by rw[JA,JA,c.o];exact g.o⟩
    case measure=>simp[intOf];omega
   .have c:=X1 (X7b x.size j k);have m:((j:Int)%2==1)=false:=by simp;omega
    go_wp2;go_round
    case rel=>exact⟨j / 2,_,_,by omega,rfl,by go_num,rfl,by rw[JA,c.o];exact g.o⟩
    case measure=>simp[intOf];omega
  .go_wp2;go_ret;exact⟨⟨y,by omega,rfl⟩,rfl⟩
def Hz[LB](rb:Nat)(vb:Value)(n p k:Nat)(w:World)(e:Ending)(w':World):Prop:=∃(t:XC) (q:Nat),e= .returned (.string t)/\q<=p+k/\Rd w' rb vb n q/\Dr rb w w'
theorem X4b[LB](rb n p:Nat)(vb:Value)(w:World)(h:Rd w rb vb n p)(L:p<=999999000): Calls prog 242 #[.pointer (some ⟨rb,0,none⟩)] w fun e w'=>Hz rb vb n p 7 w e w':=by
 have u:=X1 (fun p w (h:Rd w rb vb n p) (L:p<=1000000000) m (A:1<=m) (N:m<=1000000)=>MU rb n p vb m w h L A N);have E:=X1 h;clear h;go_enter func242,ntmps242;go_wp2_with fail;refine(u.o p _ E.o (by omega) 10 (by omega) (by omega)).mono ?_;rintro e w1⟨z,hz,rfl,F,B⟩;have d:=X1 F;have a:=X1 B;clear F B E;go_wp2_with fail
 all_goals first
  | (go_ret;exact⟨⟨_,by exact YC rfl⟩,p+1,rfl,by omega,d.o,a.o⟩)
  | skip
 refine(u.o (p+1) _ d.o (by omega) 4 (by omega) (by omega)).mono ?_;rintro e w2⟨k,V,rfl,H,C⟩;have v:=X1 H;have r:=X1 (a.o.trans C);clear H C d a;go_wp2_with fail;go_loopw[3,4] (fun o t wr=>∃(j q:Nat) (x:ByteArray),o= .string x/\t= .int .i64 ((j:Int)-1)/\x.size+j<=5/\j<=k+1/\q+j<=p+3+k/\Rd wr rb vb n q/\Dr rb w wr) (fun _ t _=>(intOf t+1).toNat)
 case atStart=>exact⟨k+1,p+1+1,_,rfl,by congr 1;omega,by show 0+(k+1)<=5;omega,by omega,by omega,v.o,r.o⟩
 case round=>
  obtain⟨j,q,x,rfl,rfl,S,Y,Z,K,J⟩:=hrel;have Q:x.size<=5:=by omega
  have g:=X1 K;have c:=X1 J;clear K J;by_cases X:1<=j
  .have A:(0:Int)<=(j:Int)-1:=by omega
   go_wp2_with fail;refine(u.o q _ g.o (by omega) 4 (by omega) (by omega)).mono ?_;rintro e w4⟨l,W,rfl,I,D⟩;have y:=X1 I;have s:=X1 (c.o.trans D);clear I D g c;have P:l=0\/l=1\/l=2\/l=3:=by omega
   rcases P with rfl|rfl|rfl|rfl;all_goals
    go_wp2;go_roundw
    case rel=>exact⟨j-1,q+1,_,rfl,by congr 1;omega,by rw[JA];show x.size+1+(j-1)<=5;omega,by omega,by omega,y.o,s.o⟩
    case measure=>simp[intOf];omega
  .have A:¬(0:Int)<=(j:Int)-1:=by omega
   go_wp2;go_ret;exact⟨⟨x,by omega⟩,q,rfl,by omega,g.o,c.o⟩
def ByV(w:World)(v:Value)(n:Nat):Prop:=(∃q c,v= .slice q 0 c/\n=0)\/∃g o c,v= .slice (some ⟨g,o,none⟩) n c/\0<n/\n<=c/\g<w.heap.size/\∀i,i<n->∃k:Nat,k<256/\w.cell? ⟨g,o+i,none⟩=some (.int .u8 (k:Int))
def Hj[LB](w:World)(e:Ending)(w':World):Prop:=∃rb vb n,e= .returned (.pointer (some ⟨rb,0,none⟩))/\w.heap.size<=rb/\Rd w' rb vb n 0/\Below w.heap.size w w'
theorem Xem[LB](n:Nat)(v:Value)(w:World)(h:ByV w v n)(d:JT<=w.heap.size):Calls prog 10 #[v] w fun e w'=>Hj w e w':=by
 rcases h with⟨q,c,rfl,rfl⟩|⟨g,o,c,rfl,u,y,s,l⟩
 .go_enter func10,ntmps10;go_wp2;go_ret;refine⟨w.heap.size,.slice q 0 c,0,rfl,X4 _,⟨by simp,by simp,by simp,Om _ _ _,d,.inl ⟨q,c,rfl,rfl⟩⟩,bA _⟩
 .have r:=X1 l;clear l;have a:∀(X:Obj) (m:Nat),m<=n->∀i,i<m->∃k:Nat,k<256/\(w.alloc X).cell? ⟨g,o+i,none⟩=some (.int .u8 (k:Int)):=fun X m A i hi=>by
   obtain⟨k,a,t⟩:=r.o i (by omega);exact⟨k,a,(((X5 w.heap.size w).alloc (X4 _) X).cell (p:=⟨g,o+i,none⟩) s).trans t⟩
  have j:=X1 a;clear a;by_cases z:(2000:Int)<(n:Int)
  .go_enter func10,ntmps10;go_wp2;go_ret;refine⟨w.heap.size,.slice (some ⟨g,o,none⟩) 2000 c,2000,rfl,X4 _,⟨by simp,by simp,by simp,Om _ _ _,d,.inr ⟨g,o,c,rfl,by omega,by omega,by omega,j.o _ 2000 (by omega)⟩⟩,bA _⟩
  .go_enter func10,ntmps10;go_wp2;go_ret;refine⟨w.heap.size,.slice (some ⟨g,o,none⟩) n c,n,rfl,X4 _,⟨by simp,by simp,by simp,Om _ _ _,d,.inr ⟨g,o,c,rfl,by omega,by omega,by omega,j.o _ n (by omega)⟩⟩,bA _⟩
def XS(t:Option TypeId):Prop:=t=some 65\/t=some 150\/t=some 246
def VU(t:Option TypeId):Prop:=XS t\/t=some 296
structure TyM [LB] (M:Option TypeId->Prop) (w w':World):Prop where
 os:w'.os=w.os
 tape:w'.tape=w.tape
 output:w'.output=w.output
 size:w.heap.size<=w'.heap.size
 block:∀q,q<w.heap.size->¬M (Xm w q)->w'.heap[q]?=w.heap[q]?
 two:¬M (some 296)->∀q,q<w.heap.size->Xm w q=some 150->Xm w' q=some 150/\w'.cell? ⟨q,2,none⟩=w.cell? ⟨q,2,none⟩
 old:∀q,q<w.heap.size->q<JT->w'.heap[q]?=w.heap[q]?
abbrev Ty[LB]:=TyM XS
abbrev Tf[LB]:=TyM VU
section
variable {M:Option TypeId->Prop}
theorem TyM.refl[LB](w:World):TyM M w w:=⟨rfl,rfl,rfl,X4 _,fun _ _ _=>rfl,fun _ _ _ h=>⟨h,rfl⟩,fun _ _ _=>rfl⟩
theorem TyM.trans[LB]{w w1 j:World}(a:TyM M w w1)(b:TyM M w1 j):TyM M w j:=
 ⟨b.os.trans a.os,b.tape.trans a.tape,b.output.trans a.output,XO a.size b.size,fun q c d=>(b.block q (Xd c a.size) (by rw[Q6 (a.block q c d)];exact d)).trans (a.block q c d),fun g q c d=>by
  obtain⟨k,l⟩:=a.two g q c d;obtain⟨m,n⟩:=b.two g q (Xd c a.size) k;exact⟨m,n.trans l⟩,fun q c d=>(b.old q (Xd c a.size) d).trans (a.old q c d)⟩
theorem TyM.of[LB]{w w':World}(h:BL w w'):TyM M w w':=⟨h.os,h.tape,h.output,h.size,fun b d _=>h.block b d,fun _ q a c=>⟨(Q6 (h.block q a)).trans c,h.cell (p:=⟨q,2,none⟩) a⟩,fun q a _=>h.block q a⟩
theorem TyM.set[LB]{w:World}{b o:Nat}{v:Value}(h:M (Xm w b)/\JT<=b)(d:o≠2):TyM M w (w.setCell ⟨b,o,none⟩ v):=by
 have k:=(X5 0 w).setCell (p:=⟨b,o,none⟩) (X6 _) v;exact⟨k.os,k.tape,k.output,k.size,fun q _ c=>Y4 _ _ _ _ (fun e=>c (by rw[e];exact h.1)),fun _ q _ a=>⟨by rw[Dp];exact a,Zs _ _ _ _ (fun e=>d (Zd Addr.off e))⟩,fun q _ c=>Y4 _ _ _ _ (fun e=>by have a:=h.2;have e':q=b:=e;omega)⟩
theorem TyM.grown[LB]{w w':World}{row:Option Nat}(c:w.grownBy w' row)(k:∀q,row=some q->M (Xm w q))(j:∀q,row=some q->Xm w q≠some 150)(hlo:∀q,row=some q->JT<=q):TyM M w w':=
 ⟨c.os,c.tape,c.output,c.size,fun q d g=>c.block q d (fun e=>g (k q e.symm)),fun _ q d g=>by
  have e:=c.block q d (fun e=>j q e.symm g);exact⟨(Q6 e).trans g,Xy (a:=⟨q,2,none⟩) e⟩,fun q d g=>c.block q d (fun e=>by have:=hlo q e.symm;omega)⟩
theorem KK[LB]{w w':World}{base size:Nat}{e:TypeId}{v:Value}{n:Nat}{j:List Value}(h:w.ownsRow base e size v n j)(r:∀q,q<w.heap.size->Xm w q=some e->w'.heap[q]?=w.heap[q]?):w'.ownsRow base e size v n j:=by
 refine⟨h.1,?_⟩;rcases h.2 with k|⟨c,a,g,t,l,d,m⟩
 .exact .inl k
 .have s:c<w.heap.size:=by
   rcases J0 c w.heap.size with h|h
   .exact h
   .rw[U3 h]at d;cases d
  exact .inr ⟨c,a,g,t,l,(r c s (by unfold Xm;rw[d];rfl)).trans d,m⟩
theorem YL[LB]{w w':World}{base size:Nat}{e:TypeId}{v:Value}{n:Nat}{a:List Value}(h:w.ownsRow base e size v n a)(c:TyM M w w')(d:¬M (some e)):w'.ownsRow base e size v n a:=KK h (fun q g j=>c.block q g (by rw[j];exact d))
theorem Q5[LB]{w:World}{base size:Nat}{e:TypeId}{v:Value}{n:Nat}{l:List Value}(h:w.ownsRow base e size v n l){q:Nat}(a:v.ownBlock=some q):Xm w q=some e:=by
 rcases h.2 with⟨g,_⟩|⟨m,c,d,k,r,j,s⟩
 .rw[g]at a;cases a
 .rw[k]at a;cases a;unfold Xm;rw[j];rfl
end
theorem Ty.tf[LB]{w w':World}(h:Ty w w'):Tf w w':=⟨h.os,h.tape,h.output,h.size,fun q a c=>h.block q a (fun e=>c (.inl e)),fun d=>absurd (.inr rfl) d,h.old⟩
theorem Ty.dr[LB]{rb:Nat}{w w':World}(h:Dr rb w w')(j:Xm w rb=some 65/\JT<=rb):Ty w w':=by
 obtain⟨g,hlo⟩:=j;exact⟨h.os,h.tape,h.output,h.size,fun q d c=>h.block q d (fun e=>c (by rw[e];exact .inl g)),fun _ q d c=>by
  have e:=h.block q d (fun e=>by rw[e,g]at c;cases c);exact⟨(Q6 e).trans c,Xy (a:=⟨q,2,none⟩) e⟩,fun q d c=>h.block q d (by omega)⟩
abbrev Sm(d:Nd):Prop:=d.text.size<=1000000/\d.n<9223372036854775808
theorem n0:(0:Int)<9223372036854775808:=by decide
def Sh(l:List Nd):Prop:=∀x∈l,Sm x
def NR(w:World)(v:Value)(l:List Nd):Prop:=w.ownsRow 0 48 5 v l.length (Xe l)/\Sh l
theorem IV[LB]:¬XS (some 48):=by unfold XS;simp
theorem Xcb[LB]:¬VU (some 48):=by unfold VU XS;simp
theorem NR.ty[LB]{w w':World}{v:Value}{l:List Nd}(h:NR w v l)(a:Ty w w'):NR w' v l:=⟨YL h.1 a IV,h.2⟩
theorem NR.tf[LB]{w w':World}{v:Value}{l:List Nd}(h:NR w v l)(a:Tf w w'):NR w' v l:=⟨YL h.1 a Xcb,h.2⟩
def Xv:List Nd->Nat->List Nat->List (List Nat) × Option (List Nat)
 | [],_,op=>([],some op)
 | x::r,i,op=>if x.kids<0\/(op.length:Int)<x.kids then([],none)else
   (op.drop (op.length-x.kids.toNat)::(Xv r (i+1) (op.take (op.length-x.kids.toNat)++[i])).1,(Xv r (i+1) (op.take (op.length-x.kids.toNat)++[i])).2)
def Xc(ns:List Nd):List (List Nat):=(Xv ns 0 []).1
def Kk(ns:List Nd):Bool:=match(Xv ns 0 []).2 with
 | none=>false
 | some op=>op.length==1
theorem Pn(ns:List Nd)(i:Nat)(h:i<ns.length)(op:List Nat)(a:ns[i].kids<0\/(op.length:Int)<ns[i].kids):Xv (ns.drop i) i op=([],none):=by
 rw[Zp h,Xv,X3 a]
theorem Po(ns:List Nd)(i:Nat)(h:i<ns.length)(op:List Nat)(k m:Nat)(a:ns[i].kids=k)(c:op.length=m+k): Xv (ns.drop i) i op=(op.drop m::(Xv (ns.drop (i+1)) (i+1) (op.take m++[i])).1,(Xv (ns.drop (i+1)) (i+1) (op.take m++[i])).2):=by
 rw[Zp h,Xv,X2 (by omega),show op.length-ns[i].kids.toNat=m from by omega]
def YW(x:Nat):Value:= .int .i64 x
theorem S7{w:World}{base:Nat}{e:TypeId}{g n a:Nat}{k:List Value}(h:w.ownsRow base e 1 (.slice (some ⟨g,0,none⟩) n a) n k)(m:Nat)(z:m<=n):w.ownsRow base e 1 (.slice (some ⟨g,0,none⟩) m a) m (k.take m):=by
 obtain⟨y,d⟩:=h;refine⟨by simp;omega,.inr ?_⟩;rcases d with⟨d,_⟩|⟨v,j,c,u,l,r,A,q,s,t⟩
 .cases d
 .cases u;refine⟨g,a,c,rfl,l,r,by omega,q,s,?_⟩;rw[←t,Lu];congr 1;omega
theorem Wj{w:World}{base a:Nat}{e:TypeId}{size:Nat}{v:Value}{n:Nat}{j:List Value}(h:w.ownsRow base e size v n j)(q:a<=base):w.ownsRow a e size v n j:=by
 refine⟨h.1,?_⟩;rcases h.2 with h|⟨g,c,d,k,l,m⟩
 .exact .inl h
 .exact .inr ⟨g,c,d,k,XO q l,m⟩
theorem Ot(l:List Nat):∀u∈l.map YW,u.oneCell'=true:=by
 intro u a;obtain⟨x,_,rfl⟩:=Zq.1 a;rfl
theorem Qx{w:World}{base:Nat}{e:TypeId}{size g n a:Nat}{q:List Value}(h:w.ownsRow base e size (.slice (some ⟨g,0,none⟩) n a) n q):n<=a/\base<=g/\g<w.heap.size:=by
 have d:=h.lt g rfl;rcases h.2 with⟨k,_⟩|⟨r,c,j,m,s,u,l,t,v,y⟩
 .cases k
 .cases m;exact⟨l,d.1,d.2⟩
theorem Vq(g o j:Nat):((⟨g,o,none⟩:Addr).add j)=⟨g,o+j,none⟩:=by unfold Addr.add;split<;>simp_all
theorem Ee{w:World}{base:Nat}{e:TypeId}{g a:Nat}{op:List Nat}{m k o:Nat}(n:op.length=m+k)(h:w.ownsRow base e 1 (.slice (some ⟨g,0,none⟩) op.length a) op.length (op.map YW))(d:0<k->o=m): ∀j u,((op.drop m).map YW)[j]?=some u->w.cell? ((⟨g,o,none⟩:Addr).add j)=some u:=by
 intro j u c;have l:j<k:=by have:=(GQ.1 c).1;simp at this;omega
 obtain rfl:=d (by omega);rw[Vq,h.cellAt (o+j) (by omega),←c];simp
theorem UO(w:World)(u:Value)(t:TypeId):∀(j:Nat) (x:Value),([u]:List Value)[j]?=some x->(w.alloc (.cells #[u] t)).cell? ((⟨w.heap.size,0,none⟩:Addr).add j)=some x:=by
 intro j x h;rw[Vq,Xn,World.cell?,XM];simpa using h
theorem Vz{w a:World}{o:Obj}{row:Option Nat}(h:(w.alloc o).grownBy a row)(g:Nat)(c:g<w.heap.size)(hne:some g≠row):a.heap[g]?=w.heap[g]?:=by
 have:=(X5 w.heap.size w).alloc (X4 _) o;exact(h.block g (by simp;omega) hne).trans (this.block g c)
theorem Yz.heap{w w':World}{g o:Nat}{l:List Nat}(h:Yz w g o l)(a:w'.heap[g]?=w.heap[g]?):Yz w' g o l:=by
 have c:=h.1;refine⟨?_,fun j d=>?_⟩
 .rcases J0 g w'.heap.size with q|q
  .exact q
  .rw[U3 q,Dt c]at a;cases a
 .have:=h.2 j d;rw[World.cell?]at this⊢;simpa[a]using this
theorem Mr{w:World}{base:Nat}{e:TypeId}{g a:Nat}{l:List Nat}(h:w.ownsRow base e 1 (.slice (some ⟨g,0,none⟩) l.length a) l.length (l.map YW)):Yz w g 0 l:=by
 refine⟨(Qx h).2.2,fun j c=>?_⟩;rw[Xn,h.cellAt j (by omega)];simp[c,YW]
theorem IS{l:World}{b:Nat}{e:TypeId}{j:Value}{n g H:Nat}{m:List Value}(d:l.ownsRow b e 1 j n m)(c:¬j= .slice none 0 0)(k:j.ownBlock=some g\/j.ownBlock=some H):∃a c2,j= .slice (some ⟨a,0,none⟩) n c2/\(a=g\/a=H):=by
 rcases d.2 with⟨h,_⟩|⟨a,c2,_,h,_⟩
 .exact absurd h c
 .subst h;refine⟨a,c2,rfl,?_⟩;simpa[Value.ownBlock]using k
def Rows(w:World)(base g4 g5:Nat)(vs:List Value)(ks:List (List Nat)):Prop:=vs.length=ks.length/\∀j (h:j<ks.length),∃g c,vs[j]?=some (.slice (some ⟨g,0,none⟩) (ks[j]).length c)/\base<=g/\g≠g4/\g≠g5/\Yz w g 0 ks[j]/\(ks[j]).length<=c
theorem Rows.U1{w:World}{base k m:Nat}{l:List Value}{ks:List (List Nat)}(h:Rows w (base+1) k m l ks):Rows w base k k l ks:=by
 refine⟨h.1,fun j n=>?_⟩;obtain⟨g,c,a,b,d,_,f,e⟩:=h.2 j n;exact⟨g,c,a,by omega,d,d,f,e⟩
theorem Y1s{wr w1 m B:World}{base n s g4' g5' gn cn k:Nat}{A:List Value}{ks:List (List Nat)}{x:List Nat}(h:Rows wr base n s A ks)(z:x.length=k)(D:∀q,q<wr.heap.size->w1.heap[q]?=wr.heap[q]?)(v:∀q,q<w1.heap.size->q≠n->m.heap[q]?=w1.heap[q]?)(y:∀q,q<m.heap.size->q≠s->B.heap[q]?=m.heap[q]?)(J:wr.heap.size<=w1.heap.size)(K:w1.heap.size<=m.heap.size)(M:g4'=n\/w1.heap.size<=g4')(N:g5'=s\/m.heap.size<=g5')(P:wr.heap.size<=gn)(F:n<wr.heap.size)(H:s<wr.heap.size)(E:base<=gn)(hi:Yz w1 gn 0 x)(t:k<=cn): Rows B base g4' g5' (A++[.slice (some ⟨gn,0,none⟩) k cn]) (ks++[x]):=by
 have u:=hi.1;refine⟨by simp[h.1],fun j I=>?_⟩;by_cases e:j<ks.length
 .obtain⟨g,c,a,b,d,f,q,r⟩:=h.2 j e;have L:=q.1;rw[Vg e,QY (by rw[h.1];exact e)];exact⟨g,c,a,b,by omega,by omega,((q.heap (D g L)).heap (v g (by omega) d)).heap (y g (by omega) f),r⟩
 .have C:j=ks.length:=by simp at I;omega
  subst C;refine⟨gn,cn,?_,E,by omega,by omega,?_,?_⟩
  .have l:(ks++[x])[ks.length]=x:=by simp
   rw[l,z,K6 (by rw[h.1];exact X4 _),h.1,WC];rfl
  .have l:(ks++[x])[ks.length]=x:=by simp
   rw[l];exact(hi.heap (v gn u (by omega))).heap (y gn (by omega) (by omega))
  .have l:(ks++[x])[ks.length]=x:=by simp
   rw[l,z];exact t
theorem D7{ns:List Nd}{i:Nat}{ks:List (List Nat)}{op:List Nat}(a:Xv ns 0 []=(ks++(Xv (ns.drop i) i op).1,(Xv (ns.drop i) i op).2)){r:Option (List Nat)}(h:Xv (ns.drop i) i op=([],r)):Xc ns=ks/\(Xv ns 0 []).2=r:=by
 rw[h]at a;simp[Xc,a]
theorem WZ:(prog.info? 3).map (fun i=>(i.zero,i.size,i.bytes))=some (some (.int .i64 0),1,8):=by kernel_rfl
theorem Rf:(prog.info? 55).map (fun i=>(i.zero,i.size,i.bytes))=some (some (.slice none 0 0),1,24):=by kernel_rfl
theorem Mt(ns:List Nd)(N S:Nat)(w:World)(hn:ns.length<=1048576)(ht:Yw w N ns): Calls prog 17 #[.agg #[.slice (some ⟨N,0,none⟩) ns.length S]] w fun e w'=>∃n c4 B,e= .returned (.tuple #[.slice (some ⟨n,0,none⟩) (Xc ns).length c4,.bool (Kk ns)])/\w'.ownsRow w.heap.size 55 1 (.slice (some ⟨n,0,none⟩) (Xc ns).length c4) (Xc ns).length B/\Rows w' w.heap.size n n B (Xc ns)/\Below w.heap.size w w':=by
 obtain⟨iI,hI,a9,a8,a7⟩:=Yk WZ;obtain⟨iR,hR,e9,e8,e7⟩:=Yk Rf;have HT:=X1 ht;clear ht;go_enter func17,ntmps17;go_wp2
 go_loopw[4,5,6] (fun v4 v5 t wr=>∃(i:Nat) (ks:List (List Nat)) (op:List Nat) (n c4 A c5:Nat) (B:List Value),i<=ns.length/\t= .int .i64 i/\v4= .slice (some ⟨n,0,none⟩) i c4/\v5= .slice (some ⟨A,0,none⟩) op.length c5/\
   wr.ownsRow (w.heap.size+1) 55 1 (.slice (some ⟨n,0,none⟩) i c4) i B/\wr.ownsRow (w.heap.size+1) 3 1 (.slice (some ⟨A,0,none⟩) op.length c5) op.length (op.map YW)/\n≠A/\ks.length=i/\op.length<=i/\
   Rows wr (w.heap.size+1) n A B ks/\BL w wr/\w.heap.size<wr.heap.size/\wr.cell? ⟨w.heap.size,0,none⟩=some (.slice (some ⟨N,0,none⟩) ns.length S)/\
   Xv ns 0 []=(ks++(Xv (ns.drop i) i op).1,(Xv (ns.drop i) i op).2)) (fun _ _ t _=>ns.length-(intOf t).toNat)
 case atStart=>
  refine⟨0,[],[],w.heap.size+1,0,w.heap.size+2,0,[],X6 _,rfl,rfl,rfl,?_,?_,by omega,rfl,X4 _,⟨rfl,fun j h=>absurd h (U8 _)⟩,?_,by rw[Xb,Xb,Xb];omega,?_,rfl⟩
  .have:=XV (base:=w.heap.size+1) (e:=55) (size:=1) (w.alloc (.cells #[.slice (some ⟨N,0,none⟩) ns.length S] 25)) #[] 0 (by simp) (X6 _) rfl;rw[Xb]at this;exact this.alloc _
  .have:=XV (base:=w.heap.size+1) (e:=3) (size:=1) ((w.alloc (.cells #[.slice (some ⟨N,0,none⟩) ns.length S] 25)).alloc (.cells #[] 55)) #[] 0 (by simp) (X6 _) rfl;rw[Xb,Xb]at this;exact this
  .exact((bA _).alloc (by simp) _).alloc (by simp;omega) _
  .have h1:Below (w.heap.size+1) (w.alloc (.cells #[.slice (some ⟨N,0,none⟩) ns.length S] 25)) (((w.alloc (.cells #[.slice (some ⟨N,0,none⟩) ns.length S] 25)).alloc (.cells #[] 55)).alloc (.cells #[] 3)):=((X5 _ _).alloc (by simp) _).alloc (by simp) _;exact(h1.cell (p:=⟨w.heap.size,0,none⟩) (XI _)).trans (by simp)
 case round=>
  obtain⟨i,ks,op,n,c4,A,c5,B,g3,rfl,rfl,rfl,s,Q,hne,l,g6,M,X,a3,c8,he⟩:=hrel;have HE:=X1 he;have HR:=X1 M;clear he M;by_cases b1:i<ns.length
  .obtain⟨_,_,_,_,hK⟩:=HT.o.2 i b1;have a0:=(X.cell (p:=⟨N,i*5+4,none⟩) HT.o.1).trans hK;have b0:=X1 (Po ns i b1 op);have a2:=X1 (Pn ns i b1 op);generalize ns[i].kids=kd at *;clear hK;by_cases d4:kd<0
   .obtain⟨V,W⟩:=D7 HE.o (a2.o (.inl d4));have r:Hid (Xc ns=ks/\Kk ns=false):=X1 ⟨V,by unfold Kk;rw[W]⟩;clear V W;go_wp2;exact X7 (v:= .tuple #[.slice (some ⟨n,0,none⟩) i c4,.bool false]) (by simp[results,results17,go_sem]) rfl (by first|exact⟨n,c4,B,by rw[r.o.1,r.o.2,l],by rw[r.o.1,l];exact Wj s (by omega),by rw[r.o.1];exact HR.o.U1,X⟩|exact⟨n,c4,by rw[r.o.1,r.o.2,l],B,by rw[r.o.1,l];exact Wj s (by omega),by rw[r.o.1];exact HR.o.U1,X⟩)
   .by_cases b9:(op.length:Int)<kd
    .obtain⟨V,W⟩:=D7 HE.o (a2.o (.inr b9));have r:Hid (Xc ns=ks/\Kk ns=false):=X1 ⟨V,by unfold Kk;rw[W]⟩;clear V W;go_wp2;exact X7 (v:= .tuple #[.slice (some ⟨n,0,none⟩) i c4,.bool false]) (by simp[results,results17,go_sem]) rfl (by first|exact⟨n,c4,B,by rw[r.o.1,r.o.2,l],by rw[r.o.1,l];exact Wj s (by omega),by rw[r.o.1];exact HR.o.U1,X⟩|exact⟨n,c4,by rw[r.o.1,r.o.2,l],B,by rw[r.o.1,l];exact Wj s (by omega),by rw[r.o.1];exact HR.o.U1,X⟩)
    .obtain⟨k,rfl⟩:∃k:Nat,kd=k:=⟨kd.toNat,by omega⟩;obtain⟨m,hm⟩:∃m,op.length=m+k:=⟨op.length-k,by omega⟩;have hq:¬((m:Int)+(k:Int)<(k:Int)):=by omega
     have g7:decide ((m:Int)+(k:Int)<(k:Int))=false:=by simp;omega
     obtain⟨f5,g1,f2⟩:=Qx Q;obtain⟨_,g0,f1⟩:=Qx s;obtain⟨o5,d1,a6⟩:∃o5,(if c5=m then some (⟨A,0,none⟩:Addr)else some ⟨A,m,none⟩)=some ⟨A,o5,none⟩/\(0<k->o5=m):=by
      by_cases h:c5=m
      .exact⟨0,by rw[X3 h],fun _=>by omega⟩
      .exact⟨m,by rw[X2 h],fun _=>rfl⟩
     have d8:=X1 d1;have b3:=X1 a6;clear d1 a6;go_wp2_with(at_builtin;refine Yg _ rfl _ _ 55 rfl (w.heap.size+1) 3 iI (.int .i64 0) 1 8 underlying55 hI a9 a8 a7 rfl (by decide) (.slice (some ⟨wr.heap.size,0,none⟩) 0 0) 0 [] rfl (XV (base:=w.heap.size+1) wr #[] 0 a3 (X6 _) rfl) ⟨A,o5,none⟩ k (c5-m) ((op.drop m).map YW) (Zd (fun a=>Value.slice a k (c5-m)) d8.o) (by simp;omega) (Ee hm (Q.alloc _) b3.o) (Ot _) (by unfold maxLen;omega) (by omega) (by simp;omega) ?_);all_goals
      intro v1 w1 u c D Y;obtain⟨gn,cn,rfl,g2⟩:=IS u D (by simpa[Value.ownBlock]using Y);have g8:wr.heap.size<w1.heap.size:=by have:=c.size;simp at this;omega
      have f9:=(Qx u).2.2;have f3:wr.heap.size<=gn:=by omega
      have b4:BL w w1:=(X.alloc (by omega) _).grown c (by simp;omega) (fun q e=>by simp[Value.ownBlock]at e;omega);have c9:w1.cell? ⟨w.heap.size,0,none⟩=some (.slice (some ⟨N,0,none⟩) ns.length S):=(Xy (Vz c w.heap.size a3 (by simp[Value.ownBlock];omega))).trans c8;have a4:=(s.alloc _).kept c (.inr (by simp[Value.ownBlock];omega));have a5:=(Q.alloc _).kept c (.inr (by simp[Value.ownBlock];omega));have b6:∀q,q<wr.heap.size->w1.heap[q]?=wr.heap[q]?:=fun q hq=>Vz c q hq (by simp[Value.ownBlock];omega);have d6:=X1 b6;have L:=X1 u;clear c D Y u b6 s Q c8;go_wp2_with(at_builtin;refine Yg _ rfl _ _ 49 rfl (w.heap.size+1) 55 iR (.slice none 0 0) 1 24 underlying49 hR e9 e8 e7 rfl (by decide) (.slice (some ⟨n,0,none⟩) i c4) i B rfl (a4.alloc _) ⟨w1.heap.size,0,none⟩ 1 1 [.slice (some ⟨gn,0,none⟩) k cn] rfl rfl (UO _ _ _) (by simp[Value.oneCell']) (by unfold maxLen;omega) (by omega) (by simp;omega) ?_);intro v2 P y d E Z;obtain⟨g4',e4,rfl,f6⟩:=IS y E (by simpa[Value.ownBlock]using Z);have g9:w1.heap.size<P.heap.size:=by have:=d.size;simp at this;omega
      have f7:=(Qx y).2.2;have b5:BL w P:=(b4.alloc (by omega) _).grown d (by simp;omega) (fun q e=>by simp[Value.ownBlock]at e;omega);have d0:P.cell? ⟨w.heap.size,0,none⟩=some (.slice (some ⟨N,0,none⟩) ns.length S):=(Xy (Vz d w.heap.size (by omega) (by simp[Value.ownBlock];omega))).trans c9;have H:=(a5.alloc _).kept d (.inr (by simp[Value.ownBlock];omega));have b7:∀q,q<w1.heap.size->q≠n->P.heap[q]?=w1.heap[q]?:=fun q hq hne=>Vz d q hq (by simp[Value.ownBlock];omega);have d7:=X1 b7;have b2:=X1 y;clear d E Z y b7 a4 a5 c9 b4;have I:=S7 H m (by omega);have J:c5=m->P.ownsRow (w.heap.size+1) 3 1 (.slice (some ⟨A,0,none⟩) m m) m ((op.map YW).take m):=fun h=>by have q:=I;rwa[h]at q
      have d9:=X1 J;clear J;go_wp2_with(at_builtin;first|(refine Yg _ rfl _ _ 55 rfl (w.heap.size+1) 3 iI (.int .i64 0) 1 8 underlying55 hI a9 a8 a7 rfl (by decide) (.slice (some ⟨A,0,none⟩) m _) m _ rfl (I.alloc _) ⟨P.heap.size,0,none⟩ 1 1 [.int .i64 i] rfl rfl (UO _ _ _) (by simp[Value.oneCell']) (by unfold maxLen;omega) (by omega) (by simp;omega) ?_)|(refine Yg _ rfl _ _ 55 rfl (w.heap.size+1) 3 iI (.int .i64 0) 1 8 underlying55 hI a9 a8 a7 rfl (by decide) (.slice (some ⟨A,0,none⟩) m _) m _ rfl ((d9.o (by assumption)).alloc _) ⟨P.heap.size,0,none⟩ 1 1 [.int .i64 i] rfl rfl (UO _ _ _) (by simp[Value.oneCell']) (by unfold maxLen;omega) (by omega) (by simp;omega) ?_));intro v3 w3 K g F a1;obtain⟨g5',e5,rfl,f8⟩:=IS K F (by simpa[Value.ownBlock]using a1);have h0:P.heap.size<w3.heap.size:=by have:=g.size;simp at this;omega
      have e6:BL w w3:=(b5.alloc (by omega) _).grown g (by simp;omega) (fun q e=>by simp[Value.ownBlock]at e;omega);have f0:w3.cell? ⟨w.heap.size,0,none⟩=some (.slice (some ⟨N,0,none⟩) ns.length S):=(Xy (Vz g w.heap.size (by omega) (by simp[Value.ownBlock];omega))).trans d0;have d5:=(b2.o.alloc _).kept g (.inr (by simp[Value.ownBlock];omega));have b8:∀q,q<P.heap.size->q≠A->w3.heap[q]?=P.heap[q]?:=fun q hq hne=>Vz g q hq (by simp[Value.ownBlock];omega);have d2:(op.drop m).length=k:=by simp;omega
      have C:Yz w1 gn 0 (op.drop m):=by
       have q:=L.o;rw[←QB,←d2]at q;exact Mr q
      have z:=Y1s (g4':=g4') (g5':=g5') (cn:=cn) HR.o d2 d6.o d7.o b8 (by omega) (by omega) (by omega) (by omega) f3 f1 f2 (by omega) C (Qx L.o).1;have e0:=X1 z;clear g F a1 b8 C z H d0 b5 I;go_wp2;go_roundw
      case rel=>
       refine⟨i+1,ks++[op.drop m],op.take m++[i],g4',e4,g5',e5,_,by omega,by go_num,rfl,?_,d5,?_,by omega,by simp;omega,by simp;omega,e0.o,e6,by omega,f0,?_⟩
       .rw[Xo,YM,QL (by omega)];rfl
       .have f4:(op.take m++[i]).length=m+1:=by rw[Xo,YM,QL (by omega)];rfl
        have d3:(op.take m++[i]).map YW=(op.map YW).take m++[.int .i64 i]:=by rw[ZO,J7];rfl
        rw[f4,d3];exact K
       .rw[HE.o,b0.o k m rfl hm];simp
      case measure=>simp[intOf];omega
  .obtain⟨V,W⟩:=D7 HE.o (show Xv (ns.drop i) i op=([],some op) by rw[Yu (by omega)];rfl);have e3:Kk ns=(op.length==1):=by unfold Kk;rw[W]
   have E1:=X1 V;have r:=X1 e3;clear V W e3;by_cases h1:op.length=1
   .go_wp2;exact X7 (v:= .tuple #[.slice (some ⟨n,0,none⟩) i c4,.bool true]) (by simp[results,results17,go_sem]) rfl ⟨n,c4,B,by rw[E1.o,r.o,l,h1];rfl,by rw[E1.o,l];exact Wj s (by omega),by rw[E1.o];exact HR.o.U1,X⟩
   .have h2:((op.length:Int)==1)=false:=by simp;omega
    go_wp2;exact X7 (v:= .tuple #[.slice (some ⟨n,0,none⟩) i c4,.bool false]) (by simp[results,results17,go_sem]) rfl ⟨n,c4,B,by rw[E1.o,r.o,l,beq_false_of_ne h1],by rw[E1.o,l];exact Wj s (by omega),by rw[E1.o];exact HR.o.U1,X⟩
