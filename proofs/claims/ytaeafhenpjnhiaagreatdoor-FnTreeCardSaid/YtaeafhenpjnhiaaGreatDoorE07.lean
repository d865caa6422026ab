import Derived.Test.YtaeafhenpjnhiaaGreatDoorE05
import Derived.Test.YtaeafhenpjnhiaaGreatDoorE06
set_option maxHeartbeats 4000000
set_option maxRecDepth 100000
namespace Go.Proofs.YtaeafhenpjnhiaaGreatDoor
open Tryz Go.RowKit
variable (gb rb:Nat) (vb:Value) (n:Nat)
theorem CJ[LB]{w:World}{B g c k:Nat}{e:TypeId}{a:List Value}(h:w.ownsRow B e 2 (.l g k c) k a){j:Nat}{u:Value}(d:a[j]?=some u):w.cell? ⟨g,j,none⟩=some u:=by
 have:=h.cells rfl j u d
 rwa[Y8,Xu]at this
def GMk[LB](q m k:Nat)(w:World)(e:Ending)(w':World):Prop:=∃v l,e= .returned v/\NR w' v l/\0<l.length/\l.length<=m/\Gn gb rb vb n (q+m) k w'/\Ty w w'
def GOk[LB](q m k:Nat)(w:World)(e:Ending)(w':World):Prop:=∃v l b,e= .returned (.tuple #[v,.bool b])/\(b=true->NR w' v l/\0<l.length/\l.length<=m)/\(b=false->Gn gb rb vb n (q+1) k w')/\Gn gb rb vb n (q+m) k w'/\Ty w w'/\∃p i c,v= .slice p i c
theorem Xag[LB](q k:Nat)(d:Int)(w:World)(h:Gn gb rb vb n q k w)(hq:q<=800000000):Calls prog 131 #[.p gb,.q d] w (GOk gb rb vb n q 1 k w):=by
 have W:=h.c0;obtain⟨v,xs,n1,n2,n3⟩:=h.nm;obtain⟨vp,vc,rfl⟩:=XA n2;have a3:=h.km;have Q:=X1 (h.Xdt (by omega) k (by omega));clear n2 n3 h;go_enter func131,ntmps131;go_wp2_with fail;go_fit Q.o;rintro e w1⟨z,hz,rfl,u,A,a5⟩;have H:=X1 u;have I:=X1 A;clear u A Q W n1;go_wp2_with fail;go_loopw[8] (fun t wr=>∃(i:Nat),i<=k/\t= .q i/\Gn gb rb vb n (q+1) k wr/\Ty w wr) (fun t _=>k-(intOf t).toNat)
 case atStart=>exact⟨0,Xb _,rfl,H.o,I.o⟩
 case round=>
  obtain⟨i,hi,rfl,j,C⟩:=hrel;by_cases a4:i<k
  .obtain⟨v,xs,n1,n2,n3⟩:=j.nm;obtain⟨g,c,hv⟩:∃g c,v= .l g k c:=by
    rcases n2.2 with⟨_,h0⟩|⟨g,c,_,h2,_⟩
    .omega
    .exact⟨g,c,h2⟩
   subst hv;have M:(z+i)%k<k:=Wt _ (by omega);have e1:((z:Int)+(i:Int))%(k:Int)=(((z+i)%k:Nat):Int):=by simp
   have e2:((z:Int)+(i:Int)).tmod (k:Int)=(((z+i)%k:Nat):Int):=by rw[UY (by omega)];exact e1
   have e3:IntKind.i64.wrap ((z:Int)+(i:Int))=(z:Int)+(i:Int):=by rw[Yp];omega
   have a1:¬k=0:=by omega
   generalize(z+i)%k=x at *;obtain⟨s,E,U,V⟩:=n3 x M;have X:=CJ n2 U;have d2:=CJ n2 V;have bx:=(X8 wr.heap.size wr).alloc (X5 _) (.cells #[.t #[],.q 0] 171);have a6:=(bx.cell (p:=⟨gb,1,none⟩) j.lt).trans n1;have Z:=(bx.cell (p:=⟨g,x*2,none⟩) ((n2.lt g rfl).2)).trans X;have a0:=(bx.cell (p:=⟨g,x*2+1,none⟩) ((n2.lt g rfl).2)).trans d2;have m:=X1 j;have B:=X1 C;have HX:=X1 bx;clear j C n2 n3 U V bx;by_cases y:E=d
   .subst y;go_wp2_with fail;go_region;all_goals
     have a:Hid (BL wr (wr.alloc (.cells #[.string s,.q E] 171)).drew):=X1 (bA _).drew;go_wp2_with fail;go_fit(Lr s _);rintro e w9⟨v9,l9,rfl,K,S,m9,L⟩;obtain⟨g9,c9,O⟩:=K.form S;subst O;have r:=X1 ((m.o.below a.o).below L);have J:=X1 ((B.o.trans (.of a.o)).trans (.of L));have F:=X1 K;clear K L;go_wp2;go_ret2;exact⟨_,l9,true,rfl,fun _=>⟨F.o,S,m9⟩,fun _=>r.o,r.o,J.o,_,_,_,rfl⟩
   .have a2:(E==d)=false:=by simpa using y
    go_wp2_with fail;go_region;all_goals
     have a:Hid (BL wr (wr.alloc (.cells #[.string s,.q E] 171)).drew):=X1 (bA _).drew;go_wp2;go_roundw
     case rel=>exact⟨i+1,by omega,by go_num,m.o.below a.o,B.o.trans (.of a.o)⟩
     case measure=>simp[intOf];omega
  .have N:i=k:=by omega
   subst N;have m:=X1 j;have B:=X1 C;clear j C;go_wp2;go_ret2;exact⟨_,[],false,rfl,(fun h=>by cases h),fun _=>m.o.below (bA _),m.o.below (bA _),B.o.trans (.of (bA _)),_,_,_,rfl⟩
theorem Oe:(prog.info? 171).map (fun i=>(i.zero,i.size,i.bytes))=some (some (.agg #[.string ⟨#[]⟩,.int .i64 0]),2,24):=by kernel_rfl
theorem UD.snoc[LB]{a:List Value}{k:Nat}(h:UD a k)(d:a.length=k*2)(s:XJ)(z:Int):UD (a++[.string s,.int .i64 z]) (k+1):=fun i hi=>by
 by_cases m:i<k
 .obtain⟨r,u,g,j⟩:=h i m
  exact⟨r,u,by rw[Jt (by omega)];exact g,by rw[Jt (by omega)];exact j⟩
 .obtain rfl:i=k:=by omega
  exact⟨s,z,by rw[Q7 (by omega),d];simp,by rw[Q7 (by omega),d,show i*2+1-i*2=1 from by omega];rfl⟩
theorem UD.take[LB]{a:List Value}{k m:Nat}(h:UD a k)(hm:m<=k):UD (a.take (m*2)) m:=fun i hi=>by
 obtain⟨j,r,d,g⟩:=h i (by omega)
 exact⟨j,r,by rw[List.getElem?_take_of_lt (by omega)];exact d,by rw[List.getElem?_take_of_lt (by omega)];exact g⟩
theorem CO[LB]{w:World}{B g c k m:Nat}{e:TypeId}{size:Nat}{r:List Value}(h:w.ownsRow B e size (.slice (some ⟨g,0,none⟩) k c) k r)(hm:m<=k):w.ownsRow B e size (.slice (some ⟨g,0,none⟩) m c) m (r.take (m*size)):=by
 have d:m*size<=k*size:=Vz _ hm;refine⟨by rw[YO,h.1];omega,?_⟩;rcases h.2 with⟨s,_⟩|⟨F,j,a,E,u,v,H,y,A,C⟩
 .cases s
 .cases E;exact .inr ⟨g,c,a,rfl,u,v,by omega,y,A,by rw[←C,Mm,Jv d]⟩
theorem D9[LB]{w:World}{B g c k:Nat}{e:TypeId}{size:Nat}{u:List Value}(h:w.ownsRow B e size (.slice (some ⟨g,0,none⟩) k c) k u):k<=c/\c<=maxLen:=by
 rcases h.2 with⟨j,_⟩|⟨v,a,d,s,y,A,m,r,_⟩
 .cases j
 .cases s;exact⟨m,r⟩
variable (gb rb:Nat) (vb:Value) (n:Nat)
def EAt[LB](d kd:Nat):Prop:=∀(q k:Nat) (kind:Int) (w:World),Gn gb rb vb n q k w->q+kd<=700000000->k+d<=900->Calls prog 99 #[.pointer (some ⟨gb,0,none⟩),.int .i64 kind,.int .i64 (d:Int)] w (GMk gb rb vb n q kd k w)
theorem AT[LB](d kd:Nat)(HE:EAt gb rb vb n d kd)(q k:Nat)(s:XJ)(r K:Int)(w:World)(h:Gn gb rb vb n q k w)(hq:q+kd<=700000000)(hk:k+1+d<=900):Calls prog 118 #[.pointer (some ⟨gb,0,none⟩),.string s,.int .i64 r,.int .i64 K,.int .i64 (d:Int)] w (GMk gb rb vb n q kd k w):=by
 obtain⟨iN,hN,a0,Z,X⟩:=YK Oe;obtain⟨v,xs,n1,n2,n3⟩:=h.nm;obtain⟨vp,vc,rfl⟩:=XA n2;have a2:=n2.1;have a1:=h.lt;have a9:=h.up;have bx:=(X8 w.heap.size w).alloc (X5 _) (.cells #[.string s,.int .i64 r] 171);have j:=X1 (h.below bx);have I:=(bx.cell (p:=⟨gb,1,none⟩) a1).trans n1;have u:=X1 (n2.alloc (.cells #[.string s,.int .i64 r] 171));have HS:=X1 (n3.snoc a2 s r);have V:Hid (Ty w (w.alloc (.cells #[.string s,.int .i64 r] 171))):=X1 (.of bx);have f1:=h.fr 1;have M:=X1 HE;clear h n2 n3 bx HE;go_enter func118,ntmps118;go_wp2_with(at_builtin;refine YY _ rfl _ _ 125 rfl (rb+1) 171 iN _ 2 24 underlying125 hN a0 Z X rfl (by decide) _ k xs rfl u.o ⟨w.heap.size,0,none⟩ 1 1 [.string s,.int .i64 r] rfl rfl (Qr _ [_,_] _ _ rfl) (by simp[Value.oneCell']) (by unfold maxLen;omega) (by omega) (by simp;omega) ?_);intro v5 w5 r1 r2 r3 r4;have q5:=(XQ (a:=⟨gb,1,none⟩) (r2.block gb j.o.lt (fun e=>by have B:=KH u.o e.symm;rw[j.o.ty]at B;cases B))).trans I;have q6:=(ZC (a:=⟨gb,1,none⟩) (r2.block gb j.o.lt (fun e=>by have B:=KH u.o e.symm;rw[j.o.ty]at B;cases B))).trans (j.o.fr 1);obtain⟨g5,c5,a3⟩:∃g c,v5= .slice (some ⟨g,0,none⟩) (k+1) c:=by
  rcases r1.2 with⟨_,h0⟩|⟨g,c,_,W,_⟩
  .omega
  .exact⟨g,c,W⟩
 subst a3;have N:=X1 (j.o.push I r2 r1 HS.o (by omega));have S:Hid (Ty w (w5.setCell ⟨gb,1,none⟩ (.slice (some ⟨g5,0,none⟩) (k+1) c5))):=X1 ((V.o.trans (.grown r2 (fun b F=>by rw[KH u.o F];exact .inr (.inr rfl)) (fun b F=>by rw[KH u.o F];decide) (fun b F=>Xz j.o.lo (Mo (u.o.lt b F).1)))).trans (.set (by rw[KI (r2.block gb j.o.lt (fun e=>by have B:=KH u.o e.symm;rw[j.o.ty]at B;cases B))];exact j.o.Up) (by decide)));clear r1 r2 r3 r4;go_wp2_with fail;go_fit(M.o _ _ _ _ N.o (by omega) (by omega));rintro e w6⟨v6,l6,rfl,E,p6,m6,y,H⟩;obtain⟨gq,cq,a5⟩:=E.form p6;subst a5;obtain⟨v7,b1,b0,A,J⟩:=y.nm;obtain⟨g7,L,a4⟩:∃g c,v7= .slice (some ⟨g,0,none⟩) (k+1) c:=by
  rcases A.2 with⟨_,h0⟩|⟨g,c,_,W,_⟩
  .omega
  .exact⟨g,c,W⟩
 subst a4;have C:=D9 A;have a8:k<=L:=by omega
 have a7:L<=9223372036854775807:=by have:=C.2;unfold maxLen at this;omega
 have a6:=y.fr 1;have O:=X1 (y.names (CO A (m:=k) (by omega)) (J.take (by omega)) (by omega));have U:Hid (Ty w (w6.setCell ⟨gb,1,none⟩ (.slice (some ⟨g7,0,none⟩) k L))):=X1 ((S.o.trans H).trans (.set y.Up (by decide)));have Q:Hid (NR (w6.setCell ⟨gb,1,none⟩ (.slice (some ⟨g7,0,none⟩) k L)) _ _):=X1 (E.ty (.set y.Up (by decide)));clear y H E A J C;go_wp2;go_ret;exact⟨_,_,rfl,Q.o,p6,m6,O.o,U.o⟩
abbrev NL:=List (Value × List Nd)
def NRs(w:World):NL->Prop
 | []=>True
 | x::r=>(NR w x.1 x.2/\0<x.2.length)/\NRs w r
theorem NRs.ty[LB]{w w':World}(a:Ty w w'):∀{L:NL},NRs w L->NRs w' L
 | [],_=>trivial
 | _::_,h=>⟨⟨h.1.1.ty a,h.1.2⟩,NRs.ty a h.2⟩
structure GB [LB] (gb rb:Nat) (vb:Value) (n:Nat) (W0:World) (L:NL) (q k:Nat) (w:World):Prop where
 g:Gn gb rb vb n q k w
 t:Ty W0 w
 n:NRs w L
variable {gb rb:Nat} {vb:Value} {n:Nat} {W0 w w':World} {L:NL} {q k m:Nat}
theorem Gn.B0[LB](h:Gn gb rb vb n q k w):GB gb rb vb n w [] q k w:=⟨h,.refl w,trivial⟩
theorem GB.al[LB](B:GB gb rb vb n W0 L q k w)(o:Obj):GB gb rb vb n W0 L q k (w.alloc o):=
 have b:=bA o
 ⟨B.g.below b,B.t.trans (.of b),B.n.ty (.of b)⟩
theorem GB.pop[LB]{x:Value × List Nd}(B:GB gb rb vb n W0 (x::L) q k w):GB gb rb vb n W0 L q k w:=⟨B.g,B.t,B.n.2⟩
theorem GB.sw[LB]{x y:Value × List Nd}(B:GB gb rb vb n W0 (x::y::L) q k w):GB gb rb vb n W0 (y::x::L) q k w:=⟨B.g,B.t,B.n.2.1,B.n.1,B.n.2.2⟩
theorem GB.up[LB]{q':Nat}(B:GB gb rb vb n W0 L q k w)(h:q<=q'):GB gb rb vb n W0 L q' k w:=⟨B.g.mono h,B.t,B.n⟩
def GN[LB](gb rb:Nat)(vb:Value)(n:Nat)(W0:World)(L:NL)(q m k:Nat)(e:Ending)(w':World):Prop:=∃g c l,e= .returned (.l g (List.length l) c)/\l.length<=m/\w'.cell? ⟨gb,0,none⟩=some (.p rb)/\GB gb rb vb n W0 ((.l g l.length c,l)::L) q k w'
theorem GB.nd[LB](B:GB gb rb vb n W0 L q k w){f:FuncId}{j:Array Value}(h:Calls prog f j w (GMk gb rb vb n q m k w)):Calls prog f j w (GN gb rb vb n W0 L (q+m) m k):=h.mono fun _ w' ⟨v,l,e,n1,n2,n3,a,d⟩=>by
 obtain⟨g,c,rfl⟩:=n1.form n2
 exact⟨g,c,l,e,n3,a.c0,a,B.t.trans d,⟨n1,n2⟩,B.n.ty d⟩
theorem GB.mo[LB](B:GB gb rb vb n W0 L q k w){f:FuncId}{d:Array Value}(h:Calls prog f d w (Mk w m)):Calls prog f d w (GN gb rb vb n W0 L q m k):=h.mono fun _ w' ⟨v,l,e,n1,n2,n3,a⟩=>by
 obtain⟨g,c,rfl⟩:=n1.form n2
 exact⟨g,c,l,e,n3,(B.g.below a).c0,B.g.below a,B.t.trans (.of a),⟨n1,n2⟩,B.n.ty (.of a)⟩
theorem GB.pk[LB](B:GB gb rb vb n W0 L q k w)(m:Int)(h:q<=900000000/\1<=m/\m<=1000000):Calls prog 22 #[.p rb,.q m] w fun e w'=>∃z:Nat,(z:Int)<m/\e= .returned (.q (z:Int))/\w'.c gb 0=some (.p rb)/\GB gb rb vb n W0 L (q+1) k w':=(B.g.pick h.1 m h.2.1 h.2.2).mono fun _ _ ⟨z,j,e,a,d⟩=>⟨z,j,e,a.c0,a,B.t.trans d,B.n.ty d⟩
theorem GB.st[LB]{j:Nat}(B:GB gb rb vb n W0 L q k w){f:FuncId}{g:Array Value}(h:Calls prog f g w fun e w'=>∃t:XJ,e= .returned (.string t)/\Gn gb rb vb n (q+j) k w'/\Ty w w'):Calls prog f g w fun e w'=>∃t:XJ,e= .returned (.string t)/\w'.c gb 0=some (.p rb)/\GB gb rb vb n W0 L (q+j) k w':=h.mono fun _ _ ⟨t,e,a,d⟩=>⟨t,e,a.c0,a,B.t.trans d,B.n.ty d⟩
theorem GB.lk[LB](B:GB gb rb vb n W0 L q k w){t:TypeId}(a:List Value)(E:¬XL (some t)){C:Value->Prop}(y:∀v∈a,C v)(h:q<=900000000/\1<=a.length/\a.length<=1000000):Calls prog 22 #[.p rb,.q a.length] (w.z a.toArray t) fun e w'=>∃(z:Nat) (u:Value),(z:Int)<a.length/\e= .returned (.q (z:Int))/\C u/\w'.c w.heap.size z=some u/\w'.c gb 0=some (.p rb)/\GB gb rb vb n W0 L (q+1) k w':=
 ((B.al (.cells a.toArray t)).g.pick h.1 a.length (by omega) (by omega)).mono fun _ w' ⟨z,F,e,s,j⟩=>by
   have B':=B.al (.cells a.toArray t);have d:z<a.length:=by omega
   have A:=Yz (Y4 (base:=0) (e:=t) (size:=1) w a.toArray a.length (Xb _) (by unfold maxLen;omega) (by simp)) j E;have r:=A.cells rfl z _ (K0 d);rw[Y8,Xu]at r;exact⟨z,a[z],F,e,y _ (YJ d),r,s.c0,s,B'.t.trans j,B'.n.ty j⟩
def sC(v:Value):Prop:=∃u:XJ,v= .string u
def iC(v:Value):Prop:=∃u:Int,u<9223372036854775808/\v= .q u
def sB:Value->Bool
 | .string u=>u.size<=1000000
 | _=>false
theorem Y0m{a:List Value}(h:a.all sB=true):∀v∈a,sC v:=fun v d=>by
 have:=Ua.1 h v d
 cases v<;>simp[sB]at this
 exact⟨⟨_,this⟩,rfl⟩
def iB:Value->Bool
 | .int .i64 u=>decide (u<9223372036854775808)
 | _=>false
theorem X2r{a:List Value}(h:a.all iB=true):∀v∈a,iC v:=fun v d=>by
 have:=Ua.1 h v d
 unfold iB at this
 split at this
 .exact⟨_,Qn this,rfl⟩
 .cases this
theorem Xab[LB]:¬XL (some 9):=by unfold XL;simp
theorem Xaa[LB]:¬XL (some 2):=by unfold XL;simp
theorem Bz[LB]:¬XL (some 3):=by unfold XL;simp
theorem GB.sk[LB](B:GB gb rb vb n W0 L q k w)(a:List Value)(m:Int)(hm:(a.length:Int)=m)(r:a.all sB=true)(h:q<=900000000/\1<=m/\m<=1000000):Calls prog 22 #[.p rb,.q m] (w.z a.toArray 9) fun e w'=>∃(z:Nat) (u:XJ),(z:Int)<m/\e= .returned (.q (z:Int))/\w'.c w.heap.size z=some (.string u)/\w'.c gb 0=some (.p rb)/\GB gb rb vb n W0 L (q+1) k w':=hm ▸ (B.lk a Xab (Y0m r) (by omega)).mono fun _ _ ⟨z,_,d,g,⟨u,rfl⟩,j⟩=>⟨z,u,d,g,j⟩
theorem GB.ik[LB](B:GB gb rb vb n W0 L q k w){t:TypeId}(s:¬XL (some t))(a:List Value)(m:Int)(hm:(a.length:Int)=m)(r:a.all iB=true)(h:q<=900000000/\1<=m/\m<=1000000):Calls prog 22 #[.p rb,.q m] (w.z a.toArray t) fun e w'=>∃(z:Nat) (u:Int),((z:Int)<m/\u<9223372036854775808)/\e= .returned (.q (z:Int))/\w'.c w.heap.size z=some (.q u)/\w'.c gb 0=some (.p rb)/\GB gb rb vb n W0 L (q+1) k w':=hm ▸ (B.lk a s (X2r r) (by omega)).mono fun _ _ ⟨z,_,d,g,⟨u,v,rfl⟩,j⟩=>⟨z,u,⟨d,v⟩,g,j⟩
theorem GB.ret[LB]{v:Value}{l:List Nd}{q0:Nat}(B:GB gb rb vb n W0 ((v,l)::L) q k w)(a:l.length<=m/\q<=q0+m):GMk gb rb vb n q0 m k W0 (.returned v) w:=⟨v,l,rfl,B.n.1.1,B.n.1.2,a.1,B.g.mono a.2,B.t⟩
theorem GB.bx[LB](B:GB gb rb vb n W0 L q k w)(d:Nd)(a:Sm d:=by first|exact⟨XJ.le _,n0⟩|exact⟨YM rfl,n0⟩|exact⟨by assumption,n0⟩|assumption|exact⟨YM rfl,by decide⟩):GB gb rb vb n W0 ((.l w.heap.size 1 1,[d])::L) q k (w.z #[.q d.kind,.q d.op,.q d.n,.string d.text,.q d.kids] 64):=
 have B':=B.al (.cells #[.q d.kind,.q d.op,.q d.n,.string d.text,.q d.kids] 64)
 ⟨B'.g,B'.t,⟨Gv w d a,Nat.one_pos⟩,B'.n⟩
theorem GB.e[LB]{d kd:Nat}{a:Int}(B:GB gb rb vb n W0 L q k w)(j:EAt gb rb vb n d kd)(h:q+kd<=700000000/\k+d<=900):Calls prog 99 #[.p gb,.q a,.q (d:Int)] w (GN gb rb vb n W0 L (q+kd) kd k):=B.nd (j _ _ _ _ B.g h.1 h.2)
theorem GB.i[LB]{d kd:Nat}{s:XJ}{a j:Int}(B:GB gb rb vb n W0 L q k w)(r:EAt gb rb vb n d kd)(h:q+kd<=700000000/\k+1+d<=900):Calls prog 118 #[.p gb,.string s,.q a,.q j,.q (d:Int)] w (GN gb rb vb n W0 L (q+kd) kd k):=B.nd (AT gb rb vb n d kd r _ _ _ _ _ _ B.g h.1 h.2)
theorem GB.f[LB](B:GB gb rb vb n W0 L q k w)(h:q<=900000000):Calls prog 117 #[.p gb] w fun e w'=>∃t:XJ,e= .returned (.string t)/\w'.c gb 0=some (.p rb)/\GB gb rb vb n W0 L (q+1) k w':=B.st (Aq gb rb vb n _ _ _ B.g h)
section
variable {v1 v2 v3:Value} {l1 l2 l3:List Nd}
theorem GB.o1[LB](B:GB gb rb vb n W0 ((v1,l1)::L) q k w)(d:Nd)(h:l1.length<=100000000)(a:Sm d:=by first|exact⟨XJ.le _,n0⟩|exact⟨YM rfl,n0⟩|exact⟨by assumption,n0⟩|assumption|exact⟨YM rfl,by decide⟩):Calls prog 66 #[ndV d,.l w.heap.size 1 1] (w.z #[v1] 23) (GN gb rb vb n W0 L q (l1.length+1) k):=(B.pop.al _).mo (ZW d [_] _ _ _ (pr1 B.n.1.1 B.n.1.2) (by rw[fl1];exact X5 _) h (by simp) a)
theorem GB.o2[LB](B:GB gb rb vb n W0 ((v2,l2)::(v1,l1)::L) q k w)(d:Nd)(h:l1.length+l2.length<=100000000)(a:Sm d:=by first|exact⟨XJ.le _,n0⟩|exact⟨YM rfl,n0⟩|exact⟨by assumption,n0⟩|assumption|exact⟨YM rfl,by decide⟩):Calls prog 66 #[ndV d,.l w.heap.size 2 2] (w.z #[v1,v2] 23) (GN gb rb vb n W0 L q (l1.length+l2.length+1) k):=(B.pop.pop.al _).mo (ZW d [_,_] _ _ _ (pr2 B.n.2.1.1 B.n.1.1 B.n.2.1.2 B.n.1.2) (by rw[fl2];exact X5 _) h (by simp) a)
theorem GB.o3[LB](B:GB gb rb vb n W0 ((v3,l3)::(v2,l2)::(v1,l1)::L) q k w)(d:Nd)(h:l1.length+l2.length+l3.length<=100000000)(a:Sm d:=by first|exact⟨XJ.le _,n0⟩|exact⟨YM rfl,n0⟩|exact⟨by assumption,n0⟩|assumption|exact⟨YM rfl,by decide⟩):Calls prog 66 #[ndV d,.l w.heap.size 3 3] (w.z #[v1,v2,v3] 23) (GN gb rb vb n W0 L q (l1.length+l2.length+l3.length+1) k):=(B.pop.pop.pop.al _).mo (ZW d [_,_,_] _ _ _ (pr3 B.n.2.2.1.1 B.n.2.1.1 B.n.1.1 B.n.2.2.1.2 B.n.2.1.2 B.n.1.2) (by rw[fl3];exact X5 _) h (by simp) a)
theorem GB.n1[LB](B:GB gb rb vb n W0 ((v1,l1)::L) q k w)(s:ByteArray)(h:l1.length<=10000000)(a:s.size<=1000000:=by first|exact XJ.le _|exact YM rfl|assumption):Calls prog 135 #[.string s,.l w.heap.size 1 1] (w.z #[v1] 23) (GN gb rb vb n W0 L q (l1.length+2) k):=(B.pop.al _).mo (VL s [_] _ _ _ (pr1 B.n.1.1 B.n.1.2) (by rw[fl1];exact X5 _) h (by simp) (by simp) a)
theorem GB.n2[LB](B:GB gb rb vb n W0 ((v2,l2)::(v1,l1)::L) q k w)(s:ByteArray)(h:l1.length+l2.length<=10000000)(a:s.size<=1000000:=by first|exact XJ.le _|exact YM rfl|assumption):Calls prog 135 #[.string s,.l w.heap.size 2 2] (w.z #[v1,v2] 23) (GN gb rb vb n W0 L q (l1.length+l2.length+2) k):=(B.pop.pop.al _).mo (VL s [_,_] _ _ _ (pr2 B.n.2.1.1 B.n.1.1 B.n.2.1.2 B.n.1.2) (by rw[fl2];exact X5 _) h (by simp) (by simp) a)
theorem GB.n3[LB](B:GB gb rb vb n W0 ((v3,l3)::(v2,l2)::(v1,l1)::L) q k w)(s:ByteArray)(h:l1.length+l2.length+l3.length<=10000000)(a:s.size<=1000000:=by first|exact XJ.le _|exact YM rfl|assumption):Calls prog 135 #[.string s,.l w.heap.size 3 3] (w.z #[v1,v2,v3] 23) (GN gb rb vb n W0 L q (l1.length+l2.length+l3.length+2) k):=(B.pop.pop.pop.al _).mo (VL s [_,_,_] _ _ _ (pr3 B.n.2.2.1.1 B.n.2.1.1 B.n.1.1 B.n.2.2.1.2 B.n.2.1.2 B.n.1.2) (by rw[fl3];exact X5 _) h (by simp) (by simp) a)
theorem GB.bn[LB](B:GB gb rb vb n W0 ((v2,l2)::(v1,l1)::L) q k w)(op:Int)(h:l1.length+l2.length<=100000000):Calls prog 136 #[.q op,v1,v2] w (GN gb rb vb n W0 L q (l1.length+l2.length+1) k):=B.pop.pop.mo (T0 op _ _ _ _ _ _ B.n.2.1.1 B.n.1.1 B.n.2.1.2 B.n.1.2 (X5 _) h)
end
theorem GW{b a tc:Nat}{ts:List Sc.T}{sz:Nat}{v:Value}{s:Pr.Dk}{w:World}(h:DK b a tc ts sz v s w): Calls prog 59 #[.p b] w fun e w'=>e= .returned (.tuple #[])/\Jb b a tc ts sz v w (Z0 ts sz s) w':=(PO h).mono fun _ _ ⟨d,g,j⟩=>⟨d,v,g,j⟩
abbrev YS(k:Int)(x:Sc.T):Obj:= .cells #[.q k,.string ⟨x.text.toArray⟩,.q x.n,.q x.place] 101
theorem Vq(w:World)(b:Nat)(u:Value)(k:Int)(x:Sc.T)(a:b<w.heap.size): ((w.alloc (YS k x)).setCell ⟨b,2,none⟩ u).cell? ⟨w.heap.size,0,none⟩=some (.q k)/\((w.alloc (YS k x)).setCell ⟨b,2,none⟩ u).cell? ⟨w.heap.size,1,none⟩=some (.string ⟨x.text.toArray⟩)/\((w.alloc (YS k x)).setCell ⟨b,2,none⟩ u).cell? ⟨w.heap.size,2,none⟩=some (.q x.n):=by
 have e:∀j,((w.alloc (YS k x)).setCell ⟨b,2,none⟩ u).cell? ⟨w.heap.size,j,none⟩=(w.alloc (YS k x)).cell? ⟨w.heap.size,j,none⟩:=fun j=>Zt _ _ _ _ (fun e=>by have:=Yt Addr.block e;simp at this;omega);refine⟨(e 0).trans ?_,(e 1).trans ?_,(e 2).trans ?_⟩<;>simp[YS]
theorem Y1f{b tg tc:Nat}{ts:List Sc.T}{sz:Nat}{s:Pr.Dk}(b9:∀q:Pr.Dk,s.p<q.p->q.p<=ts.length->Pr.SE b tg tc ts sz q)(c0:∀q:Pr.Dk,s.p<q.p->q.p<=ts.length->Pr.SL b tg tc ts sz q)(c1:∀q:Pr.Dk,s.p<q.p->q.p<=ts.length->Pr.SR b tg tc ts sz q):Pr.SI b tg tc ts sz s:=by
 intro W w0 a1 hN;have h0:=a1.le;have hm:=a1.XP;have HT:=X1 (QP a1);have I:=X1 a1;have c5:=X1 (Pr.Gr.refl b W w0);have L:=X1 (Pr.Stp.refl h0);have c7:=a1.lt;clear a1;cases g:s.bad
 .by_cases k3:(X3 ts sz s).kind=3
  .have hk:(((X3 ts sz s).kind:Nat):Int)=3:=by omega
   have hp:s.p<ts.length:=QB (sz:=sz) (by omega);have t3:((X3 ts sz s).kind==3)=true:=by simp[k3]
   go_enter func128,ntmps128;go_wp2_with fail;go_fit HT.o;rintro e B⟨rfl,d⟩;unfold XB;rw[hk];have O:=d.size;have r:=d.trans (((X8 B.heap.size B).alloc (X5 _) (YS 3 (X3 ts sz s))).mono O);have a:=I.o.below r;have N:=a.c3;rw[g]at N;have c2:=a.c2;have f2:=a.fr 2;have V:=a.adv hp;obtain⟨y0,y1,y2⟩:=Vq B b (.q ((s.p:Int)+1)) 3 (X3 ts sz s) (by omega);have k:=X1 V;have m:=X1 ((Pr.Gr.below (b:=b) (v:=W) r).trans (.set W _ b 2 (.q ((s.p:Int)+1))));have j:=X1 (L.o.Z6 hp);clear d r a V;go_wp2_with fail;go_fit(up m (j.o.put 3 0 ((X3 ts sz s).n:Int) [] 0) (Yk k.o (j.o.len h0 hN) 3 0 ((X3 ts sz s).n:Int) [] 0));rintro e w2⟨rfl,v2,u,y,A⟩;go_wp2;refine Xw ?_;exact⟨(_,0),rfl,Pr.Cv.PA g t3,v2,u.o,y.o⟩
  .by_cases k4:(X3 ts sz s).kind=4
   .have hk:(((X3 ts sz s).kind:Nat):Int)=4:=by omega
    have hp:s.p<ts.length:=QB (sz:=sz) (by omega);have t4:((X3 ts sz s).kind==4)=true:=by simp[k4]
    have t3:((X3 ts sz s).kind==3)=false:=by simp[k3]
    go_enter func128,ntmps128;go_wp2_with fail;go_fit HT.o;rintro e B⟨rfl,d⟩;unfold XB;rw[hk];have O:=d.size;have r:=d.trans (((X8 B.heap.size B).alloc (X5 _) (YS 4 (X3 ts sz s))).mono O);have a:=I.o.below r;have N:=a.c3;rw[g]at N;have c2:=a.c2;have f2:=a.fr 2;have V:=a.adv hp;obtain⟨y0,y1,y2⟩:=Vq B b (.q ((s.p:Int)+1)) 4 (X3 ts sz s) (by omega);have k:=X1 V;have m:=X1 ((Pr.Gr.below (b:=b) (v:=W) r).trans (.set W _ b 2 (.q ((s.p:Int)+1))));have j:=X1 (L.o.Z6 hp);clear d r a V;go_wp2_with fail;go_fit(up m (j.o.put 4 0 0 (X3 ts sz s).text 0) (Yk k.o (j.o.len h0 hN) 4 0 0 (X3 ts sz s).text 0));rintro e w2⟨rfl,v2,u,y,A⟩;go_wp2;refine Xw ?_;exact⟨(_,0),rfl,Pr.Cv.PH g t3 t4,v2,u.o,y.o⟩
   .by_cases k1:(X3 ts sz s).kind=1
    .have hk:(((X3 ts sz s).kind:Nat):Int)=1:=by omega
     have hp:s.p<ts.length:=QB (sz:=sz) (by omega);have t1:((X3 ts sz s).kind==1)=true:=by simp[k1]
     have t3:((X3 ts sz s).kind==3)=false:=by simp[k3]
     have t4:((X3 ts sz s).kind==4)=false:=by simp[k4]
     go_enter func128,ntmps128;go_wp2_with fail;go_fit HT.o;rintro e B⟨rfl,d⟩;unfold XB;rw[hk];have O:=d.size;have r:=d.trans (((X8 B.heap.size B).alloc (X5 _) (YS 1 (X3 ts sz s))).mono O);have a:=I.o.below r;have N:=a.c3;rw[g]at N;have c2:=a.c2;have f2:=a.fr 2;have V:=a.adv hp;obtain⟨y0,y1,y2⟩:=Vq B b (.q ((s.p:Int)+1)) 1 (X3 ts sz s) (by omega);have k:=X1 V;have m:=X1 ((Pr.Gr.below (b:=b) (v:=W) r).trans (.set W _ b 2 (.q ((s.p:Int)+1))));have j:=X1 (L.o.Z6 hp);clear d r a V;go_wp2_with fail;go_fit(up m (j.o.put 5 0 0 (X3 ts sz s).text 0) (Yk k.o (j.o.len h0 hN) 5 0 0 (X3 ts sz s).text 0));rintro e w2⟨rfl,v2,u,y,A⟩;go_wp2;refine Xw ?_;exact⟨(_,0),rfl,Pr.Cv.PD g t3 t4 t1,v2,u.o,y.o⟩
    .have m3:¬(((X3 ts sz s).kind:Nat):Int)=3:=by omega
     have m4:¬(((X3 ts sz s).kind:Nat):Int)=4:=by omega
     have m1:¬(((X3 ts sz s).kind:Nat):Int)=1:=by omega
     have t3:((X3 ts sz s).kind==3)=false:=by simp[k3]
     have t4:((X3 ts sz s).kind==4)=false:=by simp[k4]
     have t1:((X3 ts sz s).kind==1)=false:=by simp[k1]
     cases i0:X4 ts sz s Zj
     .cases i1:X4 ts sz s ZK
      .cases i2:X4 ts sz s K4
       .cases i3:X4 ts sz s [91]
        .cases i4:X4 ts sz s [123]
         .cases i5:X4 ts sz s [40]
          .go_enter func128,ntmps128;go_wp2_with fail;go_fit HT.o;rintro e B⟨rfl,d⟩;unfold XB;have O:=d.size;have r:=d.trans (((X8 B.heap.size B).alloc (X5 _) (YS (((X3 ts sz s).kind:Nat):Int) (X3 ts sz s))).mono O);have a:=I.o.below r;have N:=a.c3;rw[g]at N;have k:=X1 a;have m:=X1 (Pr.Gr.below (b:=b) (v:=W) r);have j:=L;clear d r a;go_wp2_with fail;go_fit(up m (j.o) (XD k.o Zj #[110,111,110,101] rfl i0));rintro e w2⟨rfl,v2,u,y,A⟩;go_wp2_with fail;go_fit(up y (A.o) (XD u.o ZK #[102,97,108,115,101] rfl i1));rintro e w3⟨rfl,v3,E,F,C⟩;go_wp2_with fail;go_fit(up F (C.o) (XD E.o K4 #[116,114,117,101] rfl i2));rintro e w4⟨rfl,v4,J,K,H⟩;go_wp2_with fail;go_fit(up K (H.o) (XD J.o [91] #[91] rfl i3));rintro e w5⟨rfl,v5,Q,S,M⟩;go_wp2_with fail;go_fit(up S (M.o) (XD Q.o [123] #[123] rfl i4));rintro e w6⟨rfl,v6,X,Z,U⟩;go_wp2_with fail;go_fit(up Z (U.o) (XD X.o [40] #[40] rfl i5));rintro e w7⟨rfl,v7,a2,a3,a0⟩;go_wp2_with fail;go_fit(up a3 (a0.o.stop (sz:=sz)) (GW a2.o));rintro e w8⟨rfl,v8,a7,a8,b4⟩;go_wp2;refine Xw ?_;exact⟨(_,0),rfl,Pr.Cv.Ea g t3 t4 t1 i0 i1 i2 i3 i4 i5,v8,a7.o,a8.o⟩
          .go_enter func128,ntmps128;go_wp2_with fail;go_fit HT.o;rintro e B⟨rfl,d⟩;unfold XB;have O:=d.size;have r:=d.trans (((X8 B.heap.size B).alloc (X5 _) (YS (((X3 ts sz s).kind:Nat):Int) (X3 ts sz s))).mono O);have a:=I.o.below r;have N:=a.c3;rw[g]at N;have k:=X1 a;have m:=X1 (Pr.Gr.below (b:=b) (v:=W) r);have j:=L;clear d r a;go_wp2_with fail;go_fit(up m (j.o) (XD k.o Zj #[110,111,110,101] rfl i0));rintro e w2⟨rfl,v2,u,y,A⟩;go_wp2_with fail;go_fit(up y (A.o) (XD u.o ZK #[102,97,108,115,101] rfl i1));rintro e w3⟨rfl,v3,E,F,C⟩;go_wp2_with fail;go_fit(up F (C.o) (XD E.o K4 #[116,114,117,101] rfl i2));rintro e w4⟨rfl,v4,J,K,H⟩;go_wp2_with fail;go_fit(up K (H.o) (XD J.o [91] #[91] rfl i3));rintro e w5⟨rfl,v5,Q,S,M⟩;go_wp2_with fail;go_fit(up S (M.o) (XD Q.o [123] #[123] rfl i4));rintro e w6⟨rfl,v6,X,Z,U⟩;go_wp2_with fail;go_fit(up Z (U.o.adv i5) (YA X.o [40] #[40] rfl i5));rintro e w7⟨rfl,v7,a2,a3,a0⟩;have a6:=X1 (Pr.Stp.refl a0.o.le);go_wp2_with fail;go_fit(upc a3 a0 (b9 _ a6.o.ge a0.o.le _ _ a2.o (a0.o.phi h0 hN)));rintro e w8⟨r8,rfl,b3,v8,a7,a8,b4⟩;have b6:=X1 (a6.o.trans (b3.o.stp a6.o.le));go_wp2_with fail;go_fit(up a8 (b4.o.X7 (sz:=sz) [41]) (XW a7.o [41] #[41] rfl));rintro e w9⟨rfl,v9,b7,b8,c6⟩;have c4:=X1 (b6.o.X7 (sz:=sz) [41]);go_wp2;refine Xw ?_;exact⟨(_,0),rfl,Pr.Cv.PG g t3 t4 t1 i0 i1 i2 i3 i4 i5 b3.o,v9,b7.o,b8.o⟩
         .go_enter func128,ntmps128;go_wp2_with fail;go_fit HT.o;rintro e B⟨rfl,d⟩;unfold XB;have O:=d.size;have r:=d.trans (((X8 B.heap.size B).alloc (X5 _) (YS (((X3 ts sz s).kind:Nat):Int) (X3 ts sz s))).mono O);have a:=I.o.below r;have N:=a.c3;rw[g]at N;have k:=X1 a;have m:=X1 (Pr.Gr.below (b:=b) (v:=W) r);have j:=L;clear d r a;go_wp2_with fail;go_fit(up m (j.o) (XD k.o Zj #[110,111,110,101] rfl i0));rintro e w2⟨rfl,v2,u,y,A⟩;go_wp2_with fail;go_fit(up y (A.o) (XD u.o ZK #[102,97,108,115,101] rfl i1));rintro e w3⟨rfl,v3,E,F,C⟩;go_wp2_with fail;go_fit(up F (C.o) (XD E.o K4 #[116,114,117,101] rfl i2));rintro e w4⟨rfl,v4,J,K,H⟩;go_wp2_with fail;go_fit(up K (H.o) (XD J.o [91] #[91] rfl i3));rintro e w5⟨rfl,v5,Q,S,M⟩;go_wp2_with fail;go_fit(up S (M.o.adv i4) (YA Q.o [123] #[123] rfl i4));rintro e w6⟨rfl,v6,X,Z,U⟩;have a5:=X1 (Pr.Stp.refl U.o.le);go_wp2_with fail;go_fit(upc Z U (c1 _ a5.o.ge U.o.le _ _ X.o (U.o.phi h0 hN)));rintro e w7⟨r7,rfl,b2,v7,a2,a3,a0⟩;have a6:=X1 (a5.o.trans (b2.o.stp a5.o.le));go_wp2;refine Xw ?_;exact⟨_,rfl,Pr.Cv.PF g t3 t4 t1 i0 i1 i2 i3 i4 b2.o,v7,a2.o,a3.o⟩
        .go_enter func128,ntmps128;go_wp2_with fail;go_fit HT.o;rintro e B⟨rfl,d⟩;unfold XB;have O:=d.size;have r:=d.trans (((X8 B.heap.size B).alloc (X5 _) (YS (((X3 ts sz s).kind:Nat):Int) (X3 ts sz s))).mono O);have a:=I.o.below r;have N:=a.c3;rw[g]at N;have k:=X1 a;have m:=X1 (Pr.Gr.below (b:=b) (v:=W) r);have j:=L;clear d r a;go_wp2_with fail;go_fit(up m (j.o) (XD k.o Zj #[110,111,110,101] rfl i0));rintro e w2⟨rfl,v2,u,y,A⟩;go_wp2_with fail;go_fit(up y (A.o) (XD u.o ZK #[102,97,108,115,101] rfl i1));rintro e w3⟨rfl,v3,E,F,C⟩;go_wp2_with fail;go_fit(up F (C.o) (XD E.o K4 #[116,114,117,101] rfl i2));rintro e w4⟨rfl,v4,J,K,H⟩;go_wp2_with fail;go_fit(up K (H.o.adv i3) (YA J.o [91] #[91] rfl i3));rintro e w5⟨rfl,v5,Q,S,M⟩;have a4:=X1 (Pr.Stp.refl M.o.le);go_wp2_with fail;go_fit(upc S M (c0 _ a4.o.ge M.o.le _ _ Q.o (M.o.phi h0 hN)));rintro e w6⟨r6,rfl,b1,v6,X,Z,U⟩;have a5:=X1 (a4.o.trans (b1.o.stp a4.o.le));go_wp2;refine Xw ?_;exact⟨_,rfl,Pr.Cv.PC g t3 t4 t1 i0 i1 i2 i3 b1.o,v6,X.o,Z.o⟩
       .go_enter func128,ntmps128;go_wp2_with fail;go_fit HT.o;rintro e B⟨rfl,d⟩;unfold XB;have O:=d.size;have r:=d.trans (((X8 B.heap.size B).alloc (X5 _) (YS (((X3 ts sz s).kind:Nat):Int) (X3 ts sz s))).mono O);have a:=I.o.below r;have N:=a.c3;rw[g]at N;have k:=X1 a;have m:=X1 (Pr.Gr.below (b:=b) (v:=W) r);have j:=L;clear d r a;go_wp2_with fail;go_fit(up m (j.o) (XD k.o Zj #[110,111,110,101] rfl i0));rintro e w2⟨rfl,v2,u,y,A⟩;go_wp2_with fail;go_fit(up y (A.o) (XD u.o ZK #[102,97,108,115,101] rfl i1));rintro e w3⟨rfl,v3,E,F,C⟩;go_wp2_with fail;go_fit(up F (C.o.adv i2) (YA E.o K4 #[116,114,117,101] rfl i2));rintro e w4⟨rfl,v4,J,K,H⟩;have b0:=X1 (Pr.Stp.refl H.o.le);go_wp2_with fail;go_fit(up K (H.o.put 2 0 1 [] 0) (Yk J.o (H.o.len h0 hN) 2 0 1 [] 0));rintro e w5⟨rfl,v5,Q,S,M⟩;have a4:=X1 (b0.o.put 2 0 1 [] 0);go_wp2;refine Xw ?_;exact⟨(_,0),rfl,Pr.Cv.PI g t3 t4 t1 i0 i1 i2,v5,Q.o,S.o⟩
      .go_enter func128,ntmps128;go_wp2_with fail;go_fit HT.o;rintro e B⟨rfl,d⟩;unfold XB;have O:=d.size;have r:=d.trans (((X8 B.heap.size B).alloc (X5 _) (YS (((X3 ts sz s).kind:Nat):Int) (X3 ts sz s))).mono O);have a:=I.o.below r;have N:=a.c3;rw[g]at N;have k:=X1 a;have m:=X1 (Pr.Gr.below (b:=b) (v:=W) r);have j:=L;clear d r a;go_wp2_with fail;go_fit(up m (j.o) (XD k.o Zj #[110,111,110,101] rfl i0));rintro e w2⟨rfl,v2,u,y,A⟩;go_wp2_with fail;go_fit(up y (A.o.adv i1) (YA u.o ZK #[102,97,108,115,101] rfl i1));rintro e w3⟨rfl,v3,E,F,C⟩;have a9:=X1 (Pr.Stp.refl C.o.le);go_wp2_with fail;go_fit(up F (C.o.put 2 0 0 [] 0) (Yk E.o (C.o.len h0 hN) 2 0 0 [] 0));rintro e w4⟨rfl,v4,J,K,H⟩;have b0:=X1 (a9.o.put 2 0 0 [] 0);go_wp2;refine Xw ?_;exact⟨(_,0),rfl,Pr.Cv.Pz g t3 t4 t1 i0 i1,v4,J.o,K.o⟩
     .go_enter func128,ntmps128;go_wp2_with fail;go_fit HT.o;rintro e B⟨rfl,d⟩;unfold XB;have O:=d.size;have r:=d.trans (((X8 B.heap.size B).alloc (X5 _) (YS (((X3 ts sz s).kind:Nat):Int) (X3 ts sz s))).mono O);have a:=I.o.below r;have N:=a.c3;rw[g]at N;have k:=X1 a;have m:=X1 (Pr.Gr.below (b:=b) (v:=W) r);have j:=L;clear d r a;go_wp2_with fail;go_fit(up m (j.o.adv i0) (YA k.o Zj #[110,111,110,101] rfl i0));rintro e w2⟨rfl,v2,u,y,A⟩;have b5:=X1 (Pr.Stp.refl A.o.le);go_wp2_with fail;go_fit(up y (A.o.put 1 0 0 [] 0) (Yk u.o (A.o.len h0 hN) 1 0 0 [] 0));rintro e w3⟨rfl,v3,E,F,C⟩;have a9:=X1 (b5.o.put 1 0 0 [] 0);go_wp2;refine Xw ?_;exact⟨(_,0),rfl,Pr.Cv.PE g t3 t4 t1 i0,v3,E.o,F.o⟩
 .go_enter func128,ntmps128;go_wp2_with fail;go_fit HT.o;rintro e B⟨rfl,d⟩;unfold XB;have O:=d.size;have r:=d.trans (((X8 B.heap.size B).alloc (X5 _) (YS (((X3 ts sz s).kind:Nat):Int) (X3 ts sz s))).mono O);have a:=I.o.below r;have N:=a.c3;rw[g]at N;have k:=X1 a;have m:=X1 (Pr.Gr.below (b:=b) (v:=W) r);have j:=L;clear d r a;go_wp2;refine Xw ?_;exact⟨(s,0),rfl,Pr.Cv.Y1e g,W,k.o,m.o⟩
