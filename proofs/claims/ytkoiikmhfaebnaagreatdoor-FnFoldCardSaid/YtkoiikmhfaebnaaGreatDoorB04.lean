import Derived.Test.YtkoiikmhfaebnaaGreatDoorB02
import Derived.Test.YtkoiikmhfaebnaaGreatDoorB03
set_option maxHeartbeats 4000000
set_option maxRecDepth 100000
namespace Go.Proofs.YtkoiikmhfaebnaaGreatDoor
open Tryz Go.RowKit
theorem Ga:(prog.info? 23).map (fun i=>(i.zero,i.size,i.bytes))=some (some (.slice none 0 0),1,24):=by kernel_rfl
theorem MA[LB]:¬XS (some 23):=by unfold XS;simp
def PR(w:World)(v:Value)(ls:List (List Nd)):Prop:=∃vs:List Value,w.ownsRow 0 23 1 v ls.length vs/\∀i (h:i<ls.length),∃u,vs[i]?=some u/\NR w u ls[i]/\0<ls[i].length
theorem E4[LB]:¬VU (some 23):=by unfold VU XS;simp
theorem PR.tf[LB]{w w':World}{v:Value}{ls:List (List Nd)}(h:PR w v ls)(d:Tf w w'):PR w' v ls:=by
 obtain⟨k,g,j⟩:=h;exact⟨k,YL g d E4,fun i hi=>by obtain⟨u,a,b,c⟩:=j i hi;exact⟨u,a,b.tf d,c⟩⟩
theorem PR.ty[LB]{w w':World}{v:Value}{ls:List (List Nd)}(h:PR w v ls)(d:Ty w w'):PR w' v ls:=by
 obtain⟨k,g,j⟩:=h;exact⟨k,YL g d MA,fun i hi=>by obtain⟨u,a,b,c⟩:=j i hi;exact⟨u,a,b.ty d,c⟩⟩
theorem NR.below[LB]{w w':World}{v:Value}{l:List Nd}(h:NR w v l)(a:BL w w'):NR w' v l:=h.ty (.of a)
theorem PR.below[LB]{w w':World}{v:Value}{ls:List (List Nd)}(h:PR w v ls)(a:BL w w'):PR w' v ls:=h.ty (.of a)
theorem NR.form[LB]{w:World}{v:Value}{l:List Nd}(h:NR w v l)(j:0<l.length):∃g c,v= .slice (some ⟨g,0,none⟩) l.length c:=by
 rcases h.1.2 with⟨_,d⟩|⟨g,c,_,a,_⟩
 .omega
 .exact⟨g,c,a⟩
theorem Y1z[LB]{w:World}{ls:List (List Nd)}{j:List Value}(h:∀i (h:i<ls.length),∃u,j[i]?=some u/\NR w u ls[i]/\0<ls[i].length):Sh ls.flatten:=fun x g=>by
 obtain⟨l,c,a⟩:=List.mem_flatten.1 g
 obtain⟨i,hi,rfl⟩:=OZ c
 obtain⟨u,_,d,_⟩:=h i hi
 exact d.2 x a
theorem Oa[LB]{d:Nd}(h:Sm d):Sh [d]:=fun x a=>by
 obtain rfl:=QZ.1 a
 exact h
theorem O9[LB]{a b:List Nd}(c:Sh a)(d:Sh b):Sh (a++b):=fun x g=>(K7.1 g).elim (c x) (d x)
theorem C1[LB]{ls:List (List Nd)}{i:Nat}(h:i<ls.length):(ls.take (i+1)).flatten=(ls.take i).flatten++ls[i]:=by
 rw[Kt h,UA];simp
theorem X5x[LB]{ls:List (List Nd)}{i:Nat}(h:i<ls.length):(ls.take i).flatten.length+ls[i].length<=ls.flatten.length:=by
 have e:ls.flatten=(ls.take (i+1)).flatten++(ls.drop (i+1)).flatten:=by rw[←UA,Vh]
 rw[e,C1 h,Xo,Xo];omega
theorem Vw[LB](a b:List Nd):Xe (a++b)=Xe a++Xe b:=by unfold Xe;rw[OV]
theorem WR[LB](l:List Nd):∀u∈Xe l,u.oneCell'=true:=by
 intro u c;obtain⟨d,_,a⟩:=List.mem_flatMap.mp c;exact Ax d u a
theorem QD[LB](W:World)(cs:List Value)(t:TypeId)(q:Nat)(a:q=W.heap.size):∀(j:Nat) (u:Value),cs[j]?=some u->(W.alloc (.cells cs.toArray t)).cell? ((⟨q,0,none⟩:Addr).add j)=some u:=AX W cs t q a
theorem QJ[LB]{w:World}{base a size:Nat}{e:TypeId}{v:Value}{n:Nat}{g:List Value}(h:w.ownsRow base e size v n g)(q:a<=base):w.ownsRow a e size v n g:=by
 refine⟨h.1,?_⟩;rcases h.2 with k|⟨j,c,d,r,l,m⟩
 .exact .inl k
 .exact .inr ⟨j,c,d,r,XO q l,m⟩
def ndV(d:Nd):Value:= .agg #[.int .i64 d.kind,.int .i64 d.op,.int .i64 d.n,.string d.text,.int .i64 d.kids]
theorem Xev[LB](d:Nd)(ls:List (List Nd))(v:Value)(w:World)(h:PR w v ls)(hf:ls.flatten.length<=100000000)(hl:ls.length<=1000000)(X:Sm d:=by first|exact⟨XC.le _,n0⟩|exact⟨YC rfl,n0⟩|exact⟨by assumption,n0⟩|assumption|exact⟨YC rfl,by decide⟩): Calls prog 80 #[ndV d,v] w fun e w'=>∃v',e= .returned v'/\NR w' v' (ls.flatten++[{d with kids:=ls.length}])/\Below w.heap.size w w':=by
 obtain⟨iN,hN,S,Q,P⟩:=Yk Wc;obtain⟨r,m,dn,dt,H⟩:=d;unfold ndV;obtain⟨Z,z⟩:∃Z,ls.flatten=Z:=⟨_,rfl⟩;rw[z]at hf⊢;have a0:Hid (Sh (Z++[⟨r,m,dn,dt,ls.length⟩])):=X1 (by rw[←z];obtain⟨vs,_,J⟩:=h;exact O9 (Y1z J) (Oa X));have M:=X1 z;clear z X;obtain⟨vs,h1,J⟩:=h;obtain⟨vp,vc,rfl⟩:=XQ h1;have E:=X1 h1;have a2:=X1 J;have HF:=X1 hf;clear h1 J hf;have B0:Hid (BL w ((w.alloc (.cells #[.int .i64 r,.int .i64 m,.int .i64 dn,.string dt,.int .i64 H] 48)).alloc (.cells #[] 48))):=X1 ((bA _).alloc (by simp) _);have X0:Hid (((w.alloc (.cells #[.int .i64 r,.int .i64 m,.int .i64 dn,.string dt,.int .i64 H] 48)).alloc (.cells #[] 48)).heap[w.heap.size]?=some (.cells #[.int .i64 r,.int .i64 m,.int .i64 dn,.string dt,.int .i64 H] 48)):=X1 (by
  rw[(bA _).block _ (by simp)];exact XM _ _)
 have R0:Hid (((w.alloc (.cells #[.int .i64 r,.int .i64 m,.int .i64 dn,.string dt,.int .i64 H] 48)).alloc (.cells #[] 48)).ownsRow (w.heap.size+1) 48 5 (.slice (some ⟨w.heap.size+1,0,none⟩) 0 0) 0 []):=X1 (by
  have:=XV (base:=w.heap.size+1) (e:=48) (size:=5) (w.alloc (.cells #[.int .i64 r,.int .i64 m,.int .i64 dn,.string dt,.int .i64 H] 48)) #[] 0 (by simp) (X6 _) rfl;simpa using this)
 go_enter func80,ntmps80;go_wp2_with fail;go_loopw[5,6] (fun s t wr=>∃(i:Nat) (l:List Nd),i<=ls.length/\t= .int .i64 i/\l=(ls.take i).flatten/\wr.ownsRow (w.heap.size+1) 48 5 s l.length (Xe l)/\BL w wr/\wr.heap[w.heap.size]?=some (.cells #[.int .i64 r,.int .i64 m,.int .i64 dn,.string dt,.int .i64 H] 48)) (fun _ t _=>ls.length-(intOf t).toNat)
 case atStart=>exact⟨0,[],X6 _,rfl,rfl,R0.o,B0.o,X0.o⟩
 case round=>
  obtain⟨i,l,hi,rfl,B,hR,hB,hX⟩:=hrel;have HA:=X1 B;clear B;have a9:w.heap.size<wr.heap.size:=J1 wr ⟨w.heap.size,0,none⟩ (u:= .int .i64 r) (by rw[World.cell?,hX];rfl);obtain⟨sp,sc,hs⟩:=XQ hR;subst hs;have Y:=X1 hR;have K:=X1 hB;have F:=X1 hX;clear hR hB hX;by_cases A:i<ls.length
  .obtain⟨u,hu,hn,W⟩:=a2.o i A;obtain⟨gi,ci,a7⟩:=hn.form W;subst a7;have b5:l.length+ls[i].length<=100000000:=by rw[HA.o];exact XO (X5x A) (by rw[M.o];exact HF.o)
   have N:=X1 (C1 A);rw[←HA.o]at N;have V:=hn.below (K.o.mono (X4 _));have a4:∀(j:Nat) (x:Value),(Xe ls[i])[j]?=some x->wr.cell? ((⟨gi,0,none⟩:Addr).add j)=some x:=JN V.1 rfl;have a6:(Xe ls[i]).length=ls[i].length*5:=V.1.1;obtain⟨vg,a8⟩:∃g,vp=some ⟨g,0,none⟩:=by
    rcases E.o.2 with⟨_,h0⟩|⟨g,c,_,J,_⟩
    .omega
    .cases J;exact⟨g,rfl⟩
   subst a8;have b4:wr.cell? ⟨vg,i,none⟩=some (.slice (some ⟨gi,0,none⟩) ls[i].length ci):=(K.o.cell (p:=⟨vg,i,none⟩) ((E.o.lt vg rfl).2)).trans (by have:=E.o.cells rfl i _ hu;rwa[Ye,Xn]at this);generalize ls[i]=li at *;go_wp2_with(at_builtin;refine Yg _ rfl _ _ 23 rfl (w.heap.size+1) 48 iN _ 5 48 underlying23 hN S Q P rfl (by decide) _ l.length (Xe l) rfl Y.o ⟨gi,0,none⟩ li.length ci (Xe li) rfl a6 a4 (WR li) (by unfold maxLen;omega) (by omega) (by omega) ?_);intro b2 w5 k a n y;have C:=X1 (K.o.grown a K.o.size (fun q e=>by have:=(Y.o.lt q e).1;omega));have a3:=X1 ((a.block w.heap.size a9 (fun e=>by have:=(Y.o.lt _ e.symm).1;omega)).trans F.o);obtain⟨b1,b0,I⟩:=XQ k;subst I;have D:=X1 k;clear k a n y;go_wp2;go_roundw
   case rel=>exact⟨i+1,_,A,by go_num,N.o.symm,by rw[Xo,Vw];exact D.o,C.o,a3.o⟩
   case measure=>simp[intOf];omega
  .have a5:i=ls.length:=by omega
   subst a5;have b3:=HF.o;obtain rfl:l=Z:=by rw[HA.o,JG];exact M.o
   have x0:wr.cell? ⟨w.heap.size,0,none⟩=some (.int .i64 r):=by rw[World.cell?,F.o];rfl
   have x1:wr.cell? ⟨w.heap.size,1,none⟩=some (.int .i64 m):=by rw[World.cell?,F.o];rfl
   have x2:wr.cell? ⟨w.heap.size,2,none⟩=some (.int .i64 dn):=by rw[World.cell?,F.o];rfl
   have x3:wr.cell? ⟨w.heap.size,3,none⟩=some (.string dt):=by rw[World.cell?,F.o];rfl
   have x4:wr.cell? ⟨w.heap.size,4,none⟩=some (.int .i64 H):=by rw[World.cell?,F.o];rfl
   have f4:wr.frozen? ⟨w.heap.size,4,none⟩=false:=by rw[World.frozen?,F.o];simp
   have HS:Hid ((wr.setCell ⟨w.heap.size,4,none⟩ (.int .i64 ls.length)).ownsRow (w.heap.size+1) 48 5 (.slice sp l.length sc) l.length (Xe l)):=X1 (MT Y.o (show w.heap.size<w.heap.size+1 by omega) _);have L:Hid (BL w (wr.setCell ⟨w.heap.size,4,none⟩ (.int .i64 ls.length))):=X1 (K.o.setCell (p:=⟨w.heap.size,4,none⟩) (X4 _) _);have a1:Hid ((wr.setCell ⟨w.heap.size,4,none⟩ (.int .i64 ls.length)).heap.size=wr.heap.size):=X1 (by simp);go_wp2_with(at_builtin;refine Yg _ rfl _ _ 23 rfl (w.heap.size+1) 48 iN _ 5 48 underlying23 hN S Q P rfl (by decide) _ l.length (Xe l) rfl (HS.o.alloc _) ⟨wr.heap.size,0,none⟩ 1 1 [.int .i64 r,.int .i64 m,.int .i64 dn,.string dt,.int .i64 ls.length] rfl rfl (QD _ [_,_,_,_,_] _ _ a1.o.symm) (by simp[Value.oneCell']) (by unfold maxLen;omega) (by omega) (by simp;omega) ?_);intro b2 w5 k a n y;obtain⟨b1,b0,I⟩:=XQ k;subst I;have C:=X1 ((L.o.alloc L.o.size (.cells #[.int .i64 r,.int .i64 m,.int .i64 dn,.string dt,.int .i64 ls.length] 48)).grown a (by simp;omega) (fun q e=>by have:=(HS.o.lt q e).1;omega));have D:=X1 k;clear k a n y;go_wp2;go_ret;refine⟨_,rfl,?_,C.o⟩;refine⟨?_,a0.o⟩;rw[Xo,Vw];exact QJ D.o (X6 _)
def Mk(w:World)(n:Nat)(e:Ending)(w':World):Prop:=∃v' l,e= .returned v'/\NR w' v' l/\0<l.length/\l.length<=n/\Below w.heap.size w w'
theorem ZY[LB](d:Nd)(ls:List (List Nd))(v:Value)(w:World)(m:Nat)(h:PR w v ls)(k:ls.flatten.length<=m)(n:m<=100000000)(l:ls.length<=1000000)(a:Sm d:=by first|exact⟨XC.le _,n0⟩|exact⟨YC rfl,n0⟩|exact⟨by assumption,n0⟩|assumption|exact⟨YC rfl,by decide⟩): Calls prog 80 #[ndV d,v] w fun e w'=>Mk w (m+1) e w':=(Xev d ls v w h (XO k n) l a).mono fun _ _ ⟨v',c,g,j⟩=>⟨v',_,c,g,by simp,by simp only[Xo,Ya,ZN];omega,j⟩
theorem IY[LB](w:World)(d:Nd)(a:Sm d:=by first|exact⟨XC.le _,n0⟩|exact⟨YC rfl,n0⟩|exact⟨by assumption,n0⟩|assumption|exact⟨YC rfl,by decide⟩):NR (w.alloc (.cells #[.int .i64 d.kind,.int .i64 d.op,.int .i64 d.n,.string d.text,.int .i64 d.kids] 48)) (.slice (some ⟨w.heap.size,0,none⟩) 1 1) [d]:=by
 have:=XV (base:=0) (e:=48) (size:=5) w #[.int .i64 d.kind,.int .i64 d.op,.int .i64 d.n,.string d.text,.int .i64 d.kids] 1 (X6 _) (by unfold maxLen;omega) rfl;exact⟨this,Oa a⟩
theorem fl1[LB](a:List Nd):[a].flatten.length=a.length:=by simp
theorem fl2[LB](a b:List Nd):[a,b].flatten.length=a.length+b.length:=by simp
theorem fl3[LB](a b c:List Nd):[a,b,c].flatten.length=a.length+b.length+c.length:=by simp[Nat.add_assoc]
theorem RQ[LB](w:World)(d:List Value)(ls:List (List Nd))(g:d.length=ls.length)(j:ls.length<=1000)(h:∀i (hi:i<ls.length),∃u,d[i]?=some u/\NR w u ls[i]/\0<ls[i].length):PR (w.alloc (.cells d.toArray 23)) (.slice (some ⟨w.heap.size,0,none⟩) ls.length ls.length) ls:=by
 have:=XV (base:=0) (e:=23) (size:=1) w d.toArray ls.length (X6 _) (by unfold maxLen;omega) (by simp[g]);refine⟨d,this,fun i hi=>?_⟩;obtain⟨u,a,b,c⟩:=h i hi;exact⟨u,a,b.below (bA _),c⟩
theorem pr1[LB]{w:World}{c:Value}{a:List Nd}(d:NR w c a)(g:0<a.length):PR (w.alloc (.cells #[c] 23)) (.slice (some ⟨w.heap.size,0,none⟩) 1 1) [a]:=
 RQ w [c] [a] rfl (by simp) (fun i hi=>by
  match i,hi with
  | 0,_=>exact⟨_,rfl,d,g⟩)
theorem pr2[LB]{w:World}{c d:Value}{a l2:List Nd}(g:NR w c a)(j:NR w d l2)(k:0<a.length)(l:0<l2.length):PR (w.alloc (.cells #[c,d] 23)) (.slice (some ⟨w.heap.size,0,none⟩) 2 2) [a,l2]:=
 RQ w [c,d] [a,l2] rfl (by simp) (fun i hi=>by
  match i,hi with
  | 0,_=>exact⟨_,rfl,g,k⟩
  | 1,_=>exact⟨_,rfl,j,l⟩)
theorem pr3[LB]{w:World}{d g j:Value}{a l2 c:List Nd}(k:NR w d a)(l:NR w g l2)(m:NR w j c)(n:0<a.length)(q:0<l2.length)(r:0<c.length):PR (w.alloc (.cells #[d,g,j] 23)) (.slice (some ⟨w.heap.size,0,none⟩) 3 3) [a,l2,c]:=
 RQ w [d,g,j] [a,l2,c] rfl (by simp) (fun i hi=>by
  match i,hi with
  | 0,_=>exact⟨_,rfl,k,n⟩
  | 1,_=>exact⟨_,rfl,l,q⟩
  | 2,_=>exact⟨_,rfl,m,r⟩)
theorem RB[LB](w:World)(d:Nd)(a:Sm d:=by first|exact⟨XC.le _,n0⟩|exact⟨YC rfl,n0⟩|exact⟨by assumption,n0⟩|assumption|exact⟨YC rfl,by decide⟩):Mk w 1 (.returned (.slice (some ⟨w.heap.size,0,none⟩) 1 1)) (w.alloc (.cells #[.int .i64 d.kind,.int .i64 d.op,.int .i64 d.n,.string d.text,.int .i64 d.kids] 48)):=⟨_,_,rfl,IY w d a,by simp,by simp,bA _⟩
theorem Dk[LB](s:ByteArray)(w:World)(a:s.size<=1000000:=by first|exact XC.le _|exact YC rfl|assumption):Calls prog 241 #[.string s] w fun e w'=>Mk w 1 e w':=by
 go_enter func241,ntmps241;go_wp2;go_ret;exact RB w ⟨4,0,0,s,0⟩ ⟨a,n0⟩
theorem MC[LB](s:ByteArray)(w:World)(a:s.size<=1000000:=by first|exact XC.le _|exact YC rfl|assumption):Calls prog 243 #[.string s] w fun e w'=>Mk w 1 e w':=by
 go_enter func243,ntmps243;go_wp2;go_ret;exact RB w ⟨5,0,0,s,0⟩ ⟨a,n0⟩
theorem D3[LB](z:Int)(w:World)(a:z<9223372036854775808):Calls prog 79 #[.int .i64 z] w fun e w'=>Mk w 1 e w':=by
 go_enter func79,ntmps79;go_wp2;go_ret;exact RB w ⟨3,0,z,⟨#[]⟩,0⟩ ⟨YC rfl,a⟩
theorem X0x[LB](op:Int)(t vb:Value)(a c:List Nd)(m:Nat)(w:World)(d:NR w t a)(g:NR w vb c)(r:0<a.length)(s:0<c.length)(A:a.length+c.length<=m)(j:m<=100000000): Calls prog 245 #[.int .i64 op,t,vb] w fun e w'=>Mk w (m+1) e w':=by
 have q:=X1 (ZY ⟨7,op,0,⟨#[]⟩,0⟩ [a,c] _ _ m (pr2 d g r s) (by simpa using A) j (by simp));unfold ndV at q;obtain⟨D,B,k⟩:=d.form r;obtain⟨gb,C,n⟩:=g.form s;subst k n;clear d g;go_enter func245,ntmps245;go_wp2_with fail;refine q.o.mono ?_;rintro e w1⟨v',l,rfl,u,v,y,z⟩;go_wp2;go_ret;exact⟨_,_,rfl,u,v,y,(((X5 w.heap.size w).alloc (X4 _) _).trans (z.mono (by simp)))⟩
theorem Y0o[LB]{w:World}{ls:List (List Nd)}{a:List Nd}{c v:Value}{d:List Value}(j:w.ownsRow 0 23 1 v (ls.length+1) (c::d))(g:NR w c a)(k:0<a.length)(h:∀i (hi:i<ls.length),∃u,d[i]?=some u/\NR w u ls[i]/\0<ls[i].length):PR w v (a::ls):=
 ⟨c::d,j,fun i hi=>by
  match i,hi with
  | 0,_=>exact⟨_,rfl,g,k⟩
  | i+1,hi=>exact h i (by simpa using hi)⟩
theorem WQ[LB](s:ByteArray)(ls:List (List Nd))(v:Value)(w:World)(m:Nat)(h:PR w v ls)(hf:ls.flatten.length<=m)(hm:m<=10000000)(hl:ls.length<=1000)(a3:0<ls.length)(a4:s.size<=1000000:=by first|exact XC.le _|exact YC rfl|assumption): Calls prog 244 #[.string s,v] w fun e w'=>Mk w (m+2) e w':=by
 obtain⟨iN,hN,W,V,S⟩:=Yk Ga;have H:=X1 h;obtain⟨vs,E,A⟩:=h;obtain⟨M,vc,hv⟩:∃g c,v= .slice (some ⟨g,0,none⟩) ls.length c:=by
  rcases E.2 with⟨_,h0⟩|⟨g,c,_,A,_⟩
  .omega
  .exact⟨g,c,A⟩
 subst hv;have N:=X1 (MC s w);have r:=X1 E;have C:=X1 A;clear E A;go_enter func244,ntmps244;go_wp2_with fail;refine N.o.mono ?_;rintro e w1⟨J,l1,rfl,n1,n2,n3,K⟩;have D:=K.alloc K.size (.cells #[J] 23);have n:(w1.alloc (.cells #[J] 23)).ownsRow w.heap.size 23 1 (.slice (some ⟨w1.heap.size,0,none⟩) 1 1) 1 [J]:=XV (base:=w.heap.size) (e:=23) (size:=1) w1 #[J] 1 K.size (by unfold maxLen;omega) rfl;have I:∀(j:Nat) (x:Value),vs[j]?=some x->(w1.alloc (.cells #[J] 23)).cell? ((⟨M,0,none⟩:Addr).add j)=some x:=fun j x hx=>by
  have:=r.o.cells rfl j x hx;rw[Ye]at this⊢;exact(D.cell (p:=⟨M,0+j,none⟩) (r.o.lt M rfl).2).trans this
 have t:∀u∈vs,u.oneCell'=true:=fun u hu=>by
  obtain⟨j,L⟩:=List.getElem?_of_mem hu;obtain⟨u',a,b,c⟩:=C.o j (by have:=r.o.1;rcases J0 j ls.length with h|h;exact h;rw[JD (by omega)]at L;cases L);rw[a]at L;obtain⟨g,c',X⟩:=b.form c;rw[←YD L,X];rfl
 obtain⟨g1,c1,Z⟩:=n1.form n2;subst Z;have a0:=r.o.1;go_wp2_with(at_builtin;refine Yg _ rfl _ _ 138 rfl w.heap.size 23 iN _ 1 24 underlying138 hN W V S rfl (by decide) _ 1 [_] rfl n ⟨M,0,none⟩ ls.length vc vs rfl a0 I t (by unfold maxLen;omega) (by omega) D.size ?_);intro a5 w5 k d z F;have Q:=D.grown d D.size (fun q e=>by cases e;exact K.size);have y:BL w1 w5:=((X5 w1.heap.size w1).alloc (X4 _) (.cells #[.slice (some ⟨g1,0,none⟩) l1.length c1] 23)).grown d (by simp) (fun q e=>by cases e;exact X4 _);obtain⟨a2,a1,Y⟩:=XQ k;subst Y;have P:Hid (PR w5 (.slice a2 (1+ls.length) a1) (l1::ls)):=X1 (by
  refine Y0o (by rw[VV ls.length 1];exact QJ k (X6 _)) (n1.below y) n2 (fun i hi=>?_);obtain⟨u,a,b,c⟩:=C.o i hi;exact⟨u,a,b.below Q,c⟩)
 have HO:=X1 (ZY ⟨12,0,0,⟨#[]⟩,0⟩ (l1::ls) _ w5 (m+1) P.o (by simp only[SO,Xo];omega) (by omega) (by simp only[Ya];omega));unfold ndV at HO;have B:=X1 Q;clear k d z F Q D y I t n;go_wp2_with fail;refine HO.o.mono ?_;rintro e w6⟨v',l,rfl,E,A,h3,h4⟩;go_wp2;go_ret;exact⟨_,_,rfl,E,A,h3,B.o.trans (h4.mono B.o.size)⟩
theorem F6[LB]{P:Program}{c:Array Oper}{o:Oper}{a:Act}{w:World}{K:Act->World->Prop}{Q:Exit->Act->World->Prop}{E:Prop}(q:o.guard=none)(f:FuncId)(x:Operand)(t:TypeId)(j:o.op=Op.call {callee:=Callee.value (Operand.func f),args:=#[x],argTypes:=#[t]})(v r:Value)(u:a.eval x=v)(fn:Func)(g:P.funcs[f]?=some fn)(hne:(fn.name == "runtime.NumGoroutine")=false)(d:fn.body.isNone=false)(R:World->Prop)(m:Calls P f #[v] w fun e w'=>e= .returned r/\R w')(n:∀w',R w'->K (a.put o.dst r) w'): if Region.wanted o (yielded c a.tmps)=true then Oper.wp P o a w K Q else E:=by
 have s:Region.wanted o (yielded c a.tmps)=true:=by simp[Region.wanted,q]
 rw[X3 s];have k:(callFunc f #[v]).run P w= .ok (.enter f #[v]) w:=by
  simp only[callFunc,Zk,Wk,Zj,g,hne,d];rfl
 unfold Oper.wp;simp only[execOp,j,resolve,invoke,KP,Xu,Yc,u,Deferred.ofValue,Zk];rw[show a.eval (Operand.func f)=Value.func (Fn.func f) #[] #[]from rfl];simp only[QM,Zj];simp[k];refine m.mono fun e y h=>?_;obtain⟨rfl,l⟩:=h;exact n _ l
def DM(n:Nat):UInt8:=UInt8.ofNat (48+n%10)
def KC(n:Nat):List UInt8:=if _h:n<10 then[DM n]else KC (n / 10)++[DM n]
theorem DL[LB](n:Nat):(KC n).length<=n / 10+1:=by
 induction n using Nat.strongRecOn with
 | ind n a=>
  rw[KC];by_cases h:n<10
  .rw[dif_pos h];simp
  .rw[dif_neg h];have:=a (n / 10) (by omega);simp only[Xo,Ya,ZN];omega
theorem X2f[LB](W:World)(x:Int):(W.alloc (.cells #[.int .u8 x] 5)).cell? ⟨W.heap.size,0,none⟩=some (.int .u8 x):=by simp
theorem Y2t[LB](o:List UInt8)(c:UInt8):(⟨o.toArray⟩:ByteArray)++⟨#[c]⟩=⟨(o++[c]).toArray⟩:=by
 rw[←Lib.mk_data (⟨o.toArray⟩++⟨#[c]⟩)];congr 1
theorem AK[LB]{B:Nat}{a w:World}(h:Below B a.drew w):Below B a w:=⟨h.os,h.tape,h.output,h.size,h.block⟩
theorem MO[LB](W:World)(g:Nat)(j:Nat)(x:Int)(a:x=48+(j:Int)%10)(h:W.cell? ⟨g,0,none⟩=some (.int .u8 x)):(convert 22 9 (.slice (some ⟨g,0,none⟩) 1 1)).run prog W= .ok (.string ⟨#[DM j]⟩) W:=by
 have:=run_convert_bytes_arg (P:=prog) W 22 5 underlying22 underlying5 g 0 1 1 [x] rfl (fun i hi=>by
  obtain rfl:i=0:=by omega
  simpa using h) 9 underlying9
 rw[this];subst a;have e:(48+(j:Int)%10).toNat=48+j%10:=by omega
 simp[strOfNums,e,DM]
theorem DZ[LB](n:Nat):∀(w:World),n<=9223372036854775807->Calls prog 78 #[.int .i64 n] w fun e w'=>e= .returned (.string ⟨(KC n).toArray⟩)/\Below w.heap.size w w':=by
 induction n using Nat.strongRecOn with
 | ind n r=>
  intro w u;by_cases h:n<10
  .have s:((n:Int)<10):=by omega
   have t:=MO (w.alloc (.cells #[.int .u8 (48+(n:Int))] 5)) w.heap.size n (48+(n:Int)) (by omega) (by simp);have g:=X1 (show KC n=[DM n] by rw[KC,dif_pos h]);go_enter func78,ntmps78;go_wp2;go_ret;exact⟨by rw[g.o];rfl,bA _⟩
  .have s:¬((n:Int)<10):=by omega
   have g:=X1 (show KC n=KC (n / 10)++[DM n] by rw[KC,dif_neg h]);have j:=X1 (fun w'=>r (n / 10) (by omega) w' (by omega));clear r;have z:(n:Int).tmod 10=(n:Int)%10:=Dw (by omega);have v:IntKind.i64.wrap ((n:Int) / 10)=(n:Int) / 10:=by rw[Yt];omega
   have y:IntKind.i64.wrap (48+(n:Int)%10)=48+(n:Int)%10:=by rw[Yt];omega
   have A:IntKind.u8.wrap (48+(n:Int)%10)=48+(n:Int)%10:=by rw[IntKind.wrap_u8];omega
   have c:(w.alloc (.cells #[.int .u8 (48+(n:Int)%10)] 5)).drew.cell? ⟨w.heap.size,0,none⟩=some (.int .u8 (48+(n:Int)%10)):=X2f w _;have q:¬9223372036854775807<(KC (n / 10)).length+1:=by have:=DL (n / 10);omega
   have m:=MO (w.alloc (.cells #[.int .u8 (48+(n:Int)%10)] 5)).drew w.heap.size n _ rfl c;have d:=X1 c;clear c;go_enter func78,ntmps78;go_wp2_with fail;go_region_law(first
    | (refine F6 rfl 78 (.tmp 11) 2 rfl (.int .i64 (n / 10:Nat)) (.string ⟨(KC (n / 10)).toArray⟩) (by simp[Act.eval,Act.put]) f78 func78 (by kernel_rfl) (by kernel_rfl) _ (j.o w.drew) ?_;intro w5 a;have k:=MO (w5.alloc (.cells #[.int .u8 (48+(n:Int)%10)] 5)) w5.heap.size n _ rfl (by simp))
    | (refine F6 rfl 78 (.tmp 11) 2 rfl (.int .i64 (n / 10:Nat)) (.string ⟨(KC (n / 10)).toArray⟩) (by first|(simp[Act.eval];done)|simp[Act.eval,Act.put]) f78 func78 (by kernel_rfl) (by kernel_rfl) _ (j.o (w.alloc (.cells #[.int .u8 (48+(n:Int)%10)] 5)).drew) ?_;intro w5 a;have l:=MO w5 w.heap.size n (48+(n:Int)%10) rfl ((a.cell (p:=⟨w.heap.size,0,none⟩) (by show w.heap.size<(w.alloc (.cells #[.int .u8 (48+(n:Int)%10)] 5)).heap.size;simp)).trans d.o)))
   all_goals
    go_wp2;go_ret;refine⟨by rw[g.o,←Y2t];rfl,?_⟩
    first
     | exact(AK a).alloc a.size _
     | exact((X5 _ w).alloc (X4 _) _).trans ((AK a).mono (by simp))
structure De where
 b:Nat
 ta:Option Addr
 tc:Nat
 ts:List Sc.T
 sz:Nat
 W:World
def Ys(d:De)(p:Nat):Sc.T:=d.ts[p]?.getD ⟨0,[],0,d.sz⟩
def Jl(x:Sc.T):Value:= .agg #[.int .i64 x.kind,.string ⟨x.text.toArray⟩,.int .i64 x.n,.int .i64 x.place]
structure Kz where
 f:Nat->Option Obj
 m:Nat
def Jm(S:Kz)(q:Nat)(o:Obj):Kz:=⟨fun x=>if x=q then some o else S.f x,S.m⟩
def dcs(d:De)(p:Nat)(bad:Bool)(a:Int)(v:Value):Array Value:=#[.slice d.ta d.ts.length d.tc,.int .i64 d.sz,.int .i64 p,.bool bad,.int .i64 a,v]
def dsk(d:De)(p:Nat)(bad:Bool)(a:Int)(v:Value):Obj:= .cells (dcs d p bad a v) 136
structure WK (d:De) (S:Kz) (p c:Nat) (w:World):Prop where
 os:w.os=d.W.os
 tape:w.tape=d.W.tape
 output:w.output=d.W.output
 XH:∀q o,S.f q=some o->w.heap[q]?=some o
 ne:S.f d.b=none
 le:p<=d.ts.length
 KH:d.ts.length<=8000/\∀x∈d.ts,(x.n:Int)<9223372036854775808
 tk:∀i (h:i<d.ts.length),∃tg cs t,d.ta=some ⟨tg,0,none⟩/\S.f tg=some (.cells cs t)/\cs[i*4]?=some (.int .i64 d.ts[i].kind)/\cs[i*4+1]?=some (.string ⟨d.ts[i].text.toArray⟩)/\cs[i*4+2]?=some (.int .i64 d.ts[i].n)/\cs[i*4+3]?=some (.int .i64 d.ts[i].place)
 st:∃(bad:Bool) (a:Int) (v:Value) (out:List Nd),w.heap[d.b]?=some (dsk d p bad a v)/\w.ownsRow (d.b+1) 48 5 v out.length (Xe out)/\((∀q,v.ownBlock=some q->S.f q=none)/\∀x∈out,x.n<9223372036854775808)/\S.m<=out.length/\out.length+c<=4*p+20000
section
variable {d:De} {S:Kz} {p c:Nat} {w w':World}
theorem Z2{bad:Bool}{a:Int}{v:Value}(h:w.heap[d.b]?=some (dsk d p bad a v)):w.cell? ⟨d.b,0,none⟩=some (.slice d.ta d.ts.length d.tc)/\w.cell? ⟨d.b,1,none⟩=some (.int .i64 d.sz)/\w.cell? ⟨d.b,2,none⟩=some (.int .i64 p)/\w.cell? ⟨d.b,3,none⟩=some (.bool bad)/\w.cell? ⟨d.b,4,none⟩=some (.int .i64 a)/\w.cell? ⟨d.b,5,none⟩=some v/\∀j,w.frozen? ⟨d.b,j,none⟩=false:=by
 refine⟨?_,?_,?_,?_,?_,?_,fun j=>?_⟩<;>simp[World.cell?,World.frozen?,h,dsk,dcs]
theorem WK.lt(h:WK d S p c w):d.b<w.heap.size:=by
 obtain⟨bad,a,v,out,g,_⟩:=h.st;exact(Kh.1 g).1
theorem WK.fresh(h:WK d S p c w):S.f w.heap.size=none:=by
 cases a:S.f w.heap.size with
 | none=>rfl
 | some o=>exact absurd (Kh.1 (h.XH _ _ a)).1 (Nat.lt_irrefl _)
theorem WK.below(h:WK d S p c w)(g:BL w w'):WK d S p c w':=by
 obtain⟨bad,a,v,out,k,l,m,r,n⟩:=h.st;exact⟨g.os.trans h.os,g.tape.trans h.tape,g.output.trans h.output,fun q o j=>(g.block q (Kh.1 (h.XH q o j)).1).trans (h.XH q o j),h.ne,h.le,h.KH,h.tk,bad,a,v,out,(g.block _ h.lt).trans k,Qi l g,m,r,n⟩
theorem WK.mono{c':Nat}(h:WK d S p c w)(n:c'<=c):WK d S p c' w:=by
 obtain⟨bad,a,v,out,g,j,k,l,m⟩:=h.st;exact⟨h.os,h.tape,h.output,h.XH,h.ne,h.le,h.KH,h.tk,bad,a,v,out,g,j,k,l,by omega⟩
theorem WK.box(h:WK d S p c w)(o:Obj):WK d (Jm S w.heap.size o) p c (w.alloc o):=by
 have k:=h.below (bA o);have n:=h.lt;have e:∀q,q<w.heap.size->(Jm S w.heap.size o).f q=S.f q:=fun q g=>X2 (GV g);obtain⟨bad,a,v,out,l,z,m,B,A⟩:=k.st;obtain⟨_,_,D,_,u,y,H,-⟩:=h.st;have C:v=D:=by
  have:=((bA o:BL w (w.alloc o)).block _ n).trans u;rw[l]at this;have:=Zd (fun x:Option Obj=>x.bind fun | .cells cs _ _=>cs[5]?|_=>none) this;simpa[dsk,dcs]using this
 refine⟨k.os,k.tape,k.output,fun q x g=>?_,(e _ n).trans h.ne,h.le,h.KH,fun i hi=>?_,bad,a,v,out,l,z,⟨fun q g=>?_,m.2⟩,B,A⟩
 .by_cases j:q=w.heap.size
  .subst j;rw[show(Jm S w.heap.size o).f w.heap.size=some o from X3 rfl]at g;rw[XM];exact g
  .rw[show(Jm S w.heap.size o).f q=S.f q from X2 j]at g;exact k.XH q x g
 .obtain⟨r,cs,t,E,s,F⟩:=h.tk i hi;exact⟨r,cs,t,E,(e r (Kh.1 (h.XH _ _ s)).1).trans s,F⟩
 .subst C;exact(e q (y.lt q g).2).trans (m.1 q g)
theorem WK.unbox{l c' q:Nat}{o:Obj}(j:WK d (Jm S q o) l c' w')(h:WK d S p c w)(t:S.f q=none):WK d S l c' w':=by
 have e:∀x y,S.f x=some y->(Jm S q o).f x=some y:=fun x y g=>(X2 (fun e'=>by rw[e',t]at g;cases g)).trans g;have e':∀x,(Jm S q o).f x=none->S.f x=none:=fun x g=>by
  cases u:S.f x with
  | none=>rfl
  | some y=>rw[e x y u]at g;cases g
 obtain⟨bad,a,v,out,m,n,k,s,r⟩:=j.st;exact⟨j.os,j.tape,j.output,fun x y g=>j.XH x y (e x y g),h.ne,j.le,h.KH,h.tk,bad,a,v,out,m,n,⟨fun x g=>e' x (k.1 x g),k.2⟩,s,r⟩
theorem WK.set(h:WK d S p c w){j n c':Nat}{u:Value}(C:n<=d.ts.length)(E:4*p+c'<=4*n+c)(A:∀bad a v,∃l r,(dcs d p bad a v).setIfInBounds j u=dcs d n l r v):WK d S n c' (w.setCell ⟨d.b,j,none⟩ u):=by
 have k:=(X5 0 w).setCell (p:=⟨d.b,j,none⟩) (X6 _) u;have e:∀q,q≠d.b->(w.setCell ⟨d.b,j,none⟩ u).heap[q]?=w.heap[q]?:=fun q m=>Y4 _ _ _ _ m;obtain⟨bad,a,v,out,s,t,y,B,D⟩:=h.st;obtain⟨l,r,z⟩:=A bad a v;refine⟨k.os.trans h.os,k.tape.trans h.tape,k.output.trans h.output,fun q o m=>(e q (fun x=>by rw[x,h.ne]at m;cases m)).trans (h.XH q o m),h.ne,C,h.KH,h.tk,l,r,v,out,?_,S6 t (fun g F _=>e g (by omega)),y,B,by omega⟩;show(w.heap.modify _ _)[d.b]?=_;rw[Ox,X3 rfl,s];simp[dsk,z]
theorem WK.adv(h:WK d S p c w)(g:p<d.ts.length):WK d S (p+1) (c+4) (w.setCell ⟨d.b,2,none⟩ (.int .i64 ((p:Int)+1))):=h.set g (by omega) (fun bad a v=>⟨bad,a,by simp[dcs]⟩)
theorem WK.bad(h:WK d S p c w):WK d S p c (w.setCell ⟨d.b,3,none⟩ (.bool true)):=h.set h.le (X4 _) (fun _ a v=>⟨true,a,by simp[dcs]⟩)
theorem WK.at_(h:WK d S p c w)(a:Int):WK d S p c (w.setCell ⟨d.b,4,none⟩ (.int .i64 a)):=h.set h.le (X4 _) (fun bad _ v=>⟨bad,a,by simp[dcs]⟩)
theorem WK.Ss(h:WK d S p c w){i:Nat}(j:i<d.ts.length):∃a,d.ta=some ⟨a,0,none⟩/\a≠d.b/\∀w':World,(∀q o,S.f q=some o->w'.heap[q]?=some o)->w'.cell? ⟨a,i*4,none⟩=some (.int .i64 (Ys d i).kind)/\w'.cell? ⟨a,i*4+1,none⟩=some (.string ⟨(Ys d i).text.toArray⟩)/\w'.cell? ⟨a,i*4+2,none⟩=some (.int .i64 (Ys d i).n)/\w'.cell? ⟨a,i*4+3,none⟩=some (.int .i64 (Ys d i).place):=by
 obtain⟨a,cs,t,l,g,m⟩:=h.tk i j;have e:Ys d i=d.ts[i]:=by unfold Ys;rw[YH j];rfl
 refine⟨a,l,fun e'=>(by rw[e',h.ne]at g;cases g),fun w' k=>?_⟩;rw[e];simpa[World.cell?,k _ _ g]using m
theorem WK.Y4a(h:WK d S p c w)(i:Nat):((Ys d i).n:Int)<9223372036854775808:=by
 unfold Ys;by_cases a:i<d.ts.length
 .rw[YH a];exact h.KH.2 _ (XR a)
 .rw[JD (by omega)];show((0:Nat):Int)<9223372036854775808;decide
theorem GC(a:¬p<d.ts.length):Ys d p=⟨0,[],0,d.sz⟩:=by unfold Ys;rw[JD (by omega)];rfl
end
section
variable {d:De} {S:Kz} {p c:Nat} {w:World}
theorem Wt(h:WK d S p c w):Calls prog 144 #[.pointer (some ⟨d.b,0,none⟩)] w fun e w'=>e= .returned (Jl (Ys d p))/\Below w.heap.size w w':=by
 have g:=h.below (bA (.cells #[.int .i64 0,.string ⟨#[]⟩,.int .i64 0,.int .i64 0] 235));have B:=h.lt;have C:=h.KH.1;have u:=h.le;have hne:w.heap.size≠d.b:=by omega
 obtain⟨bad,a,v,out,n,-⟩:=g.st;obtain⟨c0,c1,c2,-⟩:=Z2 n;clear n;by_cases k:p<d.ts.length
 .obtain⟨r,j,-,q⟩:=g.Ss k;have m:r<w.heap.size:=by
   obtain⟨z,cs,t,s,A,-⟩:=h.tk p k;rw[j]at s;cases s;exact(Kh.1 (h.XH _ _ A)).1
  have y:w.heap.size≠r:=by omega
  obtain⟨D,E,F,H⟩:=q _ g.XH;rw[j]at c0;have l:(p:Int)<d.ts.length:=by omega
  clear g q m;go_enter func144,ntmps144;go_wp2;go_region;go_wp2;go_region;go_wp2;refine X7 (v:=Jl (Ys d p)) (by simp[results,results144,go_sem,Jl]) rfl ⟨rfl,?_⟩;repeat(first|(refine VN ?_ (by show w.heap.size<=w.heap.size;exact X4 _) _)|(refine GJ ?_))
  exact bA _
 .have l:¬(p:Int)<d.ts.length:=by omega
  rw[GC k];clear g;go_enter func144,ntmps144;go_wp2;go_region;go_wp2;refine X7 (v:=Jl ⟨0,[],0,d.sz⟩) (by simp[results,results144,go_sem,Jl]) rfl ⟨rfl,?_⟩;repeat(first|(refine VN ?_ (by show w.heap.size<=w.heap.size;exact X4 _) _)|(refine GJ ?_))
  exact bA _
theorem Fj(k n q:Int)(t:ByteArray)(W:World):Sem.run prog (Instr.field 235 (Value.agg #[.int .i64 k,.string t,.int .i64 n,.int .i64 q]) 0) W= .ok (.int .i64 k) W:=by kernel_rfl
theorem Y3z(k n q:Int)(t:ByteArray)(W:World):Sem.run prog (Instr.field 235 (Value.agg #[.int .i64 k,.string t,.int .i64 n,.int .i64 q]) 3) W= .ok (.int .i64 q) W:=by kernel_rfl
def U(d:De)(S:Kz)(p c:Nat)(e:Ending)(w':World):Prop:=e= .returned (.tuple #[])/\∃p',p<=p'/\WK d S p' c w'
def Bd(d:De)(w:World):Prop:=w.cell? ⟨d.b,3,none⟩=some (.bool true)
theorem Wp(h:WK d S p c w):Calls prog 145 #[.pointer (some ⟨d.b,0,none⟩)] w fun e w'=>e= .returned (.tuple #[])/\WK d S p c w'/\Bd d w':=by
 obtain⟨bad,a,v,out,k,-⟩:=h.st;obtain⟨-,-,-,c3,-,-,f⟩:=Z2 k;have t:=f 3;clear k;cases bad
 .have s:=X1 (Wt h.bad);have l:=X1 h.bad;have m:=X1 (show Bd d (w.setCell ⟨d.b,3,none⟩ (.bool true))from JM _ _ _ c3);clear h f;go_enter func145,ntmps145;go_wp2_with fail;refine s.o.mono ?_;rintro e w1⟨rfl,g⟩;have j:=l.o.below g;obtain⟨bad,a,v,out,k,-⟩:=j.st;obtain⟨-,-,-,-,c4,-,f⟩:=Z2 k;have y:=f 4;have q:=X1 j;have r:=X1 ((g.cell (p:=⟨d.b,3,none⟩) l.o.lt).trans m.o);unfold Jl;have u:=Y3z (Ys d p).kind (Ys d p).n (Ys d p).place ⟨(Ys d p).text.toArray⟩;clear j g k f c3 t;go_wp2;go_end0;exact⟨rfl,q.o.at_ _,(Zs _ _ _ _ (by simp)).trans r.o⟩
 .clear f;go_enter func145,ntmps145;go_wp2;go_end0;exact⟨rfl,h,c3⟩
theorem Gb(h:WK d S p c w)(t:ByteArray):Calls prog 206 #[.pointer (some ⟨d.b,0,none⟩),.string t] w fun e w'=>∃r,e= .returned (.bool r)/\(r=true->p<d.ts.length/\¬Bd d w)/\Below w.heap.size w w':=by
 have s:=X1 (Wt h);have q:=X1 h;have l:p<d.ts.length\/(Ys d p).kind=0:=by
  by_cases l:p<d.ts.length
  .exact .inl l
  .rw[GC l];exact .inr rfl
 clear h;go_enter func206,ntmps206;go_wp2_with fail;refine s.o.mono ?_;rintro e w1⟨rfl,g⟩;have y:=g.size;obtain⟨bad,a,v,out,u,-⟩:=((q.o.below g).below (bA (.cells #[.int .i64 (Ys d p).kind,.string ⟨(Ys d p).text.toArray⟩,.int .i64 (Ys d p).n,.int .i64 (Ys d p).place] 235))).st;obtain⟨-,-,-,c3,-⟩:=Z2 u;have j:=X1 g;have A:=X1 l;have z:Hid (Bd d w->bad=true):=X1 (fun m=>by have B:=c3.symm.trans (((j.o.alloc y _).cell (p:=⟨d.b,3,none⟩) q.o.lt).trans m);simpa using B);unfold Jl;clear u g l s;generalize Ys d p=x at *;obtain⟨k,E,n,D⟩:=x;go_wp2;all_goals
  go_ret;refine⟨_,rfl,fun C=>⟨?_,fun m=>?_⟩,j.o.alloc y _⟩
  .rcases A.o with h|h
   .exact h
   .subst h;simp_all
  .have:=z.o m;simp_all
theorem Zn(h:WK d S p c w)(t:ByteArray):Calls prog 139 #[.pointer (some ⟨d.b,0,none⟩),.string t] w fun e w'=>∃r,e= .returned (.bool r)/\(r=false/\WK d S p c w'\/r=true/\WK d S (p+1) (c+4) w'):=by
 have u:=h.KH.1;have n:=h.le;go_enter func139,ntmps139;go_wp2_with fail;refine(Gb h t).mono ?_;rintro e w1⟨r,rfl,l,g⟩;have j:=h.below g;cases r
 .go_wp2;go_ret;exact⟨_,rfl,.inl ⟨rfl,j⟩⟩
 .have q:=(l rfl).1;obtain⟨bad,a,v,out,k,-⟩:=j.st;obtain⟨-,-,c2,-,-,-,f⟩:=Z2 k;have s:=f 2;have m:=X1 (j.adv q);clear g j k f l;go_wp2;go_ret;exact⟨_,rfl,.inr ⟨rfl,m.o⟩⟩
theorem Z7(h:WK d S p c w)(t:ByteArray):Calls prog 142 #[.pointer (some ⟨d.b,0,none⟩),.string t] w (U d S p c):=by
 go_enter func142,ntmps142;go_wp2_with fail;refine(Zn h t).mono ?_;rintro e w1⟨r,rfl,⟨rfl,a⟩|⟨rfl,a⟩⟩
 .go_wp2_with fail;refine(Wp a).mono ?_;rintro e j⟨rfl,g,-⟩;go_wp2;go_end0;exact⟨rfl,_,X4 _,g⟩
 .go_wp2;go_end0;exact⟨rfl,_,by omega,a.mono (by omega)⟩
theorem Xcr(h:WK d S p c w)(m:Bd d w)(t:ByteArray):Calls prog 142 #[.pointer (some ⟨d.b,0,none⟩),.string t] w fun e w'=>e= .returned (.tuple #[])/\WK d S p c w'/\Bd d w':=by
 have j:Hid (Calls prog 139 #[.pointer (some ⟨d.b,0,none⟩),.string t] w fun e w'=>e= .returned (.bool false)/\WK d S p c w'):=X1 (by
  go_enter func139,ntmps139;go_wp2_with fail;refine(Gb h t).mono ?_;rintro e w1⟨r,rfl,q,g⟩;have n:=h.below g;cases r
  .go_wp2;go_ret;exact⟨rfl,n⟩
  .exact absurd m (q rfl).2)
 go_enter func142,ntmps142;go_wp2_with fail;refine j.o.mono ?_;rintro e w1⟨rfl,k⟩;go_wp2_with fail;refine(Wp k).mono ?_;rintro e s⟨rfl,l,a⟩;go_wp2;go_end0;exact⟨rfl,l,a⟩
theorem Wg(h:WK d S p c w):Calls prog 140 #[.pointer (some ⟨d.b,0,none⟩)] w fun e w'=>∃t z,e= .returned (.string t)/\p<=z/\WK d S z c w':=by
 obtain⟨bad,a,v,out,k,-⟩:=h.st;obtain⟨-,-,-,c3,-⟩:=Z2 k;have J:=h.KH.1;have D:=h.le;clear k;cases bad
 .have u:=Fj (Ys d p).kind (Ys d p).n (Ys d p).place ⟨(Ys d p).text.toArray⟩;by_cases s:((Ys d p).kind:Int)=1
  .have m:p<d.ts.length:=by
    by_cases m:p<d.ts.length
    .exact m
    .rw[GC m]at s;cases s
   rw[s]at u;go_enter func140,ntmps140;go_wp2_with fail;refine(Wt h).mono ?_;rintro e w1⟨rfl,g⟩;have r:=h.below g;obtain⟨bad,a,v,out,k,-⟩:=r.st;obtain⟨-,-,c2,-,-,-,f⟩:=Z2 k;have I:=f 2;have q:=r.adv m;obtain⟨bad,a,v,out,j,-⟩:=q.st;obtain⟨C,-,F,-⟩:=Z2 j;obtain⟨K,y,hne,l⟩:=r.Ss m;have H:=(l _ q.XH).2.1;rw[y]at C;have B:=X1 q;clear g r q k j l f c3;unfold Jl;rw[s];go_wp2;go_region;go_wp2;go_ret;exact⟨_,_,rfl,UF _,(B.o.below (X5 _ _).drew).mono (Nat.le_add_right _ _)⟩
  .go_enter func140,ntmps140;go_wp2_with fail;refine(Wt h).mono ?_;rintro e w1⟨rfl,g⟩;have A:=X1 g;clear g;unfold Jl;go_wp2_with fail;refine(Wp (h.below A.o)).mono ?_;rintro e E⟨rfl,j,-⟩;go_wp2;go_ret;exact⟨_,_,rfl,X4 _,j⟩
 .go_enter func140,ntmps140;go_wp2_with fail;refine(Wp h).mono ?_;rintro e E⟨rfl,j,-⟩;go_wp2;go_ret;exact⟨_,_,rfl,X4 _,j⟩
end
end Go.Proofs.YtkoiikmhfaebnaaGreatDoor
namespace Go.Proofs.YtkoiikmhfaebnaaGreatDoor.Vl
open Tryz Go.RowKit T.atoms T.ok T.high T.Y0 T.Ko
theorem KX(X:World)(v:Value)(t:TypeId):(X.alloc (.cells #[v] t)).cell? ⟨X.heap.size,0,none⟩=some v/\(X.alloc (.cells #[v] t)).frozen? ⟨X.heap.size,0,none⟩=false:=by simp
theorem X0r(X:World)(a:At)(t:TypeId):Kr (X.alloc (.cells #[.int .i64 a.kind,.int .i64 a.n,.string a.text,.int .i64 a.kids] t)) X.heap.size 0 [a]:=by
 refine⟨by simp,fun i hi=>?_⟩;obtain rfl:i=0:=by simp at hi;omega
 simp
theorem MM(a:At)(w:World):Calls prog 182 #[.agg #[.int .i64 a.kind,.int .i64 a.n,.string a.text,.int .i64 a.kids]] w fun e w'=>∃g,w.heap.size<=g/\e= .returned (.agg #[.slice (some ⟨g,0,none⟩) 1 1])/\Kr w' g 0 [a]/\Below w.heap.size w w':=by
 go_enter func182,ntmps182;go_wp2;refine X7 (v:= .agg #[.slice (some ⟨w.heap.size+1+1,0,none⟩) 1 1]) (by simp[results,results182,go_sem]) rfl ⟨_,by omega,rfl,?_,?_⟩
 .have h:=X0r (((w.alloc (.cells #[.int .i64 a.kind,.int .i64 a.n,.string a.text,.int .i64 a.kids] 220)).alloc (.cells #[.slice (some ⟨w.heap.size+1+1,0,none⟩) 1 1] 118))) a 220;simp only[Xb]at h;exact h
 .exact((bA _).alloc (by simp) _).alloc (by simp;omega) _
theorem Vs{w:World}{g o:Nat}{l:List At}(h:Kr w g o l)(a:Addr)(c:a.block≠g)(v:Value):Kr (w.setCell a v) g o l:=by
 refine⟨by simpa using h.1,fun i hi=>?_⟩;obtain⟨c0,c1,c2,c3⟩:=h.2 i hi;have e:∀j,(w.setCell a v).cell? ⟨g,j,none⟩=w.cell? ⟨g,j,none⟩:=fun j=>Xy (a:=⟨g,j,none⟩) (Y4 _ _ _ _ (fun q=>c q.symm));exact⟨(e _).trans c0,(e _).trans c1,(e _).trans c2,(e _).trans c3⟩
theorem QO(n:Int)(w:World):Calls prog 122 #[.int .i64 n] w fun e w'=>∃g,w.heap.size<=g/\e= .returned (.agg #[.slice (some ⟨g,0,none⟩) 1 1])/\Kr w' g 0 [⟨3,n,⟨#[]⟩,0⟩]/\Below w.heap.size w w':=by
 have j:=X1 (fun w=>MM ⟨3,n,⟨#[]⟩,0⟩ w);go_enter func122,ntmps122;go_wp2_with fail;have d:BL w (w.alloc (.cells #[.slice none 0 0] 118)):=bA _;refine(j.o _).mono ?_;rintro e w1⟨g,m,rfl,l,a⟩;simp only[Xb]at m;have c:=KX w (.slice none 0 0) 118;have q:w1.cell? ⟨w.heap.size,0,none⟩=some (.slice none 0 0):=(a.cell (p:=⟨w.heap.size,0,none⟩) (by simp)).trans c.1;have r:w1.frozen? ⟨w.heap.size,0,none⟩=false:=(a.frozen (p:=⟨w.heap.size,0,none⟩) (by simp)).trans c.2;have k:=d.trans (a.mono d.size);clear a d c;go_wp2;refine X7 (v:= .agg #[.slice (some ⟨g,0,none⟩) 1 1]) (by simp[results,results122,go_sem,q]) rfl ⟨g,by omega,rfl,Vs l _ (by simp;omega) _,k.setCell (p:=⟨w.heap.size,0,none⟩) (X4 _) _⟩
theorem AP(b:Bool)(w:World):Calls prog 121 #[.bool b] w fun e w'=>∃g,w.heap.size<=g/\e= .returned (.agg #[.slice (some ⟨g,0,none⟩) 1 1])/\Kr w' g 0 [⟨2,if b then 1 else 0,⟨#[]⟩,0⟩]/\Below w.heap.size w w':=by
 have j:=X1 (fun z w=>MM ⟨2,z,⟨#[]⟩,0⟩ w);cases b;focus
  go_enter func121,ntmps121;go_wp2_with fail;have c:BL w (w.alloc (.cells #[.slice none 0 0] 118)):=bA _;refine(j.o 0 _).mono ?_
 rotate_left;focus
  go_enter func121,ntmps121;go_wp2_with fail;have c:BL w (w.alloc (.cells #[.slice none 0 0] 118)):=bA _;refine(j.o 1 _).mono ?_
 all_goals
  rintro e w1⟨g,m,rfl,l,a⟩;simp only[Xb]at m;have d:=KX w (.slice none 0 0) 118;have n:w1.cell? ⟨w.heap.size,0,none⟩=some (.slice none 0 0):=(a.cell (p:=⟨w.heap.size,0,none⟩) (by simp)).trans d.1;have q:w1.frozen? ⟨w.heap.size,0,none⟩=false:=(a.frozen (p:=⟨w.heap.size,0,none⟩) (by simp)).trans d.2;have k:=c.trans (a.mono c.size);clear a c d;go_wp2;refine X7 (v:= .agg #[.slice (some ⟨g,0,none⟩) 1 1]) (by simp[results,results121,go_sem,n]) rfl ⟨g,by omega,rfl,Vs l _ (by simp;omega) _,k.setCell (p:=⟨w.heap.size,0,none⟩) (X4 _) _⟩
theorem Ff(s:ByteArray)(w:World):Calls prog 123 #[.string s] w fun e w'=>∃g,w.heap.size<=g/\e= .returned (.agg #[.slice (some ⟨g,0,none⟩) 1 1])/\Kr w' g 0 [⟨4,0,s,0⟩]/\Below w.heap.size w w':=by
 have j:=X1 (fun w=>MM ⟨4,0,s,0⟩ w);go_enter func123,ntmps123;go_wp2_with fail;have d:BL w (w.alloc (.cells #[.slice none 0 0] 118)):=bA _;refine(j.o _).mono ?_;rintro e w1⟨g,m,rfl,l,a⟩;simp only[Xb]at m;have c:=KX w (.slice none 0 0) 118;have n:w1.cell? ⟨w.heap.size,0,none⟩=some (.slice none 0 0):=(a.cell (p:=⟨w.heap.size,0,none⟩) (by simp)).trans c.1;have q:w1.frozen? ⟨w.heap.size,0,none⟩=false:=(a.frozen (p:=⟨w.heap.size,0,none⟩) (by simp)).trans c.2;have k:=d.trans (a.mono d.size);clear a d c;go_wp2;refine X7 (v:= .agg #[.slice (some ⟨g,0,none⟩) 1 1]) (by simp[results,results123,go_sem,n]) rfl ⟨g,by omega,rfl,Vs l _ (by simp;omega) _,k.setCell (p:=⟨w.heap.size,0,none⟩) (X4 _) _⟩
end Go.Proofs.YtkoiikmhfaebnaaGreatDoor.Vl
