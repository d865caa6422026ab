import Derived.Test.YtaeafhenpjnhiaaGreatDoorE04
import Derived.Deep.RegionHeld3
set_option maxHeartbeats 8000000
set_option maxRecDepth 100000
namespace Go.Proofs.YtaeafhenpjnhiaaGreatDoor
open Tryz Go.RowKit
theorem WR:(prog.info? 23).map (fun i=>(i.zero,i.size,i.bytes))=some (some (.slice none 0 0),1,24):=by kernel_rfl
theorem Lp[LB]:¬XL (some 23):=by unfold XL;simp
def PR(w:World)(v:Value)(ls:List (List Nd)):Prop:=∃vs:List Value,w.ownsRow 0 23 1 v ls.length vs/\∀i (h:i<ls.length),∃u,vs[i]?=some u/\NR w u ls[i]/\0<ls[i].length
theorem X9z[LB]:¬V3 (some 23):=by unfold V3 XL;simp
theorem PR.ty[LB]{w w':World}{v:Value}{ls:List (List Nd)}(h:PR w v ls)(d:Ty w w'):PR w' v ls:=by
 obtain⟨k,g,j⟩:=h;exact⟨k,Yz g d Lp,fun i hi=>by obtain⟨u,a,b,c⟩:=j i hi;exact⟨u,a,b.ty d,c⟩⟩
theorem NR.below[LB]{w w':World}{v:Value}{l:List Nd}(h:NR w v l)(a:BL w w'):NR w' v l:=h.ty (.of a)
theorem PR.below[LB]{w w':World}{v:Value}{ls:List (List Nd)}(h:PR w v ls)(a:BL w w'):PR w' v ls:=h.ty (.of a)
theorem NR.form[LB]{w:World}{v:Value}{l:List Nd}(h:NR w v l)(j:0<l.length):∃g c,v= .l g l.length c:=by
 rcases h.1.2 with⟨_,d⟩|⟨g,c,_,a,_⟩
 .omega
 .exact⟨g,c,a⟩
theorem Y1a[LB]{w:World}{ls:List (List Nd)}{k:List Value}(h:∀i (h:i<ls.length),∃u,k[i]?=some u/\NR w u ls[i]/\0<ls[i].length):Sh ls.flatten:=fun x j=>by
 obtain⟨l,d,a⟩:=List.mem_flatten.1 j
 obtain⟨i,hi,rfl⟩:=Ro d
 obtain⟨u,_,g,_⟩:=h i hi
 exact g.2 x a
theorem LN[LB]{d:Nd}(h:Sm d):Sh [d]:=fun x a=>by
 obtain rfl:=V1.1 a
 exact h
theorem LM[LB]{a b:List Nd}(d:Sh a)(g:Sh b):Sh (a++b):=fun x j=>(KC.1 j).elim (d x) (g x)
theorem Am[LB]{ls:List (List Nd)}{i:Nat}(h:i<ls.length):(ls.take (i+1)).flatten=(ls.take i).flatten++ls[i]:=by
 rw[Vx h,Uc];simp
theorem IV[LB]{ls:List (List Nd)}{i:Nat}(h:i<ls.length):(ls.take i).flatten.length+ls[i].length<=ls.flatten.length:=by
 have e:ls.flatten=(ls.take (i+1)).flatten++(ls.drop (i+1)).flatten:=by rw[←Uc,JX]
 rw[e,Am h,Xj,Xj];omega
theorem UN[LB](a b:List Nd):Xh (a++b)=Xh a++Xh b:=by unfold Xh;rw[Dm]
theorem VN[LB](l:List Nd):∀u∈Xh l,u.oneCell'=true:=by
 intro u g;obtain⟨d,_,a⟩:=List.mem_flatMap.mp g;exact Sa d u a
theorem Qr[LB](W:World)(cs:List Value)(t:TypeId)(q:Nat)(a:q=W.heap.size):∀(j:Nat) (u:Value),cs[j]?=some u->(W.alloc (.cells cs.toArray t)).cell? ((⟨q,0,none⟩:Addr).add j)=some u:=MM W cs t q a
theorem Qo[LB]{w:World}{base a size:Nat}{e:TypeId}{v:Value}{n:Nat}{j:List Value}(h:w.ownsRow base e size v n j)(u:a<=base):w.ownsRow a e size v n j:=by
 refine⟨h.1,?_⟩;rcases h.2 with m|⟨k,d,g,y,r,s⟩
 .exact .inl m
 .exact .inr ⟨k,d,g,y,Xz u r,s⟩
def ndV(d:Nd):Value:= .agg #[.q d.kind,.q d.op,.q d.n,.string d.text,.q d.kids]
theorem Xcx[LB](d:Nd)(ls:List (List Nd))(v:Value)(w:World)(h:PR w v ls)(hf:ls.flatten.length<=100000000)(hl:ls.length<=1000000)(a1:Sm d:=by first|exact⟨XJ.le _,n0⟩|exact⟨YM rfl,n0⟩|exact⟨by assumption,n0⟩|assumption|exact⟨YM rfl,by decide⟩): Calls prog 66 #[ndV d,v] w fun e w'=>∃v',e= .returned v'/\NR w' v' (ls.flatten++[{d with kids:=ls.length}])/\Below w.heap.size w w':=by
 obtain⟨iN,hN,X,W,V⟩:=YK Un;obtain⟨y,n,B,dt,L⟩:=d;unfold ndV;obtain⟨fl,C⟩:∃fl,ls.flatten=fl:=⟨_,rfl⟩;rw[C]at hf⊢;have a2:Hid (Sh (fl++[⟨y,n,B,dt,ls.length⟩])):=X1 (by rw[←C];obtain⟨vs,_,N⟩:=h;exact LM (Y1a N) (LN a1));have S:=X1 C;clear C a1;obtain⟨vs,h1,N⟩:=h;obtain⟨vp,vc,rfl⟩:=XA h1;have J:=X1 h1;have a4:=X1 N;have HF:=X1 hf;clear h1 N hf;have B0:Hid (BL w ((w.z #[.q y,.q n,.q B,.string dt,.q L] 64).z #[] 64)):=X1 ((bA _).alloc (by simp) _);have X0:Hid (((w.z #[.q y,.q n,.q B,.string dt,.q L] 64).z #[] 64).heap[w.heap.size]?=some (.cells #[.q y,.q n,.q B,.string dt,.q L] 64)):=X1 (by
  rw[(bA _).block _ (by simp)];exact YV _ _)
 have R0:Hid (((w.z #[.q y,.q n,.q B,.string dt,.q L] 64).z #[] 64).ownsRow (w.heap.size+1) 64 5 (.l (w.heap.size+1) 0 0) 0 []):=X1 (by
  have:=Y4 (base:=w.heap.size+1) (e:=64) (size:=5) (w.z #[.q y,.q n,.q B,.string dt,.q L] 64) #[] 0 (by simp) (Xb _) rfl;simpa using this)
 go_enter func66,ntmps66;go_wp2_with fail;go_loopw[5,6] (fun s t wr=>∃(i:Nat) (m:List Nd),i<=ls.length/\t= .q i/\m=(ls.take i).flatten/\wr.ownsRow (w.heap.size+1) 64 5 s m.length (Xh m)/\BL w wr/\wr.heap[w.heap.size]?=some (.cells #[.q y,.q n,.q B,.string dt,.q L] 64)) (fun _ t _=>ls.length-(intOf t).toNat)
 case atStart=>exact⟨0,[],Xb _,rfl,rfl,R0.o,B0.o,X0.o⟩
 case round=>
  obtain⟨i,m,hi,rfl,F,hR,hB,hX⟩:=hrel;have HA:=X1 F;clear F;have b1:w.heap.size<wr.heap.size:=QE wr ⟨w.heap.size,0,none⟩ (u:= .q y) (by rw[World.cell?,hX];rfl);obtain⟨sp,sc,hs⟩:=XA hR;subst hs;have HR:=X1 hR;have O:=X1 hB;have K:=X1 hX;clear hR hB hX;by_cases E:i<ls.length
  .obtain⟨u,hu,hn,a0⟩:=a4.o i E;obtain⟨gi,ci,a9⟩:=hn.form a0;subst a9;have b7:m.length+ls[i].length<=100000000:=by rw[HA.o];exact Xz (IV E) (by rw[S.o];exact HF.o)
   have U:=X1 (Am E);rw[←HA.o]at U;have Z:=hn.below (O.o.mono (X5 _));have a6:∀(j:Nat) (x:Value),(Xh ls[i])[j]?=some x->wr.cell? ((⟨gi,0,none⟩:Addr).add j)=some x:=JO Z.1 rfl;have a8:(Xh ls[i]).length=ls[i].length*5:=Z.1.1;obtain⟨vg,b0⟩:∃g,vp=some ⟨g,0,none⟩:=by
    rcases J.o.2 with⟨_,h0⟩|⟨g,c,_,N,_⟩
    .omega
    .cases N;exact⟨g,rfl⟩
   subst b0;have b6:wr.cell? ⟨vg,i,none⟩=some (.l gi ls[i].length ci):=(O.o.cell (p:=⟨vg,i,none⟩) ((J.o.lt vg rfl).2)).trans (by have:=J.o.cells rfl i _ hu;rwa[Y8,Xu]at this);generalize ls[i]=li at *;go_wp2_with(at_builtin;refine YY _ rfl _ _ 23 rfl (w.heap.size+1) 64 iN _ 5 48 underlying23 hN X W V rfl (by decide) _ m.length (Xh m) rfl HR.o ⟨gi,0,none⟩ li.length ci (Xh li) rfl a8 a6 (VN li) (by unfold maxLen;omega) (by omega) (by omega) ?_);intro b4 w5 k a r A;have H:=X1 (O.o.grown a O.o.size (fun q e=>by have:=(HR.o.lt q e).1;omega));have a5:=X1 ((a.block w.heap.size b1 (fun e=>by have:=(HR.o.lt _ e.symm).1;omega)).trans K.o);obtain⟨b3,b2,M⟩:=XA k;subst M;have I:=X1 k;clear k a r A;go_wp2;go_roundw
   case rel=>exact⟨i+1,_,E,by go_num,U.o.symm,by rw[Xj,UN];exact I.o,H.o,a5.o⟩
   case measure=>simp[intOf];omega
  .have a7:i=ls.length:=by omega
   subst a7;have b5:=HF.o;obtain rfl:m=fl:=by rw[HA.o,JY];exact S.o
   have x0:wr.cell? ⟨w.heap.size,0,none⟩=some (.q y):=by rw[World.cell?,K.o];rfl
   have x1:wr.cell? ⟨w.heap.size,1,none⟩=some (.q n):=by rw[World.cell?,K.o];rfl
   have x2:wr.cell? ⟨w.heap.size,2,none⟩=some (.q B):=by rw[World.cell?,K.o];rfl
   have x3:wr.cell? ⟨w.heap.size,3,none⟩=some (.string dt):=by rw[World.cell?,K.o];rfl
   have x4:wr.cell? ⟨w.heap.size,4,none⟩=some (.q L):=by rw[World.cell?,K.o];rfl
   have f4:wr.frozen? ⟨w.heap.size,4,none⟩=false:=by rw[World.frozen?,K.o];simp
   have HS:Hid ((wr.setCell ⟨w.heap.size,4,none⟩ (.q ls.length)).ownsRow (w.heap.size+1) 64 5 (.slice sp m.length sc) m.length (Xh m)):=X1 (Gz HR.o (show w.heap.size<w.heap.size+1 by omega) _);have Q:Hid (BL w (wr.setCell ⟨w.heap.size,4,none⟩ (.q ls.length))):=X1 (O.o.setCell (p:=⟨w.heap.size,4,none⟩) (X5 _) _);have a3:Hid ((wr.setCell ⟨w.heap.size,4,none⟩ (.q ls.length)).heap.size=wr.heap.size):=X1 (by simp);go_wp2_with(at_builtin;refine YY _ rfl _ _ 23 rfl (w.heap.size+1) 64 iN _ 5 48 underlying23 hN X W V rfl (by decide) _ m.length (Xh m) rfl (HS.o.alloc _) ⟨wr.heap.size,0,none⟩ 1 1 [.q y,.q n,.q B,.string dt,.q ls.length] rfl rfl (Qr _ [_,_,_,_,_] _ _ a3.o.symm) (by simp[Value.oneCell']) (by unfold maxLen;omega) (by omega) (by simp;omega) ?_);intro b4 w5 k a r A;obtain⟨b3,b2,M⟩:=XA k;subst M;have H:=X1 ((Q.o.alloc Q.o.size (.cells #[.q y,.q n,.q B,.string dt,.q ls.length] 64)).grown a (by simp;omega) (fun q e=>by have:=(HS.o.lt q e).1;omega));have I:=X1 k;clear k a r A;go_wp2;go_ret;refine⟨_,rfl,?_,H.o⟩;refine⟨?_,a2.o⟩;rw[Xj,UN];exact Qo I.o (Xb _)
def Mk(w:World)(n:Nat)(e:Ending)(w':World):Prop:=∃v' l,e= .returned v'/\NR w' v' l/\0<l.length/\l.length<=n/\Below w.heap.size w w'
theorem ZW[LB](d:Nd)(ls:List (List Nd))(v:Value)(w:World)(m:Nat)(h:PR w v ls)(n:ls.flatten.length<=m)(hm:m<=100000000)(r:ls.length<=1000000)(a:Sm d:=by first|exact⟨XJ.le _,n0⟩|exact⟨YM rfl,n0⟩|exact⟨by assumption,n0⟩|assumption|exact⟨YM rfl,by decide⟩): Calls prog 66 #[ndV d,v] w (Mk w (m+1)):=(Xcx d ls v w h (Xz n hm) r a).mono fun _ _ ⟨v',g,j,k⟩=>⟨v',_,g,j,by simp,by simp only[Xj,XI,Ya];omega,k⟩
theorem Gv[LB](w:World)(d:Nd)(a:Sm d:=by first|exact⟨XJ.le _,n0⟩|exact⟨YM rfl,n0⟩|exact⟨by assumption,n0⟩|assumption|exact⟨YM rfl,by decide⟩):NR (w.z #[.q d.kind,.q d.op,.q d.n,.string d.text,.q d.kids] 64) (.l w.heap.size 1 1) [d]:=by
 have:=Y4 (base:=0) (e:=64) (size:=5) w #[.q d.kind,.q d.op,.q d.n,.string d.text,.q d.kids] 1 (Xb _) (by unfold maxLen;omega) rfl;exact⟨this,LN a⟩
theorem fl1[LB](a:List Nd):[a].flatten.length=a.length:=by simp
theorem fl2[LB](a b:List Nd):[a,b].flatten.length=a.length+b.length:=by simp
theorem fl3[LB](a b c:List Nd):[a,b,c].flatten.length=a.length+b.length+c.length:=by simp[Nat.add_assoc]
theorem Pd[LB](w:World)(d:List Value)(ls:List (List Nd))(g:d.length=ls.length)(j:ls.length<=1000)(h:∀i (hi:i<ls.length),∃u,d[i]?=some u/\NR w u ls[i]/\0<ls[i].length):PR (w.z d.toArray 23) (.l w.heap.size ls.length ls.length) ls:=by
 have:=Y4 (base:=0) (e:=23) (size:=1) w d.toArray ls.length (Xb _) (by unfold maxLen;omega) (by simp[g]);refine⟨d,this,fun i hi=>?_⟩;obtain⟨u,a,b,c⟩:=h i hi;exact⟨u,a,b.below (bA _),c⟩
theorem pr1[LB]{w:World}{d:Value}{a:List Nd}(g:NR w d a)(j:0<a.length):PR (w.z #[d] 23) (.l w.heap.size 1 1) [a]:=
 Pd w [d] [a] rfl (by simp) (fun i hi=>by
  match i,hi with
  | 0,_=>exact⟨_,rfl,g,j⟩)
theorem pr2[LB]{w:World}{d g:Value}{a l2:List Nd}(j:NR w d a)(k:NR w g l2)(m:0<a.length)(n:0<l2.length):PR (w.z #[d,g] 23) (.l w.heap.size 2 2) [a,l2]:=
 Pd w [d,g] [a,l2] rfl (by simp) (fun i hi=>by
  match i,hi with
  | 0,_=>exact⟨_,rfl,j,m⟩
  | 1,_=>exact⟨_,rfl,k,n⟩)
theorem pr3[LB]{w:World}{g j k:Value}{a l2 d:List Nd}(m:NR w g a)(n:NR w j l2)(r:NR w k d)(s:0<a.length)(u:0<l2.length)(v:0<d.length):PR (w.z #[g,j,k] 23) (.l w.heap.size 3 3) [a,l2,d]:=
 Pd w [g,j,k] [a,l2,d] rfl (by simp) (fun i hi=>by
  match i,hi with
  | 0,_=>exact⟨_,rfl,m,s⟩
  | 1,_=>exact⟨_,rfl,n,u⟩
  | 2,_=>exact⟨_,rfl,r,v⟩)
theorem OH[LB](w:World)(d:Nd)(a:Sm d:=by first|exact⟨XJ.le _,n0⟩|exact⟨YM rfl,n0⟩|exact⟨by assumption,n0⟩|assumption|exact⟨YM rfl,by decide⟩):Mk w 1 (.returned (.l w.heap.size 1 1)) (w.z #[.q d.kind,.q d.op,.q d.n,.string d.text,.q d.kids] 64):=⟨_,_,rfl,Gv w d a,by simp,by simp,bA _⟩
theorem We[LB](s:ByteArray)(w:World)(a:s.size<=1000000:=by first|exact XJ.le _|exact YM rfl|assumption):Calls prog 132 #[.string s] w (Mk w 1):=by
 go_enter func132,ntmps132;go_wp2;go_ret;exact OH w ⟨4,0,0,s,0⟩ ⟨a,n0⟩
theorem Lr[LB](s:ByteArray)(w:World)(a:s.size<=1000000:=by first|exact XJ.le _|exact YM rfl|assumption):Calls prog 134 #[.string s] w (Mk w 1):=by
 go_enter func134,ntmps134;go_wp2;go_ret;exact OH w ⟨5,0,0,s,0⟩ ⟨a,n0⟩
theorem VU[LB](z:Int)(w:World)(a:z<9223372036854775808):Calls prog 65 #[.q z] w (Mk w 1):=by
 go_enter func65,ntmps65;go_wp2;go_ret;exact OH w ⟨3,0,z,⟨#[]⟩,0⟩ ⟨YM rfl,a⟩
theorem T0[LB](op:Int)(u vb:Value)(a lb:List Nd)(m:Nat)(w:World)(d:NR w u a)(g:NR w vb lb)(s:0<a.length)(kb:0<lb.length)(hm:a.length+lb.length<=m)(j:m<=100000000): Calls prog 136 #[.q op,u,vb] w (Mk w (m+1)):=by
 have r:=X1 (ZW ⟨7,op,0,⟨#[]⟩,0⟩ [a,lb] _ _ m (pr2 d g s kb) (by simpa using hm) j (by simp));unfold ndV at r;obtain⟨ga,C,k⟩:=d.form s;obtain⟨gb,E,n⟩:=g.form kb;subst k n;clear d g;go_enter func136,ntmps136;go_wp2_with fail;go_fit r.o;rintro e F⟨v',l,rfl,v,y,A,B⟩;go_wp2;go_ret;exact⟨_,_,rfl,v,y,A,(((X8 w.heap.size w).alloc (X5 _) _).trans (B.mono (by simp)))⟩
theorem Xew[LB]{w:World}{ls:List (List Nd)}{a:List Nd}{d v:Value}{g:List Value}(k:w.ownsRow 0 23 1 v (ls.length+1) (d::g))(j:NR w d a)(m:0<a.length)(h:∀i (hi:i<ls.length),∃u,g[i]?=some u/\NR w u ls[i]/\0<ls[i].length):PR w v (a::ls):=
 ⟨d::g,k,fun i hi=>by
  match i,hi with
  | 0,_=>exact⟨_,rfl,j,m⟩
  | i+1,hi=>exact h i (by simpa using hi)⟩
theorem VL[LB](s:ByteArray)(ls:List (List Nd))(v:Value)(w:World)(m:Nat)(h:PR w v ls)(hf:ls.flatten.length<=m)(hm:m<=10000000)(hl:ls.length<=1000)(a7:0<ls.length)(a8:s.size<=1000000:=by first|exact XJ.le _|exact YM rfl|assumption): Calls prog 135 #[.string s,v] w (Mk w (m+2)):=by
 obtain⟨iN,hN,a0,Z,X⟩:=YK WR;have H:=X1 h;obtain⟨vs,K,E⟩:=h;obtain⟨S,vc,hv⟩:∃g c,v= .l g ls.length c:=by
  rcases K.2 with⟨_,h0⟩|⟨g,c,_,E,_⟩
  .omega
  .exact⟨g,c,E⟩
 subst hv;have U:=X1 (Lr s w);have r:=X1 K;have I:=X1 E;clear K E;go_enter func135,ntmps135;go_wp2_with fail;go_fit U.o;rintro e C⟨N,l1,rfl,n1,n2,n3,O⟩;have J:=O.alloc O.size (.cells #[N] 23);have n:(C.z #[N] 23).ownsRow w.heap.size 23 1 (.l C.heap.size 1 1) 1 [N]:=Y4 (base:=w.heap.size) (e:=23) (size:=1) C #[N] 1 O.size (by unfold maxLen;omega) rfl;have M:∀(j:Nat) (x:Value),vs[j]?=some x->(C.z #[N] 23).cell? ((⟨S,0,none⟩:Addr).add j)=some x:=fun j x hx=>by
  have:=r.o.cells rfl j x hx;rw[Y8]at this⊢;exact(J.cell (p:=⟨S,0+j,none⟩) (r.o.lt S rfl).2).trans this
 have y:∀u∈vs,u.oneCell'=true:=fun u hu=>by
  obtain⟨j,Q⟩:=List.getElem?_of_mem hu;obtain⟨u',a,b,c⟩:=I.o j (by have:=r.o.1;rcases V5 j ls.length with h|h;exact h;rw[Dp (by omega)]at Q;cases Q);rw[a]at Q;obtain⟨g,c',a1⟩:=b.form c;rw[←Zq Q,a1];rfl
 obtain⟨g1,c1,a3⟩:=n1.form n2;subst a3;have a4:=r.o.1;go_wp2_with(at_builtin;refine YY _ rfl _ _ 119 rfl w.heap.size 23 iN _ 1 24 underlying119 hN a0 Z X rfl (by decide) _ 1 [_] rfl n ⟨S,0,none⟩ ls.length vc vs rfl a4 M y (by unfold maxLen;omega) (by omega) J.size ?_);intro a9 w5 k d B L;have W:=J.grown d J.size (fun q e=>by cases e;exact O.size);have A:BL C w5:=((X8 C.heap.size C).alloc (X5 _) (.cells #[.l g1 l1.length c1] 23)).grown d (by simp) (fun q e=>by cases e;exact X5 _);obtain⟨a6,a5,a2⟩:=XA k;subst a2;have V:Hid (PR w5 (.slice a6 (1+ls.length) a5) (l1::ls)):=X1 (by
  refine Xew (by rw[V4 ls.length 1];exact Qo k (Xb _)) (n1.below A) n2 (fun i hi=>?_);obtain⟨u,a,b,c⟩:=I.o i hi;exact⟨u,a,b.below W,c⟩)
 have HO:=X1 (ZW ⟨12,0,0,⟨#[]⟩,0⟩ (l1::ls) _ w5 (m+1) V.o (by simp only[Rm,Xj];omega) (by omega) (by simp only[XI];omega));unfold ndV at HO;have F:=X1 W;clear k d B L W J A M y n;go_wp2_with fail;go_fit HO.o;rintro e w6⟨v',l,rfl,K,E,h3,h4⟩;go_wp2;go_ret;exact⟨_,_,rfl,K,E,h3,F.o.trans (h4.mono F.o.size)⟩
def UD(xs:List Value)(k:Nat):Prop:=∀i,i<k->∃(s:XJ) (z:Int),xs[i*2]?=some (.string s)/\xs[i*2+1]?=some (.q z)
def FnC(w:World)(ys:List Value)(m:Nat):Prop:=∀i,i<m->∃(s:XJ) (pv:Value) (ps:List Int) (f z:Int),ys[i*4]?=some (.string s)/\ys[i*4+1]?=some pv/\ys[i*4+2]?=some (.q f)/\ys[i*4+3]?=some (.q z)/\w.ownsRow 0 3 1 pv ps.length (ps.map (Value.int .i64))/\ps.length<=3/\0<=f/\f<=3
theorem FnC.Zi[LB]{w w':World}{a:List Value}{m:Nat}(h:FnC w a m)(y:∀q,q<w.heap.size->Xo w q=some 3->w'.heap[q]?=w.heap[q]?):FnC w' a m:=fun i hi=>by
 obtain⟨s,pv,A,f,z,d,g,j,r,u,v⟩:=h i hi
 exact⟨s,pv,A,f,z,d,g,j,r,Kz u y,v⟩
structure Gn [LB] (gb rb:Nat) (vb:Value) (n q k:Nat) (w:World):Prop where
 R:∃p,p<=q/\Rd w rb vb n p
 up:rb<gb
 ty:Xo w gb=some 128
 c0:w.cell? ⟨gb,0,none⟩=some (.p rb)
 nm:∃v xs,w.cell? ⟨gb,1,none⟩=some v/\w.ownsRow (rb+1) 171 2 v k xs/\UD xs k
 fn:∃v m ys,w.cell? ⟨gb,2,none⟩=some v/\w.ownsRow (rb+1) 181 4 v m ys/\m<=1000/\FnC w ys m
 ct:∃c:Nat,c<=q/\w.cell? ⟨gb,3,none⟩=some (.q c)
 sz:∃c:Int,-(q:Int)<=c/\c<=1000/\w.cell? ⟨gb,4,none⟩=some (.q c)
 fr:∀j,w.frozen? ⟨gb,j,none⟩=false
 km:k<=1000
section
variable {gb rb:Nat} {vb:Value} {n q k:Nat} {w w':World}
theorem Gn.lt[LB](h:Gn gb rb vb n q k w):gb<w.heap.size:=QE w ⟨gb,0,none⟩ h.c0
theorem Gn.rty[LB](h:Gn gb rb vb n q k w):Xo w rb=some 83:=by obtain⟨p,_,a⟩:=h.R;exact a.ty
theorem Gn.ne[LB](h:Gn gb rb vb n q k w):gb≠rb:=fun e=>by have:=h.up;omega
theorem Gn.mono[LB](h:Gn gb rb vb n q k w){q':Nat}(E:q<=q'):Gn gb rb vb n q' k w:=by
 obtain⟨⟨p,C,A⟩,d,g,j,m,r,⟨c,B,s⟩,⟨z,F,a,u⟩,v,y⟩:=h;exact⟨⟨p,by omega,A⟩,d,g,j,m,r,⟨c,by omega,s⟩,⟨z,by omega,a,u⟩,v,y⟩
theorem Gn.Zi[LB](h:Gn gb rb vb n q k w){q':Nat}(B:q<=q')(A:∀b,b<w.heap.size->b≠rb->w'.heap[b]?=w.heap[b]?)(L:∃p,p<=q'/\Rd w' rb vb n p):Gn gb rb vb n q' k w':=by
 have K:=h.lt;have hne:=h.ne;have s:=h.rty;have r:=A gb K hne;have d:∀j,w'.cell? ⟨gb,j,none⟩=w.cell? ⟨gb,j,none⟩:=fun j=>XQ (a:=⟨gb,j,none⟩) r;have y:∀t,t≠83->∀q,q<w.heap.size->Xo w q=some t->w'.heap[q]?=w.heap[q]?:=fun t M q B g=>A q B (fun e=>by rw[e,s]at g;exact M (Zq g).symm);obtain⟨v,O,n1,n2,n3⟩:=h.nm;obtain⟨N,m,Q,C,E,F,H⟩:=h.fn;obtain⟨c,S,I⟩:=h.ct;obtain⟨z,U,u,J⟩:=h.sz;exact⟨L,h.up,(KI r).trans h.ty,(d 0).trans h.c0,⟨v,O,(d 1).trans n1,Kz n2 (y _ (by decide)),n3⟩,⟨N,m,Q,(d 2).trans C,Kz E (y _ (by decide)),F,H.Zi (y _ (by decide))⟩,⟨c,by omega,(d 3).trans I⟩,⟨z,by omega,u,(d 4).trans J⟩,fun j=>(ZC (a:=⟨gb,j,none⟩) r).trans (h.fr j),h.km⟩
theorem Gn.below[LB](h:Gn gb rb vb n q k w)(a:BL w w'):Gn gb rb vb n q k w':=h.Zi (X5 _) (fun b g _=>a.block b g) (by obtain⟨p,d,j⟩:=h.R;exact⟨p,d,j.Zi a⟩)
theorem Rd.JV[LB]{p:Nat}(h:Rd w rb vb n p)(j:∀b,b<=rb->w'.heap[b]?=w.heap[b]?):Rd w' rb vb n p:=by
 have d:=j rb (X5 _);refine⟨(XQ (a:=⟨rb,0,none⟩) d).trans h.c0,(XQ (a:=⟨rb,1,none⟩) d).trans h.c1,(ZC (a:=⟨rb,1,none⟩) d).trans h.f1,(KI d).trans h.ty,h.lo,?_⟩;rcases h.by_ with h|⟨g,o,c,m,r,s,u,v⟩
 .exact .inl h
 .refine .inr ⟨g,o,c,m,r,s,u,fun i hi=>?_⟩;obtain⟨k,A,y⟩:=v i hi;exact⟨k,A,(XQ (a:=⟨g,o+i,none⟩) (j g (by omega))).trans y⟩
theorem Kc[LB]{base size b o:Nat}{e:TypeId}{v:Value}{m:Nat}{a:List Value}{u:Value}(h:w.ownsRow base e size v m a)(j:Xo w b≠some e):(w.setCell ⟨b,o,none⟩ u).ownsRow base e size v m a:=Kz h (fun q _ g=>Y0 _ _ _ _ (fun d=>j (by rw[←g,d])))
theorem Gn.count[LB](h:Gn gb rb vb n q k w){c:Nat}(Q:c<=q+1):Gn gb rb vb n (q+1) k (w.setCell ⟨gb,3,none⟩ (.q c)):=by
 have a:=h.ty;have r:=h.up;have d:∀j,j≠3->(w.setCell ⟨gb,3,none⟩ (.q c)).cell? ⟨gb,j,none⟩=w.cell? ⟨gb,j,none⟩:=fun j I=>Zt _ _ _ _ (fun e=>I (Yt Addr.off e).symm);obtain⟨p,S,J⟩:=h.R;obtain⟨v,L,n1,n2,n3⟩:=h.nm;obtain⟨K,m,M,y,A,B,C⟩:=h.fn;obtain⟨N,H,E⟩:=h.ct;obtain⟨z,U,s,F⟩:=h.sz;exact⟨⟨p,by omega,J.JV (fun b O=>Y0 _ _ _ _ (show b≠gb by omega))⟩,r,by rw[Wh];exact a,(d 0 (by decide)).trans h.c0,⟨v,L,(d 1 (by decide)).trans n1,Kc n2 (by rw[a];decide),n3⟩,⟨K,m,M,(d 2 (by decide)).trans y,Kc A (by rw[a];decide),B,C.Zi (fun q' _ g=>Y0 _ _ _ _ (fun e=>by have u:q'=gb:=e;rw[u,a]at g;cases g))⟩,⟨c,by omega,Qk _ _ _ E⟩,⟨z,by omega,s,(d 4 (by decide)).trans F⟩,fun j=>by rw[UJ];exact h.fr j,h.km⟩
theorem Gn.down[LB](h:Gn gb rb vb n q k w){c:Int}(S:-((q:Int)+1)<=c)(r:c<=1000):Gn gb rb vb n (q+1) k (w.setCell ⟨gb,4,none⟩ (.q c)):=by
 have a:=h.ty;have s:=h.up;have d:∀j,j≠4->(w.setCell ⟨gb,4,none⟩ (.q c)).cell? ⟨gb,j,none⟩=w.cell? ⟨gb,j,none⟩:=fun j J=>Zt _ _ _ _ (fun e=>J (Yt Addr.off e).symm);obtain⟨p,U,K⟩:=h.R;obtain⟨v,N,n1,n2,n3⟩:=h.nm;obtain⟨M,m,O,A,B,C,E⟩:=h.fn;obtain⟨u,I,F⟩:=h.ct;obtain⟨z,V,L,H⟩:=h.sz;exact⟨⟨p,by omega,K.JV (fun b Q=>Y0 _ _ _ _ (show b≠gb by omega))⟩,s,by rw[Wh];exact a,(d 0 (by decide)).trans h.c0,⟨v,N,(d 1 (by decide)).trans n1,Kc n2 (by rw[a];decide),n3⟩,⟨M,m,O,(d 2 (by decide)).trans A,Kc B (by rw[a];decide),C,E.Zi (fun q' _ g=>Y0 _ _ _ _ (fun e=>by have y:q'=gb:=e;rw[y,a]at g;cases g))⟩,⟨u,by omega,(d 3 (by decide)).trans F⟩,⟨c,by omega,r,Qk _ _ _ H⟩,fun j=>by rw[UJ];exact h.fr j,h.km⟩
theorem Gn.names[LB](h:Gn gb rb vb n q k w){v':Value}{k':Nat}{u:List Value}(O:w.ownsRow (rb+1) 171 2 v' k' u)(N:UD u k')(L:k'<=1000):Gn gb rb vb n q k' (w.setCell ⟨gb,1,none⟩ v'):=by
 have a:=h.ty;have r:=h.up;have d:∀j,j≠1->(w.setCell ⟨gb,1,none⟩ v').cell? ⟨gb,j,none⟩=w.cell? ⟨gb,j,none⟩:=fun j K=>Zt _ _ _ _ (fun e=>K (Yt Addr.off e).symm);obtain⟨p,V,M⟩:=h.R;obtain⟨v,_,n1,_,_⟩:=h.nm;obtain⟨Q,m,S,B,C,E,F⟩:=h.fn;obtain⟨y,J,H⟩:=h.ct;obtain⟨z,W,s,I⟩:=h.sz;exact⟨⟨p,by omega,M.JV (fun b U=>Y0 _ _ _ _ (show b≠gb by omega))⟩,r,by rw[Wh];exact a,(d 0 (by decide)).trans h.c0,⟨v',u,Qk _ _ _ n1,Kc O (by rw[a];decide),N⟩,⟨Q,m,S,(d 2 (by decide)).trans B,Kc C (by rw[a];decide),E,F.Zi (fun q' _ g=>Y0 _ _ _ _ (fun e=>by have A:q'=gb:=e;rw[A,a]at g;cases g))⟩,⟨y,by omega,(d 3 (by decide)).trans H⟩,⟨z,by omega,s,(d 4 (by decide)).trans I⟩,fun j=>by rw[UJ];exact h.fr j,L⟩
theorem Gn.push[LB](h:Gn gb rb vb n q k w){v v':Value}(H:w.cell? ⟨gb,1,none⟩=some v)(F:w.grownBy w' v.ownBlock){k':Nat}{E:List Value}(hx:w'.ownsRow (rb+1) 171 2 v' k' E)(hs:UD E k')(X:k'<=1000):Gn gb rb vb n q k' (w'.setCell ⟨gb,1,none⟩ v'):=by
 have Z:=h.lt;have B:=h.up;obtain⟨K,a0,n1,n2,n3⟩:=h.nm;obtain rfl:K=v:=by rw[n1]at H;exact Zq H
 have own:∀b,K.ownBlock=some b->rb+1<=b/\Xo w b=some 171:=fun b r=>⟨(n2.lt b r).1,KH n2 r⟩;have I:∀t,t≠171->∀q,q<w.heap.size->Xo w q=some t->w'.heap[q]?=w.heap[q]?:=fun t ht q A d=>F.block q A (fun e=>by have:=(own q e.symm).2;rw[d]at this;exact ht (Zq this));have y:=I _ (by decide) gb Z h.ty;have d:Xo w' gb=some 128:=(KI y).trans h.ty;have u:∀j,j≠1->(w'.setCell ⟨gb,1,none⟩ v').cell? ⟨gb,j,none⟩=w.cell? ⟨gb,j,none⟩:=fun j W=>(Zt _ _ _ _ (fun e=>W (Yt Addr.off e).symm)).trans (XQ (a:=⟨gb,j,none⟩) y);have J:∀b,b≠gb->(w'.setCell ⟨gb,1,none⟩ v').heap[b]?=w'.heap[b]?:=fun b r=>Y0 _ _ _ _ r;have s:∀t,t≠171->t≠128->∀q,q<w.heap.size->Xo w q=some t->(w'.setCell ⟨gb,1,none⟩ v').heap[q]?=w.heap[q]?:=fun t Q S q A g=>(J q (fun e=>by rw[e,h.ty]at g;exact S (Zq g).symm)).trans (I t Q q A g);obtain⟨p,hp,hr⟩:=h.R;obtain⟨vf,m,ys,L,M,N,O⟩:=h.fn;obtain⟨c,hc,U⟩:=h.ct;obtain⟨z,hz,C,V⟩:=h.sz;exact⟨⟨p,hp,hr.JV (fun b r=>(J b (by omega)).trans (F.block b (by omega) (fun e=>by have:=(own b e.symm).1;omega)))⟩,B,by rw[Wh];exact d,(u 0 (by decide)).trans h.c0,⟨v',E,Qk _ _ _ ((XQ (a:=⟨gb,1,none⟩) y).trans n1),Kc hx (by rw[d];decide),hs⟩,⟨vf,m,ys,(u 2 (by decide)).trans L,Kz M (s _ (by decide) (by decide)),N,O.Zi (s _ (by decide) (by decide))⟩,⟨c,by omega,(u 3 (by decide)).trans U⟩,⟨z,by omega,C,(u 4 (by decide)).trans V⟩,fun j=>by rw[UJ];exact(ZC (a:=⟨gb,j,none⟩) y).trans (h.fr j),X⟩
theorem Gn.pick[LB](h:Gn gb rb vb n q k w)(v:q<=900000000)(m:Int)(j:1<=m)(r:m<=1000000):Calls prog 22 #[.p rb,.q m] w fun e w'=>∃z:Nat,(z:Int)<m/\e= .returned (.q (z:Int))/\Gn gb rb vb n (q+1) k w'/\Ty w w':=by
 obtain⟨p,u,g⟩:=h.R;go_fit(LG rb n p vb m w g (by omega) j r);rintro e y⟨z,s,rfl,a,d⟩;exact⟨z,s,rfl,h.Zi (by omega) d.block ⟨p+1,by omega,a⟩,.dr d g.own⟩
theorem Gn.Xdt[LB](h:Gn gb rb vb n q k w)(r:q<=900000000)(m:Nat)(u:m<=1000000):Calls prog 22 #[.p rb,.q m] w fun e w'=>∃z:Nat,(0<m->z<m)/\e= .returned (.q (z:Int))/\Gn gb rb vb n (q+1) k w'/\Ty w w'/\z<=m:=by
 rcases Ia m with rfl|hm
 .obtain⟨p,v,j⟩:=h.R;go_fit(Ca rb n p vb w j (by omega));rintro e s⟨rfl,d,g⟩;exact⟨0,fun h=>h,rfl,h.Zi (by omega) g.block ⟨p+1,by omega,d⟩,.dr g j.own,X5 _⟩
 .refine(h.pick r m (by omega) (by omega)).mono ?_;rintro e s⟨z,y,rfl,a,b⟩;exact⟨z,fun _=>by omega,rfl,a,b,by omega⟩
theorem Gn.text[LB](h:Gn gb rb vb n q k w)(s:q<=900000000):Calls prog 133 #[.p rb] w fun e w'=>∃t:XJ,e= .returned (.string t)/\Gn gb rb vb n (q+7) k w'/\Ty w w':=by
 obtain⟨p,r,g⟩:=h.R;go_fit(TZ rb n p vb w g (by omega));rintro e u⟨t,m,rfl,j,a,d⟩;exact⟨t,rfl,h.Zi (by omega) d.block ⟨m,by omega,a⟩,.dr d g.own⟩
theorem Gn.lo[LB](h:Gn gb rb vb n q k w):Ji<=rb:=by obtain⟨p,_,a⟩:=h.R;exact a.lo
theorem Gn.Up[LB](h:Gn gb rb vb n q k w):XL (Xo w gb)/\Ji<=gb:=⟨by rw[h.ty];exact .inr (.inl rfl),by have:=h.lo;have:=h.up;omega⟩
end
theorem FT[LB]:∀(k n:Nat),n<10 ^ (k+1)->(KE n).length<=k+1:=by
 intro k;induction k with
 | zero=>intro n a;rw[KE,dif_pos (by simpa using a)];exact X5 _
 | succ k d=>
  intro n a;rw[KE];split
  .show 1<=_;omega
  .rw[Xj];have:=d (n / 10) (by rw[Nat.div_lt_iff_lt_mul (by omega)];rw[Nat.pow_succ]at a;exact a);show _+1<=_;omega
variable (gb rb:Nat) (vb:Value) (n:Nat)
theorem Aq[LB](q k:Nat)(w:World)(h:Gn gb rb vb n q k w)(B:q<=900000000):Calls prog 117 #[.p gb] w fun e w'=>∃t:XJ,e= .returned (.string t)/\Gn gb rb vb n (q+1) k w'/\Ty w w':=by
 obtain⟨c,A,r⟩:=h.ct;have y:=h.fr 3;have g:=X1 (h.count (c:=c+1) (by omega));have j:Hid (Ty w (w.setCell ⟨gb,3,none⟩ (.q ((c+1:Nat):Int)))):=X1 (.set h.Up (by decide));have v:(w.setCell ⟨gb,3,none⟩ (.q ((c:Int)+1))).cell? ⟨gb,3,none⟩=some (.q ((c:Int)+1)):=Qk _ _ _ r;have s:=FT 8 (c+1) (by show c+1<1000000000;omega);have d:=X1 (WI (c+1) (w.setCell ⟨gb,3,none⟩ (.q ((c+1:Nat):Int))) (by omega));rw[show((c+1:Nat):Int)=(c:Int)+1 from by omega]at d g j
 generalize KE (c+1)=a at *;clear h;go_enter func117,ntmps117;go_wp2_with fail;go_fit d.o;rintro e C⟨rfl,m⟩;have u:(⟨a.toArray⟩:ByteArray).size<=1000:=by show a.toArray.size<=_;simp;omega
 go_wp2;go_ret;exact⟨⟨(⟨#[110]⟩:ByteArray)++⟨a.toArray⟩,by rw[KA];show 1+(⟨a.toArray⟩:ByteArray).size<=_;omega⟩,rfl,g.o.below m,j.o.trans (.of m)⟩
theorem Vo{P:Program}{ops:Array Oper}{o:Oper}{a:Act}{w:World}{K:Act->World->Prop}{Q:Exit->Act->World->Prop}{E:Prop}(I:o.guard=none)(s x:Operand)(t:TypeId)(Z:o.op= .call {callee:= .builtin .append,args:=#[s,x],argTypes:=#[t,t]})(base:Nat)(e:TypeId)(i:TypeInfo)(z:Value)(size g:Nat)(ht:P.underlying t=some (.slice e))(hi:P.info? e=some i)(hz:i.zero=some z)(A:i.size=size)(H:i.bytes=g)(L:z.cells.size=size)(J:0<size)(v:Value)(n:Nat)(M:List Value)(hs:a.eval s=v)(B:w.ownsRow base e size v n M)(C:Addr)(m c:Nat)(d:List Value)(hx:a.eval x= .slice (some C) m c)(X:d.length=m*size)(y:∀j u,d[j]?=some u->w.cell? (C.add j)=some u)(N:∀u∈d,u.oneCell'=true)(F:n+m<=maxLen)(k:(n+m)*g<=140737488355328)(r:base<=w.heap.size)(W:∀v' w',w'.ownsRow base e size v' (n+m) (M++d)->w.grownBy w' v.ownBlock->(v'= .slice none 0 0↔v= .slice none 0 0/\m=0)->(v'.ownBlock=v.ownBlock\/v'.ownBlock=some w.heap.size)->K (a.put o.dst v') w'): if Region.wanted o (yielded ops a.tmps)=true then Oper.wp P o a w K Q else E:=by
 have hw:Region.wanted o (yielded ops a.tmps)=true:=by simp[Region.wanted,I]
 rw[Xa hw];obtain⟨v',w',hr,O,S,U,V⟩:=CU (P:=P) w base t o.type e i z size g ht hi hz A H L J v n M B C m c d X y N F k r;unfold Oper.wp execOp;simp only[Z,resolve,invoke,builtin,ZB,Jd,ZA,Qg,Y5,YD,hs,hx,hr];exact W _ _ O S U V
def Xv(n:Nat):UInt8:=if n<10 then UInt8.ofNat (48+n)else UInt8.ofNat (87+n)
def UI(b:UInt8):Bool:=decide (32<=b.toNat/\b.toNat<=126/\b.toNat≠34/\b.toNat≠92)
def ZL(b:UInt8):List UInt8:=if UI b=true then[b]else[92,Xv (b.toNat / 16),Xv (b.toNat%16)]
def Y3(l:List UInt8):List UInt8:=34::(l.flatMap ZL++[34])
def Y6(t:List UInt8):List Value:=t.map fun c=>Value.int .u8 c.toNat
theorem DF(t u:List UInt8):Y6 (t++u)=Y6 t++Y6 u:=by simp[Y6]
theorem Nl(t:List UInt8):strOfNums (t.map fun c=>(c.toNat:Int))=⟨t.toArray⟩:=by
 unfold strOfNums;simp[Function.comp_def]
theorem Sb(b:UInt8):(ZL b).length<=3:=by unfold ZL;split<;>simp
theorem S3(s:ByteArray)(j:Nat)(h:j<s.size):s.data.toList.drop j=s[j]::s.data.toList.drop (j+1):=by
 have a:j<s.data.toList.length:=by simpa using h
 rw[KM a];congr 1
theorem WQ:(prog.info? 5).map (fun i=>(i.zero,i.size,i.bytes))=some (some (.int .u8 0),1,1):=by kernel_rfl
theorem WH{w:World}{base g cap:Nat}{t:List UInt8}(h:w.ownsRow base 5 1 (.l g t.length cap) t.length (Y6 t)): (convert 22 9 (.l g t.length cap)).run prog w= .ok (.string ⟨t.toArray⟩) w:=by
 have:=run_convert_bytes_arg (P:=prog) w 22 5 underlying22 underlying5 g 0 t.length cap (t.map fun c=>(c.toNat:Int)) (by simp) (fun i hi=>by
  rw[Xu,h.cellAt i (by omega)];simp[Y6,hi]) 9 underlying9
 rw[this,Nl]
theorem Pu{W:World}{base:Nat}{e:TypeId}{size:Nat}{v:Value}{k:Nat}{d:List Value}(h:W.ownsRow base e size v k d)(m:0<k):∃g cap,v= .l g k cap:=by
 rcases h.2 with⟨_,j⟩|⟨g,cap,_,a,_⟩
 .omega
 .exact⟨g,cap,a⟩
theorem Iy{w wr n:World}{g cap k:Nat}{t u:List UInt8}{v':Value}{o:Obj}(v:u.length=k)(y:0<k)(j:wr.ownsRow w.heap.size 5 1 (.l g t.length cap) t.length (Y6 t))(r:BL w wr)(d:n.ownsRow w.heap.size 5 1 v' (t.length+k) (Y6 t++Y6 u))(s:(wr.alloc o).grownBy n (Value.l g t.length cap).ownBlock): ∃m a,v'= .l m (t.length+k) a/\n.ownsRow w.heap.size 5 1 (.l m (t++u).length a) (t++u).length (Y6 (t++u))/\Below w.heap.size w n:=by
 obtain⟨m,a,rfl⟩:=Pu d (by omega);refine⟨m,a,rfl,by rw[DF,Xj,v];exact d,(r.alloc r.size _).grown s (by have:=r.size;simp;omega) (fun k e=>?_)⟩;exact(j.lt k e).1
theorem Va{w wr W n:World}{g cap k:Nat}{t u:List UInt8}{v':Value}(v:u.length=k)(y:0<k)(j:wr.ownsRow w.heap.size 5 1 (.l g t.length cap) t.length (Y6 t))(r:BL w W)(d:n.ownsRow w.heap.size 5 1 v' (t.length+k) (Y6 t++Y6 u))(s:W.grownBy n (Value.l g t.length cap).ownBlock): ∃m a,v'= .l m (t.length+k) a/\n.ownsRow w.heap.size 5 1 (.l m (t++u).length a) (t++u).length (Y6 (t++u))/\Below w.heap.size w n:=by
 obtain⟨m,a,rfl⟩:=Pu d (by omega);exact⟨m,a,rfl,by rw[DF,Xj,v];exact d,r.grown s r.size (fun k e=>(j.lt k e).1)⟩
theorem Vb(W:World)(a b c:UInt8):∀(j:Nat) (u:Value),(Y6 [a,b,c])[j]?=some u->(W.alloc (.cells #[.int .u8 a.toNat,.int .u8 b.toNat,.int .u8 c.toNat] 5)).drew.cell? ((⟨W.heap.size,0,none⟩:Addr).add j)=some u:=by
 intro j u h;show(W.alloc (.cells #[.int .u8 a.toNat,.int .u8 b.toNat,.int .u8 c.toNat] 5)).cell? ((⟨W.heap.size,0,none⟩:Addr).add j)=some u
 match j with
 | 0=>simp[Y6]at h;subst h;simp[Addr.add]
 | 1=>simp[Y6]at h;subst h;simp[Addr.add]
 | 2=>simp[Y6]at h;subst h;simp[Addr.add]
 | j+3=>simp[Y6]at h
theorem Vh(t:List UInt8):∀u∈Y6 t,u.oneCell'=true:=by
 intro u h;simp[Y6]at h;obtain⟨c,_,rfl⟩:=h;simp[Value.oneCell']
theorem Ld(q:Nat)(h:q<16):(⟨#[48,49,50,51,52,53,54,55,56,57,97,98,99,100,101,102]⟩:ByteArray)[q]'h=Xv q:=by
 have:∀x:Fin 16,(⟨#[48,49,50,51,52,53,54,55,56,57,97,98,99,100,101,102]⟩:ByteArray)[x.val]'x.isLt=Xv x.val:=by decide
 exact this ⟨q,h⟩
theorem IF(W:World)(x:Int):∀(j:Nat) (u:Value),[Value.int .u8 x][j]?=some u->(W.alloc (.cells #[.int .u8 x] 5)).cell? ((⟨W.heap.size,0,none⟩:Addr).add j)=some u:=by
 intro j u h
 match j with
 | 0=>simp at h;subst h;simp[Addr.add]
 | j+1=>simp at h
theorem Pj(s:ByteArray)(w:World)(hs:s.size<=1000000):CB 43 #[.string s] w (.string ⟨(Y3 s.data.toList).toArray⟩):=by
 obtain⟨L,hi,B,C,E⟩:=YK WQ;go_enter func43,ntmps43;go_wp2
 go_loopw[3,5] (fun v i wr=>∃(j:Nat) (t:List UInt8) (g cap:Nat),j<=s.size/\i= .q j/\v= .l g t.length cap/\wr.ownsRow w.heap.size 5 1 (.l g t.length cap) t.length (Y6 t)/\BL w wr/\t.length<=1+3*j/\
   t++((s.data.toList.drop j).flatMap ZL++[34])=Y3 s.data.toList) (fun _ i _=>s.size-(intOf i).toNat)
 case atStart=>
  exact⟨0,[34],w.heap.size,1,Xb _,rfl,rfl,Y4 w #[.int .u8 34] 1 (X5 _) (by decide) rfl,bA _,by simp,rfl⟩
 case round=>
  obtain⟨j,t,g,cap,hj,rfl,rfl,n,N,a4,he⟩:=hrel;have K:=X1 he;clear he;have a3:=N.size;by_cases a1:j<s.size
  .have O:=X1 (S3 s j a1);have a2:s[j].toNat<256:=UInt8.toNat_lt _;by_cases Q:UI s[j]=true
   .have J:32<=s[j].toNat/\s[j].toNat<=126/\s[j].toNat≠34/\s[j].toNat≠92:=by simpa[UI]using Q
    have I:=X1 (show ZL s[j]=[s[j]] by unfold ZL;rw[Xa Q]);obtain⟨b1,b2,b3,b4⟩:=J;have c1:(32:Int)<=(s[j].toNat:Int):=by omega
    have c2:(s[j].toNat:Int)<=126:=by omega
    have c3:((s[j].toNat:Int)!=34)=true:=by simp;omega
    have c4:((s[j].toNat:Int)!=92)=true:=by simp;omega
    go_wp2_with(at_builtin;refine Vr _ rfl _ _ 22 rfl w.heap.size 5 L (.int .u8 0) 1 1 underlying22 hi B C E rfl (by decide) _ _ _ rfl (n.alloc _) ⟨wr.heap.size,0,none⟩ 1 1 [.int .u8 s[j].toNat] rfl rfl (IF _ _) (by simp[Value.oneCell']) ?_ ?_ ?_ ?_)
    .unfold maxLen;omega
    .omega
    .first|omega|(simp;omega)
    .intro v' V d a _;obtain⟨F,m,rfl,A,y⟩:=Iy (u:=[s[j]]) (k:=1) rfl (by decide) n N d a;clear d a n;go_wp2;go_roundw
     case rel=>
      refine⟨j+1,t++[s[j]],F,m,by omega,by go_num,by simp,A,y,by simp;omega,?_⟩;rw[←K.o,O.o,JH,I.o];simp
     case measure=>simp[intOf];omega
   .have J:s[j].toNat<32\/(32<=s[j].toNat/\126<s[j].toNat)\/(32<=s[j].toNat/\s[j].toNat<=126/\s[j].toNat=34)\/(32<=s[j].toNat/\s[j].toNat<=126/\s[j].toNat≠34/\s[j].toNat=92):=by
     simp[UI]at Q;omega
    have I:=X1 (show ZL s[j]=[92,Xv (s[j].toNat / 16),Xv (s[j].toNat%16)] by unfold ZL;rw[X6 Q]);clear Q;obtain⟨q,eq⟩:∃q,s[j].toNat / 16=q:=⟨_,rfl⟩;obtain⟨r,er⟩:∃r,s[j].toNat%16=r:=⟨_,rfl⟩;have S:q<16:=by omega
    have U:r<16:=by omega
    have e1:(s[j].toNat:Int) / 16=(q:Int):=by omega
    have e2:(s[j].toNat:Int).tmod 16=(r:Int):=by rw[UY (by omega)];omega
    have e4:IntKind.u8.wrap (q:Int)=(q:Int):=by rw[IntKind.wrap_u8];omega
    have e5:IntKind.u8.wrap (r:Int)=(r:Int):=by rw[IntKind.wrap_u8];omega
    have f1:=Ld q S;have f2:=Ld r U;have W:=X1 ((n.alloc (.cells #[.int .u8 (92:UInt8).toNat,.int .u8 (Xv q).toNat,.int .u8 (Xv r).toNat] 5)).drew);have M:=X1 ((N.alloc N.size (.cells #[.int .u8 (92:UInt8).toNat,.int .u8 (Xv q).toNat,.int .u8 (Xv r).toNat] 5)).drew);have X:=X1 M.o.size;have H:=X1 n;rw[eq,er]at I;clear n;rcases J with J|J|J|J
    .have Z:¬((32:Int)<=(s[j].toNat:Int)):=by omega
     go_wp2_with fail;go_region_held3 (fun _=>True) (trivial) ((refine Vo rfl (.tmp 41) (.tmp 54) 22 rfl w.heap.size 5 L (.int .u8 0) 1 1 underlying22 hi B C E rfl (by decide) (.l g t.length cap) t.length (Y6 t) (by simp[Act.eval]) W.o ⟨wr.heap.size,0,none⟩ 3 3 (Y6 [92,Xv q,Xv r]) (by simp[Act.eval]) rfl (Vb wr 92 (Xv q) (Xv r)) (Vh _) (by unfold maxLen;omega) (by omega) X.o ?_;intro v' V d a _ _));all_goals
      obtain⟨F,m,rfl,A,y⟩:=Va (u:=[92,Xv q,Xv r]) (k:=3) rfl (by decide) H.o M.o d a;clear d a;go_wp2;go_roundw
      case rel=>
       refine⟨j+1,t++[92,Xv q,Xv r],F,m,by omega,by go_num,by simp,A,y,by simp;omega,?_⟩;rw[←K.o,O.o,JH,I.o];simp
      case measure=>simp[intOf];omega
    .have Z:(32:Int)<=(s[j].toNat:Int):=by omega
     have d2:¬((s[j].toNat:Int)<=126):=by omega
     go_wp2_with fail;go_region_held3 (fun _=>True) (trivial) ((refine Vo rfl (.tmp 41) (.tmp 54) 22 rfl w.heap.size 5 L (.int .u8 0) 1 1 underlying22 hi B C E rfl (by decide) (.l g t.length cap) t.length (Y6 t) (by simp[Act.eval]) W.o ⟨wr.heap.size,0,none⟩ 3 3 (Y6 [92,Xv q,Xv r]) (by simp[Act.eval]) rfl (Vb wr 92 (Xv q) (Xv r)) (Vh _) (by unfold maxLen;omega) (by omega) X.o ?_;intro v' V d a _ _));all_goals
      obtain⟨F,m,rfl,A,y⟩:=Va (u:=[92,Xv q,Xv r]) (k:=3) rfl (by decide) H.o M.o d a;clear d a;go_wp2;go_roundw
      case rel=>
       refine⟨j+1,t++[92,Xv q,Xv r],F,m,by omega,by go_num,by simp,A,y,by simp;omega,?_⟩;rw[←K.o,O.o,JH,I.o];simp
      case measure=>simp[intOf];omega
    .have Z:(32:Int)<=(s[j].toNat:Int):=by omega
     have d2:(s[j].toNat:Int)<=126:=by omega
     have d3:((s[j].toNat:Int)!=34)=false:=by simp;omega
     obtain rfl:q=2:=by omega
     obtain rfl:r=2:=by omega
     go_wp2_with fail;go_region_held3 (fun _=>True) (trivial) ((refine Vo rfl (.tmp 41) (.tmp 54) 22 rfl w.heap.size 5 L (.int .u8 0) 1 1 underlying22 hi B C E rfl (by decide) (.l g t.length cap) t.length (Y6 t) (by simp[Act.eval]) W.o ⟨wr.heap.size,0,none⟩ 3 3 (Y6 [92,Xv 2,Xv 2]) (by simp[Act.eval]) rfl (Vb wr 92 (Xv 2) (Xv 2)) (Vh _) (by unfold maxLen;omega) (by omega) X.o ?_;intro v' V d a _ _));all_goals
      obtain⟨F,m,rfl,A,y⟩:=Va (u:=[92,Xv 2,Xv 2]) (k:=3) rfl (by decide) H.o M.o d a;clear d a;go_wp2;go_roundw
      case rel=>
       refine⟨j+1,t++[92,Xv 2,Xv 2],F,m,by omega,by go_num,by simp,A,y,by simp;omega,?_⟩;rw[←K.o,O.o,JH,I.o];simp
      case measure=>simp[intOf];omega
    .have Z:(32:Int)<=(s[j].toNat:Int):=by omega
     have d2:(s[j].toNat:Int)<=126:=by omega
     have d3:((s[j].toNat:Int)!=34)=true:=by simp;omega
     have d4:((s[j].toNat:Int)!=92)=false:=by simp;omega
     obtain rfl:q=5:=by omega
     obtain rfl:r=12:=by omega
     go_wp2_with fail;go_region_held3 (fun _=>True) (trivial) ((refine Vo rfl (.tmp 41) (.tmp 54) 22 rfl w.heap.size 5 L (.int .u8 0) 1 1 underlying22 hi B C E rfl (by decide) (.l g t.length cap) t.length (Y6 t) (by simp[Act.eval]) W.o ⟨wr.heap.size,0,none⟩ 3 3 (Y6 [92,Xv 5,Xv 12]) (by simp[Act.eval]) rfl (Vb wr 92 (Xv 5) (Xv 12)) (Vh _) (by unfold maxLen;omega) (by omega) X.o ?_;intro v' V d a _ _));all_goals
      obtain⟨F,m,rfl,A,y⟩:=Va (u:=[92,Xv 5,Xv 12]) (k:=3) rfl (by decide) H.o M.o d a;clear d a;go_wp2;go_roundw
      case rel=>
       refine⟨j+1,t++[92,Xv 5,Xv 12],F,m,by omega,by go_num,by simp,A,y,by simp;omega,?_⟩;rw[←K.o,O.o,JH,I.o];simp
      case measure=>simp[intOf];omega
  .have HF:=X1 (show t++[34]=Y3 s.data.toList by rw[←K.o,YI (by simp;omega)];rfl);go_wp2_with(at_builtin;refine Vr _ rfl _ _ 22 rfl w.heap.size 5 L (.int .u8 0) 1 1 underlying22 hi B C E rfl (by decide) _ _ _ rfl (n.alloc _) ⟨wr.heap.size,0,none⟩ 1 1 [.int .u8 34] rfl rfl (IF _ _) (by simp[Value.oneCell']) ?_ ?_ ?_ ?_)
   .unfold maxLen;omega
   .omega
   .first|omega|(simp;omega)
   .intro v' V d a _;obtain⟨F,m,rfl,A,y⟩:=Iy (u:=[34]) (k:=1) rfl (by decide) n N d a;clear d a n;have a0:=WH A;rw[Xj,Ds]at a0;go_wp2;go_ret;exact⟨by rw[←HF.o];rfl,y⟩
