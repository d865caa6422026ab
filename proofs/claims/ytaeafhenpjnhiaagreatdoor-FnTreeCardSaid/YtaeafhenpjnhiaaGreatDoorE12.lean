import Derived.Test.YtaeafhenpjnhiaaGreatDoorE07
import Derived.Test.YtaeafhenpjnhiaaGreatDoorE11
set_option maxHeartbeats 4000000
set_option maxRecDepth 100000
namespace Go.Proofs.YtaeafhenpjnhiaaGreatDoor
open Tryz Go.RowKit
section
variable (gb rb:Nat) (vb:Value) (n:Nat)
theorem Ll[LB](q k:Nat)(a:Int)(w:World)(h:Gn gb rb vb n q k w)(hq:q<=700000000):Calls prog 116 #[.p gb,.q a] w (GMk gb rb vb n q 30 k w):=by
 have B0:=h.B0;clear h;go_enter func116,ntmps116;go_wp2_with fail;go_fit(Xag gb rb vb n q k a w B0.g (by omega));rintro e J⟨v1,U,K,rfl,E,-,j,F,Z,X,W,rfl⟩;have B:GB gb rb vb n w [] (q+1) k J:=⟨j,F,trivial⟩;have d:=j.c0;have r:=X1 E;clear E j F B0;cases K;rotate_left;focus
  obtain⟨H,V,m0⟩:=r.o rfl;have B:GB gb rb vb n w [(_,U)] (q+1) k J:=⟨B.g,B.t,⟨H,V⟩,trivial⟩;clear r H;go_wp2_with fail;go_fit(B.pk 3 (by omega));rintro e w⟨z,I,rfl,d,B⟩;by_cases hp:(0:Int)<(z:Int)
  .go_wp2;go_ret;exact B.ret (by omega)
  obtain rfl:z=0:=by omega
  have B:=B.pop
 all_goals
  by_cases s:a=0
  .subst s;have L:=(B.al (.cells #[.q 0,.q 1,.q 2,.q 3,.q 7,.q 200,.q 9223372036854775807] 2)).g.c0;go_wp2_with fail;go_fit(B.ik Xaa [.q 0,.q 1,.q 2,.q 3,.q 7,.q 200,.q 9223372036854775807] 7 rfl rfl (by omega));rintro e w⟨z,u,I,rfl,cl,d,B⟩;go_wp2_with fail;go_fit(B.mo (VU u _ (by omega)));rintro e w⟨g,c,l,rfl,m,d,B⟩;go_wp2;go_ret;exact B.ret (by omega)
  by_cases v:a=1
  .subst v;go_wp2_with fail;go_fit(B.st (B.g.text (by omega)));rintro e w⟨t,rfl,d,B⟩;go_wp2_with fail;go_fit(B.mo (We t _));rintro e w⟨g,c,l,rfl,m,d,B⟩;go_wp2;go_ret;exact B.ret (by omega)
  by_cases y:a=2
  .subst y;go_wp2_with fail;go_fit(B.pk 2 (by omega));rintro e w⟨z,I,rfl,d,B⟩;go_wp2;go_ret;exact(B.bx ⟨2,0,z,⟨#[]⟩,0⟩ ⟨YM rfl,by show(z:Int)<_;omega⟩).ret (by simp)
  by_cases A:a=3
  .subst A;go_wp2_with fail;go_fit(B.mo (We _ _));rintro e w⟨g,c,l,rfl,m,d,B⟩;go_wp2_with fail;go_fit(B.mo (We _ _));rintro e w⟨g,c,l,rfl,m,d,B⟩;go_wp2_with fail;go_fit(B.o2 ⟨8,0,0,⟨#[]⟩,0⟩ (by omega));rintro e w⟨g,c,l,rfl,m,d,B⟩;go_wp2;go_ret;exact B.ret (by omega)
  by_cases C:a=4
  .subst C;go_wp2_with fail;go_fit(B.mo (VU 1 _ (by decide)));rintro e w⟨g,c,l,rfl,m,d,B⟩;go_wp2_with fail;go_fit(B.o1 ⟨17,0,0,⟨#[97]⟩,0⟩ (by omega));rintro e w⟨g,c,l,rfl,m,d,B⟩;go_wp2_with fail;go_fit(B.o1 ⟨9,0,0,⟨#[]⟩,0⟩ (by omega));rintro e w⟨g,c,l,rfl,m,d,B⟩;go_wp2;go_ret;exact B.ret (by omega)
  have M:(a==0)=false:=by simpa using s
  have N:(a==1)=false:=by simpa using v
  have O:(a==2)=false:=by simpa using y
  have Q:(a==3)=false:=by simpa using A
  have S:(a==4)=false:=by simpa using C
  go_wp2;go_ret;exact(B.bx ⟨1,0,0,⟨#[]⟩,0⟩).ret (by simp)
end
section
namespace Rb
variable {ts:List Sc.T} {sz:Nat}
def tm(t:List UInt8):Sc.T:=⟨5,t,0,0⟩
def tw(t:List UInt8):Sc.T:=⟨2,t,0,0⟩
def tn(t:List UInt8):Sc.T:=⟨1,t,0,0⟩
def ti(n:Nat):Sc.T:=⟨3,[],n,0⟩
def tt(t:List UInt8):Sc.T:=⟨4,t,0,0⟩
def tO(o:Nat):Sc.T:=if o<=2\/o=9 then tw (Yd o)else tm (Yd o)
def nd(k o n:Int)(t:List UInt8)(c:Nat):Nd:=⟨k,o,n,⟨t.toArray⟩,c⟩
theorem Cv.to{c:Zb}{s g:Pr.Dk}{r d:Pr.Dk × Nat}(h:Pr.Cv ts sz c s r)(e:r=d)(j:g=s):Pr.Cv ts sz c g d:=by rw[j,←e];exact h
@[simp] theorem D_p (p:Nat) (o:List Nd):(D p o).p=p:=rfl
@[simp] theorem D_out (p:Nat) (o:List Nd):(D p o).o=o:=rfl
@[simp] theorem put_D (p:Nat) (o:List Nd) (k a n:Int) (t:List UInt8) (c:Nat):X9 (D p o) k a n t c=D p (o++[nd k a n t c]):=rfl
theorem Vt{p q:Nat}{a b:List Nd}(h:p=q)(d:a=b):D p a=D q b:=by rw[h,d]
theorem YB{p q n m:Nat}{a b:List Nd}(h:p=q)(d:a=b)(g:n=m):(D p a,n)=(D q b,m):=by rw[h,d,g]
theorem ZU{p:Nat}{l:List Sc.T}(h:rem ts p=l){t:List UInt8}(a:isT l t=true)(o:List Nd):Xd ts sz (D p o) t=D (p+1) o:=Yw (by rw[Xt,h];exact a)
theorem KX{p:Nat}{t:List UInt8}{r:List Sc.T}(h:rem ts p=tn t::r)(o:List Nd):Xm ts sz (D p o)=D (p+1) o/\Xe ts sz (D p o)=t:=by
 have d:=(GZ (sz:=sz) h o).1;have a:=Yt Sc.T.kind d;have b:=Yt Sc.T.text d;have g:(X3 ts sz (D p o)).kind=1:=a;have j:(X3 ts sz (D p o)).text=t:=b;have k:K2 ts sz (D p o)=true:=by unfold K2;rw[g];rfl
 unfold Xm Xe;rw[k,j];exact⟨rfl,rfl⟩
theorem MY{o:Nat}(a:1<=o)(d:o<=14)(r:List Sc.T):fin (Xi o+1) (tO o::r)=true/\isT (tO o::r) (Yd o)=true:=by
 have:o=1\/o=2\/o=3\/o=4\/o=5\/o=6\/o=7\/o=8\/o=9\/o=10\/o=11\/o=12\/o=13\/o=14:=by omega
 rcases this with rfl|rfl|rfl|rfl|rfl|rfl|rfl|rfl|rfl|rfl|rfl|rfl|rfl|rfl<;>exact⟨rfl,rfl⟩
theorem C1{o p:Nat}(a:1<=o)(d:o<=14){r:List Sc.T}(h:rem ts p=tO o::r)(out:List Nd):YT ts sz (D p out) (Xi o)=o:=(Ms a d (by rw[Xt,h];exact(MY a d r).2)).1
theorem T4{k o:Nat}(m:1<=o)(n:o<=14)(s:Xi o=k)(v:k≠4){a b:List Sc.T}{j u:List Nd}(y:LC ts sz k a j)(A:LD ts sz (k+1) b u):LC ts sz k (a++tO o::b) (j++u++[nd 7 o 0 [] 2]):=fun p out r F E C B=>by
 have d:rem ts p=a++tO o::(b++r):=by rw[E];simp
 have r1:=YL d
 have g:=C1 (sz:=sz) m n r1 (out++j)
 rw[s]at g
 refine y p out _ _ d (by rw[←s];exact(MY m n _).1) ?_
 refine Pr.Cv.P2 (by rw[g];simp;omega) (by simpa using v) (A _ _ r (Y9 r1) C) ?_
 rw[g]
 refine Cv.to B rfl ?_
 exact Vt (by simp;omega) (by simp[nd])
theorem T3{o:Nat}(m:1<=o)(n:o<=14)(u:Xi o=4){a b:List Sc.T}{j v:List Nd}(y:LD ts sz 5 a j)(A:LD ts sz 5 b v):LD ts sz 4 (a++tO o::b) (j++v++[nd 7 o 0 [] 2]):=fun p out r C B=>by
 have g:rem ts p=a++tO o::(b++r):=by rw[C];simp
 have r1:=YL g
 have k:=C1 (sz:=sz) m n r1 (out++j)
 rw[u]at k
 have d:=(MY m n (b++r)).1
 rw[u]at d
 have E:=Pr.Cv.P1 (ts:=ts) (sz:=sz) (s:=D (p+a.length) (out++j)) (by rw[k];simp;omega) (A _ _ r (Y9 r1) (IT B (by omega)))
 refine Cv.to (Pr.Cv.Vk (s:=D p out) rfl rfl rfl (y p out _ g d) E) ?_ rfl
 rw[k]
 exact YB (by simp;omega) (by simp[nd]) rfl
theorem Y2t{a:List Sc.T}{g:List Nd}(j:LD ts sz 3 a g):LD ts sz 3 (tw Zk::a) (g++[nd 6 1 0 [] 1]):=fun p out r d k=>by
 refine Cv.to (Pr.Cv.P4 (s:=D p out) rfl (by rw[Xt,d];rfl) (j (p+1) out r (Y9 d) k)) ?_ rfl
 exact YB (by simp;omega) (by simp[nd]) rfl
theorem Y2s{a:List Sc.T}{g:List Nd}(j:LD ts sz 7 a g):LD ts sz 7 (tm [45]::a) (g++[nd 6 2 0 [] 1]):=fun p out r d k=>by
 refine Cv.to (Pr.Cv.D3 (s:=D p out) rfl rfl (by rw[Xt,d];rfl) (j (p+1) out r (Y9 d) k)) ?_ rfl
 exact YB (by simp;omega) (by simp[nd]) rfl
theorem JB{p:Nat}{x:Sc.T}{r:List Sc.T}(h:rem ts p=x::r)(o:List Nd):(X3 ts sz (D p o)).kind=x.kind/\(X3 ts sz (D p o)).text=x.text/\(X3 ts sz (D p o)).n=x.n:=by
 have d:=(GZ (sz:=sz) h o).1;have a:=Yt Sc.T.kind d;have b:=Yt Sc.T.text d;have c:=Yt Sc.T.n d;exact⟨a,b,c⟩
theorem OR(n:Nat):L9 ts sz [ti n] [nd 3 0 n [] 0]:=fun p out r d _=>by
 obtain⟨a,b,c⟩:=JB (sz:=sz) d out
 have k:=Pr.Cv.PA (ts:=ts) (sz:=sz) (s:=D p out) rfl (by rw[a];rfl)
 rw[c]at k
 exact k
theorem OX(t:List UInt8):L9 ts sz [tt t] [nd 4 0 0 t 0]:=fun p out r d _=>by
 obtain⟨a,b,c⟩:=JB (sz:=sz) d out
 have k:=Pr.Cv.PH (ts:=ts) (sz:=sz) (s:=D p out) rfl (by rw[a];rfl) (by rw[a];rfl)
 rw[b]at k
 exact k
theorem OT(t:List UInt8):L9 ts sz [tn t] [nd 5 0 0 t 0]:=fun p out r d _=>by
 obtain⟨a,b,c⟩:=JB (sz:=sz) d out
 have k:=Pr.Cv.PD (ts:=ts) (sz:=sz) (s:=D p out) rfl (by rw[a];rfl) (by rw[a];rfl) (by rw[a];rfl)
 rw[b]at k
 exact k
theorem OU:L9 ts sz [tw Zj] [nd 1 0 0 [] 0]:=fun p out r d _=>by
 obtain⟨a,b,c⟩:=JB (sz:=sz) d out
 exact Pr.Cv.PE rfl (by rw[a];rfl) (by rw[a];rfl) (by rw[a];rfl) (by rw[Xt,d];rfl)
theorem OQ:L9 ts sz [tw ZK] [nd 2 0 0 [] 0]:=fun p out r d _=>by
 obtain⟨a,b,c⟩:=JB (sz:=sz) d out
 exact Pr.Cv.Pz rfl (by rw[a];rfl) (by rw[a];rfl) (by rw[a];rfl) (by rw[Xt,d];rfl) (by rw[Xt,d];rfl)
theorem OY:L9 ts sz [tw K4] [nd 2 0 1 [] 0]:=fun p out r d _=>by
 obtain⟨a,b,c⟩:=JB (sz:=sz) d out
 exact Pr.Cv.PI rfl (by rw[a];rfl) (by rw[a];rfl) (by rw[a];rfl) (by rw[Xt,d];rfl) (by rw[Xt,d];rfl) (by rw[Xt,d];rfl)
theorem Vi{a:List Sc.T}{g:List Nd}(h:Rd ts sz .list (fun _=>True) a g 0):L9 ts sz (tm [91]::a) g:=fun p out r d _=>by
 obtain⟨k,_,_⟩:=JB (sz:=sz) d out
 refine Cv.to (Pr.Cv.PC (s:=D p out) rfl (by rw[k];rfl) (by rw[k];rfl) (by rw[k];rfl) (by rw[Xt,d];rfl) (by rw[Xt,d];rfl) (by rw[Xt,d];rfl) (by rw[Xt,d];rfl) (h (p+1) out r (Y9 d) trivial)) ?_ rfl
 exact YB (by simp;omega) rfl rfl
theorem W7{a:List Sc.T}{g:List Nd}(h:Rd ts sz .record (fun _=>True) a g 0):L9 ts sz (tm [123]::a) g:=fun p out r d _=>by
 obtain⟨k,_,_⟩:=JB (sz:=sz) d out
 refine Cv.to (Pr.Cv.PF (s:=D p out) rfl (by rw[k];rfl) (by rw[k];rfl) (by rw[k];rfl) (by rw[Xt,d];rfl) (by rw[Xt,d];rfl) (by rw[Xt,d];rfl) (by rw[Xt,d];rfl) (by rw[Xt,d];rfl) (h (p+1) out r (Y9 d) trivial)) ?_ rfl
 exact YB (by simp;omega) rfl rfl
theorem Gx{a:List Sc.T}{g:List Nd}(h:LE ts sz a g):L9 ts sz (tm [40]::(a++[tm [41]])) g:=fun p out r d _=>by
 obtain⟨k,_,_⟩:=JB (sz:=sz) d out
 have r1:rem ts (p+1)=a++tm [41]::r:=by rw[Y9 d];simp
 have e:=Pr.Cv.PG (ts:=ts) (sz:=sz) (s:=D p out) rfl (by rw[k];rfl) (by rw[k];rfl) (by rw[k];rfl) (by rw[Xt,d];rfl) (by rw[Xt,d];rfl) (by rw[Xt,d];rfl) (by rw[Xt,d];rfl) (by rw[Xt,d];rfl) (by rw[Xt,d];rfl) (h (p+1) out _ r1 rfl)
 refine Cv.to e ?_ rfl
 rw[ZU (YL r1) rfl]
 exact YB (by simp;omega) rfl rfl
theorem X8t{t:List UInt8}{a b:List Sc.T}{d j:List Nd}(u:LE ts sz a d)(v:LE ts sz b j):LE ts sz (tw XM::tn t::tm [61]::(a++tw Y1::b)) (d++j++[nd 14 0 0 t 2]):=fun p out r g y=>by
 have r1:=Y9 g
 have r2:=Y9 r1
 have k:rem ts (p+1+1+1)=a++tw Y1::(b++r):=by rw[Y9 r2];simp
 have m:=YL k;have n:Xd ts sz (Xm ts sz (X2 (D p out))) [61]=D (p+1+1+1) out:=by
  show Xd ts sz (Xm ts sz (D (p+1) out)) [61]=_;rw[(KX r1 out).1,ZU r2 rfl]
 have A:=Cv.to (u _ out _ k rfl) rfl n;have B:=Cv.to (v _ (out++d) r (Y9 m) y) rfl (ZU (sz:=sz) m (t:=Y1) rfl (out++d));refine Cv.to (Pr.Cv.DW (s:=D p out) (by rw[Xt,g];rfl) A B) ?_ rfl;show(X9 _ 14 0 0 (Xe ts sz (D (p+1) out)) 2,0)=_;rw[(KX r1 out).2];exact YB (by simp;omega) (by simp[nd]) rfl
theorem X8s{a b c:List Sc.T}{d g k:List Nd}(u:LE ts sz a d)(v:LE ts sz b g)(y:LE ts sz c k):LE ts sz (tw XR::(a++tw Qi::(b++tw Qq::c))) (d++g++k++[nd 13 0 0 [] 3]):=fun p out r j A=>by
 have r1:rem ts (p+1)=a++tw Qi::(b++tw Qq::(c++r)):=by rw[Y9 j];simp
 have r2:=YL r1
 have m:=Y9 r2
 have n:=YL m
 have B:=u _ out _ r1 rfl
 have C:=Cv.to (v _ (out++d) _ m rfl) rfl (ZU (sz:=sz) r2 (t:=Qi) rfl (out++d))
 have E:=Cv.to (y _ (out++d++g) r (Y9 n) A) rfl (ZU (sz:=sz) n (t:=Qq) rfl (out++d++g))
 refine Cv.to (Pr.Cv.IQ (s:=D p out) (by rw[Xt,j];rfl) (by rw[Xt,j];rfl) B C E) ?_ rfl
 exact YB (by simp;omega) (by simp[nd]) rfl
theorem Xdb{a b:List Sc.T}{g j:List Nd}(n:L8 ts sz a g)(s:LE ts sz b j):L8 ts sz (a++tm [91]::(b++[tm [93]])) (g++j++[nd 10 0 0 [] 2]):=fun p out r k v u=>by
 have m:rem ts p=a++tm [91]::(b++tm [93]::r):=by rw[v];simp
 have r1:=YL m
 have r2:=Y9 r1
 have y:=YL r2
 refine n p out _ k m (Pr.Cv.LI rfl (by rw[Xt,r1];rfl) (by rw[Xt,r1];rfl) (s _ (out++g) _ r2 rfl) ?_)
 refine Cv.to u rfl ((Yt (fun d=>X9 d 10 0 0 [] 2) (ZU (sz:=sz) y (t:=[93]) rfl (out++g++j))).trans ?_)
 exact Vt (by simp;omega) (by simp[nd])
theorem Xda{t:List UInt8}{a:List Sc.T}{d:List Nd}(k:L8 ts sz a d):L8 ts sz (a++[tm [46],tn t]) (d++[nd 11 0 0 t 1]):=fun p out r g n m=>by
 have j:rem ts p=a++tm [46]::tn t::r:=by rw[n];simp
 have r1:=YL j
 have r2:=Y9 r1
 refine k p out _ g j (Pr.Cv.LH rfl (by rw[Xt,r1];rfl) (by rw[Xt,r1];rfl) (by rw[Xt,r1];rfl) ?_)
 refine Cv.to m rfl ?_
 show X9 (Xm ts sz (D (p+a.length+1) (out++d))) 11 0 0 (Xe ts sz (D (p+a.length+1) (out++d))) 1=_
 rw[(KX r2 _).1,(KX r2 _).2]
 exact Vt (by simp;omega) (by simp[nd])
end Rb
end
def Ip.ty(k:Int):TypeId:=bif k==5 then 133 else bif k==6 then 134 else bif k==7 then 135 else bif k==8 then 136 else bif k==9 then 137 else bif k==10 then 138 else bif k==11 then 139 else bif k==12 then 140 else bif k==13 then 141 else bif k==14 then 142 else bif k==15 then 143 else bif k==16 then 144 else bif k==17 then 145 else bif k==18 then 146 else bif k==19 then 147 else bif k==20 then 148 else bif k==21 then 149 else bif k==22 then 150 else bif k==23 then 151 else bif k==24 then 152 else 153
def Ip.pv(x:Nd)(sl:Value):Value:= .iface (Ip.ty x.kind) (.agg #[.q x.kind,.q x.op,.q x.n,.string x.text,.q x.kids,sl])
def Ip.Kids(P:Value->List Nd->Prop):List Value->List Nd->Prop
 | [],l=>l=[]
 | v::vs,l=>∃a r,P v a/\Ip.Kids P vs r/\l=a++r
def Ip.At(B:Nat->Prop)(w:World):Nat->Value->List Nd->Prop
 | 0,_,_=>False
 | n+1,v,l=>∃(x:Nd) (sl:Value) (xs:List Value) (r:List Nd),v=Ip.pv x sl/\x.kids=xs.length/\w.ownsRow 0 44 1 sl xs.length xs/\(∀q,sl.ownBlock=some q->B q)/\Ip.Kids (Ip.At B w n) xs r/\l=r++[x]
theorem Ip.Kids.mono{P Q:Value->List Nd->Prop}(h:∀v l,P v l->Q v l):∀{d:List Value} {l:List Nd},Ip.Kids P d l->Ip.Kids Q d l
 | [],_,k=>k
 | _::_,_,⟨a,r,k1,k2,k3⟩=>⟨a,r,h _ _ k1,Ip.Kids.mono h k2,k3⟩
theorem Ip.Kids.append{P:Value->List Nd->Prop}:∀{d g:List Value} {l m:List Nd},Ip.Kids P d l->Ip.Kids P g m->Ip.Kids P (d++g) (l++m)
 | [],_,_,_,k,k'=>by have k:_=[]:=k;subst k;exact k'
 | _::_,_,_,m,⟨a,r,k1,k2,k3⟩,k'=>⟨a,r++m,k1,Ip.Kids.append k2 k',by rw[k3,KL]⟩
theorem Ip.Kids.one{P:Value->List Nd->Prop}{v:Value}{l:List Nd}(h:P v l):Ip.Kids P [v] l:=⟨l,[],h,rfl,by simp⟩
theorem Ip.Kids.cons{P:Value->List Nd->Prop}{v:Value}{a:List Value}{l m:List Nd}(h:P v l)(k:Ip.Kids P a m):Ip.Kids P (v::a) (l++m):=⟨l,m,h,k,rfl⟩
theorem Vn{w w':World}{base size:Nat}{e:TypeId}{v:Value}{n:Nat}{k:List Value}(h:w.ownsRow base e size v n k){a:Nat}(y:∀q,v.ownBlock=some q->a<=q)(u:∀q,v.ownBlock=some q->w'.heap[q]?=w.heap[q]?):w'.ownsRow a e size v n k:=by
 refine⟨h.1,?_⟩;rcases h.2 with m|⟨g,cap,d,j,A,r,s⟩
 .exact .inl m
 .have e:v.ownBlock=some g:=by rw[j];rfl
  exact .inr ⟨g,cap,d,j,y g e,(u g e).trans r,s⟩
theorem Ip.At.go{B B':Nat->Prop}{w w':World}(a:∀q,B q->B' q)(d:∀q,B q->w'.heap[q]?=w.heap[q]?):∀{n:Nat} {v:Value} {l:List Nd},Ip.At B w n v l->Ip.At B' w' n v l
 | _+1,_,_,⟨x,sl,xs,r,h1,h2,h3,h4,h5,h6⟩=>⟨x,sl,xs,r,h1,h2,Vn h3 (fun _ _=>Xb _) (fun q e=>d q (h4 q e)),fun q e=>a q (h4 q e),h5.mono (fun _ _=>Ip.At.go a d),h6⟩
theorem Ip.At.up{B:Nat->Prop}{w:World}:∀{n:Nat} {v:Value} {l:List Nd},Ip.At B w n v l->Ip.At B w (n+1) v l
 | _+1,_,_,⟨x,sl,xs,r,h1,h2,h3,h4,h5,h6⟩=>⟨x,sl,xs,r,h1,h2,h3,h4,h5.mono (fun _ _=>Ip.At.up),h6⟩
theorem Ip.At.le{B:Nat->Prop}{w:World}{n m:Nat}{v:Value}{l:List Nd}(h:Ip.At B w n v l)(hm:n<=m):Ip.At B w m v l:=by
 induction m with
 | zero=>
  obtain rfl:n=0:=by omega
  exact h
 | succ m a=>
  by_cases e:n=m+1
  .rw[←e];exact h
  .exact(a (by omega)).up
theorem Ip.At.one{B:Nat->Prop}{w:World}:∀{n:Nat} {v:Value} {l:List Nd},Ip.At B w n v l->v.oneCell'=true
 | _+1,_,_,⟨_,_,_,_,h1,_⟩=>by rw[h1];rfl
def Ip.Pt(lo:Nat)(w:World)(v:Value)(l:List Nd):Prop:=∃n,Ip.At (fun q=>lo<=q/\q<w.heap.size) w n v l
theorem Ip.Pt.go{lo lo':Nat}{w w':World}{v:Value}{l:List Nd}(h:Ip.Pt lo w v l)(a:lo'<=lo)(d:w.heap.size<=w'.heap.size)(g:∀q,lo<=q->q<w.heap.size->w'.heap[q]?=w.heap[q]?):Ip.Pt lo' w' v l:=by
 obtain⟨n,h⟩:=h;exact⟨n,h.go (fun q e=>⟨Xz a e.1,XH e.2 d⟩) (fun q e=>g q e.1 e.2)⟩
def Ip.Row(lo:Nat)(w:World)(sv:Value)(n:Nat)(l:List Nd):Prop:=∃xs m,w.ownsRow lo 44 1 sv n xs/\Ip.Kids (Ip.At (fun q=>lo<=q/\q<w.heap.size/\sv.ownBlock≠some q) w m) xs l
theorem Ip.Row.nil(lo:Nat)(w:World):Ip.Row lo w (.slice none 0 0) 0 []:=⟨[],0,K7 _ _ _ _,rfl⟩
theorem Ip.Row.lt{lo:Nat}{w:World}{sv:Value}{n:Nat}{l:List Nd}(h:Ip.Row lo w sv n l){q:Nat}(e:sv.ownBlock=some q):lo<=q/\q<w.heap.size:=by
 obtain⟨d,m,a,_⟩:=h;exact a.lt q e
theorem Ip.Row.form{lo:Nat}{w:World}{sv:Value}{n:Nat}{l:List Nd}(h:Ip.Row lo w sv n l):∃p c,sv= .slice p n c:=by
 obtain⟨d,m,a,_⟩:=h;exact XA a
theorem Ip.Row.go{lo lo':Nat}{w w':World}{sv:Value}{n:Nat}{l:List Nd}(h:Ip.Row lo w sv n l)(d:lo'<=lo)(s:w.heap.size<=w'.heap.size)(g:∀q,lo<=q->q<w.heap.size->w'.heap[q]?=w.heap[q]?):Ip.Row lo' w' sv n l:=by
 have a:=fun q e=>h.lt (q:=q) e;obtain⟨u,m,j,r⟩:=h;exact⟨u,m,Vn j (fun q e=>Xz d (a q e).1) (fun q e=>g q (a q e).1 (a q e).2),r.mono (fun _ _ k=>k.go (fun q e=>⟨Xz d e.1,XH e.2.1 s,e.2.2⟩) (fun q e=>g q e.1 e.2.1))⟩
theorem Ip.Row.push{lo:Nat}{w w':World}{sv d:Value}{n:Nat}{l a:List Nd}{y:List Value}{m:Nat}{v:Value}(B:Ip.Kids (Ip.At (fun q=>lo<=q/\q<w.heap.size/\sv.ownBlock≠some q) w m) y l){k:Nat}(C:Ip.At (fun q=>lo<=q/\q<w.heap.size/\sv.ownBlock≠some q) w k v a)(A:w'.ownsRow lo 44 1 d (n+1) (y++[v]))(u:w.grownBy w' sv.ownBlock)(j:d.ownBlock=sv.ownBlock\/d.ownBlock=some w.heap.size):Ip.Row lo w' d (n+1) (l++a):=by
 have r:∀q,(lo<=q/\q<w.heap.size/\sv.ownBlock≠some q)->(lo<=q/\q<w'.heap.size/\d.ownBlock≠some q):=fun q e=>⟨e.1,XH e.2.1 u.size,fun g=>by
  rcases j with j|j
  .exact e.2.2 (j ▸ g)
  .rw[j]at g;cases g;exact absurd e.2.1 (Nat.lt_irrefl _)⟩
 have s:∀q,(lo<=q/\q<w.heap.size/\sv.ownBlock≠some q)->w'.heap[q]?=w.heap[q]?:=fun q e=>u.block q e.2.1 (fun g=>e.2.2 g.symm);exact⟨_,m+k,A,(B.mono (fun _ _ x=>(x.go r s).le (Nat.le_add_right _ _))).append (.one ((C.go r s).le (Nat.le_add_left _ _)))⟩
structure IP (b:Nat) (tp:Option Addr) (tc:Nat) (ts:List Sc.T) (sz:Nat) (p:Nat) (w:World):Prop where
 c0:w.cell? ⟨b,0,none⟩=some (.slice tp ts.length tc)
 c1:w.cell? ⟨b,1,none⟩=some (.q p)
 c2:w.cell? ⟨b,2,none⟩=some (.q sz)
 fr:∀j,w.frozen? ⟨b,j,none⟩=false
 tk:ts=[]\/∃tg,tp=some ⟨tg,0,none⟩/\tg<b/\∀(i:Nat) (h:i<ts.length),w.cell? ⟨tg,i*4,none⟩=some (.q ts[i].kind)/\w.cell? ⟨tg,i*4+1,none⟩=some (.string ⟨ts[i].text.toArray⟩)/\w.cell? ⟨tg,i*4+2,none⟩=some (.q ts[i].n)/\w.cell? ⟨tg,i*4+3,none⟩=some (.q ts[i].place)
 le:p<=ts.length
 XP:ts.length<=1048576
 wd:∀(i:Nat) (h:i<ts.length),ts[i].kind=2->ts[i].text≠[61]
 gl:0<b/\∀o,o<=14->w.cell? ⟨0,o*2,none⟩=some (.string ⟨(Yd o).toArray⟩)/\w.cell? ⟨0,o*2+1,none⟩=some (.q (Xi o:Nat))
abbrev Ip.Mv(b:Nat)(w w':World):Prop:=Pr.Mv (fun q=>q=b) w w'
section
variable {b tc sz p:Nat} {tp:Option Addr} {ts:List Sc.T} {w w' w'':World}
theorem Ip.Mv.refl(b:Nat)(w:World):Ip.Mv b w w:= .below (X8 _ _)
theorem Ip.Mv.t(h:Ip.Mv b w w')(k:Ip.Mv b w' w''):Ip.Mv b w w'':=Pr.Mv.trans h k (fun _ _ e=>e) (fun _ _ e=>e)
theorem IP.lt(h:IP b tp tc ts sz p w):b<w.heap.size:=QE w ⟨b,0,none⟩ h.c0
theorem IP.blocks(h:IP b tp tc ts sz p w)(m:∀q,q<=b->w'.heap[q]?=w.heap[q]?):IP b tp tc ts sz p w':=by
 have d:∀q j,q<=b->w'.cell? ⟨q,j,none⟩=w.cell? ⟨q,j,none⟩:=fun q j u=>XQ (a:=⟨q,j,none⟩) (m q u);refine⟨(d b _ (X5 _)).trans h.c0,(d b _ (X5 _)).trans h.c1,(d b _ (X5 _)).trans h.c2,fun j=>(ZC (a:=⟨b,j,none⟩) (m b (X5 _))).trans (h.fr j),?_,h.le,h.XP,h.wd,h.gl.1,fun o n=>⟨(d 0 _ (Xb _)).trans (h.gl.2 o n).1,(d 0 _ (Xb _)).trans (h.gl.2 o n).2⟩⟩;rcases h.tk with e|⟨g,r,s,k⟩
 .exact .inl e
 .exact .inr ⟨g,r,s,fun i hi=>⟨(d g _ (by omega)).trans (k i hi).1,(d g _ (by omega)).trans (k i hi).2.1,(d g _ (by omega)).trans (k i hi).2.2.1,(d g _ (by omega)).trans (k i hi).2.2.2⟩⟩
theorem IP.below(h:IP b tp tc ts sz p w)(a:BL w w'):IP b tp tc ts sz p w':=h.blocks (fun q d=>a.block q (Ib d h.lt))
theorem IP.fresh(h:IP b tp tc ts sz p w){n:Nat}(a:Below n w w')(d:b<n):IP b tp tc ts sz p w':=h.blocks (fun q g=>a.block q (Ib g d))
theorem Ip.Mv.fresh(h:Ip.Mv b w w'){n:Nat}(k:Below n w' w'')(d:w.heap.size<=n):Ip.Mv b w w'':=⟨k.os.trans h.os,k.tape.trans h.tape,k.output.trans h.output,Xz h.size k.size,fun q a e=>(k.block q (XH a d)).trans (h.block q a e)⟩
theorem IP.adv(h:IP b tp tc ts sz p w)(s:p<ts.length):IP b tp tc ts sz (p+1) (w.setCell ⟨b,1,none⟩ (.q ((p:Int)+1))):=by
 have ne:∀k,k≠1->(w.setCell ⟨b,1,none⟩ (.q ((p:Int)+1))).cell? ⟨b,k,none⟩=w.cell? ⟨b,k,none⟩:=fun k r=>Zt _ _ _ _ (fun e=>r (Yt Addr.off e).symm);have gn:∀k,(w.setCell ⟨b,1,none⟩ (.q ((p:Int)+1))).cell? ⟨0,k,none⟩=w.cell? ⟨0,k,none⟩:=fun k=>Zt _ _ _ _ (fun e=>by have:=Yt Addr.block e;simp at this;have:=h.gl.1;omega);refine⟨(ne 0 (by decide)).trans h.c0,?_,(ne 2 (by decide)).trans h.c2,fun j=>by rw[UJ];exact h.fr j,?_,s,h.XP,h.wd,h.gl.1,fun o g=>⟨(gn _).trans (h.gl.2 o g).1,(gn _).trans (h.gl.2 o g).2⟩⟩
 .rw[Qk _ _ _ h.c1];simp
 .rcases h.tk with e|⟨d,m,n,a⟩
  .exact .inl e
  .have tn:∀k,(w.setCell ⟨b,1,none⟩ (.q ((p:Int)+1))).cell? ⟨d,k,none⟩=w.cell? ⟨d,k,none⟩:=fun k=>Zt _ _ _ _ (fun e=>by have:=Yt Addr.block e;simp at this;omega);exact .inr ⟨d,m,n,fun i hi=>⟨(tn _).trans (a i hi).1,(tn _).trans (a i hi).2.1,(tn _).trans (a i hi).2.2.1,(tn _).trans (a i hi).2.2.2⟩⟩
theorem Ip.Mv.set(w:World)(b j:Nat)(v:Value):Ip.Mv b w (w.setCell ⟨b,j,none⟩ v):= .grown (Ii w b j v) (fun q e=>by cases e;rfl)
theorem IP.M0(h:IP b tp tc ts sz p w){s:Pr.Dk}(m:s.p=p)(d:p<ts.length):∃a,tp=some ⟨a,0,none⟩/\a<b/\w.cell? ⟨a,p*4,none⟩=some (.q (X3 ts sz s).kind)/\w.cell? ⟨a,p*4+1,none⟩=some (.string ⟨(X3 ts sz s).text.toArray⟩)/\w.cell? ⟨a,p*4+2,none⟩=some (.q (X3 ts sz s).n)/\w.cell? ⟨a,p*4+3,none⟩=some (.q (X3 ts sz s).place):=by
 subst m;have e:X3 ts sz s=ts[s.p]:=by unfold X3;rw[K0 d];rfl
 rw[e];rcases h.tk with e|⟨a,g,j,k⟩
 .subst e;simp at d
 .exact⟨a,g,j,k s.p d⟩
theorem Ip.Pt.mv{lo lo':Nat}{v:Value}{l:List Nd}(h:Ip.Pt lo w v l)(hm:Ip.Mv b w w')(j:b<lo)(d:lo'<=lo):Ip.Pt lo' w' v l:=h.go d hm.size (fun q g a=>hm.block q a (fun e=>by omega))
theorem Ip.Row.mv{lo lo' n:Nat}{v:Value}{l:List Nd}(h:Ip.Row lo w v n l)(hm:Ip.Mv b w w')(j:b<lo)(d:lo'<=lo):Ip.Row lo' w' v n l:=h.go d hm.size (fun q g a=>hm.block q a (fun e=>by omega))
end
section
variable {b tc sz:Nat} {tp:Option Addr} {ts:List Sc.T} {s:Pr.Dk} {w:World}
def Ip.stuck(q:Nat):List PanicEntry:=[{v:= .iface 104 (.agg #[.q (q:Int)]),recovered:=false}]
theorem U1(h:IP b tp tc ts sz s.p w): CB 105 #[.p b] w (XB (X3 ts sz s)):=by
 have E:=h.lt;have j:=h.le;have hm:=h.XP;have hne:w.heap.size≠b:=by omega
 have g:BL w (w.alloc (.cells #[.q 0,.t #[],.q 0,.q 0] 101)):=bA _;have a:=h.below g;have A:=a.c0;have B:=a.c1;have C:=a.c2;by_cases n:s.p<ts.length
 .obtain⟨y,rfl,k,F,H,I,J⟩:=a.M0 rfl n;have m:w.heap.size≠y:=by omega
  have d:(s.p:Int)<ts.length:=by omega
  have r:¬(s.p:Int)=ts.length:=by omega
  clear a;go_enter func105,ntmps105;go_wp2;go_region;go_wp2;go_region;go_wp2;refine Xq (v:=XB (X3 ts sz s)) (by simp[results,results105,go_sem,XB]) rfl ⟨rfl,?_⟩;repeat(first|(refine Qw ?_ (by show w.heap.size<=w.heap.size;exact X5 _) _)|(refine Jp ?_))
  exact bA _
 .have d:(s.p:Int)=ts.length:=by omega
  have u:X3 ts sz s=⟨0,[],0,sz⟩:=by unfold X3;rw[Dp (by omega)];rfl
  rw[u];clear a;go_enter func105,ntmps105;go_wp2;go_region;go_wp2;refine Xq (v:=XB ⟨0,[],0,sz⟩) (by simp[results,results105,go_sem,XB]) rfl ⟨rfl,?_⟩;repeat(first|(refine Qw ?_ (by show w.heap.size<=w.heap.size;exact X5 _) _)|(refine Jp ?_))
  exact bA _
def Ip.sign(x:Sc.T)(t:List UInt8):Bool:=(x.kind==2||x.kind==5)&&x.text==t
theorem Dx(a:s.bad=false)(t:List UInt8):X4 ts sz s t=Ip.sign (X3 ts sz s) t:=by unfold X4 Ip.sign;rw[a];simp
theorem Lg(x:Sc.T)(t:ByteArray)(w:World): CB 104 #[XB x,.string t] w (.bool (Ip.sign x t.data.toList)):=by
 have a:Hid (Ip.sign x t.data.toList=((x.kind==2||x.kind==5)&&x.text==t.data.toList)):=X1 rfl;unfold XB;obtain⟨k,tx,n,d⟩:=x;go_enter func104,ntmps104;go_wp2;all_goals
  go_ret;refine⟨?_,bA _⟩;rw[a.o];simp_all[Js];try(intro h;omega)
end
section
variable {b tc sz:Nat} {tp:Option Addr} {ts:List Sc.T} {s:Pr.Dk} {w:World}
theorem XK(h:IP b tp tc ts sz s.p w)(A:s.bad=false)(l:List UInt8)(a:Array UInt8)(y:a.toList=l)(hi:X4 ts sz s l=false): Calls prog 81 #[.p b,.string ⟨a⟩] w fun e w'=>e= .returned (.bool false)/\IP b tp tc ts sz s.p w'/\Below w.heap.size w w':=by
 have v:=X1 (U1 h);have r:=X1 (Lg (X3 ts sz s) ⟨a⟩);have u:=X1 h;have k:Ip.sign (X3 ts sz s) a.toList=false:=by rw[y,←Dx A];exact hi
 have m:Ip.sign (X3 ts sz s) (⟨a⟩:ByteArray).data.toList=false:=k;rw[m]at r;clear h;go_enter func81,ntmps81;go_wp2_with fail;go_fit v.o;rintro e B⟨rfl,g⟩;have n:=X1 g;clear g;go_wp2_with fail;go_fit(r.o _);rintro e C⟨rfl,j⟩;have d:=X1 (n.o.trans (j.mono n.o.size));clear j;go_wp2;go_ret;exact⟨rfl,u.o.below d.o,d.o⟩
theorem ZH(h:IP b tp tc ts sz s.p w)(l:List UInt8)(a:Array UInt8)(A:a.toList=l)(hi:X4 ts sz s l=true): Calls prog 81 #[.p b,.string ⟨a⟩] w fun e w'=>e= .returned (.bool true)/\IP b tp tc ts sz (X2 s).p w'/\Ip.Mv b w w':=by
 have y:=X1 (U1 h);have r:=X1 (Lg (X3 ts sz s) ⟨a⟩);have v:=X1 h;have hm:=h.XP;have B:=Yb hi;have m:Ip.sign (X3 ts sz s) (⟨a⟩:ByteArray).data.toList=true:=by show Ip.sign _ a.toList=true;rw[A,←Dx (Ki hi)];exact hi
 rw[m]at r;clear h;go_enter func81,ntmps81;go_wp2_with fail;go_fit y.o;rintro e F⟨rfl,g⟩;have n:=X1 g;clear g;go_wp2_with fail;go_fit(r.o _);rintro e H⟨rfl,j⟩;have d:=X1 (n.o.trans (j.mono n.o.size));clear j;have k:=v.o.below d.o;have C:=k.c1;have E:=k.fr 1;have u:=X1 k;clear k;go_wp2;go_ret;exact⟨rfl,u.o.adv B,Ip.Mv.t (.below d.o) (.set _ _ _ _)⟩
theorem Lh(h:IP b tp tc ts sz s.p w): CB 87 #[.p b] w (.agg #[.q ((X3 ts sz s).place:Int)]):=by
 have m:BL w (w.z #[.q 0] 104):=bA _;have u:=X1 (U1 (h.below m));have k:=X1 m;have d:(w.z #[.q 0] 104).heap.size=w.heap.size+1:=by simp
 have A:=Er (X3 ts sz s).kind (X3 ts sz s).n (X3 ts sz s).place ⟨(X3 ts sz s).text.toArray⟩;have g:(w.z #[.q 0] 104).cell? ⟨w.heap.size,0,none⟩=some (.q 0):=by simp[go_sem]
 have j:(w.z #[.q 0] 104).frozen? ⟨w.heap.size,0,none⟩=false:=by simp[go_sem]
 clear h m;go_enter func87,ntmps87;go_wp2_with fail;go_fit u.o;rintro e C⟨rfl,a⟩;have y:=(a.cell (p:=⟨w.heap.size,0,none⟩) (by rw[d];exact Q9 _)).trans g;have B:=(a.frozen (p:=⟨w.heap.size,0,none⟩) (by rw[d];exact Q9 _)).trans j;have r:=X1 (k.o.trans (a.mono (by rw[d];omega)));clear a g j;unfold XB;go_wp2;refine Xq (v:= .agg #[.q ((X3 ts sz s).place:Int)]) (by simp[results,results87,go_sem,y]) rfl ⟨rfl,?_⟩;exact r.o.setCell (X5 _) _
theorem ZY(h:IP b tp tc ts sz s.p w)(l:List UInt8)(a:Array UInt8)(n:a.toList=l)(hi:X4 ts sz s l=true): Calls prog 85 #[.p b,.string ⟨a⟩] w fun e w'=>e= .returned (.tuple #[])/\IP b tp tc ts sz (X2 s).p w'/\Ip.Mv b w w':=by
 have m:=X1 (ZH h l a n hi);clear h;go_enter func85,ntmps85;go_wp2_with fail;go_fit m.o;rintro e r⟨rfl,g,d⟩;have k:=X1 g;have j:=X1 d;clear d g;go_wp2;refine Xw ?_;exact⟨rfl,k.o,j.o⟩
theorem ZX(h:IP b tp tc ts sz s.p w)(v:s.bad=false)(l:List UInt8)(a:Array UInt8)(u:a.toList=l)(hi:X4 ts sz s l=false): Calls prog 85 #[.p b,.string ⟨a⟩] w fun e w'=>e= .panicked (Ip.stuck (X3 ts sz s).place)/\Ip.Mv b w w':=by
 have n:=X1 (XK h v l a u hi);clear h;go_enter func85,ntmps85;go_wp2_with fail;go_fit n.o;rintro e y⟨rfl,m,d⟩;have r:=X1 (Lh (s:=s) m);have k:=X1 d;clear d m;go_wp2_with fail;go_fit r.o;rintro e A⟨rfl,g⟩;have j:=X1 (k.o.trans (g.mono k.o.size));clear g;go_wp2;exact⟨rfl,rfl,.below j.o⟩
theorem JA(h:IP b tp tc ts sz s.p w)(k:Nat)(C:k≠0)(H:(X3 ts sz s).kind=k): Calls prog 106 #[.p b,.q k] w fun e w'=>e= .returned (XB (X3 ts sz s))/\IP b tp tc ts sz (X2 s).p w'/\Ip.Mv b w w':=by
 have hp:s.p<ts.length:=QB (sz:=sz) (by rw[H];exact C);have hm:=h.XP;have Z:=h.lt;have B:BL w (w.z #[.q 0,.t #[],.q 0,.q 0] 101):=bA _;have N:=X1 (U1 (h.below B));have M:=X1 h;have A:=X1 B;have r:(w.z #[.q 0,.t #[],.q 0,.q 0] 101).heap.size=w.heap.size+1:=by simp
 have j:((X3 ts sz s).kind:Int)=(k:Int):=by rw[H]
 have m:∀W:World,Below (w.heap.size+1) (w.z #[.q 0,.t #[],.q 0,.q 0] 101) W->W.heap[w.heap.size]?=some (.cells #[.q 0,.t #[],.q 0,.q 0] 101 (0,0)):=fun W X=>(X.block _ (Q9 _)).trans (heap_alloc_new w _);have O:=X1 m;clear h B m;go_enter func106,ntmps106;go_wp2_with fail;go_fit N.o;rintro e a⟨rfl,d⟩;rw[r]at d;have u:=X1 (A.o.trans (d.mono (Qy _)));have E:=d.size;rw[r]at E;have g:=(Below.heap_alloc a (.cells #[.q (k:Int),.string ⟨(X3 ts sz s).text.toArray⟩,.q (X3 ts sz s).n,.q (X3 ts sz s).place] 101) w.heap.size (by omega)).trans (O.o _ d);have y:=M.o.below (u.o.trans (((X8 a.heap.size a).alloc (X5 _) (.cells #[.q (k:Int),.string ⟨(X3 ts sz s).text.toArray⟩,.q (X3 ts sz s).n,.q (X3 ts sz s).place] 101)).mono u.o.size));have c1:=y.c1;have f1:=y.fr 1;have L:=X1 y;clear y d;unfold XB;rw[j];have I:b≠a.heap.size:=by omega
 have J:w.heap.size≠b:=by omega
 have K:w.heap.size≠a.heap.size:=by omega
 have Q:(a.z #[.q (k:Int),.string ⟨(X3 ts sz s).text.toArray⟩,.q (X3 ts sz s).n,.q (X3 ts sz s).place] 101).cell? ⟨w.heap.size,0,none⟩=some (.q 0):=by simp only[World.cell?,g];rfl
 have e0:(a.z #[.q (k:Int),.string ⟨(X3 ts sz s).text.toArray⟩,.q (X3 ts sz s).n,.q (X3 ts sz s).place] 101).frozen? ⟨w.heap.size,0,none⟩=false:=by simp[World.frozen?,g]
 have S:(a.z #[.q (k:Int),.string ⟨(X3 ts sz s).text.toArray⟩,.q (X3 ts sz s).n,.q (X3 ts sz s).place] 101).cell? ⟨w.heap.size,1,none⟩=some (.t #[]):=by simp only[World.cell?,g];rfl
 have e1:(a.z #[.q (k:Int),.string ⟨(X3 ts sz s).text.toArray⟩,.q (X3 ts sz s).n,.q (X3 ts sz s).place] 101).frozen? ⟨w.heap.size,1,none⟩=false:=by simp[World.frozen?,g]
 have U:(a.z #[.q (k:Int),.string ⟨(X3 ts sz s).text.toArray⟩,.q (X3 ts sz s).n,.q (X3 ts sz s).place] 101).cell? ⟨w.heap.size,2,none⟩=some (.q 0):=by simp only[World.cell?,g];rfl
 have e2:(a.z #[.q (k:Int),.string ⟨(X3 ts sz s).text.toArray⟩,.q (X3 ts sz s).n,.q (X3 ts sz s).place] 101).frozen? ⟨w.heap.size,2,none⟩=false:=by simp[World.frozen?,g]
 have V:(a.z #[.q (k:Int),.string ⟨(X3 ts sz s).text.toArray⟩,.q (X3 ts sz s).n,.q (X3 ts sz s).place] 101).cell? ⟨w.heap.size,3,none⟩=some (.q 0):=by simp only[World.cell?,g];rfl
 have e3:(a.z #[.q (k:Int),.string ⟨(X3 ts sz s).text.toArray⟩,.q (X3 ts sz s).n,.q (X3 ts sz s).place] 101).frozen? ⟨w.heap.size,3,none⟩=false:=by simp[World.frozen?,g]
 clear g;go_wp2;refine Xq (v:= .agg #[.q (k:Int),.string ⟨(X3 ts sz s).text.toArray⟩,.q (X3 ts sz s).n,.q (X3 ts sz s).place]) (by simp[results,results106,go_sem,Q,S,U,V]) rfl ⟨by rw[←j];rfl,?_⟩;have F:∀(W:World) (v0 v1 v2 v3:Value),Below w.heap.size W ((((W.setCell ⟨w.heap.size,0,none⟩ v0).setCell ⟨w.heap.size,1,none⟩ v1).setCell ⟨w.heap.size,2,none⟩ v2).setCell ⟨w.heap.size,3,none⟩ v3):=fun W _ _ _ _=>by
  repeat(refine Qw ?_ (by show w.heap.size<=w.heap.size;exact X5 _) _)
  exact X8 _ _
 exact⟨(L.o.adv hp).fresh (F _ _ _ _ _) Z,Ip.Mv.fresh (Ip.Mv.t (.below (u.o.alloc u.o.size _)) (.set _ _ _ _)) (F _ _ _ _ _) (X5 _)⟩
theorem Uo(h:IP b tp tc ts sz s.p w)(k:Nat)(F:(X3 ts sz s).kind≠k): Calls prog 106 #[.p b,.q k] w fun e w'=>e= .panicked (Ip.stuck (X3 ts sz s).place)/\Ip.Mv b w w':=by
 have r:BL w (w.z #[.q 0,.t #[],.q 0,.q 0] 101):=bA _;have B:=X1 (U1 (h.below r));have A:=X1 h;have j:=X1 r;have u:(w.z #[.q 0,.t #[],.q 0,.q 0] 101).heap.size=w.heap.size+1:=by simp
 have E:¬((X3 ts sz s).kind:Int)=(k:Int):=by omega
 clear h r;go_enter func106,ntmps106;go_wp2_with fail;go_fit B.o;rintro e y⟨rfl,d⟩;rw[u]at d;have v:=X1 (j.o.trans (d.mono (Qy _)));have a:=X1 (v.o.trans (((X8 y.heap.size y).alloc (X5 _) (.cells #[.q (X3 ts sz s).kind,.string ⟨(X3 ts sz s).text.toArray⟩,.q (X3 ts sz s).n,.q (X3 ts sz s).place] 101)).mono v.o.size));have C:=X1 (Lh (s:=s) (A.o.below a.o));clear d;unfold XB;go_wp2_with fail;go_fit C.o;rintro e H⟨rfl,g⟩;have m:=X1 (a.o.trans (g.mono a.o.size));clear g;go_wp2;exact⟨rfl,rfl,.below m.o⟩
