import Derived.Test.YtkoiikmhfaebnaaGreatDoorB43
import Derived.Test.YtkoiikmhfaebnaaGreatDoorB33
import Derived.Test.YtkoiikmhfaebnaaGreatDoorB40
import Derived.Test.YtkoiikmhfaebnaaGreatDoorCards
import Derived.Test.YtkoiikmhfaebnaaGreatDoorTie
import Derived.Test.YtkoiikmhfaebnaaGreatDoorB25
import Derived.Deep.Slices
import Derived.ProofKit
import Derived.LaidMore
import Derived.OpenShut
import Derived.OpenVars
import Derived.Stop.Joined
import Derived.Stop.LaidErr
set_option maxHeartbeats 4000000
set_option maxRecDepth 100000
namespace Go.Proofs.YtkoiikmhfaebnaaGreatDoor
open Go.Proofs.Tryz Go.RowKit
theorem Fl(b:Bool)(w:World):Calls prog 309 #[.bool b] w fun e w'=>e= .returned (.agg #[.int .i64 2,.int .i64 0,.int .i64 (if b then 1 else 0),.string ⟨#[]⟩,.int .i64 0])/\Below w.heap.size w w':=by
 have a:=X1 (fun w=>LW b w);generalize(if b=true then(1:Int)else 0)=z at *;go_enter func309,ntmps309;go_wp2_with fail;refine(a.o _).mono ?_;rintro e w1⟨rfl,rfl⟩;go_wp2;refine X7 (v:= .agg #[.int .i64 2,.int .i64 0,.int .i64 z,.string ⟨#[]⟩,.int .i64 0]) (by simp[results,results309,go_sem]) rfl ⟨rfl,?_⟩;repeat(first|(refine VN ?_ (by show w.heap.size<=w.heap.size;omega) _)|(refine Below.alloc ?_ (by simp) _))
 exact X5 _ _
theorem RD(n:Int)(h:0<=n)(w:World):Calls prog 305 #[.int .i64 n] w fun e w'=>e= .returned (Ip.pv (Fd.cn 3 n ⟨#[]⟩) (.slice none 0 0))/\Below w.heap.size w w':=by
 have g:(n == -9223372036854775808)=false:=by simpa using(by omega:n≠ -9223372036854775808)
 have j:¬(n<0):=by omega
 have d:=X1 (fun w=>Um 3 0 n 0 ⟨#[]⟩ none 0 0 w);unfold Ip.pv at *;go_enter func305,ntmps305;go_wp2_with fail;refine(d.o _).mono ?_;rintro e w1⟨rfl,a⟩;have c:=X1 a;clear a;go_wp2;go_ret;exact⟨rfl,c.o⟩
def NoC(w:World)(e:Ending)(w':World):Prop:=∃(k o m:Int) (t:ByteArray) (c:Int) (p:Option Addr) (l cp:Nat),e= .returned (Ip.pv ⟨k,o,m,t,c⟩ (.slice p l cp))/\¬(1<=k/\k<=4)/\Below w.heap.size w w'
theorem Ek(n:Int)(h:n<0)(k:n≠ -9223372036854775808)(m:-9223372036854775808<=n)(w:World):Calls prog 305 #[.int .i64 n] w (NoC w):=by
 have q:(n == -9223372036854775808)=false:=by simpa using k
 have l:IntKind.i64.wrap (-n)= -n:=by rw[Yt];omega
 have j:=X1 (fun w=>RD (-n) (by omega) w);have g:=X1 (fun p w=>Um 6 2 0 0 ⟨#[]⟩ p 1 1 w);unfold Ip.pv at *;go_enter func305,ntmps305;go_wp2_with fail;refine(j.o _).mono ?_;rintro e w1⟨rfl,a⟩;have c:=X1 a;clear a;go_wp2_with fail;refine(g.o _ _).mono ?_;rintro e r⟨rfl,a⟩;have d:=X1 ((c.o.alloc c.o.size _).trans (a.mono (by have:=c.o.size;simp;omega)));clear a;go_wp2;go_ret;exact⟨6,2,0,⟨#[]⟩,_,_,1,1,rfl,by omega,d.o⟩
theorem Xdg(w:World):Calls prog 305 #[.int .i64 (-9223372036854775808)] w (NoC w):=by
 have q:=X1 (fun w=>Ek (-9223372036854775807) (by omega) (by omega) (by omega) w);have j:=X1 (fun w=>RD 1 (by omega) w);have r:=X1 (fun p w=>Um 7 11 0 0 ⟨#[]⟩ p 2 2 w);unfold NoC at q;unfold Ip.pv at *;go_enter func305,ntmps305;go_wp2_with fail;refine(q.o _).mono ?_;rintro e w1⟨k,o,m,t,c,p,l,s,rfl,_,a⟩;have n:=X1 a;clear a;go_wp2_with fail;refine(j.o _).mono ?_;rintro e u⟨rfl,a⟩;have d:=X1 (n.o.trans (a.mono n.o.size));clear a;go_wp2_with fail;refine(r.o _ _).mono ?_;rintro e v⟨rfl,a⟩;have g:=X1 ((d.o.alloc d.o.size _).trans (a.mono (by have:=d.o.size;simp;omega)));clear a;go_wp2;go_ret;exact⟨7,11,0,⟨#[]⟩,_,_,2,2,rfl,by omega,g.o⟩
namespace Vl
open T.atoms T.ok T.high T.Y0 T.Ko Xs T.ord
theorem X4q{s:ByteArray}(h:s.size=0):s=⟨#[]⟩:=by
 cases s with
 | mk d=>have:d.size=0:=h;rw[Array.size_eq_zero_iff]at this;rw[this]
theorem X6z{k n:Int}{s:ByteArray}{ks:List T}(h:(T.mk k n s ks).Y0=true):(k=2\/k=3\/n=0)/\(k=4\/s=⟨#[]⟩)/\(k=5\/k=6\/ks=[]):=by
 rw[T.UW]at h;simp only[XD]at h;have h:=h.1.1;unfold plain at h;simp only[XD,T.kind,T.num,T.text,T.ks]at h;obtain⟨⟨⟨d,a⟩,c⟩,-⟩:=h;simp only[OF,JP]at d a c;refine⟨by omega,?_,?_⟩
 .rcases a with h|h
  .exact .inl h
  .exact .inr (X4q h)
 .rcases c with(h|h)|h
  .exact .inl h
  .exact .inr (.inl h)
  .exact .inr (.inr (JC h))
theorem Xbe{k n:Int}{s:ByteArray}{ks:List T}(g:k=1\/k=2\/k=3\/k=4)(h:(T.mk k n s ks).Y0=true):(k=2\/k=3\/n=0)/\(k=4\/s=⟨#[]⟩)/\ks=[]:=by
 obtain⟨a,c,d⟩:=X6z h;refine⟨a,c,?_⟩;rcases d with h|h|h
 .omega
 .omega
 .exact h
end Vl
def OH(t:Vl.T)(w:World)(e:Ending)(w':World):Prop:=match Fd.okC (Fd.raw (.inr t))with
 | some c=>e= .returned (Ip.pv c (.slice none 0 0))/\Below w.heap.size w w'
 | none=>NoC w e w'
theorem ML{t:Vl.T}(h:¬(t.kind=3/\t.num<0)):Fd.okC (Fd.raw (.inr t))=some (Fd.cn t.kind t.num t.text):=by
 show Fd.okC (some _)=_;rw[Fd.JV];exact X2 h
theorem Xdz{t:Vl.T}(h:t.kind=3/\t.num<0):Fd.okC (Fd.raw (.inr t))=none:=by
 show Fd.okC (some _)=_;rw[Fd.JV];exact X3 h
theorem X4v(t:Vl.T)(H:1<=t.kind/\t.kind<=4)(B:t.Y0=true)(j:-9223372036854775808<=t.num)(x:Nat)(v:Value)(w L:World)(F:Vl.Xs L x t v):Calls prog 303 #[v] w (OH t w):=by
 have n1:=Vl.Lb;have n2:=Vl.Lc;have n3:=Vl.Oe;have P:=Vl.Og;have Q:=Vl.Oh;have S:=Vl.Wq;have V:=Vl.Ws;have W:=Vl.Y2x;cases t with
 | mk k n s ks=>
 have H:1<=k/\k<=4:=H;have j:-9223372036854775808<=n:=j;have r:=Vl.Xbe (by omega) B;unfold OH;unfold Vl.Xs at F;rcases F with⟨rfl,rfl⟩|⟨rfl,rfl⟩|⟨rfl,rfl⟩|⟨rfl,rfl⟩|⟨rfl,_⟩|⟨rfl,_⟩
 .obtain⟨A,g,u⟩:=r;have A:n=0:=by omega
  have g:s=⟨#[]⟩:=g.resolve_left (by decide);subst A g u;rw[ML (t:= .mk 1 0 ⟨#[]⟩ []) (fun h=>absurd h.1 (by show ¬(1:Int)=3;decide))];have z:=X1 (fun w=>Um 1 0 0 0 ⟨#[]⟩ none 0 0 w);show Calls _ _ _ _ fun e w'=>e= .returned (Ip.pv (Fd.cn 1 0 ⟨#[]⟩) (.slice none 0 0))/\BL w w';unfold Ip.pv at *;go_enter func303,ntmps303;go_wp2_with fail;refine(z.o _).mono ?_;rintro e w1⟨rfl,d⟩;have q:=X1 d;clear d;go_wp2;go_ret;exact⟨rfl,q.o⟩
 .obtain⟨_,g,u⟩:=r;have g:s=⟨#[]⟩:=g.resolve_left (by decide);have J:=Vl.R7 B;subst g u;rw[ML (t:= .mk 2 n ⟨#[]⟩ []) (fun h=>absurd h.1 (by show ¬(2:Int)=3;decide))];have y:=X1 (fun w=>LW (n==1) w);have K:(if(n==1)=true then(1:Int)else 0)=n:=by rcases J with rfl|rfl<;>rfl
  rw[K]at y;have z:=X1 (fun w=>Um 2 0 n 0 ⟨#[]⟩ none 0 0 w);show Calls _ _ _ _ fun e w'=>e= .returned (Ip.pv (Fd.cn 2 n ⟨#[]⟩) (.slice none 0 0))/\BL w w';clear K J B;generalize(n==1)=N at *;unfold Ip.pv at *;go_enter func303,ntmps303;go_wp2_with fail;refine(y.o _).mono ?_;rintro e L⟨rfl,rfl⟩;go_wp2_with fail;refine(z.o _).mono ?_;rintro e w1⟨rfl,d⟩;have q:=X1 d;clear d;go_wp2;go_ret;exact⟨rfl,q.o⟩
 .obtain⟨_,g,u⟩:=r;have g:s=⟨#[]⟩:=g.resolve_left (by decide);subst g u;by_cases a:n<0
  .rw[Xdz (t:= .mk 3 n ⟨#[]⟩ []) ⟨rfl,a⟩];have D:Hid (∀w,Calls prog 305 #[.int .i64 n] w (NoC w)):=X1 (fun w=>by
    by_cases I:n= -9223372036854775808
    .subst I;exact Xdg w
    .exact Ek n a I j w)
   unfold NoC at D;show Calls _ _ _ _ (NoC w);clear a j B;unfold Ip.pv at *;go_enter func303,ntmps303;go_wp2_with fail;refine(D.o _).mono ?_;rintro e w1⟨k,o,m,t,c,p,l,M,rfl,C,d⟩;have q:=X1 d;have E:=X1 C;clear d C;go_wp2;go_ret;exact⟨k,o,m,t,c,p,l,M,rfl,E.o,q.o⟩
  .rw[ML (t:= .mk 3 n ⟨#[]⟩ []) (fun h=>a h.2)];have D:=X1 (fun w=>RD n (by omega) w);show Calls _ _ _ _ fun e w'=>e= .returned (Ip.pv (Fd.cn 3 n ⟨#[]⟩) (.slice none 0 0))/\BL w w';clear a j B;unfold Ip.pv at *;go_enter func303,ntmps303;go_wp2_with fail;refine(D.o _).mono ?_;rintro e w1⟨rfl,d⟩;have q:=X1 d;clear d;go_wp2;go_ret;exact⟨rfl,q.o⟩
 .obtain⟨A,_,u⟩:=r;have A:n=0:=by omega
  subst A u;rw[ML (t:= .mk 4 0 s []) (fun h=>absurd h.1 (by show ¬(4:Int)=3;decide))];have z:=X1 (fun w=>Um 4 0 0 0 s none 0 0 w);show Calls _ _ _ _ fun e w'=>e= .returned (Ip.pv (Fd.cn 4 0 s) (.slice none 0 0))/\BL w w';unfold Ip.pv at *;go_enter func303,ntmps303;go_wp2_with fail;refine(z.o _).mono ?_;rintro e w1⟨rfl,d⟩;have q:=X1 d;clear d;go_wp2;go_ret;exact⟨rfl,q.o⟩
 .omega
 .omega
theorem X8l:(prog.info? 75).map (fun i=>(i.zero,i.size,i.bytes))=some (some .nilIface,1,16):=by kernel_rfl
def Fd.dn(x:Nd):Value:=Fd.dv x.kind x.n x.text
theorem Fd.X3w{x:Nd}(h:Fd.isC x):∃y u,Fd.dn x= .iface y u:=by
 unfold Fd.isC at h;unfold Fd.dn Fd.dv;by_cases a:x.kind=1
 .rw[X3 a];exact⟨_,_,rfl⟩
 .by_cases c:x.kind=2
  .rw[X2 a,X3 c];exact⟨_,_,rfl⟩
  .by_cases d:x.kind=3
   .rw[X2 a,X2 c,X3 d];exact⟨_,_,rfl⟩
   .rw[X2 a,X2 c,X2 d,X3 (by omega)];exact⟨_,_,rfl⟩
theorem Fd.M8{x:Nd}(h:Fd.isC x)(w:World)(b:Nat):Vl.Xs w b (Fd.tn x) (Fd.dn x):=by
 unfold Fd.isC at h;unfold Fd.dn Fd.dv Fd.tn Vl.Xs;by_cases a:x.kind=1
 .rw[X3 a];exact .inl ⟨a,rfl⟩
 .by_cases c:x.kind=2
  .rw[X2 a,X3 c];exact .inr (.inl ⟨c,rfl⟩)
  .by_cases d:x.kind=3
   .rw[X2 a,X2 c,X3 d];exact .inr (.inr (.inl ⟨d,rfl⟩))
   .rw[X2 a,X2 c,X2 d,X3 (by omega)];exact .inr (.inr (.inr (.inl ⟨by omega,rfl⟩)))
def Fd.dns(ks:List Fd):List Value:=ks.map fun k=>Fd.dn k.x
def Fd.Ud(x:Nd)(p b:Int)(ks:List Fd)(o:Vl.Out):Fd:=if ∀k∈ks,Fd.isC k.x then Fd.back (.mk x p b ks) (Fd.okC (Fd.raw o))else .mk x p b ks
abbrev Js(a:Int)(f b:Nat):Value:= .agg #[.int .i64 a,.func (.func f) #[] #[.pointer (some ⟨b,0,none⟩)]]
theorem M1(w:World)(v:Value)(t:TypeId)(j:Nat)(u:Value)(h:([v]:List Value)[j]?=some u):(w.alloc (.cells #[v] t)).cell? ((⟨w.heap.size,0,none⟩:Addr).add j)=some u:=Vl.UO w v t j u h
theorem Bp(x:Nd)(p b:Int)(ks:List Fd)(h0:0<ks.length)(hl:ks.length<=1000000)(B:Nat->Prop)(u fv:Value)(a:Int)(f bb:Nat)(out:Vl.Out)(w:World)(hB:∀q,B q->q<w.heap.size)(h:Fd.Pt B w (.mk x p b ks) u)(i6:∀a1 w,(callFunc f a1).run prog w= .ok (.enter f a1) w)(h6:Fd.ok out)(g9:(∀k∈ks,Fd.isC k.x)->out.BU)(g3:(∀k∈ks,Fd.isC k.x)->∀t,out= .inr t-> -9223372036854775808<=t.num)(e0:(∀k∈ks,Fd.isC k.x)->∀W,BL w W->∀g cc,g<W.heap.size->(∀i z,(Fd.dns ks)[i]?=some z->W.cell? ⟨g,i,none⟩=some z)->Calls prog f #[.slice (some ⟨g,0,none⟩) ks.length cc,.pointer (some ⟨bb,0,none⟩)] W (Vl.YF (Vl.DoK W out))): Calls prog 283 #[fv,Js a f bb,u] w (Vc B w (Fd.Ud x p b ks out)):=by
 obtain⟨iN,hN,g6,g5,g4⟩:=Yk X8l;obtain⟨sl,xs,hu,h2,h3,h4⟩:=(Fd.Q2 _ _ _ _ _ _ _).1 h;obtain⟨sp,sc,b3⟩:=Q3 h2 h0;subst b3;have HP:=X1 h;have f5:=X1 h2;have HK:=X1 h4;have HB:=X1 hB;have f1:=X1 e0;have h5:=hB sp (h3 sp rfl);have c9:Hid (∀(w':World),BL w w'->(∃k∈ks,¬Fd.isC k.x)->Vc B w (Fd.Ud x p b ks out) (.returned u) w'):=X1 (fun w' K hk=>by
  unfold Fd.Ud;rw[X2 (fun h=>by obtain⟨k,V,h2⟩:=hk;exact h2 (h k V))];exact⟨u,rfl,Fd.Pt.go HP.o (fun q e=> .inl e) (fun q e=>K.block q (HB.o q e)),K⟩)
 have H:Hid (∀(w':World),BL w w'->(∀k∈ks,Fd.isC k.x)->Fd.okC (Fd.raw out)=none->Vc B w (Fd.Ud x p b ks out) (.returned u) w'):=X1 (fun w' K hk ho=>by
  unfold Fd.Ud;rw[X3 hk,ho];exact⟨u,rfl,Fd.Pt.go HP.o (fun q e=> .inl e) (fun q e=>K.block q (HB.o q e)),K⟩)
 have a6:Hid (∀(w':World) (c:Nd),BL w w'->(∀k∈ks,Fd.isC k.x)->Fd.okC (Fd.raw out)=some c->c.kids=0->Vc B w (Fd.Ud x p b ks out) (.returned (Ip.pv c (.slice none 0 0))) w'):=X1 (fun w' c K hk ho hc=>by
  unfold Fd.Ud;rw[X3 hk,ho];refine⟨_,rfl,(Fd.Q2 _ _ _ _ _ _ _).2 ⟨.slice none 0 0,[],?_,ZJ _ _ _ _,(fun q e=>by cases e),(Fd.Qh _ _).2 rfl⟩,K⟩;obtain⟨k,o,m,t,c0⟩:=c;have hc:c0=0:=hc;subst hc;rfl)
 obtain⟨k,o,m,tx,c0⟩:=x;have i8:=Ge k o m (ks.length:Int) tx (.slice (some ⟨sp,0,none⟩) ks.length sc);have c8:=X1 (fun w=>G9 k o m (ks.length:Int) tx (.slice (some ⟨sp,0,none⟩) ks.length sc) ⟨_,_,_,rfl⟩ w);have h8:=Fd.MW h4;subst hu;unfold Fd.nk Ip.pv at c9 H⊢;have b0:BL w (w.alloc (.cells #[.int .i64 a,.func (.func f) #[] #[.pointer (some ⟨bb,0,none⟩)]] 71)):=bA _;have a5:=X1 b0;have d1:=X1 (XM w (.cells #[.int .i64 a,.func (.func f) #[] #[.pointer (some ⟨bb,0,none⟩)]] 71));have a8:Hid (w.heap.size<(w.alloc (.cells #[.int .i64 a,.func (.func f) #[] #[.pointer (some ⟨bb,0,none⟩)]] 71)).heap.size):=X1 (by simp);clear h h2 h3 h4 hB e0 b0 h8 HP;go_enter func283,ntmps283;go_wp2_with fail;refine(c8.o _).mono ?_;rintro e w1⟨rfl,X⟩;have e9:=X1 (a5.o.trans (X.mono a5.o.size));have f7:=X1 ((X.block w.heap.size a8.o).trans d1.o);have i0:=Xd a8.o X.size;clear X a5 d1 a8 c8;go_wp2_with fail;go_loopw[7,18] (fun av iv wr=>∃i:Nat,i<=ks.length/\iv= .int .i64 (i:Int)/\BL w wr/\w.heap.size<wr.heap.size/\wr.heap[w.heap.size]?=some (.cells #[.int .i64 a,.func (.func f) #[] #[.pointer (some ⟨bb,0,none⟩)]] 71)/\wr.ownsRow (w.heap.size+1) 75 1 av i (Fd.dns (ks.take i))/\∀y∈ks.take i,Fd.isC y.x) (fun _ iv _=>ks.length-(intOf iv).toNat)
 case atStart=>exact⟨0,X6 _,rfl,e9.o,i0,f7.o,by simpa[Fd.dns]using ZJ _ _ _ _,fun y Y=>by simp at Y⟩
 case round=>
  obtain⟨i,hi,rfl,d4,i1,e5,a3,a2⟩:=hrel;have E:=X1 d4;have d3:=X1 e5;have HR:=X1 a3;have a0:=X1 a2;clear d4 e5 a3 a2;obtain⟨i2,g0,g7⟩:=YV HR.o;subst g7;by_cases b1:i<ks.length
  .have e2:(i:Int)<(ks.length:Int):=by omega
   obtain⟨ai,d5,b4⟩:=Fd.Gi i HK.o b1;have e6:w.cell? ⟨sp,i,none⟩=some ai:=ZF f5.o d5;obtain⟨yi,b6⟩:∃yi,yi=ks[i]:=⟨_,rfl⟩;rw[←b6]at b4;obtain⟨⟨yk,yo,ym,yt,yc⟩,yp,yb,S⟩:=yi;obtain⟨j3,j4,h7,yr,_⟩:=(Fd.Q2 _ _ _ _ _ _ _).1 b4;obtain⟨e8,e7,h9⟩:=YV yr;subst h9;subst h7;have ke:=(E.o.cell (p:=⟨sp,i,none⟩) h5).trans e6;unfold Fd.nk Ip.pv at ke;have i9:=Dc yk yo ym (S.length:Int) yt (.slice e8 S.length e7);have Q:=X1 (D5 yk yo ym (S.length:Int) yt (.slice e8 S.length e7) ⟨_,_,_,rfl⟩ wr);have HC:=X1 (fun w=>Bf yk yo ym (S.length:Int) yt w);have a9:=X1 b6;clear b4 yr e6 d5 b6;by_cases hC:1<=yk/\yk<=4
   .have b9:Hid (Fd.isC (⟨yk,yo,ym,yt,yc⟩:Nd)):=X1 hC;obtain⟨dt,du,N⟩:=Fd.X3w b9.o;have N:Fd.dv yk ym yt= .iface dt du:=N;rw[YJ hC,N]at HC;have f2:=X1 N;clear N hC;go_wp2_with fail;refine Q.o.mono ?_;rintro e w2⟨rfl,d⟩;have A:=X1 (E.o.trans (d.mono E.o.size));have d2:=X1 ((d.block w.heap.size i1).trans d3.o);have d0:=X1 (KJ HR.o d);have j0:=d.size;clear d Q;go_wp2_with fail;refine(HC.o _).mono ?_;rintro e Z⟨rfl,n⟩;have D:=X1 (A.o.trans (n.mono A.o.size));have f8:=X1 ((n.block w.heap.size (by omega)).trans d2.o);have a7:=X1 (KJ d0.o n);have j1:=n.size;clear n HC A d2 d0;go_wp2_with(at_builtin;refine Yg _ rfl _ _ 84 rfl (w.heap.size+1) 75 iN _ 1 16 underlying84 hN g6 g5 g4 rfl (by decide) _ _ _ rfl (a7.o.alloc _) ⟨Z.heap.size,0,none⟩ 1 1 [.iface dt du] rfl rfl ?_ ?_ ?_ ?_ ?_ ?_)
    .exact M1 Z (.iface dt du) _
    .intro z hz;simp only[Y6,ZA,Zy]at hz;rw[hz];rfl
    .unfold maxLen;omega
    .omega
    .simp;omega
    .intro v6 w6 J C b2 d6;have B1:BL w (Z.alloc (.cells #[.iface dt du] 75)):=D.o.alloc D.o.size _;have f0:=X1 (B1.grown C (by simp;omega) (fun q e=>by have:=(a7.o.lt q e).1;omega));have j2:Z.heap.size+1<=w6.heap.size:=by have:=C.size;simpa using this
     have f9:Hid (w6.heap[w.heap.size]?=some (.cells #[.int .i64 a,.func (.func f) #[] #[.pointer (some ⟨bb,0,none⟩)]] 71)):=X1 (((C.block w.heap.size (by simp;omega) (fun e=>by have:=(a7.o.lt _ e.symm).1;omega)).trans (((X5 Z.heap.size Z).alloc (X4 _) _).block w.heap.size (by omega))).trans f8.o);have d9:Fd.dns (ks.take i)++[.iface dt du]=Fd.dns (ks.take (i+1)):=by
      unfold Fd.dns;rw[Kt b1,ZO,←a9.o];show _=_++[Fd.dv yk ym yt];rw[f2.o]
     rw[d9]at J;have f4:=X1 J;have b7:Hid (∀y∈ks.take (i+1),Fd.isC y.x):=X1 (by
      intro y Y;rw[Kt b1,←a9.o]at Y;rcases K7.1 Y with Y|Y
      .exact a0.o y Y
      .simp only[Y6,ZA,Zy]at Y;rw[Y];exact b9.o)
     clear d9 B1 C J b2 d6;go_wp2;go_roundw
     case rel=>exact⟨i+1,by omega,by go_num,f0.o,by omega,f9.o,f4.o,b7.o⟩
     case measure=>simp[intOf];omega
   .rw[Yb hC]at HC;have f3:Hid (∃y∈ks,¬Fd.isC y.x):=X1 ⟨ks[i],XR _,by rw[←a9.o];exact hC⟩;generalize Fd.dv yk ym yt=i5 at HC;clear hC;go_wp2_with fail;refine Q.o.mono ?_;rintro e w2⟨rfl,d⟩;have A:=X1 (E.o.trans (d.mono E.o.size));clear d Q;go_wp2_with fail;refine(HC.o _).mono ?_;rintro e Z⟨rfl,n⟩;have D:=X1 (A.o.trans (n.mono A.o.size));clear n HC A;have HE:=X1 (c9.o Z D.o f3.o);go_wp2;go_ret;exact HE.o
  .obtain rfl:i=ks.length:=by omega
   have e2:¬((ks.length:Int)<(ks.length:Int)):=by omega
   have v:Hid (∀y∈ks,Fd.isC y.x):=X1 (by have:=a0.o;rwa[JG]at this);obtain⟨g,cc,e4⟩:=Q3 HR.o h0;cases e4;have e1:=(HR.o.lt g rfl).2;have b8:=X1 (f1.o v.o wr E.o g g0 e1 (fun j z hz=>by
    have V:=HR.o;rw[JG]at V;exact ZF V hz))
   have kf:wr.cell? ⟨w.heap.size,1,none⟩=some (.func (.func f) #[] #[.pointer (some ⟨bb,0,none⟩)]):=by rw[World.cell?,d3.o];rfl
   cases out with
   | inl l=>
    have hne:¬l=[]:=g9 v.o;have i7:(⟨l.toArray⟩:ByteArray).toList.isEmpty=false:=by
     rw[VP];cases l with
     | nil=>exact absurd rfl hne
     | cons a r=>rfl
    go_wp2_with fail;refine b8.o.mono ?_;rintro e w2⟨dv,s,rfl,d,rfl,rfl⟩;have HE:=X1 (H.o w2 (E.o.trans (d.mono E.o.size)) v.o rfl);clear d;generalize b3:(⟨l.toArray⟩:ByteArray)=sl at *;clear b3;go_wp2;go_ret;exact HE.o
   | inr F=>
    have b5:=h6 F rfl;have a4:=g3 v.o F rfl;go_wp2_with fail;refine b8.o.mono ?_;rintro e w2⟨dv,s,rfl,d,rfl,hg,d8,z,M⟩;have A:=X1 (E.o.trans (d.mono E.o.size));have HX:=X1 (fun w=>X4v F b5 hg a4 z dv w w2 M);obtain⟨dt,du,g8⟩:=M.isIface;subst g8;have f6:=X1 b5;clear M d hg d8 b5 a4 kf;go_wp2_with fail;refine(HX.o _).mono ?_;intro e Z P;unfold OH at P;cases I:Fd.okC (Fd.raw (.inr F))with
    | some c=>
     rw[I]at P;obtain⟨rfl,n⟩:=P;have d7:c=Fd.cn F.kind F.num F.text:=by
      have V:Fd.okC (some (Fd.cn F.kind F.num F.text))=some c:=I;rw[Fd.JV]at V;split at V
      .cases V
      .cases V;rfl
     have D:=X1 (A.o.trans (n.mono A.o.size));have HM:=X1 (fun w' (K:BL w w')=>a6.o w' c K v.o I (by rw[d7];rfl));have HI:=X1 (fun w=>Rl F.kind 0 F.num 0 F.text none 0 0 w);rw[YJ f6.o]at HI;subst d7;clear n I;unfold Fd.cn Ip.pv at *;generalize F.kind=ck at *;generalize F.num=i3 at *;generalize F.text=i4 at *;go_wp2_with fail;refine(HI.o _).mono ?_;rintro e w4⟨rfl,L⟩;have HE:=X1 (HM.o w4 (D.o.trans (L.mono D.o.size)));clear L;go_wp2;go_ret;exact HE.o
    | none=>
     rw[I]at P;obtain⟨ck,co,cm,ct,g1,cp,cl,g2,rfl,e3,n⟩:=P;have D:=X1 (A.o.trans (n.mono A.o.size));have HI:=X1 (fun w=>Rl ck co cm g1 ct cp cl g2 w);rw[Yb e3]at HI;have HS:=X1 (fun w' (K:BL w w')=>H.o w' K v.o I);clear n I e3;unfold Ip.pv at *;go_wp2_with fail;refine(HI.o _).mono ?_;rintro e w4⟨rfl,L⟩;have HE:=X1 (HS.o w4 (D.o.trans (L.mono D.o.size)));clear L;go_wp2;go_ret;exact HE.o
namespace Vl
open T.atoms T.ok T.high T.Y0 T.Ko Xs T.ord
theorem Fo{W:World}{l:List UInt8}(e:Ending)(w':World)(h:e= .returned (.tuple #[.nilIface,.string ⟨l.toArray⟩])/\w'=W):YF (DoK W (.inl l)) e w':=by
 obtain⟨rfl,rfl⟩:=h;exact⟨_,_,rfl,X5 _ _,rfl,rfl⟩
theorem Y5a(t:T)(W:World)(b g k x:Nat)(v:Value)(m:W.cell? ⟨b,0,none⟩=some (.func (.func 62) #[] #[]))(d:W.cell? ⟨g,0,none⟩=some v)(c:Xs W x t v):Calls prog 118 #[.slice (some ⟨g,0,none⟩) 1 k,.pointer (some ⟨b,0,none⟩)] W (YF (DoK W (QX 1 t))):=by
 unfold QX;rw[X3 rfl];by_cases a:t.kind=2
 .obtain⟨j,rfl⟩:=(UR c).1 a;rw[X3 a,←Ij c];exact(Y3m j g b W d m).mono fun e w' h=>Wu e w' ⟨_,_,h.1,rfl,rfl,by rw[h.2];exact X5 _ _⟩
 .obtain⟨y,u,rfl,n⟩:=(UR c).2 a;rw[X2 a];exact(Y3l y u n g b W d).mono fun e w' h=>Fo (l:=tyW) e w' h
theorem Xbk(n:Int)(h:Xp n):Je n=Qf (XL (0-n)) rgW:=by
 unfold Je XL;unfold Xp at h;by_cases a:n= -9223372036854775808
 .rw[X3 a,X2 (by omega)];rfl
 .rw[X2 a,X3 (by omega)];show _=Value.tuple #[.iface _ (.int .i64 (0-n)),_];rw[Int.zero_sub]
theorem Y5b(t:T)(hi:Xp t.num)(W:World)(b g k x:Nat)(v:Value)(m:W.cell? ⟨b,0,none⟩=some (.func (.func 64) #[] #[]))(j:W.cell? ⟨g,0,none⟩=some v)(d:Xs W x t v):Calls prog 119 #[.slice (some ⟨g,0,none⟩) 1 k,.pointer (some ⟨b,0,none⟩)] W (YF (DoK W (QX 2 t))):=by
 unfold QX;rw[X2 (by decide)];by_cases a:t.kind=3
 .obtain⟨n,rfl⟩:=(US d).1 a;rw[X3 a];have q:=Ui d;subst q;have c:=hi;unfold Xp at c;exact(Y3p t.num c.1 c.2 g b W j m).mono fun e w' h=>VK e w' ⟨by rw[h.1,Xbk _ hi],h.2⟩
 .obtain⟨y,u,rfl,r⟩:=(US d).2 a;rw[X2 a];exact(Y3o y u r g b W j).mono fun e w' h=>Fo (l:=tyW) e w' h
end Vl
structure Tb (w:World) (fb:Nat):Prop where
 lt:fb<w.heap.size
 gi:Vl.GI w
 ops:∃w0 l,w.cell? ⟨fb,0,none⟩=some (.map (some w0.heap.size))/\Vl.Tab w0 Vl.Un l w
 uns:∃mu b c,w.cell? ⟨fb,1,none⟩=some (.map (some mu))/\w.ownsMap prog 3 Vl.UK mu 2 (Vl.Gz b c)/\w.cell? ⟨b,0,none⟩=some (.func (.func 62) #[] #[])/\w.cell? ⟨c,0,none⟩=some (.func (.func 64) #[] #[])
theorem Tb.below{w w':World}{d:Nat}(h:Tb w d)(a:BL w w'):Tb w' d:=by
 obtain⟨s,l,n,q⟩:=h.ops;obtain⟨r,b,c,k,m,g,j⟩:=h.uns;exact⟨Xd h.lt a.size,h.gi.below a,⟨s,l,(a.cell (p:=⟨d,0,none⟩) h.lt).trans n,q.below a⟩,⟨r,b,c,(a.cell (p:=⟨d,1,none⟩) h.lt).trans k,Vl.Da m a,(a.cell (p:=⟨b,0,none⟩) (J1 w ⟨b,0,none⟩ g)).trans g,(a.cell (p:=⟨c,0,none⟩) (J1 w ⟨c,0,none⟩ j)).trans j⟩⟩
abbrev Dg:String:= "loop.example/kilnclay/impl.anew"
def ZG(B:Nat->Prop)(w:World)(y:Fd)(z:Value)(w':World):Prop:=Fd.Pt (fun q=>B q\/(w.heap.size<=q/\q<w'.heap.size)) w' y z/\Below w.heap.size w w'
def Ln(O:FOp)(fb f:Nat):Prop:=∀(y:Fd),y.size<=f->f<=1000000->Fd.Good y->Fd.UG y->∀(B:Nat->Prop) (u:Value) (w:World),(∀q,B q->q<w.heap.size)->Tb w fb->Fd.Pt B w y u->Lw u Dg (pt fb) w (ZG B w (Fd.fold O f y))
abbrev stO(ty:TypeId)(k o m c:Int)(t:ByteArray)(sl:Value):Obj:= .cells #[.int .i64 k,.int .i64 o,.int .i64 m,.string t,.int .i64 c,sl] ty
theorem VH{W:World}{g:Nat}{ty:TypeId}{k o m c:Int}{t:ByteArray}{a:Value}(h:W.heap[g]?=some (stO ty k o m c t a)):W.cell? ⟨g,0,none⟩=some (.int .i64 k)/\W.cell? ⟨g,1,none⟩=some (.int .i64 o)/\W.cell? ⟨g,2,none⟩=some (.int .i64 m)/\W.cell? ⟨g,3,none⟩=some (.string t)/\W.cell? ⟨g,4,none⟩=some (.int .i64 c)/\W.cell? ⟨g,5,none⟩=some a:=by
 refine⟨?_,?_,?_,?_,?_,?_⟩<;>(rw[World.cell?,h];rfl)
theorem Y2r{O:FOp}{fb f:Nat}(IH:Ln O fb f)(hf:f<=1000000)(x:Nd)(p b:Int)(ks:List Fd)(hs:∀t∈ks,t.size<=f)(e7:ks.length<=f)(hG:∀t∈ks,Fd.Good t)(hR:∀t∈ks,Fd.UG t)(B:Nat->Prop)(J:Option Addr)(I:Nat)(xs:List Value)(w:World)(hB:∀q,B q->q<w.heap.size)(hT:Tb w fb)(u:w.ownsRow 0 44 1 (.slice J ks.length I) ks.length xs)(hq:∀q,(Value.slice J ks.length I).ownBlock=some q->B q)(hk:Fd.Pt.ptL B w ks xs): Calls prog 293 #[Ip.ag x.kind x.op x.n ks.length x.text (.slice J ks.length I),pt fb] w fun e w'=>∃z,e= .returned z/\ZG B w (.mk x p b (ks.map (Fd.fold O f))) z w':=by
 obtain⟨iN,hN,d8,d7,d6⟩:=Yk Ri;obtain⟨k,o,m,tx,c0⟩:=x;have b9:=X1 IH;have a0:=X1 u;have HK:=X1 hk;have L:=X1 hB;have HT:=X1 hT;have HG:=X1 hG;have d2:=X1 hR;have HS:=X1 hs;have a4:∀q,(Value.slice J ks.length I).ownBlock=some q->q<w.heap.size:=fun q e=>hB q (hq q e);have b8:=X1 a4;have b0:BL w (w.alloc (stO 190 k o m ks.length tx (.slice J ks.length I))):=bA _;have b7:=X1 b0;have d3:=X1 (XM w (stO 190 k o m ks.length tx (.slice J ks.length I)));have e4:Hid (w.heap.size<(w.alloc (stO 190 k o m ks.length tx (.slice J ks.length I))).heap.size):=X1 (by simp);clear IH u hk hB hT hG hR hs b0 a4 hq;go_enter func293,ntmps293;go_wp2_with fail;go_loopw[5,11] (fun av iv wr=>∃i:Nat,i<=ks.length/\iv= .int .i64 (i:Int)/\BL w wr/\w.heap.size<wr.heap.size/\wr.heap[w.heap.size]?=some (stO 190 k o m ks.length tx (.slice J ks.length I))/\∃zs,wr.ownsRow (w.heap.size+1) 44 1 av i zs/\Fd.Pt.ptL (fun q=>(B q\/(w.heap.size<=q/\q<wr.heap.size))/\av.ownBlock≠some q) wr ((ks.take i).map (Fd.fold O f)) zs) (fun _ iv _=>ks.length-(intOf iv).toNat)
 case atStart=>exact⟨0,X6 _,rfl,b7.o,e4.o,d3.o,[],ZJ _ _ _ _,by simpa using(Fd.Qh _ _).2 rfl⟩
 case round=>
  obtain⟨i,hi,rfl,a2,e6,b6,zs,u,a7⟩:=hrel;have c:=X1 a2;have a1:=X1 b6;have HR:=X1 u;have N:=X1 a7;clear a2 b6 u a7;obtain⟨l,j,d9⟩:=YV HR.o;subst d9;by_cases a5:i<ks.length
  .have a6:(i:Int)<(ks.length:Int):=by omega
   obtain⟨g,cc,e0⟩:=Q3 a0.o (by omega);cases e0;obtain⟨ai,a3,Y⟩:=Fd.Gi i HK.o a5;obtain⟨ta,ua,e3⟩:=Y.iface;subst e3;have ke:wr.cell? ⟨g,i,none⟩=some (.iface ta ua):=(c.o.cell (p:=⟨g,i,none⟩) (b8.o g rfl)).trans (ZF a0.o a3);have A:ks[i]∈ks:=XR _;have HM:=X1 (b9.o ks[i] (HS.o _ A) hf (HG.o _ A) (d2.o _ A) B (.iface ta ua) wr (fun q e=>Xd (L.o q e) c.o.size) (HT.o.below c.o) (Fd.Pt.go Y (fun _ e=>e) (fun q e=>c.o.block q (L.o q e))));clear Y a3;go_wp2_with(first
    | (show wpList _ _ _ ({dst:=_,op:=Op.call {callee:=Callee.invoke _ _,args:=_,argTypes:=_},type:=_,pos:=_,after:=_,guard:=_}::_) _ _;refine SD rfl (.tmp 16) (.tmp 17) _ rfl _ _ _ (by first|(simp[Act.eval];done)|simp[Act.eval,Act.put]) (by first|(simp[Act.eval];done)|simp[Act.eval,Act.put]) HM.o ?_;rintro z5 w5⟨W,r⟩;obtain⟨t5,u5,e1⟩:=W.iface;subst e1;have d1:=X1 (KJ HR.o r);have e8:=r.size;have v:=X1 r;clear r)
    | (at_builtin;refine Yg _ rfl _ _ 107 rfl (w.heap.size+1) 44 iN _ 1 16 underlying107 hN d8 d7 d6 rfl (by decide) _ _ _ rfl (d1.o.alloc _) ⟨w5.heap.size,0,none⟩ 1 1 [.iface t5 u5] rfl rfl ?_ ?_ ?_ ?_ ?_ ?_))
   .exact M1 w5 (.iface t5 u5) _
   .intro z hz;simp only[Y6,ZA,Zy]at hz;rw[hz];rfl
   .unfold maxLen;omega
   .omega
   .simp;omega
   .intro v6 K E a V F;have r:=v.o;have d4:=X1 ((r.block w.heap.size e6).trans a1.o);have c8:=X1 W;have Z:=X1 (Fd.QW (B':=fun q=>(B q\/(w.heap.size<=q/\q<w5.heap.size))/\(Value.slice l i j).ownBlock≠some q) (fun q e=>⟨e.1.elim .inl (fun e=> .inr ⟨e.1,by omega⟩),e.2⟩) (fun q e=>r.block q (e.1.elim (fun e=>Xd (L.o q e) c.o.size) (fun e=>e.2))) N.o);have d:Hid (∀q,(Value.slice l i j).ownBlock=some q->w.heap.size+1<=q/\q<wr.heap.size):=X1 (fun q e=>HR.o.lt q e)
    replace v:=X1 (c.o.trans (r.mono c.o.size))
    clear W r HM N;have B1:BL w (w5.alloc (.cells #[.iface t5 u5] 44)):=v.o.alloc v.o.size _;have M:=X1 (B1.grown a (by simp;omega) (fun q e=>by have:=(d.o q e).1;omega));have e5:w5.heap.size+1<=K.heap.size:=by have:=a.size;simpa using this
    have s:∀q,q<w5.heap.size->(Value.slice l i j).ownBlock≠some q->K.heap[q]?=w5.heap[q]?:=fun q h1 h2=>(a.block q (by simp;omega) (fun e=>h2 e.symm)).trans (((X5 w5.heap.size w5).alloc (X4 _) _).block q h1);have d5:=X1 ((s w.heap.size (by omega) (fun e=>by have:=(d.o _ e).1;omega)).trans d4.o);have C:∀q,q<w5.heap.size->(Value.slice l i j).ownBlock≠some q->v6.ownBlock≠some q:=fun q h1 h2 e=>by
     rcases F with Q|Q
     .exact h2 (Q ▸ e)
     .rw[Q]at e;have:=YD e;first|omega|(rw[Xb]at this;omega)
    have S:∀q,((B q\/(w.heap.size<=q/\q<w5.heap.size))/\(Value.slice l i j).ownBlock≠some q)->q<w5.heap.size:=fun q e=>e.1.elim (fun e=>Xd (L.o q e) v.o.size) (fun e=>e.2);have a8:Fd.Pt.ptL (fun q=>(B q\/(w.heap.size<=q/\q<K.heap.size))/\v6.ownBlock≠some q) K ((ks.take i).map (Fd.fold O f)) zs:=Fd.QW (fun q e=>⟨e.1.elim .inl (fun e=> .inr ⟨e.1,by omega⟩),C q (S q e) e.2⟩) (fun q e=>s q (S q e) e.2) Z.o;have D:∀q,(B q\/(wr.heap.size<=q/\q<w5.heap.size))->q<w5.heap.size/\(Value.slice l i j).ownBlock≠some q:=fun q e=>e.elim (fun e=>⟨Xd (L.o q e) v.o.size,fun Q=>by have:=(d.o q Q).1;have:=L.o q e;omega⟩) (fun e=>⟨e.2,fun Q=>by have:=(d.o q Q).2;omega⟩);have a9:Fd.Pt (fun q=>(B q\/(w.heap.size<=q/\q<K.heap.size))/\v6.ownBlock≠some q) K (Fd.fold O f ks[i]) (.iface t5 u5):=Fd.Pt.go c8.o (fun q e=>⟨e.elim .inl (fun e=> .inr ⟨by have:=c.o.size;omega,by omega⟩),C q (D q e).1 (D q e).2⟩) (fun q e=>s q (D q e).1 (D q e).2);have X:=Fd.RT a8 a9;have H:(ks.take i).map (Fd.fold O f)++[Fd.fold O f ks[i]]=(ks.take (i+1)).map (Fd.fold O f):=by rw[Kt a5,ZO];rfl
    rw[H]at X;have d0:=X1 X;have P:=X1 E;clear a8 a9 X H D S C s B1 a E V F;go_wp2;go_roundw
    case rel=>exact⟨i+1,by omega,by go_num,M.o,by omega,d5.o,_,P.o,d0.o⟩
    case measure=>simp[intOf];omega
  .obtain rfl:i=ks.length:=by omega
   have a6:¬((ks.length:Int)<(ks.length:Int)):=by omega
   obtain⟨b0,b1,b2,b3,b4,b5⟩:=VH a1.o;have HN:=X1 (fun w=>Um k o m ks.length tx l ks.length j w);go_wp2_with fail;refine(HN.o _).mono ?_;rintro e K⟨rfl,y⟩;have M:=X1 (c.o.trans (y.mono c.o.size));have e5:=y.size;have P:=X1 (KJ HR.o y);have c9:=X1 (Fd.QW (B':=fun q=>B q\/(w.heap.size<=q/\q<K.heap.size)) (fun q e=>e.1.elim .inl (fun e=> .inr ⟨e.1,by omega⟩)) (fun q e=>y.block q (e.1.elim (fun e=>Xd (L.o q e) c.o.size) (fun e=>e.2))) N.o);have d:Hid (∀q,(Value.slice l ks.length j).ownBlock=some q->w.heap.size+1<=q/\q<wr.heap.size):=X1 (fun q e=>HR.o.lt q e);unfold Ip.pv;clear y;go_wp2;go_ret;refine⟨_,rfl,(Fd.Q2 _ _ _ _ _ _ _).2 ⟨.slice l ks.length j,zs,by rw[Z9];rfl,by rw[Z9];exact Qj P.o (fun _ _=>X6 _) (fun _ _=>rfl),fun q e=> .inr ⟨by have:=(d.o q e).1;omega,by have:=(d.o q e).2;omega⟩,by have:=c9.o;rwa[JG]at this⟩,M.o⟩
theorem Ip.Y4x{k:Int}(m:k≠6)(n:k≠7)(d:k≠13)(g:k≠14):Ip.ty k∈([192,195,196,197,198,199,202,203,204,205,206,207,208,209,210,211,212]:List TypeId):=by
 have j:(k==6)=false:=by simpa using m
 have l:(k==7)=false:=by simpa using n
 have a:(k==13)=false:=by simpa using d
 have c:(k==14)=false:=by simpa using g
 unfold Ip.ty;rw[j,l,a,c];simp only[cond_false];repeat(refine Ip.PJ (by simp) ?_)
 simp
theorem X1v{k:Int}(l:k≠6)(n:k≠7)(a:k≠13)(d:k≠14)(o m c:Int)(t:ByteArray)(g v:Value)(w:World):(callMethod (.iface (Ip.ty k) (Ip.ag k o m c t g)) Dg #[v]).run prog w= .ok (.enter 293 #[Ip.ag k o m c t g,v]) w:=by
 have j:∀T∈([192,195,196,197,198,199,202,203,204,205,206,207,208,209,210,211,212]:List TypeId),(callMethod (.iface T (Ip.ag k o m c t g)) Dg #[v]).run prog w= .ok (.enter 293 #[Ip.ag k o m c t g,v]) w:=by
  clear l n a d;intro T q;simp only[Y6,ZA,Zy]at q;rcases q with rfl|rfl|rfl|rfl|rfl|rfl|rfl|rfl|rfl|rfl|rfl|rfl|rfl|rfl|rfl|rfl|rfl<;>kernel_rfl
 exact j _ (Ip.Y4x l n a d)
theorem X1w(o m c:Int)(t:ByteArray)(a v:Value)(w:World):(callMethod (.iface (Ip.ty 6) (Ip.ag 6 o m c t a)) Dg #[v]).run prog w= .ok (.enter 299 #[Ip.ag 6 o m c t a,v]) w:=by kernel_rfl
theorem X1s(o m c:Int)(t:ByteArray)(a v:Value)(w:World):(callMethod (.iface (Ip.ty 7) (Ip.ag 7 o m c t a)) Dg #[v]).run prog w= .ok (.enter 306 #[Ip.ag 7 o m c t a,v]) w:=by kernel_rfl
theorem X1t(o m c:Int)(t:ByteArray)(a v:Value)(w:World):(callMethod (.iface (Ip.ty 13) (Ip.ag 13 o m c t a)) Dg #[v]).run prog w= .ok (.enter 318 #[Ip.ag 13 o m c t a,v]) w:=by kernel_rfl
theorem X1u(o m c:Int)(t:ByteArray)(a v:Value)(w:World):(callMethod (.iface (Ip.ty 14) (Ip.ag 14 o m c t a)) Dg #[v]).run prog w= .ok (.enter 321 #[Ip.ag 14 o m c t a,v]) w:=by kernel_rfl
structure Anw (O:FOp) (fb f:Nat) (B:Nat->Prop) (w:World) (x:Nd) (p b:Int) (ks:List Fd) (sp:Option Addr) (sc:Nat):Prop where
 L9:∀w',Below w.heap.size w w'->Calls prog 293 #[Ip.ag x.kind x.op x.n ks.length x.text (.slice sp ks.length sc),pt fb] w' fun e w''=>∃z,e= .returned z/\ZG B w' (.mk x p b (ks.map (Fd.fold O f))) z w''
 tb:Tb w fb
 inB:∀q,B q->q<w.heap.size
theorem Anw.of{O:FOp}{k f:Nat}(s:Ln O k f)(y:f<=1000000){x:Nd}{p b:Int}{ks:List Fd}(A:∀t∈ks,t.size<=f)(l:ks.length<=f)(u:∀t∈ks,Fd.Good t)(v:∀t∈ks,Fd.UG t){B:Nat->Prop}{j:Option Addr}{g:Nat}{m:List Value}{w:World}(c:∀q,B q->q<w.heap.size)(n:Tb w k)(a:w.ownsRow 0 44 1 (.slice j ks.length g) ks.length m)(r:∀q,(Value.slice j ks.length g).ownBlock=some q->B q)(z:Fd.Pt.ptL B w ks m):Anw O k f B w x p b ks j g:=⟨fun w' d=>Y2r s y x p b ks A l u v B j g m w' (fun q e=>Xd (c q e) d.size) (n.below d) (Qj a (fun _ _=>X6 _) (fun q e=>d.block q (c q (r q e)))) r (Fd.QW (fun _ e=>e) (fun q e=>d.block q (c q e)) z),n,c⟩
theorem ZG.below{B:Nat->Prop}{w w1 c:World}{y:Fd}{z:Value}(h:ZG B w y z w1)(d:∀q,B q->q<w.heap.size)(a:BL w1 c):ZG B w y z c:=⟨Fd.Pt.go h.1 (fun _ e=>e.elim .inl (fun e=> .inr ⟨e.1,Xd e.2 a.size⟩)) (fun q e=>a.block q (e.elim (fun e=>Xd (d q e) h.2.size) (fun e=>e.2))),h.2.trans (a.mono h.2.size)⟩
theorem ZG.from{B:Nat->Prop}{c w w1:World}{y:Fd}{z:Value}(h:ZG B w y z w1)(a:BL c w):ZG B c y z w1:=⟨Fd.Pt.go h.1 (fun _ e=>e.elim .inl (fun e=> .inr ⟨XO a.size e.1,e.2⟩)) (fun _ _=>rfl),a.trans (h.2.mono a.size)⟩
theorem Y2s{d:Array Oper}{o:Oper}{a:Act}{w:World}{K:Act->World->Prop}{Q:Exit->Act->World->Prop}{E:Prop}{c:String}(m:o.guard=none)(x y:Operand)(B:Array TypeId)(g:o.op=Op.call {callee:=Callee.invoke x c,args:=#[y],argTypes:=B})(v u:Value)(P:Value->World->Prop)(t:a.eval x=v)(A:a.eval y=u)(q:Lw v c u w P)(l:∀z w',P z w'->K (a.put o.dst z) w'): if Region.wanted o (yielded d a.tmps)=true then Oper.wp prog o a w K Q else E:=by
 have s:Region.wanted o (yielded d a.tmps)=true:=by simp[Region.wanted,m]
 rw[X3 s];obtain⟨f,r,n,k⟩:=q;unfold Oper.wp;simp only[execOp,g,resolve,invoke,KP,Yc,Xu,t,A,Zk,QM,Zj];simp[n];refine k.mono fun e C h=>?_;obtain⟨z,rfl,j⟩:=h;exact l _ _ j
theorem Fd.X5f(O:FOp)(F:Fd->Fd){x:Nd}(h:x.kind=14)(p b:Int)(k l:Fd):Fd.fin O F x p b [k,l]=if Fd.isC k.x then F (Fd.Yr p k.x l)else .mk x p b [k,l]:=by
 unfold Fd.fin;rw[X2 (by omega),X2 (by omega),X2 (by omega),X3 h]
theorem Fd.Y0t{B:Nat->Prop}{w:World}{x:Nd}{p b:Int}{v:Value}(h:Fd.Pt B w (.mk x p b []) v):Fd.Pt B w (Fd.one x) v:=(Fd.Q2 _ _ _ _ _ _ _).2 ((Fd.Q2 _ _ _ _ _ _ _).1 h)
theorem Fd.EF{B:Nat->Prop}{w:World}{x:Nd}{p b:Int}{k l:Fd}{v:Value}(h:Fd.Pt B w (.mk x p b [k,l]) v):∃g c a d,v=Ip.pv (Fd.nk x 2) (.slice (some ⟨g,0,none⟩) 2 c)/\B g/\w.cell? ⟨g,0,none⟩=some a/\w.cell? ⟨g,1,none⟩=some d/\Fd.Pt B w k a/\Fd.Pt B w l d:=by
 obtain⟨z,A,m,j,n,q⟩:=(Fd.Q2 _ _ _ _ _ _ _).1 h;obtain⟨g,c,rfl⟩:=Q3 j (by simp);obtain⟨a,s,rfl,t,r⟩:=(Fd.Ka _ _ _ _).1 q;obtain⟨d,s,rfl,u,y⟩:=(Fd.Ka _ _ _ _).1 r;exact⟨g,c,a,d,m,n g rfl,ZF j rfl,ZF j rfl,t,u⟩
theorem Fd.RU{B:Nat->Prop}{w:World}{y:Fd}{v:Value}(h:Fd.Pt B w y v):∃p n c,v=Ip.pv (Fd.nk y.x y.ks.length) (.slice p n c):=by
 obtain⟨x,p,b,ks⟩:=y;obtain⟨k,l,a,d,g,j⟩:=(Fd.Q2 _ _ _ _ _ _ _).1 h;obtain⟨p,c,rfl⟩:=YV d;exact⟨p,_,c,a⟩
theorem Xbl{O:FOp}(hO:Fd.Uy O)(hC:Fd.Cs O){fb f:Nat}(IH:Ln O fb f)(hf:f<=1000000)(o m c0:Int)(t:ByteArray)(p b:Int)(k l:Fd)(B:Nat->Prop)(sp:Option Addr)(sc:Nat)(w:World)(hA:Anw O fb f B w ⟨14,o,m,t,c0⟩ p b [k,l] sp sc)(b5:Fd.Good k)(b6:Fd.Good l)(hS:Fd.U9 (.mk ⟨14,o,m,t,c0⟩ p b [k,l]))(c8:l.size<=f): Calls prog 321 #[Ip.ag 14 o m 2 t (.slice sp 2 sc),pt fb] w fun e w'=>∃z,e= .returned z/\ZG B w (Fd.fold O (f+1) (.mk ⟨14,o,m,t,c0⟩ p b [k,l])) z w':=by
 have HF:=X1 (show Fd.fold O (f+1) (.mk ⟨14,o,m,t,c0⟩ p b [k,l])=_ from(Fd.fold_succ O f ⟨14,o,m,t,c0⟩ p b [k,l]).trans (Fd.X5f O (Fd.fold O f) (x:=⟨14,o,m,t,c0⟩) rfl p b (Fd.fold O f k) (Fd.fold O f l)));have a0:=X1 (fun(c:Nd) (E:Fd.isC c)=>Fd.CO hC f hS rfl E);have Y:=X1 (Fd.UX hO f k b5);have H:=X1 (Fd.UX hO f l b6);have b1:=X1 (XO (Fd.size_fold O f l) c8);have K:=X1 hA.L9;have d6:=X1 hA.tb;have HB:=X1 hA.inB;have d3:=X1 IH;have P:[k,l].map (Fd.fold O f)=[Fd.fold O f k,Fd.fold O f l]:=rfl;rw[P]at K;have HE:Hid ([k,l].length=2):=X1 rfl;rw[HE.o]at K;clear hA hS b5 b6 c8 P HE;generalize Fd.fold O f k=k' at *;generalize Fd.fold O f l=l' at *;have b0:BL w (w.alloc (stO 201 14 o m 2 t (.slice sp 2 sc))):=bA _;have a6:=X1 b0;have d7:=X1 (XM w (stO 201 14 o m 2 t (.slice sp 2 sc)));have b3:Hid (w.heap.size<(w.alloc (stO 201 14 o m 2 t (.slice sp 2 sc))).heap.size):=X1 (by simp);clear b0;go_enter func321,ntmps321;go_wp2_with fail;refine(K.o _ a6.o).mono ?_;rintro e w1⟨z1,rfl,M⟩;have d8:=X1 ((M.2.block w.heap.size b3.o).trans d7.o);have a5:=Xd b3.o M.2.size;have J:=X1 (M.from a6.o);clear M K;obtain⟨C,c1,v0,v1,rfl,d9,c9,d1,a3,a4⟩:=Fd.EF J.o.1;have A:C<w1.heap.size:=d9.elim (fun e=>Xd (HB.o C e) J.o.2.size) (fun e=>e.2);obtain⟨S,n0,j,e2⟩:=Fd.RU a3;subst e2;obtain⟨t1,u1,e3⟩:=a4.iface;subst e3;have I:=X1 a3;have Z:=X1 a4;have L:=X1 c9;have b2:=X1 d1;have e6:=Ge 14 o m 2 t (.slice (some ⟨C,0,none⟩) 2 c1);have a9:=X1 (fun w=>G9 14 o m 2 t (.slice (some ⟨C,0,none⟩) 2 c1) ⟨_,_,_,rfl⟩ w);have a8:=X1 (fun w=>Rl k'.x.kind k'.x.op k'.x.n (k'.ks.length:Nat) k'.x.text S n0 j w);have b8:Ip.pv (Fd.nk k'.x k'.ks.length) (.slice S n0 j)=Ip.pv ⟨k'.x.kind,k'.x.op,k'.x.n,k'.x.text,(k'.ks.length:Nat)⟩ (.slice S n0 j):=rfl;rw[b8]at I L;have g:Hid (ZG B w (.mk ⟨14,o,m,t,c0⟩ p b [k',l']) (Ip.pv (Fd.nk ⟨14,o,m,t,c0⟩ 2) (.slice (some ⟨C,0,none⟩) 2 c1)) w1):=J;obtain⟨_,_,d0⟩:∃y u,Ip.pv ⟨k'.x.kind,k'.x.op,k'.x.n,k'.x.text,(k'.ks.length:Nat)⟩ (.slice S n0 j)= .iface y u:=⟨_,_,rfl⟩;clear a3 a4 c9 d1 b8 J d0;unfold Fd.nk Ip.pv at *;go_wp2_with fail;refine(a9.o _).mono ?_;rintro e w2⟨rfl,a1⟩;have V:=X1 a1;have e0:=(a1.cell (p:=⟨C,0,none⟩) A).trans L.o;clear a1 a9;go_wp2_with fail;refine(a8.o _).mono ?_;rintro e w3⟨rfl,b7⟩;have a:=X1 (V.o.trans (b7.mono V.o.size));clear b7 a8 V e0;by_cases E:1<=k'.x.kind/\k'.x.kind<=4
 .rw[YJ E];have a2:=Y.o.const E;obtain⟨D,Q⟩:=a0.o k'.x E;have X:=X1 (HF.o.trans (X3 E));have e0:=(a.o.cell (p:=⟨C,0,none⟩) A).trans L.o;have e1:=(a.o.cell (p:=⟨C,1,none⟩) A).trans b2.o;obtain⟨_,_,_,q3,_,_⟩:=VH ((a.o.block w.heap.size a5).trans d8.o);have b4:∀q,(B q\/(w.heap.size<=q/\q<w1.heap.size))->q<w1.heap.size:=fun q e=>e.elim (fun e=>Xd (HB.o q e) g.o.2.size) (fun e=>e.2);have F:=X1 b4;have N:Hid (Fd.Pt (fun q=>B q\/(w.heap.size<=q/\q<w1.heap.size)) w1 (Fd.one k'.x) (.iface (Ip.ty k'.x.kind) (.agg #[.int .i64 k'.x.kind,.int .i64 k'.x.op,.int .i64 k'.x.n,.string k'.x.text,.int .i64 (k'.ks.length:Nat),.slice S n0 j]))):=X1 (by
   have h1:=I.o;obtain⟨kx,kp,kb,e5⟩:=k';have h2:e5=[]:=a2.2;subst h2;exact Fd.Y0t h1)
  have a7:=X1 (fun(w':World) (hb:BL w1 w')=>X5d t k'.x (l'.size) l' (X4 _) (XO b1.o hf) H.o (fun q=>B q\/(w.heap.size<=q/\q<w1.heap.size)) (.iface t1 u1) (.iface (Ip.ty k'.x.kind) (.agg #[.int .i64 k'.x.kind,.int .i64 k'.x.op,.int .i64 k'.x.n,.string k'.x.text,.int .i64 (k'.ks.length:Nat),.slice S n0 j])) w' (fun q e=>Xd (F.o q e) hb.size) (Fd.Pt.go Z.o (fun _ e=>e) (fun q e=>hb.block q (F.o q e))) (Fd.Pt.go N.o (fun _ e=>e) (fun q e=>hb.block q (F.o q e))));rw[show Fd.fill t k'.x l'=Fd.Yr p k'.x l' from D]at a7;have d5:=X1 (XO (Fd.Sd p k'.x _ l' (X4 _)) b1.o);have d2:=X1 (Fd.IC p a2.1 _ l' (X4 _) H.o);have d4:=X1 Q;clear a2 D Q b4 N a0 HF H Y Z I;generalize Fd.Yr p k'.x l'=y2 at *;clear E;generalize k'.x.kind=kk at *;generalize k'.x.op=ko at *;generalize k'.x.n=kn at *;generalize k'.x.text=kt at *;generalize(k'.ks.length:Nat)=kl at *;go_wp2_with fail;go_region_held3 (fun W=>W.cell? ⟨C,0,none⟩=some (.iface (Ip.ty kk) (.agg #[.int .i64 kk,.int .i64 ko,.int .i64 kn,.string kt,.int .i64 (kl:Int),.slice S n0 j]))/\W.cell? ⟨C,1,none⟩=some (.iface t1 u1)/\W.cell? ⟨w.heap.size,3,none⟩=some (.string t)) (go_keep) (first
   | (refine Z8 rfl 325 [.tmp 21,.tmp 25,.tmp 28] _ rfl [.iface t1 u1,.string t,.iface (Ip.ty kk) (.agg #[.int .i64 kk,.int .i64 ko,.int .i64 kn,.string kt,.int .i64 (kl:Int),.slice S n0 j])] (by simp[Act.eval]) f325 func325 (by kernel_rfl) (by kernel_rfl) (fun r w5=>∃t5 u5,r= .iface t5 u5/\Fd.Pt (fun q=>(B q\/(w.heap.size<=q/\q<w1.heap.size))\/(w3.heap.size<=q/\q<w5.heap.size)) w5 y2 (.iface t5 u5)/\BL w3 w5) ((a7.o w3.drew a.o.drew).mono (fun _ _ ⟨v,q1,q2,q3⟩=>by obtain⟨t5,u5,q4⟩:=q2.iface;subst q4;exact⟨_,q1,t5,u5,rfl,q2,Ue q3⟩)) ?_;rintro r w5⟨t5,u5,rfl,b9,d⟩;have s0:=(d.cell (p:=⟨C,0,none⟩) (Xd A a.o.size)).trans e0;have s1:=(d.cell (p:=⟨C,1,none⟩) (Xd A a.o.size)).trans e1;have s3:=(d.cell (p:=⟨w.heap.size,3,none⟩) (Xd a5 a.o.size)).trans q3)
   | (refine Y2s rfl (.tmp 29) (.tmp 30) _ rfl (.iface t5 u5) (pt fb) (ZG (fun q=>(B q\/(w.heap.size<=q/\q<w1.heap.size))\/(w3.heap.size<=q/\q<w5.heap.size)) w5 (Fd.fold O f y2)) (by simp[Act.eval]) (by simp[Act.eval]) (d3.o y2 d5.o hf d2.o (.inl d4.o) _ _ w5 (fun q e=>e.elim (fun e=>Xd (F.o q e) (XO a.o.size d.size)) (fun e=>e.2)) (d6.o.below (g.o.2.trans ((a.o.trans (d.mono a.o.size)).mono g.o.2.size))) b9) ?_;rintro r w6 s;obtain⟨t6,u6,q6⟩:=s.1.iface;subst q6;have r0:=(s.2.cell (p:=⟨C,0,none⟩) (Xd A (XO a.o.size d.size))).trans s0;have r1:=(s.2.cell (p:=⟨C,1,none⟩) (Xd A (XO a.o.size d.size))).trans s1;have r3:=(s.2.cell (p:=⟨w.heap.size,3,none⟩) (Xd a5 (XO a.o.size d.size))).trans s3))
  all_goals
   have e7:=a.o.size;have e8:=d.size;have e4:=g.o.2.size;have e9:=s.2.size;have HR:Hid (ZG B w (Fd.fold O f y2) (.iface t6 u6) w6):=X1 ⟨Fd.Pt.go s.1 (fun q e=>by
    rcases e with((e|e)|e)|e
    .exact .inl e
    .exact .inr ⟨e.1,by omega⟩
    .exact .inr ⟨by omega,by omega⟩
    .exact .inr ⟨by omega,e.2⟩) (fun _ _=>rfl),g.o.2.trans ((a.o.trans ((d.mono a.o.size).trans (s.2.mono (XO a.o.size d.size)))).mono e4)⟩
   clear s b9 d;go_wp2;go_ret;exact⟨_,rfl,by rw[X.o];exact HR.o⟩
 .rw[Yb E];have X:=X1 (HF.o.trans (X2 E));have HR:=X1 (g.o.below HB.o a.o);clear E a0 HF H Y Z I L b2;go_wp2;go_ret;exact⟨_,rfl,by rw[X.o];exact HR.o⟩
end Go.Proofs.YtkoiikmhfaebnaaGreatDoor
namespace Go.Proofs.YtkoiikmhfaebnaaGreatDoor
open Go.Proofs.Tryz Go.ChangeShapes Go.WideShapes Go.ChangeAt Go.RowKit Go.ChangeMaps
theorem own:ownKnob prog.godebug=none:=by kernel_rfl
theorem CJ:laidOutB prog=true:=by kernel_rfl
theorem X2g:prog.cellsOf 5=1:=by kernel_rfl
theorem X2l:prog.cellsOf 9=1:=by kernel_rfl
section
variable {H:Type} {enc:TypeId × Value->H} {W:World} {sp:Nat->Bool}
theorem Xeo{n:Nat}{v:Value}{x:DataW H × List MemPlace}(h:DataW.trod enc prog W 0 (fun _=>true) true n 22 [v]=some x): ∃m,ByV W v m:=by
 rcases Deep.open_slice1 underlying22 X2g h with⟨g,_⟩|⟨a,len,j,m,k,V,D,M,g,_,E,B,F,_,K⟩
 .cases g;exact⟨0,.inl ⟨none,0,rfl,rfl⟩⟩
 .cases g;have I:m=j:=by simpa using F
  by_cases u:len=0
  .subst u;exact⟨0,.inl ⟨_,_,rfl,rfl⟩⟩
  .have d:∀i,i<len->∃b:Nat,b<256/\W.cell? (a.add i)=some (.int .u8 (b:Int)):=by
    intro i hi;obtain⟨y,A⟩:=K i (by omega);obtain⟨z,e,_,l⟩:=DataW.trod_int underlying5 A;have t:V i= .int .u8 z:=by simpa using e
    simp[Lit.wf]at l;have L:(0:Int)<=z:=l.1;have N:z<=255:=l.2;exact⟨z.toNat,by omega,by rw[y,t,SK L]⟩
   obtain⟨r,_,c⟩:=d 0 (by omega);obtain⟨b,o,s⟩:=a;have J:s=none:=by
    cases s with
    | none=>rfl
    | some q=>
     simp only[Addr.add,World.cell?]at c;split at c<;>simp at c
   subst J;refine⟨len,.inr ⟨b,o,j,rfl,by omega,by omega,?_,fun i hi=>?_⟩⟩
   .exact J1 W ⟨b,o,none⟩ (show W.cell? ⟨b,o,none⟩=some (.int .u8 (r:Int))from by simpa[Addr.add]using c)
   .obtain⟨k,C,g⟩:=d i hi;rw[Ye]at g;exact⟨k,C,g⟩
theorem Xen{a:Value}{d:DataW H}{p:List MemPlace}(j:a.cells=#[a])(g:DataW.Trod enc prog W 0 (fun _=>true) true 22 a d p): ∃m,ByV W a m:=by
 obtain⟨fuel,c⟩:=g;rw[j]at c;exact Xeo c
end
theorem Cb:prog.globalNamed "loop.example/kilnclay/impl.builtNames"=some 0:=by kernel_rfl
theorem Y2w:(prog.globals[0]?).map (·.type)=some 255:=by kernel_rfl
theorem Xbo:Rows.laid_loop_example_kilnclay_impl_builtNames=DataW.agg (H:=Unit) (Zc.map fun b=> .lit (.string b.data.toList)):=rfl
theorem X6r{W:World}(h:laidMetH prog [("loop.example/kilnclay/impl.builtNames",Rows.laid_loop_example_kilnclay_impl_builtNames)] W):U4 W:=by
 rw[MakeChecks.laidMetH_plain _ _ _ (by kernel_rfl)]at h;obtain⟨N,⟨K,P,l,J,M,q0,n,u,v,d,_,I⟩,_,t⟩:=h;obtain rfl:=YD (Cb.symm.trans n);obtain rfl:=YD (Y2w.symm.trans u);rw[Xbo]at d;obtain⟨B,m,_,E,L,F,c⟩:=DataW.trod_array underlying255 d;have k:Zc.map (fun b=>(DataW.lit (.string b.data.toList):DataW Unit))=B.map (·.1):=by
  have:=Zd Prod.fst E;injection this
 have a:∀j (h:j<Zc.length),W.cell? ⟨0,j,none⟩=some (.string Zc[j]):=by
  intro j q;have g:j<15:=q;have A:=c j g;rw[X2l,DI,YH (by omega)]at A;obtain⟨s,D,y,_⟩:=DataW.trod_string underlying9 A;have r:(Zc.map (fun b=>(DataW.lit (.string b.data.toList):DataW Unit)))[j]?=(B.map (·.1))[j]?:=by rw[k]
  rw[Vf,Vf,YH q,YH (by omega),y]at r;have C:Zc[j]'q=s:=by
   simp only[Vi,ZP,DataW.lit.injEq,Lit.string.injEq]at r;exact Wx (Ww.1 r)
  rw[World.var?_cell Cb v j,C];have z:((l.toList.drop j).take 1)[0]?=some (.string s):=by rw[D];rfl
  rw[OY,X3 (by omega),Lr,WA]at z;simpa using z
 exact⟨J1 W ⟨0,0,none⟩ (a 0 (by decide)),a⟩
