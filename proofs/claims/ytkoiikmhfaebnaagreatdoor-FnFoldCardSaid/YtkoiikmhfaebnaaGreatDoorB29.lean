import Derived.Test.YtkoiikmhfaebnaaGreatDoorB28
import Derived.Test.YtkoiikmhfaebnaaGreatDoorB21
set_option maxHeartbeats 1000000
set_option maxRecDepth 100000
namespace Go.Proofs.YtkoiikmhfaebnaaGreatDoor.Vl
open Tryz Go.RowKit T.atoms T.ok T.high T.Y0 T.Ko Xs T.ord
theorem PO(n d:Nat)(l:0<n)(w:World)(j:d<w.heap.size)(a:w.cell? ⟨d,0,none⟩=some (.int .i64 2)):Calls prog 43 #[.slice (some ⟨d,0,none⟩) n n] w fun e w'=>e= .returned (Xt 2 100 w.heap.size)/\w'.cell? ⟨w.heap.size,0,none⟩=some (.slice (some ⟨d,0,none⟩) n n)/\Below w.heap.size w w'/\w.heap.size<w'.heap.size:=by
 have k:=Qy prog;have g:BL w ((w.alloc (.cells #[.slice (some ⟨d,0,none⟩) n n] 171)).alloc (.cells #[.int .i64 0,.nilFunc] 71)):=(bA _).alloc (by simp) _;have c:=(g.cell (p:=⟨d,0,none⟩) j).trans a;go_enter func43,ntmps43;go_wp2;refine X7 (v:=Xt 2 100 w.heap.size) (by simp[results,results43,go_sem,Xt]) rfl ⟨rfl,?_,?_,by simp;omega⟩
 .exact(((X5 (w.heap.size+1) (w.alloc (.cells #[.slice (some ⟨d,0,none⟩) n n] 171))).alloc (by simp) _).cell (p:=⟨w.heap.size,0,none⟩) (XI _)).trans (by simp)
 .exact(bA _).alloc (by simp) _
theorem Bk{lo hi:Nat}{w:World}(a:List (Nat × Nat))(j:List (T->T->Out))(X:j.length=a.length)(D:a.length<=100)(d b:Nat)(k:lo<=d)(g:d<hi)(q:lo<=b)(r:b<hi)(Y:hi<=w.heap.size)(s:w.cell? ⟨b,0,none⟩=some (.slice (some ⟨d,0,none⟩) a.length a.length))(z:∀i (h:i<a.length),w.cell? ⟨d,i*2,none⟩=some (.int .i64 2)/\w.cell? ⟨d,i*2+1,none⟩=some (.func (.func (a[i]).1) #[] #[.pointer (some ⟨(a[i]).2,0,none⟩)]))(F:∀i (h:i<a.length) (E:i<j.length),ZH lo hi w (a[i]).1 (a[i]).2 j[i]):ZH lo hi w 100 b (fun t u=>KY (j.map fun R=>R t u)):=by
 refine⟨Y,YZ func100 (by kernel_rfl) (by kernel_rfl),fun W l Q t u V A S v B C m K x y Z xb n L M N P=>?_⟩;refine X4o a (j.map fun R=>R t u) (by simpa using X) D d b m W (Xd g l.1) ((l.cell b 0 q r).trans s) (fun i h=>?_) (fun i h=>(F i h (by omega)).en) (fun i h ho H c=>?_)
 .obtain⟨I,J⟩:=z i h;exact⟨(l.cell d (i*2) k g).trans I,(l.cell d (i*2+1) k g).trans J⟩
 .have E:i<j.length:=by omega
  have:=(F i h E).It H (l.below c) (Q.below c) t u V A S v B C m K x y Z xb (Xd n c.size) ((c.cell (p:=⟨m,0,none⟩) n).trans L) ((c.cell (p:=⟨m,1,none⟩) n).trans M) (N.Z4 (YB.below c)) (P.Z4 (YB.below c));simpa using this
def alike(hb:Int->Bool)(t u:T):Out:=KY ([Wb hb,WT hb,DX hb,tyR].map fun R=>R t u)
theorem Iv(W:World)(l:List Value)(t:TypeId):∀j v,l[j]?=some v->(W.alloc (.cells l.toArray t)).cell? ⟨W.heap.size,j,none⟩=some v:=by
 intro j v h;rw[World.cell?,heap_alloc_new];simpa using h
def Hd(hb:Int->Bool)(w:World)(e:Ending)(w':World):Prop:=∃b,e= .returned (Xt 2 100 b)/\ZH w.heap.size w'.heap.size w' 100 b (alike hb)/\Below w.heap.size w w'
theorem YQ.set{lo hi:Nat}{w W:World}(h:YQ lo hi w W)(p:Addr)(c:p.block<lo)(v:Value):YQ lo hi w (W.setCell p v):=⟨by simpa using h.1,fun q a b=>(Y4 _ _ _ _ (by omega)).trans (h.2 q a b)⟩
theorem LO(h:FuncId)(n:Int->Bool)(w:World)(s:∀r w,(callFunc h r).run prog w= .ok (.enter h r) w)(N:U5 h n):Calls prog 38 #[.func (.func h) #[] #[]] w (Hd n w):=by
 have a3:=Qy prog;have hq:BL w (w.alloc (.cells #[.int .i64 0,.nilFunc] 71)):=bA _;have D0:=X1 (Wv w (.int .i64 0) .nilFunc 71);have FZ:=X1 (G6 w (.int .i64 0) .nilFunc 71);have HQ:=X1 hq;clear hq;go_enter func38,ntmps38;go_wp2_with fail;refine(X3a h _).mono ?_;rintro e w1⟨rfl,c0,c1,Q,z1⟩;have dB:=X1 (X3j s N c0 c1 z1);have B1:=HQ.o.trans (Q.mono (by simp));have C:=X1 Q;clear c0 c1 Q;unfold Xt;go_wp2_with fail;refine(X3b h _).mono ?_;rintro e t⟨rfl,c0,c1,S,z2⟩;have dI:=X1 (X3k s N c0 c1 z2);have B2:=B1.trans (S.mono B1.size);have P:=X1 S;clear c0 c1 S;unfold Xt;go_wp2_with fail;refine(X3d h _).mono ?_;rintro e u⟨rfl,c0,c1,V,z3⟩;have dT:=X1 (X3m s N c0 c1 z3);have B3:=B2.trans (V.mono B2.size);have D:=X1 V;clear c0 c1 V;unfold Xt;go_wp2_with fail;refine(X3c h _).mono ?_;rintro e k⟨rfl,c0,c1,W,z4⟩;have dL:=X1 (X3l z4);have K:=B3.trans (W.mono B3.size);have z:=X1 W;clear c0 c1 W;unfold Xt;have a4:=K.size;have A:k.heap.size<(k.alloc (.cells #[.int .i64 2,.func (.func 92) #[] #[.pointer (some ⟨w.heap.size+1+1+1,0,none⟩)],.int .i64 2,.func (.func 107) #[] #[.pointer (some ⟨w1.heap.size+1+1,0,none⟩)],.int .i64 2,.func (.func 101) #[] #[.pointer (some ⟨t.heap.size+1+1,0,none⟩)],.int .i64 2,.func (.func 110) #[] #[.pointer (some ⟨u.heap.size+1+1,0,none⟩)]] 71)).heap.size:=by simp
 have L:=X1 (Iv k [.int .i64 2,.func (.func 92) #[] #[.pointer (some ⟨w.heap.size+1+1+1,0,none⟩)],.int .i64 2,.func (.func 107) #[] #[.pointer (some ⟨w1.heap.size+1+1,0,none⟩)],.int .i64 2,.func (.func 101) #[] #[.pointer (some ⟨t.heap.size+1+1,0,none⟩)],.int .i64 2,.func (.func 110) #[] #[.pointer (some ⟨u.heap.size+1+1,0,none⟩)]] 71);go_wp2_with fail;refine(PO 4 k.heap.size (by omega) _ A (L.o 0 _ rfl)).mono ?_;rintro e w5⟨rfl,X,J,z5⟩;simp only[Xb]at X J z5;have g:BL k w5:=(bA _).trans (J.mono (UF _));have e8:∀j v,([.int .i64 2,.func (.func 92) #[] #[.pointer (some ⟨w.heap.size+1+1+1,0,none⟩)],.int .i64 2,.func (.func 107) #[] #[.pointer (some ⟨w1.heap.size+1+1,0,none⟩)],.int .i64 2,.func (.func 101) #[] #[.pointer (some ⟨t.heap.size+1+1,0,none⟩)],.int .i64 2,.func (.func 110) #[] #[.pointer (some ⟨u.heap.size+1+1,0,none⟩)]]:List Value)[j]?=some v->w5.cell? ⟨k.heap.size,j,none⟩=some v:=fun j v hj=>(J.cell (p:=⟨k.heap.size,j,none⟩) (XI _)).trans (L.o j v hj);have d:=X1 e8;have Z:=P.o.size;have a0:=D.o.size;have a1:=z.o.size;have a2:=g.size;simp only[Xb]at z1;have B5:=K.trans (g.mono K.size);have E:YQ (w.heap.size+1) (w.heap.size+1+1+1+1) w1 w5:=((((YQ.refl (by omega)).below P.o).below D.o).below z.o).below g;have F:YQ w1.heap.size (w1.heap.size+1+1+1) t w5:=(((YQ.refl (by omega)).below D.o).below z.o).below g;have H:YQ t.heap.size (t.heap.size+1+1+1) u w5:=((YQ.refl (by omega)).below z.o).below g;have I:YQ u.heap.size (u.heap.size+1+1+1) k w5:=(YQ.refl (by omega)).below g;have HS:=X1 (And.intro E (And.intro F (And.intro H I)));have c:w.heap.size<w1.heap.size:=by omega
 have q0:=(C.o.cell (p:=⟨w.heap.size,0,none⟩) (by simp)).trans (D0.o 0 _ rfl);have q1:=(C.o.cell (p:=⟨w.heap.size,1,none⟩) (by simp)).trans (D0.o 1 _ rfl);have p0:=(C.o.frozen (p:=⟨w.heap.size,0,none⟩) (by simp)).trans (FZ.o 0);have p1:=(C.o.frozen (p:=⟨w.heap.size,1,none⟩) (by simp)).trans (FZ.o 1);have m:BL w1 w5:=((P.o.trans (D.o.mono Z)).trans (z.o.mono (by omega))).trans (g.mono (by omega));have r0:=(m.cell (p:=⟨w.heap.size,0,none⟩) c).trans q0;have r1:=(m.cell (p:=⟨w.heap.size,1,none⟩) c).trans q1;have f0:=(m.frozen (p:=⟨w.heap.size,0,none⟩) c).trans p0;have f1:=(m.frozen (p:=⟨w.heap.size,1,none⟩) c).trans p1;have M:=X1 X;clear X J e8 E F H I q0 q1 p0 p1 m L A;unfold Xt;go_wp2;obtain⟨t0,t1⟩:=Gy (x:= .int .i64 2) (y:= .func (.func 100) #[] #[.pointer (some ⟨k.heap.size+1,0,none⟩)]) r0 r1;have hk:∀b,b≠w.heap.size->((w5.setCell ⟨w.heap.size,0,none⟩ (.int .i64 2)).setCell ⟨w.heap.size,1,none⟩ (.func (.func 100) #[] #[.pointer (some ⟨k.heap.size+1,0,none⟩)])).heap[b]?=w5.heap[b]?:=fun b n=>(Y4 _ _ _ _ n).trans (Y4 _ _ _ _ n);obtain⟨E,F,H,I⟩:=HS.o;have l:((w5.setCell ⟨w.heap.size,0,none⟩ (.int .i64 2)).setCell ⟨w.heap.size,1,none⟩ (.func (.func 100) #[] #[.pointer (some ⟨k.heap.size+1,0,none⟩)])).heap.size=w5.heap.size:=by simp
 refine X7 (v:=Xt 2 100 (k.heap.size+1)) (by simp[results,results38,go_sem,Xt,t0,t1]) rfl ⟨_,rfl,?_,(B5.setCell (p:=⟨w.heap.size,0,none⟩) (X4 _) _).setCell (p:=⟨w.heap.size,1,none⟩) (X4 _) _⟩;have q:∀b o,b≠w.heap.size->((w5.setCell ⟨w.heap.size,0,none⟩ (.int .i64 2)).setCell ⟨w.heap.size,1,none⟩ (.func (.func 100) #[] #[.pointer (some ⟨k.heap.size+1,0,none⟩)])).cell? ⟨b,o,none⟩=w5.cell? ⟨b,o,none⟩:=fun b o n=>Xy (a:=⟨b,o,none⟩) (hk b n);rw[l];refine Bk [(92,w.heap.size+1+1+1),(107,w1.heap.size+1+1),(101,t.heap.size+1+1),(110,u.heap.size+1+1)] [Wb n,WT n,DX n,tyR] rfl (by simp) k.heap.size (k.heap.size+1) (by omega) (by omega) (by omega) z5 (by rw[l];omega) ((q _ _ (by omega)).trans M.o) ?_ ?_
 .intro i hi
  match i,hi with
  | 0,_=>exact⟨(q _ _ (by omega)).trans (d.o 0 _ rfl),(q _ _ (by omega)).trans (d.o 1 _ rfl)⟩
  | 1,_=>exact⟨(q _ _ (by omega)).trans (d.o 2 _ rfl),(q _ _ (by omega)).trans (d.o 3 _ rfl)⟩
  | 2,_=>exact⟨(q _ _ (by omega)).trans (d.o 4 _ rfl),(q _ _ (by omega)).trans (d.o 5 _ rfl)⟩
  | 3,_=>exact⟨(q _ _ (by omega)).trans (d.o 6 _ rfl),(q _ _ (by omega)).trans (d.o 7 _ rfl)⟩
 .have B:=dB.o;simp only[Xb]at B;intro i hi Y
  match i,hi,Y with
  | 0,_,_=>exact(B.same ((E.set ⟨w.heap.size,0,none⟩ (XI _) _).set ⟨w.heap.size,1,none⟩ (XI _) _)).wide (by omega) (by omega) (by rw[l];omega)
  | 1,_,_=>exact(dI.o.same ((F.set ⟨w.heap.size,0,none⟩ c _).set ⟨w.heap.size,1,none⟩ c _)).wide (by omega) (by omega) (by rw[l];omega)
  | 2,_,_=>exact(dT.o.same ((H.set ⟨w.heap.size,0,none⟩ (by show w.heap.size<_;omega) _).set ⟨w.heap.size,1,none⟩ (by show w.heap.size<_;omega) _)).wide (by omega) (by omega) (by rw[l];omega)
  | 3,_,_=>exact(dL.o.same ((I.set ⟨w.heap.size,0,none⟩ (by show w.heap.size<_;omega) _).set ⟨w.heap.size,1,none⟩ (by show w.heap.size<_;omega) _)).wide (by omega) (by omega) (by rw[l];omega)
end Go.Proofs.YtkoiikmhfaebnaaGreatDoor.Vl
namespace Go.Proofs.YtkoiikmhfaebnaaGreatDoor.Vl
open Tryz Go.RowKit T.atoms T.ok T.high T.Y0 T.Ko Xs T.ord
theorem Xcu(s:ByteArray)(w:World):Calls prog 109 #[.string s] w fun e w'=>e= .returned (.tuple #[.iface 81 (.string s),.bool (decide ((s.size:Int)<=1000))])/\w'=w:=by
 go_enter func109,ntmps109;go_wp2;go_ret2;exact⟨rfl,rfl⟩
theorem X3h{w:World}{x:Nat}(t:T)(a:t.kind=4):Xs w x t (.iface 81 (.string t.text)):=by
 cases t with
 | mk k n s ks=>exact(by unfold Xs;exact .inr (.inr (.inr (.inl ⟨a,rfl⟩))))
theorem Ij{w:World}{x:Nat}{t:T}{b:Bool}(h:Xs w x t (.iface 73 (.bool b))):b=(t.num==1):=by
 cases t with
 | mk k n s ks=>
  rw[Xs]at h;rcases h with⟨_,e⟩|⟨_,e⟩|⟨_,e⟩|⟨_,e⟩|⟨_,p,c,a,e,_⟩|⟨_,p,c,m,a,_,e,_⟩<;>first|(cases e;rfl)|cases e
theorem Ui{w:World}{x:Nat}{t:T}{n:Int}(h:Xs w x t (.iface 96 (.int .i64 n))):n=t.num:=by
 cases t with
 | mk k n s ks=>
  rw[Xs]at h;rcases h with⟨_,e⟩|⟨_,e⟩|⟨_,e⟩|⟨_,e⟩|⟨_,p,c,a,e,_⟩|⟨_,p,c,m,a,_,e,_⟩<;>first|(cases e;rfl)|cases e
theorem Oj{w:World}{x:Nat}{t:T}{s:ByteArray}(h:Xs w x t (.iface 81 (.string s))):s=t.text:=by
 cases t with
 | mk k n s ks=>
  rw[Xs]at h;rcases h with⟨_,e⟩|⟨_,e⟩|⟨_,e⟩|⟨_,e⟩|⟨_,p,c,a,e,_⟩|⟨_,p,c,m,a,_,e,_⟩<;>first|(cases e;rfl)|cases e
theorem Xet(a b:Bool)(w:World):Calls prog 33 #[.bool a,.bool b] w (YF fun dv s w'=>dv= .iface 73 (.bool (a||b))/\s=⟨#[]⟩/\Below w.heap.size w w'):=by
 cases a;all_goals
  go_enter func33,ntmps33;go_wp2;go_ret2;exact⟨_,_,rfl,rfl,rfl,X5 _ _⟩
theorem X0i(a b:Bool)(w:World):Calls prog 34 #[.bool a,.bool b] w (YF fun dv s w'=>dv= .iface 73 (.bool (a&&b))/\s=⟨#[]⟩/\Below w.heap.size w w'):=by
 cases a;all_goals
  go_enter func34,ntmps34;go_wp2;go_ret2;exact⟨_,_,rfl,rfl,rfl,X5 _ _⟩
def orR(t u:T):Out:= .inr (YT ((t.num==1)||(u.num==1)))
def AF(t u:T):Out:= .inr (YT ((t.num==1)&&(u.num==1)))
theorem Xbd:OP 33 orR:=fun W t u x y a b _ _ _ _ _ _ _ g j=>by
 have c:=Ij g
 have d:=Ij j
 subst c d
 exact(Xet _ _ W).mono Wu
theorem Xaz:OP 34 AF:=fun W t u x y a b _ _ _ _ _ _ _ g j=>by
 have c:=Ij g
 have d:=Ij j
 subst c d
 exact(X0i _ _ W).mono Wu
theorem X7o:U5 36 (fun n=>decide (n=0)):=fun n w=>by
 by_cases h:n=0
 all_goals
  have a:=h
  go_enter func36,ntmps36
  go_wp2
  go_ret
  exact⟨Xf (by simp[h]),rfl⟩
theorem X7p:U5 37 (fun n=>decide (n≠0)):=fun n w=>by
 by_cases h:n=0
 all_goals
  have a:=h
  go_enter func37,ntmps37
  go_wp2
  go_ret
  exact⟨Xf (by simp[h]),rfl⟩
theorem X7q:U5 39 (fun n=>decide (n<0)):=fun n w=>by
 by_cases h:n<0
 all_goals
  have a:=h
  go_enter func39,ntmps39
  go_wp2
  go_ret
  exact⟨Xf (by simp[h]),rfl⟩
theorem X7r:U5 40 (fun n=>decide (n<=0)):=fun n w=>by
 by_cases h:n<=0
 all_goals
  have a:=h
  go_enter func40,ntmps40
  go_wp2
  go_ret
  exact⟨Xf (by simp[h]),rfl⟩
theorem X7s:U5 41 (fun n=>decide (0<n)):=fun n w=>by
 by_cases h:0<n
 all_goals
  have a:=h
  go_enter func41,ntmps41
  go_wp2
  go_ret
  exact⟨Xf (by simp[h]),rfl⟩
theorem X7t:U5 42 (fun n=>decide (0<=n)):=fun n w=>by
 by_cases h:0<=n
 all_goals
  have a:=h
  go_enter func42,ntmps42
  go_wp2
  go_ret
  exact⟨Xf (by simp[h]),rfl⟩
def QF(z:Int):T:= .mk 3 z ⟨#[]⟩ []
theorem X8x(z:Int):(QF z).Y0=true:=by
 rw[T.UW];simp[QF,plain,T.kind,T.num,T.text,T.ks,highL,goodL];rfl
theorem X8v(z:Int):(QF z).count=1:=by simp[QF,T.count,T.atoms,atomsL]
theorem X8w(w:World)(x:Nat)(z:Int):Xs w x (QF z) (.iface 96 (.int .i64 z)):=by
 unfold QF Xs;exact .inr (.inr (.inl ⟨rfl,rfl⟩))
def Qw(r:Option Int)(l:List UInt8):Out:=match r with
 | some z=> .inr (QF z)
 | none=> .inl l
theorem VK{W:World}{r:Option Int}{l:List UInt8}(e:Ending)(w':World)(h:e= .returned (Qf r l)/\w'=W):YF (DoK W (Qw r l)) e w':=by
 obtain⟨rfl,rfl⟩:=h;cases r with
 | some z=>exact⟨_,_,rfl,X5 _ _,rfl,X8x z,by rw[X8v];omega,0,X8w _ _ _⟩
 | none=>exact⟨_,_,rfl,X5 _ _,rfl,rfl⟩
def Ig(t u:T):Out:=Qw (XL (t.num+u.num)) [114,97,110,103,101]
def F9(t u:T):Out:=Qw (XL (t.num-u.num)) [114,97,110,103,101]
def mulR(t u:T):Out:=Qw (XL (t.num*u.num)) [114,97,110,103,101]
def RX(t u:T):Out:=if u.num=0 then .inl [100,105,118,105,100,101]else if t.num= -9223372036854775808/\u.num= -1 then .inl [114,97,110,103,101]else .inr (QF (Jw t.num u.num))
def RZ(t u:T):Out:=if u.num=0 then .inl [100,105,118,105,100,101]else .inr (QF (Jx t.num u.num))
theorem Xay:Dx 51 Ig:=fun W t u x y a b _ _ _ _ _ hi c j k=>by
 have d:=Ui j
 have g:=Ui k
 subst d g
 exact(X0a _ _ W hi c).mono VK
theorem Xbh:Dx 57 F9:=fun W t u x y a b _ _ _ _ _ hi c j k=>by
 have d:=Ui j
 have g:=Ui k
 subst d g
 exact(Y2v _ _ W hi c).mono VK
theorem Xbc:Dx 58 mulR:=fun W t u x y a b _ _ _ _ _ hi c j k=>by
 have d:=Ui j
 have g:=Ui k
 subst d g
 exact(Xcf _ _ W hi c).mono VK
theorem Xbf:Dx 59 RX:=fun W t u x y a b _ _ _ _ _ hi c m n=>by
 have j:=Ui m
 have k:=Ui n
 subst j k
 refine(Y1a _ _ W hi c).mono ?_
 intro e w' h
 unfold RX
 by_cases d:u.num=0
 .rw[X3 d]at h⊢;exact VK (r:=none) e w' h
 .rw[X2 d]at h⊢
  by_cases g:t.num= -9223372036854775808/\u.num= -1
  .rw[X3 g]at h⊢;exact VK (r:=none) e w' h
  .rw[X2 g]at h⊢;exact VK (r:=some _) (l:=[]) e w' h
theorem Xbg:Dx 60 RZ:=fun W t u x y a b _ _ _ _ _ _ c k m=>by
 have g:=Ui k
 have j:=Ui m
 subst g j
 refine(Y1h _ _ W c).mono ?_
 intro e w' h
 unfold RZ
 by_cases d:u.num=0
 .rw[X3 d]at h⊢;exact VK (r:=none) e w' h
 .rw[X2 d]at h⊢;exact VK (r:=some _) (l:=[]) e w' h
theorem Y5g(y:TypeId)(v:Value)(w:World):Calls prog 108 #[.iface y v,.bool true] w fun e w'=>e= .returned (.tuple #[.iface y v,.string ⟨#[]⟩])/\w'=w:=by
 go_enter func108,ntmps108;go_wp2;go_ret2;exact⟨rfl,rfl⟩
theorem Y5f(v:Value)(w:World):Calls prog 108 #[v,.bool false] w fun e w'=>e= .returned (.tuple #[.nilIface,.string ⟨#[108,97,114,103,101]⟩])/\w'=w:=by
 go_enter func108,ntmps108;go_wp2;go_ret2;exact⟨rfl,rfl⟩
def lgW:List UInt8:=[108,97,114,103,101]
def W7(t u:T):T:= .mk 4 0 (t.text++u.text) []
def Ik(t u:T):Out:=if(t.text++u.text).size<=1000 then .inr (W7 t u)else .inl lgW
theorem Y3t{s:ByteArray}(h:s.size<=1000):(T.mk 4 0 s []).Y0=true:=by
 rw[T.UW];simp[plain,T.kind,T.num,T.text,T.ks,highL,goodL,h]
theorem X2e{t u:T}(h:(t.text++u.text).size<=1000):(W7 t u).Y0=true:=Y3t h
theorem X2d(t u:T):(W7 t u).count=1:=by simp[W7,T.count,T.atoms,atomsL]
theorem Sn{t:T}(c:t.kind=4)(a:t.Y0=true):t.text.size<=1000:=by
 cases t with
 | mk k n s ks=>
  obtain rfl:k=4:=c;rw[T.UW]at a;simp only[XD]at a;have h:=a.1.1;unfold plain at h;simp only[XD,T.kind,T.num,T.text,T.ks]at h;have h:=h.2;simp at h;exact QR h
theorem Xba:OR 52 Ik:=fun W t u x y a b _ l d _ _ _ _ j k=>by
 have C:=Oj j
 have D:=Oj k
 subst C D;have n:t.kind=4:=by
  apply Dv;intro h;obtain⟨J,H,e,m⟩:=(Ug j).2 h;cases e;exact m rfl
 have q:u.kind=4:=by
  apply Dv;intro h;obtain⟨J,H,e,m⟩:=(Ug k).2 h;cases e;exact m rfl
 have s:=Sn n l;have v:=Sn q d;have c:(t.text++u.text).size=t.text.size+u.text.size:=JA;have r:¬9223372036854775807<t.text.size+u.text.size:=by omega
 have g:=X1 (fun w=>Xcu (t.text++u.text) w);unfold Ik;by_cases h:(t.text++u.text).size<=1000
 .rw[X3 h];rw[YJ (show(((t.text++u.text).size:Nat):Int)<=1000 by omega)]at g;have B:=X1 (X2e h);have A:=X1 (show ∀w,Xs w 0 (W7 t u) (.iface 81 (.string (t.text++u.text)))from fun w=>X3h (W7 t u) rfl);have z:=X1 (X2d t u);generalize W7 t u=K at *;clear h c s v n q j k l d;generalize t.text=E at *;generalize u.text=F at *;go_enter func52,ntmps52;go_wp2_with fail;refine(g.o _).mono ?_;rintro e w1⟨rfl,rfl⟩;go_wp2_with fail;refine(Y5g _ _ _).mono ?_;rintro e I⟨rfl,rfl⟩;go_wp2;go_ret2;exact⟨_,_,rfl,X5 _ _,rfl,B.o,by rw[z.o];omega,0,A.o _⟩
 .rw[X2 h];rw[Yb (show ¬(((t.text++u.text).size:Nat):Int)<=1000 by omega)]at g;clear h c s v n q j k l d;generalize t.text=E at *;generalize u.text=F at *;go_enter func52,ntmps52;go_wp2_with fail;refine(g.o _).mono ?_;rintro e w1⟨rfl,rfl⟩;go_wp2_with fail;refine(Y5f _ _).mono ?_;rintro e I⟨rfl,rfl⟩;go_wp2;go_ret2;exact⟨_,_,rfl,X5 _ _,rfl,rfl⟩
def DY(t u:T):Out:= .inr (YT (Lib.contains t.text.data.toList u.text.data.toList))
theorem Y3u{w:World}{x:Nat}{t:T}{s:ByteArray}(h:Xs w x t (.iface 81 (.string s))):t.kind=4:=by
 apply Dv;intro a;obtain⟨g,d,e,c⟩:=(Ug h).2 a;cases e;exact c rfl
theorem X3e(s sub:ByteArray)(w:World)(d:s.size<4294967281)(a:GI w): Calls prog 102 #[.string s,.string sub] w fun e w'=>e= .returned (.bool (Lib.contains s.data.toList sub.data.toList))/\w'=w:=by
 obtain⟨m,c⟩:=a;exact Any.strings_Contains Xav s sub m w d c
theorem Xbb:OR 45 DY:=fun W t u x y a b n g _ _ _ _ _ c d=>by
 have j:=Y3u c
 have l:=Oj c
 have m:=Oj d
 subst l m
 have r:=Sn j g
 have k:=X1 (X3e t.text u.text W (by omega) n)
 unfold DY
 generalize Lib.contains t.text.data.toList u.text.data.toList=q at *
 clear j c d g
 refine Calls.mono ?_ Wu
 go_enter func45,ntmps45
 go_wp2_with fail
 refine k.o.mono ?_
 rintro e w1⟨rfl,rfl⟩
 go_wp2
 go_ret2
 exact⟨_,_,rfl,rfl,rfl,X5 _ _⟩
end Go.Proofs.YtkoiikmhfaebnaaGreatDoor.Vl
