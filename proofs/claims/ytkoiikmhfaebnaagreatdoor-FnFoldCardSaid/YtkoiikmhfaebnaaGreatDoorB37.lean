import Derived.Test.YtkoiikmhfaebnaaGreatDoorB31
import Derived.Deep.CutBlock
set_option maxHeartbeats 4000000
set_option maxRecDepth 100000
namespace Go.Proofs.YtkoiikmhfaebnaaGreatDoor
open Tryz Go.RowKit
theorem LnB.Xct{d w:World}{x:Nd}{p b:Int}{c:Nat}(g:BL d w)(a:c=w.heap.size):LnB d x p b c [] (.slice none 0 0) [] (w.alloc (lnO x (.slice none 0 0) p b)).drew:=by
 subst a;exact(LnB.new g).below (X5 _ _).drew
structure TkB (ns:List Nd) (ks:List (List Nat)) (B:List Int) (tg kg bg:Nat) (w:World):Prop where
 nodes:Yw w tg ns
 kids:JB ks kg w
 len:ks.length=ns.length
 blt:bg<w.heap.size
 binds:∀i,i<ns.length->w.cell? ⟨bg,i,none⟩=some (.int .i64 (Tr.bOf B i))
theorem TkB.below{ns:List Nd}{ks:List (List Nat)}{B:List Int}{d c bg:Nat}{w w':World}(h:TkB ns ks B d c bg w)(a:BL w w'):TkB ns ks B d c bg w':=⟨h.nodes.below a,h.kids.below a,h.len,Xd h.blt a.size,fun i hi=>(a.cell (p:=⟨bg,i,none⟩) h.blt).trans (h.binds i hi)⟩
theorem Y3i(ns:List Nd)(ks:List (List Nat))(B:List Int)(u A Z kc bg bc:Nat)(s:∀k,∀x∈X9 ks k,x<k)(a8:∀k,(X9 ks k).length<=1000000):∀(f k:Nat) (w:World),k<f->k<ns.length->TkB ns ks B u Z bg w->Calls prog 19 #[.agg #[.slice (some ⟨u,0,none⟩) ns.length A],.slice (some ⟨Z,0,none⟩) ns.length kc,.slice (some ⟨bg,0,none⟩) ns.length bc,.int .i64 (k:Int)] w fun e w'=>Lp w (Fd.take ns ks B f k) e w':=by
 intro f;induction f with
 | zero=>intro k w h;omega
 | succ f ih=>
  intro k w b6 n Y;rw[Fd.take_succ];obtain⟨iN,hN,a4,a3,a2⟩:=Yk Rh;have HT:=X1 Y;have M:k<ks.length:=by rw[Y.len];exact n
  have b0:BL w (w.alloc (.cells #[.slice (some ⟨u,0,none⟩) ns.length A] 25)):=bA _;have m:=X1 (Y.below b0);have J:=X1 b0;obtain⟨x,hx⟩:∃x,x=ns[k]:=⟨_,rfl⟩;have S:Tr.Q1 ns k=x:=by unfold Tr.Q1;rw[YH n,hx];rfl
  have b7:(k:Int)<(ns.length:Int):=by omega
  obtain⟨n0,n1,n2,n3,n4⟩:=m.o.nodes.2 k n;rw[←hx]at n0 n1 n2 n3 n4;have nb:=m.o.binds k n;have t0:(w.alloc (.cells #[.slice (some ⟨u,0,none⟩) ns.length A] 25)).cell? ⟨w.heap.size,0,none⟩=some (.slice (some ⟨u,0,none⟩) ns.length A):=by simp
  rw[S];clear Y b0 hx S;generalize Tr.bOf B k=b at nb;have N:∀x∈X9 ks k,x<k:=s k;have a9:=a8 k;obtain⟨d,j⟩:∃d,d=X9 ks k:=⟨_,rfl⟩;have a7:ks[k]=d:=by rw[j];unfold X9;rw[YH M];rfl
  rw[←j]at N a9;rw[←j];clear j;go_enter func19,ntmps19;go_upto_region 1 with fail;go_cut[9]from 11 to 22 (fun v9 wx=>∃L,v9=pt L/\LnB (w.alloc (.cells #[.slice (some ⟨u,0,none⟩) ns.length A] 25)) x k b L [] (.slice none 0 0) [] wx)
  case first=>
   go_region_law(fail);all_goals
    go_wp2_with fail;go_meet
    case rel=>exact⟨_,rfl,LnB.Xct (X5 _ _) (by simp)⟩
  case rest=>
   obtain⟨L,rfl,P⟩:=hcut;have a1:=X1 P;clear P n0 n1 n2 n3 n4 nb t0;generalize W:w.alloc (.cells #[.slice (some ⟨u,0,none⟩) ns.length A] 25)=w0 at *;have C:Hid (w.heap.size<w0.heap.size/\w0.cell? ⟨w.heap.size,0,none⟩=some (.slice (some ⟨u,0,none⟩) ns.length A)):=X1 (by rw[←W];exact⟨by simp,by simp⟩);clear W;obtain⟨kr,b8,H,I⟩:=m.o.kids.kids k M;rw[a7]at H I;have a0:=X1 H;have K:=X1 I;clear H I;go_wp2_with fail;go_loopw[10] (fun t wr=>∃(i:Nat) (sb:Value) (ab:List Nat),i<=d.length/\t= .int .i64 (i:Int)/\LnB w0 x k b L ((d.take i).map (Fd.take ns ks B f)) sb ab wr) (fun t _=>d.length-(intOf t).toNat)
   case atStart=>exact⟨0,_,_,X6 _,rfl,a1.o⟩
   case round=>
    obtain⟨i,sb,ab,hi,rfl,X⟩:=hrel;have l:=X1 X;have k5:=(X.B.cell (p:=⟨Z,k,none⟩) m.o.kids.klt).trans a0.o;have t5:=(X.B.cell (p:=⟨w.heap.size,0,none⟩) C.o.1).trans C.o.2;clear X;by_cases s:i<d.length
    .have b3:(i:Int)<(d.length:Int):=by omega
     have ke:=(l.o.B.cell (p:=⟨kr,0+i,none⟩) K.o.1).trans (K.o.2 i s);rw[Xn]at ke;have Q:d[i]∈d:=XR _;have b4:=N _ Q;have HK:=X1 (ih d[i] wr.drew (by omega) (by omega) ((m.o.below l.o.B).below (X5 _ _).drew));generalize a6:d[i]=cc at *;have b5:=l.o.ln.c5;obtain⟨b2,b1,V⟩:=YV l.o.row;have E:((d.take i).map (Fd.take ns ks B f)).length=i:=by rw[Z9,YM];omega
     rw[E]at V;subst V;go_wp2_with fail;go_region_law(first
      | (refine Z8 rfl 19 [.tmp 37,.tmp 38,.tmp 39,.tmp 46] _ rfl [.agg #[.slice (some ⟨u,0,none⟩) ns.length A],.slice (some ⟨Z,0,none⟩) ns.length kc,.slice (some ⟨bg,0,none⟩) ns.length bc,.int .i64 (cc:Int)] (by simp[Act.eval]) f19 func19 (by kernel_rfl) (by kernel_rfl) (fun r w5=>∃v,r=pt v/\Fd.At (fun q=>wr.heap.size<=q/\q<w5.heap.size) w5 (Fd.take ns ks B f cc) v/\BL wr w5) (HK.o.mono (fun _ _ ⟨v,q1,q2,q3⟩=>⟨pt v,q1,v,rfl,q2,Ue q3⟩)) ?_;rintro r w5⟨v,rfl,y,c⟩;have q5:=(l.o.below c).ln.c5;have b9:=((l.o.below c).below (bA (.cells #[pt v] 52))).ln.c5)
      | (refine Ur rfl (.tmp 36) (.tmp 48) 112 rfl w0.heap.size 52 iN _ 1 8 underlying112 hN a4 a3 a2 rfl (by decide) (.slice b2 i b1) i (ab.map pt) (by simp[Act.eval]) (((E ▸ (l.o.below c).row)).alloc _) ⟨w5.heap.size,0,none⟩ 1 1 [pt v] (by simp[Act.eval]) rfl (MP _ _ _) (by simp[Value.oneCell']) (by unfold maxLen;omega) (by omega) (by have:=(l.o.below c).B.size;simp;omega) ?_;intro v6 w6 g a F z;obtain⟨p6,c6,rfl⟩:=YV g;have q6:=LnB.AT l.o c a;have c8:=LnB.Ca l.o c a))
     all_goals
       have hp:=l.o.push c y (E.symm ▸ g) a z;have e:(d.take (i+1)).map (Fd.take ns ks B f)=(d.take i).map (Fd.take ns ks B f)++[Fd.take ns ks B f cc]:=by rw[Kt s,ZO,a6];rfl
       rw[←e]at hp;have HP:=X1 hp;clear hp a g z F y c;go_wp2;go_roundw
       case rel=>exact⟨i+1,_,_,by omega,by go_num,HP.o⟩
       case measure=>simp[intOf];omega
    .obtain rfl:i=d.length:=by omega
     have D:=l.o;rw[JG]at D;have HF:=X1 D;clear D;go_wp2;go_ret;exact⟨L,rfl,HF.o.end_.go (fun q e=>⟨by have:=C.o.1;omega,e.2⟩) (fun _ _=>rfl),J.o.trans (HF.o.B.mono J.o.size)⟩
structure RC (x:Nd):Prop where
 c:Fd.isC x
 op:x.op=0
 kids:x.kids=0
 zero:x.kind≠2->x.kind≠3->x.n=0
 text:x.kind≠4->x.text=⟨#[]⟩
def VR(w:World)(v:Value):Option Nd->Prop
 | some c=>VAt w v c/\RC c
 | none=>∃p m c,v= .agg #[.slice p m c]/\m≠1
def Fd.okC:Option Nd->Option Nd
 | some c=>if c.kind=3/\c.n<0 then none else some c
 | none=>none
theorem Fd.JV(c:Nd):Fd.okC (some c)=if c.kind=3/\c.n<0 then none else some c:=rfl
def He(w:World)(r:Option Nd)(e:Ending)(w':World):Prop:=Below w.heap.size w w'/\match Fd.okC r with
 | some c=>∃a,e= .returned (.tuple #[pt a,.bool true])/\Fd.At (fun q=>w.heap.size<=q/\q<w'.heap.size) w' (Fd.one c) a
 | none=>∃p,e= .returned (.tuple #[.pointer p,.bool false])
theorem MN{w a:World}(j:w.heap.size<=a.heap.size)(c:Nd){g:Nat}(d:g=a.heap.size):Fd.At (fun q=>w.heap.size<=q/\q<(a.alloc (lnO c (.slice none 0 0) (-1) (-1))).heap.size) (a.alloc (lnO c (.slice none 0 0) (-1) (-1))) (Fd.one c) g:=by
 subst d;exact((LnB.new (X5 _ _)).end_).go (fun q e=>⟨by have:=e.1;omega,e.2⟩) (fun _ _=>rfl)
theorem Xed{w a:World}(j:w.heap.size<=a.heap.size)(c:Nd){g:Nat}(d:g=a.heap.size):Fd.At (fun q=>w.heap.size<=q/\q<(a.alloc (lnO c (.slice none 0 0) (-1) (-1))).drew.heap.size) (a.alloc (lnO c (.slice none 0 0) (-1) (-1))).drew (Fd.one c) g:=(MN j c d).go (fun _ e=>e) (fun _ _=>rfl)
theorem LU(w:World)(o o2 o3:Obj):Below w.heap.size w (((w.alloc o).alloc o2).alloc o3):=((bA o).alloc (by simp) o2).alloc (by simp;omega) o3
theorem AJ(v:Value)(r:Option Nd)(w:World)(h:VR w v r):Calls prog 69 #[v] w fun e w'=>He w r e w':=by
 cases r with
 | none=>
  obtain⟨p,m,c,rfl,S⟩:=h;have V:((m:Int)!=1)=true:=by simpa using(by omega:(m:Int)≠1)
  have W:(m==1)=false:=by simpa using S
  go_enter func69,ntmps69;go_wp2;refine X7 (v:= .tuple #[.pointer none,.bool false]) (by simp[results,results69,go_sem]) rfl ?_;exact⟨bA _,_,rfl⟩
 | some x=>
  obtain⟨⟨g,c,rfl,k,I,J,K,L⟩,A⟩:=h;have q:BL w (w.alloc (.cells #[.slice (some ⟨g,0,none⟩) 1 c] 118)):=bA _;have Y:=(q.cell (p:=⟨g,0,none⟩) k).trans I;have Z:=(q.cell (p:=⟨g,1,none⟩) k).trans J;have k2:=(q.cell (p:=⟨g,2,none⟩) k).trans K;have k3:=(q.cell (p:=⟨g,3,none⟩) k).trans L;have t:BL w ((w.alloc (.cells #[.slice (some ⟨g,0,none⟩) 1 c] 118)).alloc (.cells #[.int .i64 x.kind,.int .i64 x.n,.string x.text,.int .i64 0] 220)):=q.alloc (by simp) _;have P:=X1 t;have d:=X1 A;have Q:=A.c;clear k I J K L q t A;have B:x.kind=1\/x.kind=2\/x.kind=3\/x.kind=4:=by unfold Fd.isC at Q;omega
  have j:Hid (x=Fd.cn x.kind x.n x.text):=X1 (by
   have s:=d.o.op;have k:=d.o.kids;obtain⟨xk,xo,xn,xt,xd⟩:=x;simp only at s k;subst s k;rfl)
  rcases B with E|F|y|H
  .have D:(x.kind==1)=true:=by simpa using E
   have C:=d.o.zero (by omega) (by omega);have u:=d.o.text (by omega);have a:Fd.okC (some x)=some (Fd.cn 1 0 ⟨#[]⟩):=by rw[Fd.JV,X2 (by omega),j.o,E,C,u]
   go_enter func69,ntmps69;go_wp2;refine X7 (v:= .tuple #[pt (w.heap.size+1+1),.bool true]) (by simp[results,results69,go_sem]) rfl ?_;refine⟨LU _ _ _ _,?_⟩;rw[a];refine⟨_,rfl,MN ?_ (Fd.cn 1 0 ⟨#[]⟩) ?_⟩
   .rw[Xb,Xb];omega
   .rw[Xb,Xb]
  .have D:(x.kind==1)=false:=by simpa using(by omega:x.kind≠1)
   have M:(x.kind==2)=true:=by simpa using F
   have u:=d.o.text (by omega);have a:Fd.okC (some x)=some (Fd.cn 2 x.n ⟨#[]⟩):=by
    have z:Fd.okC (some x)=some x:=by rw[Fd.JV,X2 (by omega)]
    have s:x=Fd.cn 2 x.n ⟨#[]⟩:=by rw[←F,←u];exact j.o
    rw[z,←s]
   go_enter func69,ntmps69;go_wp2;refine X7 (v:= .tuple #[pt (w.heap.size+1+1),.bool true]) (by simp[results,results69,go_sem]) rfl ?_;refine⟨LU _ _ _ _,?_⟩;rw[a];refine⟨_,rfl,MN ?_ (Fd.cn 2 x.n ⟨#[]⟩) ?_⟩
   .rw[Xb,Xb];omega
   .rw[Xb,Xb]
  .have D:(x.kind==1)=false:=by simpa using(by omega:x.kind≠1)
   have M:(x.kind==2)=false:=by simpa using(by omega:x.kind≠2)
   have X:(x.kind==3)=true:=by simpa using y
   have u:=d.o.text (by omega);have N:Hid (x=Fd.cn 3 x.n ⟨#[]⟩):=X1 (by rw[←y,←u];exact j.o);go_enter func69,ntmps69;go_wp2_with fail;go_region_law(fail);all_goals
    go_wp2;refine X7 (v:= .tuple #[pt (w.heap.size+1+1),.bool (decide (0<=x.n))]) (by simp[results,results69,go_sem]) rfl ?_;refine⟨(LU _ _ _ _).drew,?_⟩;by_cases l:x.n<0
    .have a:Fd.okC (some x)=none:=by rw[Fd.JV,X3 ⟨y,l⟩]
     rw[a];exact⟨_,by rw[Yb (by omega)]⟩
    .have a:Fd.okC (some x)=some (Fd.cn 3 x.n ⟨#[]⟩):=by rw[Fd.JV,X2 (fun h=>l h.2),←N.o]
     rw[a];refine⟨w.heap.size+1+1,by rw[YJ (by omega)],?_⟩;refine Xed ?_ (Fd.cn 3 x.n ⟨#[]⟩) ?_
     .rw[Xb,Xb];omega
     .rw[Xb,Xb]
  .have D:(x.kind==1)=false:=by simpa using(by omega:x.kind≠1)
   have M:(x.kind==2)=false:=by simpa using(by omega:x.kind≠2)
   have X:(x.kind==3)=false:=by simpa using(by omega:x.kind≠3)
   have t4:(x.kind==4)=true:=by simpa using H
   have C:=d.o.zero (by omega) (by omega);have a:Fd.okC (some x)=some (Fd.cn 4 0 x.text):=by
    have z:Fd.okC (some x)=some x:=by rw[Fd.JV,X2 (by omega)]
    have s:x=Fd.cn 4 0 x.text:=by rw[←H,←C];exact j.o
    rw[z,←s]
   go_enter func69,ntmps69;go_wp2;refine X7 (v:= .tuple #[pt (w.heap.size+1+1),.bool true]) (by simp[results,results69,go_sem]) rfl ?_;refine⟨LU _ _ _ _,?_⟩;rw[a];refine⟨_,rfl,MN ?_ (Fd.cn 4 0 x.text) ?_⟩
   .rw[Xb,Xb];omega
   .rw[Xb,Xb]
def VL(B:Nat->Prop)(w:World):List Value->List Nd->Prop
 | [],cs=>cs=[]
 | v::r,cs=>∃c s g cc,cs=c::s/\v= .slice (some ⟨g,0,none⟩) 1 cc/\B g/\VAt w (.agg #[v]) c/\VL B w r s
theorem VAt.of{w w':World}{g k:Nat}{c:Nd}(h:VAt w (.agg #[.slice (some ⟨g,0,none⟩) 1 k]) c)(u:w.heap.size<=w'.heap.size)(t:w'.heap[g]?=w.heap[g]?):VAt w' (.agg #[.slice (some ⟨g,0,none⟩) 1 k]) c:=by
 obtain⟨v,c',l,m,n,q,r,s⟩:=h;cases l;have d:∀j,w'.cell? ⟨g,j,none⟩=w.cell? ⟨g,j,none⟩:=fun j=>Xy (w:=w) (a:=⟨g,j,none⟩) t;exact⟨g,k,rfl,Xd m u,(d 0).trans n,(d 1).trans q,(d 2).trans r,(d 3).trans s⟩
theorem VL.go{B B':Nat->Prop}{w w':World}(a:∀q,B q->B' q)(d:w.heap.size<=w'.heap.size)(j:∀q,B q->w'.heap[q]?=w.heap[q]?):∀{xs:List Value} {cs:List Nd},VL B w xs cs->VL B' w' xs cs
 | [],_,h=>h
 | _::_,_,⟨c,s,g,cc,h1,h2,h3,h4,h5⟩=>⟨c,s,g,cc,h1,h2,a g h3,by subst h2;exact h4.of d (j g h3),VL.go a d j h5⟩
theorem VL.snoc{B:Nat->Prop}{w:World}:∀{xs:List Value} {cs:List Nd} {g a:Nat} {c:Nd},VL B w xs cs->B g->VAt w (.agg #[.slice (some ⟨g,0,none⟩) 1 a]) c->VL B w (xs++[.slice (some ⟨g,0,none⟩) 1 a]) (cs++[c])
 | [],cs,g,a,c,h,hg,hv=>by
  have h:cs=[]:=h;subst h;exact⟨c,[],g,a,rfl,rfl,hg,hv,rfl⟩
 | _::_,_,_,_,_,⟨d,s,g',cc',h1,h2,h3,h4,h5⟩,hg,hv=>⟨d,_,g',cc',by rw[h1];rfl,h2,h3,h4,VL.snoc h5 hg hv⟩
theorem VL.len{B:Nat->Prop}{w:World}:∀{xs:List Value} {cs:List Nd},VL B w xs cs->xs.length=cs.length
 | [],cs,h=>by
  have h:cs=[]:=h;subst h;rfl
 | _::_,_,⟨_,_,_,_,h1,_,_,_,h5⟩=>by rw[h1,Ya,Ya,VL.len h5]
theorem VL.one{B:Nat->Prop}{w:World}{xs:List Value}{c:Nd}(h:VL B w xs [c]):∃g a,xs=[.slice (some ⟨g,0,none⟩) 1 a]/\VAt w (.agg #[.slice (some ⟨g,0,none⟩) 1 a]) c:=by
 match xs,h with
 | [],h=>cases(show[c]=[]from h)
 | [v],⟨_,_,g,a,h1,h2,_,h4,_⟩=>cases h1;subst h2;exact⟨g,a,rfl,h4⟩
 | _::_::_,⟨_,_,_,_,h1,_,_,_,_,_,_,_,h6,_⟩=>cases h1;cases h6
theorem VL.two{B:Nat->Prop}{w:World}{xs:List Value}{c d:Nd}(h:VL B w xs [c,d]):∃g j k a,xs=[.slice (some ⟨g,0,none⟩) 1 j,.slice (some ⟨k,0,none⟩) 1 a]/\VAt w (.agg #[.slice (some ⟨g,0,none⟩) 1 j]) c/\VAt w (.agg #[.slice (some ⟨k,0,none⟩) 1 a]) d:=by
 match xs,h with
 | [],h=>cases(show[c,d]=[]from h)
 | v::r,⟨_,s,g,j,h1,h2,_,h4,h5⟩=>
  cases h1;subst h2;obtain⟨k,a,l,m⟩:=VL.one h5;subst l;exact⟨g,j,k,a,rfl,h4,m⟩
theorem VR.below{w w':World}{v:Value}{r:Option Nd}(h:VR w v r)(a:BL w w'):VR w' v r:=by
 cases r with
 | none=>exact h
 | some c=>exact⟨h.1.below a,h.2⟩
theorem VR.EY{w:World}{b:Nat}{v u:Value}{q:Option Addr}{n c0:Nat}{r:Option Nd}(h:VR w v r)(l:w.cell? ⟨b,0,none⟩=some (.slice q n c0)):VR (w.setCell ⟨b,0,none⟩ u) v r:=by
 cases r with
 | none=>exact h
 | some c=>
  obtain⟨⟨g,d,rfl,j,a,k⟩,m⟩:=h;exact⟨VAt.set ⟨g,d,rfl,j,a,k⟩ (fun e=>by subst e;rw[l]at a;cases a),m⟩
structure FB (w0:World) (x:Nd) (p b:Int) (bo:Nat) (done:List Fd) (sl:Value) (ad:List Nat) (vv:Value) (xs:List Value) (cs:List Nd) (w:World):Prop where
 B:Below w0.heap.size w0 w
 ge:w0.heap.size<=bo
 ln:Yx w bo x sl p b
 row:w.ownsRow w0.heap.size 52 1 sl done.length (ad.map pt)
 kids:Fd.At.atL (fun q=>w0.heap.size<=q/\q<w.heap.size/\q≠bo/\sl.ownBlock≠some q/\vv.ownBlock≠some q) w done ad
 ne:sl.ownBlock≠some bo
 J6:w.ownsRow w0.heap.size 118 1 vv xs.length xs
 vne:vv.ownBlock≠some bo
 vsl:∀q,vv.ownBlock=some q->sl.ownBlock≠some q
 Dq:VL (fun q=>q<w.heap.size/\q≠bo/\sl.ownBlock≠some q/\vv.ownBlock≠some q) w xs cs
section
variable {w0:World} {x:Nd} {p b:Int} {bo:Nat} {done:List Fd} {sl:Value} {ad:List Nat} {vv:Value} {xs:List Value} {cs:List Nd}
theorem FB.below{w w':World}(h:FB w0 x p b bo done sl ad vv xs cs w)(a:BL w w'):FB w0 x p b bo done sl ad vv xs cs w':=⟨h.B.trans (a.mono h.B.size),h.ge,h.ln.below a,KJ h.row a,Fd.W3 (fun _ e=>⟨e.1,Xd e.2.1 a.size,e.2.2⟩) (fun q e=>a.block q e.2.1) h.kids,h.ne,KJ h.J6 a,h.vne,h.vsl,h.Dq.go (fun _ e=>⟨Xd e.1 a.size,e.2⟩) a.size (fun q e=>a.block q e.1)⟩
theorem FB.IK{wr w5 c:World}{o:Obj}(h:FB w0 x p b bo done sl ad vv xs cs wr)(d:BL wr w5)(g:(w5.alloc o).grownBy c sl.ownBlock):Yx c bo x sl p b:=by
 have a:=h.below d;have k:(w5.alloc o).heap.size=w5.heap.size+1:=Xb _ _;have j:=a.ln.lt;exact((g.block bo (by omega) (fun e=>a.ne e.symm)).trans (((X5 w5.heap.size w5).alloc (X4 _) o).block bo j)).trans a.ln
theorem FB.push{wr w5 m:World}(h:FB w0 x p b bo done sl ad vv xs cs wr){t:Fd}{a:Nat}{o:Obj}{j:Value}(F:BL wr w5)(M:Fd.At (fun q=>wr.heap.size<=q/\q<w5.heap.size) w5 t a)(s:m.ownsRow w0.heap.size 52 1 j (done.length+1) (ad.map pt++[pt a]))(D:(w5.alloc o).grownBy m sl.ownBlock)(C:j.ownBlock=sl.ownBlock\/j.ownBlock=some (w5.alloc o).heap.size): FB w0 x p b bo (done++[t]) j (ad++[a]) vv xs cs (m.setCell ⟨bo,5,none⟩ j):=by
 have k:=h.below F;have J:=h.ln.lt;have r:bo<w5.heap.size:=k.ln.lt;have H:(w5.alloc o).heap.size=w5.heap.size+1:=Xb _ _;have L:w5.heap.size+1<=m.heap.size:=by rw[←H];exact D.size
 have n:∀q,q<w5.heap.size->sl.ownBlock≠some q->m.heap[q]?=w5.heap[q]?:=fun q K hne=>(D.block q (by omega) (fun e=>hne e.symm)).trans (((X5 w5.heap.size w5).alloc (X4 _) o).block q K);have y:Yx m bo x sl p b:=(n bo r k.ne).trans k.ln;have l:(m.setCell ⟨bo,5,none⟩ j).heap.size=m.heap.size:=Ie _ _ _;have u:∀q,sl.ownBlock=some q->w0.heap.size<=q/\q<wr.heap.size:=fun q e=>h.row.lt q e;have c:∀q,vv.ownBlock=some q->w0.heap.size<=q/\q<wr.heap.size:=fun q e=>h.J6.lt q e;have N:=F.size;have g:∀q,q<w5.heap.size->sl.ownBlock≠some q->j.ownBlock≠some q:=by
  intro q E A;rcases C with e|e
  .rw[e];exact A
  .rw[e,H];intro d;cases d;omega
 have v:j.ownBlock≠some bo:=g bo r h.ne;have z:∀q,q<w5.heap.size->q≠bo->sl.ownBlock≠some q->(m.setCell ⟨bo,5,none⟩ j).heap[q]?=w5.heap[q]?:=fun q E A I=>(UY A).trans (n q E I);refine⟨?_,h.ge,y.set j,?_,?_,v,?_,h.vne,?_,?_⟩
 .exact((k.B.alloc k.B.size o).grown D (by have:=k.B.size;omega) (fun q e=>(u q e).1)).setCell h.ge j
 .rw[Xo,ZO];exact Qj s (fun q e=>(s.lt q e).1) (fun q e=>UY (fun d=>v (d ▸ e)))
 .refine Fd.Pu (Fd.W3 (fun q e=>⟨e.1,by rw[l];have:=e.2.1;omega,e.2.2.1,g q e.2.1 e.2.2.2.1,e.2.2.2.2⟩) (fun q e=>z q e.2.1 e.2.2.1 e.2.2.2.1) k.kids) (M.go (fun q e=>⟨by have:=h.B.size;omega,by rw[l];omega,?_,g q e.2 ?_,?_⟩) (fun q e=>z q e.2 ?_ ?_));all_goals first|(intro d;subst d;omega)|(intro d;have:=(u q d).2;omega)|(intro d;have:=(c q d).2;omega)
 .exact Qj k.J6 (fun q e=>(c q e).1) (fun q e=>z q (by have:=(c q e).2;omega) (fun d=>h.vne (d ▸ e)) (h.vsl q e))
 .exact fun q e=>g q (by have:=(c q e).2;omega) (h.vsl q e)
 .exact k.Dq.go (fun q e=>⟨by rw[l];have:=e.1;omega,e.2.1,g q e.1 e.2.2.1,e.2.2.2⟩) (by rw[l];omega) (fun q e=>z q e.1 e.2.1 e.2.2.1)
theorem FB.Y0w{wr w5 v:World}(h:FB w0 x p b bo done sl ad vv xs cs wr){c:Nd}{g y:Nat}{o:Obj}{u:Value}(E:BL wr w5)(I:wr.heap.size<=g)(F:VAt w5 (.agg #[.slice (some ⟨g,0,none⟩) 1 y]) c)(r:v.ownsRow w0.heap.size 118 1 u (xs.length+1) (xs++[.slice (some ⟨g,0,none⟩) 1 y]))(C:(w5.alloc o).grownBy v vv.ownBlock)(A:u.ownBlock=vv.ownBlock\/u.ownBlock=some (w5.alloc o).heap.size): FB w0 x p b bo done sl ad u (xs++[.slice (some ⟨g,0,none⟩) 1 y]) (cs++[c]) v:=by
 have l:=h.below E;have m:bo<w5.heap.size:=l.ln.lt;have J:=h.ln.lt;have H:(w5.alloc o).heap.size=w5.heap.size+1:=Xb _ _;have L:w5.heap.size+1<=v.heap.size:=by rw[←H];exact C.size
 have a:∀q,q<w5.heap.size->vv.ownBlock≠some q->v.heap[q]?=w5.heap[q]?:=fun q K hne=>(C.block q (by omega) (fun e=>hne e.symm)).trans (((X5 w5.heap.size w5).alloc (X4 _) o).block q K);have d:∀q,sl.ownBlock=some q->w0.heap.size<=q/\q<wr.heap.size:=fun q e=>h.row.lt q e;have k:∀q,vv.ownBlock=some q->w0.heap.size<=q/\q<wr.heap.size:=fun q e=>h.J6.lt q e;have M:=E.size;have t:g<w5.heap.size:=by obtain⟨N,c',D,z,_⟩:=F;cases D;exact z
 have j:∀q,q<w5.heap.size->vv.ownBlock≠some q->u.ownBlock≠some q:=by
  intro q D z;rcases A with e|e
  .rw[e];exact z
  .rw[e,H];intro n;cases n;omega
 have s:∀q,sl.ownBlock=some q->vv.ownBlock≠some q:=fun q e n=>h.vsl q n e;refine⟨?_,h.ge,(a bo m h.vne).trans l.ln,?_,?_,h.ne,?_,j bo m h.vne,?_,?_⟩
 .exact(l.B.alloc l.B.size o).grown C (by have:=l.B.size;omega) (fun q e=>(k q e).1)
 .exact Qj l.row (fun q e=>(d q e).1) (fun q e=>a q (by have:=(d q e).2;omega) (s q e))
 .exact Fd.W3 (fun q e=>⟨e.1,by have:=e.2.1;omega,e.2.2.1,e.2.2.2.1,j q e.2.1 e.2.2.2.2⟩) (fun q e=>a q e.2.1 e.2.2.2.2) l.kids
 .rw[Xo];exact r
 .intro q e n;exact j q (by have:=(d q n).2;omega) (s q n) e
 .refine VL.snoc (l.Dq.go (fun q e=>⟨by have:=e.1;omega,e.2.1,e.2.2.1,j q e.1 e.2.2.2⟩) (by omega) (fun q e=>a q e.1 e.2.2.2)) ⟨by omega,by omega,fun e=>by have:=(d g e).2;omega,j g t (fun e=>by have:=(k g e).2;omega)⟩ (F.of (by omega) (a g t (fun e=>by have:=(k g e).2;omega)))
theorem FB.end_{w:World}(h:FB w0 x p b bo done sl ad vv xs cs w):Fd.At (fun q=>w0.heap.size<=q/\q<w.heap.size) w (.mk x p b done) bo:=(Fd.UM _ _ _ _ _ _ _).2 ⟨sl,ad,h.ln,⟨h.ge,h.ln.lt⟩,Qj h.row (fun _ _=>X6 _) (fun _ _=>rfl),fun q e=>⟨(h.row.lt q e).1,(h.row.lt q e).2⟩,Fd.W3 (fun _ e=>⟨e.1,e.2.1⟩) (fun _ _=>rfl) h.kids⟩
theorem FB.kid{w:World}(h:FB w0 x p b bo done sl ad vv xs cs w)(i:Nat)(hi:i<done.length):∃a,w.cell? ⟨(sl.ownBlock).getD 0,i,none⟩=some (pt a)/\Fd.At (fun q=>w0.heap.size<=q/\q<w.heap.size) w done[i] a:=by
 obtain⟨a,j,k⟩:=Fd.DR i h.kids hi;refine⟨a,?_,k.go (fun _ e=>⟨e.1,e.2.1⟩) (fun _ _=>rfl)⟩;obtain⟨g,c,l⟩:=Q3 h.row (by omega);have d:=h.row;rw[l]at d⊢;exact ZF d (by rw[Vf,j];rfl)
end
structure P8 (O:FOp):Prop where
 leaf:OQ
 un:∀(op:Int) (x:Nd) (v:Value) (w:World),Fd.CN x->VAt w v x->1<=op->op<=2->Calls prog 68 #[.int .i64 op,v] w fun e w'=>∃p m c s r,e= .returned (.tuple #[.agg #[.slice p m c],.string s])/\VR w' (.agg #[.slice p m c]) r/\Fd.okC r=O.un op x/\Below w.heap.size w w'
 bin:∀(op:Int) (x y:Nd) (v u:Value) (w:World),Fd.CN x->Fd.CN y->VAt w v x->VAt w u y->1<=op->op<=14->Calls prog 70 #[.int .i64 op,v,u] w fun e w'=>∃p m c s r,e= .returned (.tuple #[.agg #[.slice p m c],.string s])/\VR w' (.agg #[.slice p m c]) r/\Fd.okC r=O.bin op x y/\Below w.heap.size w w'
abbrev QE(l:List Fd):List Nd:=(l.map Fd.x).filter (fun c=>decide (Fd.isC c))
theorem LY(w:World)(v:Value)(t:TypeId):(w.alloc (.cells #[v] t)).cell? ⟨w.heap.size,0,none⟩=some v/\(w.alloc (.cells #[v] t)).frozen? ⟨w.heap.size,0,none⟩=false:=by
 constructor
 .rw[World.cell?,XM];rfl
 .rw[World.frozen?,XM];simp
theorem F0{w:World}{b:Nat}{u v:Value}(h:w.cell? ⟨b,0,none⟩=some u):(w.setCell ⟨b,0,none⟩ v).cell? ⟨b,0,none⟩=some v:=by
 simp[go_sem,h]
theorem X8r:(prog.info? 118).map (fun i=>(i.zero,i.size,i.bytes))=some (some (.agg #[.slice none 0 0]),1,24):=by kernel_rfl
theorem Bh(l:List Fd)(t:Fd):QE (l++[t])=QE l++(if Fd.isC t.x then[t.x]else[]):=by
 unfold QE;rw[ZO,List.filter_append];by_cases h:Fd.isC t.x
 .rw[X3 h];simp[h]
 .rw[X2 h];simp[h]
theorem LR{B:Nat->Prop}{w:World}{y:Fd}{a:Nat}(h:Fd.At B w y a):∃c,Yx w a y.x c y.p y.b/\B a:=by
 obtain⟨x,p,b,ks⟩:=y;obtain⟨c,j,d,g,_⟩:=(Fd.UM _ _ _ _ _ _ _).1 h;exact⟨c,d,g⟩
theorem X0p{B:Nat->Prop}{w:World}{l:List Fd}{t:Fd}{c:List Nat}{a:Nat}(h:Fd.At.atL B w (l++[t]) (c++[a]))(j:c.length=l.length):Fd.At B w t a:=by
 obtain⟨k,d,g⟩:=Fd.DR l.length h (by simp);rw[←j,List.getElem?_concat_length]at d;cases d;simpa using g
theorem FB.Xaf{k:World}{x:Nd}{p b:Int}{d:Nat}{c:List Fd}{t:Fd}{g:Value}{l:List Nat}{a:Nat}{j:Value}{m:List Value}{cs:List Nd}{w:World}(h:FB k x p b d (c++[t]) g (l++[a]) j m cs w):Fd.At (fun q=>k.heap.size<=q/\q<w.heap.size/\q≠d/\g.ownBlock≠some q/\j.ownBlock≠some q) w t a:=by
 refine X0p h.kids ?_;have:=Fd.Ps h.kids;simpa using this
def OJ(O:FOp)(f:Nat):Prop:=∀(y:Fd),y.size<=f->f<=1000000->Fd.Good y->∀(a:Nat) (w:World),Fd.Is w y a->Calls prog 18 #[pt a] w fun e w'=>Lp w (Fd.fold O f y) e w'
