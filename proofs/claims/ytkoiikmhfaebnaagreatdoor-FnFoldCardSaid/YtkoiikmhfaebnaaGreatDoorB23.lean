import Derived.Test.YtkoiikmhfaebnaaGreatDoorB10
import Derived.Maps.OwnSet
set_option maxHeartbeats 1000000
set_option maxRecDepth 100000
namespace Go.Proofs.YtkoiikmhfaebnaaGreatDoor
open Tryz Go.RowKit
def Kv(w:World)(mb:Nat)(sc:Sp):Prop:=∃D,w.ownsMap (H:=Unit) prog 9 (plainElem prog 3) mb sc.length D/\
 ∀x:ByteArray,Maps.has D (.string x.data.toList)=(ZU x sc).isSome/\∀v,ZU x sc=some v->D.atKey (.string x.data.toList) (.lit (.int .i64 0))= .lit (.int .i64 v)
theorem Kv.lt{w:World}{a:Nat}{c:Sp}(h:Kv w a c):a<w.heap.size:=by
 obtain⟨D,h,_⟩:=h;exact h.lt
theorem Kv.same{w w':World}{c:Nat}{d:Sp}(h:Kv w c d)(m:w'.heap[c]?=w.heap[c]?):Kv w' c d:=by
 obtain⟨D,⟨g,a,j,k⟩,l⟩:=h;exact⟨D,⟨g,a,m.trans j,k⟩,l⟩
theorem Kv.made(w:World):Kv (w.alloc (.map #[] 0)) w.heap.size []:=⟨_,Ic w _ _ _,fun _=>⟨rfl,fun v h=>by cases h⟩⟩
def Zf(cg bg:Nat)(w:World):Nat->Option Addr->List Sp->Prop
 | _,p,[]=>p=none
 | B,p,sc::r=>∃sb mb q,p=some ⟨sb,0,none⟩/\sb<B/\mb<sb/\sb≠cg/\sb≠bg/\mb≠cg/\mb≠bg/\w.cell? ⟨sb,0,none⟩=some (.map (some mb))/\w.cell? ⟨sb,1,none⟩=some (.pointer q)/\Kv w mb sc/\Zf cg bg w mb q r
theorem Zf.kept{cg bg:Nat}{w w':World}:∀{c:List Sp} {p:Option Addr} {B B':Nat},B<=B'->(∀b,b<B->b≠cg->b≠bg->w'.heap[b]?=w.heap[b]?)->Zf cg bg w B p c->Zf cg bg w' B' p c
 | [],_,_,_,_,_,h=>h
 | _::_,_,_,_,hB,hk,⟨sb,mb,q,hp,h1,h4,h2,h3,h5,h6,c0,c1,hs,hr⟩=>
  ⟨sb,mb,q,hp,by omega,h4,h2,h3,h5,h6,(Xy (a:=⟨sb,0,none⟩) (hk sb h1 h2 h3)).trans c0,(Xy (a:=⟨sb,1,none⟩) (hk sb h1 h2 h3)).trans c1,hs.same (hk mb (by omega) h5 h6),Zf.kept (X4 _) (fun b d=>hk b (by omega)) hr⟩
def RV:Value->Nat
 | .pointer (some a)=>a.block+1
 | _=>0
theorem Zf.measure{cg bg:Nat}{w:World}{B:Nat}{p:Option Addr}{a:List Sp}(h:Zf cg bg w B p a):RV (.pointer p)<=B:=by
 cases a with
 | nil=>rw[show p=none from h];exact X6 _
 | cons j r=>obtain⟨g,d,q,rfl,c,_⟩:=h;exact c
theorem Zf.kp{cg bg:Nat}{w w':World}{B:Nat}{a:List Sp}{p:Option Addr}(h:Zf cg bg w B p a)(g:Kp cg bg w w')(j:B<=w.heap.size):Zf cg bg w' B p a:=Zf.kept (X4 _) (fun b k c d=>g.block b (by omega) c d) h
def PlV(cg bg:Nat)(w:World)(v:Value)(ls:List Nat):Prop:=(∃p c,v= .slice p 0 c/\ls=[])\/(∃g o c,v= .slice (some ⟨g,o,none⟩) ls.length c/\g≠cg/\g≠bg/\ls.length<=c/\Yz w g o ls)
theorem PlV.kept{cg bg:Nat}{w w':World}{v:Value}{ls:List Nat}(h:PlV cg bg w v ls)(l:Kp cg bg w w'):PlV cg bg w' v ls:=by
 rcases h with h|⟨g,o,c,m,d,k,n,a⟩
 .exact .inl h
 .exact .inr ⟨g,o,c,m,d,k,n,Xd a.1 l.size,fun j q=>(l.cell (p:=⟨g,o+j,none⟩) a.1 d k).trans (a.2 j q)⟩
structure Ix (ns:List Nd) (ks:List (List Nat)) (wb tg tc kg kc cg bg:Nat) (w:World):Prop where
 wb1:wb≠cg
 wb2:wb≠bg
 tg1:tg≠cg
 tg2:tg≠bg
 kg1:kg≠cg
 kg2:kg≠bg
 wlt:wb<w.heap.size
 klt:kg<w.heap.size
 f0:w.cell? ⟨wb,0,none⟩=some (.slice (some ⟨tg,0,none⟩) ns.length tc)
 f1:w.cell? ⟨wb,1,none⟩=some (.slice (some ⟨kg,0,none⟩) ns.length kc)
 f2:w.cell? ⟨wb,2,none⟩=some (.slice (some ⟨bg,0,none⟩) ns.length ns.length)
 f3:w.cell? ⟨wb,3,none⟩=some (.slice (some ⟨cg,0,none⟩) ns.length ns.length)
 nodes:Yw w tg ns
 texts:∀x∈ns,x.text.size<=1048576
 len:ks.length=ns.length
 kids:∀k (h:k<ks.length),∃v,w.cell? ⟨kg,k,none⟩=some v/\PlV cg bg w v ks[k]
theorem Ix.kept{ns:List Nd}{ks:List (List Nat)}{l j r n q cg bg:Nat}{w w':World}(h:Ix ns ks l j r n q cg bg w)(g:Kp cg bg w w'):Ix ns ks l j r n q cg bg w':=by
 refine⟨h.wb1,h.wb2,h.tg1,h.tg2,h.kg1,h.kg2,Xd h.wlt g.size,Xd h.klt g.size,?_,?_,?_,?_,?_,h.texts,h.len,?_⟩
 .exact(g.cell (p:=⟨l,0,none⟩) h.wlt h.wb1 h.wb2).trans h.f0
 .exact(g.cell (p:=⟨l,1,none⟩) h.wlt h.wb1 h.wb2).trans h.f1
 .exact(g.cell (p:=⟨l,2,none⟩) h.wlt h.wb1 h.wb2).trans h.f2
 .exact(g.cell (p:=⟨l,3,none⟩) h.wlt h.wb1 h.wb2).trans h.f3
 .refine⟨Xd h.nodes.1 g.size,fun i hi=>?_⟩;obtain⟨a,b,c,d,e⟩:=h.nodes.2 i hi;exact⟨(g.cell (p:=⟨j,i*5,none⟩) h.nodes.1 h.tg1 h.tg2).trans a,(g.cell (p:=⟨j,i*5+1,none⟩) h.nodes.1 h.tg1 h.tg2).trans b,(g.cell (p:=⟨j,i*5+2,none⟩) h.nodes.1 h.tg1 h.tg2).trans c,(g.cell (p:=⟨j,i*5+3,none⟩) h.nodes.1 h.tg1 h.tg2).trans d,(g.cell (p:=⟨j,i*5+4,none⟩) h.nodes.1 h.tg1 h.tg2).trans e⟩
 .intro k m;obtain⟨v,a,b⟩:=h.kids k m;exact⟨v,(g.cell (p:=⟨n,k,none⟩) h.klt h.kg1 h.kg2).trans a,b.kept g⟩
theorem Gc:Maps.Keyed prog 9:=Maps.string_keyed underlying9
theorem Ow(w:World):(zeroValue 3).run prog w= .ok (.int .i64 0) w:=by kernel_rfl
theorem Px(ns:List Nd)(ks:List (List Nat))(q y v u t cg bg k:Nat)(c:Int)(s:St)(w:World)(r:k<ns.length)(m:Ix ns ks q y v u t cg bg w)(l:Dy ns.length cg bg s w): Calls prog 218 #[.pointer (some ⟨q,0,none⟩),.int .i64 k,.int .i64 c] w fun e w'=>e= .returned (.tuple #[])/\Kp cg bg w w'/\Dy ns.length cg bg (Xq k c s) w':=by
 have A:=m.f3;obtain⟨B,C⟩:=l.M0 k r;have g:=X1 l;have j:=X1 (show Xq k c s=if s.Xj[k]?.getD 0=0\/c<s.Xj[k]?.getD 0 then {s with Xj:=s.Xj.set k c}else s from rfl);clear m l;generalize s.Xj[k]?.getD 0=z at *;cases n:(z==0)
 .by_cases d:c<z
  .have a:Hid (Xq k c s={s with Xj:=s.Xj.set k c}):=X1 (by rw[j.o,X3 (.inr d)]);go_enter func218,ntmps218;go_wp2;(first|go_end0|refine X7 (Yf rfl _ _ _) rfl ?_);exact⟨rfl,(Kp.refl _ _ _).setCell _ _ (.inl rfl),by rw[a.o];exact g.o.MZ k c⟩
  .have a:Hid (Xq k c s=s):=X1 (by rw[j.o,X2 (by rintro(h|h);simp[h]at n;exact d h)]);go_enter func218,ntmps218;go_wp2;(first|go_end0|refine X7 (Yf rfl _ _ _) rfl ?_);exact⟨rfl,Kp.refl _ _ _,by rw[a.o];exact g.o⟩
 .have a:Hid (Xq k c s={s with Xj:=s.Xj.set k c}):=X1 (by rw[j.o,X3 (.inl (by simpa using n))]);go_enter func218,ntmps218;go_wp2;(first|go_end0|refine X7 (Yf rfl _ _ _) rfl ?_);exact⟨rfl,(Kp.refl _ _ _).setCell _ _ (.inl rfl),by rw[a.o];exact g.o.MZ k c⟩
theorem IJ(p:Option Addr)(w:World): Calls prog 153 #[.pointer p] w fun e w'=>e= .returned (.pointer (some ⟨w.heap.size+1,0,none⟩))/\w'=(w.alloc (.map #[] 0)).alloc (.cells #[.map (some w.heap.size),.pointer p] 254):=by
 have a:=@Gp prog;go_enter func153,ntmps153;go_wp2;go_ret;exact⟨by simp,rfl⟩
theorem X5i(cg bg B:Nat)(x:ByteArray)(W:x.size<=1048576)(j:List Sp)(p:Option Addr)(w:World)(k:Zf cg bg w B p j): Calls prog 217 #[.pointer p,.string x] w fun e w'=>e= .returned (.tuple #[.int .i64 ((Qa x j).getD 0),.bool (Qa x j).isSome])/\w'=w:=by
 have E:=X1 k;have I:Hid (keyOf prog 9 (.string x)=some (.string x.data.toList)):=X1 (Ib underlying9 (by unfold maxLen;omega));clear k;go_enter func217,ntmps217;go_wp2;go_loopw[0] (fun v wr=>∃(q:Option Addr) (r:List Sp) (B':Nat),v= .pointer q/\wr=w/\Zf cg bg w B' q r/\Qa x j=Qa x r) (fun v _=>RV v)
 case atStart=>exact⟨p,j,B,rfl,rfl,E.o,rfl⟩
 case round=>
  obtain⟨q0,r,B',rfl,rfl,m,K⟩:=hrel;have u:=X1 K;clear K E;cases r with
  | nil=>
   obtain rfl:=(show q0=none from m);go_wp2;go_ret2;rw[u.o];exact⟨rfl,rfl⟩
  | cons L r=>
   obtain⟨X,C,q,rfl,M,Q,N,P,S,V,c0,c1,⟨D,d,J⟩,m⟩:=m;have H:=X1 m;have F:=X1 d;obtain⟨a,l⟩:=J x;have t:=X1 l;have n:=X1 (VY x L r);clear m d J l;cases z:ZU x L with
   | none=>
    rw[z]at a n;simp only[Option.isSome]at a;go_wp2_with(at_lookup;refine SC _ rfl _ _ 252 rfl 9 3 .i64 Gc underlying252 underlying3 (Ow _) C _ D rfl F.o _ _ rfl I.o ?_);intro c g A;try rw[a]
    go_wp2;go_roundw
    case rel=>exact⟨q,r,C,by trivial,by trivial,H.o,by rw[u.o,n.o];rfl⟩
    case measure=>have:=H.o.measure;simp[RV]at *;omega
   | some v=>
    have s:=X1 (t.o v z);rw[z]at a n;simp only[Option.isSome]at a;go_wp2_with(at_lookup;refine SC _ rfl _ _ 252 rfl 9 3 .i64 Gc underlying252 underlying3 (Ow _) C _ D rfl F.o _ _ rfl I.o ?_);intro c g A;try rw[a]
    have y:c=v:=by rw[s.o]at g;simpa using g.symm
    subst y;go_wp2;go_ret2;rw[u.o,n.o];exact⟨rfl,rfl⟩
theorem X9g(ns:List Nd)(ks:List (List Nat))(r D C A z cg bg k B:Nat)(c:List Sp)(p:Option Addr)(s:St)(w:World)(j:k<ns.length)(d:Ix ns ks r D C A z cg bg w)(m:Dy ns.length cg bg s w)(u:Zf cg bg w B p c): Calls prog 152 #[.pointer (some ⟨r,0,none⟩),.int .i64 k,.pointer p] w fun e w'=>e= .returned (.tuple #[])/\Kp cg bg w w'/\Dy ns.length cg bg (WI ns k c s) w':=by
 obtain⟨_,_,_,K,_⟩:=d.nodes.2 k j;have I:=d.f0;have J:=d.f2;obtain⟨F,H⟩:=m.LZ k j;have E:=X1 d;have t:=X1 m
 have l:=X1 (show WI ns k c s=(match Qa ns[k].text c with
  | some v=>{s with binds:=s.binds.set k v}
  | none=>Xq k 9 s) by unfold WI;rw[WM j]<;>rfl)
 have g:=X1 (X5i cg bg B ns[k].text (d.texts _ (XR j)) c p w u);clear d m u;generalize ns[k].text=x at *;cases y:Qa x c with
 | none=>
  have a:=g.o;rw[y]at a l
  replace a:=X1 a
  go_enter func152,ntmps152;go_wp2_with fail;refine a.o.mono ?_;rintro e w1⟨rfl,rfl⟩;go_wp2_with fail;refine(Px ns ks r D C A z cg bg k 9 s _ j E.o t.o).mono ?_;rintro e L⟨rfl,q,n⟩;go_wp2;(first|go_end0|refine X7 (Yf rfl _ _ _) rfl ?_);exact⟨rfl,q,by rw[l.o];exact n⟩
 | some v=>
  have a:=g.o;rw[y]at a l
  replace a:=X1 a
  go_enter func152,ntmps152;go_wp2_with fail;refine a.o.mono ?_;rintro e w1⟨rfl,rfl⟩;go_wp2;(first|go_end0|refine X7 (Yf rfl _ _ _) rfl ?_);exact⟨rfl,(Kp.refl _ _ _).setCell _ _ (.inr rfl),by rw[l.o];exact t.o.L4 k v⟩
structure Ku (cg bg mb:Nat) (w w':World):Prop where
 os:w'.os=w.os
 tape:w'.tape=w.tape
 output:w'.output=w.output
 size:w.heap.size<=w'.heap.size
 block:∀b,b<w.heap.size->b≠cg->b≠bg->b≠mb->w'.heap[b]?=w.heap[b]?
theorem Ku.Xdr{cg bg g:Nat}{w w':World}(h:Kp cg bg w w'):Ku cg bg g w w':=⟨h.os,h.tape,h.output,h.size,fun b d a c _=>h.block b d a c⟩
theorem Ku.Xdo{cg bg a:Nat}{w w':World}(h:w.grownBy w' (some a)):Ku cg bg a w w':=⟨h.os,h.tape,h.output,h.size,fun b d _ _ c=>h.block b d (fun e=>c (YD e))⟩
theorem Ku.kp{cg bg k:Nat}{w w' c:World}(h:Kp cg bg w w')(a:Ku cg bg k w' c)(l:w.heap.size<=k):Kp cg bg w c:=⟨a.os.trans h.os,a.tape.trans h.tape,a.output.trans h.output,XO h.size a.size,fun b j d g=>(a.block b (Xd j h.size) d g (by omega)).trans (h.block b j d g)⟩
theorem Ku.cell{cg bg a:Nat}{w w':World}(h:Ku cg bg a w w'){p:Addr}(j:p.block<w.heap.size)(c:p.block≠cg)(d:p.block≠bg)(g:p.block≠a):w'.cell? p=w.cell? p:=Xy (h.block p.block j c d g)
theorem Kv.put{w':World}{k:Nat}{a:Sp}{D:DataW Unit}{x:ByteArray}{v:Int}(d:∀x:ByteArray,Maps.has D (.string x.data.toList)=(ZU x a).isSome/\∀v,ZU x a=some v->D.atKey (.string x.data.toList) (.lit (.int .i64 0))= .lit (.int .i64 v))(j:Maps.IsMap D)(h:w'.ownsMap (H:=Unit) prog 9 (plainElem prog 3) k (a.length+1) (D.put (.string x.data.toList) (.lit (.int .i64 v)))):Kv w' k ((x,v)::a):=by
 refine⟨_,h,fun y=>?_⟩;by_cases e:x=y
 .subst e;rw[ZU,X3 rfl];have g:WideAt.IsKeyLit (Lit.string x.data.toList):=trivial;exact⟨Maps.has_put_same j g _,fun u c=>by rw[P5 j g];cases c;rfl⟩
 .have hne:Lit.string y.data.toList≠Lit.string x.data.toList:=fun h=>e (Wx (Ww.1 (by injection h with h;exact h.symm)));rw[ZU,X2 e];exact⟨by rw[Maps.has_put_other hne];exact(d y).1,fun u c=>by rw[Lv hne];exact(d y).2 u c⟩
theorem Y6s(k:Nat)(h:k<=1048576):(Lit.int .i64 (k:Int)).wf=true:=by
 have a:IntKind.i64.min= -9223372036854775808:=by decide
 have c:IntKind.i64.max=9223372036854775807:=by decide
 simp[Lit.wf,a,c];omega
theorem Iw(ns:List Nd)(ks:List (List Nat))(L Y X V S cg bg k W g:Nat)(j:Sp)(s:St)(w:World)(hn:ns.length<=5000)(C:k<ns.length)(u:Ix ns ks L Y X V S cg bg w)(N:Dy ns.length cg bg s w)(a0:w.cell? ⟨W,0,none⟩=some (.map (some g)))(Q:Kv w g j)(z:g≠cg)(A:g≠bg)(hl:j.length<=100000000): Calls prog 154 #[.pointer (some ⟨L,0,none⟩),.int .i64 k,.pointer (some ⟨W,0,none⟩)] w fun e w'=>e= .returned (.tuple #[])/\Ku cg bg g w w'/\Dy ns.length cg bg (ZB ns k (j,s)).2 w'/\Kv w' g (ZB ns k (j,s)).1:=by
 obtain⟨_,_,_,hN,_⟩:=u.nodes.2 k C;have h0:=u.f0;have hx:=u.texts _ (XR C);have Z:=X1 u;have r:=X1 N;have M:=X1 Q
 have t:=X1 (show ZB ns k (j,s)=(match ZU ns[k].text j with
  | some _=>(j,Xq k 8 s)
  | none=>((ns[k].text,(k:Int))::j,s)) by unfold ZB;rw[WM C]<;>rfl)
 obtain⟨D,l,m⟩:=Q;have B:=X1 l;have E:=X1 m;clear u N l;generalize ns[k].text=x at *;obtain⟨d,n⟩:=m x;have I:Hid (keyOf prog 9 (.string x)=some (.string x.data.toList)):=X1 (Ib underlying9 (by unfold maxLen;omega));have F:Hid (plainElem (H:=Unit) prog 3 (.int .i64 (k:Int))=some (.lit (.int .i64 (k:Int)),[])):=X1 (plainElem_int underlying3 (Y6s k (by omega)));clear m n;cases P:ZU x j with
 | none=>
  rw[P]at d t;simp only[Option.isSome]at d;go_enter func154,ntmps154;go_wp2_with(at_lookup;refine SC _ rfl _ _ 252 rfl 9 3 .i64 Gc underlying252 underlying3 (Ow _) g _ D rfl B.o _ _ rfl I.o ?_);intro c J K;try rw[d]
  go_wp2_with(at_mapUpdate;refine FY _ rfl _ _ _ 252 rfl 9 3 Gc underlying252 _ g _ D rfl B.o (by unfold maxLen;omega) _ _ _ rfl rfl I.o _ [] F.o ?_);intro w1 q a;go_wp2;(first|go_end0|refine X7 (Yf rfl _ _ _) rfl ?_);refine⟨rfl,Ku.Xdo a,?_,?_⟩
  .rw[t.o];exact⟨r.o.ne,Q4 r.o.c (a.block cg (r.o.c.lt cg rfl).2 (fun e=>z (YD e).symm)),Q4 r.o.b (a.block bg (r.o.b.lt bg rfl).2 (fun e=>A (YD e).symm))⟩
  .rw[t.o];exact Kv.put E.o B.o.isMap q
 | some v=>
  rw[P]at d t;simp only[Option.isSome]at d;go_enter func154,ntmps154;go_wp2_with(at_lookup;refine SC _ rfl _ _ 252 rfl 9 3 .i64 Gc underlying252 underlying3 (Ow _) g _ D rfl B.o _ _ rfl I.o ?_);intro c J K;try rw[d]
  go_wp2_with fail;refine(Px ns ks L Y X V S cg bg k 8 s _ C Z.o r.o).mono ?_;rintro e w2⟨rfl,y,n⟩;go_wp2;(first|go_end0|refine X7 (Yf rfl _ _ _) rfl ?_);refine⟨rfl,Ku.Xdr y,?_,?_⟩
  .rw[t.o];exact n
  .rw[t.o];exact M.o.same (y.block g M.o.lt z A)
def Vo(ns:List Nd)(ks:List (List Nat))(wb tg tc kg kc cg bg f:Nat)(G:Nat->List Sp->St->St):Prop:=
 ∀(k:Nat) (p:Option Addr) (ch:List Sp) (s:St) (w:World),k<f->k<ns.length->Ix ns ks wb tg tc kg kc cg bg w->Dy ns.length cg bg s w->Zf cg bg w w.heap.size p ch->
  Calls prog 90 #[.pointer (some ⟨wb,0,none⟩),.int .i64 k,.pointer p] w fun e w'=>e= .returned (.tuple #[])/\Kp cg bg w w'/\Dy ns.length cg bg (G k ch s) w'
theorem N3(G:Nat->List Sp->St->St)(ls:List Nat)(i:Nat)(a:List Sp)(s:St)(h:i<ls.length):ZQ G (ls.take (i+1)) a s=G ls[i] a (ZQ G (ls.take i) a s):=by
 unfold ZQ;rw[Kt h,GP];rfl
theorem AE(q p:Value)(a:Option Addr)(c:Nat)(w:World): Calls prog 155 #[q,.slice a 0 c,p] w fun e w'=>e= .returned (.tuple #[])/\w'=w:=by
 go_enter func155,ntmps155;go_wp2;go_loopw[10] (fun t wr=>t= .int .i64 0/\wr=w) (fun _ _=>0)
 case atStart=>exact⟨rfl,rfl⟩
 case round=>
  obtain⟨rfl,rfl⟩:=hrel;go_wp2;(first|go_end0|refine X7 (Yf rfl _ _ _) rfl ?_);exact⟨rfl,rfl⟩
theorem X0g(ns:List Nd)(ks:List (List Nat))(B M L K J cg bg f:Nat)(G:Nat->List Sp->St->St)(H:Vo ns ks B M L K J cg bg f G)(ls:List Nat)(g o c:Nat)(k:List Sp)(p:Option Addr)(s:St)(w:World)(m:∀x∈ls,x<f/\x<ns.length)(Z:ls.length<=100000000)(F:Ix ns ks B M L K J cg bg w)(E:Dy ns.length cg bg s w)(D:Zf cg bg w w.heap.size p k)(v:g≠cg)(z:g≠bg)(I:Yz w g o ls): Calls prog 155 #[.pointer (some ⟨B,0,none⟩),.slice (some ⟨g,o,none⟩) ls.length c,.pointer p] w fun e w'=>e= .returned (.tuple #[])/\Kp cg bg w w'/\Dy ns.length cg bg (ZQ G ls k s) w':=by
 have S:=X1 H;have Q:=X1 F;have P:=X1 E;have N:=X1 D;have C:=X1 I;have r:=X1 m;clear H F E D I m;go_enter func155,ntmps155;go_wp2;go_loopw[10] (fun t wr=>∃i:Nat,i<=ls.length/\t= .int .i64 i/\Kp cg bg w wr/\Dy ns.length cg bg (ZQ G (ls.take i) k s) wr) (fun t _=>ls.length-(intOf t).toNat)
 case atStart=>exact⟨0,X6 _,rfl,Kp.refl _ _ _,P.o⟩
 case round=>
  obtain⟨i,hi,rfl,d,l⟩:=hrel;have j:=X1 l;clear l;by_cases a:i<ls.length
  .have hx:=(d.cell (p:=⟨g,o+i,none⟩) C.o.1 v z).trans (C.o.2 i a);have V:=X1 (N3 G ls i k s a);have n:=r.o _ (XR a);have q:=X1 (S.o ls[i] p k _ wr n.1 n.2 (Q.o.kept d) j.o (Zf.kept d.size (fun b Y W X=>d.block b Y W X) N.o));generalize ls[i]=y at *;go_wp2_with fail;refine q.o.mono ?_;rintro e w2⟨rfl,A,u⟩;go_wp2;go_roundw
   case rel=>exact⟨i+1,by omega,by go_num,d.trans A,by rw[V.o];exact u⟩
   case measure=>simp[intOf];omega
  .go_wp2;(first|go_end0|refine X7 (Yf rfl _ _ _) rfl ?_);have e:ls.take i=ls:=U7 (by omega);exact⟨rfl,d,by have:=j.o;rwa[e]at this⟩
theorem Ih(ns:List Nd)(ks:List (List Nat))(d q n m l cg bg f:Nat)(G:Nat->List Sp->St->St)(B:Vo ns ks d q n m l cg bg f G)(ls:List Nat)(v:Value)(j:List Sp)(p:Option Addr)(s:St)(w:World)(k:∀x∈ls,x<f/\x<ns.length)(D:ls.length<=100000000)(A:Ix ns ks d q n m l cg bg w)(r:Dy ns.length cg bg s w)(z:Zf cg bg w w.heap.size p j)(C:PlV cg bg w v ls): Calls prog 155 #[.pointer (some ⟨d,0,none⟩),v,.pointer p] w fun e w'=>e= .returned (.tuple #[])/\Kp cg bg w w'/\Dy ns.length cg bg (ZQ G ls j s) w':=by
 rcases C with⟨a,c,rfl,rfl⟩|⟨g,o,c,rfl,t,u,_,y⟩
 .refine(AE _ _ _ _ _).mono ?_;rintro e w'⟨rfl,rfl⟩;exact⟨rfl,Kp.refl _ _ _,r⟩
 .exact X0g ns ks d q n m l cg bg f G B ls g o c j p s w k D A r z t u y
abbrev scO(w:World)(p:Option Addr):Obj:= .cells #[.map (some w.heap.size),.pointer p] 254
theorem MY(w:World)(p:Option Addr):((w.alloc (.map #[] 0)).alloc (scO w p)).cell? ⟨w.heap.size+1,0,none⟩=some (.map (some w.heap.size))/\((w.alloc (.map #[] 0)).alloc (scO w p)).cell? ⟨w.heap.size+1,1,none⟩=some (.pointer p)/\Kv ((w.alloc (.map #[] 0)).alloc (scO w p)) w.heap.size []/\Below w.heap.size w ((w.alloc (.map #[] 0)).alloc (scO w p))/\((w.alloc (.map #[] 0)).alloc (scO w p)).heap.size=w.heap.size+1+1:=by
 have h:=XM (w.alloc (.map #[] 0)) (scO w p);rw[Xb]at h;refine⟨by rw[World.cell?,h];rfl,by rw[World.cell?,h];rfl,?_,(bA _).alloc (by simp) _,by simp⟩;have a:=(X5 (w.heap.size+1) (w.alloc (.map #[] 0))).alloc (by simp) (scO w p);exact(Kv.made w).same (a.block _ (XI _))
theorem Zf.inner{cg bg:Nat}{w wr:World}{p:Option Addr}{a:List Sp}{c:Sp}(h:Zf cg bg w w.heap.size p a)(d:Kp cg bg w wr)(c0:wr.cell? ⟨w.heap.size+1,0,none⟩=some (.map (some w.heap.size)))(c1:wr.cell? ⟨w.heap.size+1,1,none⟩=some (.pointer p))(j:Kv wr w.heap.size c)(k:w.heap.size+1<wr.heap.size)(l:cg<w.heap.size)(m:bg<w.heap.size):Zf cg bg wr wr.heap.size (some ⟨w.heap.size+1,0,none⟩) (c::a):=⟨w.heap.size+1,w.heap.size,p,rfl,k,XI _,by omega,by omega,by omega,by omega,c0,c1,j,Zf.kept (X4 _) (fun b g=>d.block b g) h⟩
theorem NQ(G:Nat->List Sp->St->St)(ns:List Nd)(ks:List (List Nat))(ls:List Nat)(i:Nat)(d:Sp)(a:List Sp)(c:Bool)(s:St)(h:i+1<ls.length): Jq G ns ks (ls.drop i) d a c s=Jq G ns ks (ls.drop (i+1)) (JJ G ns ks ls[i] d a c s).1 a (c||!decide ((X9 ks ls[i]).length=0)) (JJ G ns ks ls[i] d a c s).2:=by
 rw[Zp (show i<ls.length by omega),Zp h];rfl
theorem NS(G:Nat->List Sp->St->St)(ns:List Nd)(ks:List (List Nat))(ls:List Nat)(i:Nat)(c:Sp)(a:List Sp)(d:Bool)(s:St)(h:i+1=ls.length): Jq G ns ks (ls.drop i) c a d s=G (ls[i]'(by omega)) (c::a) s:=by
 rw[Zp (show i<ls.length by omega),Yu (by omega)];rfl
theorem Ac(ns:List Nd)(k:Nat)(e:Sp × St):(ZB ns k e).1.length<=e.1.length+1:=by
 unfold ZB;split<;>simp
theorem X8c(ns:List Nd)(ks:List (List Nat))(Z tg tc kg kc cg bg f:Nat)(G:Nat->List Sp->St->St)(hG:Vo ns ks Z tg tc kg kc cg bg f G)(hn:ns.length<=5000)(ls:List Nat)(g o c:Nat)(r:List Sp)(p:Option Addr)(s:St)(w:World)(d0:∀x∈ls,x<f/\x<ns.length)(hl:ls.length<=5000)(e9:1<=ls.length)(P:∀k (h:k<ks.length),∀x∈ks[k],x<k)(W:∀k (h:k<ks.length),(ks[k]).length<=5000)(hF:Ix ns ks Z tg tc kg kc cg bg w)(hD:Dy ns.length cg bg s w)(hC:Zf cg bg w w.heap.size p r)(e3:g≠cg)(e4:g≠bg)(e6:ls.length<=c)(hI:Yz w g o ls): Calls prog 156 #[.pointer (some ⟨Z,0,none⟩),.slice (some ⟨g,o,none⟩) ls.length c,.pointer p] w fun e w'=>e= .returned (.tuple #[])/\Kp cg bg w w'/\Dy ns.length cg bg (Jq G ns ks ls [] r false s) w':=by
 have e2:=(hD.c.lt cg rfl).2;have e1:=(hD.b.lt bg rfl).2;have HG:=X1 hG;have HF:=X1 hF;have HD:=X1 hD;have HC:=X1 hC;have HI:=X1 hI;have d9:=X1 d0;have d7:=X1 P;have d8:=X1 W;obtain⟨n0,n1,n2,n3,n4⟩:=MY w p;have b0:=X1 n0;have b1:=X1 n1;have b2:=X1 n2;have Q:=X1 n3;have b3:=X1 n4;obtain⟨m,hm⟩:∃m,ls.length=m+1:=⟨ls.length-1,by omega⟩;clear hG hF hD hC hI d0 P W n0 n1 n2 n3 n4;go_enter func156,ntmps156;go_wp2_with fail;refine(IJ p w).mono ?_;rintro e w1⟨rfl,d4⟩;have e0:=X1 d4;rw[←e0.o]at b0 b1 b2 Q b3;clear d4;go_wp2
 go_loopw[8,21] (fun v8 t wr=>∃(i:Nat) (l:Sp) (N:Bool) (v:St),i<=m/\t= .int .i64 i/\v8= .bool N/\l.length<=i/\Kp cg bg w wr/\w.heap.size+1<wr.heap.size/\wr.cell? ⟨w.heap.size+1,0,none⟩=some (.map (some w.heap.size))/\wr.cell? ⟨w.heap.size+1,1,none⟩=some (.pointer p)/\Kv wr w.heap.size l/\
   Dy ns.length cg bg v wr/\Jq G ns ks ls [] r false s=Jq G ns ks (ls.drop i) l r N v) (fun _ t _=>m-(intOf t).toNat)
 case atStart=>exact⟨0,[],false,s,X6 _,rfl,rfl,X4 _,Kp.Ky Q.o,by rw[b3.o];omega,b0.o,b1.o,b2.o,HD.o.below Q.o,rfl⟩
 case round=>
  obtain⟨i,l,N,v,hi,rfl,rfl,f2,hK,hz,c0,c1,d3,b8,he⟩:=hrel;have HE:=X1 he;have a7:=X1 b8;have b4:=X1 d3;have a1:=X1 c0;have a4:=X1 c1;clear he b8 d3 c0 c1;have q:=X1 (HF.o.kept hK);have a6:=X1 (HC.o.inner hK a1.o a4.o b4.o hz e2 e1);have hx:=(hK.cell (p:=⟨g,o+i,none⟩) HI.o.1 e3 e4).trans (HI.o.2 i (by omega));have D:=d9.o _ (XR (by omega:i<ls.length));by_cases f0:i<m
  .have S:=X1 (NQ G ns ks ls i l r N v (by omega));have f1:=q.o.f1;have K:ls[i]<ks.length:=by rw[q.o.len];exact D.2
   obtain⟨v2,e8,X⟩:=q.o.kids ls[i] K;have a9:Hid (X9 ks ls[i]=ks[ls[i]]):=X1 (by simp[X9,K]);have c9:=d7.o ls[i] K;have W:=d8.o ls[i] K;rw[a9.o]at S;have a0:=X1 (Ih ns ks Z tg tc kg kc cg bg f G HG.o ks[ls[i]] v2 (l::r) _ v wr (fun x hx=>by have:=c9 x hx;omega) (by omega) q.o a7.o a6.o X);obtain⟨a2,c2,e5⟩:∃a c,v2= .slice a (ks[ls[i]]).length c:=by
    rcases X with⟨a,c,h,h'⟩|⟨g',o',c,h,_⟩
    .exact⟨a,c,by rw[h',h];rfl⟩
    .exact⟨_,c,h⟩
   subst e5;clear c9 X;generalize ks[ls[i]]=kp at *;generalize ls[i]=y at *;have H:Hid (JJ G ns ks y l r N v=((ZB ns y (l,ZQ G kp (l::r) v)).1,if N=true/\kp.length=0 then Xq y 10 (ZB ns y (l,ZQ G kp (l::r) v)).2 else(ZB ns y (l,ZQ G kp (l::r) v)).2)):=X1 (by unfold JJ;rw[a9.o]);have e7:(kp.length:Int)<=5000:=by omega
   have F:=X1 (Ac ns y (l,ZQ G kp (l::r) v));go_wp2_with fail;refine a0.o.mono ?_;rintro e w2⟨rfl,n,J⟩;have V:=(n.cell (p:=⟨w.heap.size+1,0,none⟩) hz (show w.heap.size+1≠cg by omega) (show w.heap.size+1≠bg by omega)).trans a1.o;have b6:=(n.cell (p:=⟨w.heap.size+1,1,none⟩) hz (show w.heap.size+1≠cg by omega) (show w.heap.size+1≠bg by omega)).trans a4.o;have Y:=Xd hz n.size;have a8:=X1 (Iw ns ks Z tg tc kg kc cg bg y (w.heap.size+1) w.heap.size l _ w2 hn D.2 (q.o.kept n) J V (b4.o.same (n.block _ (by omega) (by omega) (by omega))) (by omega) (by omega) (by omega));clear J;go_wp2_with fail;refine a8.o.mono ?_;rintro e w3⟨rfl,C,b9,d2⟩;have L:=(C.cell (p:=⟨w.heap.size+1,0,none⟩) Y (show w.heap.size+1≠cg by omega) (show w.heap.size+1≠bg by omega) (show w.heap.size+1≠w.heap.size by omega)).trans V;have M:=(C.cell (p:=⟨w.heap.size+1,1,none⟩) Y (show w.heap.size+1≠cg by omega) (show w.heap.size+1≠bg by omega) (show w.heap.size+1≠w.heap.size by omega)).trans b6;have z:=Ku.kp (hK.trans n) C (X4 _);have u:=Xd Y C.size;have d:=X1 L;have j:=X1 M;have E:=X1 b9;have I:=X1 d2;clear V b6 L M b9 d2 C a8 a0;cases N<;>(by_cases A:kp.length=0)
   .go_wp2;go_roundw
    case rel=>exact⟨i+1,_,_,_,by omega,by go_num,rfl,by have:=F.o;omega,z,u,d.o,j.o,I.o,E.o,by rw[HE.o,S.o,H.o];simp[A]⟩
    case measure=>simp[intOf];omega
   .have d1:(0:Int)<kp.length:=by omega
    go_wp2;go_roundw
    case rel=>exact⟨i+1,_,_,_,by omega,by go_num,rfl,by have:=F.o;omega,z,u,d.o,j.o,I.o,E.o,by rw[HE.o,S.o,H.o];simp[A,Nat.pos_of_ne_zero A]⟩
    case measure=>simp[intOf];omega
   .go_wp2_with fail;refine(Px ns ks Z tg tc kg kc cg bg y 10 _ _ D.2 (HF.o.kept z) E.o).mono ?_;rintro e w4⟨rfl,B,c8⟩;have b5:=(B.cell (p:=⟨w.heap.size+1,0,none⟩) u (show w.heap.size+1≠cg by omega) (show w.heap.size+1≠bg by omega)).trans d.o;have b7:=(B.cell (p:=⟨w.heap.size+1,1,none⟩) u (show w.heap.size+1≠cg by omega) (show w.heap.size+1≠bg by omega)).trans j.o;have a3:=X1 b5;have a5:=X1 b7;have d5:=X1 c8;clear b5 b7 c8;go_wp2;go_roundw
    case rel=>exact⟨i+1,_,_,_,by omega,by go_num,rfl,by have:=F.o;omega,z.trans B,Xd u B.size,a3.o,a5.o,I.o.same (B.block _ (by omega) (by omega) (by omega)),d5.o,by rw[HE.o,S.o,H.o];simp[A]⟩
    case measure=>simp[intOf];omega
   .have d1:(0:Int)<kp.length:=by omega
    have hne:((kp.length:Int)==0)=false:=by rw[DU];omega
    go_wp2;go_roundw
    case rel=>exact⟨i+1,_,_,_,by omega,by go_num,rfl,by have:=F.o;omega,z,u,d.o,j.o,I.o,E.o,by rw[HE.o,S.o,H.o];simp[A]⟩
    case measure=>simp[intOf];omega
  .obtain rfl:i=m:=by omega
   have S:=X1 (NS G ns ks ls i l r N v (by omega));have d6:=X1 (HG.o ls[i] _ (l::r) v wr D.1 D.2 q.o a7.o a6.o);generalize ls[i]=y at *;go_wp2_with fail;refine d6.o.mono ?_;rintro e w2⟨rfl,n,J⟩;go_wp2;(first|go_end0|refine X7 (Yf rfl _ _ _) rfl ?_);exact⟨rfl,hK.trans n,by rw[HE.o,S.o];exact J⟩
theorem ER{w w':World}{base size:Nat}{e:TypeId}{v:Value}{n:Nat}{l:List Value}(h:w.ownsRow base e size v n l)(r:∀g,base<=g->g<w.heap.size->w'.heap[g]?=w.heap[g]?):w'.ownsRow base e size v n l:=by
 refine⟨h.1,?_⟩;rcases h.2 with m|⟨d,a,c,s,j,k,q⟩
 .exact .inl m
 .exact .inr ⟨d,a,c,s,j,(r d j (Kh.1 k).1).trans k,q⟩
theorem Ae(ns:List Nd)(a b:List Nat)(e:Sp × St):ZR ns (a++b) e=ZR ns b (ZR ns a e):=by
 unfold ZR;rw[GP]
theorem Nr(ns:List Nd)(ls:List Nat)(i:Nat)(e:Sp × St)(h:i<ls.length):ZR ns (ls.take (i+1)) e=ZB ns ls[i] (ZR ns (ls.take i) e):=by
 rw[Kt h,Ae];rfl
theorem Af(ns:List Nd)(ls:List Nat)(e:Sp × St):(ZR ns ls e).1.length<=e.1.length+ls.length:=by
 unfold ZR;induction ls generalizing e with
 | nil=>simp
 | cons x r a=>
  rw[ZI];have c:=a (ZB ns x e);have d:=Ac ns x e;rw[Ya];omega
theorem NF(ns:List Nd)(ls:List Nat)(i:Nat)(h:i<ls.length):(ls.take (i+1)).filter (fun x=>X8 ns x !=23)=(ls.take i).filter (fun x=>X8 ns x !=23)++(if X8 ns ls[i]=23 then[]else[ls[i]]):=by
 rw[Kt h,List.filter_append];congr 1;by_cases e:X8 ns ls[i]=23<;>simp[e]
structure Fi (ns:List Nd) (cg bg:Nat) (w:World) (p:Option Addr) (sc:Sp) (s:St) (wr:World):Prop where
 kp:Kp cg bg w wr
 sz:w.heap.size+1<wr.heap.size
 c0:wr.cell? ⟨w.heap.size+1,0,none⟩=some (.map (some w.heap.size))
 c1:wr.cell? ⟨w.heap.size+1,1,none⟩=some (.pointer p)
 sp:Kv wr w.heap.size sc
 dy:Dy ns.length cg bg s wr
 l1:cg<w.heap.size
 l2:bg<w.heap.size
theorem Fi.start{ns:List Nd}{cg bg:Nat}{w:World}{p:Option Addr}{s:St}(a:Dy ns.length cg bg s w):Fi ns cg bg w p [] s ((w.alloc (.map #[] 0)).alloc (scO w p)):=by
 obtain⟨n0,n1,n2,n3,d⟩:=MY w p;exact⟨Kp.Ky n3,by omega,n0,n1,n2,a.below n3,(a.c.lt cg rfl).2,(a.b.lt bg rfl).2⟩
theorem Fi.enter{ns:List Nd}{cg bg:Nat}{w:World}{p:Option Addr}{l a:Sp}{s g:St}{wr d:World}(h:Fi ns cg bg w p l s wr)(c:Ku cg bg w.heap.size wr d)(j:Dy ns.length cg bg g d)(k:Kv d w.heap.size a):Fi ns cg bg w p a g d:=by
 have m:=h.l1;have n:=h.l2;refine⟨Ku.kp h.kp c (X4 _),Xd h.sz c.size,?_,?_,k,j,h.l1,h.l2⟩
 .exact(c.cell (p:=⟨w.heap.size+1,0,none⟩) h.sz (show w.heap.size+1≠cg by omega) (show w.heap.size+1≠bg by omega) (show w.heap.size+1≠w.heap.size by omega)).trans h.c0
 .exact(c.cell (p:=⟨w.heap.size+1,1,none⟩) h.sz (show w.heap.size+1≠cg by omega) (show w.heap.size+1≠bg by omega) (show w.heap.size+1≠w.heap.size by omega)).trans h.c1
theorem Fi.row{ns:List Nd}{cg bg:Nat}{w:World}{p:Option Addr}{l:Sp}{s:St}{wr a:World}(h:Fi ns cg bg w p l s wr)(k:Ku cg bg w.heap.size wr a){v:Value}{n:Nat}{c:List Value}(j:wr.ownsRow (w.heap.size+2) 3 1 v n c):a.ownsRow (w.heap.size+2) 3 1 v n c:=by
 have m:=h.l1;have q:=h.l2;exact ER j fun g r d=>k.block g d (by omega) (by omega) (by omega)
theorem Fi.grown{ns:List Nd}{cg bg:Nat}{w:World}{p:Option Addr}{k:Sp}{s:St}{wr j:World}(h:Fi ns cg bg w p k s wr){row:Option Nat}(d:wr.grownBy j row)(g:∀q,row=some q->w.heap.size+2<=q):Fi ns cg bg w p k s j:=by
 have l:=h.l1;have m:=h.l2;have n:=h.sz;have c:∀b,b<w.heap.size+2->j.heap[b]?=wr.heap[b]?:=fun b c=>d.block b (by omega) (fun e=>by have:=g b e.symm;omega)
 exact⟨h.kp.grown d (fun q e=>by have:=g q e;omega),Xd h.sz d.size,(Xy (a:=⟨w.heap.size+1,0,none⟩) (c (w.heap.size+1) (by omega))).trans h.c0,(Xy (a:=⟨w.heap.size+1,1,none⟩) (c (w.heap.size+1) (by omega))).trans h.c1,h.sp.same (c _ (by omega)),
  h.dy.grown d (fun e=>by have:=g _ e;omega) (fun e=>by have:=g _ e;omega),h.l1,h.l2⟩
theorem Fi.alloc{ns:List Nd}{cg bg:Nat}{w:World}{p:Option Addr}{a:Sp}{s:St}{wr:World}(h:Fi ns cg bg w p a s wr)(o:Obj):Fi ns cg bg w p a s (wr.alloc o):=h.grown (World.grownBy_alloc wr o none) (fun q e=>by cases e)
theorem Ex{v:Value}{n:Nat}{w:World}{base:Nat}{e:TypeId}{size:Nat}{a:List Value}(h:w.ownsRow base e size v n a):∀q,v.ownBlock=some q->base<=q:=fun q e=>(h.lt q e).1
theorem CL{v:Value}{n:Nat}{w:World}{base:Nat}{e:TypeId}{m:List Value}(h:w.ownsRow base e 1 v n m):∃a c,v= .slice a n c:=by
 rcases h.2 with⟨j,k⟩|⟨q,d,g,l,_⟩
 .refine⟨none,0,?_⟩;rw[j];have:n=0:=by have:=h.1;simp[k]at this;omega
  rw[this]
 .exact⟨_,_,l⟩
theorem Y0m{cg bg:Nat}{w:World}{B:Nat}{v:Value}{ls:List Nat}(h:w.ownsRow B 3 1 v ls.length (ls.map YW))(m:cg<B)(n:bg<B):PlV cg bg w v ls:=by
 have c:=h;rcases h.2 with⟨j,k⟩|⟨g,a,d,l,q,_⟩
 .exact .inl ⟨none,0,j,by simpa using k⟩
 .subst l;exact .inr ⟨g,0,a,rfl,by omega,by omega,(Qx c).1,Mr c⟩
theorem C2(ns:List Nd)(ls:List Nat):(ls.filter fun x=>X8 ns x !=23).length<=ls.length:=List.length_filter_le _ _
theorem Tq(ns:List Nd)(ks:List (List Nat))(a:∀k,(X9 ks k).length<=5000)(ls:List Nat):(Yn ns ks ls).length<=ls.length*5000:=by
 unfold Yn;induction ls with
 | nil=>simp
 | cons x r c=>
  rw[GO,Xo,Ya];have:(Ja ns ks x).length<=5000:=by
   unfold Ja;split
   .simp
   .split
    .exact a x
    .simp
  omega
theorem X8b(ns:List Nd)(ks:List (List Nat))(wb tg tc kg kc cg bg f:Nat)(G:Nat->List Sp->St->St)(hG:Vo ns ks wb tg tc kg kc cg bg f G)(hn:ns.length<=5000)(ls:List Nat)(g o c:Nat)(ch:List Sp)(p:Option Addr)(s:St)(w:World)(d0:∀x∈ls,x<f/\x<ns.length)(hl:ls.length<=5000)(c9:∀k (h:k<ks.length),∀x∈ks[k],x<ns.length)(c8:∀k,(X9 ks k).length<=5000)(hF:Ix ns ks wb tg tc kg kc cg bg w)(hD:Dy ns.length cg bg s w)(hC:Zf cg bg w w.heap.size p ch)(e3:g≠cg)(e4:g≠bg)(hI:Yz w g o ls): Calls prog 157 #[.pointer (some ⟨wb,0,none⟩),.slice (some ⟨g,o,none⟩) ls.length c,.pointer p] w fun e w'=>e= .returned (.tuple #[])/\Kp cg bg w w'/\Dy ns.length cg bg (WH G ns ks ls ch s) w':=by
 obtain⟨iI,P,b9,b8,b7⟩:=Yk WZ;have HG:=X1 hG;have X:=X1 hF;have HD:=X1 hD;have HC:=X1 hC;have HI:=X1 hI;have b1:=X1 d0;have d9:=X1 c9;have b0:=X1 c8;have b5:=X1 (Fi.start (p:=p) hD);clear hG hF hD hC hI d0 c9 c8;go_enter func157,ntmps157;go_wp2_with fail;refine(IJ p w).mono ?_;rintro e w1⟨rfl,d4⟩;have b6:Hid (Fi ns cg bg w p [] s w1):=X1 (by rw[d4];exact b5.o);clear d4 b5;go_wp2
 go_loopw[7,16] (fun v7 t wr=>∃(i:Nat),i<=ls.length/\t= .int .i64 i/\Fi ns cg bg w p (ZR ns (Yn ns ks (ls.take i)) ([],s)).1 (ZR ns (Yn ns ks (ls.take i)) ([],s)).2 wr/\
   wr.ownsRow (w.heap.size+2) 3 1 v7 ((ls.take i).filter (fun x=>X8 ns x !=23)).length (((ls.take i).filter (fun x=>X8 ns x !=23)).map YW)) (fun _ t _=>ls.length-(intOf t).toNat)
 case atStart=>exact⟨0,X6 _,rfl,b6.o,⟨rfl,.inl ⟨rfl,rfl⟩⟩⟩
 case round=>
  obtain⟨i,hi,rfl,m,ho⟩:=hrel;have f8:=m.sz;have e8:=m.l1;have e9:=m.l2;have a:=X1 m;have Z:=X1 ho;have A:=X1 (X.o.kept m.kp);by_cases M:i<ls.length
  .have hx:=(m.kp.cell (p:=⟨g,o+i,none⟩) HI.o.1 e3 e4).trans (HI.o.2 i M);have D:=b1.o _ (XR M);have a6:ls[i]<ks.length:=by rw[A.o.len];exact D.2
   have f0:=A.o.f0;have f1:=A.o.f1;obtain⟨a0,_⟩:=A.o.nodes.2 ls[i] D.2;obtain⟨v2,Q,d2⟩:=X.o.kids ls[i] (by rw[X.o.len];exact D.2);have e6:=(m.kp.cell (p:=⟨kg,ls[i],none⟩) X.o.klt X.o.kg1 X.o.kg2).trans Q;obtain⟨a7,c7,f5⟩:=CL ho;subst f5;clear Q;have HM:=X1 (Av ns ks ls i M);have B:=X1 (show Ja ns ks ls[i]=if ns[ls[i]].kind=20\/ns[ls[i]].kind=21 then[ls[i]]else if ns[ls[i]].kind=23 then ks[ls[i]]else[] by
    unfold Ja;rw[ZC D.2,show X9 ks ls[i]=ks[ls[i]]from by simp[X9,a6]])
   have I:=X1 (show(ls.take (i+1)).filter (fun x=>X8 ns x !=23)=(ls.take i).filter (fun x=>X8 ns x !=23)++(if ns[ls[i]].kind=23 then[]else[ls[i]]) by rw[NF ns ls i M,ZC D.2]);have a4:=d9.o ls[i] a6;have f6:(ks[ls[i]]).length<=5000:=by have:=b0.o ls[i];rwa[show X9 ks ls[i]=ks[ls[i]]from by simp[X9,a6]]at this
   have F:=Af ns (Yn ns ks (ls.take i)) ([],s);have d1:=Tq ns ks b0.o (ls.take i);have e2:=C2 ns (ls.take i);rw[YM,QL hi]at d1 e2;have f4:(ZR ns (Yn ns ks (ls.take i)) ([],s)).1.length<=25000000:=by simp only[ZN]at F;omega
   have W:=X1 (Ae ns (Yn ns ks (ls.take i)) (Ja ns ks ls[i]) ([],s));rw[←HM.o]at W;clear m ho F d1 HM;generalize e1:ZR ns (Yn ns ks (ls.take i)) ([],s)=ee at *;obtain⟨S,V⟩:=ee;clear e1;simp only at f4;generalize(ls.take i).filter (fun x=>X8 ns x !=23)=r at *;generalize ns[ls[i]].kind=kx at *;generalize ks[ls[i]]=kp at *;generalize g0:ls[i]=y at *;by_cases K:kx=23
   .subst K;have v:Hid (ZR ns (Yn ns ks (ls.take (i+1))) ([],s)=ZR ns kp (S,V)):=X1 (by rw[W.o,B.o,X2 (by omega),X3 rfl]);have n:Hid ((ls.take (i+1)).filter (fun x=>X8 ns x !=23)=r):=X1 (by rw[I.o,X3 rfl,VS]);clear W I B;rcases d2 with⟨a2,c2,rfl,rfl⟩|⟨g2,o2,c2,rfl,f2,f3,f7,d3⟩
    .go_wp2;go_loopw[38] (fun t wq=>t= .int .i64 0/\wq=wr) (fun _ _=>0)
     case atStart=>exact⟨rfl,rfl⟩
     case round=>
      obtain⟨rfl,rfl⟩:=hrel;go_wp2;go_roundw
      case rel=>exact⟨i+1,by omega,by go_num,by rw[v.o];exact a.o,by rw[n.o];exact Z.o⟩
      case measure=>simp[intOf];omega
    .have b4:=X1 d3;have d7:=X1 a4;clear d3 a4;go_wp2;go_loopw[38] (fun t wq=>∃j:Nat,j<=kp.length/\t= .int .i64 j/\Fi ns cg bg w p (ZR ns (kp.take j) (S,V)).1 (ZR ns (kp.take j) (S,V)).2 wq/\wq.ownsRow (w.heap.size+2) 3 1 (.slice a7 r.length c7) r.length (r.map YW)) (fun t _=>kp.length-(intOf t).toNat)
     case atStart=>exact⟨0,X6 _,rfl,a.o,Z.o⟩
     case round=>
      obtain⟨j,hj,rfl,q,a8⟩:=hrel;have J:=X1 q;have b3:=X1 a8;by_cases a5:j<kp.length
      .have f9:=(q.kp.cell (p:=⟨g2,o2+j,none⟩) b4.o.1 f2 f3).trans (b4.o.2 j a5);have HA:=X1 (Nr ns kp j (S,V) a5);have e7:=d7.o _ (XR a5);have F:=Af ns (kp.take j) (S,V);rw[YM,QL hj]at F;simp only at F;have H:=X1 (Iw ns ks wb tg tc kg kc cg bg kp[j] (w.heap.size+1) w.heap.size _ _ _ hn e7 (X.o.kept q.kp) q.dy q.c0 q.sp (by omega) (by omega) (by omega));clear q a8;generalize kp[j]=z at *;go_wp2_with fail;refine H.o.mono ?_;rintro e w3⟨rfl,C,L,N⟩;go_wp2;go_roundw
       case rel=>exact⟨j+1,by omega,by go_num,by rw[HA.o];exact J.o.enter C L N,J.o.row C b3.o⟩
       case measure=>simp[intOf];omega
      .have ej:kp.take j=kp:=U7 (by omega);rw[ej]at J;clear q a8;go_wp2;go_roundw
       case rel=>exact⟨i+1,by omega,by go_num,by rw[v.o];exact J.o,by rw[n.o];exact b3.o⟩
       case measure=>simp[intOf];omega
   .have g5:(kx==23)=false:=by simpa using K
    have n:Hid ((ls.take (i+1)).filter (fun x=>X8 ns x !=23)=r++[y]):=X1 (by rw[I.o,X2 K]);clear I d2 e6 a4;by_cases a3:kx=20\/kx=21
    .have v:Hid (ZR ns (Yn ns ks (ls.take (i+1))) ([],s)=ZB ns y (S,V)):=X1 (by rw[W.o,B.o,X3 a3];rfl);have H:=X1 (Iw ns ks wb tg tc kg kc cg bg y (w.heap.size+1) w.heap.size S V wr hn D.2 A.o a.o.dy a.o.c0 a.o.sp (by omega) (by omega) (by omega));clear W B;rcases a3 with rfl|rfl;all_goals
      go_wp2_with fail;refine H.o.mono ?_;rintro e w3⟨rfl,C,L,N⟩;have a9:=X1 (a.o.enter C L N);have b2:=X1 (a.o.row C Z.o);have g1:=a9.o.sz;clear C L N H;go_wp2_with(at_builtin;refine Yg _ rfl _ _ 55 rfl (w.heap.size+2) 3 iI (.int .i64 0) 1 8 underlying55 P b9 b8 b7 rfl (by decide) (.slice a7 r.length c7) r.length (r.map YW) rfl (b2.o.alloc _) ⟨w3.heap.size,0,none⟩ 1 1 [.int .i64 y] rfl rfl (UO _ _ _) (by simp[Value.oneCell']) (by unfold maxLen;omega) (by omega) (by simp;omega) ?_);intro v4 w4 l d u E;have Y:=X1 ((a9.o.alloc _).grown d (Ex b2.o));have a1:Hid (w4.ownsRow (w.heap.size+2) 3 1 v4 (r++[y]).length ((r++[y]).map YW)):=X1 (by rw[ZO,Xo];exact l);clear d u E l;go_wp2;go_roundw
      case rel=>exact⟨i+1,by omega,by go_num,by rw[v.o];exact Y.o,by rw[n.o];exact a1.o⟩
      case measure=>simp[intOf];omega
    .have g3:(kx==20)=false:=by simp;omega
     have g4:(kx==21)=false:=by simp;omega
     have v:Hid (ZR ns (Yn ns ks (ls.take (i+1))) ([],s)=(S,V)):=X1 (by rw[W.o,B.o,X2 a3,X2 K];rfl);clear W B;go_wp2_with(at_builtin;refine Yg _ rfl _ _ 55 rfl (w.heap.size+2) 3 iI (.int .i64 0) 1 8 underlying55 P b9 b8 b7 rfl (by decide) (.slice a7 r.length c7) r.length (r.map YW) rfl (Z.o.alloc _) ⟨wr.heap.size,0,none⟩ 1 1 [.int .i64 y] rfl rfl (UO _ _ _) (by simp[Value.oneCell']) (by unfold maxLen;omega) (by omega) (by simp;omega) ?_);intro v4 w4 l d u E;have Y:=X1 ((a.o.alloc _).grown d (Ex Z.o));have a1:Hid (w4.ownsRow (w.heap.size+2) 3 1 v4 (r++[y]).length ((r++[y]).map YW)):=X1 (by rw[ZO,Xo];exact l);clear d u E l;go_wp2;go_roundw
     case rel=>exact⟨i+1,by omega,by go_num,by rw[v.o];exact Y.o,by rw[n.o];exact a1.o⟩
     case measure=>simp[intOf];omega
  .have e:ls.take i=ls:=U7 (by omega);rw[e]at a Z;have d6:=X1 (HC.o.inner a.o.kp a.o.c0 a.o.c1 a.o.sp a.o.sz e8 e9);have d5:=X1 (Ih ns ks wb tg tc kg kc cg bg f G HG.o (ls.filter fun x=>X8 ns x !=23) _ _ _ _ wr (fun x hx=>b1.o x (P2.1 hx).1) (by have:=C2 ns ls;omega) A.o a.o.dy d6.o (Y0m Z.o (by omega) (by omega)));have d8:=X1 m.kp;clear m ho;go_wp2_with fail;refine d5.o.mono ?_;rintro e w2⟨rfl,e5,e0⟩;go_wp2;(first|go_end0|refine X7 (Yf rfl _ _ _) rfl ?_);exact⟨rfl,d8.o.trans e5,e0⟩
