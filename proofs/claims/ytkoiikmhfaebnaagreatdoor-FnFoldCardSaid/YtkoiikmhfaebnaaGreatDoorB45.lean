import Derived.Test.YtkoiikmhfaebnaaGreatDoorB44
set_option maxHeartbeats 4000000
set_option maxRecDepth 100000
namespace Go.Proofs.YtkoiikmhfaebnaaGreatDoor
open Go.Proofs.Tryz Go.RowKit
theorem Fd.X5e(O:FOp)(F:Fd->Fd){x:Nd}(h:x.kind=13)(p b:Int)(k l m:Fd):Fd.fin O F x p b [k,l,m]=if k.x.kind=2 then(if k.x.n=1 then l else m)else .mk x p b [k,l,m]:=by
 unfold Fd.fin;rw[X2 (by omega),X2 (by omega),X3 h]
theorem Fd.Y0u{B:Nat->Prop}{w:World}{x:Nd}{p b:Int}{k l m:Fd}{v:Value}(h:Fd.Pt B w (.mk x p b [k,l,m]) v):∃g c d j n,v=Ip.pv (Fd.nk x 3) (.slice (some ⟨g,0,none⟩) 3 c)/\B g/\w.cell? ⟨g,0,none⟩=some d/\w.cell? ⟨g,1,none⟩=some j/\w.cell? ⟨g,2,none⟩=some n/\Fd.Pt B w k d/\Fd.Pt B w l j/\Fd.Pt B w m n:=by
 obtain⟨E,F,q,a,r,t⟩:=(Fd.Q2 _ _ _ _ _ _ _).1 h;obtain⟨g,c,rfl⟩:=Q3 a (by simp);obtain⟨d,s,rfl,z,u⟩:=(Fd.Ka _ _ _ _).1 t;obtain⟨j,s,rfl,A,y⟩:=(Fd.Ka _ _ _ _).1 u;obtain⟨n,s,rfl,C,D⟩:=(Fd.Ka _ _ _ _).1 y;exact⟨g,c,d,j,n,q,r g rfl,ZF a rfl,ZF a rfl,ZF a rfl,z,A,C⟩
theorem X4s(k o n c k' d a c':Int)(t g:ByteArray)(w:World):(binOp .eql 48 (.agg #[.int .i64 k,.int .i64 o,.int .i64 n,.string t,.int .i64 c]) (.agg #[.int .i64 k',.int .i64 d,.int .i64 a,.string g,.int .i64 c'])).run prog w= .ok (.bool (k==k'&&(o==d&&(n==a&&((t.toList==g.toList)&&c==c'))))) w:=by
 have v:=underlying3;have y:=underlying2;have z:=underlying9;have s:prog.underlying 48=some (.struct (prog.fieldsOf 48)):=by kernel_rfl
 have u:prog.stoodInHeld 48=false:=by kernel_rfl
 rw[run_eql_struct,show(10000:Nat)=9999+1 from rfl,run_equalIn_agg w 9999 48 _ _ s u];simp only[Program.fieldsOf,underlying48];go_simp;by_cases j:k=k'<;>by_cases l:o=d<;>by_cases m:n=a<;>by_cases q:t.toList=g.toList<;>by_cases r:c=c'<;>simp[j,l,m,q,r]
theorem Ma{x:Nd}(h:Fd.isC x->Fd.CN x)(c z:Int)(j:x.kind=2->c=0)(w:World):(binOp .eql 48 (.agg #[.int .i64 x.kind,.int .i64 x.op,.int .i64 x.n,.string x.text,.int .i64 c]) (.agg #[.int .i64 2,.int .i64 0,.int .i64 z,.string ⟨#[]⟩,.int .i64 0])).run prog w= .ok (.bool (decide (x.kind=2/\x.n=z))) w:=by
 rw[X4s];by_cases a:x.kind=2
 .have d:=h ⟨by omega,by omega⟩;rw[a,d.op,d.text (by omega),j a];by_cases g:x.n=z<;>simp[g]
 .rw[Yb (fun e=>a e.1)];simp[a]
theorem Su(w:World):Calls prog 309 #[.bool true] w fun e w'=>e= .returned (.agg #[.int .i64 2,.int .i64 0,.int .i64 1,.string ⟨#[]⟩,.int .i64 0])/\Below w.heap.size w w':=Fl true w
theorem Ol(w:World):Calls prog 309 #[.bool false] w fun e w'=>e= .returned (.agg #[.int .i64 2,.int .i64 0,.int .i64 0,.string ⟨#[]⟩,.int .i64 0])/\Below w.heap.size w w':=Fl false w
theorem X7y{O:FOp}(hO:Fd.Uy O){fb f:Nat}(o m c0:Int)(t:ByteArray)(p b:Int)(k l j:Fd)(B:Nat->Prop)(sp:Option Addr)(sc:Nat)(w:World)(hA:Anw O fb f B w ⟨13,o,m,t,c0⟩ p b [k,l,j] sp sc)(a0:Fd.Good k): Calls prog 318 #[Ip.ag 13 o m 3 t (.slice sp 3 sc),pt fb] w fun e w'=>∃z,e= .returned z/\ZG B w (Fd.fold O (f+1) (.mk ⟨13,o,m,t,c0⟩ p b [k,l,j])) z w':=by
 have HF:=X1 (show Fd.fold O (f+1) (.mk ⟨13,o,m,t,c0⟩ p b [k,l,j])=_ from(Fd.fold_succ O f ⟨13,o,m,t,c0⟩ p b [k,l,j]).trans (Fd.X5e O (Fd.fold O f) (x:=⟨13,o,m,t,c0⟩) rfl p b (Fd.fold O f k) (Fd.fold O f l) (Fd.fold O f j)));have d:=X1 (Fd.UX hO f k a0);have A:=X1 hA.L9;have HB:=X1 hA.inB;have E:[k,l,j].map (Fd.fold O f)=[Fd.fold O f k,Fd.fold O f l,Fd.fold O f j]:=rfl;rw[E]at A;have HE:Hid ([k,l,j].length=3):=X1 rfl;rw[HE.o]at A;clear hA a0 E HE;generalize Fd.fold O f k=k' at *;generalize Fd.fold O f l=l' at *;generalize Fd.fold O f j=c at *;have b0:BL w (w.alloc (stO 200 13 o m 3 t (.slice sp 3 sc))):=bA _;have S:=X1 b0;clear b0;go_enter func318,ntmps318;go_wp2_with fail;refine(A.o _ S.o).mono ?_;rintro e w1⟨z1,rfl,a5⟩;have g:=X1 (a5.from S.o);clear a5 A;obtain⟨J,c1,v0,v1,v2,rfl,b4,a6,a7,a8,a3,Q,N⟩:=Fd.Y0u g.o.1;have M:J<w1.heap.size:=b4.elim (fun e=>Xd (HB.o J e) g.o.2.size) (fun e=>e.2);obtain⟨p0,n0,C,b5⟩:=Fd.RU a3;subst b5;obtain⟨t1,u1,b6⟩:=Q.iface;subst b6;obtain⟨t2,u2,b7⟩:=N.iface;subst b7;have b1:=X1 Q;have a9:=X1 N;have Z:=X1 a6;have b2:=X1 a7;have b3:=X1 a8;have b8:=Ge 13 o m 3 t (.slice (some ⟨J,0,none⟩) 3 c1);have V:=X1 (fun w=>G9 13 o m 3 t (.slice (some ⟨J,0,none⟩) 3 c1) ⟨_,_,_,rfl⟩ w);have b9:=Dc k'.x.kind k'.x.op k'.x.n (k'.ks.length:Nat) k'.x.text (.slice p0 n0 C);have X:=X1 (fun w=>D5 k'.x.kind k'.x.op k'.x.n (k'.ks.length:Nat) k'.x.text (.slice p0 n0 C) ⟨_,_,_,rfl⟩ w);have P:k'.x.kind=2->((k'.ks.length:Nat):Int)=0:=fun h=>by rw[(d.o.const ⟨by omega,by omega⟩).2];rfl
 have E1:=Ma (fun h=>(d.o.const h).1) (k'.ks.length:Nat) 1 P;have E0:=Ma (fun h=>(d.o.const h).1) (k'.ks.length:Nat) 0 P;have v:Hid (k'.x.kind=2->k'.x.n=0\/k'.x.n=1):=X1 (fun h=>(d.o.const ⟨by omega,by omega⟩).1.bit h);have a4:Ip.pv (Fd.nk k'.x k'.ks.length) (.slice p0 n0 C)=Ip.pv ⟨k'.x.kind,k'.x.op,k'.x.n,k'.x.text,(k'.ks.length:Nat)⟩ (.slice p0 n0 C):=rfl;rw[a4]at Z;clear a3 Q N a6 a7 a8 a4 P d;have s:(decide (k'.x.kind=2/\k'.x.n=1)=true/\(if k'.x.kind=2 then(if k'.x.n=1 then l' else c)else .mk ⟨13,o,m,t,c0⟩ p b [k',l',c])=l')\/(decide (k'.x.kind=2/\k'.x.n=1)=false/\decide (k'.x.kind=2/\k'.x.n=0)=true/\(if k'.x.kind=2 then(if k'.x.n=1 then l' else c)else .mk ⟨13,o,m,t,c0⟩ p b [k',l',c])=c)\/(decide (k'.x.kind=2/\k'.x.n=1)=false/\decide (k'.x.kind=2/\k'.x.n=0)=false/\(if k'.x.kind=2 then(if k'.x.n=1 then l' else c)else .mk ⟨13,o,m,t,c0⟩ p b [k',l',c])= .mk ⟨13,o,m,t,c0⟩ p b [k',l',c]):=by
  by_cases K:k'.x.kind=2
  .rw[X3 K];rcases v.o K with h|h
   .exact .inr (.inl ⟨Yb (fun e=>by omega),YJ ⟨K,h⟩,X2 (by omega)⟩)
   .exact .inl ⟨YJ ⟨K,h⟩,X3 h⟩
  .rw[X2 K];exact .inr (.inr ⟨Yb (fun e=>K e.1),Yb (fun e=>K e.1),rfl⟩)
 have y:=X1 s;clear s;obtain⟨Y,hY⟩:∃Y,Y=(if k'.x.kind=2 then(if k'.x.n=1 then l' else c)else .mk ⟨13,o,m,t,c0⟩ p b [k',l',c]):=⟨_,rfl⟩;unfold Fd.nk Ip.pv at *;go_wp2_with fail;refine(V.o _).mono ?_;rintro e w2⟨rfl,L⟩;have H:=X1 L;have e0:=(L.cell (p:=⟨J,0,none⟩) M).trans Z.o;clear L V;go_wp2_with fail;refine(X.o _).mono ?_;rintro e w3⟨rfl,a1⟩;have I:=X1 (H.o.trans (a1.mono H.o.size));clear a1 X H e0 hY Y;go_wp2_with fail;refine(Su _).mono ?_;rintro e w4⟨rfl,a2⟩;have a:=X1 (I.o.trans (a2.mono I.o.size));clear a2 I;rcases y.o with⟨D,F⟩|⟨D,d0,F⟩|⟨D,d0,F⟩
 .rw[D]at E1;have e1:=(a.o.cell (p:=⟨J,1,none⟩) M).trans b2.o;have W:Hid (ZG B w l' (.iface t1 u1) w4):=X1 ((show ZG B w l' (.iface t1 u1) w1 from⟨b1.o,g.o.2⟩).below HB.o a.o);have q:=X1 F;clear D E0 F y v;go_wp2;go_ret;exact⟨_,rfl,by rw[HF.o,q.o];exact W.o⟩
 .rw[D]at E1;rw[d0]at E0;have q:=X1 F;clear D d0 F y v;go_wp2_with fail;refine(Ol _).mono ?_;rintro e w5⟨rfl,r⟩;have u:=X1 (a.o.trans (r.mono a.o.size));have e2:=(u.o.cell (p:=⟨J,2,none⟩) M).trans b3.o;have W:Hid (ZG B w c (.iface t2 u2) w5):=X1 ((show ZG B w c (.iface t2 u2) w1 from⟨a9.o,g.o.2⟩).below HB.o u.o);clear r;go_wp2;go_ret;exact⟨_,rfl,by rw[HF.o,q.o];exact W.o⟩
 .rw[D]at E1;rw[d0]at E0;have q:=X1 F;clear D d0 F y v;go_wp2_with fail;refine(Ol _).mono ?_;rintro e w5⟨rfl,r⟩;have u:=X1 (a.o.trans (r.mono a.o.size));have W:=X1 (g.o.below HB.o u.o);clear r;go_wp2;go_ret;exact⟨_,rfl,by rw[HF.o,q.o];exact W.o⟩
theorem Fd.X5g(O:FOp)(F:Fd->Fd){x:Nd}(h:x.kind=6)(p b:Int)(k:Fd):Fd.fin O F x p b [k]=if Fd.isC k.x then Fd.back (.mk x p b [k]) (O.un x.op k.x)else .mk x p b [k]:=by
 unfold Fd.fin;rw[X3 h]
theorem Fd.X5h(O:FOp)(F:Fd->Fd){x:Nd}(h:x.kind=7)(p b:Int)(k l:Fd):Fd.fin O F x p b [k,l]=if Fd.stops x.op k.x then k else if Fd.isC k.x/\Fd.isC l.x then Fd.back (.mk x p b [k,l]) (O.bin x.op k.x l.x)else .mk x p b [k,l]:=by
 unfold Fd.fin;rw[X2 (by omega),X3 h]
theorem Fd.Sr{x:Nd}(h:Fd.CN x):(Fd.tn x).Y0=true/\(Fd.tn x).kind<=4/\Vl.Xp (Fd.tn x).num:=by
 have d:=h.c;unfold Fd.isC at d;have l:=h.n0;have m:=h.n1;refine⟨?_,d.2,?_⟩
 .rw[Vl.T.UW];have k:Vl.plain (Fd.tn x).kind (Fd.tn x).num (Fd.tn x).text (Fd.tn x).ks=true:=by
   show Vl.plain x.kind x.n x.text []=true;have g:x.kind=1\/x.kind=2\/x.kind=3\/x.kind=4:=by omega
   unfold Vl.plain;rcases g with e|e|e|e
   .rw[h.zero (by omega) (by omega),h.text (by omega),e];decide +kernel
   .rw[h.text (by omega),e];rcases h.bit e with a|a<;>rw[a]<;>decide +kernel
   .rw[h.text (by omega),e];simp;rfl
   .have j:=h.long;rw[h.zero (by omega) (by omega),e];simp[j]
  rw[k];rfl
 .show Vl.Xp x.n;unfold Vl.Xp;omega
theorem Mg{p z:Int}(h:Vl.XL p=some z):-9223372036854775808<=z:=by
 unfold Vl.XL at h;split at h
 .cases h;omega
 .cases h
def Fd.og(o:Vl.Out):Prop:=o.BU/\∀t,o= .inr t-> -9223372036854775808<=t.num
theorem Fd.Gf{l:List UInt8}(h:l≠[]):Fd.og (.inl l):=⟨h,fun t e=>by cases e⟩
theorem Fd.MG(b:Bool):Fd.og (.inr (Vl.YT b)):=⟨trivial,fun t e=>by cases e;cases b<;>decide⟩
theorem Fd.RF{z:Int}(h:-9223372036854775808<=z):Fd.og (.inr (Vl.QF z)):=⟨trivial,fun t e=>by cases e;exact h⟩
theorem Fd.MI{r:Option Int}{l:List UInt8}(h:l≠[])(a:∀z,r=some z-> -9223372036854775808<=z):Fd.og (Vl.Qw r l):=by
 cases r with
 | none=>exact Fd.Gf h
 | some z=>exact Fd.RF (a z rfl)
theorem Fd.Jh{c:Prop}[Decidable c]{a b:Vl.Out}(d:c->Fd.og a)(g:¬c->Fd.og b):Fd.og (if c then a else b):=by
 by_cases h:c
 .rw[X3 h];exact d h
 .rw[X2 h];exact g h
theorem Fd.QS:Fd.og (.inl Vl.tyW):=Fd.Gf (by decide)
theorem Fd.MH:∀l:List Vl.Out,(∀o∈l,Fd.og o)->Fd.og (Vl.KY l)
 | [],_=>Fd.QS
 | o::r,h=>by
  rw[Vl.KY];split
  .exact Fd.MH r (fun o a=>h o (by simp[a]))
  .exact h o (by simp)
theorem Fd.Em(op:Int)(t:Vl.T):Fd.og (Vl.QX op t):=by
 unfold Vl.QX;exact Fd.Jh (fun _=>Fd.Jh (fun _=>Fd.MG _) fun _=>Fd.QS) fun _=>Fd.Jh (fun _=>Fd.MI (by decide) fun z h=>Mg h) fun _=>Fd.QS
theorem Fd.El(op:Int)(x y:Nd)(m:Fd.CN x)(q:Fd.CN y):Fd.og (Vl.Yh op (Fd.tn x) (Fd.tn y)):=by
 unfold Vl.Yh;have d:∀(c:Prop) [Decidable c] b,Fd.og (if c then .inr (Vl.YT b)else .inl Vl.tyW):=fun c _ b=>Fd.Jh (fun _=>Fd.MG _) fun _=>Fd.QS;have al:∀l t u,Fd.og (Vl.alike l t u):=fun l t u=>by
  refine Fd.MH _ fun o a=>?_;simp only[Xu,Yc,Y6,ZA,Zy]at a;rcases a with rfl|rfl|rfl|rfl
  .exact d _ _
  .exact d _ _
  .exact d _ _
  .exact Fd.QS
 cases h:Vl.Un[(op-1).toNat]? with
 | none=>exact Fd.QS
 | some R=>
  have k:=SX h;unfold Vl.Un at k;simp only[Y6,ZA,Zy]at k;show Fd.og (R (Fd.tn x) (Fd.tn y));have g:=m.n0;have v:=m.n1;have j:=q.n0;have s:=q.n1;rcases k with rfl|rfl|rfl|rfl|rfl|rfl|rfl|rfl|rfl|rfl|rfl|rfl|rfl|rfl
  .exact d _ _
  .exact d _ _
  .exact Fd.MG _
  .exact Fd.MG _
  .exact al _ _ _
  .exact al _ _ _
  .exact al _ _ _
  .exact al _ _ _
  .refine Fd.MH _ fun o a=>?_;simp only[Xu,Yc,Y6,ZA,Zy]at a;rcases a with rfl|rfl|rfl
   .exact d _ _
   .exact Fd.QS
   .exact Fd.QS
  .refine Fd.MH _ fun o a=>?_;simp only[Xu,Yc,Y6,ZA,Zy]at a;rcases a with rfl|rfl|rfl|rfl
   .exact Fd.Jh (fun _=>Fd.MI (by decide) fun z h=>Mg h) fun _=>Fd.QS
   .exact Fd.Jh (fun _=>Fd.Jh (fun _=>⟨trivial,fun t e=>by cases e;show(-9223372036854775808:Int)<=0;decide⟩) fun _=>Fd.Gf (by decide)) fun _=>Fd.QS
   .exact Fd.QS
   .exact Fd.QS
  .exact Fd.Jh (fun _=>Fd.MI (by decide) fun z h=>Mg h) fun _=>Fd.QS
  .exact Fd.Jh (fun _=>Fd.MI (by decide) fun z h=>Mg h) fun _=>Fd.QS
  .refine Fd.Jh (fun _=>Fd.Jh (fun _=>Fd.Gf (by decide)) fun r=>Fd.Jh (fun _=>Fd.Gf (by decide)) fun _=>Fd.RF ?_) fun _=>Fd.QS;show _<=Vl.Jw x.n y.n;unfold Vl.Jw;rw[Mz g j,X2 (by decide)];have:=Int.tdiv_nonneg g j;omega
  .refine Fd.Jh (fun _=>Fd.Jh (fun _=>Fd.Gf (by decide)) fun r=>Fd.RF ?_) fun _=>Fd.QS;show _<=Vl.Jx x.n y.n;unfold Vl.Jx;rw[Mz g j,X2 (by decide)];have:=SJ y.n g;omega
theorem Ew{op:Int}(a:1<=op)(c:op<=14):(Lit.int .i64 op).wf=true:=by
 have:op=1\/op=2\/op=3\/op=4\/op=5\/op=6\/op=7\/op=8\/op=9\/op=10\/op=11\/op=12\/op=13\/op=14:=by omega
 rcases this with rfl|rfl|rfl|rfl|rfl|rfl|rfl|rfl|rfl|rfl|rfl|rfl|rfl|rfl<;>decide
theorem Y5d{w:World}{r:Nat}(h:Tb w r){op:Int}(y:1<=op)(A:op<=2):∃d F q,w.cell? ⟨r,1,none⟩=some (.map (some d))/\(∀W,Below w.heap.size w W->(Instr.lookup 38 (.map (some d)) (.int .i64 op) false).run prog W= .ok (Js 1 F q) W)/\(∀a w,(callFunc F a).run prog w= .ok (.enter F a) w)/\∀x,Fd.CN x->∀W,Below w.heap.size w W->∀g j,W.cell? ⟨g,0,none⟩=some (Fd.dn x)->Calls prog F #[.slice (some ⟨g,0,none⟩) 1 j,.pointer (some ⟨q,0,none⟩)] W (Vl.YF (Vl.DoK W (Vl.QX op (Fd.tn x)))):=by
 obtain⟨d,b,c,s,v,t,u⟩:=h.uns;have z:=Ew (op:=op) y (by omega);have n:op=1\/op=2:=by omega
 have look:=fun(W:World) (k:BL w W)=>Vl.Y5e op b c d W z (Vl.Da v k);rcases n with rfl|rfl
 .refine⟨d,118,b,s,look,Vl.YZ func118 (by kernel_rfl) (by kernel_rfl),fun x l W k g j m=>?_⟩;exact Vl.Y5a (Fd.tn x) W b g j 0 _ ((k.cell (p:=⟨b,0,none⟩) (J1 w ⟨b,0,none⟩ t)).trans t) m (Fd.M8 l.c W 0)
 .refine⟨d,119,c,s,look,Vl.YZ func119 (by kernel_rfl) (by kernel_rfl),fun x l W k g j m=>?_⟩;exact Vl.Y5b (Fd.tn x) (Fd.Sr l).2.2 W c g j 0 _ ((k.cell (p:=⟨c,0,none⟩) (J1 w ⟨c,0,none⟩ u)).trans u) m (Fd.M8 l.c W 0)
theorem X0y{w:World}{t:Nat}(h:Tb w t){op:Int}(u:1<=op)(L:op<=14):∃mo F s,w.cell? ⟨t,0,none⟩=some (.map (some mo))/\(∀W,Below w.heap.size w W->(Instr.lookup 38 (.map (some mo)) (.int .i64 op) false).run prog W= .ok (Js 2 F s) W)/\(∀a w,(callFunc F a).run prog w= .ok (.enter F a) w)/\∀x y,Fd.CN x->Fd.CN y->∀W,Below w.heap.size w W->∀g k,g<W.heap.size->W.cell? ⟨g,0,none⟩=some (Fd.dn x)->W.cell? ⟨g,1,none⟩=some (Fd.dn y)->Calls prog F #[.slice (some ⟨g,0,none⟩) 2 k,.pointer (some ⟨s,0,none⟩)] W (Vl.YF (Vl.DoK W (Vl.Yh op (Fd.tn x) (Fd.tn y)))):=by
 obtain⟨B,l,K,n⟩:=h.ops;have P:=Ew (op:=op) u L;have v:l.length=14:=n.len;have hi:(op-1).toNat<l.length:=by omega
 have d:(op-1).toNat<Vl.Un.length:=by show _<14;omega
 obtain⟨lo,N,hlo,m⟩:=n.WU _ hi d;have r:Vl.La l op=Js 2 (l[(op-1).toNat]).1 (l[(op-1).toNat]).2:=by
  unfold Vl.La;rw[X3 u,YH hi];rfl
 refine⟨B.heap.size,(l[(op-1).toNat]).1,(l[(op-1).toNat]).2,K,fun W j=>?_,m.en,fun x y z A W j g k M c0 c1=>?_⟩
 .rw[←r];exact Vl.Y3a l op B.heap.size _ W P (Vl.Da n.map j)
 .have q:Vl.Yh op (Fd.tn x) (Fd.tn y)=Vl.Un[(op-1).toNat] (Fd.tn x) (Fd.tn y):=by
   unfold Vl.Yh;rw[YH d]
  rw[q];obtain⟨C,D,E⟩:=Fd.Sr z;obtain⟨H,I,J⟩:=Fd.Sr A;exact m.It W ((Vl.YQ.refl m.size).below j) (h.gi.below j) _ _ C H D I E J g k 0 0 _ _ M c0 c1 (Fd.M8 z.c W 0) (Fd.M8 A.c W 0)
theorem Vc.an{B:Nat->Prop}{w w1:World}{y:Fd}{e:Ending}{w':World}(h:Vc (fun q=>B q\/(w.heap.size<=q/\q<w1.heap.size)) w1 y e w')(a:BL w w1):∃z,e= .returned z/\ZG B w y z w':=by
 obtain⟨z,rfl,d,c⟩:=h;refine⟨z,rfl,Fd.Pt.go d (fun q e=>?_) (fun _ _=>rfl),a.trans (c.mono a.size)⟩;have:=c.size;have:=a.size;rcases e with(e|e)|e
 .exact .inl e
 .exact .inr ⟨e.1,by omega⟩
 .exact .inr ⟨by omega,e.2⟩
theorem Y4z{l f:Nat}(o m c0:Int)(t:ByteArray)(p b:Int)(k:Fd)(B:Nat->Prop)(u:Option Addr)(s:Nat)(w:World)(Q:Anw Fd.O l f B w ⟨6,o,m,t,c0⟩ p b [k] u s)(S:Fd.Good k)(ho:1<=o/\o<=2): Calls prog 299 #[Ip.ag 6 o m 1 t (.slice u 1 s),pt l] w fun e w'=>∃z,e= .returned z/\ZG B w (Fd.fold Fd.O (f+1) (.mk ⟨6,o,m,t,c0⟩ p b [k])) z w':=by
 have HF:=X1 (show Fd.fold Fd.O (f+1) (.mk ⟨6,o,m,t,c0⟩ p b [k])=_ from(Fd.fold_succ Fd.O f ⟨6,o,m,t,c0⟩ p b [k]).trans (Fd.X5g Fd.O (Fd.fold Fd.O f) (x:=⟨6,o,m,t,c0⟩) rfl p b (Fd.fold Fd.O f k)));have a9:=X1 (Fd.UX Fd.WW f k S);have C:=X1 Q.L9;have HB:=X1 Q.inB;have n:[k].map (Fd.fold Fd.O f)=[Fd.fold Fd.O f k]:=rfl;rw[n]at C;have HE:Hid ([k].length=1):=X1 rfl;rw[HE.o]at C;obtain⟨mu,F,bb,Z,d,Y,X⟩:=Y5d Q.tb ho.1 ho.2;have j:=X1 d;have a7:=X1 Y;have a6:=X1 X;have E:=Q.tb.lt;clear Q S n HE d Y X ho;generalize Fd.fold Fd.O f k=k' at *;have P:BL w (w.alloc (stO 193 6 o m 1 t (.slice u 1 s))):=bA _;have A:=X1 P;have J:w.heap.size<(w.alloc (stO 193 6 o m 1 t (.slice u 1 s))).heap.size:=by simp
 have I:=XM w (stO 193 6 o m 1 t (.slice u 1 s));obtain⟨a0,a1,a2,a3,a4,a5⟩:=VH I;have am:=(P.cell (p:=⟨l,1,none⟩) E).trans Z;have al:=j.o _ P;have b5:=j.o _ P.drew;have N:=X1 I;have b4:=X1 am;have a8:Hid (Fd.Ud ⟨6,o,m,t,c0⟩ p b [k'] (Vl.QX o (Fd.tn k'.x))=Fd.fold Fd.O (f+1) (.mk ⟨6,o,m,t,c0⟩ p b [k])):=X1 (by
  rw[HF.o];unfold Fd.Ud;by_cases hc:Fd.isC k'.x
  .rw[X3 (fun y hy=>by simp only[Y6,ZA,Zy]at hy;rw[hy];exact hc),X3 hc];rfl
  .rw[X2 (fun h=>hc (h k' (by simp))),X2 hc])
 clear Z HF;go_enter func299,ntmps299;go_wp2_with fail;generalize b1:w.alloc (stO 193 6 o m 1 t (.slice u 1 s))=W0 at *;clear b1 I P;go_region_held3 (fun W=>W.cell? ⟨l,1,none⟩=some (.map (some mu))/\W.cell? ⟨w.heap.size,0,none⟩=some (.int .i64 6)/\W.cell? ⟨w.heap.size,1,none⟩=some (.int .i64 o)/\W.cell? ⟨w.heap.size,2,none⟩=some (.int .i64 m)/\W.cell? ⟨w.heap.size,3,none⟩=some (.string t)/\W.cell? ⟨w.heap.size,4,none⟩=some (.int .i64 1)/\W.cell? ⟨w.heap.size,5,none⟩=some (.slice u 1 s)/\(Instr.lookup 38 (.map (some mu)) (.int .i64 o) false).run prog W= .ok (Js 1 F bb) W) (go_keep) (first
  | (refine Z8 rfl 293 [.tmp 16,.tmp 17] _ rfl [Ip.ag 6 o m 1 t (.slice u 1 s),pt l] (by simp[Act.eval]) f293 func293 (by kernel_rfl) (by kernel_rfl) (fun r w5=>∃K L,r= .iface K L/\ZG B w (.mk ⟨6,o,m,t,c0⟩ p b [k']) (.iface K L) w5/\BL W0 w5) ((C.o W0.drew A.o.drew).mono (fun _ _ ⟨v,q1,M⟩=>by obtain⟨K,L,q4⟩:=M.1.iface;subst q4;exact⟨_,q1,K,L,rfl,M.from A.o.drew,Ue M.2⟩)) ?_;rintro r w5⟨K,L,rfl,a,c⟩;have sm:=(c.cell (p:=⟨l,1,none⟩) (Xd E A.o.size)).trans am;obtain⟨s0,s1,s2,s3,s4,s5⟩:=VH ((c.block w.heap.size J).trans N.o);have b7:=j.o w5 a.2)
  | (refine Z8 rfl 283 [.tmp 5,.tmp 14,.tmp 18] _ rfl [pt l,Js 1 F bb,.iface K L] (by simp[Act.eval]) f283 func283 (by kernel_rfl) (by kernel_rfl) (fun r w6=>∃t6 u6,r= .iface t6 u6/\ZG B w (Fd.fold Fd.O (f+1) (.mk ⟨6,o,m,t,c0⟩ p b [k])) (.iface t6 u6) w6/\BL w5 w6) ((Bp ⟨6,o,m,t,c0⟩ p b [k'] (by simp) (by simp) (fun q=>B q\/(w.heap.size<=q/\q<w5.heap.size)) (.iface K L) (pt l) 1 F bb (Vl.QX o (Fd.tn k'.x)) w5 (fun q e=>e.elim (fun e=>Xd (HB.o q e) a.2.size) (fun e=>e.2)) a.1 a7.o (Fd.Et o _) (fun _=>(Fd.Em o _).1) (fun _=>(Fd.Em o _).2) (fun V W hW g cc _ b2=>a6.o k'.x (a9.o.const (V k' (by simp))).1 W (a.2.trans (hW.mono a.2.size)) g cc (b2 0 _ rfl))).mono (fun _ _ q=>by have qb:=q;obtain⟨_,_,_,b3⟩:=qb;obtain⟨z,q1,M⟩:=Vc.an q a.2;obtain⟨t6,u6,q4⟩:=M.1.iface;subst q4;exact⟨_,q1,t6,u6,rfl,a8.o ▸ M,b3⟩)) ?_;rintro r w6⟨t6,u6,rfl,H,D⟩;have rm:=(D.cell (p:=⟨l,1,none⟩) (Xd E a.2.size)).trans sm;obtain⟨r0,r1,r2,r3,r4,r5⟩:=VH ((D.block w.heap.size (Xd J c.size)).trans ((c.block w.heap.size J).trans N.o));have b6:=j.o w6 H.2))
 all_goals
  have HR:=X1 H;clear H a c D;go_wp2;go_ret;exact⟨_,rfl,HR.o⟩
theorem X0w{Q f:Nat}(o m c0:Int)(t:ByteArray)(p b:Int)(k l:Fd)(B:Nat->Prop)(sp:Option Addr)(sc:Nat)(w:World)(hA:Anw Fd.O Q f B w ⟨7,o,m,t,c0⟩ p b [k,l] sp sc)(b9:Fd.Good k)(c8:Fd.Good l)(ho:1<=o/\o<=14): Calls prog 306 #[Ip.ag 7 o m 2 t (.slice sp 2 sc),pt Q] w fun e w'=>∃z,e= .returned z/\ZG B w (Fd.fold Fd.O (f+1) (.mk ⟨7,o,m,t,c0⟩ p b [k,l])) z w':=by
 have HF:=X1 (show Fd.fold Fd.O (f+1) (.mk ⟨7,o,m,t,c0⟩ p b [k,l])=_ from(Fd.fold_succ Fd.O f ⟨7,o,m,t,c0⟩ p b [k,l]).trans (Fd.X5h Fd.O (Fd.fold Fd.O f) (x:=⟨7,o,m,t,c0⟩) rfl p b (Fd.fold Fd.O f k) (Fd.fold Fd.O f l)));have E:=X1 (Fd.UX Fd.WW f k b9);have V:=X1 (Fd.UX Fd.WW f l c8);have Y:=X1 hA.L9;have HB:=X1 hA.inB;have a5:[k,l].map (Fd.fold Fd.O f)=[Fd.fold Fd.O f k,Fd.fold Fd.O f l]:=rfl;rw[a5]at Y;have HE:Hid ([k,l].length=2):=X1 rfl;rw[HE.o]at Y;obtain⟨mo,F,bb,d4,N,d3,d2⟩:=X0y hA.tb ho.1 ho.2;have b6:=X1 N;have b3:=X1 d3;have b2:=X1 d2;have d9:=hA.tb.lt;have d8:=X1 d4;clear hA b9 c8 a5 HE N d3 d2 ho d4;generalize Fd.fold Fd.O f k=k' at *;generalize Fd.fold Fd.O f l=l' at *;have b0:BL w (w.alloc (stO 194 7 o m 2 t (.slice sp 2 sc))):=bA _;have a6:=X1 b0;have b8:=X1 (XM w (stO 194 7 o m 2 t (.slice sp 2 sc)));have a8:Hid (w.heap.size<(w.alloc (stO 194 7 o m 2 t (.slice sp 2 sc))).heap.size):=X1 (by simp);clear b0;go_enter func306,ntmps306;go_wp2_with fail;refine(Y.o _ a6.o).mono ?_;rintro e w1⟨z1,rfl,a3⟩;have a0:=X1 ((a3.2.block w.heap.size a8.o).trans b8.o);have a4:=Xd a8.o a3.2.size;have u:=X1 (a3.from a6.o);clear a3 Y a6 b8 a8;obtain⟨g1,c1,v0,v1,rfl,e1,d6,e5,a9,e3⟩:=Fd.EF u.o.1;have e2:g1<w1.heap.size:=e1.elim (fun e=>Xd (HB.o g1 e) u.o.2.size) (fun e=>e.2);obtain⟨p0,n0,K,e4⟩:=Fd.RU a9;subst e4;have d7:=X1 a9;have b7:=X1 d6;have e7:=Ge 7 o m 2 t (.slice (some ⟨g1,0,none⟩) 2 c1);have b5:=X1 (fun w=>G9 7 o m 2 t (.slice (some ⟨g1,0,none⟩) 2 c1) ⟨_,_,_,rfl⟩ w);have e8:=Dc k'.x.kind k'.x.op k'.x.n (k'.ks.length:Nat) k'.x.text (.slice p0 n0 K);have X:=X1 (fun w=>D5 k'.x.kind k'.x.op k'.x.n (k'.ks.length:Nat) k'.x.text (.slice p0 n0 K) ⟨_,_,_,rfl⟩ w);have b1:k'.x.kind=2->((k'.ks.length:Nat):Int)=0:=fun h=>by rw[(E.o.const ⟨by omega,by omega⟩).2];rfl
 have E1:=Ma (fun h=>(E.o.const h).1) (k'.ks.length:Nat) 1 b1;have E0:=Ma (fun h=>(E.o.const h).1) (k'.ks.length:Nat) 0 b1;have a:Hid (Fd.stops o k'.x->∀W,BL w1 W->ZG B w (Fd.fold Fd.O (f+1) (.mk ⟨7,o,m,t,c0⟩ p b [k,l])) (Ip.pv (Fd.nk k'.x k'.ks.length) (.slice p0 n0 K)) W):=X1 (fun D W hb=>by
  rw[HF.o,X3 D];exact(show ZG B w k' _ w1 from⟨d7.o,u.o.2⟩).below HB.o hb)
 have b4:Hid (¬Fd.stops o k'.x->Fd.Ud ⟨7,o,m,t,c0⟩ p b [k',l'] (Vl.Yh o (Fd.tn k'.x) (Fd.tn l'.x))=Fd.fold Fd.O (f+1) (.mk ⟨7,o,m,t,c0⟩ p b [k,l])):=X1 (fun D=>by
  rw[HF.o,X2 D];unfold Fd.Ud;by_cases hc:Fd.isC k'.x/\Fd.isC l'.x
  .rw[X3 (fun y hy=>by simp only[Y6,ZA,Zy]at hy;rcases hy with hy|hy<;>rw[hy];exact hc.1;exact hc.2),X3 hc]
   rfl
  .rw[X2 (fun h=>hc ⟨h k' (by simp),h l' (by simp)⟩),X2 hc])
 have C:Hid (¬Fd.stops o k'.x->∀W,BL w1 W->Calls prog 283 #[pt Q,Js 2 F bb,Ip.pv (Fd.nk ⟨7,o,m,t,c0⟩ 2) (.slice (some ⟨g1,0,none⟩) 2 c1)] W fun e w6=>∃r,e= .returned r/\∃t6 u6,r= .iface t6 u6/\ZG B w (Fd.fold Fd.O (f+1) (.mk ⟨7,o,m,t,c0⟩ p b [k,l])) (.iface t6 u6) w6/\BL W w6):=X1 (fun D W hb=>by
  have hq:=u.o.below HB.o hb;refine(Bp ⟨7,o,m,t,c0⟩ p b [k',l'] (by simp) (by simp) (fun q=>B q\/(w.heap.size<=q/\q<W.heap.size)) _ (pt Q) 2 F bb (Vl.Yh o (Fd.tn k'.x) (Fd.tn l'.x)) W (fun q e=>e.elim (fun e=>Xd (HB.o q e) hq.2.size) (fun e=>e.2)) hq.1 b3.o (Fd.En o _ _) ?_ ?_ (fun c W2 hW g cc hg c9=>b2.o k'.x l'.x (E.o.const (c k' (by simp))).1 (V.o.const (c l' (by simp))).1 W2 (hq.2.trans (hW.mono hq.2.size)) g cc hg (c9 0 _ rfl) (c9 1 _ rfl))).mono (fun _ _ q=>?_)
  .exact fun c=>(Fd.El o _ _ (E.o.const (c k' (by simp))).1 (V.o.const (c l' (by simp))).1).1
  .exact fun c=>(Fd.El o _ _ (E.o.const (c k' (by simp))).1 (V.o.const (c l' (by simp))).1).2
  .have qb:=q;obtain⟨_,_,_,e6⟩:=qb;obtain⟨z,q1,q2⟩:=Vc.an q hq.2;obtain⟨t6,u6,q4⟩:=q2.1.iface;subst q4;exact⟨_,q1,t6,u6,rfl,b4.o D ▸ q2,e6⟩)
 have d5:Ip.pv (Fd.nk k'.x k'.ks.length) (.slice p0 n0 K)=Ip.pv ⟨k'.x.kind,k'.x.op,k'.x.n,k'.x.text,(k'.ks.length:Nat)⟩ (.slice p0 n0 K):=rfl;rw[d5]at b7 a;have M:(o=1/\decide (k'.x.kind=2/\k'.x.n=1)=true/\Fd.stops o k'.x)\/(o=1/\decide (k'.x.kind=2/\k'.x.n=1)=false/\¬Fd.stops o k'.x)\/(o=2/\decide (k'.x.kind=2/\k'.x.n=0)=true/\Fd.stops o k'.x)\/(o=2/\decide (k'.x.kind=2/\k'.x.n=0)=false/\¬Fd.stops o k'.x)\/(o≠1/\o≠2):=by
  by_cases A:o=1
  .by_cases H:k'.x.kind=2/\k'.x.n=1
   .exact .inl ⟨A,YJ H,H.1,.inl ⟨A,H.2⟩⟩
   .exact .inr (.inl ⟨A,Yb H,fun e=>H ⟨e.1,e.2.elim (fun e=>e.2) (fun e=>by omega)⟩⟩)
  .by_cases a1:o=2
   .by_cases H:k'.x.kind=2/\k'.x.n=0
    .exact .inr (.inr (.inl ⟨a1,YJ H,H.1,.inr ⟨a1,H.2⟩⟩))
    .exact .inr (.inr (.inr (.inl ⟨a1,Yb H,fun e=>H ⟨e.1,e.2.elim (fun e=>by omega) (fun e=>e.2)⟩⟩)))
   .exact .inr (.inr (.inr (.inr ⟨A,a1⟩)))
 have J:=X1 M;clear a9 e3 d6 e5 d5 b1 E V M HF b4 b2 b3;unfold Fd.nk Ip.pv at *;go_wp2_with fail;refine(b5.o _).mono ?_;rintro e w2⟨rfl,a2⟩;have d:=X1 a2;have e0:=(a2.cell (p:=⟨g1,0,none⟩) e2).trans b7.o;obtain⟨q0,q1,q2,q3,q4,q5⟩:=VH ((a2.block w.heap.size a4).trans a0.o);clear a2 b5;have Z:∀W,BL w1 W->Hid ((W.cell? ⟨Q,0,none⟩=some (.map (some mo))/\W.cell? ⟨w.heap.size,1,none⟩=some (.int .i64 o))/\(Instr.lookup 38 (.map (some mo)) (.int .i64 o) false).run prog W= .ok (Js 2 F bb) W/\(Instr.lookup 38 (.map (some mo)) (.int .i64 o) false).run prog W.drew= .ok (Js 2 F bb) W.drew):=fun W hb=>X1 ⟨⟨((u.o.2.trans (hb.mono u.o.2.size)).cell (p:=⟨Q,0,none⟩) d9).trans d8.o,(VH ((hb.block w.heap.size a4).trans a0.o)).2.1⟩,b6.o W (u.o.2.trans (hb.mono u.o.2.size)),b6.o W.drew (u.o.2.trans (hb.mono u.o.2.size)).drew⟩;have HZ:=X1 Z;clear Z;rcases J.o with⟨A,d1,D⟩|⟨A,d1,D⟩|⟨A,d0,D⟩|⟨A,d0,D⟩|⟨A,H⟩
 .have t1:(o==1)=true:=by simpa using A
  rw[d1]at E1;have a7:=X1 (a.o D);clear J a A d1 D E0 C;go_wp2_with fail;refine(X.o _).mono ?_;rintro e w3⟨rfl,s⟩;have j:=X1 (d.o.trans (s.mono d.o.size));clear s;go_wp2_with fail;refine(Su _).mono ?_;rintro e w4⟨rfl,v⟩;have HR:=X1 (a7.o w4 (j.o.trans (v.mono j.o.size)));clear v;go_wp2;go_ret;exact⟨_,rfl,HR.o⟩
 focus
  have t1:(o==1)=true:=by simpa using A
  have t2:(o==2)=false:=by simpa using(by omega:o≠2)
  rw[d1]at E1;have S:=X1 (C.o D);clear J a A d1 D E0 C;go_wp2_with fail;refine(X.o _).mono ?_;rintro e w3⟨rfl,s⟩;have j:=X1 (d.o.trans (s.mono d.o.size));obtain⟨q0,q1,q2,q3,q4,q5⟩:=VH ((j.o.block w.heap.size a4).trans a0.o);clear s;go_wp2_with fail;refine(Su _).mono ?_;rintro e w4⟨rfl,v⟩;have I:=X1 (j.o.trans (v.mono j.o.size));obtain⟨q0,q1,q2,q3,q4,q5⟩:=VH ((I.o.block w.heap.size a4).trans a0.o)
 rotate_left
 .have t1:(o==1)=false:=by simpa using(by omega:o≠1)
  have t2:(o==2)=true:=by simpa using A
  rw[d0]at E0;have a7:=X1 (a.o D);clear J a A d0 D E1 C;go_wp2_with fail;refine(X.o _).mono ?_;rintro e w3⟨rfl,s⟩;have j:=X1 (d.o.trans (s.mono d.o.size));clear s;go_wp2_with fail;refine(Ol _).mono ?_;rintro e w4⟨rfl,v⟩;have HR:=X1 (a7.o w4 (j.o.trans (v.mono j.o.size)));clear v;go_wp2;go_ret;exact⟨_,rfl,HR.o⟩
 focus
  have t1:(o==1)=false:=by simpa using(by omega:o≠1)
  have t2:(o==2)=true:=by simpa using A
  rw[d0]at E0;have S:=X1 (C.o D);clear J a A d0 D E1 C;go_wp2_with fail;refine(X.o _).mono ?_;rintro e w3⟨rfl,s⟩;have j:=X1 (d.o.trans (s.mono d.o.size));clear s;go_wp2_with fail;refine(Ol _).mono ?_;rintro e w4⟨rfl,v⟩;have I:=X1 (j.o.trans (v.mono j.o.size))
 rotate_left
 .have t1:(o==1)=false:=by simpa using A
  have t2:(o==2)=false:=by simpa using H
  have S:=X1 (C.o (fun e=>e.2.elim (fun e=>A e.1) (fun e=>H e.1)));obtain⟨⟨z1,z2⟩,z3,z4⟩:=(HZ.o w2 d.o).o;clear J a A H E0 E1 C;go_wp2_with fail;go_region_held3 (fun W=>W.cell? ⟨Q,0,none⟩=some (.map (some mo))/\W.cell? ⟨w.heap.size,1,none⟩=some (.int .i64 o)/\(Instr.lookup 38 (.map (some mo)) (.int .i64 o) false).run prog W= .ok (Js 2 F bb) W) (go_keep) (first
   | (refine Z8 rfl 283 [.tmp 41,.tmp 50,.tmp 51] _ rfl [pt Q,Js 2 F bb,.iface (Ip.ty 7) (.agg #[.int .i64 7,.int .i64 o,.int .i64 m,.string t,.int .i64 2,.slice (some ⟨g1,0,none⟩) 2 c1])] (by simp[Act.eval]) f283 func283 (by kernel_rfl) (by kernel_rfl) _ (S.o w2.drew d.o.drew) ?_;rintro r w6⟨t6,u6,rfl,P,L⟩;obtain⟨⟨y1,y2⟩,y3,y4⟩:=(HZ.o w6 (d.o.trans ((Ue L).mono d.o.size))).o))
  all_goals
   have HR:=X1 P;clear P L;go_wp2;go_ret;exact⟨_,rfl,HR.o⟩
 all_goals
  obtain⟨⟨z1,z2⟩,z3,z4⟩:=(HZ.o w4 I.o).o;clear v;go_wp2_with fail;go_region_held3 (fun W=>W.cell? ⟨Q,0,none⟩=some (.map (some mo))/\W.cell? ⟨w.heap.size,1,none⟩=some (.int .i64 o)/\(Instr.lookup 38 (.map (some mo)) (.int .i64 o) false).run prog W= .ok (Js 2 F bb) W) (go_keep) (first
   | (refine Z8 rfl 283 [.tmp 41,.tmp 50,.tmp 51] _ rfl [pt Q,Js 2 F bb,.iface (Ip.ty 7) (.agg #[.int .i64 7,.int .i64 o,.int .i64 m,.string t,.int .i64 2,.slice (some ⟨g1,0,none⟩) 2 c1])] (by simp[Act.eval]) f283 func283 (by kernel_rfl) (by kernel_rfl) _ (S.o w4.drew I.o.drew) ?_;rintro r w6⟨t6,u6,rfl,P,L⟩;obtain⟨⟨y1,y2⟩,y3,y4⟩:=(HZ.o w6 (I.o.trans ((Ue L).mono I.o.size))).o))
  all_goals
   have HR:=X1 P;clear P L;go_wp2;go_ret;exact⟨_,rfl,HR.o⟩
