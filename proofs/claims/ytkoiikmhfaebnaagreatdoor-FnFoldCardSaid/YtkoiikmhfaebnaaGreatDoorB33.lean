import Derived.Test.YtkoiikmhfaebnaaGreatDoorB32
import Derived.Test.YtkoiikmhfaebnaaGreatDoorB22
set_option maxHeartbeats 4000000
set_option maxRecDepth 100000
namespace Go.Proofs.YtkoiikmhfaebnaaGreatDoor
open Tryz Go.RowKit
section
variable {P:Program} {ops:Array Oper} {Q:Exit->Act->World->Prop} {md:Region.Mode}
theorem Gd[LB]{l:Array Bool}{i:Nat}(h:i∈Region.ready md ops l):∃o,ops[i]?=some o/\l[i]?=some false/\∀e∈o.after,Region.binds md e=true->l[e.on]?=some true:=by
 unfold Region.ready at h;rw[P2,DE]at h;obtain⟨g,c⟩:=h;have d:ops[i]?=some ops[i]:=Dt g;rw[d]at c;simp only[Vi,WD,XD,OE,SE]at c;refine⟨_,d,?_,fun e k j=>?_⟩
 .have:=c.1;rw[GF]at this;cases a:l[i]? with
  | none=>rw[a]at this;cases this
  | some b=>rw[a]at this;simp only[WD]at this;rw[this]
 .have:=c.2 e k;rw[j]at this;simp only[Bool.not_true,OD]at this;rw[GF]at this;cases a:l[e.on]? with
  | none=>rw[a]at this;cases this
  | some b=>rw[a]at this;simp only[WD]at this;rw[this]
theorem Y1c[LB]{l:Array Bool}{i:Nat}{o:Oper}(a:ops[i]?=some o)(g:l[i]?=some false)(c:∀e∈o.after,l[e.on]?=some true):i∈Region.ready md ops l:=by
 unfold Region.ready;rw[P2,DE];refine⟨(Kh.1 a).1,?_⟩;rw[a,GF,g];simp only[Vi,WD,Bool.not_false,VO,SE];intro e d;rw[GF,c e d];simp
theorem Y6t[LB](c:Array Bool->Act->World->Prop)(t:∀l a w,c l a w->∀i∈Region.ready md ops l,wpOp P ops Q i (fun k w'=>c (l.setIfInBounds i true) k w') a w)(m:∀l a w,c l a w->Region.ready md ops l=[]->Q .normal a w): ∀fuel l a w,l.toList.count false<=fuel->c l a w->wpAny P md ops Q fuel l a w:=by
 intro fuel;induction fuel with
 | zero=>
  intro l a w r g;have n:Region.ready md ops l=[]:=by
   rw[List.eq_nil_iff_forall_not_mem];intro i hi;obtain⟨o,_,d,_⟩:=Gd hi;have:false∈l.toList:=by rw[Array.mem_toList_iff];exact SF d
   have:=List.count_pos_iff.2 this;omega
  exact⟨n,m l a w g n⟩
 | succ fuel u=>
  intro l a w r g;refine⟨m l a w g,fun i hi=>wpOp_mono (fun k w' h=>u _ _ _ ?_ h) (t l a w g i hi)⟩;obtain⟨o,_,d,_⟩:=Gd hi;obtain⟨j,q⟩:=Kh.1 d;have s:false∈l.toList:=by rw[Array.mem_toList_iff];exact SF d
  have v:=List.count_pos_iff.2 s;rw[Array.toList_setIfInBounds,List.count_set (by simpa using j)];simp only[Array.getElem_toList,q,beq_self_eq_true,J2,show(true==false)=false from rfl,Du,JR];omega
theorem Zt[LB]{i:Nat}{o:Oper}{a:Act}{w:World}{K:Act->World->Prop}(d:ops[i]?=some o)(h:if Region.wanted o (yielded ops a.tmps)=true then Oper.wp P o a w K Q else K (a.put o.dst undef) w):wpOp P ops Q i K a w:=by
 unfold wpOp;rw[d];simp only;split
 .rename_i c;rw[X3 c]at h;exact .inl h
 .rename_i c;rw[X2 c]at h;exact h
theorem EI[LB]{l:Array Bool}(n:Region.ready md ops l=[])(r:l.size=ops.size)(k:∀(i:Nat) (o:Oper),ops[i]?=some o->∀e∈o.after,e.on<i):∀i,i<ops.size->l[i]?=some true:=by
 intro i;induction i using Nat.strongRecOn with
 | ind i q=>
  intro hi;have g:ops[i]?=some ops[i]:=Dt hi;have a:l[i]?=some l[i]:=Dt (by omega);cases c:l[i]with
  | true=>rw[a,c]
  | false=>
   exfalso;have d:i∈Region.ready md ops l:=Y1c g (by rw[a,c]) (fun e m=>by
    have j:=k i _ g e m;exact q _ j (by omega))
   rw[n]at d;cases d
def Down(md:Region.Mode)(ops:Array Oper)(l:Array Bool):Prop:=∀(j:Nat) (o:Oper),ops[j]?=some o->l[j]?=some true->∀e∈o.after,Region.binds md e=true->l[e.on]?=some true
theorem Sa[LB]{l:Array Bool}{i j:Nat}(h:l[j]?=some true):(l.setIfInBounds i true)[j]?=some true:=by
 rw[GG];split
 .rename_i e;subst e;rw[X3 (Kh.1 h).1]
 .exact h
theorem Jk[LB]{l:Array Bool}{i j:Nat}(h:i≠j):(l.setIfInBounds i true)[j]?=l[j]?:=by rw[GG,X2 h]
theorem L6[LB]{l:Array Bool}{i:Nat}(h:l[i]?=some false):(l.setIfInBounds i true)[i]?=some true:=by rw[GG,X3 rfl,X3 (Kh.1 h).1]
theorem Down.step[LB]{l:Array Bool}{i:Nat}(h:Down md ops l)(hi:i∈Region.ready md ops l):Down md ops (l.setIfInBounds i true):=fun j o m k e d c=>by
 by_cases g:i=j
 .subst g
  obtain⟨q,a,_,n⟩:=Gd hi
  rw[m]at a
  obtain rfl:=YD a
  exact Sa (n e d c)
 .rw[Jk g]at k
  exact Sa (h j o m k e d c)
theorem Down.all[LB]{l:Array Bool}{m:Nat}(h:Down md ops l)(k:∀j,j<m->∃(a:Nat) (o:Oper),j<a/\a<=m/\ops[a]?=some o/\∃e∈o.after,Region.binds md e=true/\e.on=j)(q:l[m]?=some true):∀d j,j+d=m->l[j]?=some true:=by
 intro d;induction d using Nat.strongRecOn with
 | ind d r=>
  intro j v;rcases Ly d with rfl|u
  .rw[show j=m by omega];exact q
  .obtain⟨a,o,s,t,c,e,n,g,rfl⟩:=k j (by omega);exact h a o c (r (m-a) (by omega) a (by omega)) e n g
def Bm(ops:Array Oper):Bool:=(List.range ops.size).all fun i=>((ops[i]?).map fun o=>o.after.all fun e=>decide (e.on<i)).getD true
theorem Bn[LB](h:Bm ops=true):∀(i:Nat) (o:Oper),ops[i]?=some o->∀e∈o.after,e.on<i:=fun i o c e d=>by
 have a:=OS.1 h i (DE.2 (Kh.1 c).1)
 rw[c]at a
 simp only[Vi,WD,SE,M7]at a
 exact a e d
def upB(md:Region.Mode)(ops:Array Oper)(m:Nat):Bool:=(List.range m).all fun j=>(List.range (m+1)).any fun k=>decide (j<k)&&((ops[k]?).map fun o=>o.after.any fun e=>Region.binds md e&&e.on==j).getD false
theorem Y5n[LB]{m:Nat}(h:upB md ops m=true):∀j,j<m->∃(g:Nat) (o:Oper),j<g/\g<=m/\ops[g]?=some o/\∃e∈o.after,Region.binds md e=true/\e.on=j:=fun j r=>by
 have n:=OS.1 h j (DE.2 r)
 obtain⟨k,s,a⟩:=List.any_eq_true.1 n
 rw[DE]at s
 simp only[XD,M7]at a
 cases d:ops[k]? with
 | none=>rw[d]at a;exact absurd a.2 (by simp)
 | some o=>
  rw[d]at a
  have l:=a.2
  simp only[Vi,WD,Array.any_eq_true']at l
  obtain⟨e,q,c⟩:=l
  simp only[XD,JP]at c
  exact⟨k,o,a.1,by omega,d,e,q,c.1,c.2⟩
def Zo(ops:Array Oper)(i:Nat)(d:Nat)(op:Op):Prop:=∃o,ops[i]?=some o/\o.dst=some d/\o.op=op/\o.guard=none
def onB(md:Region.Mode)(ops:Array Oper)(i j:Nat):Bool:=((ops[i]?).map fun o=>o.after.any fun e=>Region.binds md e&&e.on==j).getD false
theorem Zx[LB]{i j:Nat}{l:Array Bool}(h:onB md ops i j=true)(hi:i∈Region.ready md ops l):l[j]?=some true:=by
 obtain⟨o,g,_,c⟩:=Gd hi;unfold onB at h;rw[g]at h;simp only[Vi,WD,Array.any_eq_true']at h;obtain⟨e,d,a⟩:=h;simp only[XD,JP]at a;rw[←a.2];exact c e d a.1
theorem Ke[LB]{o:Oper}{a:Act}{w:World}{K:Act->World->Prop}{E:Prop}{v:Value}{w':World}(d:o.guard=none)(h:(execOp a.eval o).run P w= .ok (.value v) w')(c:K (a.put o.dst v) w'):if Region.wanted o (yielded ops a.tmps)=true then Oper.wp P o a w K Q else E:=by
 rw[X3 (by simp[Region.wanted,d])];unfold Oper.wp;rw[h];exact c
end
theorem PQ[LB]{a:Act}{t:Nat}{v:Value}(h:t<a.tmps.size):(a.put (some t) v).eval (.tmp t)=v:=by
 simp[Act.put,Act.eval,h]
theorem X4u[LB]{a:Act}{t c:Nat}{v:Value}(h:t≠c):(a.put (some t) v).eval (.tmp c)=a.eval (.tmp c):=by
 simp[Act.put,Act.eval,h]
def Vc(B:Nat->Prop)(w:World)(y:Fd)(e:Ending)(w':World):Prop:=∃v,e= .returned v/\Fd.Pt (fun q=>B q\/(w.heap.size<=q/\q<w'.heap.size)) w' y v/\Below w.heap.size w w'
abbrev VE(k o m c:Int)(t:ByteArray):Obj:= .cells #[.int .i64 k,.int .i64 o,.int .i64 m,.string t,.int .i64 c] 48
theorem Wh{W:World}{g:Nat}{k o m c:Int}{t:ByteArray}(h:W.heap[g]?=some (VE k o m c t)):W.cell? ⟨g,0,none⟩=some (.int .i64 k)/\W.cell? ⟨g,1,none⟩=some (.int .i64 o)/\W.cell? ⟨g,2,none⟩=some (.int .i64 m)/\W.cell? ⟨g,3,none⟩=some (.string t)/\W.cell? ⟨g,4,none⟩=some (.int .i64 c):=by
 refine⟨?_,?_,?_,?_,?_⟩<;>(rw[World.cell?,h];rfl)
theorem X5d(t:ByteArray)(c:Nd):∀(n:Nat) (y:Fd),y.size<=n->y.size<=1000000->Fd.Good y->∀(B:Nat->Prop) (u cv:Value) (w:World),(∀q,B q->q<w.heap.size)->Fd.Pt B w y u->Fd.Pt B w (Fd.one c) cv->Calls prog 325 #[u,.string t,cv] w (Vc B w (Fd.fill t c y)):=by
 intro n;induction n with
 | zero=>intro y hy;have:=Fd.size_pos y;omega
 | succ n ih=>
  intro y hy hM hG B u cv w N h hc;obtain⟨x,p,b,ks⟩:=y;rw[Fd.Zi]at hy hM;have hs:∀t∈ks,t.size<=n/\t.size<=1000000:=fun t ht=>by have:=Fd.Ql ht;exact⟨by omega,by omega⟩
  have i3:=Fd.IP ks;have d7:ks.length<=1000000:=by omega
  obtain⟨hL,d5⟩:=(Fd.Jb _ _ _ _).1 hG;obtain⟨sl,xs,hu,h2,h3,h4⟩:=(Fd.Q2 _ _ _ _ _ _ _).1 h;obtain⟨sp,sc,g6⟩:=YV h2;subst g6;have L:=Fd.MW h4;have HO:=X1 (fun(w':World) (hb:BL w w')=>Xel (B:=fun q=>q<w'.heap.size) x ks t (.slice sp ks.length sc) xs w' (fun _ e=>e) (Qj h2 (fun _ _=>X6 _) (fun q e=>hb.block q (N q (h3 q e)))) (fun q e=>Xd (N q (h3 q e)) hb.size) (Fd.QW (fun q e=>Xd (N q e) hb.size) (fun q e=>hb.block q (N q e)) h4) hL d7);have a0:=X1 (fun(w':World) (hb:BL w w')=>M3 xs sp ks.length sc w' L d7 (Fd.RR h4) (Y1m (Qj h2 (fun _ _=>X6 _) (fun q e=>hb.block q (N q (h3 q e)))) (fun q e=>Xd (N q (h3 q e)) hb.size) L));have HP:=X1 h4;have c8:=X1 hc;have M:=X1 N;have f1:=X1 ih;have f0:=X1 d5;have HS:=X1 hs;have h7:=X1 L;have b6:x.kind=14\/x.kind=16->0<ks.length:=fun h=>h.elim (fun h=>by rw[hL.bind h];decide) hL.each;have g5:=Fd.Xep t x ks b6;have a1:Hid (¬(x.kind=5/\x.text=t)->Fd.fill t c (.mk x p b ks)= .mk x p b (Fd.part t c ks (Fd.opn t x ks))):=X1 (fun hx=>Fd.X5c t c x p b ks hx b6);obtain⟨ct,cu,f9⟩:=hc.iface;subst f9;obtain⟨k,o,m,D,c0⟩:=x;subst hu;clear h h2 h3 h4 hc ih d5 hs L hG hL N b6;have g2:=Ge k o m (ks.length:Int) D (.slice sp ks.length sc);have i5:=Dc k o m (ks.length:Int) D (.slice sp ks.length sc);have Q:=X1 (D5 k o m (ks.length:Int) D (.slice sp ks.length sc) ⟨_,_,_,rfl⟩ w);have a2:=X1 (fun w=>G9 k o m (ks.length:Int) D (.slice sp ks.length sc) ⟨_,_,_,rfl⟩ w);unfold Fd.nk Ip.pv at HO⊢;by_cases h5:k=5/\D=t
  .obtain⟨a6,d3⟩:=h5;have d6:Fd.fill t c (.mk ⟨k,o,m,D,c0⟩ p b ks)=Fd.one c:=by rw[Fd.PT,X3 ⟨a6,d3⟩];rfl
   rw[d6];subst d3;have t5:(k==5)=true:=by simpa using a6
   clear a1 HO a0 a2 g2 d6 a6;go_enter func325,ntmps325;go_wp2_with fail;refine Q.o.mono ?_;rintro e w1⟨rfl,j⟩;have C:=X1 (j.alloc j.size (VE k o m ks.length D));clear j Q;go_wp2;go_ret;exact⟨_,rfl,Fd.Pt.go c8.o (fun q e=> .inl e) (fun q e=>C.o.block q (M.o q e)),C.o⟩
  .have e9:=X1 (a1.o h5);have b5:(k==5)=false\/((k==5)=true/\(D.toList==t.toList)=false):=by
    by_cases hk:k=5
    .exact .inr ⟨by simpa using hk,Fg (fun e=>h5 ⟨hk,e⟩)⟩
    .exact .inl (by simpa using hk)
   clear a1 h5;generalize P:Fd.opn t ⟨k,o,m,D,c0⟩ ks=on at *;have h6:=X1 P;clear P;rcases b5 with f5|⟨f5,h9⟩;all_goals
    go_enter func325,ntmps325;go_wp2_with fail;refine Q.o.mono ?_;rintro e w1⟨rfl,j⟩;have C:=X1 (j.alloc j.size (VE k o m ks.length D));have d1:=X1 (XM w1 (VE k o m ks.length D));have i6:=j.size;clear j Q;go_wp2_with fail;refine(a2.o _).mono ?_;rintro e w2⟨rfl,a8⟩;have E:=X1 (C.o.trans (a8.mono C.o.size));have a4:=X1 ((a8.block w1.heap.size (by simp)).trans d1.o);clear a8 a2 C d1;go_wp2_with fail;refine(a0.o w2 E.o).mono ?_;rintro e w3⟨v3,rfl,K,a9⟩;obtain⟨p3,c3,g7⟩:=YV K;subst g7;have d0:=X1 K;have X:=X1 (E.o.trans (a9.mono E.o.size));have i7:=E.o.size;have g0:w1.heap.size<w2.heap.size:=by
     rcases J0 w1.heap.size w2.heap.size with h|h
     .exact h
     .have:=a4.o;rw[U3 h]at this;cases this
    have a5:=X1 ((a9.block w1.heap.size g0).trans a4.o);have F:Hid (∀q,(Value.slice p3 ks.length c3).ownBlock=some q->w2.heap.size<=q/\q<w3.heap.size):=X1 (fun q e=>K.lt q e);clear a9 a0 E a4 K;go_wp2_with(show wpList _ _ _ ({dst:=_,op:=Op.call {callee:=Callee.invoke _ _,args:=_,argTypes:=_},type:=_,pos:=_,after:=_,guard:=_}::_) _ _;refine SD rfl (.tmp 25) (.tmp 26) _ rfl _ _ _ (by first|(simp[Act.eval];done)|simp[Act.eval,Act.put]) (by first|(simp[Act.eval];done)|simp[Act.eval,Act.put]) (HO.o w3 X.o) ?_;rintro z w4⟨rfl,H⟩);have Y:=X1 (X.o.trans (H.mono X.o.size));have f3:=X1 (KJ d0.o H);have g1:w1.heap.size<w3.heap.size:=by
     rcases J0 w1.heap.size w3.heap.size with h|h
     .exact h
     .have:=a5.o;rw[U3 h]at this;cases this
    have f7:=X1 ((H.block w1.heap.size g1).trans a5.o);have i8:=H.size;have g4:Hid (∀q,(Value.slice p3 ks.length c3).ownBlock=some q->q≠w1.heap.size):=X1 (fun q e=>by have:=(F.o q e).1;omega);clear H HO a5 d0;go_loopw[28] (fun iv wr=>∃i:Nat,i<=on/\iv= .int .i64 (i:Int)/\BL w wr/\w4.heap.size<=wr.heap.size/\wr.heap[w1.heap.size]?=some (VE k o m ks.length D)/\∃zs,wr.ownsRow w2.heap.size 44 1 (.slice p3 ks.length c3) ks.length zs/\Fd.Pt.ptL (fun q=>(B q\/(w.heap.size<=q/\q<wr.heap.size))/\(Value.slice p3 ks.length c3).ownBlock≠some q) wr (Fd.part t c ks i) zs) (fun iv _=>on-(intOf iv).toNat)
    case atStart=>exact⟨0,X6 _,rfl,Y.o,X4 _,f7.o,xs,f3.o,Fd.QW (fun q e=>⟨.inl e,fun J=>by have:=(F.o q J).1;have:=M.o q e;omega⟩) (fun q e=>Y.o.block q (M.o q e)) HP.o⟩
    case round=>
     obtain⟨i,hi,rfl,d4,i9,e7,zs,V,d9⟩:=hrel;have a:=X1 d4;have d2:=X1 e7;have A:=X1 V;have a3:=X1 d9;clear d4 e7 V d9;by_cases i4:i<on
     .have d8:(i:Int)<(on:Int):=by omega
      have s:i<ks.length:=by omega
      have h0:(i:Int)<(ks.length:Int):=by omega
      obtain⟨d,h8,e6⟩:=Q3 A.o (by omega);cases e6;have S:=Fd.Xfa t c ks i s;obtain⟨zi,e8,W⟩:=Fd.Gi i a3.o (by rw[Fd.RP t c ks i (by omega)];exact s);have b9:Fd.Pt (fun q=>(B q\/(w.heap.size<=q/\q<wr.heap.size))/\(Value.slice (some ⟨d,0,none⟩) ks.length c3).ownBlock≠some q) wr ks[i] zi:=by
       have e:=YH (l:=Fd.part t c ks i) (by rw[Fd.RP t c ks i (by omega)];exact s);rw[S]at e;have J:=YD e;rw[J];exact W
      obtain⟨zt,zu,g9⟩:=b9.iface;subst g9;have ke:wr.cell? ⟨d,i,none⟩=some (.iface zt zu):=ZF A.o e8;have i2:=F.o d rfl;have HC:=X1 (f1.o ks[i] (HS.o _ (XR s)).1 (HS.o _ (XR s)).2 (f0.o _ (XR s)) (fun q=>(B q\/(w.heap.size<=q/\q<wr.heap.size))/\(Value.slice (some ⟨d,0,none⟩) ks.length c3).ownBlock≠some q) (.iface zt zu) (.iface ct cu) wr (fun q e=>e.1.elim (fun e=>Xd (M.o q e) a.o.size) (fun e=>e.2)) b9 (Fd.Pt.go c8.o (fun q e=>⟨.inl e,fun J=>by cases J;have:=M.o d e;omega⟩) (fun q e=>a.o.block q (M.o q e))));clear b9 W S e8;go_wp2_with fail;refine HC.o.mono ?_;rintro e w5⟨v5,rfl,b7,r⟩;obtain⟨t5,u5,g8⟩:=b7.iface;subst g8;have b8:=KJ A.o r;have i1:=b8.frozenAt i;have i0:w5.cell? ⟨d,i,none⟩=some (.iface zt zu):=(r.cell (p:=⟨d,i,none⟩) (by show d<_;omega)).trans ke;have f6:=X1 (b8.stored i (.iface t5 u5)).1;have Z:=X1 ((a.o.trans (r.mono a.o.size)).setCell (p:=⟨d,i,none⟩) (by show _<=d;omega) (.iface t5 u5));have f8:=X1 ((UY (w:=w5) (i:=i) (v:= .iface t5 u5) (g4.o d rfl).symm).trans ((r.block w1.heap.size (by omega)).trans d2.o));have j0:=r.size;have a7:∀q,((B q\/(w.heap.size<=q/\q<wr.heap.size))/\(Value.slice (some ⟨d,0,none⟩) ks.length c3).ownBlock≠some q)->(B q\/(w.heap.size<=q/\q<w5.heap.size))/\(Value.slice (some ⟨d,0,none⟩) ks.length c3).ownBlock≠some q:=fun q e=>⟨e.1.elim .inl (fun e=> .inr ⟨e.1,by omega⟩),e.2⟩;have e0:Fd.Pt.ptL (fun q=>(B q\/(w.heap.size<=q/\q<w5.heap.size))/\(Value.slice (some ⟨d,0,none⟩) ks.length c3).ownBlock≠some q) w5 (Fd.part t c ks i) zs:=Fd.QW a7 (fun q e=>r.block q (e.1.elim (fun e=>Xd (M.o q e) a.o.size) (fun e=>e.2))) a3.o;have e5:Fd.Pt (fun q=>(B q\/(w.heap.size<=q/\q<w5.heap.size))/\(Value.slice (some ⟨d,0,none⟩) ks.length c3).ownBlock≠some q) w5 (Fd.fill t c ks[i]) (.iface t5 u5):=Fd.Pt.go b7 (fun q e=>by
       rcases e with e|⟨e1,J⟩
       .exact a7 q e
       .have h1:=a.o.size;refine⟨.inr ⟨by omega,J⟩,fun e3=>?_⟩;have e4:d=q:=YD e3;omega) (fun _ _=>rfl)
      have HQ:=X1 (Fd.Y0r (g:=d) (i:=i) (z:= .iface t5 u5) (fun q e J=>e.2 (by rw[J];rfl)) (Fd.ED e5 i e0));rw[Fd.Xfb t c ks i s]at HQ;clear e0 e5 b7 r a7 b8 HC;go_wp2;go_roundw
      case rel=>exact⟨i+1,by omega,by go_num,Z.o,by rw[Ie];omega,f8.o,_,f6.o,by rw[Ie];exact HQ.o⟩
      case measure=>simp[intOf];omega
     .obtain rfl:i=on:=by omega
      have d8:¬((i:Int)<(i:Int)):=by omega
      obtain⟨b0,b1,b2,b3,b4⟩:=Wh d2.o;have HN:=X1 (fun w=>Um k o m ks.length D p3 ks.length c3 w);go_wp2_with fail;refine(HN.o _).mono ?_;rintro e w6⟨rfl,I⟩;have Z:=X1 (a.o.trans (I.mono a.o.size));have j1:=I.size;have f4:=X1 (KJ A.o I);have f2:=X1 (Fd.QW (B':=fun q=>B q\/(w.heap.size<=q/\q<w6.heap.size)) (fun q e=>e.1.elim .inl (fun e=> .inr ⟨e.1,by omega⟩)) (fun q e=>I.block q (e.1.elim (fun e=>Xd (M.o q e) a.o.size) (fun e=>e.2))) a3.o);have c9:=X1 (Fd.RP t c ks i g5);unfold Ip.pv;clear I;go_wp2;go_ret;refine⟨_,rfl,?_,Z.o⟩;rw[e9.o];refine(Fd.Q2 _ _ _ _ _ _ _).2 ⟨.slice p3 ks.length c3,zs,by rw[c9.o];rfl,by rw[c9.o];exact Qj f4.o (fun _ _=>X6 _) (fun _ _=>rfl),fun q e=> .inr ⟨by have:=Y.o.size;have:=(F.o q e).1;omega,by have:=(F.o q e).2;omega⟩,f2.o⟩
