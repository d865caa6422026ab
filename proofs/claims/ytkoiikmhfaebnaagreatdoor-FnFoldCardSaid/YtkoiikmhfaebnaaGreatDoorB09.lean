import Derived.Test.YtkoiikmhfaebnaaGreatDoorB08
import Derived.Deep.CutRange
set_option maxHeartbeats 4000000
set_option maxRecDepth 100000
namespace Go.Proofs.YtkoiikmhfaebnaaGreatDoor
open Tryz Go.RowKit
theorem Ur{P:Program}{A:Array Oper}{o:Oper}{a:Act}{w:World}{K:Act->World->Prop}{Q:Exit->Act->World->Prop}{E:Prop}(F:o.guard=none)(s x:Operand)(t:TypeId)(Y:o.op= .call {callee:= .builtin .append,args:=#[s,x],argTypes:=#[t,t]})(base:Nat)(e:TypeId)(i:TypeInfo)(z:Value)(size g:Nat)(ht:P.underlying t=some (.slice e))(hi:P.info? e=some i)(hz:i.zero=some z)(r:i.size=size)(D:i.bytes=g)(I:z.cells.size=size)(H:0<size)(v:Value)(n:Nat)(J:List Value)(hs:a.eval s=v)(y:w.ownsRow base e size v n J)(B:Addr)(m c:Nat)(d:List Value)(hx:a.eval x= .slice (some B) m c)(X:d.length=m*size)(q:∀j u,d[j]?=some u->w.cell? (B.add j)=some u)(L:∀u∈d,u.oneCell'=true)(C:n+m<=maxLen)(k:(n+m)*g<=140737488355328)(l:base<=w.heap.size)(W:∀v' w',w'.ownsRow base e size v' (n+m) (J++d)->w.grownBy w' v.ownBlock->(v'= .slice none 0 0↔v= .slice none 0 0/\m=0)->(v'.ownBlock=v.ownBlock\/v'.ownBlock=some w.heap.size)->K (a.put o.dst v') w'): if Region.wanted o (yielded A a.tmps)=true then Oper.wp P o a w K Q else E:=by
 have hw:Region.wanted o (yielded A a.tmps)=true:=by simp[Region.wanted,F]
 rw[X3 hw];obtain⟨v',w',Z,M,N,S,V⟩:=S8 (P:=P) w base t o.type e i z size g ht hi hz r D I H v n J y B m c d X q L C k l;unfold Oper.wp execOp;simp only[Y,resolve,invoke,builtin,Zk,QM,Zj,KP,Xu,Yc,hs,hx,Z];exact W _ _ M N S V
abbrev ndO(d:Nd):Obj:= .cells #[.int .i64 d.kind,.int .i64 d.op,.int .i64 d.n,.string d.text,.int .i64 d.kids] 48
abbrev emO:Obj:= .cells #[] 229
abbrev knO(x:ByteArray)(k:Nat):Obj:= .cells #[.string x,.int .i64 k] 229
theorem Bx(w:World)(o:Obj):((w.alloc o).alloc emO).ownsRow (w.heap.size+1) 229 2 (.slice (some ⟨w.heap.size+1,0,none⟩) 0 0) 0 []:=by
 have:=XV (base:=w.heap.size+1) (e:=229) (size:=2) (w.alloc o) #[] 0 (by simp) (X6 _) rfl
 rwa[Xb]at this
theorem X4p(w:World)(o p:Obj):(((w.alloc o).alloc p).alloc emO).ownsRow (w.heap.size+1) 229 2 (.slice (some ⟨w.heap.size+1+1,0,none⟩) 0 0) 0 []:=by
 have:=XV (base:=w.heap.size+1) (e:=229) (size:=2) ((w.alloc o).alloc p) #[] 0 (by simp) (X6 _) rfl
 rwa[Xb,Xb]at this
theorem JO(w:World)(o:Obj):Below w.heap.size w (w.alloc o):=bA _
theorem Xcq(w:World)(d:Nd):(w.alloc (ndO d)).cell? ⟨w.heap.size,3,none⟩=some (.string d.text):=by rw[World.cell?,XM];rfl
theorem Mv(w:World)(x:ByteArray)(k:Nat):∀(j:Nat) (u:Value),(Ym [(x,k)])[j]?=some u->(w.alloc (knO x k)).cell? ((⟨w.heap.size,0,none⟩:Addr).add j)=some u:=M2 w x k _
theorem Rt{w X:World}{b:Nat}{x:ByteArray}{k:Nat}(h:∀(j:Nat) (u:Value),(Ym [(x,k)])[j]?=some u->w.cell? ((⟨b,0,none⟩:Addr).add j)=some u)(a:X.heap[b]?=w.heap[b]?):∀(j:Nat) (u:Value),(Ym [(x,k)])[j]?=some u->X.cell? ((⟨b,0,none⟩:Addr).add j)=some u:=by
 intro j u c;have:=h j u c;rw[Vq]at this⊢;exact(Xy a).trans this
theorem X6v(ns:List Nd)(ks:List (List Nat))(wb tg tc kg kc cg bg f:Nat)(hG:Lq ns ks wb tg tc kg kc cg bg f (Xg ns ks f))(hn:ns.length<=5000)(b8:∀k (h:k<ks.length),∀x∈ks[k],x<k)(a2:∀k (h:k<ks.length),(ks[k]).length<=5000/\(X8 ns k=14->(ks[k]).length=2)/\(X8 ns k=16->1<=(ks[k]).length)/\(X8 ns k=15\/X8 ns k=20->1<=(ks[k]).length)):Lq ns ks wb tg tc kg kc cg bg (f+1) (Xg ns ks (f+1)):=by
 intro k M L g s w k2 b1 hb hF hD hK H I;obtain⟨iK,a8,b0,a9,a7⟩:=Yk Rg;have d6:k<ks.length:=by rw[hF.len];exact b1
 obtain⟨n0,n1,n2,n3,n4⟩:=hF.nodes.2 k b1;obtain⟨rg,rc,e7,d8,d9,i4⟩:=hF.kids k d6;have f0:=hF.f0;have f1:=hF.f1;have HG:=X1 hG;have HF:=X1 hF;have HD:=X1 hD;have HK:=X1 hK;have a6:=X1 (b8 k d6);have X:=a2 k d6;rw[ZC b1]at X;clear a2;have i9:=X1 b8;have j0:=X1 i4
 have a5:=X1 (show Xg ns ks (f+1) k g s=(if ns[k].kind=5 then K9 ns k g s
  else if ns[k].kind=23 then s
  else if ns[k].kind=15\/ns[k].kind=20 then Yd (Xg ns ks f) ns ks ks[k] [] g false s
  else if ns[k].kind=14\/ns[k].kind=16 then KS (Xg ns ks f) g (g++[(ns[k].text,k)]) s ks[k]
  else ks[k].foldl (fun s y=>Xg ns ks f y g s) s) by
   rw[Xg,ZC b1,WM b1,show X9 ks k=ks[k]from by simp[X9,d6]])
 have j9:=(hD.c.lt cg rfl).2;have k0:=(hD.b.lt bg rfl).2;have k3:=HK.o.1;have j5:=hF.wlt;have j6:=hF.klt;clear hG hF hD hK b8 i4;generalize ns[k]=d at *;generalize ks[k]=ls at *;have h1:=X1 (Bx w (ndO d)).drew;have h2:=X1 ((Bx w (ndO d)).alloc (knO d.text k)).drew;have h3:=X1 (X4p w (ndO d) (knO d.text k)).drew;have f3:Below (w.heap.size+1) (w.alloc (ndO d)) ((w.alloc (ndO d)).alloc emO):=by have:=JO (w.alloc (ndO d)) emO;rwa[Xb]at this
 have i2:Below (w.heap.size+1) (w.alloc (ndO d)) ((w.alloc (ndO d)).alloc (knO d.text k)):=by have:=JO (w.alloc (ndO d)) (knO d.text k);rwa[Xb]at this
 have Z:=X1 f3.drew;have a0:=X1 (f3.alloc (by simp) (knO d.text k)).drew;have a1:=X1 (i2.alloc (by simp) emO).drew;have d5:=HK.o.kept (cg:=cg) (bg:=bg) ((Kp.refl _ _ _).alloc (ndO d)) H I;have g7:=X1 (Mw (d5.kept (cg:=cg) (bg:=bg) (((Kp.refl _ _ _).alloc emO).drew) H I));have g9:=X1 (Mw (d5.kept (cg:=cg) (bg:=bg) ((((Kp.refl _ _ _).alloc emO).alloc (knO d.text k)).drew) H I));have h0:=X1 (Mw (d5.kept (cg:=cg) (bg:=bg) ((((Kp.refl _ _ _).alloc (knO d.text k)).alloc emO).drew) H I));have d7:=Xcq w d;have f9:=X1 ((Z.o.cell (p:=⟨w.heap.size,3,none⟩) (XI _)).trans d7);have g0:=X1 ((a0.o.cell (p:=⟨w.heap.size,3,none⟩) (XI _)).trans d7);have g2:=X1 ((a1.o.cell (p:=⟨w.heap.size,3,none⟩) (XI _)).trans d7);have d0:Hid (w.heap.size+1<=((w.alloc (ndO d)).alloc emO).drew.heap.size):=X1 (by have:=Z.o.size;rwa[Xb]at this);have d1:Hid (w.heap.size+1<=(((w.alloc (ndO d)).alloc emO).alloc (knO d.text k)).drew.heap.size):=X1 (by have:=a0.o.size;rwa[Xb]at this);have d2:Hid (w.heap.size+1<=(((w.alloc (ndO d)).alloc (knO d.text k)).alloc emO).drew.heap.size):=X1 (by have:=a1.o.size;rwa[Xb]at this);have g4:=X1 (Xd (XI _) d0.o);have g5:=X1 (Xd (XI _) d1.o);have g6:=X1 (Xd (XI _) d2.o);have f5:=Mv ((w.alloc (ndO d)).alloc emO) d.text k;rw[Xb,Xb]at f5;have e0:=X1 (show ∀(j:Nat) (u:Value),(Ym [(d.text,k)])[j]?=some u->(((w.alloc (ndO d)).alloc emO).alloc (knO d.text k)).drew.cell? ((⟨w.heap.size+1+1,0,none⟩:Addr).add j)=some u from f5);have f6:=Mv (w.alloc (ndO d)) d.text k;rw[Xb]at f6;have e3:=X1 (show ∀(j:Nat) (u:Value),(Ym [(d.text,k)])[j]?=some u->(((w.alloc (ndO d)).alloc (knO d.text k)).alloc emO).drew.cell? ((⟨w.heap.size+1,0,none⟩:Addr).add j)=some u from Rt f6 (by have:=JO ((w.alloc (ndO d)).alloc (knO d.text k)) emO;exact this.block _ (by simp)));have e4:Hid (w.heap.size+1+1<(((w.alloc (ndO d)).alloc emO).alloc (knO d.text k)).drew.heap.size):=X1 (by show _<(((w.alloc (ndO d)).alloc emO).alloc (knO d.text k)).heap.size;simp);have e5:Hid (w.heap.size+1<(((w.alloc (ndO d)).alloc (knO d.text k)).alloc emO).drew.heap.size):=X1 (by show _<(((w.alloc (ndO d)).alloc (knO d.text k)).alloc emO).heap.size;simp);clear f3 i2 d5 d7 f5 f6;have e1:=((JO w (ndO d)).cell (p:=⟨wb,1,none⟩) j5).trans f1;have e2:=((JO w (ndO d)).cell (p:=⟨kg,k,none⟩) j6).trans e7;go_enter func134,ntmps134;go_upto_region 2 with fail;go_cut[8]from 26 to 34 (fun v8 wx=>∃g8 c8,v8= .slice (some ⟨g8,0,none⟩) (g.length+1) c8/\w.heap.size+1<=g8/\Vd wx g8 (g++[(d.text,k)])/\Below (w.heap.size+1) (w.alloc (ndO d)) wx)
 case first=>
  go_region_law(first
   | (refine Ur rfl (.tmp 26) (.tmp 27) 226 rfl (w.heap.size+1) 229 iK _ 2 24 underlying226 a8 b0 a9 a7 rfl (by decide) (.slice (some ⟨w.heap.size+1,0,none⟩) 0 0) 0 [] (by first|(simp[Act.eval];done)|simp[Act.eval,Act.put]) h1.o ⟨M,0,none⟩ g.length L (Ym g) (by first|(simp[Act.eval];done)|simp[Act.eval,Act.put]) (I8 g) g7.o (Ub g) (by unfold maxLen;omega) (by omega) d0.o ?_;intro v1 w1 m l C J;rw[Xn,UD]at m;obtain⟨g1,c1,rfl,e6⟩:=Uk m (fun e=>by simpa using C.1 e) (by simpa[Value.ownBlock]using J);have i5:=(Xy (a:=⟨w.heap.size,3,none⟩) (l.block w.heap.size g4.o (by simp[Value.ownBlock]<;>omega))).trans f9.o;have A:Below (w.heap.size+1) (w.alloc (ndO d)) w1:=Z.o.grown l d0.o (fun q e=>by simp[Value.ownBlock]at e;omega))
   | (refine Ur rfl (.tmp 26) (.tmp 27) 226 rfl (w.heap.size+1) 229 iK _ 2 24 underlying226 a8 b0 a9 a7 rfl (by decide) (.slice (some ⟨w.heap.size+1,0,none⟩) 0 0) 0 [] (by first|(simp[Act.eval];done)|simp[Act.eval,Act.put]) h2.o ⟨M,0,none⟩ g.length L (Ym g) (by first|(simp[Act.eval];done)|simp[Act.eval,Act.put]) (I8 g) g9.o (Ub g) (by unfold maxLen;omega) (by omega) d1.o ?_;intro v1 w1 m l C J;rw[Xn,UD]at m;obtain⟨g1,c1,rfl,e6⟩:=Uk m (fun e=>by simpa using C.1 e) (by simpa[Value.ownBlock]using J);have i5:=(Xy (a:=⟨w.heap.size,3,none⟩) (l.block w.heap.size g5.o (by simp[Value.ownBlock]<;>omega))).trans g0.o;have A:Below (w.heap.size+1) (w.alloc (ndO d)) w1:=a0.o.grown l d1.o (fun q e=>by simp[Value.ownBlock]at e;omega);have f2:=Rt e0.o (l.block (w.heap.size+1+1) e4.o (by simp[Value.ownBlock]<;>omega)))
   | (refine Ur rfl (.tmp 26) (.tmp 27) 226 rfl (w.heap.size+1) 229 iK _ 2 24 underlying226 a8 b0 a9 a7 rfl (by decide) (.slice (some ⟨w.heap.size+1+1,0,none⟩) 0 0) 0 [] (by first|(simp[Act.eval];done)|simp[Act.eval,Act.put]) h3.o ⟨M,0,none⟩ g.length L (Ym g) (by first|(simp[Act.eval];done)|simp[Act.eval,Act.put]) (I8 g) h0.o (Ub g) (by unfold maxLen;omega) (by omega) d2.o ?_;intro v1 w1 m l C J;rw[Xn,UD]at m;obtain⟨g1,c1,rfl,e6⟩:=Uk m (fun e=>by simpa using C.1 e) (by simpa[Value.ownBlock]using J);have i5:=(Xy (a:=⟨w.heap.size,3,none⟩) (l.block w.heap.size g6.o (by simp[Value.ownBlock]<;>omega))).trans g2.o;have A:Below (w.heap.size+1) (w.alloc (ndO d)) w1:=a1.o.grown l d2.o (fun q e=>by simp[Value.ownBlock]at e;omega);have f2:=Rt e3.o (l.block (w.heap.size+1) e5.o (by simp[Value.ownBlock]<;>omega)))
   | (refine Ur rfl (.tmp 28) (.tmp 33) 226 rfl (w.heap.size+1) 229 iK _ 2 24 underlying226 a8 b0 a9 a7 rfl (by decide) (.slice (some ⟨g1,0,none⟩) g.length c1) g.length (Ym g) (by first|(simp[Act.eval];done)|simp[Act.eval,Act.put]) (m.alloc _) ⟨w1.heap.size,0,none⟩ 1 1 (Ym [(d.text,k)]) (by first|(simp[Act.eval];done)|simp[Act.eval,Act.put]) rfl (Mv _ _ _) (Ub _) (by unfold maxLen;omega) (by omega) (by have:=A.size;simp at *;omega) ?_;intro v2 w2 z v Y b5;have e8:Below (w.heap.size+1) (w.alloc (ndO d)) w2:=(A.alloc (by have:=A.size;simp at *;omega) _).grown v (by have:=A.size;simp at *;omega) (fun q e=>by simp[Value.ownBlock]at e;omega))
   | (refine Ur rfl (.tmp 28) (.tmp 33) 226 rfl (w.heap.size+1) 229 iK _ 2 24 underlying226 a8 b0 a9 a7 rfl (by decide) (.slice (some ⟨g1,0,none⟩) g.length c1) g.length (Ym g) (by first|(simp[Act.eval];done)|simp[Act.eval,Act.put]) m ⟨w.heap.size+1+1,0,none⟩ 1 1 (Ym [(d.text,k)]) (by first|(simp[Act.eval];done)|simp[Act.eval,Act.put]) rfl f2 (Ub _) (by unfold maxLen;omega) (by omega) (by have:=A.size;simp at *;omega) ?_;intro v2 w2 z v Y b5;have e8:Below (w.heap.size+1) (w.alloc (ndO d)) w2:=A.grown v (by have:=A.size;simp at *;omega) (fun q e=>by simp[Value.ownBlock]at e;omega))
   | (refine Ur rfl (.tmp 28) (.tmp 33) 226 rfl (w.heap.size+1) 229 iK _ 2 24 underlying226 a8 b0 a9 a7 rfl (by decide) (.slice (some ⟨g1,0,none⟩) g.length c1) g.length (Ym g) (by first|(simp[Act.eval];done)|simp[Act.eval,Act.put]) m ⟨w.heap.size+1,0,none⟩ 1 1 (Ym [(d.text,k)]) (by first|(simp[Act.eval];done)|simp[Act.eval,Act.put]) rfl f2 (Ub _) (by unfold maxLen;omega) (by omega) (by have:=A.size;simp at *;omega) ?_;intro v2 w2 z v Y b5;have e8:Below (w.heap.size+1) (w.alloc (ndO d)) w2:=A.grown v (by have:=A.size;simp at *;omega) (fun q e=>by simp[Value.ownBlock]at e;omega)))
  all_goals
   go_wp2_with fail;go_meet
   case rel=>
    obtain⟨g8,c8,rfl,j1⟩:=Uk z (fun e=>by simpa using Y.1 e) (by simpa[Value.ownBlock]using b5);refine⟨g8,c8,rfl,(z.lt g8 rfl).1,?_,e8⟩;have a2:(g++[(d.text,k)]).length=g.length+1:=by simp
    rw[←I9,←a2]at z;exact IN z
 case rest=>
  obtain⟨g8,c8,rfl,j1,i0,e9⟩:=hcut;have V:BL w wc:=(JO w (ndO d)).trans (e9.mono (by omega));have h7:=HF.o.kept (Kp.Ky (cg:=cg) (bg:=bg) V);have h4:=HD.o.below V;have i1:=HK.o.kept (cg:=cg) (bg:=bg) (Kp.Ky V) H I;have h8:=j0.o.below V;have W:wc.cell? ⟨w.heap.size,0,none⟩=some (.int .i64 d.kind):=(e9.cell (p:=⟨w.heap.size,0,none⟩) (XI _)).trans (by rw[World.cell?,XM];rfl);have k1:=V.size;have N:=X1 h7;have a4:=X1 h4;have b3:=X1 i1;have E:=X1 h8;have g3:=X1 i0;clear h7 h4 i1 h8 i0 e9 h1 h2 h3 Z a0 a1 g7 g9 h0 f9 g0 g2 d0 d1 d2 g4 g5 g6 e0 e3 e4 e5 e1 e2 f0 f1 n0 n1 n2 n3 n4 e7;have a3:=X1 V;clear V;by_cases h5:d.kind=5
  .have n:Hid (Xg ns ks (f+1) k g s=K9 ns k g s):=X1 (by rw[a5.o,X3 h5]);rw[h5]at W;go_wp2_with fail;refine(Y5o ns ks wb tg tc kg kc cg bg k M L g s wc b1 (by omega) N.o a4.o b3.o).mono ?_;rintro e w3⟨rfl,D,K⟩;go_wp2;(first|go_end0|refine X7 (Yf rfl _ _ _) rfl ?_);exact⟨rfl,(Kp.Ky a3.o).trans D,by rw[n.o];exact K⟩
  by_cases S:d.kind=23
  .have n:Hid (Xg ns ks (f+1) k g s=s):=X1 (by rw[a5.o,X2 h5,X3 S]);rw[S]at W;go_wp2;(first|go_end0|refine X7 (Yf rfl _ _ _) rfl ?_);exact⟨rfl,Kp.Ky a3.o,by rw[n.o];exact a4.o⟩
  have q5:(d.kind==5)=false:=by simpa using h5
  have k8:(d.kind==23)=false:=by simpa using S
  by_cases F:d.kind=15\/d.kind=20
  .have n:Hid (Xg ns ks (f+1) k g s=Yd (Xg ns ks f) ns ks ls [] g false s):=X1 (by rw[a5.o,X2 h5,X2 S,X3 F]);have i8:=X1 (X6o ns ks wb tg tc kg kc cg bg f (Xg ns ks f) HG.o hn i9.o ls rg rc M L g s wc (fun x hx=>by have:=a6.o x hx;omega) (X.2.2.2 F) X.1 (by omega) N.o a4.o b3.o E.o d8 d9 (by omega) (by omega));rcases F with F|F;all_goals
    rw[F]at W;go_wp2_with fail;refine i8.o.mono ?_;rintro e w3⟨rfl,D,K⟩;go_wp2;(first|go_end0|refine X7 (Yf rfl _ _ _) rfl ?_);exact⟨rfl,(Kp.Ky a3.o).trans D,by rw[n.o];exact K⟩
  have k5:(d.kind==15)=false:=by simp;omega
  have k7:(d.kind==20)=false:=by simp;omega
  by_cases d3:d.kind=14
  .have j3:=X.2.1 d3;obtain⟨x,y,rfl⟩:∃x y,ls=[x,y]:=by
    match ls,j3 with
    | [x,y],_=>exact⟨x,y,rfl⟩
   have n:Hid (Xg ns ks (f+1) k g s=Xg ns ks f y (g++[(d.text,k)]) (Xg ns ks f x g s)):=X1 (by rw[a5.o,X2 h5,X2 S,X2 F,X3 (.inl d3)];rfl);have c9:=E.o.2 0 (by simp);have f7:=E.o.2 1 (by simp);simp only[Xn,Ls,List.getElem_cons_succ]at c9 f7;have j7:=a6.o x (by simp);have i6:=a6.o y (by simp);rw[d3]at W;go_wp2_with fail;refine(HG.o x M L g s wc (by omega) (by omega) (by omega) N.o a4.o b3.o H I).mono ?_;rintro e w3⟨rfl,D,K⟩;have j8:=(D.cell (p:=⟨rg,1,none⟩) E.o.1 d8 d9).trans f7;have h6:=N.o.kept D;have h9:=g3.o.kept D (by omega) (by omega);have f4:(g++[(d.text,k)]).length=g.length+1:=by simp
   have P:=X1 (HG.o y g8 c8 (g++[(d.text,k)]) (Xg ns ks f x g s) w3 (by omega) (by omega) (by omega) h6 K h9 (by omega) (by omega));rw[f4]at P;clear h6 h9 c9 f7 W;go_wp2_with fail;refine P.o.mono ?_;rintro e w4⟨rfl,b7,b6⟩;go_wp2;(first|go_end0|refine X7 (Yf rfl _ _ _) rfl ?_);exact⟨rfl,((Kp.Ky a3.o).trans D).trans b7,by rw[n.o];exact b6⟩
  have k4:(d.kind==14)=false:=by simpa using d3
  by_cases d4:d.kind=16
  .have j2:=X.2.2.1 d4;obtain⟨x,r,rfl⟩:∃x r,ls=x::r:=by
    match ls,j2 with
    | x::r,_=>exact⟨x,r,rfl⟩
   have n:Hid (Xg ns ks (f+1) k g s=r.foldl (fun s y=>Xg ns ks f y (g++[(d.text,k)]) s) (Xg ns ks f x g s)):=X1 (by rw[a5.o,X2 h5,X2 S,X2 F,X3 (.inr d4)];rfl);have c9:=E.o.2 0 (by simp);simp only[Xn,Ls]at c9;have j7:=a6.o x (by simp);have j4:(x::r).length=r.length+1:=rfl;have i3:=X.1;rw[j4]at i3;rw[d4]at W;go_wp2_with fail;refine(HG.o x M L g s wc (by omega) (by omega) (by omega) N.o a4.o b3.o H I).mono ?_;rintro e w3⟨rfl,D,K⟩;have i7:=X1 K;clear K c9 W;go_wp2;go_loopw[9] (fun t wr=>∃i:Nat,i<=r.length/\t= .int .i64 ((i:Int)+1)/\Kp cg bg wc wr/\Dy ns.length cg bg ((r.take i).foldl (fun s y=>Xg ns ks f y (g++[(d.text,k)]) s) (Xg ns ks f x g s)) wr) (fun t _=>r.length+1-(intOf t).toNat)
   case atStart=>exact⟨0,X6 _,rfl,D,i7.o⟩
   case round=>
    obtain⟨i,hi,rfl,B,b4⟩:=hrel;have b2:=X1 b4;clear b4;by_cases b9:i<r.length
    .have f8:=(B.cell (p:=⟨rg,0+(i+1),none⟩) E.o.1 d8 d9).trans (E.o.2 (i+1) (by simp;omega));simp only[Xn,List.getElem_cons_succ]at f8;have i6:=a6.o r[i] (by simp);have f4:(g++[(d.text,k)]).length=g.length+1:=by simp
     have P:=X1 (HG.o r[i] g8 c8 (g++[(d.text,k)]) _ wr (by omega) (by omega) (by omega) (N.o.kept B) b2.o (g3.o.kept B (by omega) (by omega)) (by omega) (by omega));rw[f4]at P;have Q:=X1 (show(r.take (i+1)).foldl (fun s y=>Xg ns ks f y (g++[(d.text,k)]) s) (Xg ns ks f x g s)=Xg ns ks f r[i] (g++[(d.text,k)]) ((r.take i).foldl (fun s y=>Xg ns ks f y (g++[(d.text,k)]) s) (Xg ns ks f x g s)) by rw[Kt b9,GP];rfl);generalize r[i]=y at *;go_wp2_with fail;refine P.o.mono ?_;rintro e w4⟨rfl,b7,b6⟩;go_wp2;go_roundw
     case rel=>exact⟨i+1,by omega,by go_num,B.trans b7,by rw[Q.o];exact b6⟩
     case measure=>simp[intOf];omega
    .have Q:=X1 (show r.take i=r from U7 (by omega));go_wp2;(first|go_end0|refine X7 (Yf rfl _ _ _) rfl ?_);exact⟨rfl,(Kp.Ky a3.o).trans B,by rw[n.o];have:=b2.o;rwa[Q.o]at this⟩
  have k6:(d.kind==16)=false:=by simpa using d4
  have n:Hid (Xg ns ks (f+1) k g s=ls.foldl (fun s y=>Xg ns ks f y g s) s):=X1 (by rw[a5.o,X2 h5,X2 S,X2 F,X2 (by omega)]);have i3:=X.1;go_wp2;go_loopw[10] (fun t wr=>∃i:Nat,i<=ls.length/\t= .int .i64 i/\Kp cg bg wc wr/\Dy ns.length cg bg ((ls.take i).foldl (fun s y=>Xg ns ks f y g s) s) wr) (fun t _=>ls.length-(intOf t).toNat)
  case atStart=>exact⟨0,X6 _,rfl,Kp.refl _ _ _,a4.o⟩
  case round=>
   obtain⟨i,hi,rfl,B,b4⟩:=hrel;have b2:=X1 b4;clear b4;by_cases b9:i<ls.length
   .have f8:=(B.cell (p:=⟨rg,0+i,none⟩) E.o.1 d8 d9).trans (E.o.2 i b9);simp only[Xn]at f8;have i6:=a6.o ls[i] (XR b9);have P:=X1 (HG.o ls[i] M L g _ wr (by omega) (by omega) (by omega) (N.o.kept B) b2.o (b3.o.kept B H I) H I);have Q:=X1 (show(ls.take (i+1)).foldl (fun s y=>Xg ns ks f y g s) s=Xg ns ks f ls[i] g ((ls.take i).foldl (fun s y=>Xg ns ks f y g s) s) by rw[Kt b9,GP];rfl);generalize ls[i]=y at *;go_wp2_with fail;refine P.o.mono ?_;rintro e w4⟨rfl,b7,b6⟩;go_wp2;go_roundw
    case rel=>exact⟨i+1,by omega,by go_num,B.trans b7,by rw[Q.o];exact b6⟩
    case measure=>simp[intOf];omega
   .have Q:=X1 (show ls.take i=ls from U7 (by omega));go_wp2;(first|go_end0|refine X7 (Yf rfl _ _ _) rfl ?_);exact⟨rfl,(Kp.Ky a3.o).trans B,by rw[n.o];have:=b2.o;rwa[Q.o]at this⟩
theorem X6u(ns:List Nd)(ks:List (List Nat))(m l j g d cg bg:Nat)(q:ns.length<=5000)(a:∀k (h:k<ks.length),∀x∈ks[k],x<k)(c:∀k (h:k<ks.length),(ks[k]).length<=5000/\(X8 ns k=14->(ks[k]).length=2)/\(X8 ns k=16->1<=(ks[k]).length)/\(X8 ns k=15\/X8 ns k=20->1<=(ks[k]).length))(f:Nat): Lq ns ks m l j g d cg bg f (Xg ns ks f):=by
 induction f with
 | zero=>intro k u t v s w n;omega
 | succ f r=>exact X6v ns ks m l j g d cg bg f r q a c
def Ja(ns:List Nd)(ks:List (List Nat))(x:Nat):List Nat:=if X8 ns x=20\/X8 ns x=21 then[x]else if X8 ns x=23 then X9 ks x else[]
def Yn(ns:List Nd)(ks:List (List Nat))(fl:List Nat):List Nat:=fl.flatMap (Ja ns ks)
theorem Av(ns:List Nd)(ks:List (List Nat))(a:List Nat)(i:Nat)(h:i<a.length):Yn ns ks (a.take (i+1))=Yn ns ks (a.take i)++Ja ns ks a[i]:=by
 unfold Yn;rw[Kt h,OV,GO,List.flatMap_nil,VS]
structure JB (ks:List (List Nat)) (kg:Nat) (w:World):Prop where
 klt:kg<w.heap.size
 kids:∀k (h:k<ks.length),∃g c,w.cell? ⟨kg,k,none⟩=some (.slice (some ⟨g,0,none⟩) (ks[k]).length c)/\Yz w g 0 ks[k]
theorem JB.below{ks:List (List Nat)}{d:Nat}{w w':World}(h:JB ks d w)(a:BL w w'):JB ks d w':=by
 refine⟨Xd h.klt a.size,fun k m=>?_⟩;obtain⟨g,c,j,l⟩:=h.kids k m;exact⟨g,c,(a.cell (p:=⟨d,k,none⟩) h.klt).trans j,l.below a⟩
theorem Xbt(ns:List Nd)(ks:List (List Nat))(z A kg kc m:Nat)(w:World)(hn:ns.length=m+1)(b5:ns.length<=5000)(b4:ks.length=ns.length)(a1:∀k (h:k<ks.length),∀x∈ks[k],x<ns.length)(v:∀k (h:k<ks.length),(ks[k]).length<=5000)(ht:Yw w z ns)(hK:JB ks kg w): Calls prog 132 #[.agg #[.slice (some ⟨z,0,none⟩) ns.length A],.slice (some ⟨kg,0,none⟩) ns.length kc] w fun e w'=>∃r c5,e= .returned (.slice (some ⟨r,0,none⟩) (Yn ns ks (X9 ks m)).length c5)/\w.heap.size<=r/\Yz w' r 0 (Yn ns ks (X9 ks m))/\(Yn ns ks (X9 ks m)).length<=25000000/\Below w.heap.size w w':=by
 obtain⟨iI,hI,X,W,V⟩:=Yk WZ;have r1:BL w (w.alloc (.cells #[.slice (some ⟨z,0,none⟩) ns.length A] 25)):=bA _;have hm:m<ks.length:=by omega
 obtain⟨fg,fc,Y,Z⟩:=hK.kids m hm;have b1:X9 ks m=ks[m]:=by simp[X9,hm]
 rw[b1];have b3:=v m hm;have a5:=X1 (a1 m hm);have D:=hK.klt;have HT:=X1 ht;have HK:=X1 hK;have a6:=X1 v;have a4:=X1 Z;have k0:=((bA (.cells #[.slice (some ⟨z,0,none⟩) ns.length A] 25)).cell (p:=⟨kg,m,none⟩) D).trans Y;have k1:=(((bA (.cells #[.slice (some ⟨z,0,none⟩) ns.length A] 25)).alloc (by simp) (.cells #[] 3)).cell (p:=⟨kg,m,none⟩) D).trans Y;clear ht hK v Z a1;generalize ks[m]=c at *;rw[hn]at r1 k0 k1⊢;go_enter func132,ntmps132;go_wp2
 go_loopw[5,7] (fun v5 t wr=>∃(i r c5:Nat),i<=c.length/\t= .int .i64 i/\v5= .slice (some ⟨r,0,none⟩) (Yn ns ks (c.take i)).length c5/\wr.ownsRow (w.heap.size+1) 3 1 (.slice (some ⟨r,0,none⟩) (Yn ns ks (c.take i)).length c5) (Yn ns ks (c.take i)).length ((Yn ns ks (c.take i)).map YW)/\(Yn ns ks (c.take i)).length<=i*5000/\
   BL w wr/\w.heap.size<wr.heap.size/\wr.cell? ⟨w.heap.size,0,none⟩=some (.slice (some ⟨z,0,none⟩) (m+1) A)) (fun _ t _=>c.length-(intOf t).toNat)
 case atStart=>
  refine⟨0,w.heap.size+1,0,X6 _,rfl,rfl,?_,X6 _,?_,by rw[Xb,Xb];omega,?_⟩
  .have:=XV (base:=w.heap.size+1) (e:=3) (size:=1) (w.alloc (.cells #[.slice (some ⟨z,0,none⟩) (m+1) A] 25)) #[] 0 (by simp) (X6 _) rfl;rw[Xb]at this;exact this
  .exact r1.alloc (by simp) _
  .have h1:Below (w.heap.size+1) (w.alloc (.cells #[.slice (some ⟨z,0,none⟩) (m+1) A] 25)) ((w.alloc (.cells #[.slice (some ⟨z,0,none⟩) (m+1) A] 25)).alloc (.cells #[] 3)):=(X5 _ _).alloc (by simp) _;exact(h1.cell (p:=⟨w.heap.size,0,none⟩) (XI _)).trans (by simp)
 case round=>
  obtain⟨i,r,c5,hi,rfl,rfl,Q,b2,s,E,I⟩:=hrel;have P:=X1 Q;clear Q;by_cases K:i<c.length
  .have hx:=(a4.o.below s).2 i K;rw[Xn]at hx;have a3:c[i]<ns.length:=a5.o _ (XR K);have M:c[i]<ks.length:=by omega
   obtain⟨a0,_⟩:=(HT.o.below s).2 c[i] a3;have HM:=X1 (Av ns ks c i K);have F:=X1 (show Ja ns ks c[i]=if ns[c[i]].kind=20\/ns[c[i]].kind=21 then[c[i]]else if ns[c[i]].kind=23 then ks[c[i]]else[] by
    unfold Ja;rw[ZC a3,show X9 ks c[i]=ks[c[i]]from by simp[X9,M]])
   obtain⟨rg,rc,hr,a2⟩:=(HK.o.below s).kids c[i] M;have b6:=a6.o c[i] M;generalize ns[c[i]].kind=S at *;generalize ks[c[i]]=kp at *;generalize c[i]=x at *;generalize Yn ns ks (c.take i)=mo at *;have a8:=X1 a2;clear a2;by_cases B:S=20\/S=21
   .have d:Hid (Yn ns ks (c.take (i+1))=mo++[x]):=X1 (by rw[HM.o,F.o,X3 B]);rcases B with rfl|rfl;all_goals
     go_wp2;go_quiet(fail);go_wp2_with(at_builtin;refine Yg _ rfl _ _ 55 rfl (w.heap.size+1) 3 iI (.int .i64 0) 1 8 underlying55 hI X W V rfl (by decide) (.slice (some ⟨r,0,none⟩) mo.length c5) mo.length (mo.map YW) rfl ((Q4 P.o rfl).alloc _) ⟨wr.heap.size,0,none⟩ 1 1 [.int .i64 x] rfl rfl (UO _ _ _) (by simp[Value.oneCell']) (by unfold maxLen;omega) (by omega) (by simp;omega) ?_);intro v2 N l a g n;obtain⟨g6,c6,rfl,a9⟩:=Uk l g (by simpa[Value.ownBlock]using n);have b0:=P.o.lt r rfl;have H:BL w N:=((below_drewN s _).alloc s.size _).grown a (by have:=s.size;simp;omega) (fun q e=>by simp[Value.ownBlock]at e;omega);have J:N.cell? ⟨w.heap.size,0,none⟩=some (.slice (some ⟨z,0,none⟩) (m+1) A):=(Xy (Vz a w.heap.size E (by simp[Value.ownBlock];omega))).trans I;have L:w.heap.size<N.heap.size:=Xd (by have:=s.size;simp;omega) a.size;clear a g n;go_wp2;go_roundw
     case rel=>
      refine⟨i+1,g6,c6,by omega,by go_num,?_,?_,?_,H,L,J⟩
      .rw[d.o];simp
      .rw[d.o,ZO,Xo];exact l
      .rw[d.o,Xo];simp;omega
     case measure=>simp[intOf];omega
   .have b7:(S==20)=false:=by simp;omega
    have b8:(S==21)=false:=by simp;omega
    by_cases C:S=23
    .have d:Hid (Yn ns ks (c.take (i+1))=mo++kp):=X1 (by rw[HM.o,F.o,X2 B,X3 C]);subst C;have y:∀j u,(kp.map YW)[j]?=some u->wr.cell? ((⟨rg,0,none⟩:Addr).add j)=some u:=by
      intro j u hu;have hj:j<kp.length:=by have:=(GQ.1 hu).1;simpa using this
      rw[Vq,a8.o.2 j hj,←hu];simp[hj,YW]
     have a7:=X1 y;clear y;go_wp2;go_quiet(fail);go_wp2_with(at_builtin;refine Yg _ rfl _ _ 55 rfl (w.heap.size+1) 3 iI (.int .i64 0) 1 8 underlying55 hI X W V rfl (by decide) (.slice (some ⟨r,0,none⟩) mo.length c5) mo.length (mo.map YW) rfl (Q4 P.o rfl) ⟨rg,0,none⟩ kp.length rc (kp.map YW) rfl (by simp) a7.o (Ot _) (by unfold maxLen;omega) (by omega) (by simp;omega) ?_);intro v2 N l a g n;obtain⟨g6,c6,rfl,a9⟩:=Uk l (by simpa using g) (by simpa[Value.ownBlock]using n);have b0:=P.o.lt r rfl;have H:BL w N:=(below_drewN s _).grown a (by have:=s.size;simp;omega) (fun q e=>by simp[Value.ownBlock]at e;omega);have J:N.cell? ⟨w.heap.size,0,none⟩=some (.slice (some ⟨z,0,none⟩) (m+1) A):=(Xy (a.block w.heap.size (by simp;omega) (by simp[Value.ownBlock];omega))).trans I;have L:w.heap.size<N.heap.size:=Xd (by have:=s.size;simp;omega) a.size;clear a g n;go_wp2;go_roundw
     case rel=>
      refine⟨i+1,g6,c6,by omega,by go_num,?_,?_,?_,H,L,J⟩
      .rw[d.o];simp
      .rw[d.o,ZO,Xo];exact l
      .rw[d.o,Xo];omega
     case measure=>simp[intOf];omega
    .have d:Hid (Yn ns ks (c.take (i+1))=mo):=X1 (by rw[HM.o,F.o,X2 B,X2 C,VS]);have b9:(S==23)=false:=by simpa using C
     go_wp2;go_quiet(fail);go_wp2;go_roundw
     case rel=>
      refine⟨i+1,r,c5,by omega,by go_num,by rw[d.o],by rw[d.o];exact Q4 P.o rfl,by rw[d.o];omega,below_drewN s _,E,I⟩
     case measure=>simp[intOf];omega
  .go_wp2;go_ret;have e:c.take i=c:=U7 (by omega);have Q:=P.o;rw[e]at Q b2⊢;exact⟨r,c5,rfl,by have:=(Q.lt r rfl).1;omega,Mr Q,by omega,s⟩
