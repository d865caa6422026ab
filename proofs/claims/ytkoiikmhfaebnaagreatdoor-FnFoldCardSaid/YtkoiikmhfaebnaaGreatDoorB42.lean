import Derived.Test.YtkoiikmhfaebnaaGreatDoorB25
import Derived.Test.YtkoiikmhfaebnaaGreatDoorB41
set_option maxHeartbeats 4000000
set_option maxRecDepth 100000
namespace Go.Proofs.YtkoiikmhfaebnaaGreatDoor
open Tryz Go.RowKit
def U6(w:World)(kg U:Nat)(ks:List (List Nat)):Prop:=kg<w.heap.size/\U<=w.heap.size/\kg<U/\∀k (h:k<ks.length),∃v,w.cell? ⟨kg,k,none⟩=some v/\((v= .slice none 0 0/\ks[k]=[])\/∃g c,v= .slice (some ⟨g,0,none⟩) (ks[k]).length c/\kg<g/\g<U/\(ks[k]).length<=c/\Yz w g 0 ks[k])
theorem U6.below{w w':World}{j U:Nat}{ks:List (List Nat)}(h:U6 w j U ks)(d:BL w w'):U6 w' j U ks:=by
 obtain⟨l,t,u,y⟩:=h;refine⟨Xd l d.size,XO t d.size,u,fun k z=>?_⟩;obtain⟨v,a,b⟩:=y k z;refine⟨v,(d.cell (p:=⟨j,k,none⟩) l).trans a,?_⟩;rcases b with b|⟨g,c,m,n,q,r,s⟩
 .exact .inl b
 .exact .inr ⟨g,c,m,n,q,r,s.below d⟩
theorem U6.Xdq{w:World}{n:Nat}{u:Value}{y:List Value}{ks:List (List Nat)}{op:List Nat}{wr:World}(h:Kd w n n u y ks op wr):U6 wr w.heap.size wr.heap.size ks:=by
 have a:=h.sz;refine⟨a,X4 _,a,fun k q=>?_⟩;obtain⟨v,s,d⟩:=h.rows k q;have r:=h.kl;have t:=h.vl;refine⟨v,?_,?_⟩
 .rw[h.kr.cellAt k (by omega),QY (by omega)];exact s
 .rcases d with d|⟨g,c,l,z,_,m,j⟩
  .exact .inl d
  .exact .inr ⟨g,c,l,by omega,j.1,m,j⟩
abbrev bdO(tg tc kg bg cg n:Nat):Obj:= .cells #[.slice (some ⟨tg,0,none⟩) n tc,.slice (some ⟨kg,0,none⟩) n n,.slice (some ⟨bg,0,none⟩) n n,.slice (some ⟨cg,0,none⟩) n n] 163
theorem Pw(ns:List Nd)(ks:List (List Nat))(l m j U cg bg:Nat)(W:World)(D:U6 W j U ks)(I:ks.length=ns.length)(L:∀x∈ns,x.text.size<=1048576)(K:Yw W l ns)(Q:cg<j\/U<=cg)(S:bg<j\/U<=bg)(A:cg≠bg)(B:l≠cg)(C:l≠bg)(s:St)(u:W.ownsRow 0 3 1 (.slice (some ⟨cg,0,none⟩) ns.length ns.length) ns.length (s.Xj.map vi))(t:W.ownsRow 0 3 1 (.slice (some ⟨bg,0,none⟩) ns.length ns.length) ns.length (s.binds.map vi)): Ix ns ks W.heap.size l m j ns.length cg bg (W.alloc (bdO l m j bg cg ns.length))/\Dy ns.length cg bg s (W.alloc (bdO l m j bg cg ns.length))/\Below W.heap.size W (W.alloc (bdO l m j bg cg ns.length)):=by
 have q:BL W (W.alloc (bdO l m j bg cg ns.length)):=bA _;have d:=XM W (bdO l m j bg cg ns.length);have F:=(u.lt cg rfl).2;have E:=(t.lt bg rfl).2;obtain⟨M,V,X,N⟩:=D.below q;have J:(W.alloc (bdO l m j bg cg ns.length)).heap.size=W.heap.size+1:=by simp
 refine⟨⟨by omega,by omega,B,C,by omega,by omega,by omega,M,?_,?_,?_,?_,K.below q,L,I,fun k H=>?_⟩,⟨A,u.alloc _,t.alloc _⟩,q⟩
 .rw[World.cell?,d];rfl
 .rw[World.cell?,d];rfl
 .rw[World.cell?,d];rfl
 .rw[World.cell?,d];rfl
 .obtain⟨v,a,b⟩:=N k H;refine⟨v,a,?_⟩;rcases b with⟨n,r⟩|⟨g,c,n,r,P,y,z⟩
  .exact .inl ⟨none,0,n,r⟩
  .exact .inr ⟨g,0,c,n,by omega,by omega,y,z⟩
theorem X5j(ns:List Nd)(ks:List (List Nat))(l E D C B cg bg:Nat)(s:St)(w:World)(H:ns.length<=5000)(g:Ix ns ks l E D C B cg bg w)(d:Dy ns.length cg bg s w): Calls prog 31 #[.pointer (some ⟨l,0,none⟩)] w fun e w'=>e= .returned (.agg #[.int .i64 (Zl s.Xj 0).1,.int .i64 (Zl s.Xj 0).2])/\Below w.heap.size w w':=by
 have n:BL w (w.alloc (.cells #[.int .i64 0,.int .i64 0] 35)):=bA _;have F:=(n.cell (p:=⟨l,3,none⟩) g.wlt).trans g.f3;have r:=d.lens.1;have u:=X1 (d.below n);clear g d;go_enter func31,ntmps31;go_wp2;go_loopw[10] (fun t wr=>∃i:Nat,i<=ns.length/\t= .int .i64 i/\wr=w.alloc (.cells #[.int .i64 0,.int .i64 0] 35)/\Zl s.Xj 0=Zl (s.Xj.drop i) i) (fun t _=>ns.length-(intOf t).toNat)
 case atStart=>exact⟨0,X6 _,rfl,rfl,rfl⟩
 case round=>
  obtain⟨i,hi,rfl,rfl,q⟩:=hrel;have c:=X1 q;clear q;by_cases j:i<ns.length
  .have y:=(u.o.M0 i j).1;have m:=X1 (Ai s.Xj i (by omega));rw[YH (by omega),WD]at y;generalize s.Xj[i]=z at *;by_cases k:z=0
   .subst k;have a:Hid (Zl s.Xj 0=Zl (s.Xj.drop (i+1)) (i+1)):=X1 (by rw[c.o,m.o,X3 rfl]);go_wp2;go_roundw
    case rel=>exact⟨i+1,by omega,by go_num,by trivial,a.o⟩
    case measure=>simp[intOf];omega
   .have A:(z==0)=false:=by simpa using k
    have a:Hid (Zl s.Xj 0=(z,i)):=X1 (by rw[c.o,m.o,X2 k]);go_wp2;refine X7 (v:= .agg #[.int .i64 z,.int .i64 i]) (by simp[results,results31,go_sem]) rfl ⟨by rw[a.o],?_⟩;exact bA _
  .have a:Hid (Zl s.Xj 0=(0,0)):=X1 (by rw[c.o,Yu (by omega)];rfl);go_wp2;refine X7 (v:= .agg #[.int .i64 0,.int .i64 0]) (by simp[results,results31,go_sem]) rfl ⟨by rw[a.o];rfl,?_⟩;exact bA _
theorem On{B:Nat}{W w':World}(h:Below B W.drew w'):Below B W w':=⟨h.os,h.tape,h.output,h.size,h.block⟩
def BdN(ns:List Nd)(ks:List (List Nat))(tg tc:Nat)(w:World)(v4:Value)(wx:World):Prop:=∃wb kg cg bg,v4= .pointer (some ⟨wb,0,none⟩)/\w.heap.size<=wb/\w.heap.size<=cg/\w.heap.size<=bg/\Ix ns ks wb tg tc kg ns.length cg bg wx/\Dy ns.length cg bg ⟨List.replicate ns.length 0,List.replicate ns.length 0⟩ wx/\Below w.heap.size w wx
theorem AM{ns:List Nd}{ks:List (List Nat)}{j q k cg bg z:Nat}{w w':World}(C:ns.length<=5000)(t:U6 w' k w'.heap.size ks)(u:ks.length=ns.length)(A:∀x∈ns,x.text.size<=1048576)(r:Yw w j ns)(l:BL w w')(d:cg=w'.heap.size/\bg=w'.heap.size+1\/cg=w'.heap.size+1/\bg=w'.heap.size)(B:z=w'.heap.size+1+1):BdN ns ks j q w (.pointer (some ⟨z,0,none⟩)) (((w'.alloc (mdO ns.length)).alloc (mdO ns.length)).alloc (bdO j q k bg cg ns.length)):=by
 have s:=Wf w' ns.length 0 (X6 _) (by unfold maxLen;omega);have n:=Wf (w'.alloc (mdO ns.length)) ns.length 0 (X6 _) (by unfold maxLen;omega);rw[Xb]at n;have c:BL w' ((w'.alloc (mdO ns.length)).alloc (mdO ns.length)):=(bA _).alloc (by simp) _;have v:=r.1;have g:=l.size;have y:((w'.alloc (mdO ns.length)).alloc (mdO ns.length)).heap.size=z:=by rw[Xb,Xb,B]
 have m:Yw ((w'.alloc (mdO ns.length)).alloc (mdO ns.length)) j ns:=r.below (l.trans (c.mono g))
 have a:=Pw ns ks j q k w'.heap.size cg bg _ (t.below c) u A m (by omega) (by omega) (by omega) (by omega) (by omega) ⟨List.replicate ns.length 0,List.replicate ns.length 0⟩
  (by rcases d with⟨rfl,rfl⟩|⟨rfl,rfl⟩;exact s.alloc _;exact n) (by rcases d with⟨rfl,rfl⟩|⟨rfl,rfl⟩;exact n;exact s.alloc _)
 rw[y]at a;exact⟨z,k,cg,bg,rfl,by omega,by omega,by omega,a.1,a.2.1,l.trans ((c.mono g).trans (a.2.2.mono (by omega)))⟩
theorem AN{ns:List Nd}{ks:List (List Nat)}{l s j cg bg z x:Nat}{w X w':World}(r:X.heap.size=x)(J:ns.length<=5000)(y:U6 w' j w'.heap.size ks)(A:j=x+1)(B:ks.length=ns.length)(F:∀x∈ns,x.text.size<=1048576)(u:Yw w l ns)(t:BL w X)(m:Below (x+1) (X.alloc (mdO ns.length)) w')(g:cg=x/\bg=w'.heap.size\/cg=w'.heap.size/\bg=x)(H:z=w'.heap.size+1):BdN ns ks l s w (.pointer (some ⟨z,0,none⟩)) ((w'.alloc (mdO ns.length)).alloc (bdO l s j bg cg ns.length)):=by
 subst r;have I:=Wf X ns.length 0 (X6 _) (by unfold maxLen;omega);have k:=Q4 I (m.block X.heap.size (XI _));have v:=Wf w' ns.length 0 (X6 _) (by unfold maxLen;omega);have c:BL w' (w'.alloc (mdO ns.length)):=bA _;have D:=u.1;have C:=t.size;have n:=m.size;rw[Xb]at n;have E:(w'.alloc (mdO ns.length)).heap.size=z:=by rw[Xb,H]
 have d:BL w w':=(t.alloc (by omega) (mdO ns.length)).trans (m.mono (by omega));have q:Yw (w'.alloc (mdO ns.length)) l ns:=u.below (d.trans (c.mono (by omega)))
 have a:=Pw ns ks l s j w'.heap.size cg bg _ (y.below c) B F q (by omega) (by omega) (by omega) (by omega) (by omega) ⟨List.replicate ns.length 0,List.replicate ns.length 0⟩
  (by rcases g with⟨rfl,rfl⟩|⟨rfl,rfl⟩;exact k.alloc _;exact v) (by rcases g with⟨rfl,rfl⟩|⟨rfl,rfl⟩;exact v;exact k.alloc _)
 rw[E]at a;exact⟨z,j,cg,bg,rfl,by omega,by omega,by omega,a.1,a.2.1,d.trans ((c.mono (by omega)).trans (a.2.2.mono (by omega)))⟩
theorem AO{ns:List Nd}{ks:List (List Nat)}{m r g cg bg z x:Nat}{w X w':World}(q:X.heap.size=x)(H:ns.length<=5000)(v:U6 w' g w'.heap.size ks)(y:g=x+1+1)(A:ks.length=ns.length)(D:∀x∈ns,x.text.size<=1048576)(t:Yw w m ns)(s:BL w X)(l:Below (x+1+1) ((X.alloc (mdO ns.length)).alloc (mdO ns.length)) w')(d:cg=x/\bg=x+1\/cg=x+1/\bg=x)(E:z=w'.heap.size):BdN ns ks m r w (.pointer (some ⟨z,0,none⟩)) (w'.alloc (bdO m r g bg cg ns.length)):=by
 subst q;have F:=(Wf X ns.length 0 (X6 _) (by unfold maxLen;omega)).alloc (mdO ns.length);have u:=Wf (X.alloc (mdO ns.length)) ns.length 0 (X6 _) (by unfold maxLen;omega);rw[Xb]at u;have j:=Q4 F (l.block X.heap.size (by omega));have k:=Q4 u (l.block (X.heap.size+1) (by omega));have C:=t.1;have B:=s.size;have n:=l.size;rw[Xb,Xb]at n;have c:BL w w':=((s.alloc (by omega) (mdO ns.length)).alloc (by simp;omega) (mdO ns.length)).trans (l.mono (by omega))
 have a:=Pw ns ks m r g w'.heap.size cg bg w' v A D (t.below c) (by omega) (by omega) (by omega) (by omega) (by omega) ⟨List.replicate ns.length 0,List.replicate ns.length 0⟩
  (by rcases d with⟨rfl,rfl⟩|⟨rfl,rfl⟩;exact j;exact k) (by rcases d with⟨rfl,rfl⟩|⟨rfl,rfl⟩;exact k;exact j)
 rw[←E]at a;exact⟨z,g,cg,bg,rfl,by omega,by omega,by omega,a.1,a.2.1,c.trans (a.2.2.mono (by omega))⟩
theorem X0z(ns:List Nd)(d g:Nat)(w:World)(d3:1<=ns.length)(l:ns.length<=5000)(s:Kk ns=true)(H:∀k (h:k<(Xc ns).length),((Xc ns)[k]).length<=5000/\(X8 ns k=14->((Xc ns)[k]).length=2)/\(X8 ns k=16->1<=((Xc ns)[k]).length)/\(X8 ns k=15\/X8 ns k=20->1<=((Xc ns)[k]).length))(I:∀x∈ns,x.text.size<=1048576)(hG:U4 w)(ht:Yw w d ns): Calls prog 30 #[.agg #[.slice (some ⟨d,0,none⟩) ns.length g]] w fun e w'=>∃wb kg kc cg bg,e= .returned (.pointer (some ⟨wb,0,none⟩))/\Ix ns (Xc ns) wb d g kg kc cg bg w'/\Dy ns.length cg bg (YX ns (Xc ns) ns.length (ns.length-1) [Vm] (K8 ns.length)) w'/\w.heap.size<=cg/\w.heap.size<=bg/\Below w.heap.size w w':=by
 have N:BL w (w.alloc (.cells #[.slice (some ⟨d,0,none⟩) ns.length g] 25)):=bA _;have n:=Vn s;have u:=WJ ns;have d2:=CX ns.length l;have Y:=X1 (fun w' (hb:BL w w')=>Xfg ns d g w' l s (ht.below hb));have a8:=X1 H;have a9:=X1 u;have P:=X1 ht;have Q:=X1 I;have HG:=X1 hG;clear H u ht I hG;generalize d0:Xc ns=ks at *;go_enter func30,ntmps30;have q:(w.alloc (.cells #[.slice (some ⟨d,0,none⟩) ns.length g] 25)).cell? ⟨w.heap.size,0,none⟩=some (.slice (some ⟨d,0,none⟩) ns.length g):=by simp
 have v:Hid (∀(W:World) (z:Nat),BL w W->W.heap.size=z->Calls prog 89 #[.slice (some ⟨d,0,none⟩) ns.length g] W fun e w'=>e= .returned (.slice (some ⟨z,0,none⟩) ns.length ns.length)/\(U6 w' z w'.heap.size ks/\Below z W w'/\z<w'.heap.size)):=X1 (by
  rintro W z hb rfl;refine(Y.o W hb).mono ?_;rintro e w'⟨vs,v3,op,rfl,hk⟩;exact⟨rfl,U6.Xdq hk,hk.B,hk.sz⟩)
 clear Y;have A:Hid ((w.alloc (.cells #[.slice (some ⟨d,0,none⟩) ns.length g] 25)).heap.size=w.heap.size+1):=X1 (by simp);have y:=X1 (show BL w (w.alloc (.cells #[.slice (some ⟨d,0,none⟩) ns.length g] 25)).drew from N.drew);have Z:=X1 (show BL w ((w.alloc (.cells #[.slice (some ⟨d,0,none⟩) ns.length g] 25)).alloc (mdO ns.length)).drew from(N.alloc (by simp) _).drew);have a0:=X1 (show BL w (((w.alloc (.cells #[.slice (some ⟨d,0,none⟩) ns.length g] 25)).alloc (mdO ns.length)).alloc (mdO ns.length)).drew from((N.alloc (by simp) _).alloc (by rw[Xb,Xb];omega) _).drew);have a1:Hid ((w.alloc (.cells #[.slice (some ⟨d,0,none⟩) ns.length g] 25)).drew.heap.size=w.heap.size+1):=X1 (by show(w.alloc (.cells #[.slice (some ⟨d,0,none⟩) ns.length g] 25)).heap.size=_;simp);have a2:Hid (((w.alloc (.cells #[.slice (some ⟨d,0,none⟩) ns.length g] 25)).alloc (mdO ns.length)).drew.heap.size=w.heap.size+1+1):=X1 (by show((w.alloc (.cells #[.slice (some ⟨d,0,none⟩) ns.length g] 25)).alloc (mdO ns.length)).heap.size=_;simp);have a3:Hid ((((w.alloc (.cells #[.slice (some ⟨d,0,none⟩) ns.length g] 25)).alloc (mdO ns.length)).alloc (mdO ns.length)).drew.heap.size=w.heap.size+1+1+1):=X1 (by show(((w.alloc (.cells #[.slice (some ⟨d,0,none⟩) ns.length g] 25)).alloc (mdO ns.length)).alloc (mdO ns.length)).heap.size=_;simp);have r:((w.alloc (.cells #[.slice (some ⟨d,0,none⟩) ns.length g] 25)).alloc (mdO ns.length)).cell? ⟨w.heap.size,0,none⟩=some (.slice (some ⟨d,0,none⟩) ns.length g):=(((X5 (w.heap.size+1) _).alloc (by simp) _).cell (p:=⟨w.heap.size,0,none⟩) (XI _)).trans q;have E:(((w.alloc (.cells #[.slice (some ⟨d,0,none⟩) ns.length g] 25)).alloc (mdO ns.length)).alloc (mdO ns.length)).cell? ⟨w.heap.size,0,none⟩=some (.slice (some ⟨d,0,none⟩) ns.length g):=(((X5 (w.heap.size+1) _).alloc (by simp) _).cell (p:=⟨w.heap.size,0,none⟩) (XI _)).trans r;go_upto_region 2 with fail;go_cut[4]from 9 to 20 (fun v4 wx=>BdN ns ks d g w v4 wx)
 case first=>
  go_region_held3 (fun w'=>w'.cell? ⟨w.heap.size,0,none⟩=some (.slice (some ⟨d,0,none⟩) ns.length g)) (go_keep) (first
   | (refine Dj rfl 89 (.tmp 12) 23 rfl (.slice (some ⟨d,0,none⟩) ns.length g) (.slice (some ⟨w.heap.size+1,0,none⟩) ns.length ns.length) (by simp[Act.eval]) f89 func89 (by kernel_rfl) (by kernel_rfl) _ (v.o _ (w.heap.size+1) y.o a1.o) ?_;intro w5 a;have hbx:w5.cell? ⟨w.heap.size,0,none⟩=some (.slice (some ⟨d,0,none⟩) ns.length g):=(a.2.1.cell (p:=⟨w.heap.size,0,none⟩) (show w.heap.size<w.heap.size+1 by omega)).trans q)
   | (refine Dj rfl 89 (.tmp 12) 23 rfl (.slice (some ⟨d,0,none⟩) ns.length g) (.slice (some ⟨w.heap.size+1+1,0,none⟩) ns.length ns.length) (by simp[Act.eval]) f89 func89 (by kernel_rfl) (by kernel_rfl) _ (v.o _ (w.heap.size+1+1) Z.o a2.o) ?_;intro w5 a;have hbx:w5.cell? ⟨w.heap.size,0,none⟩=some (.slice (some ⟨d,0,none⟩) ns.length g):=(a.2.1.cell (p:=⟨w.heap.size,0,none⟩) (show w.heap.size<w.heap.size+1+1 by omega)).trans r)
   | (refine Dj rfl 89 (.tmp 12) 23 rfl (.slice (some ⟨d,0,none⟩) ns.length g) (.slice (some ⟨w.heap.size+1+1+1,0,none⟩) ns.length ns.length) (by simp[Act.eval]) f89 func89 (by kernel_rfl) (by kernel_rfl) _ (v.o _ (w.heap.size+1+1+1) a0.o a3.o) ?_;intro w5 a;have hbx:w5.cell? ⟨w.heap.size,0,none⟩=some (.slice (some ⟨d,0,none⟩) ns.length g):=(a.2.1.cell (p:=⟨w.heap.size,0,none⟩) (show w.heap.size<w.heap.size+1+1+1 by omega)).trans E)
   | fail)
  all_goals
   go_wp2_with fail;go_meet
   case rel=>
    first
    | exact AM l a.1 n Q.o P.o (y.o.trans (a.2.1.mono (by omega))) (.inl ⟨rfl,rfl⟩) rfl
    | exact AM l a.1 n Q.o P.o (y.o.trans (a.2.1.mono (by omega))) (.inr ⟨rfl,rfl⟩) rfl
    | exact AN A.o l a.1 rfl n Q.o P.o N (On a.2.1) (.inl ⟨rfl,rfl⟩) rfl
    | exact AN A.o l a.1 rfl n Q.o P.o N (On a.2.1) (.inr ⟨rfl,rfl⟩) rfl
    | exact AO A.o l a.1 rfl n Q.o P.o N (On a.2.1) (.inl ⟨rfl,rfl⟩) rfl
    | exact AO A.o l a.1 rfl n Q.o P.o N (On a.2.1) (.inr ⟨rfl,rfl⟩) rfl
 case rest=>
  obtain⟨wb,kg,cg,bg,rfl,d5,b4,b3,L,D,a4⟩:=hcut;have V:=X1 L;have f2:=L.f2;have J:=X1 a4;have c9:=(D.c.lt cg rfl).2;have c8:=(D.b.lt bg rfl).2;have a6:=X1 D;clear L D a4 v y Z a0 a1 a2 a3 q r E;go_wp2;go_loopw[25] (fun t wr=>∃i:Nat,i<=ns.length/\t= .int .i64 i/\Kp cg bg wc wr/\Dy ns.length cg bg ⟨List.replicate ns.length 0,List.replicate i (-1)++List.replicate (ns.length-i) 0⟩ wr) (fun t _=>ns.length-(intOf t).toNat)
  case atStart=>exact⟨0,X6 _,rfl,Kp.refl _ _ _,a6.o⟩
  case round=>
   obtain⟨i,hi,rfl,hK,C⟩:=hrel;have S:=X1 (V.o.kept hK);have b9:=S.o.f2;have K:=X1 C;by_cases u:i<ns.length
   .obtain⟨cb,fb⟩:=C.LZ i u;have b1:=X1 (EK ns.length i u);clear C;go_wp2;go_roundw
    case rel=>
     refine⟨i+1,by omega,by go_num,hK.setCell _ _ (.inr rfl),?_⟩;have:=K.o.L4 i (-1);rw[b1.o]at this;exact this
    case measure=>simp[intOf];omega
   .obtain rfl:i=ns.length:=by omega
    have a5:(⟨List.replicate ns.length 0,List.replicate ns.length (-1)++List.replicate (ns.length-ns.length) 0⟩:St)=K8 ns.length:=by unfold K8;rw[WC,List.replicate_zero,VS]
    rw[a5]at K;obtain⟨m,hm⟩:∃m,ns.length=m+1:=⟨ns.length-1,by omega⟩;have d4:=hK.size;have b6:=HG.o.1;have b8:=J.o.size;have a7:Hid (U4 wr):=X1 ⟨by omega,fun j hj=>((hK.cell (p:=⟨0,j,none⟩) (show 0<wc.heap.size by omega) (show 0≠cg by omega) (show 0≠bg by omega)).trans (J.o.cell (p:=⟨0,j,none⟩) b6)).trans (HG.o.2 j hj)⟩;clear C a5;have b0:Hid (ns.length-1=m):=X1 (by omega);have d1:(ns.length:Int)=(m:Int)+1:=by omega
    go_wp2_with fail;refine(X1q cg bg _ a7.o (by omega) (by omega)).mono ?_;rintro e w6⟨rfl,M,F⟩;have b2:=X1 (Y6p ns ks wb d g kg ns.length cg bg l a9.o a8.o ns.length m _ _ _ w6 (by omega) (by omega) (S.o.kept (Kp.Ky M)) (K.o.below M) F);clear F;go_wp2_with fail;refine b2.o.mono ?_;rintro e w7⟨rfl,b7,b5⟩;have X:=X1 ((hK.below M).trans b7);go_wp2;go_ret;refine⟨wb,kg,ns.length,cg,bg,rfl,V.o.kept X.o,?_,b4,b3,?_⟩
    .rw[b0.o];exact b5
    .have h7:=X.o;have I:=J.o;exact⟨h7.os.trans I.os,h7.tape.trans I.tape,h7.output.trans I.output,XO I.size h7.size,fun b hb=>(h7.block b (by omega) (by omega) (by omega)).trans (I.block b hb)⟩
theorem NV(ns:List Nd)(i:Nat)(h:i<ns.length)(op:List Gr)(a:ns[i].kids<0\/(op.length:Int)<ns[i].kids):ZS (ns.drop i) op=none:=by
 rw[Zp h,ZS,X3 a]
theorem NY(ns:List Nd)(i:Nat)(h:i<ns.length)(op:List Gr)(k m:Nat)(a:ns[i].kids=k)(c:op.length=m+k): ZS (ns.drop i) op=if Kw ns[i] (op.drop m)=true then ZS (ns.drop (i+1)) (op.take m++[⟨ns[i],Zr (op.drop m) 0⟩])else none:=by
 rw[Zp h,ZS,X2 (by omega),show op.length-ns[i].kids.toNat=m from by omega]
theorem MX{w:World}{B n size:Nat}{e:TypeId}{v:Value}{d:List Value}(h:w.ownsRow B e size v n d):(v= .slice none 0 0/\n=0)\/∃g a,v= .slice (some ⟨g,0,none⟩) n a:=by
 rcases h.2 with h|⟨g,a,_,c,_⟩
 .exact .inl h
 .exact .inr ⟨g,a,c⟩
theorem Pq(l:List Gr)(h b:Nat)(a:∀x∈l,x.high+1<=b)(c:h<=b):Zr l h<=b:=by
 induction l generalizing h with
 | nil=>exact c
 | cons x r g=>
  rw[Zr];exact g _ (fun y d=>a y (by simp[d])) (by have:=a x (by simp);split<;>omega)
theorem Pe{k n:Int}(h:Qb k n=true)(a:k=12\/k=15\/k=20):1<=n:=by
 rcases a with rfl|rfl|rfl<;>(simp[Qb]at h;omega)
theorem Pz(w:World)(x:Gr)(t:TypeId):∀(j:Nat) (u:Value),x.cells[j]?=some u->(w.alloc (.cells #[.int .i64 x.nd.kind,.int .i64 x.nd.op,.int .i64 x.nd.n,.string x.nd.text,.int .i64 x.nd.kids,.int .i64 x.high] t)).cell? ((⟨w.heap.size,0,none⟩:Addr).add j)=some u:=by
 intro j u h;rw[Vq,Xn,World.cell?,XM];simpa[Gr.cells]using h
theorem RM(x:Gr):∀u∈x.cells,u.oneCell'=true:=by
 intro u a;simp only[Gr.cells,Y6,ZA,Zy]at a;rcases a with rfl|rfl|rfl|rfl|rfl|rfl<;>rfl
theorem Vy{w w1:World}(h:Below w.drew.heap.size w.drew w1):Below w.heap.size w w1:=(X5 _ _).drew.trans h
theorem X8n:(prog.info? 160).map (fun i=>(i.zero,i.size,i.bytes))=some (some (.agg #[.int .i64 0,.int .i64 0,.int .i64 0,.string ⟨#[]⟩,.int .i64 0,.int .i64 0]),6,56):=by kernel_rfl
theorem X9h(ns:List Nd)(tg tc:Nat)(w:World)(hn:ns.length<=1048576)(d3:∀x∈ns,x.text.size<=1048576)(ht:Yw w tg ns): Calls prog 29 #[.agg #[.slice (some ⟨tg,0,none⟩) ns.length tc]] w fun e w'=>e= .returned (.bool (Kj ns))/\Below w.heap.size w w':=by
 obtain⟨iG,hG,c8,b9,b8⟩:=Yk X8n;have r1:BL w (w.alloc (.cells #[.slice (some ⟨tg,0,none⟩) ns.length tc] 25)):=bA _;have HT:=X1 ht;have HX:=X1 d3;clear ht d3;by_cases d9:5000<ns.length
 .have HD:Hid (Kj ns=false):=X1 (by unfold Kj;rw[Yb (by omega)];rfl);go_enter func29,ntmps29;go_wp2;go_ret;exact⟨Xf HD.o.symm,r1⟩
 .have HD:Hid (Kj ns=UI (ZS ns [])):=X1 (by unfold Kj;rw[YJ (by omega)];rfl);go_enter func29,ntmps29;go_wp2_with fail;refine(FW _).mono ?_;rintro e w1⟨rfl,K,c9⟩;have y:Hid (BL w w1):=X1 (r1.trans (c9.mono (by simp)));have e0:w1.cell? ⟨w.heap.size,0,none⟩=some (.slice (some ⟨tg,0,none⟩) ns.length tc):=(c9.cell (p:=⟨w.heap.size,0,none⟩) (by simp)).trans (by simp);have b7:=X1 K;clear K c9;rw[Xb]at *;go_wp2
  go_loopw[4,17] (fun v4 t wr=>∃(i:Nat) (op:List Gr),i<=ns.length/\t= .int .i64 i/\op.length<=i/\(∀x∈op,x.high<=i/\x.nd.text.size<=1048576)/\wr.ownsRow w1.heap.size 160 6 v4 op.length (YN op)/\BL w1 wr/\
    ZS ns []=ZS (ns.drop i) op) (fun _ t _=>ns.length-(intOf t).toNat)
  case atStart=>exact⟨0,[],X6 _,rfl,X4 _,(fun x h=>by cases h),ZJ _ _ _ _,X5 _ _,rfl⟩
  case round=>
   obtain⟨i,op,e3,rfl,e5,d2,ho,hB,he⟩:=hrel;have HE:=X1 he;have a0:=X1 d2;clear he d2;by_cases b5:i<ns.length
   .have hN:=(HT.o.below (y.o.trans (hB.mono y.o.size))).2 i b5;obtain⟨n0,n1,n2,n3,n4⟩:=hN;have a5:=X1 (NV ns i b5 op);have C:=X1 (NY ns i b5 op);have W:=HX.o ns[i] (XR b5);generalize d6:ns[i]=d at *;clear d6;obtain⟨z,j,dn,dt,N⟩:=d;simp only at n0 n1 n2 n3 n4 a5 C W;by_cases b6:N<0
    .have H:Hid (Kj ns=false):=X1 (by rw[HD.o,HE.o,a5.o (.inl b6)];rfl);go_wp2;go_ret;exact⟨Xf H.o.symm,y.o.trans ((hB.alloc hB.size _).mono y.o.size)⟩
    .by_cases a4:(op.length:Int)<N
     .have H:Hid (Kj ns=false):=X1 (by rw[HD.o,HE.o,a5.o (.inr a4)];rfl);rcases MX ho with⟨rfl,hz⟩|⟨g,F,rfl⟩
      .rw[hz]at a4;have d4:0<N:=by omega
       go_wp2;go_ret;exact⟨Xf H.o.symm,y.o.trans ((hB.alloc hB.size _).mono y.o.size)⟩
      .go_wp2;go_ret;exact⟨Xf H.o.symm,y.o.trans ((hB.alloc hB.size _).mono y.o.size)⟩
     obtain⟨k,rfl⟩:∃k:Nat,N=k:=⟨N.toNat,by omega⟩;obtain⟨m,hm⟩:∃m,op.length=m+k:=⟨op.length-k,by omega⟩;have hq:¬((m:Int)+(k:Int)<(k:Int)):=by omega
     have d8:decide ((m:Int)+(k:Int)<(k:Int))=false:=by simp;omega
     clear b6 a4;rcases MX ho with⟨rfl,hz⟩|⟨g,F,rfl⟩
     .obtain rfl:k=0:=by omega
      obtain rfl:m=0:=by omega
      obtain rfl:op=[]:=JC hz;have M:Hid (GrV (wr.alloc (.cells #[.int .i64 z,.int .i64 j,.int .i64 dn,.string dt,.int .i64 0] 48)) (.slice none 0 0) []):=X1 (.inl ⟨_,_,rfl,rfl⟩);have a9:Hid (wr.ownsRow w1.heap.size 160 6 (.slice none 0 0) 0 (YN [])):=X1 (ZJ _ _ _ _)
      replace C:=X1 (C.o 0 0 rfl rfl)
      rw[show List.drop 0 ([]:List Gr)=[]from rfl,show List.take 0 ([]:List Gr)=[]from rfl,show((0:Nat):Int)=0 from rfl]at C;clear ho hq d8 hm hz;have I:=X1 (hB.alloc hB.size (.cells #[.int .i64 z,.int .i64 j,.int .i64 dn,.string dt,.int .i64 0] 48));have HU:=X1 (Sz z j dn 0 dt (w.heap.size+1) (wr.alloc (.cells #[.int .i64 z,.int .i64 j,.int .i64 dn,.string dt,.int .i64 0] 48)) W (Da b7.o I.o));have HC:=X1 (PK z j dn 0 dt);cases Z:Xh ⟨z,j,dn,dt,0⟩
      .have H:Hid (Kj ns=false):=X1 (by rw[HD.o,HE.o,C.o,X2 (by unfold Kw;rw[Z];simp)];rfl);have r:=HU.o;rw[Z]at r
       replace r:=X1 r
       go_wp2_with fail;refine r.o.mono ?_;rintro e w2⟨rfl,a⟩;obtain⟨x0,x1,x2,x3,x4,x5⟩:=YG a;go_wp2;go_ret;exact⟨Xf H.o.symm,y.o.trans ((I.o.trans (a.mono (I.o.size))).mono y.o.size)⟩
      .have r:=HU.o;rw[Z]at r
       replace r:=X1 r
       cases Y:Qb z 0
       .have H:Hid (Kj ns=false):=X1 (by rw[HD.o,HE.o,C.o,X2 (by unfold Kw;rw[Z,Y];simp)];rfl);have s:=HC.o;rw[Y]at s
        replace s:=X1 s
        go_wp2_with fail;refine r.o.mono ?_;rintro e w2⟨rfl,a⟩;obtain⟨x0,x1,x2,x3,x4,x5⟩:=YG a;go_wp2_with fail;refine(s.o _).mono ?_;rintro e w3⟨rfl,B⟩;have l:=a.trans (B.mono a.size);obtain⟨y0,y1,y2,y3,y4,y5⟩:=YG l;go_wp2;go_ret;exact⟨Xf H.o.symm,y.o.trans ((I.o.trans (l.mono (I.o.size))).mono y.o.size)⟩
       .have s:=HC.o;rw[Y]at s
        replace s:=X1 s
        have L:Hid (∀w',GrV w' (.slice none 0 0) ([])->Calls prog 87 #[.agg #[.int .i64 z,.int .i64 j,.int .i64 dn,.string dt,.int .i64 0],(.slice none 0 0)] w' fun e X=>e= .returned (.bool (YE z ([])))/\BL w' X):=X1 fun w' hg=>Rn z j dn 0 dt ([]) _ w' (X6 _) (fun h=>by have:=Pe Y h;omega) (fun x E=>by cases E) hg;cases hf:YE z ([])
        .have H:Hid (Kj ns=false):=X1 (by rw[HD.o,HE.o,C.o,X2 (by unfold Kw;rw[Z,Y,hf];simp)];rfl);have u:=L.o;rw[hf]at u
         replace u:=X1 u
         go_wp2_with fail;refine r.o.mono ?_;rintro e w2⟨rfl,a⟩;obtain⟨x0,x1,x2,x3,x4,x5⟩:=YG a;go_wp2_with fail;refine(s.o _).mono ?_;rintro e w3⟨rfl,B⟩;have l:=a.trans (B.mono a.size);obtain⟨y0,y1,y2,y3,y4,y5⟩:=YG l;go_wp2_with fail;refine(u.o _ (M.o.below l)).mono ?_;rintro e w4⟨rfl,J⟩;have v:=l.trans (J.mono l.size);obtain⟨z0,z1,z2,z3,z4,z5⟩:=YG v;go_wp2;go_ret;exact⟨Xf H.o.symm,y.o.trans ((I.o.trans (v.mono (I.o.size))).mono y.o.size)⟩
        .have H:Hid (ZS ns []=ZS (ns.drop (i+1)) ([]++[⟨⟨z,j,dn,dt,0⟩,Zr ([]) 0⟩])):=X1 (by rw[HE.o,C.o,X3 (by unfold Kw;rw[Z,Y,hf];rfl)]);have u:=L.o;rw[hf]at u
         replace u:=X1 u
         have b3:Zr ([]) 0<=i+1:=Pq _ _ _ (fun x E=>by cases E) (by omega);have a7:Hid (∀w',GrV w' (.slice none 0 0) ([])->Calls prog 88 #[(.slice none 0 0)] w' fun e X=>e= .returned (.int .i64 (Zr ([]) 0:Nat))/\BL w' X):=X1 fun w' hg=>Rb ([]) _ w' (X6 _) (fun x E=>by cases E) hg;generalize a3:Zr ([]) 0=ov at *;clear a3 HU HC L a5 C;go_wp2_with fail;refine r.o.mono ?_;rintro e w2⟨rfl,a⟩;obtain⟨x0,x1,x2,x3,x4,x5⟩:=YG a;go_wp2_with fail;refine(s.o _).mono ?_;rintro e w3⟨rfl,B⟩;have l:=a.trans (B.mono a.size);obtain⟨y0,y1,y2,y3,y4,y5⟩:=YG l;go_wp2_with fail;refine(u.o _ (M.o.below l)).mono ?_;rintro e w4⟨rfl,J⟩;have v:=l.trans (J.mono l.size);obtain⟨z0,z1,z2,z3,z4,z5⟩:=YG v;have P:BL w1 w4:=I.o.trans (v.mono I.o.size);have a6:Hid (GrV w4.drew (.slice none 0 0) ([])):=X1 ((M.o.below v).below (X5 _ _).drew);have a8:Hid (w4.ownsRow w1.heap.size 160 6 (.slice none 0 0) 0 (YN ([]))):=X1 (Gk (a9.o.alloc _) v);have a1:=X1 v;clear a B J l x0 x1 x2 x3 x4 x5 y0 y1 y2 y3 y4 y5 u s r v;go_wp2;go_region_law(first
          | (refine Dj rfl 88 (.tmp 58) 154 rfl (.slice none 0 0) (.int .i64 (ov:Nat)) (by simp[Act.eval,Act.put]) f88 func88 (by kernel_rfl) (by kernel_rfl) _ (a7.o _ a6.o) ?_;intro w5 D;obtain⟨y0,y1,y2,y3,y4,y5⟩:=YG (a1.o.trans ((Vy D).mono a1.o.size)))
          | (refine Sj rfl (.tmp 56) (.tmp 61) 154 rfl w1.heap.size 160 iG _ 6 56 underlying154 hG c8 b9 b8 rfl (by decide) (.slice none 0 0) 0 (YN ([])) (by simp[Act.eval]) ((Gk a8.o (Vy D)).alloc _) ⟨w5.heap.size,0,none⟩ 1 1 (Gr.cells ⟨⟨z,j,dn,dt,0⟩,ov⟩) (by simp[Act.eval]) rfl (Pz _ _ _) (RM _) (by unfold maxLen;omega) (by omega) (by have:=P.size;have:=D.size;simp at *;omega) ?_;intro v6 w6 V A S a2))
         all_goals
          have Q:BL w1 w5:=P.trans ((Vy D).mono P.size);have b1:BL w1 w6:=(Q.alloc Q.size _).grown A (by simp;have:=Q.size;omega) (fun q e=>by simp[Value.ownBlock]at e);clear A S a2 D;go_wp2;go_roundw
          case rel=>
           refine⟨i+1,[]++[⟨⟨z,j,dn,dt,0⟩,ov⟩],by omega,by go_num,?_,?_,?_,b1,H.o⟩
           .simp
           .intro x E;rcases K7.1 E with E|E
            .cases E
            .obtain rfl:x=_:=QZ.1 E;exact⟨b3,W⟩
           .have b2:([]++[(⟨⟨z,j,dn,dt,0⟩,ov⟩:Gr)]).length=0+1:=rfl;have K:YN ([]++[(⟨⟨z,j,dn,dt,0⟩,ov⟩:Gr)])=YN ([])++Gr.cells ⟨⟨z,j,dn,dt,0⟩,ov⟩:=by simp[YN]
            rw[b2,K];exact V
          case measure=>simp[intOf];omega
     .obtain⟨d0,e1,e2⟩:=Qx ho;by_cases d5:F=m
      .have d1:m=F:=d5.symm;subst d1;have M:Hid (GrV (wr.alloc (.cells #[.int .i64 z,.int .i64 j,.int .i64 dn,.string dt,.int .i64 (k:Int)] 48)) (.slice (some ⟨g,0,none⟩) k 0) (op.drop m)):=X1 (by
        have d7:k=0:=by omega
        rw[d7];exact .inl ⟨_,_,rfl,Yu (by omega)⟩)
       have a9:Hid (wr.ownsRow w1.heap.size 160 6 (.slice (some ⟨g,0,none⟩) m m) m (YN (op.take m))):=X1 (by rw[←Am];exact ES ho m (by omega));clear ho;have I:=X1 (hB.alloc hB.size (.cells #[.int .i64 z,.int .i64 j,.int .i64 dn,.string dt,.int .i64 (k:Int)] 48));have HU:=X1 (Sz z j dn (k:Int) dt (w.heap.size+1) (wr.alloc (.cells #[.int .i64 z,.int .i64 j,.int .i64 dn,.string dt,.int .i64 (k:Int)] 48)) W (Da b7.o I.o));have HC:=X1 (PK z j dn (k:Int) dt);cases Z:Xh ⟨z,j,dn,dt,(k:Int)⟩
       .have H:Hid (Kj ns=false):=X1 (by rw[HD.o,HE.o,C.o k m rfl hm,X2 (by unfold Kw;rw[Z];simp)];rfl);have r:=HU.o;rw[Z]at r
        replace r:=X1 r
        go_wp2_with fail;refine r.o.mono ?_;rintro e w2⟨rfl,a⟩;obtain⟨x0,x1,x2,x3,x4,x5⟩:=YG a;go_wp2;go_ret;exact⟨Xf H.o.symm,y.o.trans ((I.o.trans (a.mono (I.o.size))).mono y.o.size)⟩
       .have r:=HU.o;rw[Z]at r
        replace r:=X1 r
        cases Y:Qb z (k:Int)
        .have H:Hid (Kj ns=false):=X1 (by rw[HD.o,HE.o,C.o k m rfl hm,X2 (by unfold Kw;rw[Z,Y];simp)];rfl);have s:=HC.o;rw[Y]at s
         replace s:=X1 s
         go_wp2_with fail;refine r.o.mono ?_;rintro e w2⟨rfl,a⟩;obtain⟨x0,x1,x2,x3,x4,x5⟩:=YG a;go_wp2_with fail;refine(s.o _).mono ?_;rintro e w3⟨rfl,B⟩;have l:=a.trans (B.mono a.size);obtain⟨y0,y1,y2,y3,y4,y5⟩:=YG l;go_wp2;go_ret;exact⟨Xf H.o.symm,y.o.trans ((I.o.trans (l.mono (I.o.size))).mono y.o.size)⟩
        .have s:=HC.o;rw[Y]at s
         replace s:=X1 s
         have L:Hid (∀w',GrV w' (.slice (some ⟨g,0,none⟩) k 0) (op.drop m)->Calls prog 87 #[.agg #[.int .i64 z,.int .i64 j,.int .i64 dn,.string dt,.int .i64 (k:Int)],(.slice (some ⟨g,0,none⟩) k 0)] w' fun e X=>e= .returned (.bool (YE z (op.drop m)))/\BL w' X):=X1 fun w' hg=>Rn z j dn (k:Int) dt (op.drop m) _ w' (by rw[YA];omega) (fun h=>by rw[YA];have:=Pe Y h;omega) (fun x E=>(a0.o x (KQ E)).2) hg;cases hf:YE z (op.drop m)
         .have H:Hid (Kj ns=false):=X1 (by rw[HD.o,HE.o,C.o k m rfl hm,X2 (by unfold Kw;rw[Z,Y,hf];simp)];rfl);have u:=L.o;rw[hf]at u
          replace u:=X1 u
          go_wp2_with fail;refine r.o.mono ?_;rintro e w2⟨rfl,a⟩;obtain⟨x0,x1,x2,x3,x4,x5⟩:=YG a;go_wp2_with fail;refine(s.o _).mono ?_;rintro e w3⟨rfl,B⟩;have l:=a.trans (B.mono a.size);obtain⟨y0,y1,y2,y3,y4,y5⟩:=YG l;go_wp2_with fail;refine(u.o _ (M.o.below l)).mono ?_;rintro e w4⟨rfl,J⟩;have v:=l.trans (J.mono l.size);obtain⟨z0,z1,z2,z3,z4,z5⟩:=YG v;go_wp2;go_ret;exact⟨Xf H.o.symm,y.o.trans ((I.o.trans (v.mono (I.o.size))).mono y.o.size)⟩
         .have H:Hid (ZS ns []=ZS (ns.drop (i+1)) (op.take m++[⟨⟨z,j,dn,dt,(k:Int)⟩,Zr (op.drop m) 0⟩])):=X1 (by rw[HE.o,C.o k m rfl hm,X3 (by unfold Kw;rw[Z,Y,hf];rfl)]);have u:=L.o;rw[hf]at u
          replace u:=X1 u
          have b3:Zr (op.drop m) 0<=i+1:=Pq _ _ _ (fun x E=>by have:=(a0.o x (KQ E)).1;omega) (by omega);have a7:Hid (∀w',GrV w' (.slice (some ⟨g,0,none⟩) k 0) (op.drop m)->Calls prog 88 #[(.slice (some ⟨g,0,none⟩) k 0)] w' fun e X=>e= .returned (.int .i64 (Zr (op.drop m) 0:Nat))/\BL w' X):=X1 fun w' hg=>Rb (op.drop m) _ w' (by rw[YA];omega) (fun x E=>by have:=(a0.o x (KQ E)).1;omega) hg;generalize a3:Zr (op.drop m) 0=ov at *;clear a3 HU HC L a5 C;go_wp2_with fail;refine r.o.mono ?_;rintro e w2⟨rfl,a⟩;obtain⟨x0,x1,x2,x3,x4,x5⟩:=YG a;go_wp2_with fail;refine(s.o _).mono ?_;rintro e w3⟨rfl,B⟩;have l:=a.trans (B.mono a.size);obtain⟨y0,y1,y2,y3,y4,y5⟩:=YG l;go_wp2_with fail;refine(u.o _ (M.o.below l)).mono ?_;rintro e w4⟨rfl,J⟩;have v:=l.trans (J.mono l.size);obtain⟨z0,z1,z2,z3,z4,z5⟩:=YG v;have P:BL w1 w4:=I.o.trans (v.mono I.o.size);have a6:Hid (GrV w4.drew (.slice (some ⟨g,0,none⟩) k 0) (op.drop m)):=X1 ((M.o.below v).below (X5 _ _).drew);have a8:Hid (w4.ownsRow w1.heap.size 160 6 (.slice (some ⟨g,0,none⟩) m m) m (YN (op.take m))):=X1 (Gk (a9.o.alloc _) v);have a1:=X1 v;clear a B J l x0 x1 x2 x3 x4 x5 y0 y1 y2 y3 y4 y5 u s r v;go_wp2;go_region_law(first
           | (refine Dj rfl 88 (.tmp 58) 154 rfl (.slice (some ⟨g,0,none⟩) k 0) (.int .i64 (ov:Nat)) (by simp[Act.eval,Act.put]) f88 func88 (by kernel_rfl) (by kernel_rfl) _ (a7.o _ a6.o) ?_;intro w5 D;obtain⟨y0,y1,y2,y3,y4,y5⟩:=YG (a1.o.trans ((Vy D).mono a1.o.size)))
           | (refine Sj rfl (.tmp 56) (.tmp 61) 154 rfl w1.heap.size 160 iG _ 6 56 underlying154 hG c8 b9 b8 rfl (by decide) (.slice (some ⟨g,0,none⟩) m m) m (YN (op.take m)) (by simp[Act.eval]) ((Gk a8.o (Vy D)).alloc _) ⟨w5.heap.size,0,none⟩ 1 1 (Gr.cells ⟨⟨z,j,dn,dt,(k:Int)⟩,ov⟩) (by simp[Act.eval]) rfl (Pz _ _ _) (RM _) (by unfold maxLen;omega) (by omega) (by have:=P.size;have:=D.size;simp at *;omega) ?_;intro v6 w6 V A S a2))
          all_goals
           have Q:BL w1 w5:=P.trans ((Vy D).mono P.size);have b1:BL w1 w6:=(Q.alloc Q.size _).grown A (by simp;have:=Q.size;omega) (fun q e=>by simp[Value.ownBlock]at e;omega);clear A S a2 D;go_wp2;go_roundw
           case rel=>
            refine⟨i+1,op.take m++[⟨⟨z,j,dn,dt,(k:Int)⟩,ov⟩],by omega,by go_num,?_,?_,?_,b1,H.o⟩
            .simp;omega
            .intro x E;rcases K7.1 E with E|E
             .have:=a0.o x (UC E);exact⟨by omega,this.2⟩
             .obtain rfl:x=_:=QZ.1 E;exact⟨b3,W⟩
            .have b2:(op.take m++[(⟨⟨z,j,dn,dt,(k:Int)⟩,ov⟩:Gr)]).length=m+1:=by rw[Xo,YM,QL (by omega)];rfl
             have K:YN (op.take m++[(⟨⟨z,j,dn,dt,(k:Int)⟩,ov⟩:Gr)])=YN (op.take m)++Gr.cells ⟨⟨z,j,dn,dt,(k:Int)⟩,ov⟩:=by simp[YN]
             rw[b2,K];exact V
           case measure=>simp[intOf];omega
      .have M:=X1 (((Cn ho).below (bA (.cells #[.int .i64 z,.int .i64 j,.int .i64 dn,.string dt,.int .i64 (k:Int)] 48))).PN (n:=k) (p:=m) (c:=F) (by omega) d0 (by omega) (some ⟨g,m*6,none⟩) (.inl (by rw[Xn])));have a9:Hid (wr.ownsRow w1.heap.size 160 6 (.slice (some ⟨g,0,none⟩) m F) m (YN (op.take m))):=X1 (by rw[←Am];exact ES ho m (by omega));clear ho;have e4:m<=F:=by omega
       have I:=X1 (hB.alloc hB.size (.cells #[.int .i64 z,.int .i64 j,.int .i64 dn,.string dt,.int .i64 (k:Int)] 48));have HU:=X1 (Sz z j dn (k:Int) dt (w.heap.size+1) (wr.alloc (.cells #[.int .i64 z,.int .i64 j,.int .i64 dn,.string dt,.int .i64 (k:Int)] 48)) W (Da b7.o I.o));have HC:=X1 (PK z j dn (k:Int) dt);cases Z:Xh ⟨z,j,dn,dt,(k:Int)⟩
       .have H:Hid (Kj ns=false):=X1 (by rw[HD.o,HE.o,C.o k m rfl hm,X2 (by unfold Kw;rw[Z];simp)];rfl);have r:=HU.o;rw[Z]at r
        replace r:=X1 r
        go_wp2_with fail;refine r.o.mono ?_;rintro e w2⟨rfl,a⟩;obtain⟨x0,x1,x2,x3,x4,x5⟩:=YG a;go_wp2;go_ret;exact⟨Xf H.o.symm,y.o.trans ((I.o.trans (a.mono (I.o.size))).mono y.o.size)⟩
       .have r:=HU.o;rw[Z]at r
        replace r:=X1 r
        cases Y:Qb z (k:Int)
        .have H:Hid (Kj ns=false):=X1 (by rw[HD.o,HE.o,C.o k m rfl hm,X2 (by unfold Kw;rw[Z,Y];simp)];rfl);have s:=HC.o;rw[Y]at s
         replace s:=X1 s
         go_wp2_with fail;refine r.o.mono ?_;rintro e w2⟨rfl,a⟩;obtain⟨x0,x1,x2,x3,x4,x5⟩:=YG a;go_wp2_with fail;refine(s.o _).mono ?_;rintro e w3⟨rfl,B⟩;have l:=a.trans (B.mono a.size);obtain⟨y0,y1,y2,y3,y4,y5⟩:=YG l;go_wp2;go_ret;exact⟨Xf H.o.symm,y.o.trans ((I.o.trans (l.mono (I.o.size))).mono y.o.size)⟩
        .have s:=HC.o;rw[Y]at s
         replace s:=X1 s
         have L:Hid (∀w',GrV w' (.slice (some ⟨g,m*6,none⟩) k (F-m)) (op.drop m)->Calls prog 87 #[.agg #[.int .i64 z,.int .i64 j,.int .i64 dn,.string dt,.int .i64 (k:Int)],(.slice (some ⟨g,m*6,none⟩) k (F-m))] w' fun e X=>e= .returned (.bool (YE z (op.drop m)))/\BL w' X):=X1 fun w' hg=>Rn z j dn (k:Int) dt (op.drop m) _ w' (by rw[YA];omega) (fun h=>by rw[YA];have:=Pe Y h;omega) (fun x E=>(a0.o x (KQ E)).2) hg;cases hf:YE z (op.drop m)
         .have H:Hid (Kj ns=false):=X1 (by rw[HD.o,HE.o,C.o k m rfl hm,X2 (by unfold Kw;rw[Z,Y,hf];simp)];rfl);have u:=L.o;rw[hf]at u
          replace u:=X1 u
          go_wp2_with fail;refine r.o.mono ?_;rintro e w2⟨rfl,a⟩;obtain⟨x0,x1,x2,x3,x4,x5⟩:=YG a;go_wp2_with fail;refine(s.o _).mono ?_;rintro e w3⟨rfl,B⟩;have l:=a.trans (B.mono a.size);obtain⟨y0,y1,y2,y3,y4,y5⟩:=YG l;go_wp2_with fail;refine(u.o _ (M.o.below l)).mono ?_;rintro e w4⟨rfl,J⟩;have v:=l.trans (J.mono l.size);obtain⟨z0,z1,z2,z3,z4,z5⟩:=YG v;go_wp2;go_ret;exact⟨Xf H.o.symm,y.o.trans ((I.o.trans (v.mono (I.o.size))).mono y.o.size)⟩
         .have H:Hid (ZS ns []=ZS (ns.drop (i+1)) (op.take m++[⟨⟨z,j,dn,dt,(k:Int)⟩,Zr (op.drop m) 0⟩])):=X1 (by rw[HE.o,C.o k m rfl hm,X3 (by unfold Kw;rw[Z,Y,hf];rfl)]);have u:=L.o;rw[hf]at u
          replace u:=X1 u
          have b3:Zr (op.drop m) 0<=i+1:=Pq _ _ _ (fun x E=>by have:=(a0.o x (KQ E)).1;omega) (by omega);have a7:Hid (∀w',GrV w' (.slice (some ⟨g,m*6,none⟩) k (F-m)) (op.drop m)->Calls prog 88 #[(.slice (some ⟨g,m*6,none⟩) k (F-m))] w' fun e X=>e= .returned (.int .i64 (Zr (op.drop m) 0:Nat))/\BL w' X):=X1 fun w' hg=>Rb (op.drop m) _ w' (by rw[YA];omega) (fun x E=>by have:=(a0.o x (KQ E)).1;omega) hg;generalize a3:Zr (op.drop m) 0=ov at *;clear a3 HU HC L a5 C;go_wp2_with fail;refine r.o.mono ?_;rintro e w2⟨rfl,a⟩;obtain⟨x0,x1,x2,x3,x4,x5⟩:=YG a;go_wp2_with fail;refine(s.o _).mono ?_;rintro e w3⟨rfl,B⟩;have l:=a.trans (B.mono a.size);obtain⟨y0,y1,y2,y3,y4,y5⟩:=YG l;go_wp2_with fail;refine(u.o _ (M.o.below l)).mono ?_;rintro e w4⟨rfl,J⟩;have v:=l.trans (J.mono l.size);obtain⟨z0,z1,z2,z3,z4,z5⟩:=YG v;have P:BL w1 w4:=I.o.trans (v.mono I.o.size);have a6:Hid (GrV w4.drew (.slice (some ⟨g,m*6,none⟩) k (F-m)) (op.drop m)):=X1 ((M.o.below v).below (X5 _ _).drew);have a8:Hid (w4.ownsRow w1.heap.size 160 6 (.slice (some ⟨g,0,none⟩) m F) m (YN (op.take m))):=X1 (Gk (a9.o.alloc _) v);have a1:=X1 v;clear a B J l x0 x1 x2 x3 x4 x5 y0 y1 y2 y3 y4 y5 u s r v;go_wp2;go_region_law(first
           | (refine Dj rfl 88 (.tmp 58) 154 rfl (.slice (some ⟨g,m*6,none⟩) k (F-m)) (.int .i64 (ov:Nat)) (by simp[Act.eval,Act.put]) f88 func88 (by kernel_rfl) (by kernel_rfl) _ (a7.o _ a6.o) ?_;intro w5 D;obtain⟨y0,y1,y2,y3,y4,y5⟩:=YG (a1.o.trans ((Vy D).mono a1.o.size)))
           | (refine Sj rfl (.tmp 56) (.tmp 61) 154 rfl w1.heap.size 160 iG _ 6 56 underlying154 hG c8 b9 b8 rfl (by decide) (.slice (some ⟨g,0,none⟩) m F) m (YN (op.take m)) (by simp[Act.eval]) ((Gk a8.o (Vy D)).alloc _) ⟨w5.heap.size,0,none⟩ 1 1 (Gr.cells ⟨⟨z,j,dn,dt,(k:Int)⟩,ov⟩) (by simp[Act.eval]) rfl (Pz _ _ _) (RM _) (by unfold maxLen;omega) (by omega) (by have:=P.size;have:=D.size;simp at *;omega) ?_;intro v6 w6 V A S a2))
          all_goals
           have Q:BL w1 w5:=P.trans ((Vy D).mono P.size);have b1:BL w1 w6:=(Q.alloc Q.size _).grown A (by simp;have:=Q.size;omega) (fun q e=>by simp[Value.ownBlock]at e;omega);clear A S a2 D;go_wp2;go_roundw
           case rel=>
            refine⟨i+1,op.take m++[⟨⟨z,j,dn,dt,(k:Int)⟩,ov⟩],by omega,by go_num,?_,?_,?_,b1,H.o⟩
            .simp;omega
            .intro x E;rcases K7.1 E with E|E
             .have:=a0.o x (UC E);exact⟨by omega,this.2⟩
             .obtain rfl:x=_:=QZ.1 E;exact⟨b3,W⟩
            .have b2:(op.take m++[(⟨⟨z,j,dn,dt,(k:Int)⟩,ov⟩:Gr)]).length=m+1:=by rw[Xo,YM,QL (by omega)];rfl
             have K:YN (op.take m++[(⟨⟨z,j,dn,dt,(k:Int)⟩,ov⟩:Gr)])=YN (op.take m)++Gr.cells ⟨⟨z,j,dn,dt,(k:Int)⟩,ov⟩:=by simp[YN]
             rw[b2,K];exact V
           case measure=>simp[intOf];omega
   .have H:Hid (Kj ns=UI (some op)):=X1 (by rw[HD.o,HE.o,Yu (by omega)];rfl);have b4:=y.o.trans (hB.mono y.o.size);by_cases h1:op.length=1
    .rcases MX ho with⟨rfl,hz⟩|⟨g,F,rfl⟩
     .omega
     .obtain⟨c0,_,_,_,_,c5⟩:=(Cn ho).2 0 (by omega);obtain⟨x,rfl⟩:∃x,op=[x]:=List.length_eq_one_iff.1 h1;have b0:Hid (Kj ns=((x.nd.kind==24)&&decide ((x.high:Int)<=50))):=X1 (by rw[H.o];simp only[UI];congr 1;rw[PM];omega);simp only[Ls,Xn,Nat.zero_mul,JE]at c0 c5⊢;cases hk:(x.nd.kind==24)
      .go_wp2;go_ret;exact⟨Xf (by rw[b0.o,hk];rfl),b4⟩
      .go_wp2;go_ret;exact⟨Xf (by rw[b0.o,hk];rfl),b4⟩
    .have b0:Hid (Kj ns=false):=X1 (by
      rw[H.o]
      match op,h1 with
      | [],_=>rfl
      | [x],h1=>exact absurd rfl h1
      | _::_::_,_=>rfl)
     have h2:((op.length:Int)==1)=false:=by simp;omega
     rcases MX ho with⟨rfl,hz⟩|⟨g,F,rfl⟩
     .go_wp2;go_ret;exact⟨Xf b0.o.symm,b4⟩
     .go_wp2;go_ret;exact⟨Xf b0.o.symm,b4⟩
