import Derived.Test.YtkoiikmhfaebnaaGreatDoorB09
import Derived.Test.YtkoiikmhfaebnaaGreatDoorB13
set_option maxHeartbeats 4000000
set_option maxRecDepth 100000
namespace Go.Proofs.YtkoiikmhfaebnaaGreatDoor
open Tryz Go.RowKit
def Qo(ns:List Nd)(x:Nat)(kn:List Kn)(s:St):St:=kn.foldl (fun s p=>if p.1=Xi ns x then Xq x 8 s else s) s
def Zu(ns:List Nd):List Nat->List Kn->St->List Kn × St
 | [],kn,s=>(kn,s)
 | x::r,kn,s=>Zu ns r (kn++[(Xi ns x,x)]) (Qo ns x kn s)
def K8(n:Nat):St:=⟨List.replicate n 0,List.replicate n (-1)⟩
def QC(ns:List Nd)(ks:List (List Nat)):St:=Xg ns ks ns.length (ns.length-1) (Zu ns (Yn ns ks (X9 ks (ns.length-1))) [] (K8 ns.length)).1 (Zu ns (Yn ns ks (X9 ks (ns.length-1))) [] (K8 ns.length)).2
theorem Nk(ns:List Nd)(x:Nat)(a:List Kn)(j:Nat)(s:St)(h:j<a.length):Qo ns x (a.take (j+1)) s=if a[j].1=Xi ns x then Xq x 8 (Qo ns x (a.take j) s)else Qo ns x (a.take j) s:=by
 unfold Qo;rw[Kt h,GP];rfl
theorem Ts(ns:List Nd)(a:List Nat)(i:Nat)(c:List Kn)(s:St)(h:i<a.length):Zu ns (a.drop i) c s=Zu ns (a.drop (i+1)) (c++[(Xi ns a[i],a[i])]) (Qo ns a[i] c s):=by
 rw[Zp h];rfl
theorem Aw(ns:List Nd)(ks:List (List Nat))(m:Nat)(d:∀k (h:k<ks.length),∀x∈ks[k],x<ns.length):∀x∈Yn ns ks (X9 ks m),x<ns.length:=by
 have g:∀k,∀x∈X9 ks k,x<ns.length:=by
  intro k x c;unfold X9 at c;by_cases h:k<ks.length
  .rw[YH h]at c;exact d k h x c
  .rw[JD (by omega)]at c;cases c
 intro x c;obtain⟨y,j,a⟩:=GR.1 c;unfold Ja at a;split at a
 .have:x=y:=by simpa using a
  subst this;exact g m x j
 .split at a
  .exact g y x a
  .cases a
theorem EK(n i:Nat)(h:i<n):(List.replicate i (-1:Int)++List.replicate (n-i) 0).set i (-1)=List.replicate (i+1) (-1)++List.replicate (n-(i+1)) 0:=by
 obtain⟨k,rfl⟩:∃k,n=i+1+k:=⟨n-(i+1),by omega⟩;rw[show i+1+k-i=k+1 from by omega,show i+1+k-(i+1)=k from by omega,List.replicate_succ,P3 (h:=by simp),List.replicate_succ']
 simp
theorem Wf(w:World)(n base:Nat)(a:base<=w.heap.size)(c:n<=maxLen):(w.alloc (.cells (madeCells #[.int .i64 0] n) 3)).ownsRow base 3 1 (.slice (some ⟨w.heap.size,0,none⟩) n n) n ((List.replicate n (0:Int)).map vi):=by
 refine⟨by simp,.inr ⟨w.heap.size,n,_,rfl,a,XM w _,X4 _,c,by rw[L7,DI],?_⟩⟩;rw[U7 (by simp[L7])];apply List.ext_getElem
 .simp[L7]
 .intro i d g;simp[madeCells,vi,Nat.mod_one]
abbrev mdO(n:Nat):Obj:= .cells (madeCells #[.int .i64 0] n) 3
theorem CS(ns:List Nd)(ks:List (List Nat))(l m d c4 base cg bg:Nat)(B:List Value)(w1:World)(I:ns.length<=5000)(s:(cg=w1.heap.size/\bg=w1.heap.size+1)\/(cg=w1.heap.size+1/\bg=w1.heap.size))(A:Yw w1 l ns)(z:w1.ownsRow base 55 1 (.slice (some ⟨d,0,none⟩) ks.length c4) ks.length B)(F:Rows w1 base d d B ks)(E:ks.length=ns.length): Fx ns ks (w1.heap.size+1+1) l m d c4 cg bg (((w1.alloc (mdO ns.length)).alloc (mdO ns.length)).alloc (.cells #[.slice (some ⟨l,0,none⟩) ns.length m,.slice (some ⟨d,0,none⟩) ns.length c4,.slice (some ⟨cg,0,none⟩) ns.length ns.length,.slice (some ⟨bg,0,none⟩) ns.length ns.length] 128)).drew/\Dy ns.length cg bg ⟨List.replicate ns.length 0,List.replicate ns.length 0⟩ (((w1.alloc (mdO ns.length)).alloc (mdO ns.length)).alloc (.cells #[.slice (some ⟨l,0,none⟩) ns.length m,.slice (some ⟨d,0,none⟩) ns.length c4,.slice (some ⟨cg,0,none⟩) ns.length ns.length,.slice (some ⟨bg,0,none⟩) ns.length ns.length] 128)).drew/\Below w1.heap.size w1 (((w1.alloc (mdO ns.length)).alloc (mdO ns.length)).alloc (.cells #[.slice (some ⟨l,0,none⟩) ns.length m,.slice (some ⟨d,0,none⟩) ns.length c4,.slice (some ⟨cg,0,none⟩) ns.length ns.length,.slice (some ⟨bg,0,none⟩) ns.length ns.length] 128)).drew:=by
 have u:=Wf w1 ns.length 0 (X6 _) (by unfold maxLen;omega);have q:=Wf (w1.alloc (mdO ns.length)) ns.length 0 (X6 _) (by unfold maxLen;omega);rw[Xb]at q;have r:BL w1 ((((w1.alloc (mdO ns.length)).alloc (mdO ns.length)).alloc (.cells #[.slice (some ⟨l,0,none⟩) ns.length m,.slice (some ⟨d,0,none⟩) ns.length c4,.slice (some ⟨cg,0,none⟩) ns.length ns.length,.slice (some ⟨bg,0,none⟩) ns.length ns.length] 128)).drew):=(((bA _).alloc (by simp) _).alloc (by simp;omega) _).drew;have n:=XM ((w1.alloc (mdO ns.length)).alloc (mdO ns.length)) (.cells #[.slice (some ⟨l,0,none⟩) ns.length m,.slice (some ⟨d,0,none⟩) ns.length c4,.slice (some ⟨cg,0,none⟩) ns.length ns.length,.slice (some ⟨bg,0,none⟩) ns.length ns.length] 128);rw[Xb,Xb]at n;have t:=(z.lt d rfl).2;have H:=A.1;have a:∀(j:Nat) (v:Value),(#[.slice (some ⟨l,0,none⟩) ns.length m,.slice (some ⟨d,0,none⟩) ns.length c4,.slice (some ⟨cg,0,none⟩) ns.length ns.length,.slice (some ⟨bg,0,none⟩) ns.length ns.length]:Array Value)[j]?=some v->((((w1.alloc (mdO ns.length)).alloc (mdO ns.length)).alloc (.cells #[.slice (some ⟨l,0,none⟩) ns.length m,.slice (some ⟨d,0,none⟩) ns.length c4,.slice (some ⟨cg,0,none⟩) ns.length ns.length,.slice (some ⟨bg,0,none⟩) ns.length ns.length] 128)).drew).cell? ⟨w1.heap.size+1+1,j,none⟩=some v:=by
  intro j v y;show World.cell? (((w1.alloc (mdO ns.length)).alloc (mdO ns.length)).alloc (.cells #[.slice (some ⟨l,0,none⟩) ns.length m,.slice (some ⟨d,0,none⟩) ns.length c4,.slice (some ⟨cg,0,none⟩) ns.length ns.length,.slice (some ⟨bg,0,none⟩) ns.length ns.length] 128)) _=_;rw[World.cell?,n];exact y
 refine⟨⟨by omega,by omega,by omega,by omega,by omega,by omega,?_,Xd t r.size,?_,?_,?_,?_,A.below r,E,fun k D=>?_⟩,⟨by omega,?_,?_⟩,r⟩
 .show _<(((w1.alloc (mdO ns.length)).alloc (mdO ns.length)).alloc (.cells #[.slice (some ⟨l,0,none⟩) ns.length m,.slice (some ⟨d,0,none⟩) ns.length c4,.slice (some ⟨cg,0,none⟩) ns.length ns.length,.slice (some ⟨bg,0,none⟩) ns.length ns.length] 128)).heap.size;simp
 .exact a 0 _ rfl
 .exact a 1 _ rfl
 .exact a 2 _ rfl
 .exact a 3 _ rfl
 .obtain⟨g,c,y,_,_,_,hi,_⟩:=F.2 k D;have C:=hi.1;exact⟨g,c,(r.cell (p:=⟨d,k,none⟩) t).trans ((z.cellAt k (by omega)).trans y),by omega,by omega,hi.below r⟩
 .rcases s with⟨rfl,rfl⟩|⟨rfl,rfl⟩
  .exact((u.alloc _).alloc _).drew
  .exact(q.alloc _).drew
 .rcases s with⟨rfl,rfl⟩|⟨rfl,rfl⟩
  .exact(q.alloc _).drew
  .exact((u.alloc _).alloc _).drew
theorem CX(n:Nat)(k:n<=5000)(W:World):(Instr.makeSlice 55 (.int .i64 (n:Int)) (.int .i64 (n:Int))).run prog W= .ok (.slice (some ⟨W.heap.size,0,none⟩) n n) (W.alloc (.cells (madeCells (Value.cells (.int .i64 0)) (n*1)) 3)):=by
 obtain⟨j,g,d,c,a⟩:=Yk WZ;have:=run_make (P:=prog) W 55 3 j (.int .i64 0) underlying55 g d .i64 .i64 (n:Int) (n:Int) (by omega) (OL _) (by rw[a];omega) (by omega);rw[c,Int.toNat_natCast]at this;exact this
theorem CQ(ns:List Nd)(v B:Nat)(w:World)(n9:1<=ns.length)(W:ns.length<=5000)(S:Kk ns=true)(b4:∀k (h:k<(Xc ns).length),((Xc ns)[k]).length<=5000/\(X8 ns k=14->((Xc ns)[k]).length=2)/\(X8 ns k=16->1<=((Xc ns)[k]).length)/\(X8 ns k=15\/X8 ns k=20->1<=((Xc ns)[k]).length))(ht:Yw w v ns): Calls prog 72 #[.agg #[.slice (some ⟨v,0,none⟩) ns.length B]] w fun e w'=>∃wb kg kc cg bg,e= .returned (.pointer (some ⟨wb,0,none⟩))/\Fx ns (Xc ns) wb v B kg kc cg bg w'/\Dy ns.length cg bg (QC ns (Xc ns)) w'/\w.heap.size<=cg/\w.heap.size<=bg/\Below w.heap.size w w':=by
 obtain⟨iK,k4,k6,k5,k3⟩:=Yk Rg;have r1:BL w (w.alloc (.cells #[.slice (some ⟨v,0,none⟩) ns.length B] 25)):=bA _;have d6:=Vn S;have r:=WJ ns;have n8:=CX ns.length W;have e6:=X1 (fun w' (hb:BL w w')=>Mt ns v B w' (by omega) (ht.below hb));have e8:=X1 b4;have c9:=X1 r;have HT:=X1 ht;clear b4 r ht;rw[S]at e6;generalize n5:Xc ns=ks at *;go_enter func72,ntmps72;go_wp2_with fail;refine(e6.o _ r1).mono ?_;rintro e w1⟨g4,c4,vs,rfl,i0,a0,a6⟩;have d3:=r1.trans (a6.mono (by simp));have b3:w1.cell? ⟨w.heap.size,0,none⟩=some (.slice (some ⟨v,0,none⟩) ns.length B):=(a6.cell (p:=⟨w.heap.size,0,none⟩) (by simp)).trans (by simp);have i2:w.heap.size<w1.heap.size:=Xd (by simp) a6.size;have e9:=X1 i0;have f2:=X1 a0;clear i0 a0 a6;go_upto_region 2 with fail;go_cut[5]from 16 to 27 (fun v5 wx=>∃wb cg bg,v5= .pointer (some ⟨wb,0,none⟩)/\w1.heap.size<=wb/\w1.heap.size<=cg/\w1.heap.size<=bg/\Fx ns ks wb v B g4 c4 cg bg wx/\Dy ns.length cg bg ⟨List.replicate ns.length 0,List.replicate ns.length 0⟩ wx/\BL w1 wx)
 case first=>
  have J:=X1 (CS ns ks v B g4 c4 _ w1.heap.size (w1.heap.size+1) vs w1 W (.inl ⟨rfl,rfl⟩) (HT.o.below d3) e9.o f2.o d6);have K:=X1 (CS ns ks v B g4 c4 _ (w1.heap.size+1) w1.heap.size vs w1 W (.inr ⟨rfl,rfl⟩) (HT.o.below d3) e9.o f2.o d6);go_region;all_goals
   go_wp2_with fail;go_meet
   case rel=>
    first
    | exact⟨_,_,_,rfl,by omega,by omega,by omega,J.o.1,J.o.2.1,J.o.2.2⟩
    | exact⟨_,_,_,rfl,by omega,by omega,by omega,K.o.1,K.o.2.1,K.o.2.2⟩
 case rest=>
  obtain⟨wb,cg,bg,rfl,o0,m9,m7,g6,a4,a3⟩:=hcut;have e3:=X1 g6;have i6:=X1 a4;have o5:=a3.size;have f4:=(a3.cell (p:=⟨w.heap.size,0,none⟩) i2).trans b3;have C:=X1 (d3.trans (a3.mono (GS i2)));have l7:=(a4.c.lt cg rfl).2;have l6:=(a4.b.lt bg rfl).2;clear g6 a4 a3 b3;go_wp2;go_loopw[6] (fun t wr=>∃i:Nat,i<=ns.length/\t= .int .i64 i/\Kp cg bg wc wr/\Dy ns.length cg bg ⟨List.replicate ns.length 0,List.replicate i (-1)++List.replicate (ns.length-i) 0⟩ wr) (fun t _=>ns.length-(intOf t).toNat)
  case atStart=>exact⟨0,X6 _,rfl,Kp.refl _ _ _,by simpa using i6.o⟩
  case round=>
   obtain⟨i,hi,rfl,n,E⟩:=hrel;have f3:=(e3.o.kept n).f3;by_cases r:i<ns.length
   .obtain⟨cb,fb⟩:=E.LZ i r;have i7:=X1 E;clear E;have b5:(List.replicate i (-1:Int)++List.replicate (ns.length-i) 0).set i (-1)=List.replicate (i+1) (-1)++List.replicate (ns.length-(i+1)) 0:=EK ns.length i r;have j4:=X1 b5;clear b5;go_wp2;go_roundw
    case rel=>exact⟨i+1,by omega,by go_num,n.setCell _ _ (.inr rfl),by have:=i7.o.L4 i (-1);rwa[j4.o]at this⟩
    case measure=>simp[intOf];omega
   .have e:i=ns.length:=by omega
    have f9:Dy ns.length cg bg (K8 ns.length) wr:=by
     rw[e]at E;simpa[K8]using E
    have g2:=e3.o.kept n;have i3:=X1 f9;have I:=X1 g2;have l5:=n.size;have d1:=(n.cell (p:=⟨w.heap.size,0,none⟩) (by show w.heap.size<wc.heap.size;omega) (by show w.heap.size≠cg;omega) (by show w.heap.size≠bg;omega)).trans f4;have s:Hid (BL w wr):=X1 ⟨n.os.trans C.o.os,n.tape.trans C.o.tape,n.output.trans C.o.output,XO C.o.size n.size,fun b hb=>(n.block b (Xd hb C.o.size) (by omega) (by omega)).trans (C.o.block b hb)⟩;clear E f9 g2 f4;subst e;have z:w.heap.size<wr.heap.size:=by omega
    have j5:=((JO wr emO).cell (p:=⟨w.heap.size,0,none⟩) z).trans d1;have j2:=X1 (Xbt ns ks v B g4 c4 (ns.length-1) (wr.alloc emO) (by omega) W d6 (fun k h x hx=>by have:=c9.o k h x hx;omega) (fun k h=>(e8.o k h).1) (I.o.nodes.below (JO wr emO)) (JB.below ⟨I.o.klt,fun k h=>by obtain⟨g,c,h1,_,_,h4⟩:=I.o.kids k h;exact⟨g,c,h1,h4⟩⟩ (JO wr emO)));have j3:=X1 (Aw ns ks (ns.length-1) (fun k h x hx=>by have:=c9.o k h x hx;omega));have j1:=X1 (show QC ns ks=Xg ns ks ns.length (ns.length-1) (Zu ns (Yn ns ks (X9 ks (ns.length-1))) [] (K8 ns.length)).1 (Zu ns (Yn ns ks (X9 ks (ns.length-1))) [] (K8 ns.length)).2 from rfl);generalize Yn ns ks (X9 ks (ns.length-1))=F at *;go_wp2_with fail;refine j2.o.mono ?_;rintro e w3⟨g5,c5,rfl,h6,g9,n6,a7⟩;rw[Xb]at h6;have l4:wr.heap.size+1<=w3.heap.size:=by have:=a7.size;rwa[Xb]at this
    have Q:BL wr w3:=(JO wr emO).trans (a7.mono (by simp));have j6:=(Q.cell (p:=⟨w.heap.size,0,none⟩) z).trans d1;have Z:w3.ownsRow wr.heap.size 229 2 (.slice (some ⟨wr.heap.size,0,none⟩) 0 0) 0 []:=by
     have h0:=XV (base:=wr.heap.size) (e:=229) (size:=2) wr #[] 0 (X4 _) (X6 _) rfl;exact Q4 h0 (a7.block _ (by simp))
    have f1:=X1 Z;have m2:=X1 (I.o.kept (Kp.Ky (cg:=cg) (bg:=bg) Q));have i4:=X1 (i3.o.below Q);have i9:=X1 g9;have m1:=X1 (s.o.trans (Q.mono s.o.size));clear a7 d1 j5 Z g9;have f6:g5≠cg:=by omega
    have f5:g5≠bg:=by omega
    obtain⟨H,hH⟩:∃H,H=wr.heap.size:=⟨_,rfl⟩;rw[←hH]at f1 l4 h6 l5 z;go_wp2;go_loopw[7,9] (fun v7 t wy=>∃(i D c7:Nat) (d:List Kn) (A:St),i<=F.length/\t= .int .i64 i/\v7= .slice (some ⟨D,0,none⟩) d.length c7/\D≠g5/\D≠cg/\D≠bg/\w.heap.size<D/\d.length=i/\wy.ownsRow H 229 2 (.slice (some ⟨D,0,none⟩) d.length c7) d.length (Ym d)/\Kp cg bg wr wy/\Dy ns.length cg bg A wy/\Zu ns F [] (K8 ns.length)=Zu ns (F.drop i) d A/\wy.cell? ⟨w.heap.size,0,none⟩=some (.slice (some ⟨v,0,none⟩) ns.length B)/\Yz wy g5 0 F) (fun _ t _=>F.length-(intOf t).toNat)
    case atStart=>exact⟨0,H,0,[],K8 ns.length,X6 _,rfl,by rw[hH];rfl,by omega,by omega,by omega,z,rfl,f1.o,Kp.Ky Q,i4.o,rfl,j6,i9.o⟩
    case round=>
     obtain⟨i,D,c7,d,A,hi,rfl,rfl,m4,f8,f7,m5,V,ho,d5,g1,he,j8,h2⟩:=hrel;have e7:=X1 V;have l9:d.length<=i:=Nat.le_of_eq V;have f0:=X1 ho;have HE:=X1 he;have e2:=X1 g1;have e5:=X1 h2;have a1:=X1 (I.o.kept d5);clear V ho he g1 h2;by_cases r:i<F.length
     .have m0:(i:Int)<(F.length:Int):=by omega
      have hx:=e5.o.2 i r;rw[Xn]at hx;have a9:=j3.o _ (XR r);have HS:=X1 (Ts ns F i d A r);have d0:=X1 (WM a9);have i5:=X1 (fun j (hj:j<d.length)=>Nk ns F[i] d j A hj);have l1:=(a1.o.nodes.2 F[i] a9).2.2.2.1;generalize F[i]=x at *;have b1:=X1 (show ∃t,ns[x].text=t from⟨_,rfl⟩);obtain⟨tp,d7⟩:=b1.o;have a2:=X1 d7;rw[d7]at l1;clear d7 b1;go_wp2;go_loopw[10] (fun t wq=>∃(j:Nat),j<=d.length/\t= .int .i64 j/\Kp cg bg wr wq/\Dy ns.length cg bg (Qo ns x (d.take j) A) wq/\wq.ownsRow H 229 2 (.slice (some ⟨D,0,none⟩) d.length c7) d.length (Ym d)) (fun t _=>d.length-(intOf t).toNat)
      case atStart=>exact⟨0,X6 _,rfl,Kp.refl _ _ _,e2.o,f0.o⟩
      case round=>
       obtain⟨j,hj,rfl,P,g0,a8⟩:=hrel;obtain⟨wo,l2⟩:∃wo,Kp cg bg wo wr/\wo.cell? ⟨w.heap.size,0,none⟩=some (.slice (some ⟨v,0,none⟩) ns.length B)/\wo.cell? ⟨g5,i,none⟩=some (.int .i64 x)/\Yz wo g5 0 F/\Fx ns ks wb v B g4 c4 cg bg wo:=⟨_,P,j8,hx,e5.o,a1.o⟩;obtain⟨N,d2,i1,a5,g3⟩:=l2;have d4:=g3.kept N;have i8:=X1 d4;have b8:=X1 g0;have L:=X1 a8;have l3:w.heap.size<wo.heap.size:=J1 wo ⟨w.heap.size,0,none⟩ d2;have j9:=(N.cell (p:=⟨w.heap.size,0,none⟩) l3 (by show w.heap.size≠cg;omega) (by show w.heap.size≠bg;omega)).trans d2;have o4:=(N.cell (p:=⟨g5,i,none⟩) a5.1 f6 f5).trans i1;have b9:=X1 (a5.heap (N.block g5 a5.1 f6 f5));clear N d2 i1 a5 g3;have l0:=(d4.nodes.2 x a9).2.2.2.1;rw[a2.o]at l0;clear d4 g0;by_cases h7:j<d.length
       .obtain⟨e0,e1⟩:=(IN a8).2 j h7;have d9:=X1 (i5.o j h7);have h3:=Pv d[j].1 tp;generalize d[j].1=tj at *;generalize d[j].2=aj at *;clear a8;cases d8:(tj.toList==tp.toList)
        .have b6:Hid (Qo ns x (d.take (j+1)) A=Qo ns x (d.take j) A):=X1 (by rw[d9.o,d0.o,a2.o,X2 (fun h=>by rw[h3.2 h]at d8;cases d8)]);go_wp2;go_quiet(fail);go_wp2;go_roundw
         case rel=>exact⟨j+1,by omega,by go_num,P.below (below_drewN (X5 _ _) _),by rw[b6.o];exact b8.o.below (below_drewN (X5 _ _) _),Q4 L.o rfl⟩
         case measure=>simp[intOf];omega
        .have b6:Hid (Qo ns x (d.take (j+1)) A=Xq x 8 (Qo ns x (d.take j) A)):=X1 (by rw[d9.o,d0.o,a2.o,X3 (h3.1 d8)]);go_wp2;go_quiet(fail);go_wp2_with fail;refine(Me ns ks wb v B g4 c4 cg bg x 8 _ _ a9 (i8.o.kept (Kp.Ky (below_drewN (X5 _ _) _))) (b8.o.below (below_drewN (X5 _ _) _))).mono ?_;rintro e w4⟨rfl,h8,k7⟩;go_wp2;go_roundw
         case rel=>exact⟨j+1,by omega,by go_num,(P.below (below_drewN (X5 _ _) _)).trans h8,by rw[b6.o];exact k7,L3 (w:=wr.drewN _) (Q4 L.o rfl) h8 f8 f7⟩
         case measure=>simp[intOf];omega
       .have b7:Hid (Dy ns.length cg bg (Qo ns x d A) wr):=X1 (by have:=b8.o;rwa[U7 (by omega)]at this);have j0:=X1 (show ∀(j:Nat) (u:Value),(Ym [(tp,x)])[j]?=some u->(wr.alloc (knO tp x)).drew.cell? ((⟨wr.heap.size,0,none⟩:Addr).add j)=some u from Mv wr tp x);have o6:=P.size;have m6:=L.o.lt D rfl;clear a8;go_wp2;go_region_law(refine Ur rfl (.tmp 80) (.tmp 95) 226 rfl H 229 iK _ 2 24 underlying226 k4 k6 k5 k3 rfl (by decide) (.slice (some ⟨D,0,none⟩) d.length c7) d.length (Ym d) (by first|(simp[Act.eval];done)|simp[Act.eval,Act.put]) (L.o.alloc _).drew ⟨wr.heap.size,0,none⟩ 1 1 (Ym [(tp,x)]) (by first|(simp[Act.eval];done)|simp[Act.eval,Act.put]) rfl j0.o (Ub _) (by unfold maxLen;omega) (by omega) (by simp;omega) ?_;intro v8 w8 Y l X b2);all_goals
         obtain⟨g8,c8,rfl,k9⟩:=Uk Y (fun e=>by simpa using X.1 e) (by simpa[Value.ownBlock]using b2);have l8:=L.o.lt D rfl;have k2:Kp cg bg _ w8:=(((d5.trans P).alloc _).drew).grown l (fun q e=>by simp[Value.ownBlock]at e;omega);have k0:=((b7.o.below (JO wr (knO tp x))).below (X5 _ _).drew).grown l (by simp[Value.ownBlock];omega) (by simp[Value.ownBlock];omega);have h5:∀b,b<wr.heap.size->b≠D->w8.heap[b]?=wr.heap[b]?:=fun b hb hne=>(l.block b (by show b<(wr.alloc (knO tp x)).heap.size;simp;omega) (by simp[Value.ownBlock];omega)).trans ((JO wr (knO tp x)).block b hb);have j7:=(Xy (a:=⟨w.heap.size,0,none⟩) (h5 w.heap.size (by omega) (by omega))).trans j9;have k1:=b9.o.heap (h5 g5 b9.o.1 (by omega));have y:w.heap.size<g8/\g8≠g5/\g8≠cg/\g8≠bg:=by
          have m3:=b9.o.1;have n4:=(b7.o.c.lt cg rfl).2;have m8:=(b7.o.b.lt bg rfl).2;rcases k9 with h|h
          .subst h;exact⟨by omega,by omega,by omega,by omega⟩
          .omega
         clear l X b2;go_wp2;go_roundw
         case rel=>
          refine⟨i+1,g8,c8,d++[(tp,x)],Qo ns x d A,by omega,by go_num,by simp,y.2.1,y.2.2.1,y.2.2.2,y.1,by have:=e7.o;simp;omega,?_,k2,k0,?_,j7,k1⟩
          .rw[Xo,JE,I9];exact Y
          .rw[HE.o,HS.o,d0.o,a2.o]
         case measure=>simp[intOf];omega
     .have b0:Hid (QC ns ks=Xg ns ks ns.length (ns.length-1) d A):=X1 (by rw[j1.o,HE.o,Yu (by omega)];rfl);have e4:=X1 (X6u ns ks wb v B g4 c4 cg bg W c9.o e8.o ns.length (ns.length-1) D c7 d A wr (by omega) (by omega) (by omega) a1.o e2.o (IN f0.o) f8 f7);obtain⟨m,hm⟩:∃m,ns.length-1=m:=⟨_,rfl⟩;have n7:(ns.length:Int)-1=(m:Int):=by omega
      rw[hm]at e4 b0;go_wp2_with fail;refine e4.o.mono ?_;rintro e w9⟨rfl,h9,k8⟩;go_wp2;go_ret;have M:=d5.trans h9;refine⟨wb,g4,c4,cg,bg,rfl,a1.o.kept h9,by rw[b0.o];exact k8,by omega,by omega,?_⟩;exact⟨M.os.trans s.o.os,M.tape.trans s.o.tape,M.output.trans s.o.output,XO s.o.size M.size,fun b hb=>(M.block b (Xd hb s.o.size) (by omega) (by omega)).trans (s.o.block b hb)⟩
theorem Pr(ns:List Nd):∀(a:List Nd) (ks:List (List Nat)) (j:List Nat),Qq ns (a.zip ks) j=true->∀k (c:k<a.length) (g:k<ks.length),XA ns a[k].kind ks[k]=true:=by
 intro a;induction a with
 | nil=>intro ks j _ k c;simp at c
 | cons d r m=>
  intro ks j l k c g;cases ks with
  | nil=>simp at g
  | cons x t=>
   simp only[A1,Qq,XD]at l;cases k with
   | zero=>exact l.1.2
   | succ k=>exact m t _ l.2 k (by simpa using c) (by simpa using g)
theorem JL{ns:List Nd}(h:YS ns=true):1<=ns.length/\ns.length<=5000/\Kk ns=true/\∀k (h:k<(Xc ns).length),((Xc ns)[k]).length<=5000/\(X8 ns k=14->((Xc ns)[k]).length=2)/\(X8 ns k=16->1<=((Xc ns)[k]).length)/\(X8 ns k=15\/X8 ns k=20->1<=((Xc ns)[k]).length):=by
 unfold YS at h;simp only[XD]at h;obtain⟨⟨⟨j,_⟩,d⟩,l⟩:=h;have m:=Ua j;have n:=Vn d;refine⟨by omega,by omega,d,fun k g=>?_⟩;have c:k<ns.length:=by omega
 have a:=Pr ns ns (Xc ns) [] l k c g;have q:=Ao ns k g;rw[ZC c];generalize(Xc ns)[k]=ls at *;refine⟨by omega,fun e=>?_,fun e=>?_,fun e=>?_⟩
 .rw[e]at a;simp[XA]at a;omega
 .rw[e]at a;simp[XA]at a;omega
 .cases ls with
  | nil=>rcases e with e|e<;>(rw[e]at a;simp[XA]at a)
  | cons x r=>simp
def Zl:List Int->Nat->Int × Nat
 | [],_=>(0,0)
 | c::r,i=>if c=0 then Zl r (i+1)else(c,i)
theorem Ai(l:List Int)(i:Nat)(h:i<l.length):Zl (l.drop i) i=if l[i]=0 then Zl (l.drop (i+1)) (i+1)else(l[i],i):=by
 rw[Zp h];rfl
def Yi(ns:List Nd):Int × Nat:=if YS ns=true then Zl (QC ns (Xc ns)).Xj 0 else(11,0)
theorem Wv(X:World)(a b:Value)(t:TypeId):(X.alloc (.cells #[a,b] t)).cell? ⟨X.heap.size,0,none⟩=some a/\(X.alloc (.cells #[a,b] t)).cell? ⟨X.heap.size,1,none⟩=some b/\(X.alloc (.cells #[a,b] t)).frozen? ⟨X.heap.size,0,none⟩=false/\(X.alloc (.cells #[a,b] t)).frozen? ⟨X.heap.size,1,none⟩=false:=by simp
theorem boxes{w w1:World}{t:Value}{c d:TypeId}(h:Below (w.heap.size+1+1) ((w.alloc (.cells #[t] c)).alloc (.cells #[.int .i64 0,.int .i64 0] d)) w1): w1.cell? ⟨w.heap.size,0,none⟩=some t/\w1.cell? ⟨w.heap.size+1,0,none⟩=some (.int .i64 0)/\w1.cell? ⟨w.heap.size+1,1,none⟩=some (.int .i64 0)/\w1.frozen? ⟨w.heap.size+1,0,none⟩=false/\w1.frozen? ⟨w.heap.size+1,1,none⟩=false:=by
 have a:=Wv (w.alloc (.cells #[t] c)) (.int .i64 0) (.int .i64 0) d;rw[Xb]at a;have g:=(X5 (w.heap.size+1) (w.alloc (.cells #[t] c))).alloc (by simp) (.cells #[.int .i64 0,.int .i64 0] d);have j:(w.alloc (.cells #[t] c)).cell? ⟨w.heap.size,0,none⟩=some t:=by simp
 exact⟨(h.cell (p:=⟨w.heap.size,0,none⟩) (show w.heap.size<w.heap.size+1+1 by omega)).trans ((g.cell (p:=⟨w.heap.size,0,none⟩) (XI _)).trans j),(h.cell (p:=⟨w.heap.size+1,0,none⟩) (XI _)).trans a.1,(h.cell (p:=⟨w.heap.size+1,1,none⟩) (XI _)).trans a.2.1,(h.frozen (p:=⟨w.heap.size+1,0,none⟩) (XI _)).trans a.2.2.1,(h.frozen (p:=⟨w.heap.size+1,1,none⟩) (XI _)).trans a.2.2.2⟩
theorem AZ(ns:List Nd)(y D:Nat)(w:World)(hn:ns.length<=1048576)(M:Yw w y ns): Calls prog 22 #[.agg #[.slice (some ⟨y,0,none⟩) ns.length D]] w fun e w'=>e= .returned (.agg #[.int .i64 (Yi ns).1,.int .i64 (Yi ns).2])/\Below w.heap.size w w':=by
 have Q:BL w ((w.alloc (.cells #[.slice (some ⟨y,0,none⟩) ns.length D] 25)).alloc (.cells #[.int .i64 0,.int .i64 0] 35)):=(bA _).alloc (by simp) _;have q:=X1 (FL ns y D _ hn (M.below Q));have Y:=X1 M;clear M;cases u:YS ns
 .have z:Hid (Yi ns=(11,0)):=X1 (by unfold Yi;rw[u];rfl);rw[u]at q;rw[z.o];go_enter func22,ntmps22;go_wp2_with fail;refine q.o.mono ?_;rintro e w1⟨rfl,a⟩;rw[Xb,Xb]at a;obtain⟨V,A,B,b3,b4⟩:=boxes a;have d:=Q.trans (a.mono (by omega));clear a;go_wp2;refine X7 (v:= .agg #[.int .i64 11,.int .i64 0]) (by simp[results,results22,go_sem,A,B]) rfl ⟨rfl,?_⟩;exact(d.setCell (p:=⟨w.heap.size+1,0,none⟩) (by simp) _).setCell (p:=⟨w.heap.size+1,1,none⟩) (by simp) _
 .obtain⟨K,L,l,j⟩:=JL u;have z:Hid (Yi ns=Zl (QC ns (Xc ns)).Xj 0):=X1 (by unfold Yi;rw[u];rfl);rw[u]at q;have n:=X1 (fun w' (hb:BL w w')=>CQ ns y D w' K L l j (Y.o.below hb));clear j;go_enter func22,ntmps22;go_wp2_with fail;refine q.o.mono ?_;rintro e w1⟨rfl,a⟩;rw[Xb,Xb]at a;obtain⟨V,_⟩:=boxes a;have d:=Q.trans (a.mono (by omega));have N:w.heap.size+1+1<=w1.heap.size:=by have:=a.size;simpa using this
  go_wp2_with fail;refine(n.o _ d).mono ?_;rintro e w2⟨wb,kg,kc,cg,bg,rfl,W,H,a2,a1,k⟩;have g:=a.trans (k.mono N);obtain⟨Z,A,B,b3,b4⟩:=boxes g;have r:=d.trans (k.mono d.size);have a0:=W.f2;have I:=H.lens.1;have E:=X1 H;clear a k g W H q n V;generalize(QC ns (Xc ns))=st at *;go_wp2;go_loop[4] (fun t=>∃i:Nat,i<=ns.length/\t= .int .i64 i/\Zl st.Xj 0=Zl (st.Xj.drop i) i) (fun t=>ns.length-(intOf t).toNat)
  case atStart=>exact⟨0,X6 _,rfl,by simp⟩
  case round=>
   obtain⟨i,hi,rfl,X⟩:=hrel;have F:=X1 X;clear X;by_cases s:i<ns.length
   .obtain⟨cc,_⟩:=E.o.M0 i s;have S:=X1 (Ai st.Xj i (by omega));have J:st.Xj[i]?.getD 0=st.Xj[i]'(by omega):=by simp[I,s]
    rw[J]at cc;generalize st.Xj[i]'(by omega)=c at *;cases C:(c==0)
    .have m:Hid (Yi ns=(c,i)):=X1 (by rw[z.o,F.o,S.o,X2 (by simpa using C)]);have P:(c !=0)=true:=by simpa using C
     go_wp2;refine X7 (v:= .agg #[.int .i64 c,.int .i64 i]) (by simp[results,results22,go_sem,A,B]) rfl ⟨by rw[m.o],?_⟩;exact(r.setCell (p:=⟨w.heap.size+1,0,none⟩) (by simp) _).setCell (p:=⟨w.heap.size+1,1,none⟩) (by simp) _
    .have m:Hid (Zl st.Xj 0=Zl (st.Xj.drop (i+1)) (i+1)):=X1 (by rw[F.o,S.o,X3 (by simpa using C)]);have P:(c !=0)=false:=by simpa using C
     go_wp2;go_round
     case rel=>exact⟨i+1,by omega,by go_num,m.o⟩
     case measure=>simp[intOf];omega
   .have m:Hid (Yi ns=(0,0)):=X1 (by rw[z.o,F.o,Yu (by omega)];rfl);go_wp2;refine X7 (v:= .agg #[.int .i64 0,.int .i64 0]) (by simp[results,results22,go_sem,A,B]) rfl ⟨by rw[m.o];rfl,?_⟩;exact(r.setCell (p:=⟨w.heap.size+1,0,none⟩) (by simp) _).setCell (p:=⟨w.heap.size+1,1,none⟩) (by simp) _
theorem BO(a b:Int)(W:World):Sem.run prog (Instr.field 35 (Value.agg #[.int .i64 a,.int .i64 b]) 0) W= .ok (.int .i64 a) W:=by kernel_rfl
theorem BZ(ns:List Nd)(a g:Nat)(w:World)(n:ns.length<=1048576)(j:Yw w a ns): Calls prog 16 #[.agg #[.slice (some ⟨a,0,none⟩) ns.length g]] w fun e w'=>e= .returned (.bool ((Yi ns).1==0))/\Below w.heap.size w w':=by
 have k:BL w (w.alloc (.cells #[.slice (some ⟨a,0,none⟩) ns.length g] 25)):=bA _;have l:=X1 (AZ ns a g _ n (j.below k));clear j;generalize Yi ns=c at *;have m:=BO c.1 c.2;go_enter func16,ntmps16;go_wp2_with fail;refine l.o.mono ?_;rintro e w1⟨rfl,d⟩;go_wp2;go_ret;exact⟨rfl,k.trans (d.mono (by simp))⟩
def Zb(ns:List Nd):Bool:=(Yi ns).1==0
theorem DO{ns:List Nd}(h:Zb ns=true):YS ns=true:=by
 unfold Zb Yi at h;cases a:YS ns
 .rw[a]at h;simp at h
 .rfl
def Yl(ns:List Nd):List Int:=if Zb ns=true then(QC ns (Xc ns)).binds else[]
theorem X1a(ns:List Nd)(m u:Nat)(w:World)(M:ns.length<=1048576)(C:Yw w m ns): Calls prog 20 #[.agg #[.slice (some ⟨m,0,none⟩) ns.length u]] w fun e w'=>∃g,e= .returned (.slice (some ⟨g,0,none⟩) (Yl ns).length (Yl ns).length)/\w.heap.size<=g/\w'.ownsRow 0 3 1 (.slice (some ⟨g,0,none⟩) (Yl ns).length (Yl ns).length) (Yl ns).length ((Yl ns).map vi)/\Below w.heap.size w w':=by
 have D:BL w (w.alloc (.cells #[.slice (some ⟨m,0,none⟩) ns.length u] 25)):=bA _;have k:=X1 (BZ ns m u _ M (C.below D));have F:=X1 C;clear C;cases t:Zb ns
 .have a:=k.o;rw[show((Yi ns).1==0)=false from t]at a
  replace a:=X1 a
  have n:Hid (Yl ns=[]):=X1 (by unfold Yl;rw[t];rfl);go_enter func20,ntmps20;go_wp2_with fail;refine a.o.mono ?_;rintro e w1⟨rfl,d⟩;have c:=D.trans (d.mono (by simp));go_wp2;go_ret;refine⟨w1.heap.size,by rw[n.o];rfl,c.size,?_,c.alloc c.size _⟩;rw[n.o];exact XV (base:=0) (e:=3) (size:=1) w1 #[] 0 (X6 _) (X6 _) rfl
 .obtain⟨A,B,l,j⟩:=JL (DO t);have a:=k.o;rw[show((Yi ns).1==0)=true from t]at a
  replace a:=X1 a
  have n:Hid (Yl ns=(QC ns (Xc ns)).binds):=X1 (by unfold Yl;rw[t];rfl);have q:=X1 (fun w' (J:BL w w')=>CQ ns m u w' A B l j (F.o.below J));clear j k;go_enter func20,ntmps20;go_wp2_with fail;refine a.o.mono ?_;rintro e w1⟨rfl,d⟩;have c:=D.trans (d.mono (by simp));have H:w1.cell? ⟨w.heap.size,0,none⟩=some (.slice (some ⟨m,0,none⟩) ns.length u):=(d.cell (p:=⟨w.heap.size,0,none⟩) (by simp)).trans (by simp);clear d;go_wp2_with fail;refine(q.o _ c).mono ?_;rintro e S⟨V,Q,P,cg,bg,rfl,E,z,L,K,r⟩;have I:=E.f3;have s:=z.lens.2;have y:=c.trans (r.mono c.size);have v:=X1 z;have N:=c.size;clear r E z q H;go_wp2;go_ret;refine⟨bg,?_,by omega,?_,y⟩
  .rw[n.o,s];rfl
  .rw[n.o,s];exact v.o.b
