import Derived.Test.YtaeafhenpjnhiaaGreatDoorE30
set_option maxHeartbeats 4000000
set_option maxRecDepth 100000
namespace Go.Proofs.YtaeafhenpjnhiaaGreatDoor
open Tryz Go.RowKit
theorem Mx{q:Pr.Dk}{n:Nat}{l:List Nd}(d:(X9 q 24 0 0 [] n).o=l)(a:q.bad=false)(g:YG l=false):Qb (q,n)=([],7,0):=by
 have e:q.o++[⟨24,0,0,⟨#[]⟩,(n:Int)⟩]=l:=d;unfold Qb;rw[X6 (by simp[a]),X6 (by simp only[e,g];decide)]
theorem Im{q:Pr.Dk}{n:Nat}{l:List Nd}(d:(X9 q 24 0 0 [] n).o=l)(a:q.bad=false)(g:YG l=true):Qb (q,n)=(l,0,0):=by
 have e:q.o++[⟨24,0,0,⟨#[]⟩,(n:Int)⟩]=l:=d;unfold Qb;rw[X6 (by simp[a]),Xa (by simp only[e,g])];simp only[e]
theorem Xdn(s:ByteArray)(w:World)(hs:s.size<=1048576)(hc:Yf s=0)(hne:(Y2 s)≠[]): Calls prog 10 #[.string s] w fun e w'=>∃r,Pr.Comes s r/\VB w (Qb r) e w':=by
 have e1:=X1 (PB.new w);have HQ:=X1 (LP s ((w.alloc Uu).alloc (Zv 0 0)) hs);have d0:((Yf s:Nat):Int)=0:=by omega
 have f5:=MC s;have d6:Hid (∀r,Pr.Cv (Y2 s) s.size (.fileL 0) KN r->Pr.Comes s r):=X1 (fun _ h=>h);rw[d0]at HQ;have e0:=X1 hne;clear d0 hne;go_enter func10,ntmps10;go_wp2_with fail;go_fit HQ.o;rintro e Z⟨v,rfl,V,c8⟩;have b0:=(e1.o.below c8).below (bA (Zv 0 (Ye s)));have d3:=b0.z;generalize Y2 s=ts at *;rcases V.2 with⟨_,h0⟩|⟨tg,tc,f4,hv,_⟩
 .exact absurd (Qx h0) e0.o
 .subst hv;have a5:=Qu V ((X8 Z.heap.size Z).alloc (X5 _) (Zv 0 (Ye s)));have hd:=DK.init (sz:=s.size) a5 (by omega);have d2:=b0.below (bA (.cells #[.l tg ts.length tc,.q s.size,.q 0,.bool false,.q 0,.slice none 0 0] 71));rw[Yx]at hd;have d7:=X1 hd;have a7:Hid (UC ts KN<=1000000):=X1 (by unfold UC KN;simp;omega);have b6:=X1 d2;have c1:=X1 d3;clear hd b0 d2 a5 V c8 HQ d3;go_wp2_with fail;go_loopw[7] (fun t wr=>∃(n:Nat) (q:Pr.Dk) (vq:Value),t= .q n/\n<=q.p+1/\(q.bad=false->n<=q.p)/\DK (Z.heap.size+1) tg tc ts s.size vq q wr/\Pr.Gr (Z.heap.size+1) (.slice none 0 0) vq ((Z.alloc (Zv 0 (Ye s))).alloc (.cells #[.l tg ts.length tc,.q s.size,.q 0,.bool false,.q 0,.slice none 0 0] 71)) wr/\Pr.Stp ts KN q 0/\∀rr,Pr.Cv ts s.size (.fileL n) q rr->Pr.Comes s rr) (fun _ wr=>Dy (Z.heap.size+1) ts wr)
  case atStart=>exact⟨0,KN,_,rfl,Xb _,fun _=>Xb _,d7.o,.refl _ _ _,.refl (Xb _),d6.o⟩
  case round=>
   obtain⟨n,q,f9,rfl,f7,e7,m,a2,a6,a3⟩:=hrel;have c0:=m.c0;have c2:=m.c2;have c3:=m.c3;have e6:=m.le;have F:=X1 m;have M:=X1 a2;have H:=X1 a6;have O:=X1 a3;clear m a2 a6 a3;cases d:q.bad
   .rw[d]at c3;have f8:=e7 d;by_cases f6:q.p<ts.length
    .have a4:(q.p:Int)<(ts.length:Int):=by omega
     have HF:=X1 (show(q.bad||decide (ts.length<=q.p))=false from by rw[d];simp;omega)
     have u:=F.o.below (X8 _ _).drew;have J:=X1 u;have N:=X1 (M.o.trans (.below (X8 _ _).drew));clear u;go_wp2_with fail;go_region;all_goals
      have U:=X1 (Fj _ _ _ _ _ q _ _ J.o (H.o.phi (Xb _) a7.o));go_wp2_with fail;go_fit U.o;rintro e3 C⟨X,rfl,I,d4,y,A⟩;have b3:=X1 I;have K:=X1 y;have b4:=X1 (N.o.trans A);have b1:=I.stp e6;have b8:Hid (Pr.Stp ts KN X.1 0):=X1 ((H.o.trans b1).mono (by simp only[XX];omega));have a9:=I.on;have d8:=X1 (show n+1<=X.1.p+1 from by have:=b1.ge;omega)
      have d9:=X1 (show X.1.bad=false->n+1<=X.1.p from fun h=>by rcases a9 with h1|h1;rw[h]at h1;cases h1;omega);have HM:=X1 (show Dy (Z.heap.size+1) ts C<Dy (Z.heap.size+1) ts wr from by
       rw[K.o.Ve,F.o.Ve,d];rcases a9 with h1|h1
       .rw[h1];simp
       .have:=K.o.le;simp only[Jq,Kl];split<;>omega)
      clear I y A b1 a9 U;go_wp2;go_roundw
      case rel=>exact⟨n+1,X.1,d4,by go_num,d8.o,d9.o,K.o,b4.o,b8.o,fun rr h=>O.o _ (Pr.Cv.G0 HF.o b3.o h)⟩
      case measure=>exact HM.o
    .have a4:¬(q.p:Int)<(ts.length:Int):=by omega
     have f2:decide ((q.p:Int)<(ts.length:Int))=false:=by simpa using a4
     have HR:=X1 (O.o _ (Pr.Cv.WL (by rw[d];simp;omega)));have u:=F.o.below (X8 _ _).drew;have e2:=u.c3;rw[d]at e2;have J:=X1 u;have N:=X1 (M.o.trans (.below (X8 _ _).drew));have e8:q.o.length<=100000000:=H.o.len (Xb _) a7.o;have f3:q.o.length<=1000000:=by have h1:=H.o.phi (Xb _) a7.o;unfold UC at h1;omega
     have c9:w.heap.size+1<Z.heap.size+1:=by have:=c1.o;simp at this;omega
     have b2:=X1 c9;clear u c9;go_wp2_with fail;go_region;all_goals
      have U:=X1 (Yk J.o e8 24 0 0 [] n);go_wp2_with fail;go_fit U.o;rintro e3 C⟨rfl,d4,y,A⟩;obtain⟨L,hL⟩:∃L,(X9 q 24 0 0 [] n).o=L:=⟨_,rfl⟩;have e5:L.length=q.o.length+1:=by rw[←hL,Pr.put_len]
      have a1:=y.row;rw[hL]at a1;rcases a1.2 with⟨_,h0⟩|⟨g,cp,e9,hv,_⟩
      .omega
      subst hv;have k:=(b6.o.gr (N.o.trans A) b2.o (fun _ e=>by cases e)).below (bA (.cells #[.l g L.length cp] 25));have c5:=y.c5;have E:=Qu a1 ((X8 C.heap.size C).alloc (X5 _) (.cells #[.l g L.length cp] 25));have d1:L.length<=1048576:=by omega
      have HV:=X1 (R9 L g cp _ d1 (Gu E));have b7:=X1 E;have a0:=X1 k;have b5:=X1 hL;clear y A E k U a1 hL;obtain⟨bv,W⟩:∃b,YG L=b:=⟨_,rfl⟩;rw[W]at HV;have b9:=X1 W;clear W d1 e5;cases bv
      .go_wp2_with fail;go_fit HV.o;rintro e4 d5⟨rfl,j⟩;have a:=a0.o.below j;have t0:=a.t0;have f0:=a.f0;have f1:=a.f1;have ft:=a.ft;have c6:=a.ff 0;have c7:=a.ff 1;have Q:=X1 a;have S:=X1 (Mx b5.o d b9.o);clear j a;go_wp2;refine Xq (v:= .tuple #[.agg #[.slice none 0 0],.agg #[.q 7,.q 0]]) (by simp[results,results10,go_sem,t0,f0,f1]) rfl ⟨(q,n),HR.o,?_⟩;rw[S.o];refine⟨_,rfl,K7 _ _ _ _,?_⟩;repeat(first|(refine Qw ?_ (by show w.heap.size<=_;simp) _)|(refine Jp ?_))
       exact Q.o.B
      .go_wp2_with fail;go_fit HV.o;rintro e4 d5⟨rfl,j⟩;have a:=a0.o.below j;have t0:=a.t0;have f0:=a.f0;have f1:=a.f1;have ft:=a.ft;have c6:=a.ff 0;have c7:=a.ff 1;have x0:d5.cell? ⟨C.heap.size,0,none⟩=some (Value.l g L.length cp):=(j.cell (p:=⟨C.heap.size,0,none⟩) (show C.heap.size<(C.alloc (.cells #[.l g L.length cp] 25)).heap.size by simp)).trans (by simp[go_sem]);have a8:=X1 (GO (Qu b7.o j) (show w.heap.size+2<=Z.heap.size+1+1 by have:=b2.o;omega));have Q:=X1 a;have S:=X1 (Im b5.o d b9.o);clear j a;go_wp2;refine Xq (v:= .tuple #[.agg #[.l g L.length cp],.agg #[.q 0,.q 0]]) (by simp[results,results10,go_sem,t0,f0,f1]) rfl ⟨(q,n),HR.o,?_⟩;rw[S.o];refine⟨_,rfl,?_,?_⟩
       .refine GO (base:=w.heap.size+2) ?_ (by omega);repeat(refine Gz ?_ (by show _<w.heap.size+2;simp) _)
        exact a8.o
       .repeat(first|(refine Qw ?_ (by show w.heap.size<=_;simp) _)|(refine Jp ?_))
        exact Q.o.B
   .rw[d]at c3;have c4:=F.o.c4;have k:=b6.o.gr M.o (by have:=c1.o;simp at this;omega) (fun _ e=>by cases e);have t0:=k.t0;have f0:=k.f0;have f1:=k.f1;have ft:=k.ft;have c6:=k.ff 0;have c7:=k.ff 1;have a0:=X1 k;have HR:=X1 (O.o _ (Pr.Cv.WL (by rw[d];rfl)));have S:=X1 (show Qb (q,n)=([],6,q.place)from by unfold Qb;simp[d])
    clear k;go_wp2_with fail;go_region;all_goals
     go_wp2;go_region;all_goals
      try go_wp2
      refine Xq (v:= .tuple #[.agg #[.slice none 0 0],.agg #[.q 6,.q q.place]]) (by simp[results,results10,go_sem,t0,f0,f1]) rfl ⟨(q,n),HR.o,?_⟩;rw[S.o];refine⟨_,rfl,K7 _ _ _ _,?_⟩;repeat(first|(refine Qw ?_ (by show w.heap.size<=_;simp) _)|(refine Jp ?_))
      exact a0.o.B
theorem Xfh{b:Nat}{w:World}(r:w.cell? ⟨b,5,none⟩=some (.slice none 0 0))(F:w.frozen? ⟨b,5,none⟩=false)(k o n:Int)(t:List UInt8)(c:Nat): Calls prog 28 #[.p b,.agg #[.q k,.q o,.q n,.string ⟨t.toArray⟩,.q c]] w fun e w'=>e= .returned (.tuple #[])/\∃v',w'.cell? ⟨b,5,none⟩=some v'/\w'.ownsRow (b+1) 64 5 v' 1 (Nd.cells ⟨k,o,n,⟨t.toArray⟩,c⟩)/\Pr.Gr b (.slice none 0 0) v' w w':=by
 obtain⟨Q,M,E,C,B⟩:=YK Un;have j:b<w.heap.size:=QE w ⟨b,5,none⟩ r;have m:BL w (w.alloc (.cells #[.q k,.q o,.q n,.string ⟨t.toArray⟩,.q c] 64)):=bA _;have V:(w.alloc (.cells #[.q k,.q o,.q n,.string ⟨t.toArray⟩,.q c] 64)).cell? ⟨b,5,none⟩=some (.slice none 0 0):=(m.cell (p:=⟨b,5,none⟩) j).trans r;have W:(w.alloc (.cells #[.q k,.q o,.q n,.string ⟨t.toArray⟩,.q c] 64)).frozen? ⟨b,5,none⟩=false:=(m.frozen (p:=⟨b,5,none⟩) j).trans F;have O:(w.alloc (.cells #[.q k,.q o,.q n,.string ⟨t.toArray⟩,.q c] 64)).heap.size=w.heap.size+1:=by simp
 have d:BL w ((w.alloc (.cells #[.q k,.q o,.q n,.string ⟨t.toArray⟩,.q c] 64)).alloc (.cells #[.q k,.q o,.q n,.string ⟨t.toArray⟩,.q c] 64)).drew:=(m.alloc (by simp) (.cells #[.q k,.q o,.q n,.string ⟨t.toArray⟩,.q c] 64)).drew;have I:=X1 ((d.cell (p:=⟨b,5,none⟩) j).trans r);have J:=X1 ((d.frozen (p:=⟨b,5,none⟩) j).trans F);have K:Hid (Pr.Gr b (.slice none 0 0) (.slice none 0 0) w ((w.alloc (.cells #[.q k,.q o,.q n,.string ⟨t.toArray⟩,.q c] 64)).alloc (.cells #[.q k,.q o,.q n,.string ⟨t.toArray⟩,.q c] 64)).drew):=X1 (.below d);have A:Hid (b<((w.alloc (.cells #[.q k,.q o,.q n,.string ⟨t.toArray⟩,.q c] 64)).alloc (.cells #[.q k,.q o,.q n,.string ⟨t.toArray⟩,.q c] 64)).drew.heap.size):=X1 (XH j d.size);clear d m r F;go_enter func28,ntmps28;go_wp2_with fail;go_region_law((refine U5 rfl (.tmp 8) (.tmp 10) 23 rfl (b+1) 64 Q _ 5 48 underlying23 M E C B rfl (by decide) (.slice none 0 0) 0 [] (by simp[Act.eval]) (K7 _ _ _ _) ⟨w.heap.size+1,0,none⟩ 1 1 [.q k,.q o,.q n,.string ⟨t.toArray⟩,.q c] (by simp[Act.eval]) rfl (MM _ [_,_,_,_,_] _ _ (by simp)) (by simp[Value.oneCell']) (by unfold maxLen;omega) (by omega) (by have:=A.o;omega) ?_;intro v5 w5 r1 r2 U H;obtain⟨X,L,rfl⟩:=XA r1;have S:=(XQ (a:=⟨b,5,none⟩) (r2.block b A.o (fun e=>by cases e))).trans I.o;have Z:=(ZC (a:=⟨b,5,none⟩) (r2.block b A.o (fun e=>by cases e))).trans J.o));all_goals
  have u:=X1 r1;have v:=X1 r2;have y:=X1 H;have s:=X1 S;clear r1 r2 U H;go_wp2;refine Xw ?_;refine⟨rfl,_,Qk _ _ _ s.o,?_,(K.o.trans (.grown v.o y.o)).trans (.set _ _ _ _ _)⟩;exact GQ u.o (fun g N _=>Y0 _ _ _ _ (show g≠b by omega))
theorem Xdk(s:ByteArray)(w:World)(hs:s.size<=1048576)(hc:Yf s=0)(hne:Y2 s=[]): Calls prog 10 #[.string s] w fun e w'=>∃r,Pr.Comes s r/\VB w (Qb r) e w':=by
 have a8:=X1 (PB.new w);have HQ:=X1 (LP s ((w.alloc Uu).alloc (Zv 0 0)) hs);have a1:((Yf s:Nat):Int)=0:=by omega
 have HR:Hid (Pr.Comes s (KN,0)):=X1 (by unfold Pr.Comes;rw[hne];exact Pr.Cv.WL rfl);rw[a1,hne]at HQ;clear a1 hne;go_enter func10,ntmps10;go_wp2_with fail;go_fit HQ.o;rintro e d⟨v,rfl,C,Z⟩;have J:=(a8.o.below Z).below (bA (Zv 0 (Ye s)));obtain⟨tp,E,hv⟩:=XA C;simp only[Ya]at hv;subst hv;have a0:w.heap.size+1<d.heap.size+1:=by have:=J.z;simp at this;omega
 have M:=X1 a0;have a3:=J.below (bA (.cells #[.slice tp 0 E,.q s.size,.q 0,.bool false,.q 0,.slice none 0 0] 71));have c0:((d.alloc (Zv 0 (Ye s))).alloc (.cells #[.slice tp 0 E,.int .i64 s.size,.int .i64 0,.bool false,.int .i64 0,.slice none 0 0] 71)).cell? ⟨d.heap.size+1,0,none⟩=some (.slice tp 0 E):=by rw[show d.heap.size+1=(d.alloc (Zv 0 (Ye s))).heap.size from by simp];simp
 have c2:((d.alloc (Zv 0 (Ye s))).alloc (.cells #[.slice tp 0 E,.int .i64 s.size,.int .i64 0,.bool false,.int .i64 0,.slice none 0 0] 71)).cell? ⟨d.heap.size+1,2,none⟩=some (.int .i64 0):=by rw[show d.heap.size+1=(d.alloc (Zv 0 (Ye s))).heap.size from by simp];simp
 have c3:((d.alloc (Zv 0 (Ye s))).alloc (.cells #[.slice tp 0 E,.int .i64 s.size,.int .i64 0,.bool false,.int .i64 0,.slice none 0 0] 71)).cell? ⟨d.heap.size+1,3,none⟩=some (.bool false):=by rw[show d.heap.size+1=(d.alloc (Zv 0 (Ye s))).heap.size from by simp];simp
 have c5:((d.alloc (Zv 0 (Ye s))).alloc (.cells #[.slice tp 0 E,.int .i64 s.size,.int .i64 0,.bool false,.int .i64 0,.slice none 0 0] 71)).cell? ⟨d.heap.size+1,5,none⟩=some (.slice none 0 0):=by rw[show d.heap.size+1=(d.alloc (Zv 0 (Ye s))).heap.size from by simp];simp
 have f5:((d.alloc (Zv 0 (Ye s))).alloc (.cells #[.slice tp 0 E,.int .i64 s.size,.int .i64 0,.bool false,.int .i64 0,.slice none 0 0] 71)).frozen? ⟨d.heap.size+1,5,none⟩=false:=by rw[show d.heap.size+1=(d.alloc (Zv 0 (Ye s))).heap.size from by simp];simp
 have O:=X1 a3;obtain⟨W2,I⟩:∃W,(d.alloc (Zv 0 (Ye s))).alloc (.cells #[.slice tp 0 E,.q s.size,.q 0,.bool false,.q 0,.slice none 0 0] 71)=W:=⟨_,rfl⟩;rw[I]at c0 c2 c3 c5 f5 O;have a6:=X1 c5;have a7:=X1 f5;have a9:=X1 I;clear J a3 C Z HQ a0 I c5 f5;go_wp2_with fail;rw[a9.o];go_loopw[7] (fun t wr=>t= .q 0/\wr=W2) (fun _ _=>0)
 case atStart=>exact⟨rfl,rfl⟩
 case round=>
  obtain⟨rfl,rfl⟩:=hrel;have b5:wr.drew.cell? ⟨d.heap.size+1,3,none⟩=some (.bool false):=c3;go_wp2_with fail;go_region;all_goals
   have V:=X1 (Xfh (show wr.drew.cell? ⟨d.heap.size+1,5,none⟩=_ from a6.o) (show wr.drew.frozen? ⟨d.heap.size+1,5,none⟩=_ from a7.o) 24 0 0 [] 0);go_wp2_with fail;go_fit V.o;rintro b6 m⟨rfl,b3,c5,u,A⟩;obtain⟨L,hL⟩:∃L,(X9 KN 24 0 0 [] 0).o=L:=⟨_,rfl⟩;have X:L.length=1:=by rw[←hL,Pr.put_len];rfl
   have u:m.ownsRow (d.heap.size+1+1) 64 5 b3 L.length (Xh L):=by rw[X,←hL];exact u
   rcases u.2 with⟨_,h0⟩|⟨g,K,b4,hv,_⟩
   .omega
   subst hv;have a4:=((O.o.below (X8 _ _).drew).gr A M.o (fun _ e=>by cases e)).below (bA (.cells #[.l g L.length K] 25));have k:=Qu u ((X8 m.heap.size m).alloc (X5 _) (.cells #[.l g L.length K] 25));have a2:L.length<=1048576:=by omega
   have HV:=X1 (R9 L g K _ a2 (Gu k));have S:=X1 k;have Q:=X1 a4;have N:=X1 hL;clear A k a4 V u hL;obtain⟨bv,y⟩:∃b,YG L=b:=⟨_,rfl⟩;rw[y]at HV;have U:=X1 y;clear y a2 X;cases bv
   .go_wp2_with fail;go_fit HV.o;rintro b0 a5⟨rfl,j⟩;have a:=Q.o.below j;have t0:=a.t0;have f0:=a.f0;have f1:=a.f1;have ft:=a.ft;have b1:=a.ff 0;have b2:=a.ff 1;have n:=X1 a;have H:=X1 (Mx N.o rfl U.o);clear j a;go_wp2;refine Xq (v:= .tuple #[.agg #[.slice none 0 0],.agg #[.q 7,.q 0]]) (by simp[results,results10,go_sem,t0,f0,f1]) rfl ⟨(KN,0),HR.o,?_⟩;rw[H.o];refine⟨_,rfl,K7 _ _ _ _,?_⟩;repeat(first|(refine Qw ?_ (by show w.heap.size<=_;simp) _)|(refine Jp ?_))
    exact n.o.B
   .go_wp2_with fail;go_fit HV.o;rintro b0 a5⟨rfl,j⟩;have a:=Q.o.below j;have t0:=a.t0;have f0:=a.f0;have f1:=a.f1;have ft:=a.ft;have b1:=a.ff 0;have b2:=a.ff 1;have x0:a5.cell? ⟨m.heap.size,0,none⟩=some (Value.l g L.length K):=(j.cell (p:=⟨m.heap.size,0,none⟩) (show m.heap.size<(m.alloc (.cells #[.l g L.length K] 25)).heap.size by simp)).trans (by simp[go_sem]);have F:=X1 (GO (Qu S.o j) (show w.heap.size+2<=d.heap.size+1+1 by have:=M.o;omega));have n:=X1 a;have H:=X1 (Im N.o rfl U.o);clear j a;go_wp2;refine Xq (v:= .tuple #[.agg #[.l g L.length K],.agg #[.q 0,.q 0]]) (by simp[results,results10,go_sem,t0,f0,f1]) rfl ⟨(KN,0),HR.o,?_⟩;rw[H.o];refine⟨_,rfl,?_,?_⟩
    .refine GO (base:=w.heap.size+2) ?_ (by omega);repeat(refine Gz ?_ (by show _<w.heap.size+2;simp) _)
     exact F.o
    .repeat(first|(refine Qw ?_ (by show w.heap.size<=_;simp) _)|(refine Jp ?_))
     exact n.o.B
def Pr.Qz(s:ByteArray)(r:List Nd × Nat × Nat):Prop:=(Yf s≠0/\r=([],Yf s,Ye s))\/(Yf s=0/\∃d,Pr.Comes s d/\r=Qb d)
theorem Pr.Qz.same{s:ByteArray}{r q:List Nd × Nat × Nat}(h:Pr.Qz s r)(k:Pr.Qz s q):r=q:=by
 rcases h with⟨a,rfl⟩|⟨a,d,m,rfl⟩<;>rcases k with⟨j,rfl⟩|⟨j,n,g,rfl⟩
 .rfl
 .exact absurd j a
 .exact absurd a j
 .rw[m.same g]
theorem Ed(s:ByteArray)(w:World)(j:s.size<=1048576): Calls prog 10 #[.string s] w fun e w'=>∃r,Pr.Qz s r/\VB w r e w':=by
 by_cases a:Yf s=0
 .by_cases k:Y2 s=[]
  .exact(Xdk s w j a k).mono (fun e w' ⟨r,g,d⟩=>⟨_,.inr ⟨a,r,g,rfl⟩,d⟩)
  .exact(Xdn s w j a k).mono (fun e w' ⟨r,g,d⟩=>⟨_,.inr ⟨a,r,g,rfl⟩,d⟩)
 .exact(Xdj s w j a).mono (fun e w' ⟨n,m⟩=>⟨_,.inl ⟨a,rfl⟩,_,n,K7 _ _ _ _,m⟩)
theorem Np{l:List Nd}(h:YG l=true):l.length<=5000:=by
 unfold YG at h;simp only[XE]at h;have:=KP h.1.1.1;omega
theorem Pr.Qz.len{s:ByteArray}{r:List Nd × Nat × Nat}(h:Pr.Qz s r):r.1.length<=5000:=by
 rcases h with⟨a,rfl⟩|⟨a,d,j,rfl⟩
 .exact Xb _
 .unfold Qb;split
  .exact Xb _
  .split
   .rename_i _ g;exact Np g
   .exact Xb _
theorem Pr.Qz.Ai{s:ByteArray}{r:List Nd × Nat × Nat}(h:Pr.Qz s r):∀x∈r.1,x.text.size<=1000/\x.n<=9223372036854775807:=by
 rcases h with⟨_,rfl⟩|⟨_,d,g,rfl⟩
 .intro x a;cases a
 .have:=g.sm (RX s) (fun x a=>by cases a);unfold Qb;split
  .intro x a;cases a
  .split
   .intro x a;rcases KC.1 a with a|a
    .exact this x a
    .rw[V1.1 a];exact⟨Xb _,by show(0:Int)<=_;decide⟩
   .intro x a;cases a
section
def Rw(v:Value)(name:String)(w:World)(r:Int):Prop:=∃f a,(callMethod v name #[]).run prog w= .ok (.enter f a) w/\Calls prog f a w fun e w'=>e= .returned (.q r)/\Below w.heap.size w w'
theorem EH{ops:Array Oper}{Q:Exit->Act->World->Prop}{a:Act}{w:World}{d:List Oper}{o:Oper}{name:String}(n:o.guard=none)(x:Operand)(ts:Array TypeId)(g:o.op=Op.call {callee:=Callee.invoke x name,args:=#[],argTypes:=ts})(v:Value)(r:Int)(y:a.eval x=v)(s:Rw v name w r)(m:∀w',BL w w'->wpList prog ops Q d (a.put o.dst (.q r)) w'):wpList prog ops Q (o::d) a w:=by
 refine wpList_step (fun K hKK=>?_);have u:Region.wanted o (yielded ops a.tmps)=true:=by simp[Region.wanted,n]
 rw[Xa u];obtain⟨f,c,hm,k⟩:=s;unfold Oper.wp;simp only[execOp,g,resolve,invoke,Qg,YD,y,ZB,Jd,ZA];simp[hm];refine k.mono fun e A h=>?_;obtain⟨rfl,j⟩:=h;exact hKK _ _ (m _ j)
theorem KpW.below{K:Nat->Prop}{w0:World}{g:Nat}{v:Value}{w w':World}(h:KpW K w0 g v w)(d:BL w w'):KpW K w0 g v w':=⟨fun q a=>(d.block q (h.lt q a)).trans (h.same q a),fun q a=>XH (h.lt q a) d.size,h.ob,h.own⟩
theorem KpW.more{K:Nat->Prop}{w0:World}{g:Nat}{v:Value}{w:World}(h:KpW K w0 g v w)(a b:Nat)(k:a<w.heap.size)(m:b<w.heap.size)(n:a≠g)(j:b≠g)(r:v.ownBlock≠some a)(vb:v.ownBlock≠some b):KpW (fun q=>K q\/q=a\/q=b) w g v w:=⟨fun _ _=>rfl,fun q d=>by rcases d with d|rfl|rfl;exact h.lt q d;exact k;exact m,fun q d=>by rcases d with d|rfl|rfl;exact h.ob q d;exact n;exact j,fun q d=>by rcases d with d|rfl|rfl;exact h.own q d;exact r;exact vb⟩
def Rkd(w0:World)(K:Nat->Prop)(ob:Nat)(u:Value)(r:Int):Prop:=∀w v,KpW K w0 ob v w->Rw u "loop.example/kilnclay/impl.rank" w r
theorem PtR.LA{a:Nat}{m v:Value}{t:List UInt8}{w:World}(h:PtR a m v t w){q:Nat}(e:v.ownBlock=some q):q<w.heap.size:=(h.row.lt q e).2
theorem X5j{K:Nat->Prop}{w0:World}{k:Nat}{m v:Value}{t:List UInt8}{w:World}(T:TypeId)(x:Value)(b:List UInt8)(r a:Int)(hW:Wrt w0 K k m (.iface T x) b)(hR:Rkd w0 K k (.iface T x) r)(L:KpW K w0 k v w)(hp:PtR k m v t w)(M:t.length+(if r<a then 40::(b++[41])else b).length<=90000000): Calls prog 205 #[.p k,.iface T x,.q a] w fun e w'=>Ig k m v (t++(if r<a then 40::(b++[41])else b)) w e w':=by
 have W:=X1 hW;have C:=X1 L;have U:=X1 hp;have V:=X1 (hR w v L);clear hW L hp hR;by_cases hr:r<a
 .rw[Xa hr]at M⊢;simp at M;have O:¬a<=r:=by omega
  go_enter func205,ntmps205;go_wp2_with(show wpList _ _ _ ({dst:=_,op:=Op.call {callee:=Callee.invoke _ _,args:=_,argTypes:=_},type:=_,pos:=_,after:=_,guard:=_}::_) _ _;refine EH rfl (.tmp 6) _ rfl (.iface T x) r (by first|(simp[Act.eval];done)|simp[Act.eval,Act.put]) V.o ?_;intro d g);have B:=X1 (C.o.below g);have u:=X1 (U.o.below g);have n:=X1 g;clear g;have bx:BL d ((d.z #[.iface T x] 44).z #[.t #[40],.t #[41]] 9):=(bA _).alloc (by simp) _;have Q:((d.z #[.iface T x] 44).z #[.t #[40],.t #[41]] 9).heap.size=d.heap.size+2:=by simp
  have a0:=u.o.lt;have A:∀j,d.heap.size<=j->v.ownBlock≠some j:=fun j hj e=>by have:=u.o.LA e;omega
  have I:=X1 ((B.o.below bx).more d.heap.size (d.heap.size+1) (by omega) (by omega) (by omega) (by omega) (A _ (by omega)) (A _ (by omega)));have J:=X1 (u.o.below bx);have X:((d.z #[.iface T x] 44).z #[.t #[40],.t #[41]] 9).cell? ⟨d.heap.size,0,none⟩=some (.iface T x):=by simp
  have Z:((d.z #[.iface T x] 44).z #[.t #[40],.t #[41]] 9).cell? ⟨d.heap.size+1,0,none⟩=some (.t #[40]):=by simp
  have c3:((d.z #[.iface T x] 44).z #[.t #[40],.t #[41]] 9).cell? ⟨d.heap.size+1,1,none⟩=some (.t #[41]):=by simp
  have ew:wv [⟨#[40]⟩,⟨#[41]⟩] [b] 1 2=40::(b++[41]):=by simp[wv]
  have q1:∀i (h:i<[Value.iface T x].length),∃T' x',[Value.iface T x][i]= .iface T' x':=by
   intro i h;obtain rfl:i=0:=by simpa using h
   exact⟨T,x,rfl⟩
  have q2:∀i (h:i<[Value.iface T x].length),((d.z #[.iface T x] 44).z #[.t #[40],.t #[41]] 9).cell? ⟨d.heap.size,0+i,none⟩=some [Value.iface T x][i]:=by
   intro i h;obtain rfl:i=0:=by simpa using h
   exact X
  have q3:∀i (h:i<[(⟨#[40]⟩:ByteArray),⟨#[41]⟩].length),((d.z #[.iface T x] 44).z #[.t #[40],.t #[41]] 9).cell? ⟨d.heap.size+1,i,none⟩=some (.string [(⟨#[40]⟩:ByteArray),⟨#[41]⟩][i]):=by
   intro i h;have:i=0\/i=1:=by simp at h;omega
   rcases this with rfl|rfl
   .exact Z
   .exact c3
  have q4:∀i (h:i<[Value.iface T x].length),Wrt ((d.z #[.iface T x] 44).z #[.t #[40],.t #[41]] 9) (fun q=>K q\/q=d.heap.size\/q=d.heap.size+1) k m [Value.iface T x][i] ([b][i]?.getD []):=by
   intro i h;obtain rfl:i=0:=by simpa using h
   exact W.o.mono (fun q N=> .inl N) (fun q N=>(B.o.below bx).same q N)
  have HV:=X1 (Oo [.iface T x] [b] [⟨#[40]⟩,⟨#[41]⟩] d.heap.size 0 1 (d.heap.size+1) 2 q1 (.inr (.inl rfl)) (.inr (.inr rfl)) q2 q3 q4 (by simp) (by simp) I.o J.o (by show t.length+(wv [⟨#[40]⟩,⟨#[41]⟩] [b] 1 2).length<=_;rw[ew];simp;omega));clear q1 q2 q3 q4;clear X Z c3;have H:=X1 bx;clear bx Q A;go_wp2_with fail;go_fit HV.o;rintro e w4⟨rfl,S,F,E⟩;have y:=X1 F;have s:=X1 ((Pr.Gr.below n.o).trans ((Pr.Gr.below H.o).trans E));clear F E;go_wp2;refine Xw ?_;exact⟨rfl,S,by have:=y.o;rw[show wv [⟨#[40]⟩,⟨#[41]⟩] [b] [Value.iface T x].length [(⟨#[40]⟩:ByteArray),⟨#[41]⟩].length=40::(b++[41])from ew]at this;exact this,s.o⟩
 .rw[X6 hr]at M⊢;have O:a<=r:=by omega
  have HQ:=X1 (fun d (g:BL w d)=>W.o d v t (C.o.below g) (U.o.below g) (by omega));go_enter func205,ntmps205;go_wp2_with(first
   | (show wpList _ _ _ ({dst:=_,op:=Op.call {callee:=Callee.invoke _ _,args:=#[],argTypes:=_},type:=_,pos:=_,after:=_,guard:=_}::_) _ _;refine EH rfl (.tmp 6) _ rfl (.iface T x) r (by first|(simp[Act.eval];done)|simp[Act.eval,Act.put]) V.o ?_;intro d g)
   | (show wpList _ _ _ ({dst:=_,op:=Op.call {callee:=Callee.invoke _ _,args:=_,argTypes:=_},type:=_,pos:=_,after:=_,guard:=_}::_) _ _;refine Wl rfl (.tmp 10) (.tmp 11) _ rfl (.iface T x) (.p k) _ (by first|(simp[Act.eval];done)|simp[Act.eval,Act.put]) (by first|(simp[Act.eval];done)|simp[Act.eval,Act.put]) (HQ.o d g) ?_;rintro w4⟨S,F,E⟩))
  have n:=X1 g;clear g;have y:=X1 F;have s:=X1 ((Pr.Gr.below n.o).trans E);clear F E;go_wp2;refine Xw ?_;exact⟨rfl,S,y.o,s.o⟩
structure WS (K:Nat->Prop) (w0:World) (ob:Nat) (m v0:Value) (wS:World) (v:Value) (t:List UInt8) (w:World):Prop where
 kp:KpW K w0 ob v w
 pr:PtR ob m v t w
 gr:Pr.Gr ob v0 v wS w
variable {K:Nat->Prop} {w0:World} {ob:Nat} {m v0:Value} {wS:World} {v:Value} {t:List UInt8} {w:World}
theorem WS.below{w':World}(h:WS K w0 ob m v0 wS v t w)(a:BL w w'):WS K w0 ob m v0 wS v t w':=⟨h.kp.below a,h.pr.below a,h.gr.trans (.below a)⟩
theorem WS.go{v':Value}{a:List UInt8}{w':World}(h:WS K w0 ob m v0 wS v t w)(p:PtR ob m v' a w')(g:Pr.Gr ob v v' w w'):WS K w0 ob m v0 wS v' a w':=⟨h.kp.gr g,p,h.gr.trans g⟩
def WP(K:Nat->Prop)(w0:World)(ob:Nat)(m v0:Value)(wS:World)(t:List UInt8)(e:Ending)(w':World):Prop:=e= .returned (.tuple #[])/\∃v',WS K w0 ob m v0 wS v' t w'
theorem WS.put(h:WS K w0 ob m v0 wS v t w)(S:ByteArray)(d:t.length+S.size<=100000000):Calls prog 195 #[.p ob,.string S] w (WP K w0 ob m v0 wS (t++S.data.toList)):=(Of h.pr S d).mono fun _ _ ⟨a,v',p,g⟩=>⟨a,v',h.go p g⟩
theorem WS.row(h:WS K w0 ob m v0 wS v t w)(d:List Value)(j:List (List UInt8))(p:Option Addr)(g o c:Nat)(n:d=[]\/p=some ⟨g,o,none⟩)(k:∀i (h:i<d.length),∃T x,d[i]= .iface T x)(s:d≠[]->K g)(r:∀i (h:i<d.length),w0.cell? ⟨g,o+i,none⟩=some d[i])(A:∀i (h:i<d.length),Wrt w0 K ob m d[i] (j[i]?.getD []))(u:d.length<=1000000)(y:t.length+(jn j d.length).length<=90000000): Calls prog 211 #[.p ob,.slice p d.length c] w (WP K w0 ob m v0 wS (t++jn j d.length)):=(X5q d j p g o c n k s r A u h.kp h.pr y).mono fun _ _ ⟨a,v',p,g⟩=>⟨a,v',h.go p g⟩
theorem WS.Pk(h:WS K w0 ob m v0 wS v t w)(T:TypeId)(x:Value)(b:List UInt8)(r d:Int)(k:Wrt w0 K ob m (.iface T x) b)(j:Rkd w0 K ob (.iface T x) r)(n:t.length+(if r<d then 40::(b++[41])else b).length<=90000000): Calls prog 205 #[.p ob,.iface T x,.q d] w fun e w'=>WP K w0 ob m v0 wS (t++(if r<d then 40::(b++[41])else b)) e w':=(X5j T x b r d k j h.kp h.pr n).mono fun _ _ ⟨a,v',p,g⟩=>⟨a,v',h.go p g⟩
theorem WS.Jo(h:WS K w0 ob m v0 wS v t w)(d:List Value)(r:List (List UInt8))(j:List ByteArray)(g o c:Nat)(s:∀i (h:i<d.length),∃T x,d[i]= .iface T x)(A:K g)(B:∀i (h:i<d.length),w0.cell? ⟨g,o+i,none⟩=some d[i])(H:∀i (h:i<d.length),Wrt w0 K ob m d[i] (r[i]?.getD []))(C:d.length<=1000000)(y:j.length<=1000000)(E:t.length+(wv j r d.length j.length).length<=90000000): Calls prog 206 #[.p ob,.slice (some ⟨g,o,none⟩) d.length c,.l w.heap.size j.length j.length] (w.alloc (.cells (j.map Value.string).toArray 9)) (WP K w0 ob m v0 wS (t++wv j r d.length j.length)):=by
 have bx:BL w (w.alloc (.cells (j.map Value.string).toArray 9)):=bA _;have k:=h.below bx;have F:=h.pr.lt;have n:v.ownBlock≠some w.heap.size:=fun e=>by have:=h.pr.LA e;omega
 have I:=k.kp.more w.heap.size w.heap.size (by simp) (by simp) (by omega) (by omega) n n;refine(Oo d r j g o c w.heap.size j.length s (.inl A) (.inr (.inl rfl)) (fun i hi=>(k.kp.cell A (o+i)).trans (B i hi)) (fun i hi=>?_) (fun i hi=>(H i hi).mono (fun _ u=> .inl u) (fun q u=>k.kp.same q u)) C y I k.pr E).mono fun _ _ ⟨a,v',p,g⟩=>⟨a,v',k.go p g⟩;rw[World.cell?,YV];simp[hi]
def bxo(k o n c:Int)(s:ByteArray)(sl:Value)(T:TypeId):Obj:= .cells #[.q k,.q o,.q n,.string s,.q c,sl] T
theorem WS.box{w0:World}(g:KpW K w0 ob v w)(d:PtR ob m v t w)(O:Obj):WS (fun q=>K q\/q=w.heap.size\/q=w.heap.size) (w.alloc O) ob m v w v t (w.alloc O):=by
 have bx:BL w (w.alloc O):=bA _;have j:=d.lt;have a:v.ownBlock≠some w.heap.size:=fun e=>by have:=d.LA e;omega
 exact⟨(g.below bx).more w.heap.size w.heap.size (by simp) (by simp) (by omega) (by omega) a a,d.below bx,.below bx⟩
theorem Wrt.box{w0:World}{u:Value}{b:List UInt8}(h:Wrt w0 K ob m u b)(d:KpW K w0 ob v w)(O:Obj):Wrt (w.alloc O) (fun q=>K q\/q=w.heap.size\/q=w.heap.size) ob m u b:=h.mono (fun _ a=> .inl a) (fun q a=>(bA O:BL w (w.alloc O)).block q (d.lt q a) |>.trans (d.same q a))
theorem WP.post{e:Ending}{w':World}(h:WP K w0 ob m v0 wS t e w'):e= .returned (.tuple #[])/\∃v',PtR ob m v' t w'/\Pr.Gr ob v0 v' wS w':=⟨h.1,h.2.elim fun v' g=>⟨v',g.pr,g.gr⟩⟩
abbrev Wd(ob:Nat)(m v:Value)(t b:List UInt8)(w:World)(e:Ending)(w':World):Prop:=e= .returned (.tuple #[])/\∃v',PtR ob m v' (t++b) w'/\Pr.Gr ob v v' w w'
theorem X6t(r:KpW K w0 ob v w)(u:PtR ob m v t w)(k o n c:Int)(s:ByteArray)(p:Option Addr)(l d:Nat)(B:t.length+s.size<=90000000):Calls prog 201 #[.agg #[.q k,.q o,.q n,.string s,.q c,.slice p l d],.p ob] w (Wd ob m v t s.data.toList w):=by
 have a:=X1 (WS.box r u (bxo k o n c s (.slice p l d) 133));unfold bxo at a;clear r u;have A:=X1 (a.o.put s (by omega));go_enter func201,ntmps201;go_wp2_with fail;go_fit A.o;rintro e C g;obtain⟨rfl,j⟩:=g.post;have y:=X1 j;clear j g;go_wp2;refine Xw ?_;exact⟨rfl,y.o⟩
variable {K:Nat->Prop} {w0:World} {ob:Nat} {m v0:Value} {wS:World} {v:Value} {t:List UInt8} {w:World}
structure KD (w0:World) (K:Nat->Prop) (ob:Nat) (m:Value) (us:List Value) (bs:List (List UInt8)) (g o:Nat):Prop where
 fi:∀i (h:i<us.length),∃T x,us[i]= .iface T x
 gk:us≠[]->K g
 ce:∀i (h:i<us.length),w0.cell? ⟨g,o+i,none⟩=some us[i]
 wr:∀i (h:i<us.length),Wrt w0 K ob m us[i] (bs[i]?.getD [])
 le:us.length<=1000000
variable {us:List Value} {bs:List (List UInt8)} {g o:Nat}
theorem KD.box(d:KD w0 K ob m us bs g o)(a:KpW K w0 ob v w)(O:Obj):KD (w.alloc O) (fun q=>K q\/q=w.heap.size\/q=w.heap.size) ob m us bs g o:=
 have bx:BL w (w.alloc O):=bA _
 ⟨d.fi,fun e=> .inl (d.gk e),fun i hi=>((a.below bx).cell (d.gk (fun e=>by rw[e]at hi;cases hi)) (o+i)).trans (d.ce i hi),fun i hi=>(d.wr i hi).box a _,d.le⟩
theorem KD.drop(d:KD w0 K ob m us bs g o)(j:Nat):KD w0 K ob m (us.drop j) (bs.drop j) g (o+j):=⟨fun i hi=>by rw[List.getElem_drop];exact d.fi _ _,fun e=>d.gk (fun a=>e (by simp[a])),fun i hi=>by rw[List.getElem_drop,Nat.add_assoc];exact d.ce _ _,fun i hi=>by rw[List.getElem_drop,Dn];exact d.wr _ _,by have:=d.le;simp;omega⟩
theorem KD.take(d:KD w0 K ob m us bs g o)(j:Nat):KD w0 K ob m (us.take j) bs g o:=⟨fun i hi=>by rw[List.getElem_take];exact d.fi _ _,fun e=>d.gk (fun a=>e (by simp[a])),fun i hi=>by rw[List.getElem_take];exact d.ce _ _,fun i hi=>by rw[List.getElem_take];exact d.wr _ _,by have:=d.le;simp;omega⟩
theorem KD.row(d:KD w0 K ob m us bs g o)(h:WS K w0 ob m v0 wS v t w)(p:Option Addr)(a:us=[]\/p=some ⟨g,o,none⟩)(c:Nat)(j:t.length+(jn bs us.length).length<=90000000): Calls prog 211 #[.p ob,.slice p us.length c] w (WP K w0 ob m v0 wS (t++jn bs us.length)):=h.row us bs p g o c a d.fi d.gk d.ce d.wr d.le j
theorem KD.Jo(d:KD w0 K ob m us bs g o)(h:WS K w0 ob m v0 wS v t w)(hne:us≠[])(c:Nat)(a:List ByteArray)(j:a.length<=1000000)(k:t.length+(wv a bs us.length a.length).length<=90000000): Calls prog 206 #[.p ob,.slice (some ⟨g,o,none⟩) us.length c,.l w.heap.size a.length a.length] (w.alloc (.cells (a.map Value.string).toArray 9)) (WP K w0 ob m v0 wS (t++wv a bs us.length a.length)):=h.Jo us bs a g o c d.fi (d.gk hne) d.ce d.wr d.le j k
theorem KD.Pk(d:KD w0 K ob m us bs g o)(h:WS K w0 ob m v0 wS v t w)(j:Nat)(s:j<us.length){T:TypeId}{x:Value}(y:us[j]= .iface T x)(b:List UInt8)(n:bs[j]?.getD []=b)(r a:Int)(k:Rkd w0 K ob (.iface T x) r)(u:t.length+(if r<a then 40::(b++[41])else b).length<=90000000): Calls prog 205 #[.p ob,.iface T x,.q a] w fun e w'=>WP K w0 ob m v0 wS (t++(if r<a then 40::(b++[41])else b)) e w':=h.Pk T x b r a (y ▸ n ▸ d.wr j s) k u
theorem Ox:Maps.Keyed prog 9:=Maps.string_keyed underlying9
theorem Y3w(w:World):(zeroValue 84).run prog w= .ok (.agg #[]) w:=by kernel_rfl
end
namespace Rb
variable {x:Nd} {p b:Int}
theorem Xdo{ks:List Fd}(d:x.kind=24)(j:(Fd.mk x p b ks).VF=true)(r:∀z∈(Fd.mk x p b ks).Xy,z.n<=9223372036854775807)(y:(txt (.mk x p b ks)).length<=8000)(a:YG (Fd.mk x p b ks).Xy=true):Pr.Qz ⟨(txt (.mk x p b ks)).toArray⟩ ((Fd.mk x p b ks).Xy,0,0):=by
 obtain⟨m,k⟩:=X0y d j r;have A:(⟨(txt (.mk x p b ks)).toArray⟩:ByteArray).size=(txt (.mk x p b ks)).length:=by simp[ByteArray.size]
 have s:Yf ⟨(txt (.mk x p b ks)).toArray⟩=0:=by
  unfold Yf;rw[X6 (by omega)];show(Sc.from_ (txt (.mk x p b ks)) 0).2.1=0;rw[k]
 have v:Y2 ⟨(txt (.mk x p b ks)).toArray⟩=(Sc.from_ (txt (.mk x p b ks)) 0).1:=by
  unfold Y2;rw[X6 (by omega)];show(if(Sc.from_ (txt (.mk x p b ks)) 0).2.1=0 then(Sc.from_ (txt (.mk x p b ks)) 0).1 else[])=_;rw[k,Xa rfl]
 have g:=Nf.of j;have u:(Fd.mk x p b ks).Xy=Fd.Xy.giveL ks++[nd 24 0 0 [] ks.length]:=by
  rw[Fd.Zh,ZE d (g.op (by omega) (by omega)) (g.n (by omega) (by omega)) (g.tx (by rw[d];rfl))]
 refine .inr ⟨s,(D (Y2 ⟨(txt (.mk x p b ks)).toArray⟩).length (Fd.Xy.giveL ks),ks.length),?_,?_⟩
 .exact X0x d j (by rw[v];exact m)
 .have:=Im (q:=D (Y2 ⟨(txt (.mk x p b ks)).toArray⟩).length (Fd.Xy.giveL ks)) (n:=ks.length) (l:=(Fd.mk x p b ks).Xy) (by rw[u];rfl) rfl a;exact this.symm
