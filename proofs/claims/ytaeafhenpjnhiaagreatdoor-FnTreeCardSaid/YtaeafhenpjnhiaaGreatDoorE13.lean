import Derived.Test.YtaeafhenpjnhiaaGreatDoorE06
import Derived.Laws.BytesArg
set_option maxHeartbeats 8000000
set_option maxRecDepth 100000
namespace Go.Proofs.YtaeafhenpjnhiaaGreatDoor
open Tryz Go.RowKit
theorem Xfm(o:Nat)(w:World):CS 72 #[.q o] w (.q (Xi o)):=by
 by_cases a:o<=2
 .have j:(o:Int)<=2:=by omega
  have e:Xi o=o:=by unfold Xi;rw[Xa a]
  rw[e];go_enter func72,ntmps72;go_wp2;go_ret;exact⟨rfl,rfl⟩
 .have j:¬(o:Int)<=2:=by omega
  by_cases d:o<=9
  .have k:(o:Int)<=9:=by omega
   have e:Xi o=4:=by unfold Xi;rw[X6 a,Xa d]
   rw[e];go_enter func72,ntmps72;go_wp2;go_ret;exact⟨rfl,rfl⟩
  .have k:¬(o:Int)<=9:=by omega
   by_cases g:o<=11
   .have m:(o:Int)<=11:=by omega
    have e:Xi o=5:=by unfold Xi;rw[X6 a,X6 d,Xa g]
    rw[e];go_enter func72,ntmps72;go_wp2;go_ret;exact⟨rfl,rfl⟩
   .have m:¬(o:Int)<=11:=by omega
    have e:Xi o=6:=by unfold Xi;rw[X6 a,X6 d,X6 g]
    rw[e];go_enter func72,ntmps72;go_wp2;go_ret;exact⟨rfl,rfl⟩
def EZ(w:World)(o:Nat)(e:Ending)(w':World):Prop:=e= .returned (.string ⟨(Yd o).toArray⟩)/\Below w.heap.size w w'
theorem X9l(o:Nat)(w:World)(g:1<=o)(k:o<=14):Calls prog 73 #[.q o] w (EZ w o):=by
 have a:=((X8 w.heap.size w).alloc (X5 _) (.cells #[.t #[],.t #[111,114],.t #[97,110,100],.t #[61,61],.t #[33,61],.t #[60],.t #[60,61],.t #[62],.t #[62,61],.t #[104,97,115],.t #[43],.t #[45],.t #[42],.t #[47],.t #[37]] 9));have j:o=1\/o=2\/o=3\/o=4\/o=5\/o=6\/o=7\/o=8\/o=9\/o=10\/o=11\/o=12\/o=13\/o=14:=by omega
 have d:=X1 a;clear a g k;rcases j with rfl|rfl|rfl|rfl|rfl|rfl|rfl|rfl|rfl|rfl|rfl|rfl|rfl|rfl;all_goals
  go_enter func73,ntmps73;go_wp2;go_ret;exact⟨rfl,d.o⟩
theorem Fb{ts:List Sc.T}{sz:Nat}{s:Pr.Dk}{r o:Nat}(g:o<=14)(a:Xi o=r)(d:X4 ts sz s (Yd o)=true):Ks ts sz s r (15-o) o=o:=by
 rw[show 15-o=(14-o)+1 from by omega,Ks,a,d];simp
theorem RI{ts:List Sc.T}{sz:Nat}{s:Pr.Dk}{r o:Nat}(d:o<=14)(h:Xi o=r->X4 ts sz s (Yd o)=false):Ks ts sz s r (15-o) o=Ks ts sz s r (15-(o+1)) (o+1):=by
 rw[show 15-o=(14-o)+1 from by omega,Ks,show 15-(o+1)=14-o from by omega]
 by_cases a:Xi o=r
 .rw[h a];simp
 .simp[a]
theorem Xcl{b Q tc:Nat}{ts:List Sc.T}{sz:Nat}{v:Value}{s:Pr.Dk}{w:World}(h:DK b Q tc ts sz v s w)(r:Nat): CB 114 #[.p b,.q r] w (.q (YT ts sz s r)):=by
 have H:=X1 h;clear h;go_enter func114,ntmps114;go_wp2_with fail;go_loopw[5] (fun t wr=>∃o:Nat,1<=o/\o<=15/\t= .q o/\YT ts sz s r=Ks ts sz s r (15-o) o/\BL w wr) (fun t _=>15-(intOf t).toNat)
 case atStart=>exact⟨1,by omega,by omega,rfl,rfl,X8 _ _⟩
 case round=>
  obtain⟨o,F,O,rfl,K,J⟩:=hrel;have C:=X1 K;have A:=X1 J;clear K J;by_cases m:o<=14
  .have B:(o:Int)<=14:=by omega
   have E:=X1 (fun W=>Xfm o W);by_cases L:Xi o=r
   .have y:((Xi o:Nat):Int)=r:=by omega
    have I:=X1 (fun W=>X9l o W F m);cases hi:X4 ts sz s (Yd o)
    .have u:=X1 (RI (ts:=ts) (sz:=sz) (s:=s) m (fun _=>hi) (r:=r));go_wp2_with(first
      | (go_at_call 72;go_fit(E.o _);rintro e M⟨rfl,rfl⟩;rw[y])
      | (go_at_call 73;go_fit(I.o _);rintro e S⟨rfl,j⟩;have d:=A.o.trans (j.mono A.o.size);have a:=X1 d;clear j d)
      | (go_at_call 92;go_fit(Gc (H.o.below a.o) _);rintro e U⟨rfl,k⟩;have g:=a.o.trans (k.mono a.o.size);have n:=X1 g;clear k g;simp only[hi]))
     go_roundw
     case rel=>exact⟨o+1,by omega,by omega,by go_num,C.o.trans u.o,n.o⟩
     case measure=>simp[intOf];omega
    .have u:=X1 (Fb (ts:=ts) (sz:=sz) (s:=s) m L hi);go_wp2_with(first
      | (go_at_call 72;go_fit(E.o _);rintro e M⟨rfl,rfl⟩;rw[y])
      | (go_at_call 73;go_fit(I.o _);rintro e S⟨rfl,j⟩;have d:=A.o.trans (j.mono A.o.size);have a:=X1 d;clear j d)
      | (go_at_call 92;go_fit(Gc (H.o.below a.o) _);rintro e U⟨rfl,k⟩;have g:=a.o.trans (k.mono a.o.size);have n:=X1 g;clear k g;simp only[hi]))
     go_ret;exact⟨by rw[C.o,u.o];rfl,n.o⟩
   .have y:¬((Xi o:Nat):Int)=r:=by omega
    have u:=X1 (RI (ts:=ts) (sz:=sz) (s:=s) (r:=r) m (fun e=>absurd e L));go_wp2_with(go_at_call 72;go_fit(E.o _);rintro e M⟨rfl,rfl⟩);go_roundw
    case rel=>exact⟨o+1,by omega,by omega,by go_num,C.o.trans u.o,A.o⟩
    case measure=>simp[intOf];omega
  .have B:¬(o:Int)<=14:=by omega
   have N:o=15:=by omega
   have u:Hid (Ks ts sz s r (15-o) o=0):=X1 (by rw[N];rfl);go_wp2;go_ret;exact⟨by rw[C.o,u.o];rfl,A.o⟩
def Y7(b:Nat)(ts:List Sc.T)(w:World):Nat:=ts.length-(intOf ((w.cell? ⟨b,2,none⟩).getD (.q 0))).toNat
theorem DK.left{b a tc:Nat}{ts:List Sc.T}{sz:Nat}{v:Value}{s:Pr.Dk}{w:World}(h:DK b a tc ts sz v s w):Y7 b ts w=ts.length-s.p:=by
 unfold Y7;rw[h.c2];simp[intOf]
abbrev Pr.SOi(b tg tc:Nat)(ts:List Sc.T)(sz:Nat)(i:Int)(r:Nat)(s:Pr.Dk):Prop:=Uf b tg tc ts sz 93 [.q i] V8 (.ops r) s
theorem Xcv{b k tc:Nat}{ts:List Sc.T}{sz:Nat}{s:Pr.Dk}(r:Nat)(a:s.bad=true):Pr.SOi b k tc ts sz r r s:=by
 intro m w0 d n;have g:=X1 d;have j:=d.c3;rw[a]at j;clear d;go_enter func93,ntmps93;go_wp2;refine Xw ?_;exact⟨(s,0),rfl,Pr.Cv.ops_bad a,m,g.o,.refl _ _ _⟩
theorem Xct{b L tc:Nat}{ts:List Sc.T}{sz:Nat}{s:Pr.Dk}(d:s.bad=false)(J:∀q:Pr.Dk,s.p<q.p->q.p<=ts.length->Pr.SOi b L tc ts sz 3 3 q)(K:Pr.SOi b L tc ts sz 4 4 s):Pr.SOi b L tc ts sz 3 3 s:=by
 intro S w0 j I;have C:=j.le;have y:=X1 j;have A:=X1 (Pr.Gr.refl b S w0);have B:=X1 (Pr.Stp.refl C);have Q:=j.c3;rw[d]at Q;clear j;cases hi:X4 ts sz s Zk
 .go_enter func93,ntmps93;go_wp2_with fail;go_fit(up A (B.o) (XD y.o Zk #[110,111,116] rfl hi));rintro e W⟨rfl,U,m,r,a⟩;go_wp2_with fail;go_fit(upc r a (K _ _ m.o (a.o.phi C I)));rintro e X⟨r2,rfl,g,M,n,u,v⟩;go_wp2;refine Xw ?_;exact⟨_,rfl,Pr.Cv.P3 d hi g.o,M,n.o,u.o⟩
 .go_enter func93,ntmps93;go_wp2_with fail;go_fit(up A (B.o.adv hi) (YA y.o Zk #[110,111,116] rfl hi));rintro e W⟨rfl,U,m,r,a⟩;have k:=X1 (Pr.Stp.refl a.o.le);go_wp2_with fail;go_fit(upc r a (J _ k.o.ge a.o.le _ _ m.o (a.o.phi C I)));rintro e X⟨r2,rfl,g,M,n,u,v⟩;have E:=X1 (k.o.trans (g.o.stp k.o.le));go_wp2_with fail;go_fit(up u (v.o.put 6 1 0 [] 1) (Yk n.o (v.o.len C I) 6 1 0 [] 1));rintro e Z⟨rfl,V,F,H,O⟩;have N:=X1 (E.o.put 6 1 0 [] 1);go_wp2;refine Xw ?_;exact⟨(_,0),rfl,Pr.Cv.P4 d hi g.o,V,F.o,H.o⟩
theorem Xcu{b L tc:Nat}{ts:List Sc.T}{sz:Nat}{s:Pr.Dk}(d:s.bad=false)(J:∀q:Pr.Dk,s.p<q.p->q.p<=ts.length->Pr.SOi b L tc ts sz 7 7 q)(K:Pr.ST b L tc ts sz s):Pr.SOi b L tc ts sz 7 7 s:=by
 intro S w0 j I;have C:=j.le;have y:=X1 j;have A:=X1 (Pr.Gr.refl b S w0);have B:=X1 (Pr.Stp.refl C);have Q:=j.c3;rw[d]at Q;clear j;cases hi:X4 ts sz s [45]
 .go_enter func93,ntmps93;go_wp2_with fail;go_fit(up A (B.o) (XD y.o [45] #[45] rfl hi));rintro e W⟨rfl,U,m,r,a⟩;go_wp2_with fail;go_fit(upc r a (K _ _ m.o (a.o.phi C I)));rintro e X⟨r2,rfl,g,M,n,u,v⟩;go_wp2;refine Xw ?_;exact⟨_,rfl,Pr.Cv.D0 d rfl hi g.o,M,n.o,u.o⟩
 .go_enter func93,ntmps93;go_wp2_with fail;go_fit(up A (B.o.adv hi) (YA y.o [45] #[45] rfl hi));rintro e W⟨rfl,U,m,r,a⟩;have k:=X1 (Pr.Stp.refl a.o.le);go_wp2_with fail;go_fit(upc r a (J _ k.o.ge a.o.le _ _ m.o (a.o.phi C I)));rintro e X⟨r2,rfl,g,M,n,u,v⟩;have E:=X1 (k.o.trans (g.o.stp k.o.le));go_wp2_with fail;go_fit(up u (v.o.put 6 2 0 [] 1) (Yk n.o (v.o.len C I) 6 2 0 [] 1));rintro e Z⟨rfl,V,F,H,O⟩;have N:=X1 (E.o.put 6 2 0 [] 1);go_wp2;refine Xw ?_;exact⟨(_,0),rfl,Pr.Cv.D3 d rfl hi g.o,V,F.o,H.o⟩
theorem Xcs{b tg tc:Nat}{ts:List Sc.T}{sz:Nat}{s:Pr.Dk}(r:Nat)(hr:r<=6)(b2:r≠3)(N:s.bad=false)(a9:∀q:Pr.Dk,s.p<q.p->q.p<=ts.length->Pr.SOi b tg tc ts sz ((r:Int)+1) (r+1) q)(b5:Pr.SOi b tg tc ts sz ((r:Int)+1) (r+1) s):Pr.SOi b tg tc ts sz r r s:=by
 intro v0 w0 J hN;have W:=J.le;have a3:=X1 J;have b1:=X1 (Pr.Gr.refl b v0 w0);have a6:=X1 (Pr.Stp.refl W);have c3:=J.c3;rw[N]at c3;clear J;have hm:=a3.o.XP;have e3:¬(r:Int)=3:=by omega
 have e7:¬(r:Int)=7:=by omega
 have b3:(r==3)=false:=by simp[b2]
 have b7:(r==7)=false:=by simp;omega
 go_enter func93,ntmps93;go_wp2_with fail;go_fit(upc b1 a6 (b5 _ _ a3.o (a6.o.phi W hN)));rintro e w1⟨r1,rfl,a2,v1,a4,a5,a7⟩;have HI:=X1 (show ∀r2,Pr.Cv ts sz (.opsL r) r1.1 r2->Pr.Cv ts sz (.ops r) s r2 from fun r2 h=>Pr.Cv.Vk N b3 b7 a2.o h);clear a2;go_wp2_with fail;go_loopw[4] (fun _ wr=>∃(q:Pr.Dk) (vq:Value),DK b tg tc ts sz vq q wr/\Pr.Gr b v0 vq w0 wr/\Pr.Stp ts s q 0/\∀r2,Pr.Cv ts sz (.opsL r) q r2->Pr.Cv ts sz (.ops r) s r2) (fun _ wr=>Y7 b ts wr)
 case atStart=>exact⟨r1.1,v1,a4.o,a5.o,a7.o.mono (by first|omega|(simp only[XX];omega)),HI.o⟩
 case round=>
  obtain⟨q,U,H,O,S,Q⟩:=hrel;have m:=X1 H;have A:=X1 O;have u:=X1 S;have F:=X1 Q;have HQ:=X1 (Xcl H r);clear H O S Q HI a4 a5 a7;cases X:(YT ts sz q r==0)
  .have K:=Mt X;have a8:¬((YT ts sz q r:Nat):Int)=0:=by simp at X;omega
   by_cases h4:r=4
   .subst h4;go_wp2_with fail;go_fit HQ.o;rintro e w2⟨rfl,d⟩;have g:=m.o.below d;have c2:=g.c2;have f2:=g.fr 2;have I:=g.adv K;have v:=X1 I;have B:=X1 ((A.o.trans (.below d)).trans (.set U _ b 2 (.q ((q.p:Int)+1))));have a:=X1 (u.o.Z6 K);clear g I d;go_wp2_with fail;go_fit(upc B a (a9 _ (Nat.lt_succ_of_le u.o.ge) a.o.le _ _ v.o (a.o.phi W hN)));rintro e b9⟨b6,rfl,k,b8,y,C,j⟩;go_wp2_with fail;go_fit(up C (j.o.put 7 (YT ts sz q 4:Nat) 0 [] 2) (Yk y.o (j.o.len W hN) 7 (YT ts sz q 4:Nat) 0 [] 2));rintro e b0⟨rfl,V,n,E,M⟩;go_wp2;refine Xw ?_;exact⟨(_,0),rfl,F.o _ (Pr.Cv.P1 X k.o),V,n.o,E.o⟩
   .have e4:¬(r:Int)=4:=by omega
    have b4:(r==4)=false:=by simp[h4]
    go_wp2_with fail;go_fit HQ.o;rintro e w2⟨rfl,d⟩;have g:=m.o.below d;have c2:=g.c2;have f2:=g.fr 2;have I:=g.adv K;have v:=X1 I;have B:=X1 ((A.o.trans (.below d)).trans (.set U _ b 2 (.q ((q.p:Int)+1))));have a:=X1 (u.o.Z6 K);clear g I d;have L:=X1 (Pr.Stp.refl a.o.le);go_wp2_with fail;go_fit(upc B a (a9 _ (Nat.lt_succ_of_le u.o.ge) a.o.le _ _ v.o (a.o.phi W hN)));rintro e b9⟨b6,rfl,k,b8,y,C,j⟩;have Z:=X1 (L.o.trans (k.o.stp L.o.le));go_wp2_with fail;go_fit(up C (j.o.put 7 (YT ts sz q r:Nat) 0 [] 2) (Yk y.o (j.o.len W hN) 7 (YT ts sz q r:Nat) 0 [] 2));rintro e b0⟨rfl,V,n,E,M⟩;have a0:=X1 (Z.o.put 7 (YT ts sz q r:Nat) 0 [] 2);have HM:=X1 (show Y7 b ts b0<Y7 b ts wr from by rw[n.o.left,m.o.left];have:=a0.o.ge;rw[Pr.adv_p]at this;omega)
    go_wp2;go_roundw
    case rel=>exact⟨_,V,n.o,E.o,M.o.mono (by first|omega|(simp only[XX];omega)),fun r2 h=>F.o _ (Pr.Cv.P2 X b4 k.o h)⟩
    case measure=>exact HM.o
  .have a8:((YT ts sz q r:Nat):Int)=0:=by simp at X;omega
   rw[a8]at HQ;go_wp2_with fail;go_fit HQ.o;rintro e w2⟨rfl,d⟩;have a1:=X1 d;clear d;go_wp2;refine Xw ?_;exact⟨(q,0),rfl,F.o _ (Pr.Cv.Lz X),U,m.o.below a1.o,A.o.trans (.below a1.o)⟩
theorem isY{b g tc:Nat}{ts:List Sc.T}{sz:Nat}{v:Value}{s:Pr.Dk}{w:World}(h:DK b g tc ts sz v s w)(t:List UInt8)(a:Array UInt8)(k:a.toList=t)(hi:X4 ts sz s t=true): Calls prog 92 #[.p b,.string ⟨a⟩] w fun e w'=>e= .returned (.bool true)/\Jb b g tc ts sz v w s w':=by
 have:=Gc h ⟨a⟩;simp only[k,hi]at this;exact this.mono fun _ _ ⟨j,d⟩=>⟨j,v,h.below d,.below d⟩
theorem isN{b g tc:Nat}{ts:List Sc.T}{sz:Nat}{v:Value}{s:Pr.Dk}{w:World}(h:DK b g tc ts sz v s w)(t:List UInt8)(a:Array UInt8)(k:a.toList=t)(hi:X4 ts sz s t=false): Calls prog 92 #[.p b,.string ⟨a⟩] w fun e w'=>e= .returned (.bool false)/\Jb b g tc ts sz v w s w':=by
 have:=Gc h ⟨a⟩;simp only[k,hi]at this;exact this.mono fun _ _ ⟨j,d⟩=>⟨j,v,h.below d,.below d⟩
theorem C7{b tg tc:Nat}{ts:List Sc.T}{sz:Nat}{s:Pr.Dk}(c8:∀q:Pr.Dk,s.p<=q.p->q.p<=ts.length->Pr.SE b tg tc ts sz q):Pr.SP b tg tc ts sz s:=by
 intro v0 w0 b0 hN;have h0:=b0.le;have hm:=b0.XP;have d1:=X1 b0;have d2:=X1 (Pr.Gr.refl b v0 w0);have d3:=X1 (Pr.Stp.refl h0);clear b0;go_enter func55,ntmps55;go_wp2_with fail;go_fit(up d2 (d3.o.X7 (sz:=sz) [40]) (XW d1.o [40] #[40] rfl));rintro e w1⟨rfl,v1,c2,c5,c7⟩;have HI:=X1 (show ∀r2,Pr.Cv ts sz (.Yn 0) (Xd ts sz s [40]) r2->Pr.Cv ts sz .params s (Xd ts sz r2.1 [41],r2.2)from fun r2 h=>Pr.Cv.params h);go_wp2_with fail;go_loopw[3] (fun t wr=>∃(n:Nat) (q:Pr.Dk) (vq:Value),t= .q n/\n<=q.p/\DK b tg tc ts sz vq q wr/\Pr.Gr b v0 vq w0 wr/\Pr.Stp ts s q 0/\∀r2,Pr.Cv ts sz (.Yn n) q r2->Pr.Cv ts sz .params s (Xd ts sz r2.1 [41],r2.2)) (fun _ wr=>Y7 b ts wr)
 case atStart=>exact⟨0,_,v1,rfl,Xb _,c2.o,c5.o,c7.o.mono (by first|omega|(simp only[XX];omega)),HI.o⟩
 case round=>
  obtain⟨n,q,e0,rfl,d9,a4,b4,b6,b5⟩:=hrel;have c3:=a4.c3;have d7:=a4.le;have H:=X1 a4;have a3:=X1 b4;have U:=X1 b6;have B:=X1 b5;clear a4 b4 b6 b5 HI c2 c5 c7;cases u:q.bad
  .rw[u]at c3;by_cases hn:n=0
   .subst hn;cases i0:X4 ts sz q [41]
    .go_wp2_with fail;go_fit(up a3 (U.o) (isN H.o [41] #[41] rfl i0));rintro e b8⟨rfl,b1,I,M,Q⟩;have hg:((0:Nat)==0&&X4 ts sz q [41])=false:=by rw[i0];rfl
     have a1:=X1 (Pr.Stp.refl Q.o.le);go_wp2_with fail;go_fit(up M (Q.o.name (sz:=sz)) (Jk I.o));rintro e b9⟨rfl,b2,J,N,C⟩;have F:=X1 (a1.o.name (sz:=sz));cases W:X4 ts sz (Xm ts sz q) [61]
     .go_wp2_with fail;go_fit(up N (C.o) (XD J.o [61] #[61] rfl W));rintro e c0⟨rfl,b7,K,O,m⟩;have g:=X1 (F.o);go_wp2_with fail;go_fit(up O (m.o.put 19 0 0 (Xe ts sz q) 0) (Yk K.o (m.o.len h0 hN) 19 0 0 (Xe ts sz q) 0));rintro e a9⟨rfl,a8,j,y,r⟩;have a:=X1 (g.o.put 19 0 0 (Xe ts sz q) 0);cases E:X4 ts sz (X9 (Xm ts sz q) 19 0 0 (Xe ts sz q) 0) [44]
      .go_wp2_with fail;go_fit(up y (r.o) (XD j.o [44] #[44] rfl E));rintro e a0⟨rfl,X,d,k,A⟩;have v:=X1 (a.o);go_wp2_with fail;go_fit(up k (A.o.X7 (sz:=sz) [41]) (XW d.o [41] #[41] rfl));rintro e b3⟨rfl,a5,L,S,V⟩;have a2:=X1 (v.o.X7 (sz:=sz) [41]);go_wp2;go_ret;exact⟨(_,0+1),by first|rfl|(unfold Qa;go_num),B.o _ (Pr.Cv.GD u hg W E),a5,L.o,S.o⟩
      .go_wp2_with fail;go_fit(up y (r.o.adv E) (YA j.o [44] #[44] rfl E));rintro e a0⟨rfl,X,d,k,A⟩;have v:=X1 (a.o.adv E);have HM:=X1 (show Y7 b ts a0<Y7 b ts wr from by rw[d.o.left,H.o.left];have:=a.o.ge;have:=Yb E;rw[Pr.adv_p]at *;omega)
       have Z:=X1 (show 0+1<=(X2 (X9 (Xm ts sz q) 19 0 0 (Xe ts sz q) 0)).p from by have:=a.o.ge;rw[Pr.adv_p]at *;omega)
       go_wp2;go_roundw
       case rel=>exact⟨0+1,_,X,by go_num,Z.o,d.o,k.o,A.o.mono (by first|omega|(simp only[XX];omega)),fun r2 h=>B.o _ (Pr.Cv.GC u hg W E h)⟩
       case measure=>exact HM.o
     .go_wp2_with fail;go_fit(up N (C.o.adv W) (YA J.o [61] #[61] rfl W));rintro e c0⟨rfl,b7,K,O,m⟩;have g:=X1 (F.o.adv W);go_wp2_with fail;go_fit(upc O m (c8 _ (Xz U.o.ge g.o.ge) m.o.le _ _ K.o (m.o.phi h0 hN)));rintro e a9⟨d0,rfl,a7,a8,j,y,r⟩;have a:=X1 (g.o.trans (a7.o.stp g.o.le));go_wp2_with fail;go_fit(up y (r.o.put 19 0 0 (Xe ts sz q) 1) (Yk j.o (r.o.len h0 hN) 19 0 0 (Xe ts sz q) 1));rintro e a0⟨rfl,X,d,k,A⟩;have v:=X1 (a.o.put 19 0 0 (Xe ts sz q) 1);cases E:X4 ts sz (X9 d0.1 19 0 0 (Xe ts sz q) 1) [44]
      .go_wp2_with fail;go_fit(up k (A.o) (XD d.o [44] #[44] rfl E));rintro e b3⟨rfl,a5,L,S,V⟩;have a2:=X1 (v.o);go_wp2_with fail;go_fit(up S (V.o.X7 (sz:=sz) [41]) (XW L.o [41] #[41] rfl));rintro e e1⟨rfl,d4,c4,c6,d6⟩;have d5:=X1 (a2.o.X7 (sz:=sz) [41]);go_wp2;go_ret;exact⟨(_,0+1),by first|rfl|(unfold Qa;go_num),B.o _ (Pr.Cv.GG u hg W E a7.o),d4,c4.o,c6.o⟩
      .go_wp2_with fail;go_fit(up k (A.o.adv E) (YA d.o [44] #[44] rfl E));rintro e b3⟨rfl,a5,L,S,V⟩;have a2:=X1 (v.o.adv E);have HM:=X1 (show Y7 b ts b3<Y7 b ts wr from by rw[L.o.left,H.o.left];have:=v.o.ge;have:=Yb E;rw[Pr.adv_p]at *;omega)
       have Z:=X1 (show 0+1<=(X2 (X9 d0.1 19 0 0 (Xe ts sz q) 1)).p from by have:=v.o.ge;rw[Pr.adv_p]at *;omega)
       go_wp2;go_roundw
       case rel=>exact⟨0+1,_,a5,by go_num,Z.o,L.o,S.o,V.o.mono (by first|omega|(simp only[XX];omega)),fun r2 h=>B.o _ (Pr.Cv.GF u hg W E a7.o h)⟩
       case measure=>exact HM.o
    .go_wp2_with fail;go_fit(up a3 (U.o) (isY H.o [41] #[41] rfl i0));rintro e b8⟨rfl,b1,I,M,Q⟩;go_wp2_with fail;go_fit(up M (Q.o.X7 (sz:=sz) [41]) (XW I.o [41] #[41] rfl));rintro e b9⟨rfl,b2,J,N,C⟩;go_wp2;go_ret;exact⟨(_,0),by first|rfl|(unfold Qa;go_num),B.o _ (Pr.Cv.LF u i0),b2,J.o,N.o⟩
   .have d8:0<(n:Int):=by omega
    have hg:(n==0&&X4 ts sz q [41])=false:=by simp[hn]
    have c1:=X1 (Pr.Stp.refl U.o.le);go_wp2_with fail;go_fit(up a3 (U.o.name (sz:=sz)) (Jk H.o));rintro e b8⟨rfl,b1,I,M,Q⟩;have a1:=X1 (c1.o.name (sz:=sz));cases W:X4 ts sz (Xm ts sz q) [61]
    .go_wp2_with fail;go_fit(up M (Q.o) (XD I.o [61] #[61] rfl W));rintro e b9⟨rfl,b2,J,N,C⟩;have F:=X1 (a1.o);go_wp2_with fail;go_fit(up N (C.o.put 19 0 0 (Xe ts sz q) 0) (Yk J.o (C.o.len h0 hN) 19 0 0 (Xe ts sz q) 0));rintro e c0⟨rfl,b7,K,O,m⟩;have g:=X1 (F.o.put 19 0 0 (Xe ts sz q) 0);cases E:X4 ts sz (X9 (Xm ts sz q) 19 0 0 (Xe ts sz q) 0) [44]
     .go_wp2_with fail;go_fit(up O (m.o) (XD K.o [44] #[44] rfl E));rintro e a9⟨rfl,a8,j,y,r⟩;have a:=X1 (g.o);go_wp2_with fail;go_fit(up y (r.o.X7 (sz:=sz) [41]) (XW j.o [41] #[41] rfl));rintro e a0⟨rfl,X,d,k,A⟩;have v:=X1 (a.o.X7 (sz:=sz) [41]);go_wp2;go_ret;exact⟨(_,n+1),by first|rfl|(unfold Qa;go_num),B.o _ (Pr.Cv.GD u hg W E),X,d.o,k.o⟩
     .go_wp2_with fail;go_fit(up O (m.o.adv E) (YA K.o [44] #[44] rfl E));rintro e a9⟨rfl,a8,j,y,r⟩;have a:=X1 (g.o.adv E);have HM:=X1 (show Y7 b ts a9<Y7 b ts wr from by rw[j.o.left,H.o.left];have:=g.o.ge;have:=Yb E;rw[Pr.adv_p]at *;omega)
      have Z:=X1 (show n+1<=(X2 (X9 (Xm ts sz q) 19 0 0 (Xe ts sz q) 0)).p from by have:=g.o.ge;rw[Pr.adv_p]at *;omega)
      go_wp2;go_roundw
      case rel=>exact⟨n+1,_,a8,by go_num,Z.o,j.o,y.o,r.o.mono (by first|omega|(simp only[XX];omega)),fun r2 h=>B.o _ (Pr.Cv.GC u hg W E h)⟩
      case measure=>exact HM.o
    .go_wp2_with fail;go_fit(up M (Q.o.adv W) (YA I.o [61] #[61] rfl W));rintro e b9⟨rfl,b2,J,N,C⟩;have F:=X1 (a1.o.adv W);go_wp2_with fail;go_fit(upc N C (c8 _ (Xz U.o.ge F.o.ge) C.o.le _ _ J.o (C.o.phi h0 hN)));rintro e c0⟨c9,rfl,a6,b7,K,O,m⟩;have g:=X1 (F.o.trans (a6.o.stp F.o.le));go_wp2_with fail;go_fit(up O (m.o.put 19 0 0 (Xe ts sz q) 1) (Yk K.o (m.o.len h0 hN) 19 0 0 (Xe ts sz q) 1));rintro e a9⟨rfl,a8,j,y,r⟩;have a:=X1 (g.o.put 19 0 0 (Xe ts sz q) 1);cases E:X4 ts sz (X9 c9.1 19 0 0 (Xe ts sz q) 1) [44]
     .go_wp2_with fail;go_fit(up y (r.o) (XD j.o [44] #[44] rfl E));rintro e a0⟨rfl,X,d,k,A⟩;have v:=X1 (a.o);go_wp2_with fail;go_fit(up k (A.o.X7 (sz:=sz) [41]) (XW d.o [41] #[41] rfl));rintro e b3⟨rfl,a5,L,S,V⟩;have a2:=X1 (v.o.X7 (sz:=sz) [41]);go_wp2;go_ret;exact⟨(_,n+1),by first|rfl|(unfold Qa;go_num),B.o _ (Pr.Cv.GG u hg W E a6.o),a5,L.o,S.o⟩
     .go_wp2_with fail;go_fit(up y (r.o.adv E) (YA j.o [44] #[44] rfl E));rintro e a0⟨rfl,X,d,k,A⟩;have v:=X1 (a.o.adv E);have HM:=X1 (show Y7 b ts a0<Y7 b ts wr from by rw[d.o.left,H.o.left];have:=a.o.ge;have:=Yb E;rw[Pr.adv_p]at *;omega)
      have Z:=X1 (show n+1<=(X2 (X9 c9.1 19 0 0 (Xe ts sz q) 1)).p from by have:=a.o.ge;rw[Pr.adv_p]at *;omega)
      go_wp2;go_roundw
      case rel=>exact⟨n+1,_,X,by go_num,Z.o,d.o,k.o,A.o.mono (by first|omega|(simp only[XX];omega)),fun r2 h=>B.o _ (Pr.Cv.GF u hg W E a6.o h)⟩
      case measure=>exact HM.o
  .rw[u]at c3;go_wp2_with fail;go_fit(up a3 (U.o.X7 (sz:=sz) [41]) (XW H.o [41] #[41] rfl));rintro e b8⟨rfl,b1,I,M,Q⟩;go_wp2;go_ret;exact⟨(_,n),by first|rfl|(unfold Qa;go_num),B.o _ (Pr.Cv.P8 u),b1,I.o,M.o⟩
namespace Sc
theorem Ex{b:UInt8}(r:List UInt8)(h:b.toNat=34):unq (b::r)=some ([],1):=by unfold unq;rw[Xa h]
theorem Ez{b:UInt8}(r:List UInt8)(h:b.toNat=92)(a:r.length<2):unq (b::r)=none:=by
 unfold unq;rw[X6 (by omega),Xa h]
 match r,a with
 | [],_=>rfl
 | [_],_=>rfl
theorem R6{b x y:UInt8}(r:List UInt8)(h:b.toNat=92)(a:XZ x<0\/XZ y<0):unq (b::x::y::r)=none:=by
 unfold unq;rw[X6 (by omega),Xa h];simp only;rw[Xa a]
theorem Ey{b x y:UInt8}(r:List UInt8)(h:b.toNat=92)(a:¬XZ x<0)(d:¬XZ y<0): unq (b::x::y::r)=(unq r).map fun p=>(UInt8.ofNat (16*XZ x+XZ y).toNat::p.1,p.2+3):=by
 conv=>lhs;unfold unq
 rw[X6 (by omega),Xa h];simp only;rw[X6 (by omega)]
theorem M5{b:UInt8}(r:List UInt8)(a:b.toNat≠34)(d:b.toNat≠92)(h:b.toNat<32\/126<b.toNat):unq (b::r)=none:=by
 unfold unq;rw[X6 a,X6 d,Xa h]
theorem EA{b:UInt8}(r:List UInt8)(a:b.toNat≠34)(d:b.toNat≠92)(h:¬(b.toNat<32\/126<b.toNat)):unq (b::r)=(unq r).map fun p=>(b::p.1,p.2+1):=by
 conv=>lhs;unfold unq
 rw[X6 a,X6 d,X6 h]
theorem WO(b:UInt8):-1<=XZ b/\XZ b<=15:=by unfold XZ;split<;>(try split)<;>omega
def bytesOf(t:List UInt8):List Value:=t.map fun c=>Value.int .u8 c.toNat
theorem Sv(t:List UInt8)(c:UInt8):bytesOf (t++[c])=bytesOf t++[.int .u8 c.toNat]:=by simp[bytesOf]
theorem strOf(t:List UInt8):strOfNums (t.map fun c=>(c.toNat:Int))=⟨t.toArray⟩:=by
 unfold strOfNums;simp[Function.comp_def]
end Sc
theorem AS:(prog.info? 5).map (fun i=>(i.zero,i.size,i.bytes))=some (some (.int .u8 0),1,1):=by kernel_rfl
theorem SM{w:World}{base g cap:Nat}{t:List UInt8}(h:w.ownsRow base 5 1 (.l g t.length cap) t.length (Sc.bytesOf t)): (convert 22 9 (.l g t.length cap)).run prog w= .ok (.string ⟨t.toArray⟩) w:=by
 have:=run_convert_bytes_arg (P:=prog) w 22 5 underlying22 underlying5 g 0 t.length cap (t.map fun c=>(c.toNat:Int)) (by simp) (fun i hi=>by
  rw[Xu,h.cellAt i (by omega)];simp[Sc.bytesOf,hi]) 9 underlying9
 rw[this,Sc.strOf]
theorem below_drewN{B:Nat}{a w:World}(h:Below B a w)(n:Nat):Below B a (w.drewN n):=⟨h.os,h.tape,h.output,h.size,h.block⟩
theorem CP{W:World}{base:Nat}{e:TypeId}{size:Nat}{v:Value}{k:Nat}{d:List Value}(h:W.ownsRow base e size v (k+1) d):∃g cap,v= .l g (k+1) cap:=by
 rcases h.2 with⟨_,j⟩|⟨g,cap,_,a,_⟩
 .omega
 .exact⟨g,cap,a⟩
theorem Sl{w wr n:World}{g cap:Nat}{t:List UInt8}{c:UInt8}{v':Value}{o:Obj}(j:wr.ownsRow w.heap.size 5 1 (.l g t.length cap) t.length (Sc.bytesOf t))(r:BL w wr)(d:n.ownsRow w.heap.size 5 1 v' (t.length+1) (Sc.bytesOf t++[.int .u8 c.toNat]))(s:(wr.alloc o).grownBy n (Value.l g t.length cap).ownBlock): ∃m a,v'= .l m (t.length+1) a/\n.ownsRow w.heap.size 5 1 (.l m (t++[c]).length a) (t++[c]).length (Sc.bytesOf (t++[c]))/\Below w.heap.size w n:=by
 obtain⟨m,a,rfl⟩:=CP d;refine⟨m,a,rfl,by rw[Sc.Sv,Xj];exact d,(r.alloc r.size _).grown s (by have:=r.size;simp;omega) (fun k e=>?_)⟩;exact(j.lt k e).1
def I1(k:Nat)(r:Option (List UInt8 × Nat)):Value:=
 match r with
 | none=> .tuple #[.t #[],.q 0,.bool false]
 | some p=> .tuple #[.string ⟨p.1.toArray⟩,.q ((k:Int)+1+p.2),.bool true]
theorem AH{x y:Int}(a:0<=x)(g:x<=15)(d:0<=y)(j:y<=15):((UInt8.ofNat (16*x+y).toNat).toNat:Int)=16*x+y:=by
 rw[UInt8.toNat_ofNat'];omega
theorem Y2u{k j:Nat}{t:List UInt8}(h:k+1<=j):Ending.returned (.tuple #[.string ⟨t.toArray⟩,.q ((j:Int)+1),.bool true])= .returned (I1 k (some (t,j-k))):=by
 unfold I1;simp;omega
theorem Y2v(s:ByteArray)(k:Nat)(a:Int)(w:World)(hs:s.size<=1048576)(hk:k<s.size)(ha:a=(k:Int)): CB 90 #[.string s,.q a] w (I1 k (Sc.unq (s.data.toList.drop (k+1)))):=by
 subst ha;obtain⟨i0,hi,S,U,V⟩:=YK AS;go_enter func90,ntmps90;go_wp2
 go_loopw[7,8] (fun v i wr=>∃(j:Nat) (t:List UInt8) (g cap:Nat),k+1<=j/\j<=s.size/\i= .q j/\v= .l g t.length cap/\wr.ownsRow w.heap.size 5 1 (.l g t.length cap) t.length (Sc.bytesOf t)/\BL w wr/\t.length<=j/\
   Sc.unq (s.data.toList.drop (k+1))=(Sc.unq (s.data.toList.drop j)).map fun p=>(t++p.1,p.2+(j-(k+1)))) (fun _ i _=>s.size-(intOf i).toNat)
 case atStart=>
  exact⟨k+1,[],w.heap.size,0,X5 _,hk,by go_num,rfl,Y4 w #[] 0 (X5 _) (Xb _) rfl,bA _,Xb _,by simp⟩
 case round=>
  obtain⟨j,t,g,cap,X,hj,rfl,rfl,n,B,a9,he⟩:=hrel;have C:=X1 he;clear he;have a8:=B.size;by_cases N:j<s.size
  .have M:=X1 (Sc.drop_cons s j N);cases J:((s[j].toNat:Int)==34)
   .have E:Hid (s[j].toNat≠34):=by simp at J;exact X1 (by omega)
    cases K:((s[j].toNat:Int)==92)
    .have r:Hid (s[j].toNat≠92):=by simp at K;exact X1 (by omega)
     by_cases a7:(s[j].toNat:Int)<32
     .have y:Hid (Sc.unq (s.data.toList.drop (k+1))=none):=X1 (by rw[C.o,M.o,Sc.M5 _ E.o r.o (.inl (by omega))];rfl);go_wp2;go_ret3;exact⟨by rw[y.o];rfl,B⟩
     .by_cases a6:126<(s[j].toNat:Int)
      .have y:Hid (Sc.unq (s.data.toList.drop (k+1))=none):=X1 (by rw[C.o,M.o,Sc.M5 _ E.o r.o (.inr (by omega))];rfl);go_wp2;go_ret3;exact⟨by rw[y.o];rfl,B⟩
      .go_wp2_with(at_builtin;refine Vr _ rfl _ _ 22 rfl w.heap.size 5 i0 (.int .u8 0) 1 1 underlying22 hi S U V rfl (by decide) _ _ _ rfl (n.alloc _) ⟨wr.heap.size,0,none⟩ 1 1 [.int .u8 s[j].toNat] rfl rfl (cell_one_new _ _ _) (by simp[Value.oneCell']) ?_ ?_ ?_ ?_)
       .unfold maxLen;omega
       .omega
       .first|omega|(simp;omega)
       .intro v' w1 d m _;obtain⟨W,A,rfl,I,F⟩:=Sl n B d m;clear d m n;go_wp2;go_roundw
        case rel=>
         refine⟨j+1,t++[s[j]],W,A,by omega,by omega,by go_num,by simp,I,F,by simp;omega,?_⟩;rw[C.o,M.o,Sc.EA _ E.o r.o (by omega),Option.map_map];congr 1;funext p;simp;omega
        case measure=>simp[intOf];omega
    .have r:Hid (s[j].toNat=92):=by simp at K;exact X1 (by omega)
     by_cases h2:s.size<=j+2
     .have y:Hid (Sc.unq (s.data.toList.drop (k+1))=none):=X1 (by rw[C.o,M.o,Sc.Ez _ r.o (by simp;omega)];rfl);go_wp2;go_ret3;exact⟨by rw[y.o];rfl,B⟩
     .have H:=X1 (show s.data.toList.drop j=s[j]::s[j+1]::s[j+2]::s.data.toList.drop (j+3) by rw[Sc.drop_cons s j N,Sc.drop_cons s (j+1) (by omega),Sc.drop_cons s (j+2) (by omega)]);have a1:=Sc.WO s[j+1];have a2:=Sc.WO s[j+2];obtain⟨a3,O⟩:=a1;obtain⟨a4,Q⟩:=a2;by_cases Z:Sc.XZ s[j+1]<0
      .have y:Hid (Sc.unq (s.data.toList.drop (k+1))=none):=X1 (by rw[C.o,H.o,Sc.R6 _ r.o (.inl Z)];rfl);go_wp2_with(go_at_call 112;go_fit(Lc _ _);rintro e w'⟨rfl,rfl⟩);go_ret3;exact⟨by rw[y.o];rfl,B⟩
      .by_cases a0:Sc.XZ s[j+2]<0
       .have y:Hid (Sc.unq (s.data.toList.drop (k+1))=none):=X1 (by rw[C.o,H.o,Sc.R6 _ r.o (.inr a0)];rfl);go_wp2_with(go_at_call 112;go_fit(Lc _ _);rintro e w'⟨rfl,rfl⟩);go_ret3;exact⟨by rw[y.o];rfl,B⟩
       .go_wp2_with(go_at_call 112;go_fit(Lc _ _);rintro e w'⟨rfl,rfl⟩);go_quiet((go_at_call 112;exact Calls.quiet_of_same (Lc _ _)));have u:(w'.drewN nq).ownsRow w.heap.size 5 1 (.l g t.length cap) t.length (Sc.bytesOf t):=n;have L:BL w (w'.drewN nq):=below_drewN B nq;go_wp2_with(at_builtin;refine Vr _ rfl _ _ 22 rfl w.heap.size 5 i0 (.int .u8 0) 1 1 underlying22 hi S U V rfl (by decide) _ _ _ rfl (u.alloc _) ⟨w'.heap.size,0,none⟩ 1 1 [.int .u8 (16*Sc.XZ s[j+1]+Sc.XZ s[j+2])] rfl rfl (cell_one_new _ _ _) (by simp[Value.oneCell']) ?_ ?_ ?_ ?_)
        .unfold maxLen;omega
        .omega
        .first|omega|(simp;omega)
        .intro v' w1 d m _;rw[←AH (by omega) O (by omega) Q]at d;obtain⟨W,A,rfl,I,F⟩:=Sl u L d m;clear d m n u L;go_wp2;go_roundw
         case rel=>
          refine⟨j+3,_,W,A,by omega,by omega,by go_num,by simp,I,F,by simp;omega,?_⟩;rw[C.o,H.o,Sc.Ey _ r.o (by omega) (by omega),Option.map_map];congr 1;funext p;simp;omega
         case measure=>simp[intOf];omega
   .have a5:=SM n;have y:Hid (Sc.unq (s.data.toList.drop (k+1))=some (t,j-k)):=X1 (by rw[C.o,M.o,Sc.Ex _ (by simp at J;omega)];simp;omega);go_wp2;go_ret3;exact⟨by rw[y.o];exact Y2u X,B⟩
  .have y:Hid (Sc.unq (s.data.toList.drop (k+1))=none):=X1 (by rw[C.o,YI (i:=j) (by simp;omega)];rfl);go_wp2;go_ret3;exact⟨by rw[y.o];rfl,B⟩
theorem Xca(k:Nat)(r:Sc.R):∃(kd:Int) (tx:ByteArray) (n a g d:Int),QL k r= .tuple #[.agg #[.q kd,.string tx,.q n,.q a],.q g,.q d]:=by
 unfold QL;split<;>exact⟨_,_,_,_,_,_,rfl⟩
theorem Zu{B b:Nat}{w d:World}{g j k m:Value}(h:Below B w d)(a:B<=b):Below B w ((((d.setCell ⟨b,0,none⟩ g).setCell ⟨b,1,none⟩ j).setCell ⟨b,2,none⟩ k).setCell ⟨b,3,none⟩ m):=(((h.setCell (p:=⟨b,0,none⟩) a _).setCell (p:=⟨b,1,none⟩) a _).setCell (p:=⟨b,2,none⟩) a _).setCell (p:=⟨b,3,none⟩) a _
def Ug(l:List UInt8):Bool:=decide (l∈Sc.words)
theorem O8(b:Nat)(s:ByteArray)(w:World)(t:List UInt8)(d:s.data.toList=t)(a:Wo w b Sc.words): CS 75 #[.l b 17 17,.string s] w (.bool (Ug t)):=by
 subst d;exact AE Sc.words b s w (by decide) a
theorem DY{x:ByteArray}{t:List UInt8}(h:x.data.toList=t):x=⟨t.toArray⟩:=by subst h;exact(Lib.mk_data x).symm
theorem Qd{W a:World}(d:BL W a):(∀b o,b<W.heap.size->a.cell? ⟨b,o,none⟩=W.cell? ⟨b,o,none⟩)/\(∀b o,b<W.heap.size->a.frozen? ⟨b,o,none⟩=W.frozen? ⟨b,o,none⟩):=⟨fun b o h=>d.cell (p:=⟨b,o,none⟩) h,fun b o h=>d.frozen (p:=⟨b,o,none⟩) h⟩
theorem RT(s:ByteArray)(k:Nat)(d:k<s.size)(a:Sc.dig s[k]=true):Sc.one (s.data.toList.drop k)=Sc.ZV (s.data.toList.drop k):=by
 rw[Sc.drop_cons s k d];simp only[Sc.one];rw[Xa a]
theorem RR(s:ByteArray)(k:Nat)(g:k<s.size)(d:Sc.dig s[k]=false)(a:Sc.beg s[k]=true):Sc.one (s.data.toList.drop k)=Sc.Kx (s.data.toList.drop k):=by
 rw[Sc.drop_cons s k g];simp only[Sc.one];rw[X6 (by simp[d]),Xa a]
theorem RU(s:ByteArray)(k:Nat)(g:k<s.size)(d:Sc.dig s[k]=false)(a:Sc.beg s[k]=false)(j:s[k].toNat=34):Sc.one (s.data.toList.drop k)=Sc.KZ (s.data.toList.drop k):=by
 rw[Sc.drop_cons s k g];simp only[Sc.one];rw[X6 (by simp[d]),X6 (by simp[a]),Xa j]
theorem RQ(s:ByteArray)(k:Nat)(g:k<s.size)(d:Sc.dig s[k]=false)(a:Sc.beg s[k]=false)(j:s[k].toNat≠34):Sc.one (s.data.toList.drop k)=Sc.ZM (s.data.toList.drop k):=by
 rw[Sc.drop_cons s k g];simp only[Sc.one];rw[X6 (by simp[d]),X6 (by simp[a]),X6 j]
theorem OV(s:ByteArray)(k:Nat)(w:World)(E:s.size<=1048576)(r:k<s.size)(C:Sc.dig s[k]=true): CB 52 #[.string s,.q k] w (QL k (Sc.one (s.data.toList.drop k))):=by
 rw[RT s k r C];obtain⟨kd,tx,n,a,A,y,d⟩:=Xca k (Sc.ZV (s.data.toList.drop k));have g:=fun w=>Xau s k k w E r rfl;rw[d]at g⊢;clear d;have u:=X1 g;clear g;go_enter func52,ntmps52;go_wp2_with(first|(go_at_call 88;go_fit(KG _ _);rintro e w'⟨rfl,rfl⟩)|(go_at_call 89;go_fit(u.o _);rintro e F⟨rfl,m⟩;obtain⟨B,H⟩:=Qd m));have j:BL w F:=(bA _).trans (m.mono (by simp));refine Xq (v:= .tuple #[.agg #[.q kd,.string tx,.q n,.q a],.q A,.q y]) (by simp[results,results52,go_sem,B]) rfl ⟨rfl,?_⟩;exact Zu j (X5 _)
theorem OX(s:ByteArray)(k:Nat)(w:World)(I:s.size<=1048576)(E:k<s.size)(F:Sc.dig s[k]=false)(B:Sc.beg s[k]=false)(H:((s[k].toNat:Int)==34)=true): CB 52 #[.string s,.q k] w (QL k (Sc.one (s.data.toList.drop k))):=by
 rw[RU s k E F B (by simp at H;omega)];have n:(s.data.toList.drop k).tail=s.data.toList.drop (k+1):=by simp
 have g:Sc.KZ (s.data.toList.drop k)=match Sc.unq (s.data.toList.drop (k+1))with
  | none=>Sc.bad 4
  | some p=>if 1000<p.1.length then Sc.bad 5 else⟨0,4,p.1,0,p.2+1⟩:=by unfold Sc.KZ;rw[n];rfl
 have j:=fun w=>Y2v s k k w I E rfl;cases u:Sc.unq (s.data.toList.drop (k+1))with
 | none=>
  rw[u]at g j;rw[g];simp only[I1]at j;have A:=X1 j;clear j g n u;go_enter func52,ntmps52;go_wp2_with(first|(go_at_call 88;go_fit(KG _ _);rintro e w'⟨rfl,rfl⟩)|(go_at_call 74;go_fit(UL _ _);rintro e w'⟨rfl,rfl⟩)|(go_at_call 90;go_fit(A.o _);rintro e y⟨rfl,m⟩;obtain⟨r,C⟩:=Qd m));have a:BL w y:=(bA _).trans (m.mono (by simp));refine Xq (v:= .tuple #[.agg #[.q 0,.t #[],.q 0,.q 0],.q 0,.q 4]) (by simp[results,results52,go_sem,r]) rfl ⟨by rw[Us rfl (by decide)];rfl,?_⟩;exact Zu a (X5 _)
 | some p=>
  rw[u]at g j;simp only at g;simp only[I1]at j;have A:=X1 j;have J:=X1 (Sc.Wi _ p.1 p.2 u);clear j n u;by_cases d:1000<p.1.length
  .rw[Xa d]at g;rw[g];clear g;go_enter func52,ntmps52;go_wp2_with(first|(go_at_call 88;go_fit(KG _ _);rintro e w'⟨rfl,rfl⟩)|(go_at_call 74;go_fit(UL _ _);rintro e w'⟨rfl,rfl⟩)|(go_at_call 90;go_fit(A.o _);rintro e y⟨rfl,m⟩;obtain⟨r,C⟩:=Qd m));have a:BL w y:=(bA _).trans (m.mono (by simp));refine Xq (v:= .tuple #[.agg #[.q 0,.t #[],.q 0,.q 0],.q 0,.q 5]) (by simp[results,results52,go_sem,r]) rfl ⟨by rw[Us rfl (by decide)];rfl,?_⟩;exact Zu a (X5 _)
  .rw[X6 d]at g;rw[g];clear g;go_enter func52,ntmps52;go_wp2_with(first|(go_at_call 88;go_fit(KG _ _);rintro e w'⟨rfl,rfl⟩)|(go_at_call 74;go_fit(UL _ _);rintro e w'⟨rfl,rfl⟩)|(go_at_call 90;go_fit(A.o _);rintro e y⟨rfl,m⟩;obtain⟨r,C⟩:=Qd m));have a:BL w y:=(bA _).trans (m.mono (by simp));refine Xq (v:= .tuple #[.agg #[.q 4,.string ⟨p.1.toArray⟩,.q 0,.q k],.q ((k:Int)+1+p.2),.q 0]) (by simp[results,results52,go_sem,r]) rfl ⟨by rw[Vg rfl];simp;omega,?_⟩;exact Zu a (X5 _)
theorem MB(p:UInt8->Bool)(l:List UInt8):l.take (l.takeWhile p).length=l.takeWhile p:=by
 induction l with
 | nil=>rfl
 | cons x r a=>simp only[V2];split<;>simp[a]
theorem OT(s:ByteArray)(k:Nat)(w:World)(hs:s.size<=1048576)(V:k<s.size)(U:Sc.dig s[k]=false)(L:Sc.beg s[k]=true): CB 52 #[.string s,.q k] w (QL k (Sc.one (s.data.toList.drop k))):=by
 rw[RR s k V U L];go_enter func52,ntmps52;go_wp2_with(first|(go_at_call 88;go_fit(KG _ _);rintro e w'⟨rfl,rfl⟩)|(go_at_call 74;go_fit(UL _ _);rintro e w'⟨rfl,rfl⟩));go_loop[7] (fun t=>∃j:Nat,k<=j/\j<=s.size/\t= .q j/\j+((s.data.toList.drop j).takeWhile Sc.nm).length=k+((s.data.toList.drop k).takeWhile Sc.nm).length) (fun t=>s.size-(intOf t).toNat)
 case atStart=>exact⟨k,X5 _,by omega,rfl,rfl⟩
 case round=>
  obtain⟨j,W,Z,rfl,I⟩:=hrel;have J:=X1 I;clear I;by_cases F:∃h:j<s.size,Sc.nm s[j]=true
  .obtain⟨a,A⟩:=F;have M:=X1 (Sc.drop_cons s j a);go_wp2_with(go_at_call 77;go_fit(QJ _ _);rintro e w'⟨rfl,rfl⟩);go_round
   case rel=>
    refine⟨j+1,by omega,by omega,by go_num,?_⟩;have e:=J.o;rw[M.o,Sc.Y2b A]at e;omega
   case measure=>simp[intOf];omega
  .have I:((s.data.toList.drop j).takeWhile Sc.nm).length=0:=by
    by_cases a:j<s.size
    .have A:Sc.nm s[j]=false:=by cases h:Sc.nm s[j]<;>simp_all
     rw[Sc.drop_cons s j a,Sc.Y2a A]
    .rw[YI (i:=j) (by simp;omega)];rfl
   have Q:(s.extract k j).data.toList=(s.data.toList.drop k).takeWhile Sc.nm:=by
    have e:=J.o;rw[Lib.extract_data,show j-k=((s.data.toList.drop k).takeWhile Sc.nm).length from by omega,MB]
   have H:j=k+((s.data.toList.drop k).takeWhile Sc.nm).length:=by have e:=J.o;omega
   have C:=X1 Q;have K:=X1 H;clear I Q H;have n:(∃h:j<s.size,Sc.nm s[j]=false)\/¬j<s.size:=by
    by_cases a:j<s.size
    .left;refine⟨a,?_⟩;cases h:Sc.nm s[j]<;>simp_all
    .exact .inr a
   clear F;have u:(s.extract k j).size=j-k:=by simp;omega
   have X:=X1 u;clear u;cases O:Ug ((s.data.toList.drop k).takeWhile Sc.nm)
   .have g:¬(s.data.toList.drop k).takeWhile Sc.nm∈Sc.words:=by simpa[Ug]using O
    by_cases hl:30<j-k
    .have B:Hid (Sc.Kx (s.data.toList.drop k)=Sc.bad 5):=X1 (by have e:=K.o;unfold Sc.Kx;rw[X6 g,Xa (by omega)]);clear g;rcases n with⟨a,A⟩|a;all_goals
      go_wp2_with(first|(go_at_call 77;go_fit(QJ _ _);rintro e w'⟨rfl,rfl⟩)|(go_at_call 76;go_fit(I2 _);rintro e y⟨rfl,r,S,d⟩;obtain⟨E,N⟩:=Qd r;rw[Yx]at d)|(go_at_call 75;go_fit(O8 (w.heap.size+1) _ _ _ C.o d);rintro e y⟨rfl,rfl⟩));have m:BL w y:=(bA _).trans (r.mono (by simp));refine Xq (v:= .tuple #[.agg #[.q 0,.t #[],.q 0,.q 0],.q 0,.q 5]) (by simp[results,results52,go_sem,E]) rfl ⟨by rw[Us B.o (by decide)];rfl,?_⟩;exact Zu m (X5 _)
    .have B:Hid (Sc.Kx (s.data.toList.drop k)=⟨0,1,(s.data.toList.drop k).takeWhile Sc.nm,0,j-k⟩):=X1 (by have e:=K.o;unfold Sc.Kx;rw[X6 g,X6 (by omega),show((s.data.toList.drop k).takeWhile Sc.nm).length=j-k from by omega])
     clear g;rcases n with⟨a,A⟩|a;all_goals
      go_wp2_with(first|(go_at_call 77;go_fit(QJ _ _);rintro e w'⟨rfl,rfl⟩)|(go_at_call 76;go_fit(I2 _);rintro e y⟨rfl,r,S,d⟩;obtain⟨E,N⟩:=Qd r;rw[Yx]at d)|(go_at_call 75;go_fit(O8 (w.heap.size+1) _ _ _ C.o d);rintro e y⟨rfl,rfl⟩));have m:BL w y:=(bA _).trans (r.mono (by simp));refine Xq (v:= .tuple #[.agg #[.q 1,.string (s.extract k j),.q 0,.q k],.q j,.q 0]) (by simp[results,results52,go_sem,E]) rfl ⟨by rw[Vg B.o,DY C.o,show(k:Int)+(j-k:Nat)=j from by omega];rfl,?_⟩
      exact Zu m (X5 _)
   .have g:(s.data.toList.drop k).takeWhile Sc.nm∈Sc.words:=by simpa[Ug]using O
    have B:Hid (Sc.Kx (s.data.toList.drop k)=⟨0,2,(s.data.toList.drop k).takeWhile Sc.nm,0,j-k⟩):=X1 (by have e:=K.o;unfold Sc.Kx;rw[Xa g,show((s.data.toList.drop k).takeWhile Sc.nm).length=j-k from by omega])
    clear g;rcases n with⟨a,A⟩|a;all_goals
      go_wp2_with(first|(go_at_call 77;go_fit(QJ _ _);rintro e w'⟨rfl,rfl⟩)|(go_at_call 76;go_fit(I2 _);rintro e y⟨rfl,r,S,d⟩;obtain⟨E,N⟩:=Qd r;rw[Yx]at d)|(go_at_call 75;go_fit(O8 (w.heap.size+1) _ _ _ C.o d);rintro e y⟨rfl,rfl⟩));have m:BL w y:=(bA _).trans (r.mono (by simp));refine Xq (v:= .tuple #[.agg #[.q 2,.string (s.extract k j),.q 0,.q k],.q j,.q 0]) (by simp[results,results52,go_sem,E]) rfl ⟨by rw[Vg B.o,DY C.o,show(k:Int)+(j-k:Nat)=j from by omega];rfl,?_⟩
      exact Zu m (X5 _)
