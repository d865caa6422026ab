import Derived.Test.YtaeafhenpjnhiaaGreatDoorE14
import Derived.Test.YtaeafhenpjnhiaaGreatDoorE05
import Derived.Lib.AppendStr
set_option maxHeartbeats 4000000
set_option maxRecDepth 100000
namespace Go.Proofs.YtaeafhenpjnhiaaGreatDoor
open Tryz Go.RowKit
theorem Xev{b tg tc:Nat}{ts:List Sc.T}{sz:Nat}{s:Pr.Dk}(c1:Pr.SI b tg tc ts sz s)(c0:∀q:Pr.Dk,s.p<q.p->q.p<=ts.length->Pr.SE b tg tc ts sz q)(b9:∀q:Pr.Dk,s.p<q.p->q.p<=ts.length->Pr.SA b tg tc ts sz q):Pr.ST b tg tc ts sz s:=by
 intro v0 w0 X hN;have h0:=X.le;have hm:=X.XP;have b6:=X1 X;have b7:=X1 (Pr.Gr.refl b v0 w0);have b4:=X1 (Pr.Stp.refl h0);clear X;go_enter func113,ntmps113;go_wp2_with fail;go_fit(upc b7 b4 (c1 _ _ b6.o (b4.o.phi h0 hN)));rintro e w1⟨r1,rfl,b1,v1,b2,b3,b5⟩;have HI:=X1 (show ∀r2,Pr.Cv ts sz .Yr r1.1 r2->Pr.Cv ts sz .post s r2 from fun r2 h=>Pr.Cv.post b1.o h);clear b1;go_wp2_with fail;go_loopw[9] (fun _ wr=>∃(q:Pr.Dk) (vq:Value),DK b tg tc ts sz vq q wr/\Pr.Gr b v0 vq w0 wr/\Pr.Stp ts s q 0/\∀r2,Pr.Cv ts sz .Yr q r2->Pr.Cv ts sz .post s r2) (fun _ wr=>Y7 b ts wr)
 case atStart=>exact⟨r1.1,v1,b2.o,b3.o,b5.o.mono (by first|omega|(simp only[XX];omega)),HI.o⟩
 case round=>
  obtain⟨q,c2,U,a1,a3,a2⟩:=hrel;have c3:=U.c3;have g:=X1 U;have F:=X1 a1;have A:=X1 a3;have H:=X1 a2;clear U a1 a3 a2 HI b2 b3 b5;cases y:q.bad
  .rw[y]at c3;cases V:X4 ts sz q [40]
   .cases i1:X4 ts sz q [91]
    .cases i2:X4 ts sz q [46]
     .go_wp2_with fail;go_fit(up F (A.o) (XD g.o [40] #[40] rfl V));rintro e a8⟨rfl,a5,k,n,d⟩;go_wp2_with fail;go_fit(up n (d.o) (XD k.o [91] #[91] rfl i1));rintro e a9⟨rfl,a6,m,r,a⟩;go_wp2_with fail;go_fit(up r (a.o) (XD m.o [46] #[46] rfl i2));rintro e Z⟨rfl,W,j,u,v⟩;go_wp2;refine Xw ?_;exact⟨(q,0),rfl,H.o _ (Pr.Cv.Pc y V i1 i2),W,j.o,u.o⟩
     .go_wp2_with fail;go_fit(up F (A.o) (XD g.o [40] #[40] rfl V));rintro e a8⟨rfl,a5,k,n,d⟩;go_wp2_with fail;go_fit(up n (d.o) (XD k.o [91] #[91] rfl i1));rintro e a9⟨rfl,a6,m,r,a⟩;go_wp2_with fail;go_fit(up r (a.o.adv i2) (YA m.o [46] #[46] rfl i2));rintro e Z⟨rfl,W,j,u,v⟩;have C:=X1 (Pr.Stp.refl v.o.le);go_wp2_with fail;go_fit(up u (v.o.name (sz:=sz)) (Jk j.o));rintro e c5⟨rfl,c4,N,O,I⟩;have K:=X1 (C.o.name (sz:=sz));go_wp2_with fail;go_fit(up O (I.o.put 11 0 0 (Xe ts sz (X2 q)) 1) (Yk N.o (I.o.len h0 hN) 11 0 0 (Xe ts sz (X2 q)) 1));rintro e b0⟨rfl,a7,E,Q,S⟩;have L:=X1 (K.o.put 11 0 0 (Xe ts sz (X2 q)) 1);have HM:=X1 (show Y7 b ts b0<Y7 b ts wr from by rw[E.o.left,g.o.left];have:=L.o.ge;have:=Yb i2;rw[Pr.adv_p]at *;omega)
      go_wp2;go_roundw
      case rel=>exact⟨_,a7,E.o,Q.o,S.o.mono (by first|omega|(simp only[XX];omega)),fun r2 h=>H.o _ (Pr.Cv.LH y V i1 i2 h)⟩
      case measure=>exact HM.o
    .go_wp2_with fail;go_fit(up F (A.o) (XD g.o [40] #[40] rfl V));rintro e a8⟨rfl,a5,k,n,d⟩;go_wp2_with fail;go_fit(up n (d.o.adv i1) (YA k.o [91] #[91] rfl i1));rintro e a9⟨rfl,a6,m,r,a⟩;have B:=X1 (Pr.Stp.refl a.o.le);go_wp2_with fail;go_fit(upc r a (c0 _ (XH (Nat.lt_succ_of_le A.o.ge) B.o.ge) a.o.le _ _ m.o (a.o.phi h0 hN)));rintro e Z⟨c7,rfl,a0,W,j,u,v⟩;have C:=X1 (B.o.trans (a0.o.stp B.o.le));go_wp2_with fail;go_fit(up u (v.o.X7 (sz:=sz) [93]) (XW j.o [93] #[93] rfl));rintro e c5⟨rfl,c4,N,O,I⟩;have K:=X1 (C.o.X7 (sz:=sz) [93]);go_wp2_with fail;go_fit(up O (I.o.put 10 0 0 [] 2) (Yk N.o (I.o.len h0 hN) 10 0 0 [] 2));rintro e b0⟨rfl,a7,E,Q,S⟩;have L:=X1 (K.o.put 10 0 0 [] 2);have HM:=X1 (show Y7 b ts b0<Y7 b ts wr from by rw[E.o.left,g.o.left];have:=L.o.ge;have:=Yb i1;rw[Pr.adv_p]at *;omega)
     go_wp2;go_roundw
     case rel=>exact⟨_,a7,E.o,Q.o,S.o.mono (by first|omega|(simp only[XX];omega)),fun r2 h=>H.o _ (Pr.Cv.LI y V i1 a0.o h)⟩
     case measure=>exact HM.o
   .go_wp2_with fail;go_fit(up F (A.o.adv V) (YA g.o [40] #[40] rfl V));rintro e a8⟨rfl,a5,k,n,d⟩;have J:=X1 (Pr.Stp.refl d.o.le);go_wp2_with fail;go_fit(upc n d (b9 _ (XH (Nat.lt_succ_of_le A.o.ge) J.o.ge) d.o.le _ _ k.o (d.o.phi h0 hN)));rintro e a9⟨a4,rfl,M,a6,m,r,a⟩;have B:=X1 (J.o.trans (M.o.stp J.o.le));have b8:=M.o.num rfl (Yb V);have c6:=a.o.le;simp only[Zf]at b8;unfold Qa;go_wp2_with fail;go_fit(up r (a.o.put 12 0 0 [] (1+a4.2)) (Yk m.o (a.o.len h0 hN) 12 0 0 [] (1+a4.2)));rintro e Z⟨rfl,W,j,u,v⟩;have C:=X1 (B.o.put 12 0 0 [] (1+a4.2));have HM:=X1 (show Y7 b ts Z<Y7 b ts wr from by rw[j.o.left,g.o.left];have:=C.o.ge;have:=Yb V;rw[Pr.adv_p]at *;omega)
    go_wp2;go_roundw
    case rel=>exact⟨_,W,j.o,u.o,v.o.mono (by first|omega|(simp only[XX];omega)),fun r2 h=>H.o _ (Pr.Cv.GH y V M.o h)⟩
    case measure=>exact HM.o
  .rw[y]at c3;go_wp2;refine Xw ?_;exact⟨(q,0),rfl,H.o _ (Pr.Cv.Cf y),c2,g.o,F.o⟩
theorem DK.Wg{b d tc:Nat}{ts:List Sc.T}{sz:Nat}{v:Value}{s:Pr.Dk}{w:World}(h:DK b d tc ts sz v s w)(a:s.p+1<ts.length):w.c d ((s.p+1)*4)=some (.q (X3 ts sz (X2 s)).kind)/\w.c d ((s.p+1)*4+1)=some (.string ⟨(X3 ts sz (X2 s)).text.toArray⟩):=by
 have e:X3 ts sz (X2 s)=ts[s.p+1]:=by unfold X3;rw[Pr.adv_p,K0 a];rfl
 rw[e];exact⟨(h.ks _ a).1,(h.ks _ a).2.1⟩
def Dw(w:World)(r:Bool)(e:Ending)(w':World):Prop:=e= .returned (.bool r)/\Below w.heap.size w w'
theorem Xal{b a tc:Nat}{ts:List Sc.T}{sz:Nat}{v:Value}{s:Pr.Dk}{w:World}(h:DK b a tc ts sz v s w)(A:((X3 ts sz s).kind:Int)=1)(k:s.p+1<ts.length)(g:((X3 ts sz (X2 s)).kind:Int)=5): Calls prog 148 #[.p b] w (Dw w ((X3 ts sz (X2 s)).text==[61])):=by
 haveI hne:Nonempty (KB w):=⟨⟨_,X8 _ _⟩⟩;have hm:=h.XP;have B:=h.le;have m:(0:Int)<=(s.p:Int)+1:=by omega
 have C:(s.p:Int)+1<ts.length:=by omega
 have r:Hid (∀j,BL w j->CB 58 #[.p b] j (.agg #[.q 1,.string ⟨(X3 ts sz s).text.toArray⟩,.q (X3 ts sz s).n,.q (X3 ts sz s).place])):=X1 (fun j u=>by
  have:=QP (h.below u);unfold XB at this;rw[A]at this;exact this)
 have y:=U6 1 (X3 ts sz s).n (X3 ts sz s).place ⟨(X3 ts sz s).text.toArray⟩;have E:∀q:KB w,q.w.c b 0=some (.l a ts.length tc):=fun q=>(h.below q.below).c0;have F:∀q:KB w,q.w.c b 2=some (.q s.p):=fun q=>(h.below q.below).c2;have H:∀q:KB w,q.w.c a ((s.p+1)*4)=some (.q 5):=fun q=>by have:=((h.below q.below).Wg (sz:=sz) k).1;rw[g]at this;exact this
 have I:∀q:KB w,q.w.c a ((s.p+1)*4+1)=some (.string ⟨(X3 ts sz (X2 s)).text.toArray⟩):=fun q=>((h.below q.below).Wg (sz:=sz) k).2;clear h;go_enter func148,ntmps148;go_wp2_with fail;refine Z2 (KB.w (w:=w)) (by kernel_rfl) (by kernel_rfl) ⟨⟨_,below_drewN (X8 _ _) _⟩,rfl⟩ ?_;repeat(go_big_quiet_step ((go_at_call 58;exact Kw r.o _)))
 refine wpQuiet_nil ?_;rintro _⟨q,rfl⟩;have d:=q.below;go_wp2;go_ret;refine⟨?_,d⟩;first|rfl|simp[Js]
theorem Xak{b d tc:Nat}{ts:List Sc.T}{sz:Nat}{v:Value}{s:Pr.Dk}{w:World}(h:DK b d tc ts sz v s w)(C:((X3 ts sz s).kind:Int)=1)(r:s.p+1<ts.length)(a:¬((X3 ts sz (X2 s)).kind:Int)=5): Calls prog 148 #[.p b] w (Dw w false):=by
 haveI hne:Nonempty (KB w):=⟨⟨_,X8 _ _⟩⟩;have hm:=h.XP;have E:=h.le;have m:decide (((X3 ts sz (X2 s)).kind:Int)=5)=false:=by simpa using a
 have k:(((X3 ts sz (X2 s)).kind:Int)==5)=false:=by simpa using a
 have u:(0:Int)<=(s.p:Int)+1:=by omega
 have F:(s.p:Int)+1<ts.length:=by omega
 have y:Hid (∀j,BL w j->CB 58 #[.p b] j (.agg #[.q 1,.string ⟨(X3 ts sz s).text.toArray⟩,.q (X3 ts sz s).n,.q (X3 ts sz s).place])):=X1 (fun j A=>by
  have:=QP (h.below A);unfold XB at this;rw[C]at this;exact this)
 have B:=U6 1 (X3 ts sz s).n (X3 ts sz s).place ⟨(X3 ts sz s).text.toArray⟩;have H:∀q:KB w,q.w.c b 0=some (.l d ts.length tc):=fun q=>(h.below q.below).c0;have I:∀q:KB w,q.w.c b 2=some (.q s.p):=fun q=>(h.below q.below).c2;have J:∀q:KB w,q.w.c d ((s.p+1)*4)=some (.q ((X3 ts sz (X2 s)).kind:Nat)):=fun q=>by have:=((h.below q.below).Wg (sz:=sz) r).1;exact this
 have K:∀q:KB w,q.w.c d ((s.p+1)*4+1)=some (.string ⟨(X3 ts sz (X2 s)).text.toArray⟩):=fun q=>((h.below q.below).Wg (sz:=sz) r).2;clear h;go_enter func148,ntmps148;go_wp2_with fail;refine Z2 (KB.w (w:=w)) (by kernel_rfl) (by kernel_rfl) ⟨⟨_,below_drewN (X8 _ _) _⟩,rfl⟩ ?_;repeat(go_big_quiet_step ((go_at_call 58;exact Kw y.o _)))
 refine wpQuiet_nil ?_;rintro _⟨q,rfl⟩;have g:=q.below;go_wp2;go_ret;refine⟨?_,g⟩;first|rfl|simp[Js]
theorem Xaj{b j tc:Nat}{ts:List Sc.T}{sz:Nat}{v:Value}{s:Pr.Dk}{w:World}(h:DK b j tc ts sz v s w)(u:((X3 ts sz s).kind:Int)=1)(E:¬s.p+1<ts.length): Calls prog 148 #[.p b] w (Dw w false):=by
 haveI hne:Nonempty (KB w):=⟨⟨_,X8 _ _⟩⟩;have hm:=h.XP;have y:=h.le;have d:¬(s.p:Int)+1<ts.length:=by omega
 have A:decide ((s.p:Int)+1<ts.length)=false:=by simpa using d
 have k:Hid (∀g,BL w g->CB 58 #[.p b] g (.agg #[.q 1,.string ⟨(X3 ts sz s).text.toArray⟩,.q (X3 ts sz s).n,.q (X3 ts sz s).place])):=X1 (fun g m=>by
  have:=QP (h.below m);unfold XB at this;rw[u]at this;exact this)
 have r:=U6 1 (X3 ts sz s).n (X3 ts sz s).place ⟨(X3 ts sz s).text.toArray⟩;have B:∀q:KB w,q.w.c b 0=some (.l j ts.length tc):=fun q=>(h.below q.below).c0;have C:∀q:KB w,q.w.c b 2=some (.q s.p):=fun q=>(h.below q.below).c2;clear h;go_enter func148,ntmps148;go_wp2_with fail;refine Z2 (KB.w (w:=w)) (by kernel_rfl) (by kernel_rfl) ⟨⟨_,below_drewN (X8 _ _) _⟩,rfl⟩ ?_;repeat(go_big_quiet_step ((go_at_call 58;exact Kw k.o _)))
 refine wpQuiet_nil ?_;rintro _⟨q,rfl⟩;have a:=q.below;go_wp2;go_ret;refine⟨?_,a⟩;first|rfl|simp[Js]
theorem Xai{b A tc:Nat}{ts:List Sc.T}{sz:Nat}{v:Value}{s:Pr.Dk}{w:World}(h:DK b A tc ts sz v s w)(g:¬((X3 ts sz s).kind:Int)=1): Calls prog 148 #[.p b] w (Dw w false):=by
 haveI hne:Nonempty (KB w):=⟨⟨_,X8 _ _⟩⟩;have hm:=h.XP;have y:=h.le;have u:decide (((X3 ts sz s).kind:Int)=1)=false:=by simpa using g
 have r:(((X3 ts sz s).kind:Int)==1)=false:=by simpa using g
 have j:Hid (∀d,BL w d->CB 58 #[.p b] d (.agg #[.q ((X3 ts sz s).kind:Nat),.string ⟨(X3 ts sz s).text.toArray⟩,.q (X3 ts sz s).n,.q (X3 ts sz s).place])):=X1 (fun d k=>by
  have:=QP (h.below k);unfold XB at this;exact this)
 have m:=U6 ((X3 ts sz s).kind:Nat) (X3 ts sz s).n (X3 ts sz s).place ⟨(X3 ts sz s).text.toArray⟩;clear h;go_enter func148,ntmps148;go_wp2_with fail;refine Z2 (KB.w (w:=w)) (by kernel_rfl) (by kernel_rfl) ⟨⟨_,below_drewN (X8 _ _) _⟩,rfl⟩ ?_;repeat(go_big_quiet_step ((go_at_call 58;exact Kw j.o _)))
 refine wpQuiet_nil ?_;rintro _⟨q,rfl⟩;have a:=q.below;go_wp2;go_ret;refine⟨?_,a⟩;first|rfl|simp[Js]
theorem Xam{b j tc:Nat}{ts:List Sc.T}{sz:Nat}{v:Value}{s:Pr.Dk}{w:World}(h:DK b j tc ts sz v s w): Calls prog 148 #[.p b] w (Dw w (Yl ts sz s)):=by
 by_cases d:(X3 ts sz s).kind=1
 .by_cases a:s.p+1<ts.length
  .by_cases g:(X3 ts sz (X2 s)).kind=5
   .have e:Yl ts sz s=((X3 ts sz (X2 s)).text==[61]):=by unfold Yl;simp[d,a,g]
    rw[e];exact Xal h (by omega) a (by omega)
   .have e:Yl ts sz s=false:=by unfold Yl;simp[g]
    rw[e];exact Xak h (by omega) a (by omega)
  .have e:Yl ts sz s=false:=by unfold Yl;simp[a]
   rw[e];exact Xaj h (by omega) a
 .have e:Yl ts sz s=false:=by unfold Yl;simp[d]
  rw[e];exact Xai h (by omega)
structure Ink (w:World) (pb tg tc kg kc:Nat) (ns:List Nd) (ks:List (List Nat)):Prop where
 pl:pb<w.heap.size
 c0:w.cell? ⟨pb,0,none⟩=some (.l tg ns.length tc)
 c1:w.cell? ⟨pb,1,none⟩=some (.l kg ks.length kc)
 nodes:K1 w tg ns
 kl:kg<w.heap.size
 rows:∀k (h:k<ks.length),∃g c,w.cell? ⟨kg,k,none⟩=some (.l g (ks[k]).length c)/\YZ w g 0 ks[k]/\(ks[k]).length<=c
theorem Ink.below{w w':World}{pb tg tc kg kc:Nat}{ns:List Nd}{ks:List (List Nat)}(h:Ink w pb tg tc kg kc ns ks)(j:BL w w'):Ink w' pb tg tc kg kc ns ks:=by
 refine⟨XH h.pl j.size,(j.cell (p:=⟨pb,0,none⟩) h.pl).trans h.c0,(j.cell (p:=⟨pb,1,none⟩) h.pl).trans h.c1,h.nodes.below j,XH h.kl j.size,fun k m=>?_⟩;obtain⟨g,c,a,b,d⟩:=h.rows k m;exact⟨g,c,(j.cell (p:=⟨kg,k,none⟩) h.kl).trans a,b.below j,d⟩
def Xk(w0:World)(f:FuncId)(args:Array Value)(S:ByteArray):Prop:=∀w,Below w0.heap.size w0 w->Calls prog f args w fun e w'=>e= .returned (.string S)/\Below w.heap.size w w'
theorem Xk.below{w0 d:World}{f:FuncId}{args:Array Value}{S:ByteArray}(h:Xk w0 f args S)(a:BL w0 d):Xk d f args S:=fun w g=>h w (a.trans (g.mono a.size))
theorem Xk.kb{w0 d:World}{f:FuncId}{args:Array Value}{S:ByteArray}(h:Xk w0 f args S)(g:BL w0 d)(q:KB d): Calls prog f args q.w fun e a=>e= .returned (.string S)/\∃q':KB d,a=q'.w:=Kw (h.below g) q
theorem Yo(a b:ByteArray):(a++b).size=a.size+b.size:=KA
variable (w0:World) (pb tg tc kg kc:Nat) (ns:List Nd) (ks:List (List Nat))
theorem sz2:(⟨#[44,32]⟩:ByteArray).size=2:=rfl
def QY(f:Nat->List UInt8)(ls:List Nat):Nat->List UInt8
 | 0=>[]
 | i+1=>QY f ls i++(if i=0 then[]else[44,32])++f (ls[i]?.getD 0)
theorem SK{w:World}{base:Nat}{v:Value}{t:List UInt8}(h:w.ownsRow base 5 1 v t.length (Y6 t))(a:v≠ .slice none 0 0): ∃g cap,v= .l g t.length cap:=by
 rcases h.2 with⟨e,_⟩|⟨g,cap,_,e,_⟩
 .exact absurd e a
 .exact⟨g,cap,e⟩
theorem PQ(S:ByteArray):Lib.strCells S=Y6 S.data.toList:=by simp[Lib.strCells,Y6]
theorem Iz{w W n:World}{g cap:Nat}{t:List UInt8}{S:ByteArray}{v':Value}(j:W.ownsRow w.heap.size 5 1 (.l g t.length cap) t.length (Y6 t))(r:BL w W)(a:n.ownsRow w.heap.size 5 1 v' (t.length+S.size) (Y6 t++Lib.strCells S))(u:W.grownBy n (Value.l g t.length cap).ownBlock)(v:¬v'= .slice none 0 0): ∃m d,v'= .l m (t++S.data.toList).length d/\n.ownsRow w.heap.size 5 1 (.l m (t++S.data.toList).length d) (t++S.data.toList).length (Y6 (t++S.data.toList))/\Below w.heap.size w n:=by
 have e:S.size=S.data.toList.length:=Array.length_toList.symm;have s:t.length+S.size=(t++S.data.toList).length:=by rw[Xj,e]
 rw[s,PQ,←DF]at a;obtain⟨m,d,rfl⟩:=SK a v;exact⟨m,d,rfl,a,r.grown u r.size (fun k e=>(j.lt k e).1)⟩
theorem X3v(f:Nat->ByteArray)(ls:List Nat)(g o c:Nat)(hl:ls.length<=5000)(hi:YZ w0 g o ls)(hm:∀y∈ls,(f y).size<=20000000)(hT:∀i≤ls.length,(QY (fun y=>(f y).data.toList) ls i).length<=40000000)(hS:∀y∈ls,Xk w0 18 #[.p pb,.q y] (f y)): Xk w0 46 #[.p pb,.slice (some ⟨g,o,none⟩) ls.length c] ⟨(QY (fun y=>(f y).data.toList) ls ls.length).toArray⟩:=by
 intro w S;obtain⟨i0,H,J,K,L⟩:=YK WQ;have HS:=X1 hS;have HM:=X1 hm;have HT:=X1 hT;have C:=X1 (fun W (hb:BL w W)=>hi.below (S.trans (hb.mono S.size)));have HW:=X1 (fun W (hb:BL w W)=>S.trans (hb.mono S.size));clear hS hm hT hi S;go_enter func46,ntmps46;go_wp2;go_loopw[5,6] (fun v i wr=>∃(j gt cap:Nat) (t:List UInt8),j<=ls.length/\i= .q j/\v= .l gt t.length cap/\wr.ownsRow w.heap.size 5 1 (.l gt t.length cap) t.length (Y6 t)/\BL w wr/\t=QY (fun y=>(f y).data.toList) ls j) (fun _ i _=>ls.length-(intOf i).toNat)
 case atStart=>
  exact⟨0,w.heap.size,0,[],Xb _,rfl,rfl,Y4 w #[] 0 (X5 _) (by decide) rfl,bA _,rfl⟩
 case round=>
  obtain⟨j,gt,cap,t,hj,rfl,rfl,a,s,he⟩:=hrel;have HE:=X1 he;have a8:t.length<=40000000:=by rw[he];exact HT.o j hj
  clear he;by_cases u:j<ls.length
  .have m:ls[j]∈ls:=YJ u;have a1:=HM.o _ m;have Z:=X1 (HS.o _ m);have HJ:Hid (QY (fun y=>(f y).data.toList) ls (j+1)=QY (fun y=>(f y).data.toList) ls j++(if j=0 then[]else[44,32])++(f ls[j]).data.toList):=X1 (by rw[QY];simp[u]);obtain⟨y,hy⟩:∃y,ls[j]=y:=⟨_,rfl⟩;rw[hy]at a1 Z HJ;clear m;by_cases N:j=0
   .subst N;have a5:=X1 (C.o wr s);have ci:=C.o wr s;have V:=ci.2 0 u;rw[hy]at V;simp only[Vy]at V;clear ci;have B:=X1 (Z.o wr (HW.o wr s));go_wp2_with fail;go_fit B.o;rintro e w1⟨rfl,F⟩;have E:=U3 a F;have A:=s.trans (F.mono s.size);clear a F;go_wp2_with(at_builtin;refine Lib.wpList_append_own_string _ rfl _ _ 22 9 rfl w.heap.size 5 i0 underlying22 underlying9 H J K L _ _ _ rfl E (f y) rfl (by unfold maxLen;omega) (by omega) A.size ?_);intro v4 w4 r k n;obtain⟨g6,d,rfl,O6,X⟩:=Iz E A r k n;clear r k E A n;go_wp2;go_roundw
    case rel=>exact⟨1,g6,d,_,by omega,by go_num,rfl,O6,X,by rw[HJ.o,HE.o];simp⟩
    case measure=>simp[intOf];omega
   .have a7:(0:Int)<(j:Int):=by omega
    go_wp2_with(at_builtin;refine Lib.wpList_append_own_string _ rfl _ _ 22 9 rfl w.heap.size 5 i0 underlying22 underlying9 H J K L _ _ _ rfl a ⟨#[44,32]⟩ rfl (by unfold maxLen;rw[sz2];omega) (by rw[sz2];omega) s.size ?_);intro v3 w3 Q M O;obtain⟨g5,a4,rfl,O5,U⟩:=Iz a s Q M O;clear Q M a s O;have a3:(t++(⟨#[44,32]⟩:ByteArray).data.toList).length<=40000002:=by rw[Xj];have:(⟨#[44,32]⟩:ByteArray).data.toList.length=2:=rfl;omega
    obtain⟨t5,I⟩:∃t5,t5=t++(⟨#[44,32]⟩:ByteArray).data.toList:=⟨_,rfl⟩;rw[←I]at O5 a3⊢;have a0:=X1 I;clear I;have V:=(C.o w3 U).2 j u;rw[hy]at V;have B:=X1 (Z.o w3 (HW.o w3 U));go_wp2_with fail;go_fit B.o;rintro e w1⟨rfl,F⟩;have E:=U3 O5 F;have A:=U.trans (F.mono U.size);clear O5 F;go_wp2_with(at_builtin;refine Lib.wpList_append_own_string _ rfl _ _ 22 9 rfl w.heap.size 5 i0 underlying22 underlying9 H J K L _ _ _ rfl E (f y) rfl (by unfold maxLen;omega) (by omega) A.size ?_);intro v4 w4 r k n;obtain⟨g6,d,rfl,O6,X⟩:=Iz E A r k n;clear r k E A n;go_wp2;go_roundw
    case rel=>exact⟨j+1,g6,d,_,by omega,by go_num,rfl,O6,X,by rw[HJ.o,a0.o,HE.o,X6 N]⟩
    case measure=>simp[intOf];omega
  .have a2:j=ls.length:=by omega
   subst a2;have a6:=WH a;go_wp2;go_ret;exact⟨by have e:=HE.o;subst e;rfl,s⟩
theorem Zm(w:World)(x:Nd):(w.z #[.q x.kind,.q x.op,.q x.n,.string x.text,.q x.kids] 64).c w.heap.size 0=some (.q x.kind)/\(w.z #[.q x.kind,.q x.op,.q x.n,.string x.text,.q x.kids] 64).c w.heap.size 1=some (.q x.op)/\(w.z #[.q x.kind,.q x.op,.q x.n,.string x.text,.q x.kids] 64).c w.heap.size 2=some (.q x.n)/\(w.z #[.q x.kind,.q x.op,.q x.n,.string x.text,.q x.kids] 64).c w.heap.size 3=some (.string x.text):=by simp
def QW(f:Nat->List UInt8)(ls:List Nat):Nat->List UInt8
 | 0=>[]
 | i+1=>QW f ls i++f (ls[i]?.getD 0)
theorem Cq(s:ByteArray)(h:s.size<=1000):(⟨(Y3 s.data.toList).toArray⟩:ByteArray).size<=4000:=by
 have a:∀l:List UInt8,(l.flatMap ZL).length<=3*l.length:=by
  intro l;induction l with
  | nil=>simp
  | cons b r d=>have:=Sb b;rw[JH,Xj,XI];omega
 have e:s.data.toList.length=s.size:=JG;have:=a s.data.toList;show(Y3 s.data.toList).toArray.size<=4000;rw[List.size_toArray];unfold Y3;rw[XI,Xj];simp only[XI,Ya];omega
theorem AU{w:World}{g o:Nat}{l r:List Nat}(h:YZ w g o (l++r)):YZ w g o l:=⟨h.1,fun j a=>by
 have:=h.2 j (by rw[Xj];omega)
 rw[I6 a]at this
 exact this⟩
theorem OE(op:Nat):(⟨(JN op).toArray⟩:ByteArray).size<=3:=by
 have h:∀l∈Tr.marks,l.length<=3:=by decide
 show(JN op).toArray.size<=3;rw[List.size_toArray];unfold JN;cases hm:Tr.marks[op]? with
 | none=>simp
 | some l=>exact h l (Rr hm)
variable (w0:World) (pb:Nat)
theorem X3u(kd j d:Int)(txt:ByteArray)(op:Nat)(a b g c:Nat)(S T:ByteArray)(y:op<15)(hi:YZ w0 g 0 [a,b])(hs:S.size<=40000000)(ht:T.size<=40000000)(E:Xk w0 44 #[.p pb,.q a,.q (if KS op=4 then 5 else KS op)] S)(F:Xk w0 44 #[.p pb,.q b,.q (KS op+1)] T): Xk w0 45 #[.p pb,.agg #[.q kd,.q (op:Int),.q j,.string txt,.q d],.l g 2 c] (S++⟨#[32]⟩++⟨(JN op).toArray⟩++⟨#[32]⟩++T):=by
 intro w A;have I:(⟨(JN op).toArray⟩:ByteArray).size<=3:=OE op;obtain⟨L,N,O,Q⟩:=Zm w ⟨kd,(op:Int),j,txt,d⟩;have r1:BL w (w.z #[.q kd,.q (op:Int),.q j,.string txt,.q d] 64):=bA _;have m:=A.trans (r1.mono A.size);have n:=X1 (fun q:KB (w.z #[.q kd,.q (op:Int),.q j,.string txt,.q d] 64)=>hi.below (m.trans (q.below.mono m.size)));have k:=X1 (fun q=>Xk.kb E m q);have s:=X1 (fun q=>Xk.kb F m q);have u:=X1 (fun q:KB (w.z #[.q kd,.q (op:Int),.q j,.string txt,.q d] 64)=>Kw (fun K _=>X9n op K y) q);have r:=X1 (fun W=>Ct (op:Int) W);have Z:∀q:KB (w.z #[.q kd,.q (op:Int),.q j,.string txt,.q d] 64),q.w.c w.heap.size 1=some (.q op):=fun q=>(q.below.cell (p:=⟨w.heap.size,1,none⟩) (by simp)).trans N;have V:∀q:KB (w.z #[.q kd,.q (op:Int),.q j,.string txt,.q d] 64),q.w.c g 0=some (.q a):=fun q=>(n.o q).2 0 (Nat.zero_lt_succ _);have X:∀q:KB (w.z #[.q kd,.q (op:Int),.q j,.string txt,.q d] 64),q.w.c g 1=some (.q b):=fun q=>(n.o q).2 1 (Q9 _);have B:=X1 (fun q:KB (w.z #[.q kd,.q (op:Int),.q j,.string txt,.q d] 64)=>r1.trans (q.below.mono r1.size));haveI hne:Nonempty (KB (w.z #[.q kd,.q (op:Int),.q j,.string txt,.q d] 64)):=⟨⟨_,X8 _ _⟩⟩;clear r1 hi E F A m L O Q n;generalize(⟨(JN op).toArray⟩:ByteArray)=M at *;obtain⟨rk,v⟩:∃rk,KS op=rk:=⟨_,rfl⟩;have H:0<=rk/\rk<=9:=by rw[←v];unfold KS;split<;>(try split)<;>(try split)<;>omega
 rw[v]at k s r;have U:IntKind.i64.wrap (rk+1)=rk+1:=by rw[Yp];omega
 cases C:(rk==4)
 .rw[X6 (by simpa using C)]at k;go_enter func45,ntmps45;go_wp2_with fail;go_fit(r.o _);rintro e J⟨rfl,rfl⟩;go_wp2_with fail;refine Z2 (KB.w (w:=(w.z #[.q kd,.q (op:Int),.q j,.string txt,.q d] 64))) (by kernel_rfl) (by kernel_rfl) ⟨⟨_,(X8 _ _).drew⟩,rfl⟩ ?_;repeat(go_big_quiet_step (first
   | (go_at_call 44;first|with_reducible exact k.o _|with_reducible exact s.o _)
   | (go_at_call 73;exact u.o _)))
  refine wpQuiet_nil ?_;rintro _⟨q,rfl⟩;go_wp2;go_ret;exact⟨rfl,B.o q⟩
 .rw[Xa (by simpa using C)]at k;go_enter func45,ntmps45;go_wp2_with fail;go_fit(r.o _);rintro e J⟨rfl,rfl⟩;go_wp2_with fail;refine Z2 (KB.w (w:=(w.z #[.q kd,.q (op:Int),.q j,.string txt,.q d] 64))) (by kernel_rfl) (by kernel_rfl) ⟨⟨_,(X8 _ _).drew⟩,rfl⟩ ?_;repeat(go_big_quiet_step (first
   | (go_at_call 44;first|with_reducible exact k.o _|with_reducible exact s.o _)
   | (go_at_call 73;exact u.o _)))
  refine wpQuiet_nil ?_;rintro _⟨q,rfl⟩;go_wp2;go_ret;exact⟨rfl,B.o q⟩
def XY(ns:List Nd)(hs:List Nat)(x:Nat):Gr:=⟨ns[x]?.getD ⟨0,0,0,⟨#[]⟩,0⟩,hs[x]?.getD 0⟩
theorem MD(ns:List Nd)(a:List Nat)(x:Nat):(XY ns a x).nd.kind=QC ns x:=by
 unfold XY QC;cases h:ns[x]? <;> simp
theorem N7(ns:List Nd)(a:List Nat)(ls:List Nat)(h:Nat):Zs (ls.map (XY ns a)) h=YU a ls h:=by
 induction ls generalizing h with
 | nil=>rfl
 | cons x r d=>simp only[Y5,Zs,YU];rw[d];rfl
theorem DD(ns:List Nd)(j:List Nat)(a b:Int)(ls:List Nat)(p:Int->Bool)(g:∀k,p k=(decide (a<=k)&&decide (k<=b))):Yg a b (ls.map (XY ns j))=XS ns p ls:=by
 induction ls with
 | nil=>rfl
 | cons x r d=>
  simp only[Yg,Y5,List.all_cons,XS]at d⊢;rw[d,MD,g]
theorem FK(ns:List Nd)(ls:List Nat):XS ns (fun k=>Xs k 1 16) ls=decide (Yu ns ls=ls.length):=by
 induction ls with
 | nil=>rfl
 | cons x r g=>
  have j:=UG ns r;rw[YH,J2];have a:XS ns (fun k=>Xs k 1 16) (x::r)=(Z1 ns x&&XS ns (fun k=>Xs k 1 16) r):=rfl;have d:Yu ns (x::r)=(if Z1 ns x=true then 1 else 0)+Yu ns r:=rfl;rw[a,d,g,XI,XE,J2];by_cases h:Z1 ns x=true
  .rw[Xa h];simp only[h,I0];omega
  .rw[X6 h];simp only[h,Jq,false_and,false_iff];omega
theorem DI(k a b:Int):Xs k a b=(decide (a<=k)&&decide (k<=b)):=by unfold Xs;rw[YH];simp
theorem FO(ns:List Nd)(a:List Nat)(ls:List Nat):Yg 1 16 (ls.map (XY ns a))=decide (Yu ns ls=ls.length):=by
 rw[DD ns a 1 16 ls (fun k=>Xs k 1 16) (fun k=>DI k 1 16),FK]
theorem Is(ns:List Nd)(d:List Nat)(a:Int)(ls:List Nat):Yg a a (ls.map (XY ns d))=XS ns (fun k=>k==a) ls:=DD ns d a a ls _ fun k=>by rw[YH];simp;omega
theorem S2(ns:List Nd)(n:List Nat)(ls:List Nat)(g:∀x∈ls,x<ns.length):QX (ls.map (XY ns n))=Je ns ls:=by
 unfold QX Je;rw[YH,J2,J2,I7,Rs,Rt,List.pairwise_iff_getElem];have a:∀i (h:i<ls.length),ns[ls[i]]?.map (·.text)=some (XY ns n ls[i]).nd.text:=by
  intro i h;have:=g _ (YJ h);simp[XY,this]
 constructor
 .intro h i hi k r e;rw[a i hi,a k (by omega)]at e;exact h k i (by omega) hi r (Zq e)
 .intro h i j hi m d e;refine h j m i d ?_;rw[a j m,a i hi];exact Yt some e
theorem S4(ns:List Nd)(ls:List Nat):Z8 ns ls<=ls.length:=by
 induction ls with
 | nil=>exact X5 _
 | cons x r a=>simp only[Z8,XI];split<;>omega
theorem Hb(ns:List Nd)(ls:List Nat):XS ns (fun k=>Xs k 1 16) (ls.take (Z8 ns ls))=true:=by
 induction ls with
 | nil=>rfl
 | cons x r d=>
  simp only[Z8];by_cases h:Z1 ns x=true
  .rw[Xa h,V4,Jc,XS,d];have a:Xs (QC ns x) 1 16=true:=h;rw[a];rfl
  .rw[X6 h];rfl
theorem H7(ns:List Nd)(ls:List Nat)(p:Nat)(a:p<=ls.length)(d:XS ns (fun k=>Xs k 1 16) (ls.take p)=true)(g:XS ns (fun k=>k==18) (ls.drop p)=true):Z8 ns ls=p:=by
 induction ls generalizing p with
 | nil=>simp at a;subst a;rfl
 | cons x r m=>
  match p,a with
  | 0,_=>
   simp only[Kh,XS,XE,Ql]at g;have:Z1 ns x=false:=by unfold Z1;rw[g.1];rfl
   simp[Z8,this]
  | p+1,a=>
   simp only[Jc,XS,XE]at d;have j:Z1 ns x=true:=d.1;have:=m p (by simpa using a) d.2 (by simpa using g);simp[Z8,j,this];omega
theorem No(ns:List Nd)(a:List Nat)(ls:List Nat):((ls.map (XY ns a)).takeWhile fun g=>g.nd.kind !=18).length=(ls.takeWhile fun x=>QC ns x !=18).length:=by
 induction ls with
 | nil=>rfl
 | cons x r d=>
  simp only[Y5,V2,MD];cases(QC ns x !=18)
  .rfl
  .simp[d]
theorem Nn(ns:List Nd)(ls:List Nat)(p:Nat)(a:p<=ls.length)(d:XS ns (fun k=>Xs k 1 16) (ls.take p)=true)(g:XS ns (fun k=>k==18) (ls.drop p)=true):(ls.takeWhile fun x=>QC ns x !=18).length=p:=by
 induction ls generalizing p with
 | nil=>simp at a;subst a;rfl
 | cons x r m=>
  match p,a with
  | 0,_=>
   simp only[Kh,XS,XE,Ql]at g;simp[g.1]
  | p+1,a=>
   simp only[Jc,XS,XE]at d;have:=m p (by simpa using a) d.2 (by simpa using g);have j:(QC ns x !=18)=true:=by
    have:=KP d.1;rw[bne_iff_ne];omega
   simp[j,this]
theorem FQ(ns:List Nd)(d:List Nat)(ls:List Nat)(m:∀x∈ls,x<ns.length)(s:1<=ls.length): (Yg 1 16 ((ls.map (XY ns d)).take (KR (ls.map (XY ns d))))&&Yg 18 18 ((ls.map (XY ns d)).drop (KR (ls.map (XY ns d))))&&QX ((ls.map (XY ns d)).drop (KR (ls.map (XY ns d))))) = (XS ns (fun x=>x==18) (ls.drop (Z8 ns ls))&&decide (1<=(Z8 ns ls:Int))&&Je ns (ls.drop (Z8 ns ls))):=by
 obtain⟨x,r,rfl⟩:∃x r,ls=x::r:=by
  cases ls with
  | nil=>simp at s
  | cons x r=>exact⟨x,r,rfl⟩
 have u:KR ((x::r).map (XY ns d))=1+(r.takeWhile fun x=>QC ns x !=18).length:=by
  unfold KR;rw[Y5,List.drop_one,List.tail_cons,No]
 rw[u,←Uz,←Ud];generalize v:(r.takeWhile fun x=>QC ns x !=18).length=q;have A:q<=r.length:=by rw[←v];exact(List.takeWhile_sublist _).length_le
 rw[DD ns d 1 16 _ (fun k=>Xs k 1 16) (fun k=>DI k 1 16),Is,S2 ns d _ (fun y B=>m y (Q8 B))];rw[YH];simp only[XE,J2];constructor
 .rintro⟨⟨a,b⟩,c⟩;have e:=H7 ns (x::r) (1+q) (by simp;omega) a b;rw[e];exact⟨⟨b,by omega⟩,c⟩
 .rintro⟨⟨a,b⟩,c⟩;have n:=S4 ns (x::r);have g:=Hb ns (x::r);have e:1+q=Z8 ns (x::r):=by
   obtain⟨f,j⟩:∃f,Z8 ns (x::r)=f+1:=⟨Z8 ns (x::r)-1,by omega⟩;rw[j]at g a n;simp only[Jc,XS,XE]at g;have:=Nn ns r f (by simpa using n) g.2 (by simpa using a);omega
  rw[e];exact⟨⟨g,a⟩,c⟩
theorem N5(ns:List Nd)(a:List Nat)(ls:List Nat)(j:1<=ls.length): (Yg 19 19 ((ls.map (XY ns a)).take (ls.length-1))&&Yg 1 16 ((ls.map (XY ns a)).drop (ls.length-1))) = (XS ns (fun x=>x==19) ls.dropLast&&(ls.getLast?.map (Z1 ns)==some true)):=by
 have hne:ls≠[]:=by intro e;simp[e]at j
 have d:ls.take (ls.length-1)=ls.dropLast:=(List.dropLast_eq_take).symm;have g:ls.drop (ls.length-1)=[ls.getLast hne]:=by
  rw[KM (by omega),YI (by omega),List.getLast_eq_getElem]
 rw[←Uz,←Ud,d,g,Is,DD ns a 1 16 _ (fun k=>Xs k 1 16) (fun k=>DI k 1 16),List.getLast?_eq_some_getLast hne];congr 1;simp only[XS,Bool.and_true,UA];unfold Z1;cases Xs (QC ns (ls.getLast hne)) 1 16<;>rfl
theorem N6(ns:List Nd)(a:List Nat)(k:Int)(ls:List Nat)(u:∀x∈ls,x<ns.length):(K5 k ls.length&&YE k (ls.map (XY ns a)))=XU ns k ls:=by
 have L:=UG ns ls;by_cases y:k=9
 .subst y;have c:K5 9 ls.length=decide (0<=(ls.length:Int)/\(ls.length:Int)<=200):=rfl;have f:YE 9 (ls.map (XY ns a))=(Yg 17 17 (ls.map (XY ns a))&&QX (ls.map (XY ns a))):=rfl;have g:XU ns 9 ls=(XS ns (fun x=>x==17) ls&&decide ((ls.length:Int)<=200)&&Je ns ls):=rfl;rw[c,f,g,Is,S2 ns a ls u];rw[YH];simp;grind
 by_cases n:k=12
 .subst n;have c:K5 12 ls.length=decide (1<=(ls.length:Int)/\(ls.length:Int)<=9):=rfl;have g:XU ns 12 ls=(XS ns (fun x=>x==18) (ls.drop (Z8 ns ls))&&decide (1<=(Z8 ns ls:Int))&&decide ((ls.length:Int)-1<=8)&&Je ns (ls.drop (Z8 ns ls))):=rfl;have M:=S4 ns ls;by_cases v:1<=ls.length
  .have q:=FQ ns a ls u v;have f:YE 12 (ls.map (XY ns a))=(Yg 1 16 ((ls.map (XY ns a)).take (KR (ls.map (XY ns a))))&&Yg 18 18 ((ls.map (XY ns a)).drop (KR (ls.map (XY ns a))))&&QX ((ls.map (XY ns a)).drop (KR (ls.map (XY ns a))))):=rfl;rw[c,f,g,q];have m:decide (1<=(ls.length:Int)/\(ls.length:Int)<=9)=decide ((ls.length:Int)-1<=8):=by rw[YH];simp;omega
   rw[m];cases decide ((ls.length:Int)-1<=8)<;>simp
  .have m:decide (1<=(ls.length:Int)/\(ls.length:Int)<=9)=false:=by simp;omega
   have K:decide (1<=(Z8 ns ls:Int))=false:=by simp;omega
   rw[c,g,m,K];simp
 by_cases d:k=15\/k=20
 .have c:K5 k ls.length=decide (1<=(ls.length:Int)/\(ls.length:Int)<=9):=by rcases d with rfl|rfl<;>rfl
  have g:XU ns k ls=(XS ns (fun x=>x==19) ls.dropLast&&(ls.getLast?.map (Z1 ns)==some true)&&decide ((ls.length:Int)-1<=8)):=by rcases d with rfl|rfl<;>rfl
  have f:YE k (ls.map (XY ns a))=(Yg 19 19 ((ls.map (XY ns a)).take ((ls.map (XY ns a)).length-1))&&Yg 1 16 ((ls.map (XY ns a)).drop ((ls.map (XY ns a)).length-1))):=by rcases d with rfl|rfl<;>rfl
  rw[Ju]at f;by_cases v:1<=ls.length
  .rw[c,f,g,N5 ns a ls v];have m:decide (1<=(ls.length:Int)/\(ls.length:Int)<=9)=decide ((ls.length:Int)-1<=8):=by rw[YH];simp;omega
   rw[m];cases decide ((ls.length:Int)-1<=8)<;>simp
  .have m:decide (1<=(ls.length:Int)/\(ls.length:Int)<=9)=false:=by simp;omega
   have J:ls=[]:=Qx (by omega);rw[c,g,m,J];simp
 by_cases r:k=23
 .subst r;have c:K5 23 ls.length=decide (1<=(ls.length:Int)/\(ls.length:Int)<=200):=rfl;have f:YE 23 (ls.map (XY ns a))=Yg 5 5 (ls.map (XY ns a)):=rfl;have g:XU ns 23 ls=(XS ns (fun x=>x==5) ls&&Xs ls.length 1 200):=rfl;rw[c,f,g,Is,DI,Bool.decide_and,Bool.and_comm]
 by_cases s:k=24
 .subst s;have c:K5 24 ls.length=decide (0<=(ls.length:Int)/\(ls.length:Int)<=200):=rfl;have f:YE 24 (ls.map (XY ns a))=Yg 20 23 (ls.map (XY ns a)):=rfl;have g:XU ns 24 ls=(XS ns (fun x=>Xs x 20 23) ls&&decide ((ls.length:Int)<=200)):=rfl;rw[c,f,g,DD ns a 20 23 _ (fun k=>Xs k 20 23) (fun k=>DI k 20 23)];rw[YH];simp;grind
 have f:YE k (ls.map (XY ns a))=decide (Yu ns ls=ls.length):=by
  unfold YE;rw[X6 y,X6 n,X6 d,X6 r,X6 s,FO]
 rw[f];unfold K5 XU;simp only[y,n,r,s,Kl,false_or,J7];have j:=not_or.1 d;simp only[j.1,j.2,Kl,or_self];by_cases A:k=1\/k=2\/k=3\/k=4\/k=5
 .simp only[A,Kv];rw[YH];simp only[XE,J2];omega
 simp only[A,Kl];by_cases B:k=6\/k=11\/k=17\/k=18\/k=21\/k=22
 .simp only[B,Kv];rw[YH];simp only[XE,J2];omega
 simp only[B,Kl];by_cases C:k=7\/k=10\/k=14
 .simp only[C,Kv];rw[YH];simp only[XE,J2];omega
 simp only[C,Kl];by_cases E:k=13
 .simp only[E,Kv];rw[YH];simp only[XE,J2];omega
 simp only[E,Kl];by_cases F:k=16
 .simp only[F,Kv];rw[YH];simp only[XE,J2];omega
 simp only[F,Kl];by_cases H:k=19
 .simp only[H,Kv];rw[YH];simp only[XE,J2];omega
 simp only[H,Kl];by_cases I:k=8
 .simp only[I,Kv];rw[YH];simp only[XE,J2];omega
 simp only[I,Kl];rw[YH];simp only[XE,J2,Jq,iff_false];omega
