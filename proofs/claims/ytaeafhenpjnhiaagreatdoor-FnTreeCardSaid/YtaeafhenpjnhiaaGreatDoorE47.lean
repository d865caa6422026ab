import Derived.Test.YtaeafhenpjnhiaaGreatDoorE46
import Derived.Recover
set_option maxHeartbeats 4000000
set_option maxRecDepth 100000
namespace Go.Proofs.YtaeafhenpjnhiaaGreatDoor
open Tryz Go.RowKit
abbrev Ip.CL(b:Nat)(tp:Option Addr)(tc:Nat)(ts:List Sc.T)(sz r:Nat)(d:Pr.Dk):Prop:=Ip.Jr b tp tc ts sz 109 #[.p b,.q r] (Ip.cmd r) d d
def Ip.ET(b:Nat)(tp:Option Addr)(tc:Nat)(ts:List Sc.T)(sz least:Nat)(s:Pr.Dk)(w:World)(e:Ending)(w':World):Prop:=
 (∃(t:Pr.Dk) (k:Nat) (v:Value) (l:List Nd),e= .returned (.tuple #[v,.q k])/\k<=8/\Ip.Kg ts sz least k s t/\t.bad=false/\t.o=s.o++l/\s.p<=t.p/\IP b tp tc ts sz t.p w'/\Ip.Mv b w w'/\Ip.Pt w.heap.size w' v l)\/
 (∃q,e= .panicked (Ip.stuck q)/\Pr.Ends ts sz (Ip.cmd least) s q/\Ip.Mv b w w')
theorem X2z{b tc sz m:Nat}{tp:Option Addr}{ts:List Sc.T}{s:Pr.Dk}{K:Nat}(S:K<=7)(a:s.bad=false)(a9:m<=s.p)(b1:∀q:Pr.Dk,m<q.p->q.p<=ts.length->q.bad=false->Ip.DE b tp tc ts sz q)(b4:∀r:Nat,r<=7->∀q:Pr.Dk,m<q.p->q.p<=ts.length->q.bad=false->Ip.CL b tp tc ts sz r q): ∀w0,IP b tp tc ts sz s.p w0->Calls prog 125 #[.p b,.q K] w0 (Ip.ET b tp tc ts sz K s w0):=by
 intro w0 b5;have c5:=b5.lt;have c3:=b5.XP;have N:=X1 b5;have V:=X1 (Ip.Mv.refl b w0);have L:=X1 (show m<=(s).p from a9);clear b5;have a1:=N.o.le;by_cases a4:K=0;rotate_left
 .have hz:¬(K:Int)<=0:=by omega
  by_cases a5:K<=3
  .have c2:(K:Int)<=3:=by omega
   cases k:X4 ts sz s Zk
   case true=>
    go_enter func125,ntmps125;go_wp2_with fail;go_fit(upI V (Nat.le_succ_of_le L.o) (ZH (s:=s) N.o Zk #[110,111,116] rfl k));rintro e w1⟨rfl,hm,n,g,F⟩;have H:(X2 s).bad=false:=a;go_wp2_with fail;go_fit(upE (b4 3 (by decide) (X2 s) (Nat.lt_succ_of_le L.o) n.o.le H _ n.o) g F n (g.o.size));rintro e w2 (⟨r1,t1,u1,l1,rfl,A,C,B,hm,u,j,M,a8⟩|⟨q,rfl,hq,hm⟩);rotate_left
    .exact⟨rfl,.inr ⟨_,rfl,Ip.A9 a a5 k hq,g.o.t hm⟩⟩
    have y:=X1 (show Pr.Cv ts sz (.ops 3) (X2 s) r1 from A.o);go_wp2_with fail;go_fit(upM (6) (1) (0) ⟨#[]⟩ 1 (Ip.QO a8.o) rfl u j (j.o.size));rintro e w3⟨rfl,a2,I,E⟩;go_wp2;refine Xq (v:= .tuple #[(Ip.pv ⟨6,1,0,⟨#[]⟩,1⟩ (.l w2.heap.size 1 1)),.q (3:Nat)]) (by simp[results,results125,go_sem]) rfl ?_;exact .inl ⟨X9 r1.1 6 1 0 [] 1,3,_,(l1++[⟨6,1,0,⟨#[]⟩,1⟩]),rfl,by decide,.not a a5 k y.o,C,by simp[X9,B.o],by have:=(y.o.stp n.o.le).ge;simp at this⊢;omega,I.o,E.o,a2.o⟩
   cases d:X4 ts sz s [45]
   case true=>
    go_enter func125,ntmps125;go_wp2_with fail;go_fit(upB V (L.o) (XK (s:=s) N.o a Zk #[110,111,116] rfl k));rintro e w1⟨rfl,hm,n,g,F⟩;go_wp2_with fail;go_fit(upI g (Nat.le_succ_of_le F.o) (ZH (s:=s) n.o [45] #[45] rfl d));rintro e w2⟨rfl,hm,u,j,M⟩;have H:(X2 s).bad=false:=a;go_wp2_with fail;go_fit(upE (b4 7 (by decide) (X2 s) (Nat.lt_succ_of_le L.o) u.o.le H _ u.o) j M u (j.o.size));rintro e w3 (⟨r1,t1,u1,l1,rfl,A,C,B,hm,I,E,a7,b7⟩|⟨q,rfl,hq,hm⟩);rotate_left
    .exact⟨rfl,.inr ⟨_,rfl,Ip.WK a S (fun _=>k) (fun e=>absurd e a4) (.neg d hq),j.o.t hm⟩⟩
    have y:=X1 (show Pr.Cv ts sz (.ops 7) (X2 s) r1 from A.o);go_wp2_with fail;go_fit(upM (6) (2) (0) ⟨#[]⟩ 1 (Ip.QO b7.o) rfl I E (E.o.size));rintro e w4⟨rfl,a2,O,W⟩;go_wp2;refine Xq (v:= .tuple #[(Ip.pv ⟨6,2,0,⟨#[]⟩,1⟩ (.l w3.heap.size 1 1)),.q (7:Nat)]) (by simp[results,results125,go_sem]) rfl ?_;exact .inl ⟨X9 r1.1 6 2 0 [] 1,7,_,(l1++[⟨6,2,0,⟨#[]⟩,1⟩]),rfl,by decide,Ip.Kg.high (m:=(X9 r1.1 6 2 0 [] 1,0)) a S (by decide) (fun _=>k) (fun e=>absurd e a4) (.D3 a rfl d y.o),C,by simp[X9,B.o],by have:=(y.o.stp u.o.le).ge;simp at this⊢;omega,O.o,W.o,a2.o⟩
   go_enter func125,ntmps125;go_wp2_with fail;go_fit(upB V (L.o) (XK (s:=s) N.o a Zk #[110,111,116] rfl k));rintro e w1⟨rfl,hm,n,g,F⟩;go_wp2_with fail;go_fit(upB g (F.o) (XK (s:=s) n.o a [45] #[45] rfl d));rintro e w2⟨rfl,hm,u,j,M⟩;have Q:=X1 (Oh (s:=s) a a9 b1 _ u.o);go_wp2_with fail;go_fit Q.o;rintro e w3 (⟨r1,v1,l1,rfl,X,C,ho,hd,hm,hp⟩|⟨q,rfl,hq,hm⟩);rotate_left
   .exact⟨rfl,.inr ⟨_,rfl,Ip.WK a S (fun _=>k) (fun e=>absurd e a4) (.P5 a d hq),j.o.t hm⟩⟩
   have U:=X1 (X.stp a1).ge;have A:=X1 X;have B:=X1 ho;have I:=X1 hd;have E:=X1 (j.o.t hm);have HP:=X1 (hp.low j.o.size);clear X ho hd hm hp Q;go_wp2;refine Xq (v:= .tuple #[v1,.q (8:Nat)]) (by simp[results,results125,go_sem]) rfl ?_;exact .inl ⟨r1.1,8,_,l1,rfl,by decide,Ip.Kg.high a S (by decide) (fun _=>k) (fun e=>absurd e a4) (.D0 a rfl d A.o),C,B.o,U.o,I.o,E.o,HP.o⟩
  .have c2:¬(K:Int)<=3:=by omega
   cases d:X4 ts sz s [45]
   case true=>
    go_enter func125,ntmps125;go_wp2_with fail;go_fit(upI V (Nat.le_succ_of_le L.o) (ZH (s:=s) N.o [45] #[45] rfl d));rintro e w1⟨rfl,hm,n,g,F⟩;have H:(X2 s).bad=false:=a;go_wp2_with fail;go_fit(upE (b4 7 (by decide) (X2 s) (Nat.lt_succ_of_le L.o) n.o.le H _ n.o) g F n (g.o.size));rintro e w2 (⟨r1,t1,u1,l1,rfl,A,C,B,hm,u,j,M,a8⟩|⟨q,rfl,hq,hm⟩);rotate_left
    .exact⟨rfl,.inr ⟨_,rfl,Ip.WK a S (fun e=>absurd e a5) (fun e=>absurd e a4) (.neg d hq),g.o.t hm⟩⟩
    have y:=X1 (show Pr.Cv ts sz (.ops 7) (X2 s) r1 from A.o);go_wp2_with fail;go_fit(upM (6) (2) (0) ⟨#[]⟩ 1 (Ip.QO a8.o) rfl u j (j.o.size));rintro e w3⟨rfl,a2,I,E⟩;go_wp2;refine Xq (v:= .tuple #[(Ip.pv ⟨6,2,0,⟨#[]⟩,1⟩ (.l w2.heap.size 1 1)),.q (7:Nat)]) (by simp[results,results125,go_sem]) rfl ?_;exact .inl ⟨X9 r1.1 6 2 0 [] 1,7,_,(l1++[⟨6,2,0,⟨#[]⟩,1⟩]),rfl,by decide,Ip.Kg.high (m:=(X9 r1.1 6 2 0 [] 1,0)) a S (by decide) (fun e=>absurd e a5) (fun e=>absurd e a4) (.D3 a rfl d y.o),C,by simp[X9,B.o],by have:=(y.o.stp n.o.le).ge;simp at this⊢;omega,I.o,E.o,a2.o⟩
   go_enter func125,ntmps125;go_wp2_with fail;go_fit(upB V (L.o) (XK (s:=s) N.o a [45] #[45] rfl d));rintro e w1⟨rfl,hm,n,g,F⟩;have Q:=X1 (Oh (s:=s) a a9 b1 _ n.o);go_wp2_with fail;go_fit Q.o;rintro e w2 (⟨r1,v1,l1,rfl,X,C,ho,hd,hm,hp⟩|⟨q,rfl,hq,hm⟩);rotate_left
   .exact⟨rfl,.inr ⟨_,rfl,Ip.WK a S (fun e=>absurd e a5) (fun e=>absurd e a4) (.P5 a d hq),g.o.t hm⟩⟩
   have U:=X1 (X.stp a1).ge;have A:=X1 X;have B:=X1 ho;have u:=X1 hd;have j:=X1 (g.o.t hm);have HP:=X1 (hp.low g.o.size);clear X ho hd hm hp Q;go_wp2;refine Xq (v:= .tuple #[v1,.q (8:Nat)]) (by simp[results,results125,go_sem]) rfl ?_;exact .inl ⟨r1.1,8,_,l1,rfl,by decide,Ip.Kg.high a S (by decide) (fun e=>absurd e a5) (fun e=>absurd e a4) (.D0 a rfl d A.o),C,B.o,U.o,u.o,j.o,HP.o⟩
 subst a4;cases J:X4 ts sz s XM
 case true=>
  go_enter func125,ntmps125;go_wp2_with fail;go_fit(upI V (Nat.le_succ_of_le L.o) (ZH (s:=s) N.o XM #[108,101,116] rfl J));rintro e w1⟨rfl,hm,n,g,F⟩;have Q:=X1 (X3e (m:=m+1) J (Nat.succ_le_succ a9) b1 _ n.o);go_wp2_with fail;go_fit Q.o;rintro e w2 (⟨r1,v1,l1,rfl,X,C,ho,hd,hm,hp⟩|⟨q,rfl,hq,hm⟩);rotate_left
  .exact⟨rfl,.inr ⟨_,rfl,hq,g.o.t hm⟩⟩
  have U:=X1 (X.stp a1).ge;have A:=X1 X;have B:=X1 ho;have u:=X1 hd;have j:=X1 (g.o.t hm);have HP:=X1 (hp.low g.o.size);clear X ho hd hm hp Q;go_wp2;refine Xq (v:= .tuple #[v1,.q (0:Nat)]) (by simp[results,results125,go_sem]) rfl ?_;exact .inl ⟨r1.1,0,_,l1,rfl,by decide,.open A.o,C,B.o,U.o,u.o,j.o,HP.o⟩
 cases a0:X4 ts sz s XR
 case true=>
  go_enter func125,ntmps125;go_wp2_with fail;go_fit(upB V (L.o) (XK (s:=s) N.o a XM #[108,101,116] rfl J));rintro e w1⟨rfl,hm,n,g,F⟩;go_wp2_with fail;go_fit(upI g (Nat.le_succ_of_le F.o) (ZH (s:=s) n.o XR #[105,102] rfl a0));rintro e w2⟨rfl,hm,u,j,M⟩;have Q:=X1 (X3c (m:=m+1) a0 (Nat.succ_le_succ a9) b1 _ u.o);go_wp2_with fail;go_fit Q.o;rintro e w3 (⟨r1,v1,l1,rfl,X,C,ho,hd,hm,hp⟩|⟨q,rfl,hq,hm⟩);rotate_left
  .exact⟨rfl,.inr ⟨_,rfl,hq,j.o.t hm⟩⟩
  have U:=X1 (X.stp a1).ge;have A:=X1 X;have B:=X1 ho;have I:=X1 hd;have E:=X1 (j.o.t hm);have HP:=X1 (hp.low j.o.size);clear X ho hd hm hp Q;go_wp2;refine Xq (v:= .tuple #[v1,.q (0:Nat)]) (by simp[results,results125,go_sem]) rfl ?_;exact .inl ⟨r1.1,0,_,l1,rfl,by decide,.open A.o,C,B.o,U.o,I.o,E.o,HP.o⟩
 cases a3:X4 ts sz s Zz
 case true=>
  go_enter func125,ntmps125;go_wp2_with fail;go_fit(upB V (L.o) (XK (s:=s) N.o a XM #[108,101,116] rfl J));rintro e w1⟨rfl,hm,n,g,F⟩;go_wp2_with fail;go_fit(upB g (F.o) (XK (s:=s) n.o a XR #[105,102] rfl a0));rintro e w2⟨rfl,hm,u,j,M⟩;go_wp2_with fail;go_fit(upI j (Nat.le_succ_of_le M.o) (ZH (s:=s) u.o Zz #[102,110] rfl a3));rintro e w3⟨rfl,hm,I,E,a7⟩;have Q:=X1 (X3a (m:=m+1) a3 (Nat.succ_le_succ a9) b1 _ I.o);go_wp2_with fail;go_fit Q.o;rintro e w4 (⟨r1,v1,l1,rfl,X,C,ho,hd,hm,hp⟩|⟨q,rfl,hq,hm⟩);rotate_left
  .exact⟨rfl,.inr ⟨_,rfl,hq,E.o.t hm⟩⟩
  have U:=X1 (X.stp a1).ge;have A:=X1 X;have B:=X1 ho;have O:=X1 hd;have W:=X1 (E.o.t hm);have HP:=X1 (hp.low E.o.size);clear X ho hd hm hp Q;go_wp2;refine Xq (v:= .tuple #[v1,.q (0:Nat)]) (by simp[results,results125,go_sem]) rfl ?_;exact .inl ⟨r1.1,0,_,l1,rfl,by decide,.open A.o,C,B.o,U.o,O.o,W.o,HP.o⟩
 have a5:(0:Nat)<=3:=by decide
 cases k:X4 ts sz s Zk
 case true=>
  go_enter func125,ntmps125;go_wp2_with fail;go_fit(upB V (L.o) (XK (s:=s) N.o a XM #[108,101,116] rfl J));rintro e w1⟨rfl,hm,n,g,F⟩;go_wp2_with fail;go_fit(upB g (F.o) (XK (s:=s) n.o a XR #[105,102] rfl a0));rintro e w2⟨rfl,hm,u,j,M⟩;go_wp2_with fail;go_fit(upB j (M.o) (XK (s:=s) u.o a Zz #[102,110] rfl a3));rintro e w3⟨rfl,hm,I,E,a7⟩;go_wp2_with fail;go_fit(upI E (Nat.le_succ_of_le a7.o) (ZH (s:=s) I.o Zk #[110,111,116] rfl k));rintro e w4⟨rfl,hm,O,W,b3⟩;have H:(X2 s).bad=false:=a;go_wp2_with fail;go_fit(upE (b4 3 (by decide) (X2 s) (Nat.lt_succ_of_le L.o) O.o.le H _ O.o) W b3 O (W.o.size));rintro e w5 (⟨r1,t1,u1,l1,rfl,A,C,B,hm,a6,Z,b6,b8⟩|⟨q,rfl,hq,hm⟩);rotate_left
  .exact⟨rfl,.inr ⟨_,rfl,Ip.A9 a a5 k hq,W.o.t hm⟩⟩
  have y:=X1 (show Pr.Cv ts sz (.ops 3) (X2 s) r1 from A.o);go_wp2_with fail;go_fit(upM (6) (1) (0) ⟨#[]⟩ 1 (Ip.QO b8.o) rfl a6 Z (Z.o.size));rintro e w6⟨rfl,a2,b2,b0⟩;go_wp2;refine Xq (v:= .tuple #[(Ip.pv ⟨6,1,0,⟨#[]⟩,1⟩ (.l w5.heap.size 1 1)),.q (3:Nat)]) (by simp[results,results125,go_sem]) rfl ?_;exact .inl ⟨X9 r1.1 6 1 0 [] 1,3,_,(l1++[⟨6,1,0,⟨#[]⟩,1⟩]),rfl,by decide,.not a a5 k y.o,C,by simp[X9,B.o],by have:=(y.o.stp O.o.le).ge;simp at this⊢;omega,b2.o,b0.o,a2.o⟩
 cases d:X4 ts sz s [45]
 case true=>
  go_enter func125,ntmps125;go_wp2_with fail;go_fit(upB V (L.o) (XK (s:=s) N.o a XM #[108,101,116] rfl J));rintro e w1⟨rfl,hm,n,g,F⟩;go_wp2_with fail;go_fit(upB g (F.o) (XK (s:=s) n.o a XR #[105,102] rfl a0));rintro e w2⟨rfl,hm,u,j,M⟩;go_wp2_with fail;go_fit(upB j (M.o) (XK (s:=s) u.o a Zz #[102,110] rfl a3));rintro e w3⟨rfl,hm,I,E,a7⟩;go_wp2_with fail;go_fit(upB E (a7.o) (XK (s:=s) I.o a Zk #[110,111,116] rfl k));rintro e w4⟨rfl,hm,O,W,b3⟩;go_wp2_with fail;go_fit(upI W (Nat.le_succ_of_le b3.o) (ZH (s:=s) O.o [45] #[45] rfl d));rintro e w5⟨rfl,hm,a6,Z,b6⟩;have H:(X2 s).bad=false:=a;go_wp2_with fail;go_fit(upE (b4 7 (by decide) (X2 s) (Nat.lt_succ_of_le L.o) a6.o.le H _ a6.o) Z b6 a6 (Z.o.size));rintro e w6 (⟨r1,t1,u1,l1,rfl,A,C,B,hm,b2,b0,c4,b9⟩|⟨q,rfl,hq,hm⟩);rotate_left
  .exact⟨rfl,.inr ⟨_,rfl,Ip.WK a S (fun _=>k) (fun _=>⟨J,a0,a3⟩) (.neg d hq),Z.o.t hm⟩⟩
  have y:=X1 (show Pr.Cv ts sz (.ops 7) (X2 s) r1 from A.o);go_wp2_with fail;go_fit(upM (6) (2) (0) ⟨#[]⟩ 1 (Ip.QO b9.o) rfl b2 b0 (b0.o.size));rintro e w7⟨rfl,a2,c0,c1⟩;go_wp2;refine Xq (v:= .tuple #[(Ip.pv ⟨6,2,0,⟨#[]⟩,1⟩ (.l w6.heap.size 1 1)),.q (7:Nat)]) (by simp[results,results125,go_sem]) rfl ?_;exact .inl ⟨X9 r1.1 6 2 0 [] 1,7,_,(l1++[⟨6,2,0,⟨#[]⟩,1⟩]),rfl,by decide,Ip.Kg.high (m:=(X9 r1.1 6 2 0 [] 1,0)) a S (by decide) (fun _=>k) (fun _=>⟨J,a0,a3⟩) (.D3 a rfl d y.o),C,by simp[X9,B.o],by have:=(y.o.stp a6.o.le).ge;simp at this⊢;omega,c0.o,c1.o,a2.o⟩
 go_enter func125,ntmps125;go_wp2_with fail;go_fit(upB V (L.o) (XK (s:=s) N.o a XM #[108,101,116] rfl J));rintro e w1⟨rfl,hm,n,g,F⟩;go_wp2_with fail;go_fit(upB g (F.o) (XK (s:=s) n.o a XR #[105,102] rfl a0));rintro e w2⟨rfl,hm,u,j,M⟩;go_wp2_with fail;go_fit(upB j (M.o) (XK (s:=s) u.o a Zz #[102,110] rfl a3));rintro e w3⟨rfl,hm,I,E,a7⟩;go_wp2_with fail;go_fit(upB E (a7.o) (XK (s:=s) I.o a Zk #[110,111,116] rfl k));rintro e w4⟨rfl,hm,O,W,b3⟩;go_wp2_with fail;go_fit(upB W (b3.o) (XK (s:=s) O.o a [45] #[45] rfl d));rintro e w5⟨rfl,hm,a6,Z,b6⟩;have Q:=X1 (Oh (s:=s) a a9 b1 _ a6.o);go_wp2_with fail;go_fit Q.o;rintro e w6 (⟨r1,v1,l1,rfl,X,C,ho,hd,hm,hp⟩|⟨q,rfl,hq,hm⟩);rotate_left
 .exact⟨rfl,.inr ⟨_,rfl,Ip.WK a S (fun _=>k) (fun _=>⟨J,a0,a3⟩) (.P5 a d hq),Z.o.t hm⟩⟩
 have U:=X1 (X.stp a1).ge;have A:=X1 X;have B:=X1 ho;have b2:=X1 hd;have b0:=X1 (Z.o.t hm);have HP:=X1 (hp.low Z.o.size);clear X ho hd hm hp Q;go_wp2;refine Xq (v:= .tuple #[v1,.q (8:Nat)]) (by simp[results,results125,go_sem]) rfl ?_;exact .inl ⟨r1.1,8,_,l1,rfl,by decide,Ip.Kg.high a S (by decide) (fun _=>k) (fun _=>⟨J,a0,a3⟩) (.D0 a rfl d A.o),C,B.o,U.o,b2.o,b0.o,HP.o⟩
theorem AL{b tc sz m:Nat}{tp:Option Addr}{ts:List Sc.T}{s:Pr.Dk}{a:Nat}(d6:a<=7)(b0:s.bad=false)(b9:m<=s.p)(e2:∀q:Pr.Dk,m<q.p->q.p<=ts.length->q.bad=false->Ip.DE b tp tc ts sz q)(c4:∀r:Nat,r<=7->∀q:Pr.Dk,m<q.p->q.p<=ts.length->q.bad=false->Ip.CL b tp tc ts sz r q):Ip.CL b tp tc ts sz a s:=by
 intro w0 J;have b8:=J.lt;have d7:=J.XP;have Q:=X1 (X2z (m:=m) d6 b0 b9 e2 c4 w0 J);clear J;go_enter func109,ntmps109;go_wp2_with fail;go_fit Q.o;rintro e w1 (⟨t1,k1,v1,l1,rfl,b6,b4,a9,c0,c3,b2,K,S⟩|⟨q,rfl,hq,K⟩);rotate_left
 .exact⟨rfl,.inr ⟨_,rfl,hq,K⟩⟩
 have HS:=X1 (show ∃(t:Pr.Dk) (k:Nat) (l:List Nd),(Value.int .i64 (k1:Int))= .q k/\k<=8/\Ip.Kg ts sz a k s t/\t.bad=false/\t.o=s.o++l/\m<=t.p/\IP b tp tc ts sz t.p w1/\Ip.Mv b w0 w1/\Ip.Pt w0.heap.size w1 v1 l from⟨t1,k1,l1,rfl,b6,b4,a9,c0,Xz b9 c3,b2,K,S⟩);clear b4 a9 c0 c3 b2 K S Q b6;go_wp2_with fail;go_loopw[5,6] (fun v kv wr=>∃(t:Pr.Dk) (k:Nat) (l:List Nd),kv= .q k/\k<=8/\Ip.Kg ts sz a k s t/\t.bad=false/\t.o=s.o++l/\m<=t.p/\IP b tp tc ts sz t.p wr/\Ip.Mv b w0 wr/\Ip.Pt w0.heap.size wr v l) (fun _ _ wr=>Ip.left b ts wr)
 case atStart=>exact HS.o
 case round=>
  clear HS;obtain⟨a1,rfl⟩:∃a1,a1=wr:=⟨_,rfl⟩;obtain⟨t,k,l,rfl,hk,hf,u,ho,hg,hd,hm,hp⟩:=hrel;obtain⟨tv,uv,rfl⟩:=hp.iface;have HF:=X1 hf;have HO:=X1 ho;have HM:=X1 hm;have HP:=X1 hp;have HL:=X1 hd.left;have HD:=X1 hd;have Q:=X1 (U1 (s:=t) hd);clear hf ho hm hp hd;go_wp2_with fail;go_fit Q.o;rintro e e3⟨rfl,j⟩;have F:=X1 (HD.o.below j);have a4:=X1 (HM.o.more j);have a7:=X1 (HP.o.below j);have Q2:=X1 (Xck (X3 ts sz t) e3 (by have:=F.o.lt;omega) F.o.gl.2);clear j Q HD HM HP;go_wp2_with fail;go_fit Q2.o;rintro e a2⟨o,rfl,X,n⟩;have d:=X1 (F.o.below n);have A:=X1 (a4.o.more n);have B:=X1 (a7.o.below n);have b5:=d.o.gl.2;have a6:=X1 X;have g:o<=14:=by
   rcases X with⟨_,h,_⟩|⟨h,_⟩
   .exact h
   .omega
  have e6:(o:Int)<15:=by omega
  have e8:(0:Int)<=(o:Int):=by omega
  have x1:=(b5 o g).2;clear n Q2 F a4 a7 b5 X;by_cases y:o=0\/Xi o<a\/k<(if Xi o=4 then 5 else Xi o)
  .-- it ends
   obtain⟨r,O,hr⟩:=HF.o.stop u hk a6.o y;have HC:=X1 O;have I:=X1 hr;clear O hr;by_cases hz:o=0
   .subst hz;have f0:a2.cell? ⟨0,1,none⟩=some (.q 0):=x1;go_wp2;go_ret;exact .inl ⟨r,_,l,rfl,HC.o,by rw[I.o];exact u,by rw[I.o];exact HO.o,by rw[I.o];exact d.o,A.o,B.o⟩
   .have d8:((o:Int)==0)=false:=by simp;omega
    by_cases M:Xi o<a
    .have L:((Xi o:Nat):Int)<(a:Int):=by omega
     go_wp2;go_ret;exact .inl ⟨r,_,l,rfl,HC.o,by rw[I.o];exact u,by rw[I.o];exact HO.o,by rw[I.o];exact d.o,A.o,B.o⟩
    .have L:¬((Xi o:Nat):Int)<(a:Int):=by omega
     have e1:decide (((Xi o:Nat):Int)<(a:Int))=false:=by simpa using L
     have C:k<(if Xi o=4 then 5 else Xi o):=by
      rcases y with h|h|h
      .exact absurd h hz
      .exact absurd h M
      .exact h
     have e0:Xi o<=100:=by have:=(Ip.GJ (o:=o) (by omega) g).2;omega
     have Q3:=X1 (MZ (Xi o) a2 e0);go_wp2_with fail;go_fit Q3.o;rintro e e4⟨rfl,rfl⟩;have b7:(k:Int)<((if Xi o=4 then 5 else Xi o:Nat):Int):=by omega
     generalize(if Xi o=4 then 5 else Xi o:Nat)=fr at *;go_wp2;go_ret;exact .inl ⟨r,_,l,rfl,HC.o,by rw[I.o];exact u,by rw[I.o];exact HO.o,by rw[I.o];exact d.o,A.o,B.o⟩
  .have hz:o≠0:=fun e=>y (.inl e);have M:a<=Xi o:=by
    by_cases h:Xi o<a
    .exact absurd (.inr (.inl h)) y
    .omega
   have C:(if Xi o=4 then 5 else Xi o)<=k:=by
    by_cases h:k<(if Xi o=4 then 5 else Xi o)
    .exact absurd (.inr (.inr h)) y
    .omega
   have a0:X4 ts sz t (Yd o)=true:=by
    rcases a6.o with⟨_,_,h⟩|⟨h,_⟩
    .rw[Dx u];exact h
    .exact absurd h hz
   have e9:=Ip.GJ (o:=o) (by omega) g;have d8:((o:Int)==0)=false:=by simp;omega
   have L:¬((Xi o:Nat):Int)<(a:Int):=by omega
   have e1:decide (((Xi o:Nat):Int)<(a:Int))=false:=by simpa using L
   have d9:=Yb a0;have Q3:=X1 (MZ (Xi o) a2 (by omega));have c7:=X1 C;have c6:=X1 (show ∀q,Pr.Ends ts sz (.ops (Xi o+1)) (X2 t) q->Pr.Ends ts sz (Ip.cmd a) s q from fun q hq=>HF.o.ends (by omega) g a0 M C hq);have d4:=X1 (show ∀r,Pr.Cv ts sz (.ops (Xi o+1)) (X2 t) r->Ip.Kg ts sz a (Xi o) s (X9 r.1 7 o 0 [] 2)from fun r O=>HF.o.step (by omega) g a0 M C O);clear y C;go_wp2_with fail;go_fit Q3.o;rintro e e4⟨rfl,rfl⟩;have b7:¬(k:Int)<((if Xi o=4 then 5 else Xi o:Nat):Int):=by have:=c7.o;omega
   have e7:decide ((k:Int)<((if Xi o=4 then 5 else Xi o:Nat):Int))=false:=by simpa using b7
   generalize(if Xi o=4 then 5 else Xi o:Nat)=fr at *;have c1:=d.o.c1;have f1:=d.o.fr 1;have U:=X1 (d.o.adv d9);have H:=X1 (A.o.t (Ip.Mv.set _ b 1 (.q ((t.p:Int)+1))));have a8:=X1 (B.o.mv (Ip.Mv.set _ b 1 (.q ((t.p:Int)+1))) b8 (X5 _));have Q4:=X1 (c4 (Xi o+1) (by omega) (X2 t) (Nat.lt_succ_of_le hg) U.o.le (show(X2 t).bad=false from u) _ U.o);have b1:Ip.cmd (Xi o+1)= .ops (Xi o+1):=by unfold Ip.cmd;rw[X6 (by omega)]
   rw[b1]at Q4;clear d A B Q3;go_wp2_with fail;go_fit Q4.o;rintro e N (⟨r,v,l4,rfl,O,d5,c2,b3,E,Z⟩|⟨q,rfl,hq,E⟩);rotate_left
   .exact⟨rfl,.inr ⟨_,rfl,c6.o _ hq,H.o.t E⟩⟩
   obtain⟨t4,u4,rfl⟩:=Z.iface;have HC:=X1 O;have d0:=X1 c2;have c5:=X1 b3;have a5:=X1 (H.o.t E);have d2:=X1 (Z.low (lo':=w0.heap.size) H.o.size);have d1:=X1 (a8.o.mv E b8 (X5 _));have a3:=X1 (O.stp U.o.le).ge;clear O c2 b3 E Z Q4 a8 H;have Q5:=X1 (JS 7 o 0 0 ⟨#[]⟩ (some ⟨N.heap.size,0,none⟩) 2 2 (N.alloc (.cells #[.iface tv uv,.iface t4 u4] 44)));go_wp2_with fail;go_fit Q5.o;rintro e e5⟨rfl,hb⟩;have hr:Ip.Row w0.heap.size (N.alloc (.cells #[.iface tv uv,.iface t4 u4] 44)) (.l N.heap.size 2 2) 2 (l++l4):=(Ip.LO d1.o d2.o).row a5.o.size (by simp);have d3:=X1 ((hr.below hb).made (x:=⟨7,o,0,⟨#[]⟩,2⟩) rfl);have W:=WC hb;have V:=X1 (c5.o.below W);have c8:=X1 (a5.o.more W);have c9:=X1 (show Ip.left b ts e5<Ip.left b ts a1 from by rw[V.o.left,HL.o];have:=V.o.le;have:=a3.o;simp at *;omega)
   clear hr hb W Q5;go_wp2;go_roundw
   case rel=>exact⟨X9 r.1 7 o 0 [] 2,Xi o,l++l4++[⟨7,o,0,⟨#[]⟩,2⟩],rfl,by omega,d4.o _ HC.o,d5,by simp[X9,d0.o,HO.o],by have:=a3.o;simp at this⊢;omega,V.o,c8.o,d3.o⟩
   case measure=>exact c9.o
section
variable {b tc sz:Nat} {tp:Option Addr} {ts:List Sc.T}
theorem AM{d:Pr.Dk}(h:Ip.CL b tp tc ts sz 0 d):Ip.DE b tp tc ts sz d:=by
 intro w0 a;have Q:=X1 (h w0 a);clear a;go_enter func84,ntmps84;go_wp2_with fail;go_fit Q.o;intro e k j;have g:Hid (Ip.Out b tp tc ts sz .e d w0 e k):=X1 j;rcases j with⟨r,v,l,rfl,_⟩|⟨q,rfl,_⟩
 .go_wp2;go_ret;exact g.o
 .exact⟨rfl,g.o⟩
theorem X2u(n:Nat):∀d:Pr.Dk,ts.length-d.p<=n->d.p<=ts.length->d.bad=false->(∀r,r<=7->Ip.CL b tp tc ts sz r d)/\Ip.DE b tp tc ts sz d:=by
 induction n with
 | zero=>
  intro d A s k;have h:∀r,r<=7->Ip.CL b tp tc ts sz r d:=fun r u=>AL (m:=d.p) u k (X5 _) (fun q g a _=>by omega) (fun _ _ q g a _=>by omega);exact⟨h,AM (h 0 (by omega))⟩
 | succ n y=>
  intro d A s k;have h:∀r,r<=7->Ip.CL b tp tc ts sz r d:=fun r u=>AL (m:=d.p) u k (X5 _) (fun q g a j=>(y q (by omega) a j).2) (fun B v q g a j=>(y q (by omega) a j).1 B v);exact⟨h,AM (h 0 (by omega))⟩
theorem X2s(d:Pr.Dk)(a:d.p<=ts.length)(g:d.bad=false):Ip.DE b tp tc ts sz d:=(X2u _ d (X5 _) a g).2
theorem X2t(d:Pr.Dk)(j:d.bad=false):Ip.Jr b tp tc ts sz 50 #[.p b] .statement d d:=X5y (m:=0) j (Xb _) (fun q _ a g=>X2s q a g)
end
structure Ip.Uv (fb gb q:Nat) (w w':World):Prop where
 mv:Pr.Mv (fun k=>k=fb\/k=gb) w w'
 c0:w'.cell? ⟨fb,0,none⟩=some .nilIface
 c1:w'.cell? ⟨gb,0,none⟩=some (.q 6)
 c2:w'.cell? ⟨gb,1,none⟩=some (.q (q:Int))
theorem To(p g:Addr)(w:World): CallsD prog 49 #[.pointer (some p),.pointer (some g)] .returning w fun e k w'=>e= .returned (.tuple #[])/\k= .returning/\w'=w:=by
 refine callsD_of_wpS func49 rfl fun a cs j=>?_;apply wpS_seq;apply wpS_region;simp[wpOpsS,go_sem,recoverD,j,ntmps49,Exit.thenS];refine wpS_of_wp ?_;have d:(#[Value.pointer (some p),Value.pointer (some g)]++((Array.replicate 17 undef).setIfInBounds 3 Value.nilIface).setIfInBounds 0 Value.nilIface)=#[.pointer (some p),.pointer (some g),Value.nilIface,undef,undef,Value.nilIface,undef,undef,undef,undef,undef,undef,undef,undef,undef,undef,undef,undef,undef]:=rfl;rw[d];go_wp2;cases a;simp_all[bodyPostS,results,results49]
theorem OI(a gb k j:Nat)(v:Value)(w:World)(h:k=a\/k=gb):Pr.Mv (fun x=>x=a\/x=gb) w (w.setCell ⟨k,j,none⟩ v):= .grown (Ii w k j v) (fun q e=>by cases e;exact h)
theorem OJ{d gb:Nat}{a b c:World}(h:Pr.Mv (fun x=>x=d\/x=gb) a b)(k:Pr.Mv (fun x=>x=d\/x=gb) b c):Pr.Mv (fun x=>x=d\/x=gb) a c:=h.trans k (fun _ _ e=>e) (fun _ _ e=>e)
theorem BR{k i j:Nat}(h:i≠j):(⟨k,i,none⟩:Addr)≠⟨k,j,none⟩:=fun e=>h (Yt Addr.off e)
theorem IE{k l i j:Nat}(h:k≠l):(⟨k,i,none⟩:Addr)≠⟨l,j,none⟩:=fun e=>h (Yt Addr.block e)
theorem Ip.Uv.grow{d gb q:Nat}{w w' a:World}(h:Ip.Uv d gb q w w')(g:BL w' a):Ip.Uv d gb q w a:=⟨OJ h.mv (.below g),(g.cell (p:=⟨d,0,none⟩) (QE w' ⟨d,0,none⟩ h.c0)).trans h.c0,(g.cell (p:=⟨gb,0,none⟩) (QE w' ⟨gb,0,none⟩ h.c1)).trans h.c1,(g.cell (p:=⟨gb,1,none⟩) (QE w' ⟨gb,1,none⟩ h.c2)).trans h.c2⟩
theorem Ip.Uv.of1{d gb q:Nat}{w:World}{s u v:Value}{o:Obj}(hne:d≠gb)(g:w.cell? ⟨d,0,none⟩=some s)(j:w.cell? ⟨gb,0,none⟩=some u)(k:w.cell? ⟨gb,1,none⟩=some v): Ip.Uv d gb q w ((((w.setCell ⟨d,0,none⟩ .nilIface).setCell ⟨gb,0,none⟩ (.q 6)).setCell ⟨gb,1,none⟩ (.q (q:Int))).alloc o).drew:=by
 have m:=(Zt (w:=w) (a:=⟨d,0,none⟩) (b:=⟨gb,0,none⟩) .nilIface (IE hne)).trans j;have n:=(Zt (w:=w) (a:=⟨d,0,none⟩) (b:=⟨gb,1,none⟩) .nilIface (IE hne)).trans k;have r:=(Zt (w:=w.setCell ⟨d,0,none⟩ .nilIface) (a:=⟨gb,0,none⟩) (b:=⟨gb,1,none⟩) (.q 6) (BR (by decide))).trans n;have h:Ip.Uv d gb q w (((w.setCell ⟨d,0,none⟩ .nilIface).setCell ⟨gb,0,none⟩ (.q 6)).setCell ⟨gb,1,none⟩ (.q (q:Int))):=by
  refine⟨OJ (OJ (OI _ _ _ _ _ _ (.inl rfl)) (OI _ _ _ _ _ _ (.inr rfl))) (OI _ _ _ _ _ _ (.inr rfl)),?_,?_,Qk _ _ _ r⟩
  .rw[Zt _ _ _ _ (IE (fun e=>hne e.symm)),Zt _ _ _ _ (IE (fun e=>hne e.symm))];exact Qk _ _ _ g
  .rw[Zt _ _ _ _ (BR (by decide))];exact Qk _ _ _ m
 exact(h.grow (QF _ o)).grow (X8 _ _).drew
theorem Y1z(q:Int)(w:World):(Instr.typeAssert (.iface 104 (.agg #[.q q])) 20 104 true).run prog w= .ok (.tuple #[.agg #[.q q],.bool true]) w:=by kernel_rfl
theorem Tp(d gb q:Nat)(w:World)(hne:d≠gb)(H I J:Value)(m:w.cell? ⟨d,0,none⟩=some H)(n:w.cell? ⟨gb,0,none⟩=some I)(s:w.cell? ⟨gb,1,none⟩=some J)(A:w.frozen? ⟨d,0,none⟩=false)(B:w.frozen? ⟨gb,0,none⟩=false)(C:w.frozen? ⟨gb,1,none⟩=false): CallsD prog 49 #[.p d,.p gb] (.panicking (Ip.stuck q)) w fun e F w'=>e= .returned (.tuple #[])/\F= .panicking [{v:= .iface 104 (.agg #[.q (q:Int)]),recovered:=true}]/\Ip.Uv d gb q w w':=by
 have j:d<w.heap.size:=QE w ⟨d,0,none⟩ m;have g:gb<w.heap.size:=QE w ⟨gb,0,none⟩ n;have k:∀r:Frame,r.mode= .panicking (Ip.stuck q)->r.mode= .panicking [{v:= .iface 104 (.agg #[.q (q:Int)]),recovered:=false}]:=fun _ h=>h;refine callsD_of_wpS func49 rfl fun r cs u=>?_
 replace u:=k r u
 clear k;apply wpS_seq;apply wpS_region;simp[wpOpsS,go_sem,recoverD,u,ntmps49,Exit.thenS];refine wpS_of_wp ?_;have y:(#[Value.p d,Value.p gb]++((Array.replicate 17 undef).setIfInBounds 3 (Value.iface 104 (.agg #[.q (q:Int)]))).setIfInBounds 0 (Value.iface 104 (.agg #[.q (q:Int)])))=#[.p d,.p gb,.iface 104 (.agg #[.q (q:Int)]),undef,undef,.iface 104 (.agg #[.q (q:Int)]),undef,undef,undef,undef,undef,undef,undef,undef,undef,undef,undef,undef,undef]:=rfl;rw[y];clear y;have E:=Y1z (q:Int);have a:=QF w (.cells #[.q (q:Int)] 104);have K:=(a.cell (p:=⟨d,0,none⟩) j).trans m;have L:=(a.cell (p:=⟨gb,0,none⟩) g).trans n;have M:=(a.cell (p:=⟨gb,1,none⟩) g).trans s;have N:=(a.frozen (p:=⟨d,0,none⟩) j).trans A;have O:=(a.frozen (p:=⟨gb,0,none⟩) g).trans B;have Q:=(a.frozen (p:=⟨gb,1,none⟩) g).trans C;have n1:¬d=gb:=hne;have n2:¬gb=d:=fun e=>hne e.symm;have n3:¬w.heap.size=d:=by omega
 have S:¬w.heap.size=gb:=by omega
 clear a;go_wp2;go_region;all_goals
  refine⟨rfl,_,rfl,.tuple #[],by simp[results,results49,go_sem],rfl,rfl,?_⟩
  first
   | exact Ip.Uv.of1 hne m n s
   | exact Ip.Uv.of2 hne m n s
