import Derived.Test.YtaeafhenpjnhiaaGreatDoorE02
import Derived.Test.YtaeafhenpjnhiaaGreatDoorE03
set_option maxHeartbeats 4000000
set_option maxRecDepth 100000
namespace Go.Proofs.YtaeafhenpjnhiaaGreatDoor
open Tryz Go.RowKit
def QC(ns:List Nd)(x:Nat):Int:=match ns[x]? with
 | some d=>d.kind
 | none=>0
def Z1(ns:List Nd)(x:Nat):Bool:=Xs (QC ns x) 1 16
def Yu(ns:List Nd):List Nat->Nat
 | []=>0
 | x::r=>(if Z1 ns x=true then 1 else 0)+Yu ns r
def Z8(ns:List Nd):List Nat->Nat
 | []=>0
 | x::r=>if Z1 ns x=true then 1+Z8 ns r else 0
def XS(ns:List Nd)(p:Int->Bool):List Nat->Bool
 | []=>true
 | x::r=>p (QC ns x)&&XS ns p r
theorem QZ{ns:List Nd}{x:Nat}(h:x<ns.length):QC ns x=ns[x].kind:=by simp[QC,h]
theorem VD(ns:List Nd)(ls:List Nat)(j:Nat)(h:j<ls.length):Yu ns (ls.drop j)=(if Z1 ns ls[j]=true then 1 else 0)+Yu ns (ls.drop (j+1)):=by
 rw[KM h];rfl
theorem Wx(ns:List Nd)(p:Int->Bool)(ls:List Nat)(j:Nat)(h:j<ls.length):XS ns p (ls.drop j)=(p (QC ns ls[j])&&XS ns p (ls.drop (j+1))):=by
 rw[KM h];rfl
theorem UG(ns:List Nd)(ls:List Nat):Yu ns ls<=ls.length:=by
 induction ls with
 | nil=>exact X5 _
 | cons x r a=>simp only[Yu,XI];split<;>omega
def XU(ns:List Nd)(k:Int)(ls:List Nat):Bool:=
 if k=1\/k=2\/k=3\/k=4\/k=5 then decide ((ls.length:Int)=0)
 else if k=6\/k=11\/k=17\/k=18\/k=21\/k=22 then decide ((ls.length:Int)=1/\(Yu ns ls:Int)=1)
 else if k=7\/k=10\/k=14 then decide ((ls.length:Int)=2/\(Yu ns ls:Int)=2)
 else if k=13 then decide ((ls.length:Int)=3/\(Yu ns ls:Int)=3)
 else if k=16 then decide ((2<=(ls.length:Int)/\(ls.length:Int)<=3)/\(Yu ns ls:Int)=ls.length)
 else if k=19 then decide ((ls.length:Int)<=1/\(Yu ns ls:Int)=ls.length)
 else if k=8 then decide ((Yu ns ls:Int)=ls.length/\(ls.length:Int)<=200)
 else if k=9 then XS ns (fun x=>x==17) ls&&decide ((ls.length:Int)<=200)&&Je ns ls
 else if k=12 then XS ns (fun x=>x==18) (ls.drop (Z8 ns ls))&&decide (1<=(Z8 ns ls:Int))&&decide ((ls.length:Int)-1<=8)&&Je ns (ls.drop (Z8 ns ls))
 else if k=15\/k=20 then XS ns (fun x=>x==19) ls.dropLast&&(ls.getLast?.map (Z1 ns)==some true)&&decide ((ls.length:Int)-1<=8)
 else if k=23 then XS ns (fun x=>x==5) ls&&Xs ls.length 1 200
 else if k=24 then XS ns (fun x=>Xs x 20 23) ls&&decide ((ls.length:Int)<=200)
 else false
theorem X7v(a:Int)(ns:List Nd)(ls:List Nat)(C tc g c:Nat)(w:World)(hl:ls.length<=1048576)(N:K1 w C ns)(hi:YZ w g 0 ls)(A:∀x∈ls,x<ns.length)(d:a=1\/a=2\/a=3\/a=4\/a=5\/a=6\/a=11\/a=17\/a=18\/a=21\/a=22\/a=7\/a=10\/a=14\/a=13\/a=16\/a=19\/a=8): CB 41 #[.agg #[.l C ns.length tc],.q a,.l g ls.length c] w (.bool (XU ns a ls)):=by
 have r1:BL w (w.alloc (.cells #[.l C ns.length tc] 25)):=bA _;have H:=X1 N;have F:=X1 hi;have v:=X1 A;have J:=X1 d;have U:=UG ns ls;clear N hi A d;go_enter func41,ntmps41;go_wp2;go_loopw[8,10] (fun s t wr=>∃(j m:Nat),j<=ls.length/\t= .q j/\s= .q m/\m+Yu ns (ls.drop j)=Yu ns ls/\BL w wr/\w.heap.size<wr.heap.size/\wr.cell? ⟨w.heap.size,0,none⟩=some (.l C ns.length tc)) (fun _ t _=>ls.length-(intOf t).toNat)
 case atStart=>exact⟨0,0,Xb _,rfl,rfl,by simp,r1,by simp,by simp⟩
 case round=>
  obtain⟨j,m,V,rfl,rfl,L,u,k,n⟩:=hrel;have E:=X1 L;clear L;by_cases B:j<ls.length
  .have I:=F.o.2 j B;rw[Xu]at I;have O:ls[j]<ns.length:=v.o _ (YJ _);obtain⟨K,_⟩:=H.o.2 ls[j] O;have S:=X1 (VD ns ls j B);have Q:=X1 (show Z1 ns ls[j]=Xs ns[ls[j]].kind 1 16 by unfold Z1;rw[QZ O]);have X:=(u.cell (p:=⟨g,j,none⟩) F.o.1).trans I;have Z:=(u.cell (p:=⟨C,ls[j]*5,none⟩) H.o.1).trans K;generalize ns[ls[j]].kind=W at *;generalize ls[j]=xj at *;clear I K;have y:m<=ls.length:=by have:=E.o;omega
   cases M:Xs W 1 16;all_goals
    go_wp2;go_quiet((go_at_call 69;exact Calls.quiet_of_same (Ui _ _)));rw[M];go_wp2;go_roundw
    case rel=>
     have r:=E.o;rw[S.o,Q.o,M]at r;first|rw[Xa rfl]at r|rw[X6 (by decide)]at r
     first
     | exact⟨j+1,m+1,by omega,by go_num,by go_num,by omega,below_drewN u _,k,n⟩
     | exact⟨j+1,m,by omega,by go_num,rfl,by omega,below_drewN u _,k,n⟩
    case measure=>simp[intOf];omega
  .have y:m=Yu ns ls:=by have r:=E.o;rw[YI (by omega)]at r;simpa[Yu]using r
   subst y;obtain rfl:j=ls.length:=by omega
   clear E V;rcases J.o with rfl|rfl|rfl|rfl|rfl|rfl|rfl|rfl|rfl|rfl|rfl|rfl|rfl|rfl|rfl|rfl|rfl|rfl;all_goals
    go_wp2_with(go_at_call 39;go_fit(ZD _ _ _ _);rintro e w'⟨rfl,rfl⟩)
   all_goals
    go_ret;refine⟨Xn ?_,u⟩;clear H F v J u n r1;rw[YH];first
    | (simp[XU];done)
    | (simp[XU];omega)
    | (rename_i h;simp[Xs]at h;simp[XU];omega)
def DH(ns:List Nd)(ls:List Nat):Bool:=XS ns (fun x=>x==19) ls.dropLast&&(ls.getLast?.map (Z1 ns)==some true)&&decide ((ls.length:Int)-1<=8)
theorem Hr(ns:List Nd)(ls:List Nat):XU ns 15 ls=DH ns ls:=by unfold XU;rfl
theorem Hs(ns:List Nd)(ls:List Nat):XU ns 20 ls=DH ns ls:=by unfold XU;rfl
theorem Hq(ns:List Nd)(ls:List Nat):XU ns 12 ls=(XS ns (fun x=>x==18) (ls.drop (Z8 ns ls))&&decide (1<=(Z8 ns ls:Int))&&decide ((ls.length:Int)-1<=8)&&Je ns (ls.drop (Z8 ns ls))):=by unfold XU;rfl
theorem FZ(ns:List Nd)(ls:List Nat)(j:Nat)(h:j<ls.length):Z8 ns (ls.drop j)=if Z1 ns ls[j]=true then 1+Z8 ns (ls.drop (j+1))else 0:=by
 rw[KM h];rfl
theorem FY(ls:List Nat)(j:Nat)(h:j+1<ls.length):ls.dropLast[j]'(by simp;omega)=ls[j]:=by simp
theorem X7t(a:Int)(ns:List Nd)(ls:List Nat)(E tc g c:Nat)(w:World)(hl:ls.length<=1048576)(ht:K1 w E ns)(hi:YZ w g 0 ls)(S:∀x∈ls,x<ns.length)(u:a=15\/a=20): CB 41 #[.agg #[.l E ns.length tc],.q a,.l g ls.length c] w (.bool (XU ns a ls)):=by
 have r1:BL w (w.alloc (.cells #[.l E ns.length tc] 25)):=bA _;have K:=X1 ht;have I:=X1 hi;have F:=X1 S;have HK:=X1 u;have a3:=UG ns ls;clear ht hi S u;go_enter func41,ntmps41;go_wp2;go_loopw[8,10] (fun s t wr=>∃(j H:Nat),j<=ls.length/\t= .q j/\s= .q H/\H+Yu ns (ls.drop j)=Yu ns ls/\BL w wr/\w.heap.size<wr.heap.size/\wr.cell? ⟨w.heap.size,0,none⟩=some (.l E ns.length tc)) (fun _ t _=>ls.length-(intOf t).toNat)
 case atStart=>exact⟨0,0,Xb _,rfl,rfl,by simp,r1,by simp,by simp⟩
 case round=>
  obtain⟨j,H,hj,rfl,rfl,O,k,d,r⟩:=hrel;have y:=X1 O;clear O;by_cases A:j<ls.length
  .have n:=I.o.2 j A;rw[Xu]at n;have C:ls[j]<ns.length:=F.o _ (YJ _);obtain⟨B,_⟩:=K.o.2 ls[j] C;have U:=X1 (VD ns ls j A);have J:=X1 (show Z1 ns ls[j]=Xs ns[ls[j]].kind 1 16 by unfold Z1;rw[QZ C]);have Z:=(k.cell (p:=⟨g,j,none⟩) I.o.1).trans n;have a1:=(k.cell (p:=⟨E,ls[j]*5,none⟩) K.o.1).trans B;generalize ns[ls[j]].kind=M at *;generalize ls[j]=xj at *;clear n B;have Q:H<=ls.length:=by have:=y.o;omega
   cases v:Xs M 1 16;all_goals
    go_wp2;go_quiet((go_at_call 69;exact Calls.quiet_of_same (Ui _ _)));rw[v];go_wp2;go_roundw
    case rel=>
     have L:=y.o;rw[U.o,J.o,v]at L;first|rw[Xa rfl]at L|rw[X6 (by decide)]at L
     first
     | exact⟨j+1,H+1,by omega,by go_num,by go_num,by omega,below_drewN k _,d,r⟩
     | exact⟨j+1,H,by omega,by go_num,rfl,by omega,below_drewN k _,d,r⟩
    case measure=>simp[intOf];omega
  .have Q:H=Yu ns ls:=by have L:=y.o;rw[YI (by omega)]at L;simpa[Yu]using L
   subst Q;obtain rfl:j=ls.length:=by omega
   clear y hj;have V:Hid (XU ns a ls=DH ns ls):=X1 (by rcases HK.o with rfl|rfl;exact Hr ns ls;exact Hs ns ls);have a2:a=15\/a=20:=HK.o;rcases a2 with rfl|rfl;all_goals
    go_wp2;go_loopw[13] (fun t wr=>∃j:Nat,j<=ls.length/\t= .q j/\XS ns (fun x=>x==19) ls.dropLast=XS ns (fun x=>x==19) (ls.dropLast.drop j)/\BL w wr/\w.heap.size<wr.heap.size/\wr.cell? ⟨w.heap.size,0,none⟩=some (.l E ns.length tc)) (fun t _=>ls.length-(intOf t).toNat)
    case atStart=>exact⟨0,Xb _,rfl,by rw[Kh],k,d,r⟩
    case round=>
     obtain⟨j,hj,rfl,O,k,d,r⟩:=hrel;have y:=X1 O;clear O;by_cases A:j+1<ls.length
     .have n:=I.o.2 j (by omega);rw[Xu]at n;have C:ls[j]<ns.length:=F.o _ (YJ _);obtain⟨B,_⟩:=K.o.2 ls[j] C;have U:=X1 (Wx ns (fun x=>x==19) ls.dropLast j (by simp;omega));have N:=X1 (FY ls j A);have J:=X1 (QZ C);have Z:=(k.cell (p:=⟨g,j,none⟩) I.o.1).trans n;have a1:=(k.cell (p:=⟨E,ls[j]*5,none⟩) K.o.1).trans B;generalize ns[ls[j]].kind=M at *;generalize ls[j]=xj at *;clear n B;cases v:(M !=19);all_goals
       go_wp2;go_quiet(fail);try rw[v]
       go_wp2;first
       | (go_ret
          refine⟨Xn ?_,below_drewN k _⟩;rw[V.o,DH,y.o,U.o,N.o,J.o];simp at v;simp[v]
          done)
       | (go_roundw
          case rel=>
           refine⟨j+1,by omega,by go_num,?_,below_drewN k _,d,r⟩;rw[y.o,U.o,N.o,J.o];simp at v;simp[v]
           done
          case measure=>simp[intOf];omega)
     .have W:=X1 (show XS ns (fun x=>x==19) ls.dropLast=true by rw[y.o,YI (by simp;omega)];rfl);clear y;by_cases h0:ls.length=0
      .go_wp2;go_quiet(fail);go_wp2;go_ret;refine⟨Xn ?_,below_drewN k _⟩;have:ls=[]:=Qx h0;rw[V.o,this];rfl
      .have n:=I.o.2 (ls.length-1) (by omega);rw[Xu]at n;have C:ls[ls.length-1]<ns.length:=F.o _ (YJ _);obtain⟨B,_⟩:=K.o.2 ls[ls.length-1] C;have HL:=X1 (show ls.getLast?=some (ls[ls.length-1]'(by omega)) by rw[Rp];simp);have J:=X1 (show Z1 ns (ls[ls.length-1]'(by omega))=Xs ns[ls[ls.length-1]].kind 1 16 by unfold Z1;rw[QZ C]);have Z:=(k.cell (p:=⟨g,ls.length-1,none⟩) I.o.1).trans n;have a1:=(k.cell (p:=⟨E,ls[ls.length-1]*5,none⟩) K.o.1).trans B;generalize ns[ls[ls.length-1]].kind=M at *;generalize ls[ls.length-1]'(by omega)=xj at *;clear n B;obtain⟨m,hm⟩:∃m,ls.length=m+1:=⟨ls.length-1,by omega⟩;rw[hm,Dt]at Z;have a4:(1:Int)<=(m:Int)+1:=by omega
       cases v:Xs M 1 16;all_goals by_cases h8:(m:Int)<=8
       all_goals
        have hE:=fun w=>Ui M w;simp only[v]at hE;have X:=X1 hE;clear hE;go_wp2;go_quiet((go_at_call 69;exact Calls.quiet_of_same (X.o _)));go_wp2;go_ret;refine⟨Xn ?_,below_drewN k _⟩;rw[V.o,DH,W.o,HL.o,UA,J.o,v,hm];simp;try omega
theorem Hv(ns:List Nd)(ls:List Nat):XU ns 9 ls=(XS ns (fun x=>x==17) ls&&decide ((ls.length:Int)<=200)&&Je ns ls):=by unfold XU;rfl
theorem Ht(ns:List Nd)(ls:List Nat):XU ns 23 ls=(XS ns (fun x=>x==5) ls&&Xs ls.length 1 200):=by unfold XU;rfl
theorem Hu(ns:List Nd)(ls:List Nat):XU ns 24 ls=(XS ns (fun x=>Xs x 20 23) ls&&decide ((ls.length:Int)<=200)):=by unfold XU;rfl
theorem X7r(r:Int)(ns:List Nd)(ls:List Nat)(y tc g c:Nat)(w:World)(hl:ls.length<=1048576)(X:K1 w y ns)(hi:YZ w g 0 ls)(L:∀x∈ls,x<ns.length)(m:r=9): CB 41 #[.agg #[.l y ns.length tc],.q r,.l g ls.length c] w (.bool (XU ns r ls)):=by
 have r1:BL w (w.z #[.l y ns.length tc] 25):=bA _;have H:=X1 X;have F:=X1 hi;have A:=X1 L;have Z:=X1 m;have a2:=UG ns ls;clear X hi L m;go_enter func41,ntmps41;go_wp2;go_loopw[8,10] (fun s t wr=>∃(j B:Nat),j<=ls.length/\t= .q j/\s= .q B/\B+Yu ns (ls.drop j)=Yu ns ls/\BL w wr/\w.heap.size<wr.heap.size/\wr.c w.heap.size 0=some (.l y ns.length tc)) (fun _ t _=>ls.length-(intOf t).toNat)
 case atStart=>exact⟨0,0,Xb _,rfl,rfl,by simp,r1,by simp,by simp⟩
 case round=>
  obtain⟨j,B,W,rfl,rfl,J,d,a,k⟩:=hrel;have v:=X1 J;clear J;by_cases n:j<ls.length
  .have C:=F.o.2 j n;rw[Xu]at C;have M:ls[j]<ns.length:=A.o _ (YJ _);obtain⟨I,_⟩:=H.o.2 ls[j] M;have O:=X1 (VD ns ls j n);have N:=X1 (show Z1 ns ls[j]=Xs ns[ls[j]].kind 1 16 by unfold Z1;rw[QZ M]);have a0:=(d.cell (p:=⟨g,j,none⟩) F.o.1).trans C;have a1:=(d.cell (p:=⟨y,ls[j]*5,none⟩) H.o.1).trans I;generalize ns[ls[j]].kind=V at *;generalize ls[j]=xj at *;clear C I;have K:B<=ls.length:=by have:=v.o;omega
   cases u:Xs V 1 16;all_goals
    go_wp2;go_quiet((go_at_call 69;exact Calls.quiet_of_same (Ui _ _)));rw[u];go_wp2;go_roundw
    case rel=>
     have E:=v.o;rw[O.o,N.o,u]at E;first|rw[Xa rfl]at E|rw[X6 (by decide)]at E
     first
     | exact⟨j+1,B+1,by omega,by go_num,by go_num,by omega,below_drewN d _,a,k⟩
     | exact⟨j+1,B,by omega,by go_num,rfl,by omega,below_drewN d _,a,k⟩
    case measure=>simp[intOf];omega
  .have K:B=Yu ns ls:=by have E:=v.o;rw[YI (by omega)]at E;simpa[Yu]using E
   subst K;obtain rfl:j=ls.length:=by omega
   clear v W;obtain rfl:=Z.o;have Q:=X1 (Hv ns ls);go_wp2;go_loopw[16] (fun t wr=>∃j:Nat,j<=ls.length/\t= .q j/\XS ns (fun x=>x==17) ls=XS ns (fun x=>x==17) (ls.drop j)/\BL w wr/\w.heap.size<wr.heap.size/\wr.c w.heap.size 0=some (.l y ns.length tc)) (fun t _=>ls.length-(intOf t).toNat)
   case atStart=>exact⟨0,Xb _,rfl,by rw[Kh],d,a,k⟩
   case round=>
    obtain⟨j,W,rfl,J,d,a,k⟩:=hrel;have v:=X1 J;clear J;by_cases n:j<ls.length
    .have C:=F.o.2 j n;rw[Xu]at C;have M:ls[j]<ns.length:=A.o _ (YJ _);obtain⟨I,_⟩:=H.o.2 ls[j] M;have O:=X1 (Wx ns (fun x=>x==17) ls j n);have N:=X1 (QZ M);have a0:=(d.cell (p:=⟨g,j,none⟩) F.o.1).trans C;have a1:=(d.cell (p:=⟨y,ls[j]*5,none⟩) H.o.1).trans I;generalize ns[ls[j]].kind=V at *;generalize ls[j]=xj at *;clear C I;cases u:(V !=17);all_goals
      go_wp2;go_quiet(fail);try rw[u]
      go_wp2;first
      | (go_ret
         refine⟨Xn ?_,below_drewN d _⟩;rw[Q.o,v.o,O.o,N.o];first|(simp only[u,UW];done)|(simp at u;simp[u];done))
      | (go_roundw
         case rel=>
          refine⟨j+1,by omega,by go_num,?_,below_drewN d _,a,k⟩;rw[v.o,O.o,N.o];first|(simp only[u,Vs];done)|(simp at u;simp[u];done)
         case measure=>simp[intOf];omega)
    .have S:=X1 (show XS ns (fun x=>x==17) ls=true by rw[v.o,YI (by omega)];rfl);clear v;by_cases hn:(ls.length:Int)<=200
     .go_wp2_with(go_at_call 70;go_fit(Ix ns ls y tc g 0 c _ hl (H.o.below d) (F.o.below d) A.o);rintro e w1⟨rfl,U⟩);go_ret;refine⟨Xn ?_,d.trans (U.mono d.size)⟩;rw[Q.o,S.o];simp[hn]
     .go_wp2;go_ret;refine⟨Xn ?_,d⟩;rw[Q.o,JP (by omega)];simp
theorem X7p(r:Int)(ns:List Nd)(ls:List Nat)(B tc g c:Nat)(w:World)(hl:ls.length<=1048576)(W:K1 w B ns)(hi:YZ w g 0 ls)(J:∀x∈ls,x<ns.length)(m:r=23): CB 41 #[.agg #[.l B ns.length tc],.q r,.l g ls.length c] w (.bool (XU ns r ls)):=by
 have r1:BL w (w.z #[.l B ns.length tc] 25):=bA _;have O:=X1 W;have L:=X1 hi;have E:=X1 J;have X:=X1 m;have a2:=UG ns ls;clear W hi J m;go_enter func41,ntmps41;go_wp2;go_loopw[8,10] (fun s t wr=>∃(j y:Nat),j<=ls.length/\t= .q j/\s= .q y/\y+Yu ns (ls.drop j)=Yu ns ls/\BL w wr/\w.heap.size<wr.heap.size/\wr.c w.heap.size 0=some (.l B ns.length tc)) (fun _ t _=>ls.length-(intOf t).toNat)
 case atStart=>exact⟨0,0,Xb _,rfl,rfl,by simp,r1,by simp,by simp⟩
 case round=>
  obtain⟨j,y,V,rfl,rfl,H,d,a,k⟩:=hrel;have v:=X1 H;clear H;by_cases n:j<ls.length
  .have A:=L.o.2 j n;rw[Xu]at A;have K:ls[j]<ns.length:=E.o _ (YJ _);obtain⟨F,_⟩:=O.o.2 ls[j] K;have N:=X1 (VD ns ls j n);have M:=X1 (show Z1 ns ls[j]=Xs ns[ls[j]].kind 1 16 by unfold Z1;rw[QZ K]);have Z:=(d.cell (p:=⟨g,j,none⟩) L.o.1).trans A;have a1:=(d.cell (p:=⟨B,ls[j]*5,none⟩) O.o.1).trans F;generalize ns[ls[j]].kind=S at *;generalize ls[j]=xj at *;clear A F;have I:y<=ls.length:=by have:=v.o;omega
   cases u:Xs S 1 16;all_goals
    go_wp2;go_quiet((go_at_call 69;exact Calls.quiet_of_same (Ui _ _)));rw[u];go_wp2;go_roundw
    case rel=>
     have C:=v.o;rw[N.o,M.o,u]at C;first|rw[Xa rfl]at C|rw[X6 (by decide)]at C
     first
     | exact⟨j+1,y+1,by omega,by go_num,by go_num,by omega,below_drewN d _,a,k⟩
     | exact⟨j+1,y,by omega,by go_num,rfl,by omega,below_drewN d _,a,k⟩
    case measure=>simp[intOf];omega
  .have I:y=Yu ns ls:=by have C:=v.o;rw[YI (by omega)]at C;simpa[Yu]using C
   subst I;obtain rfl:j=ls.length:=by omega
   clear v V;obtain rfl:=X.o;have U:=X1 (Ht ns ls);go_wp2;go_loopw[14] (fun t wr=>∃j:Nat,j<=ls.length/\t= .q j/\XS ns (fun x=>x==5) ls=XS ns (fun x=>x==5) (ls.drop j)/\BL w wr/\w.heap.size<wr.heap.size/\wr.c w.heap.size 0=some (.l B ns.length tc)) (fun t _=>ls.length-(intOf t).toNat)
   case atStart=>exact⟨0,Xb _,rfl,by rw[Kh],d,a,k⟩
   case round=>
    obtain⟨j,V,rfl,H,d,a,k⟩:=hrel;have v:=X1 H;clear H;by_cases n:j<ls.length
    .have A:=L.o.2 j n;rw[Xu]at A;have K:ls[j]<ns.length:=E.o _ (YJ _);obtain⟨F,_⟩:=O.o.2 ls[j] K;have N:=X1 (Wx ns (fun x=>x==5) ls j n);have M:=X1 (QZ K);have Z:=(d.cell (p:=⟨g,j,none⟩) L.o.1).trans A;have a1:=(d.cell (p:=⟨B,ls[j]*5,none⟩) O.o.1).trans F;generalize ns[ls[j]].kind=S at *;generalize ls[j]=xj at *;clear A F;cases u:(S !=5);all_goals
      go_wp2;go_quiet(fail);try rw[u]
      go_wp2;first
      | (go_ret
         refine⟨Xn ?_,below_drewN d _⟩;rw[U.o,v.o,N.o,M.o];first|(simp only[u,UW];done)|(simp at u;simp[u];done))
      | (go_roundw
         case rel=>
          refine⟨j+1,by omega,by go_num,?_,below_drewN d _,a,k⟩;rw[v.o,N.o,M.o];first|(simp only[u,Vs];done)|(simp at u;simp[u];done)
         case measure=>simp[intOf];omega)
    .have Q:=X1 (show XS ns (fun x=>x==5) ls=true by rw[v.o,YI (by omega)];rfl);clear v;go_wp2_with(go_at_call 39;go_fit(ZD _ _ _ _);rintro e w'⟨rfl,rfl⟩);go_ret;refine⟨Xn ?_,d⟩;rw[U.o,Q.o];rfl
theorem X7q(r:Int)(ns:List Nd)(ls:List Nat)(B tc g c:Nat)(w:World)(hl:ls.length<=1048576)(W:K1 w B ns)(hi:YZ w g 0 ls)(J:∀x∈ls,x<ns.length)(m:r=24): CB 41 #[.agg #[.l B ns.length tc],.q r,.l g ls.length c] w (.bool (XU ns r ls)):=by
 have r1:BL w (w.z #[.l B ns.length tc] 25):=bA _;have O:=X1 W;have L:=X1 hi;have E:=X1 J;have X:=X1 m;have a2:=UG ns ls;clear W hi J m;go_enter func41,ntmps41;go_wp2;go_loopw[8,10] (fun s t wr=>∃(j y:Nat),j<=ls.length/\t= .q j/\s= .q y/\y+Yu ns (ls.drop j)=Yu ns ls/\BL w wr/\w.heap.size<wr.heap.size/\wr.c w.heap.size 0=some (.l B ns.length tc)) (fun _ t _=>ls.length-(intOf t).toNat)
 case atStart=>exact⟨0,0,Xb _,rfl,rfl,by simp,r1,by simp,by simp⟩
 case round=>
  obtain⟨j,y,V,rfl,rfl,H,d,a,k⟩:=hrel;have v:=X1 H;clear H;by_cases n:j<ls.length
  .have A:=L.o.2 j n;rw[Xu]at A;have K:ls[j]<ns.length:=E.o _ (YJ _);obtain⟨F,_⟩:=O.o.2 ls[j] K;have N:=X1 (VD ns ls j n);have M:=X1 (show Z1 ns ls[j]=Xs ns[ls[j]].kind 1 16 by unfold Z1;rw[QZ K]);have Z:=(d.cell (p:=⟨g,j,none⟩) L.o.1).trans A;have a1:=(d.cell (p:=⟨B,ls[j]*5,none⟩) O.o.1).trans F;generalize ns[ls[j]].kind=S at *;generalize ls[j]=xj at *;clear A F;have I:y<=ls.length:=by have:=v.o;omega
   cases u:Xs S 1 16;all_goals
    go_wp2;go_quiet((go_at_call 69;exact Calls.quiet_of_same (Ui _ _)));rw[u];go_wp2;go_roundw
    case rel=>
     have C:=v.o;rw[N.o,M.o,u]at C;first|rw[Xa rfl]at C|rw[X6 (by decide)]at C
     first
     | exact⟨j+1,y+1,by omega,by go_num,by go_num,by omega,below_drewN d _,a,k⟩
     | exact⟨j+1,y,by omega,by go_num,rfl,by omega,below_drewN d _,a,k⟩
    case measure=>simp[intOf];omega
  .have I:y=Yu ns ls:=by have C:=v.o;rw[YI (by omega)]at C;simpa[Yu]using C
   subst I;obtain rfl:j=ls.length:=by omega
   clear v V;obtain rfl:=X.o;have U:=X1 (Hu ns ls);go_wp2;go_loopw[15] (fun t wr=>∃j:Nat,j<=ls.length/\t= .q j/\XS ns (fun x=>Xs x 20 23) ls=XS ns (fun x=>Xs x 20 23) (ls.drop j)/\BL w wr/\w.heap.size<wr.heap.size/\wr.c w.heap.size 0=some (.l B ns.length tc)) (fun t _=>ls.length-(intOf t).toNat)
   case atStart=>exact⟨0,Xb _,rfl,by rw[Kh],d,a,k⟩
   case round=>
    obtain⟨j,V,rfl,H,d,a,k⟩:=hrel;have v:=X1 H;clear H;by_cases n:j<ls.length
    .have A:=L.o.2 j n;rw[Xu]at A;have K:ls[j]<ns.length:=E.o _ (YJ _);obtain⟨F,_⟩:=O.o.2 ls[j] K;have N:=X1 (Wx ns (fun x=>Xs x 20 23) ls j n);have M:=X1 (QZ K);have Z:=(d.cell (p:=⟨g,j,none⟩) L.o.1).trans A;have a1:=(d.cell (p:=⟨B,ls[j]*5,none⟩) O.o.1).trans F;generalize ns[ls[j]].kind=S at *;generalize ls[j]=xj at *;clear A F;cases u:Xs S 20 23;all_goals
      go_wp2;go_quiet((go_at_call 39;exact Calls.quiet_of_same (ZD _ _ _ _)));try rw[u]
      go_wp2;first
      | (go_ret
         refine⟨Xn ?_,below_drewN d _⟩;rw[U.o,v.o,N.o,M.o];first|(simp only[u,UW];done)|(simp at u;simp[u];done))
      | (go_roundw
         case rel=>
          refine⟨j+1,by omega,by go_num,?_,below_drewN d _,a,k⟩;rw[v.o,N.o,M.o];first|(simp only[u,Vs];done)|(simp at u;simp[u];done)
         case measure=>simp[intOf];omega)
    .have Q:=X1 (show XS ns (fun x=>Xs x 20 23) ls=true by rw[v.o,YI (by omega)];rfl);clear v;by_cases hn:(ls.length:Int)<=200;all_goals
      go_wp2;go_ret;refine⟨Xn ?_,d⟩;rw[U.o,Q.o];simp[hn]
theorem X7u(a:Int)(ns:List Nd)(ls:List Nat)(B tc g c:Nat)(w:World)(hl:ls.length<=1048576)(M:K1 w B ns)(hi:YZ w g 0 ls)(y:∀x∈ls,x<ns.length)(d:a<1\/24<a): CB 41 #[.agg #[.l B ns.length tc],.q a,.l g ls.length c] w (.bool (XU ns a ls)):=by
 have r1:BL w (w.z #[.l B ns.length tc] 25):=bA _;have I:=X1 M;have H:=X1 hi;have E:=X1 y;have O:=X1 d;have U:=UG ns ls;clear M hi y d;go_enter func41,ntmps41;go_wp2;go_loopw[8,10] (fun s t wr=>∃(j m:Nat),j<=ls.length/\t= .q j/\s= .q m/\m+Yu ns (ls.drop j)=Yu ns ls/\BL w wr/\w.heap.size<wr.heap.size/\wr.c w.heap.size 0=some (.l B ns.length tc)) (fun _ t _=>ls.length-(intOf t).toNat)
 case atStart=>exact⟨0,0,Xb _,rfl,rfl,by simp,r1,by simp,by simp⟩
 case round=>
  obtain⟨j,m,V,rfl,rfl,K,r,k,u⟩:=hrel;have C:=X1 K;clear K;by_cases A:j<ls.length
  .have F:=H.o.2 j A;rw[Xu]at F;have N:ls[j]<ns.length:=E.o _ (YJ _);obtain⟨J,_⟩:=I.o.2 ls[j] N;have S:=X1 (VD ns ls j A);have Q:=X1 (show Z1 ns ls[j]=Xs ns[ls[j]].kind 1 16 by unfold Z1;rw[QZ N]);have X:=(r.cell (p:=⟨g,j,none⟩) H.o.1).trans F;have Z:=(r.cell (p:=⟨B,ls[j]*5,none⟩) I.o.1).trans J;generalize ns[ls[j]].kind=W at *;generalize ls[j]=xj at *;clear F J;have v:m<=ls.length:=by have:=C.o;omega
   cases L:Xs W 1 16;all_goals
    go_wp2;go_quiet((go_at_call 69;exact Calls.quiet_of_same (Ui _ _)));rw[L];go_wp2;go_roundw
    case rel=>
     have n:=C.o;rw[S.o,Q.o,L]at n;first|rw[Xa rfl]at n|rw[X6 (by decide)]at n
     first
     | exact⟨j+1,m+1,by omega,by go_num,by go_num,by omega,below_drewN r _,k,u⟩
     | exact⟨j+1,m,by omega,by go_num,rfl,by omega,below_drewN r _,k,u⟩
    case measure=>simp[intOf];omega
  .have v:m=Yu ns ls:=by have n:=C.o;rw[YI (by omega)]at n;simpa[Yu]using n
   subst v;obtain rfl:j=ls.length:=by omega
   clear C V;have h0:=O.o;go_wp2;all_goals
    go_ret;refine⟨Xn ?_,r⟩;unfold XU;repeat rw[X6 (by omega)]
structure FOp where
 un:Int->Nd->Option Nd
 bin:Int->Nd->Nd->Option Nd
namespace Fd
abbrev isC(x:Nd):Prop:=1<=x.kind/\x.kind<=4
abbrev stops(op:Int)(a:Nd):Prop:=a.kind=2/\(op=1/\a.n=1\/op=2/\a.n=0)
def one(c:Nd):Fd:= .mk c (-1) (-1) []
def back(out:Fd):Option Nd->Fd
 | some c=>one c
 | none=>out
def fin(O:FOp)(F:Fd->Fd)(x:Nd)(p b:Int)(ks:List Fd):Fd:=
 if x.kind=6 then(match ks with
  | [k]=>if isC k.x then back (.mk x p b ks) (O.un x.op k.x)else .mk x p b ks
  | _=> .mk x p b ks)
 else if x.kind=7 then(match ks with
  | [k,l]=>if stops x.op k.x then k else if isC k.x/\isC l.x then back (.mk x p b ks) (O.bin x.op k.x l.x)else .mk x p b ks
  | _=> .mk x p b ks)
 else if x.kind=13 then(match ks with
  | [k,l,m]=>if k.x.kind=2 then(if k.x.n=1 then l else m)else .mk x p b ks
  | _=> .mk x p b ks)
 else if x.kind=14 then(match ks with
  | [k,l]=>if isC k.x then F (Y3z p k.x l)else .mk x p b ks
  | _=> .mk x p b ks)
 else .mk x p b ks
structure CN (x:Nd):Prop where
 c:isC x
 op:x.op=0
 n0:0<=x.n
 n1:x.n<9223372036854775808
 bit:x.kind=2->x.n=0\/x.n=1
 zero:x.kind≠2->x.kind≠3->x.n=0
 text:x.kind≠4->x.text=⟨#[]⟩
 long:x.text.size<=1000
structure Loc (x:Nd) (ks:List Fd):Prop where
 c:isC x->CN x/\ks=[]
 name:x.kind=5->ks=[]
 un:x.kind=6->ks.length=1/\1<=x.op/\x.op<=2
 bin:x.kind=7->ks.length=2/\1<=x.op/\x.op<=14
 choice:x.kind=13->ks.length=3
 bind:x.kind=14->ks.length=2
 fn:x.kind=15->0<ks.length
 each:x.kind=16->0<ks.length
 low:1<=x.kind
 high:x.kind<=24
def Good:Fd->Prop
 | .mk x _ _ ks=>Loc x ks/\goodL ks
 where
 goodL:List Fd->Prop
 | []=>True
 | t::r=>Good t/\goodL r
structure Uw (O:FOp):Prop where
 un:∀op k c,CN k->O.un op k=some c->CN c
 bin:∀op k l c,CN k->CN l->O.bin op k l=some c->CN c
def Xy:Fd->List Nd
 | .mk x _ _ ks=>giveL ks++[{x with kids:=ks.length}]
 where
 giveL:List Fd->List Nd
 | []=>[]
 | t::r=>Xy t++giveL r
theorem Zh(x:Nd)(p b:Int)(ks:List Fd):Xy (.mk x p b ks)=Xy.giveL ks++[{x with kids:=ks.length}]:=by rw[Xy]
theorem Jh(t:Fd)(r:List Fd):Xy.giveL (t::r)=Xy t++Xy.giveL r:=by rw[Xy.giveL]
theorem Ax(a b:List Fd):Xy.giveL (a++b)=Xy.giveL a++Xy.giveL b:=by
 induction a with
 | nil=>simp[Xy.giveL]
 | cons t r d=>rw[Ux,Jh,Jh,d,KL]
theorem X1w:∀(n:Nat) (y:Fd),y.size<=n->(Xy y).length=y.size:=by
 intro n;induction n with
 | zero=>intro y a;have:=size_pos y;omega
 | succ n k=>
  intro y a;obtain⟨x,p,b,ks⟩:=y;rw[UU]at a;have g:∀t∈ks,t.size<=n:=fun t j=>by have:=Wc j;omega
  rw[Zh,UU,Xj,Ds];have m:(Xy.giveL ks).length=Jn ks:=by
   clear a;induction ks with
   | nil=>rw[Y1g];simp[Xy.giveL]
   | cons t r d=>rw[Jh,PJ,Xj,k t (g t (by simp)),d (fun y a=>g y (by simp[a]))]
  omega
