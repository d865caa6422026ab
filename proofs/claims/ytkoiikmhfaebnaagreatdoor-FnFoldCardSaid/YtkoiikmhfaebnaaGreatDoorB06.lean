import Derived.Test.YtkoiikmhfaebnaaGreatDoorB01
set_option maxHeartbeats 4000000
set_option maxRecDepth 100000
namespace Go.Proofs.YtkoiikmhfaebnaaGreatDoor
open Tryz Go.RowKit
def I4(ns:List Nd)(ls:List Nat):Bool:=XJ ns (fun x=>x==19) ls.dropLast&&(ls.getLast?.map (Yy ns)==some true)&&decide ((ls.length:Int)-1<=8)
theorem Td(ns:List Nd)(ls:List Nat):XA ns 15 ls=I4 ns ls:=by unfold XA;rfl
theorem Te(ns:List Nd)(ls:List Nat):XA ns 20 ls=I4 ns ls:=by unfold XA;rfl
theorem Tc(ns:List Nd)(ls:List Nat):XA ns 12 ls=(XJ ns (fun x=>x==18) (ls.drop (YI ns ls))&&decide (1<=(YI ns ls:Int))&&decide ((ls.length:Int)-1<=8)&&J9 ns (ls.drop (YI ns ls))):=by unfold XA;rfl
theorem Nu(ns:List Nd)(ls:List Nat)(j:Nat)(h:j<ls.length):YI ns (ls.drop j)=if Yy ns ls[j]=true then 1+YI ns (ls.drop (j+1))else 0:=by
 rw[Zp h];rfl
theorem Nj(ls:List Nat)(j:Nat)(h:j+1<ls.length):ls.dropLast[j]'(by simp;omega)=ls[j]:=by simp
theorem Xac(kind:Int)(ns:List Nd)(ls:List Nat)(z N g c:Nat)(w:World)(hl:ls.length<=1048576)(ht:Yw w z ns)(hi:Yz w g 0 ls)(L:∀x∈ls,x<ns.length)(n:kind=15\/kind=20): Calls prog 136 #[.agg #[.slice (some ⟨z,0,none⟩) ns.length N],.int .i64 kind,.slice (some ⟨g,0,none⟩) ls.length c] w fun e w'=>e= .returned (.bool (XA ns kind ls))/\Below w.heap.size w w':=by
 have r1:BL w (w.alloc (.cells #[.slice (some ⟨z,0,none⟩) ns.length N] 25)):=bA _;have E:=X1 ht;have C:=X1 hi;have A:=X1 L;have Y:=X1 n;have a2:=UH ns ls;clear ht hi L n;go_enter func136,ntmps136;go_wp2;go_loopw[8,10] (fun s t wr=>∃(j B:Nat),j<=ls.length/\t= .int .i64 j/\s= .int .i64 B/\B+Y7 ns (ls.drop j)=Y7 ns ls/\BL w wr/\w.heap.size<wr.heap.size/\wr.cell? ⟨w.heap.size,0,none⟩=some (.slice (some ⟨z,0,none⟩) ns.length N)) (fun _ t _=>ls.length-(intOf t).toNat)
 case atStart=>exact⟨0,0,X6 _,rfl,rfl,by simp,r1,by simp,by simp⟩
 case round=>
  obtain⟨j,B,hj,rfl,rfl,J,d,a,l⟩:=hrel;have r:=X1 J;clear J;by_cases u:j<ls.length
  .have k:=C.o.2 j u;rw[Xn]at k;have y:ls[j]<ns.length:=A.o _ (XR _);obtain⟨v,_⟩:=E.o.2 ls[j] y;have M:=X1 (WG ns ls j u);have D:=X1 (show Yy ns ls[j]=Xl ns[ls[j]].kind 1 16 by unfold Yy;rw[ZC y]);have V:=(d.cell (p:=⟨g,j,none⟩) C.o.1).trans k;have Z:=(d.cell (p:=⟨z,ls[j]*5,none⟩) E.o.1).trans v;generalize ns[ls[j]].kind=H at *;generalize ls[j]=xj at *;clear k v;have K:B<=ls.length:=by have:=r.o;omega
   cases q:Xl H 1 16;all_goals
    go_wp2;go_quiet((go_at_call 196;exact Calls.quiet_of_same (UP _ _)));rw[q];go_wp2;go_roundw
    case rel=>
     have F:=r.o;rw[M.o,D.o,q]at F;first|rw[X3 rfl]at F|rw[X2 (by decide)]at F
     first
     | exact⟨j+1,B+1,by omega,by go_num,by go_num,by omega,below_drewN d _,a,l⟩
     | exact⟨j+1,B,by omega,by go_num,rfl,by omega,below_drewN d _,a,l⟩
    case measure=>simp[intOf];omega
  .have K:B=Y7 ns ls:=by have F:=r.o;rw[Yu (by omega)]at F;simpa[Y7]using F
   subst K;obtain rfl:j=ls.length:=by omega
   clear r hj;have P:Hid (XA ns kind ls=I4 ns ls):=X1 (by rcases Y.o with rfl|rfl;exact Td ns ls;exact Te ns ls);have W:kind=15\/kind=20:=Y.o;rcases W with rfl|rfl;all_goals
    go_wp2;go_loopw[13] (fun t wr=>∃j:Nat,j<=ls.length/\t= .int .i64 j/\XJ ns (fun x=>x==19) ls.dropLast=XJ ns (fun x=>x==19) (ls.dropLast.drop j)/\BL w wr/\w.heap.size<wr.heap.size/\wr.cell? ⟨w.heap.size,0,none⟩=some (.slice (some ⟨z,0,none⟩) ns.length N)) (fun t _=>ls.length-(intOf t).toNat)
    case atStart=>exact⟨0,X6 _,rfl,by rw[Qm],d,a,l⟩
    case round=>
     obtain⟨j,hj,rfl,J,d,a,l⟩:=hrel;have r:=X1 J;clear J;by_cases u:j+1<ls.length
     .have k:=C.o.2 j (by omega);rw[Xn]at k;have y:ls[j]<ns.length:=A.o _ (XR _);obtain⟨v,_⟩:=E.o.2 ls[j] y;have M:=X1 (DJ ns (fun x=>x==19) ls.dropLast j (by simp;omega));have I:=X1 (Nj ls j u);have D:=X1 (ZC y);have V:=(d.cell (p:=⟨g,j,none⟩) C.o.1).trans k;have Z:=(d.cell (p:=⟨z,ls[j]*5,none⟩) E.o.1).trans v;generalize ns[ls[j]].kind=H at *;generalize ls[j]=xj at *;clear k v;cases q:(H !=19);all_goals
       go_wp2;go_quiet(fail);try rw[q]
       go_wp2;first
       | (go_ret
          refine⟨Xf ?_,below_drewN d _⟩;rw[P.o,I4,r.o,M.o,I.o,D.o];simp at q;simp[q]
          done)
       | (go_roundw
          case rel=>
           refine⟨j+1,by omega,by go_num,?_,below_drewN d _,a,l⟩;rw[r.o,M.o,I.o,D.o];simp at q;simp[q]
           done
          case measure=>simp[intOf];omega)
     .have Q:=X1 (show XJ ns (fun x=>x==19) ls.dropLast=true by rw[r.o,Yu (by simp;omega)];rfl);clear r;by_cases h0:ls.length=0
      .go_wp2;go_quiet(fail);go_wp2;go_ret;refine⟨Xf ?_,below_drewN d _⟩;have:ls=[]:=JC h0;rw[P.o,this];rfl
      .have k:=C.o.2 (ls.length-1) (by omega);rw[Xn]at k;have y:ls[ls.length-1]<ns.length:=A.o _ (XR _);obtain⟨v,_⟩:=E.o.2 ls[ls.length-1] y;have HL:=X1 (show ls.getLast?=some (ls[ls.length-1]'(by omega)) by rw[P0];simp);have D:=X1 (show Yy ns (ls[ls.length-1]'(by omega))=Xl ns[ls[ls.length-1]].kind 1 16 by unfold Yy;rw[ZC y]);have V:=(d.cell (p:=⟨g,ls.length-1,none⟩) C.o.1).trans k;have Z:=(d.cell (p:=⟨z,ls[ls.length-1]*5,none⟩) E.o.1).trans v;generalize ns[ls[ls.length-1]].kind=H at *;generalize ls[ls.length-1]'(by omega)=xj at *;clear k v;obtain⟨m,hm⟩:∃m,ls.length=m+1:=⟨ls.length-1,by omega⟩;rw[hm,Lx]at V;have a3:(1:Int)<=(m:Int)+1:=by omega
       cases q:Xl H 1 16;all_goals by_cases h8:(m:Int)<=8
       all_goals
        have X:=fun w=>UP H w;simp only[q]at X;have S:=X1 X;clear X;go_wp2;go_quiet((go_at_call 196;exact Calls.quiet_of_same (S.o _)));go_wp2;go_ret;refine⟨Xf ?_,below_drewN d _⟩;rw[P.o,I4,Q.o,HL.o,Vi,D.o,q,hm];simp;try omega
def KW(w:World)(v:Value):Type:={x:World // Below w.heap.size w x/\w.heap.size<x.heap.size/\x.cell? ⟨w.heap.size,0,none⟩=some v}
def KW.w{w:World}{v:Value}(q:KW w v):World:=q.1
theorem KW.box{w:World}{v:Value}(q:KW w v):q.w.cell? ⟨w.heap.size,0,none⟩=some v:=q.2.2.2
theorem KW.below{w:World}{v:Value}(q:KW w v):Below w.heap.size w q.w:=q.2.1
theorem JY{P:Program}{α:Type}(c:α->World){m:Nat}{Q:Exit->Act->World->Prop}{a:Act}{w:World}{l:List Oper}(k:P.follows .mixedOrders=true)(j:Region.lexB .any l.toArray=true)(g:∃q,w.drewN 1=c q)(h:wpQuiet P l.toArray (fun w'=>∃q,w'=c q) (fun d=>∀w',(∃q,w'=c q)->Q .normal d w') l a):(Code.region m l.toArray true).wp P Q a w:=wp_region_quiet (C:=fun w'=>∃q,w'=c q) k j g (by simpa using h)
theorem Rw{P:Program}{f:FuncId}{a:Array Value}{r v:Value}{w:World}(h:∀w1,BL w w1->Calls P f a w1 fun e w'=>e= .returned r/\BL w1 w')(q:KW w v): Calls P f a q.w fun e d=>e= .returned r/\∃q':KW w v,d=q'.w:=(h q.w q.2.1).mono fun _ g c=>⟨c.1,⟨⟨g,q.2.1.trans (c.2.mono q.2.1.size),Xd q.2.2.1 c.2.size,(c.2.cell (p:=⟨w.heap.size,0,none⟩) q.2.2.1).trans q.2.2.2⟩,rfl⟩⟩
theorem X9v(kind:Int)(ns:List Nd)(ls:List Nat)(l u g c:Nat)(w:World)(hl:ls.length<=1048576)(ht:Yw w l ns)(hi:Yz w g 0 ls)(a4:∀x∈ls,x<ns.length)(P:kind=12)(b0:ls.length<=c): Calls prog 136 #[.agg #[.slice (some ⟨l,0,none⟩) ns.length u],.int .i64 kind,.slice (some ⟨g,0,none⟩) ls.length c] w fun e w'=>e= .returned (.bool (XA ns kind ls))/\Below w.heap.size w w':=by
 have r1:BL w (w.alloc (.cells #[.slice (some ⟨l,0,none⟩) ns.length u] 25)):=bA _;have J:=X1 ht;have F:=X1 hi;have B:=X1 a4;have HK:=X1 P;have b1:=UH ns ls;clear ht hi a4 P;go_enter func136,ntmps136;go_wp2;go_loopw[8,10] (fun s t wr=>∃(j es:Nat),j<=ls.length/\t= .int .i64 j/\s= .int .i64 es/\es+Y7 ns (ls.drop j)=Y7 ns ls/\BL w wr/\w.heap.size<wr.heap.size/\wr.cell? ⟨w.heap.size,0,none⟩=some (.slice (some ⟨l,0,none⟩) ns.length u)) (fun _ t _=>ls.length-(intOf t).toNat)
 case atStart=>exact⟨0,0,X6 _,rfl,rfl,by simp,r1,by simp,by simp⟩
 case round=>
  obtain⟨j,es,hj,rfl,rfl,he,k,a,d⟩:=hrel;have V:=X1 he;clear he;by_cases Q:j<ls.length
  .have z:=F.o.2 j Q;rw[Xn]at z;have S:ls[j]<ns.length:=B.o _ (XR _);obtain⟨L,_⟩:=J.o.2 ls[j] S;have I:=X1 (WG ns ls j Q);have H:=X1 (show Yy ns ls[j]=Xl ns[ls[j]].kind 1 16 by unfold Yy;rw[ZC S]);have a0:=(k.cell (p:=⟨g,j,none⟩) F.o.1).trans z;have a1:=(k.cell (p:=⟨l,ls[j]*5,none⟩) J.o.1).trans L;generalize ns[ls[j]].kind=kj at *;generalize ls[j]=xj at *;clear z L;have a3:es<=ls.length:=by have:=V.o;omega
   cases y:Xl kj 1 16;all_goals
    go_wp2;go_quiet((go_at_call 196;exact Calls.quiet_of_same (UP _ _)));rw[y];go_wp2;go_roundw
    case rel=>
     have C:=V.o;rw[I.o,H.o,y]at C;first|rw[X3 rfl]at C|rw[X2 (by decide)]at C
     first
     | exact⟨j+1,es+1,by omega,by go_num,by go_num,by omega,below_drewN k _,a,d⟩
     | exact⟨j+1,es,by omega,by go_num,rfl,by omega,below_drewN k _,a,d⟩
    case measure=>simp[intOf];omega
  .have a3:es=Y7 ns ls:=by have C:=V.o;rw[Yu (by omega)]at C;simpa[Y7]using C
   subst a3;obtain rfl:j=ls.length:=by omega
   clear V hj;obtain rfl:=HK.o;have X:=X1 (Tc ns ls);go_wp2;go_loopw[9] (fun t wr=>∃f:Nat,f<=ls.length/\t= .int .i64 f/\f+YI ns (ls.drop f)=YI ns ls/\BL w wr/\w.heap.size<wr.heap.size/\wr.cell? ⟨w.heap.size,0,none⟩=some (.slice (some ⟨l,0,none⟩) ns.length u)) (fun t _=>ls.length-(intOf t).toNat)
   case atStart=>exact⟨0,X6 _,rfl,by simp,k,a,d⟩
   case round=>
    obtain⟨f,hf,rfl,he,k,a,d⟩:=hrel;have V:=X1 he;clear he;by_cases Q:f<ls.length
    .have z:=F.o.2 f Q;rw[Xn]at z;have S:ls[f]<ns.length:=B.o _ (XR _);obtain⟨L,_⟩:=J.o.2 ls[f] S;have I:=X1 (Nu ns ls f Q);have H:=X1 (show Yy ns ls[f]=Xl ns[ls[f]].kind 1 16 by unfold Yy;rw[ZC S]);have a0:=(k.cell (p:=⟨g,f,none⟩) F.o.1).trans z;have a1:=(k.cell (p:=⟨l,ls[f]*5,none⟩) J.o.1).trans L;generalize ns[ls[f]].kind=kf at *;generalize ls[f]=xf at *;clear z L;cases y:Xl kf 1 16
     .have hE:=fun w=>UP kf w;simp only[y]at hE;have Z:=X1 hE;clear hE;have W:Hid (YI ns ls=f):=X1 (by have C:=V.o;rw[I.o,H.o,y,X2 (by decide)]at C;omega);go_wp2;go_quiet((go_at_call 196;exact Calls.quiet_of_same (Z.o _)));go_wp2;clear a0 a1 I H Z V;go_loopw[12] (fun t A=>∃j:Nat,f<=j/\j<=ls.length/\t= .int .i64 j/\XJ ns (fun x=>x==18) (ls.drop f)=XJ ns (fun x=>x==18) (ls.drop j)/\BL w A/\w.heap.size<A.heap.size/\A.cell? ⟨w.heap.size,0,none⟩=some (.slice (some ⟨l,0,none⟩) ns.length u)) (fun t _=>ls.length-(intOf t).toNat)
      case atStart=>exact⟨f,X4 _,hf,rfl,rfl,below_drewN k _,a,d⟩
      case round=>
       obtain⟨j,a8,hj,rfl,M,k,a,d⟩:=hrel;have n:=X1 M;clear M;by_cases N:j<ls.length
       .have z:=F.o.2 j N;rw[Xn]at z;have S:ls[j]<ns.length:=B.o _ (XR _);obtain⟨L,_⟩:=J.o.2 ls[j] S;have I:=X1 (DJ ns (fun x=>x==18) ls j N);have H:=X1 (ZC S);have a0:=(k.cell (p:=⟨g,j,none⟩) F.o.1).trans z;have a1:=(k.cell (p:=⟨l,ls[j]*5,none⟩) J.o.1).trans L;generalize ns[ls[j]].kind=kj at *;generalize ls[j]=xj at *;clear z L;cases y:(kj !=18);all_goals
         go_wp2;go_quiet(fail);go_wp2;first
         | (go_ret
            refine⟨Xf ?_,below_drewN k _⟩;rw[X.o,W.o,n.o,I.o,H.o];simp at y;simp[y]
            done)
         | (go_roundw
            case rel=>
             refine⟨j+1,by omega,by omega,by go_num,?_,below_drewN k _,a,d⟩;rw[n.o,I.o,H.o];simp at y;simp[y]
             done
            case measure=>simp[intOf];omega)
       .have Y:=X1 (show XJ ns (fun x=>x==18) (ls.drop f)=true by rw[n.o,Yu (by omega)];rfl);clear n;by_cases h1:(1:Int)<=f
        .by_cases h8:(ls.length:Int)-1<=8
         .by_cases a7:c=f
          .exfalso;omega
          .have m:=fun w1 (hb:BL w w1)=>LQ ns (ls.drop f) l u g f (c-f) w1 (by simp;omega) (J.o.below hb) (by have:=(F.o.below hb).drop f;rwa[Xn]at this) (fun x h=>B.o x (KQ h));rw[YA]at m;have E:=X1 m;clear m;go_wp2;have r:(1:Int)<=(f:Int):=by omega
           have D:(ls.length:Int)-1<=8:=by omega
           refine JY (KW.w (w:=w) (v:= .slice (some ⟨l,0,none⟩) ns.length u)) (by kernel_rfl) (by kernel_rfl) ⟨⟨_,below_drewN k _,a,d⟩,rfl⟩ ?_;have hbx:=fun q:KW w (.slice (some ⟨l,0,none⟩) ns.length u)=>q.box;haveI hne:Nonempty (KW w (.slice (some ⟨l,0,none⟩) ns.length u)):=⟨⟨_,k,a,d⟩⟩;repeat(go_big_quiet_step ((go_at_call 197;exact Rw E.o _)))
           refine wpQuiet_nil ?_;rintro _⟨q,rfl⟩;have K:=q.below;go_wp2;go_ret;refine⟨Xf ?_,K⟩;rw[X.o,W.o,Y.o];simp[r,D]
         .go_wp2;have r:(1:Int)<=(f:Int):=by omega
          have D:¬((ls.length:Int)-1<=8):=by omega
          go_quiet(fail);go_wp2;go_ret;refine⟨Xf ?_,below_drewN k _⟩;rw[X.o,W.o,Yb (p:=(ls.length:Int)-1<=8) (by omega)];simp
        .go_wp2;have r:¬((1:Int)<=(f:Int)):=by omega
         go_quiet(fail);go_wp2;go_ret;refine⟨Xf ?_,below_drewN k _⟩;rw[X.o,W.o,Yb (p:=(1:Int)<=f) (by omega)];simp
     .have hE:=fun w=>UP kf w;simp only[y]at hE;have Z:=X1 hE;clear hE;go_wp2;go_quiet((go_at_call 196;exact Calls.quiet_of_same (Z.o _)));go_wp2;go_roundw
      case rel=>
       refine⟨f+1,by omega,by go_num,?_,below_drewN k _,a,d⟩;have C:=V.o;rw[I.o,H.o,y,X3 rfl]at C;omega
      case measure=>simp[intOf];omega
    .have W:Hid (YI ns ls=f):=X1 (by have C:=V.o;rw[Yu (by omega)]at C;simpa[YI]using C.symm);go_wp2;go_quiet(fail);go_wp2;clear V;go_loopw[12] (fun t A=>∃j:Nat,f<=j/\j<=ls.length/\t= .int .i64 j/\XJ ns (fun x=>x==18) (ls.drop f)=XJ ns (fun x=>x==18) (ls.drop j)/\BL w A/\w.heap.size<A.heap.size/\A.cell? ⟨w.heap.size,0,none⟩=some (.slice (some ⟨l,0,none⟩) ns.length u)) (fun t _=>ls.length-(intOf t).toNat)
     case atStart=>exact⟨f,X4 _,hf,rfl,rfl,below_drewN k _,a,d⟩
     case round=>
      obtain⟨j,a8,hj,rfl,M,k,a,d⟩:=hrel;have n:=X1 M;clear M;by_cases N:j<ls.length
      .have z:=F.o.2 j N;rw[Xn]at z;have S:ls[j]<ns.length:=B.o _ (XR _);obtain⟨L,_⟩:=J.o.2 ls[j] S;have I:=X1 (DJ ns (fun x=>x==18) ls j N);have H:=X1 (ZC S);have a0:=(k.cell (p:=⟨g,j,none⟩) F.o.1).trans z;have a1:=(k.cell (p:=⟨l,ls[j]*5,none⟩) J.o.1).trans L;generalize ns[ls[j]].kind=kj at *;generalize ls[j]=xj at *;clear z L;cases y:(kj !=18);all_goals
        go_wp2;go_quiet(fail);go_wp2;first
        | (go_ret
           refine⟨Xf ?_,below_drewN k _⟩;rw[X.o,W.o,n.o,I.o,H.o];simp at y;simp[y]
           done)
        | (go_roundw
           case rel=>
            refine⟨j+1,by omega,by omega,by go_num,?_,below_drewN k _,a,d⟩;rw[n.o,I.o,H.o];simp at y;simp[y]
            done
           case measure=>simp[intOf];omega)
      .have Y:=X1 (show XJ ns (fun x=>x==18) (ls.drop f)=true by rw[n.o,Yu (by omega)];rfl);clear n;by_cases h1:(1:Int)<=f
       .by_cases h8:(ls.length:Int)-1<=8
        .by_cases a7:c=f
         .have a9:ls.length=f:=by omega
          have a2:ls.drop f=[]:=Yu (by omega);have m:=fun w1 (hb:BL w w1)=>LQ ns [] l u g 0 0 w1 (X6 _) (J.o.below hb) ⟨(F.o.below hb).1,fun j h=>absurd h (U8 _)⟩ (fun x h=>by cases h);have E:=X1 m;have a5:=X1 a2;clear m a2;have a6:(f:Int)-1<=8:=by omega
          go_wp2;have r:(1:Int)<=(f:Int):=by omega
          have D:(ls.length:Int)-1<=8:=by omega
          refine JY (KW.w (w:=w) (v:= .slice (some ⟨l,0,none⟩) ns.length u)) (by kernel_rfl) (by kernel_rfl) ⟨⟨_,below_drewN k _,a,d⟩,rfl⟩ ?_;have hbx:=fun q:KW w (.slice (some ⟨l,0,none⟩) ns.length u)=>q.box;haveI hne:Nonempty (KW w (.slice (some ⟨l,0,none⟩) ns.length u)):=⟨⟨_,k,a,d⟩⟩;repeat(go_big_quiet_step ((go_at_call 197;exact Rw E.o _)))
          refine wpQuiet_nil ?_;rintro _⟨q,rfl⟩;have K:=q.below;go_wp2;go_ret;refine⟨Xf ?_,K⟩;rw[X.o,W.o,Y.o,a5.o,a9];simp[r,a6]
         .have m:=fun w1 (hb:BL w w1)=>LQ ns (ls.drop f) l u g f (c-f) w1 (by simp;omega) (J.o.below hb) (by have:=(F.o.below hb).drop f;rwa[Xn]at this) (fun x h=>B.o x (KQ h));rw[YA]at m;have E:=X1 m;clear m;go_wp2;have r:(1:Int)<=(f:Int):=by omega
          have D:(ls.length:Int)-1<=8:=by omega
          refine JY (KW.w (w:=w) (v:= .slice (some ⟨l,0,none⟩) ns.length u)) (by kernel_rfl) (by kernel_rfl) ⟨⟨_,below_drewN k _,a,d⟩,rfl⟩ ?_;have hbx:=fun q:KW w (.slice (some ⟨l,0,none⟩) ns.length u)=>q.box;haveI hne:Nonempty (KW w (.slice (some ⟨l,0,none⟩) ns.length u)):=⟨⟨_,k,a,d⟩⟩;repeat(go_big_quiet_step ((go_at_call 197;exact Rw E.o _)))
          refine wpQuiet_nil ?_;rintro _⟨q,rfl⟩;have K:=q.below;go_wp2;go_ret;refine⟨Xf ?_,K⟩;rw[X.o,W.o,Y.o];simp[r,D]
        .go_wp2;have r:(1:Int)<=(f:Int):=by omega
         have D:¬((ls.length:Int)-1<=8):=by omega
         go_quiet(fail);go_wp2;go_ret;refine⟨Xf ?_,below_drewN k _⟩;rw[X.o,W.o,Yb (p:=(ls.length:Int)-1<=8) (by omega)];simp
       .go_wp2;have r:¬((1:Int)<=(f:Int)):=by omega
        go_quiet(fail);go_wp2;go_ret;refine⟨Xf ?_,below_drewN k _⟩;rw[X.o,W.o,Yb (p:=(1:Int)<=f) (by omega)];simp
