import Derived.Test.YtkoiikmhfaebnaaGreatDoorB01
set_option maxHeartbeats 4000000
set_option maxRecDepth 100000
namespace Go.Proofs.YtkoiikmhfaebnaaGreatDoor
open Tryz Go.RowKit
theorem Ti(ns:List Nd)(ls:List Nat):XA ns 9 ls=(XJ ns (fun x=>x==17) ls&&decide ((ls.length:Int)<=200)&&J9 ns ls):=by unfold XA;rfl
theorem Tg(ns:List Nd)(ls:List Nat):XA ns 23 ls=(XJ ns (fun x=>x==5) ls&&Xl ls.length 1 200):=by unfold XA;rfl
theorem Th(ns:List Nd)(ls:List Nat):XA ns 24 ls=(XJ ns (fun x=>Xl x 20 23) ls&&decide ((ls.length:Int)<=200)):=by unfold XA;rfl
theorem Xaa(kind:Int)(ns:List Nd)(ls:List Nat)(r I g c:Nat)(w:World)(Z:ls.length<=1048576)(S:Yw w r ns)(hi:Yz w g 0 ls)(F:∀x∈ls,x<ns.length)(l:kind=9): Calls prog 136 #[.agg #[.slice (some ⟨r,0,none⟩) ns.length I],.int .i64 kind,.slice (some ⟨g,0,none⟩) ls.length c] w fun e w'=>e= .returned (.bool (XA ns kind ls))/\Below w.heap.size w w':=by
 have r1:BL w (w.alloc (.cells #[.slice (some ⟨r,0,none⟩) ns.length I] 25)):=bA _;have B:=X1 S;have A:=X1 hi;have u:=X1 F;have V:=X1 l;have Y:=UH ns ls;clear S hi F l;go_enter func136,ntmps136;go_wp2;go_loopw[8,10] (fun s t wr=>∃(j v:Nat),j<=ls.length/\t= .int .i64 j/\s= .int .i64 v/\v+Y7 ns (ls.drop j)=Y7 ns ls/\BL w wr/\w.heap.size<wr.heap.size/\wr.cell? ⟨w.heap.size,0,none⟩=some (.slice (some ⟨r,0,none⟩) ns.length I)) (fun _ t _=>ls.length-(intOf t).toNat)
 case atStart=>exact⟨0,0,X6 _,rfl,rfl,by simp,r1,by simp,by simp⟩
 case round=>
  obtain⟨j,v,Q,rfl,rfl,D,d,a,k⟩:=hrel;have q:=X1 D;clear D;by_cases m:j<ls.length
  .have y:=A.o.2 j m;rw[Xn]at y;have H:ls[j]<ns.length:=u.o _ (XR _);obtain⟨C,_⟩:=B.o.2 ls[j] H;have K:=X1 (WG ns ls j m);have J:=X1 (show Yy ns ls[j]=Xl ns[ls[j]].kind 1 16 by unfold Yy;rw[ZC H]);have W:=(d.cell (p:=⟨g,j,none⟩) A.o.1).trans y;have X:=(d.cell (p:=⟨r,ls[j]*5,none⟩) B.o.1).trans C;generalize ns[ls[j]].kind=P at *;generalize ls[j]=xj at *;clear y C;have E:v<=ls.length:=by have:=q.o;omega
   cases n:Xl P 1 16;all_goals
    go_wp2;go_quiet((go_at_call 196;exact Calls.quiet_of_same (UP _ _)));rw[n];go_wp2;go_roundw
    case rel=>
     have z:=q.o;rw[K.o,J.o,n]at z;first|rw[X3 rfl]at z|rw[X2 (by decide)]at z
     first
     | exact⟨j+1,v+1,by omega,by go_num,by go_num,by omega,below_drewN d _,a,k⟩
     | exact⟨j+1,v,by omega,by go_num,rfl,by omega,below_drewN d _,a,k⟩
    case measure=>simp[intOf];omega
  .have E:v=Y7 ns ls:=by have z:=q.o;rw[Yu (by omega)]at z;simpa[Y7]using z
   subst E;obtain rfl:j=ls.length:=by omega
   clear q Q;obtain rfl:=V.o;have L:=X1 (Ti ns ls);go_wp2;go_loopw[16] (fun t wr=>∃j:Nat,j<=ls.length/\t= .int .i64 j/\XJ ns (fun x=>x==17) ls=XJ ns (fun x=>x==17) (ls.drop j)/\BL w wr/\w.heap.size<wr.heap.size/\wr.cell? ⟨w.heap.size,0,none⟩=some (.slice (some ⟨r,0,none⟩) ns.length I)) (fun t _=>ls.length-(intOf t).toNat)
   case atStart=>exact⟨0,X6 _,rfl,by rw[Qm],d,a,k⟩
   case round=>
    obtain⟨j,Q,rfl,D,d,a,k⟩:=hrel;have q:=X1 D;clear D;by_cases m:j<ls.length
    .have y:=A.o.2 j m;rw[Xn]at y;have H:ls[j]<ns.length:=u.o _ (XR _);obtain⟨C,_⟩:=B.o.2 ls[j] H;have K:=X1 (DJ ns (fun x=>x==17) ls j m);have J:=X1 (ZC H);have W:=(d.cell (p:=⟨g,j,none⟩) A.o.1).trans y;have X:=(d.cell (p:=⟨r,ls[j]*5,none⟩) B.o.1).trans C;generalize ns[ls[j]].kind=P at *;generalize ls[j]=xj at *;clear y C;cases n:(P !=17);all_goals
      go_wp2;go_quiet(fail);try rw[n]
      go_wp2;first
      | (go_ret
         refine⟨Xf ?_,below_drewN d _⟩;rw[L.o,q.o,K.o,J.o];first|(simp only[n,GK];done)|(simp at n;simp[n];done))
      | (go_roundw
         case rel=>
          refine⟨j+1,by omega,by go_num,?_,below_drewN d _,a,k⟩;rw[q.o,K.o,J.o];first|(simp only[n,VO];done)|(simp at n;simp[n];done)
         case measure=>simp[intOf];omega)
    .have M:=X1 (show XJ ns (fun x=>x==17) ls=true by rw[q.o,Yu (by omega)];rfl);clear q;by_cases hn:(ls.length:Int)<=200
     .go_wp2_with(go_at_call 197;refine(LQ ns ls r I g 0 c _ Z (B.o.below d) (A.o.below d) u.o).mono ?_;rintro e w1⟨rfl,N⟩);go_ret;refine⟨Xf ?_,d.trans (N.mono d.size)⟩;rw[L.o,M.o];simp[hn]
     .go_wp2;go_ret;refine⟨Xf ?_,d⟩;rw[L.o,Yb (by omega)];simp
theorem X9y(kind:Int)(ns:List Nd)(ls:List Nat)(v K g c:Nat)(w:World)(hl:ls.length<=1048576)(Q:Yw w v ns)(hi:Yz w g 0 ls)(D:∀x∈ls,x<ns.length)(l:kind=23): Calls prog 136 #[.agg #[.slice (some ⟨v,0,none⟩) ns.length K],.int .i64 kind,.slice (some ⟨g,0,none⟩) ls.length c] w fun e w'=>e= .returned (.bool (XA ns kind ls))/\Below w.heap.size w w':=by
 have Y:BL w (w.alloc (.cells #[.slice (some ⟨v,0,none⟩) ns.length K] 25)):=bA _;have J:=X1 Q;have F:=X1 hi;have z:=X1 D;have S:=X1 l;have X:=UH ns ls;clear Q hi D l;go_enter func136,ntmps136;go_wp2;go_loopw[8,10] (fun s t wr=>∃(j r:Nat),j<=ls.length/\t= .int .i64 j/\s= .int .i64 r/\r+Y7 ns (ls.drop j)=Y7 ns ls/\BL w wr/\w.heap.size<wr.heap.size/\wr.cell? ⟨w.heap.size,0,none⟩=some (.slice (some ⟨v,0,none⟩) ns.length K)) (fun _ t _=>ls.length-(intOf t).toNat)
 case atStart=>exact⟨0,0,X6 _,rfl,rfl,by simp,Y,by simp,by simp⟩
 case round=>
  obtain⟨j,r,P,rfl,rfl,B,d,a,k⟩:=hrel;have q:=X1 B;clear B;by_cases m:j<ls.length
  .have u:=F.o.2 j m;rw[Xn]at u;have E:ls[j]<ns.length:=z.o _ (XR _);obtain⟨A,_⟩:=J.o.2 ls[j] E;have I:=X1 (WG ns ls j m);have H:=X1 (show Yy ns ls[j]=Xl ns[ls[j]].kind 1 16 by unfold Yy;rw[ZC E]);have V:=(d.cell (p:=⟨g,j,none⟩) F.o.1).trans u;have W:=(d.cell (p:=⟨v,ls[j]*5,none⟩) J.o.1).trans A;generalize ns[ls[j]].kind=M at *;generalize ls[j]=Z at *;clear u A;have C:r<=ls.length:=by have:=q.o;omega
   cases n:Xl M 1 16;all_goals
    go_wp2;go_quiet((go_at_call 196;exact Calls.quiet_of_same (UP _ _)));rw[n];go_wp2;go_roundw
    case rel=>
     have y:=q.o;rw[I.o,H.o,n]at y;first|rw[X3 rfl]at y|rw[X2 (by decide)]at y
     first
     | exact⟨j+1,r+1,by omega,by go_num,by go_num,by omega,below_drewN d _,a,k⟩
     | exact⟨j+1,r,by omega,by go_num,rfl,by omega,below_drewN d _,a,k⟩
    case measure=>simp[intOf];omega
  .have C:r=Y7 ns ls:=by have y:=q.o;rw[Yu (by omega)]at y;simpa[Y7]using y
   subst C;obtain rfl:j=ls.length:=by omega
   clear q P;obtain rfl:=S.o;have N:=X1 (Tg ns ls);go_wp2;go_loopw[14] (fun t wr=>∃j:Nat,j<=ls.length/\t= .int .i64 j/\XJ ns (fun x=>x==5) ls=XJ ns (fun x=>x==5) (ls.drop j)/\BL w wr/\w.heap.size<wr.heap.size/\wr.cell? ⟨w.heap.size,0,none⟩=some (.slice (some ⟨v,0,none⟩) ns.length K)) (fun t _=>ls.length-(intOf t).toNat)
   case atStart=>exact⟨0,X6 _,rfl,by rw[Qm],d,a,k⟩
   case round=>
    obtain⟨j,P,rfl,B,d,a,k⟩:=hrel;have q:=X1 B;clear B;by_cases m:j<ls.length
    .have u:=F.o.2 j m;rw[Xn]at u;have E:ls[j]<ns.length:=z.o _ (XR _);obtain⟨A,_⟩:=J.o.2 ls[j] E;have I:=X1 (DJ ns (fun x=>x==5) ls j m);have H:=X1 (ZC E);have V:=(d.cell (p:=⟨g,j,none⟩) F.o.1).trans u;have W:=(d.cell (p:=⟨v,ls[j]*5,none⟩) J.o.1).trans A;generalize ns[ls[j]].kind=M at *;generalize ls[j]=Z at *;clear u A;cases n:(M !=5);all_goals
      go_wp2;go_quiet(fail);try rw[n]
      go_wp2;first
      | (go_ret
         refine⟨Xf ?_,below_drewN d _⟩;rw[N.o,q.o,I.o,H.o];first|(simp only[n,GK];done)|(simp at n;simp[n];done))
      | (go_roundw
         case rel=>
          refine⟨j+1,by omega,by go_num,?_,below_drewN d _,a,k⟩;rw[q.o,I.o,H.o];first|(simp only[n,VO];done)|(simp at n;simp[n];done)
         case measure=>simp[intOf];omega)
    .have L:=X1 (show XJ ns (fun x=>x==5) ls=true by rw[q.o,Yu (by omega)];rfl);clear q;go_wp2_with(go_at_call 82;refine(Zw _ _ _ _).mono ?_;rintro e w'⟨rfl,rfl⟩);go_ret;refine⟨Xf ?_,d⟩;rw[N.o,L.o];rfl
theorem X9z(kind:Int)(ns:List Nd)(ls:List Nat)(v K g c:Nat)(w:World)(hl:ls.length<=1048576)(Q:Yw w v ns)(hi:Yz w g 0 ls)(D:∀x∈ls,x<ns.length)(l:kind=24): Calls prog 136 #[.agg #[.slice (some ⟨v,0,none⟩) ns.length K],.int .i64 kind,.slice (some ⟨g,0,none⟩) ls.length c] w fun e w'=>e= .returned (.bool (XA ns kind ls))/\Below w.heap.size w w':=by
 have Z:BL w (w.alloc (.cells #[.slice (some ⟨v,0,none⟩) ns.length K] 25)):=bA _;have J:=X1 Q;have F:=X1 hi;have z:=X1 D;have S:=X1 l;have X:=UH ns ls;clear Q hi D l;go_enter func136,ntmps136;go_wp2;go_loopw[8,10] (fun s t wr=>∃(j r:Nat),j<=ls.length/\t= .int .i64 j/\s= .int .i64 r/\r+Y7 ns (ls.drop j)=Y7 ns ls/\BL w wr/\w.heap.size<wr.heap.size/\wr.cell? ⟨w.heap.size,0,none⟩=some (.slice (some ⟨v,0,none⟩) ns.length K)) (fun _ t _=>ls.length-(intOf t).toNat)
 case atStart=>exact⟨0,0,X6 _,rfl,rfl,by simp,Z,by simp,by simp⟩
 case round=>
  obtain⟨j,r,P,rfl,rfl,B,d,a,k⟩:=hrel;have q:=X1 B;clear B;by_cases m:j<ls.length
  .have u:=F.o.2 j m;rw[Xn]at u;have E:ls[j]<ns.length:=z.o _ (XR _);obtain⟨A,_⟩:=J.o.2 ls[j] E;have I:=X1 (WG ns ls j m);have H:=X1 (show Yy ns ls[j]=Xl ns[ls[j]].kind 1 16 by unfold Yy;rw[ZC E]);have V:=(d.cell (p:=⟨g,j,none⟩) F.o.1).trans u;have W:=(d.cell (p:=⟨v,ls[j]*5,none⟩) J.o.1).trans A;generalize ns[ls[j]].kind=M at *;generalize ls[j]=xj at *;clear u A;have C:r<=ls.length:=by have:=q.o;omega
   cases n:Xl M 1 16;all_goals
    go_wp2;go_quiet((go_at_call 196;exact Calls.quiet_of_same (UP _ _)));rw[n];go_wp2;go_roundw
    case rel=>
     have y:=q.o;rw[I.o,H.o,n]at y;first|rw[X3 rfl]at y|rw[X2 (by decide)]at y
     first
     | exact⟨j+1,r+1,by omega,by go_num,by go_num,by omega,below_drewN d _,a,k⟩
     | exact⟨j+1,r,by omega,by go_num,rfl,by omega,below_drewN d _,a,k⟩
    case measure=>simp[intOf];omega
  .have C:r=Y7 ns ls:=by have y:=q.o;rw[Yu (by omega)]at y;simpa[Y7]using y
   subst C;obtain rfl:j=ls.length:=by omega
   clear q P;obtain rfl:=S.o;have N:=X1 (Th ns ls);go_wp2;go_loopw[15] (fun t wr=>∃j:Nat,j<=ls.length/\t= .int .i64 j/\XJ ns (fun x=>Xl x 20 23) ls=XJ ns (fun x=>Xl x 20 23) (ls.drop j)/\BL w wr/\w.heap.size<wr.heap.size/\wr.cell? ⟨w.heap.size,0,none⟩=some (.slice (some ⟨v,0,none⟩) ns.length K)) (fun t _=>ls.length-(intOf t).toNat)
   case atStart=>exact⟨0,X6 _,rfl,by rw[Qm],d,a,k⟩
   case round=>
    obtain⟨j,P,rfl,B,d,a,k⟩:=hrel;have q:=X1 B;clear B;by_cases m:j<ls.length
    .have u:=F.o.2 j m;rw[Xn]at u;have E:ls[j]<ns.length:=z.o _ (XR _);obtain⟨A,_⟩:=J.o.2 ls[j] E;have I:=X1 (DJ ns (fun x=>Xl x 20 23) ls j m);have H:=X1 (ZC E);have V:=(d.cell (p:=⟨g,j,none⟩) F.o.1).trans u;have W:=(d.cell (p:=⟨v,ls[j]*5,none⟩) J.o.1).trans A;generalize ns[ls[j]].kind=M at *;generalize ls[j]=xj at *;clear u A;cases n:Xl M 20 23;all_goals
      go_wp2;go_quiet((go_at_call 82;exact Calls.quiet_of_same (Zw _ _ _ _)));try rw[n]
      go_wp2;first
      | (go_ret
         refine⟨Xf ?_,below_drewN d _⟩;rw[N.o,q.o,I.o,H.o];first|(simp only[n,GK];done)|(simp at n;simp[n];done))
      | (go_roundw
         case rel=>
          refine⟨j+1,by omega,by go_num,?_,below_drewN d _,a,k⟩;rw[q.o,I.o,H.o];first|(simp only[n,VO];done)|(simp at n;simp[n];done)
         case measure=>simp[intOf];omega)
    .have L:=X1 (show XJ ns (fun x=>Xl x 20 23) ls=true by rw[q.o,Yu (by omega)];rfl);clear q;by_cases Y:(ls.length:Int)<=200;all_goals
      go_wp2;go_ret;refine⟨Xf ?_,d⟩;rw[N.o,L.o];simp[Y]
theorem Xad(kind:Int)(ns:List Nd)(ls:List Nat)(v B g c:Nat)(w:World)(Y:ls.length<=1048576)(I:Yw w v ns)(hi:Yz w g 0 ls)(r:∀x∈ls,x<ns.length)(a:kind<1\/24<kind): Calls prog 136 #[.agg #[.slice (some ⟨v,0,none⟩) ns.length B],.int .i64 kind,.slice (some ⟨g,0,none⟩) ls.length c] w fun e w'=>e= .returned (.bool (XA ns kind ls))/\Below w.heap.size w w':=by
 have S:BL w (w.alloc (.cells #[.slice (some ⟨v,0,none⟩) ns.length B] 25)):=bA _;have D:=X1 I;have C:=X1 hi;have z:=X1 r;have K:=X1 a;have N:=UH ns ls;clear I hi r a;go_enter func136,ntmps136;go_wp2;go_loopw[8,10] (fun s t wr=>∃(j k:Nat),j<=ls.length/\t= .int .i64 j/\s= .int .i64 k/\k+Y7 ns (ls.drop j)=Y7 ns ls/\BL w wr/\w.heap.size<wr.heap.size/\wr.cell? ⟨w.heap.size,0,none⟩=some (.slice (some ⟨v,0,none⟩) ns.length B)) (fun _ t _=>ls.length-(intOf t).toNat)
 case atStart=>exact⟨0,0,X6 _,rfl,rfl,by simp,S,by simp,by simp⟩
 case round=>
  obtain⟨j,k,P,rfl,rfl,F,m,d,n⟩:=hrel;have y:=X1 F;clear F;by_cases u:j<ls.length
  .have A:=C.o.2 j u;rw[Xn]at A;have J:ls[j]<ns.length:=z.o _ (XR _);obtain⟨E,_⟩:=D.o.2 ls[j] J;have M:=X1 (WG ns ls j u);have L:=X1 (show Yy ns ls[j]=Xl ns[ls[j]].kind 1 16 by unfold Yy;rw[ZC J]);have V:=(m.cell (p:=⟨g,j,none⟩) C.o.1).trans A;have W:=(m.cell (p:=⟨v,ls[j]*5,none⟩) D.o.1).trans E;generalize ns[ls[j]].kind=Q at *;generalize ls[j]=Z at *;clear A E;have q:k<=ls.length:=by have:=y.o;omega
   cases H:Xl Q 1 16;all_goals
    go_wp2;go_quiet((go_at_call 196;exact Calls.quiet_of_same (UP _ _)));rw[H];go_wp2;go_roundw
    case rel=>
     have l:=y.o;rw[M.o,L.o,H]at l;first|rw[X3 rfl]at l|rw[X2 (by decide)]at l
     first
     | exact⟨j+1,k+1,by omega,by go_num,by go_num,by omega,below_drewN m _,d,n⟩
     | exact⟨j+1,k,by omega,by go_num,rfl,by omega,below_drewN m _,d,n⟩
    case measure=>simp[intOf];omega
  .have q:k=Y7 ns ls:=by have l:=y.o;rw[Yu (by omega)]at l;simpa[Y7]using l
   subst q;obtain rfl:j=ls.length:=by omega
   clear y P;have X:=K.o;go_wp2;all_goals
    go_ret;refine⟨Xf ?_,m⟩;unfold XA;repeat rw[X2 (by omega)]
theorem Xfl(op n m:Int)(s:ByteArray)(w:World):Calls prog 135 #[.agg #[.int .i64 2,.int .i64 op,.int .i64 n,.string s,.int .i64 m]] w fun e w'=>e= .returned (.bool (Xh ⟨2,op,n,s,m⟩))/\Below w.heap.size w w':=by
 have q:Xl 2 16 21=false:=by decide
 go_enter func135,ntmps135;go_wp2_with(first|(go_at_call 82;refine(Zw _ _ _ _).mono ?_;rintro e w'⟨rfl,rfl⟩)|(go_at_call 194;refine(JX _ _).mono ?_;rintro e w'⟨rfl,rfl⟩)|(go_at_call 195;refine(JU _ _).mono ?_;rintro e w1⟨rfl,a⟩));all_goals
  go_ret;refine⟨Xf ?_,?_⟩
  .first
   | (simp[Xh,XU, *];done)
   | (simp[Xh,XU, *];omega)
   | (exfalso;simp_all)
  .first
   | exact bA _
   | exact(bA _).trans (a.mono (by simp))
theorem Xfn(op n m:Int)(s:ByteArray)(w:World):Calls prog 135 #[.agg #[.int .i64 3,.int .i64 op,.int .i64 n,.string s,.int .i64 m]] w fun e w'=>e= .returned (.bool (Xh ⟨3,op,n,s,m⟩))/\Below w.heap.size w w':=by
 have q:Xl 3 16 21=false:=by decide
 go_enter func135,ntmps135;go_wp2_with(first|(go_at_call 82;refine(Zw _ _ _ _).mono ?_;rintro e w'⟨rfl,rfl⟩)|(go_at_call 194;refine(JX _ _).mono ?_;rintro e w'⟨rfl,rfl⟩)|(go_at_call 195;refine(JU _ _).mono ?_;rintro e w1⟨rfl,a⟩));all_goals
  go_ret;refine⟨Xf ?_,?_⟩
  .first
   | (simp[Xh,XU, *];done)
   | (simp[Xh,XU, *];omega)
   | (exfalso;simp_all)
  .first
   | exact bA _
   | exact(bA _).trans (a.mono (by simp))
theorem Xfo(op n m:Int)(s:ByteArray)(w:World):Calls prog 135 #[.agg #[.int .i64 4,.int .i64 op,.int .i64 n,.string s,.int .i64 m]] w fun e w'=>e= .returned (.bool (Xh ⟨4,op,n,s,m⟩))/\Below w.heap.size w w':=by
 go_enter func135,ntmps135;go_wp2_with(first|(go_at_call 82;refine(Zw _ _ _ _).mono ?_;rintro e w'⟨rfl,rfl⟩)|(go_at_call 194;refine(JX _ _).mono ?_;rintro e w'⟨rfl,rfl⟩)|(go_at_call 195;refine(JU _ _).mono ?_;rintro e w1⟨rfl,a⟩));all_goals
  go_ret;refine⟨Xf ?_,?_⟩
  .first
   | (simp[Xh,XU, *];done)
   | (simp[Xh,XU, *];omega)
   | (exfalso;simp_all)
  .first
   | exact bA _
   | exact(bA _).trans (a.mono (by simp))
theorem Xfp(op n m:Int)(s:ByteArray)(w:World):Calls prog 135 #[.agg #[.int .i64 5,.int .i64 op,.int .i64 n,.string s,.int .i64 m]] w fun e w'=>e= .returned (.bool (Xh ⟨5,op,n,s,m⟩))/\Below w.heap.size w w':=by
 go_enter func135,ntmps135;go_wp2_with(first|(go_at_call 82;refine(Zw _ _ _ _).mono ?_;rintro e w'⟨rfl,rfl⟩)|(go_at_call 194;refine(JX _ _).mono ?_;rintro e w'⟨rfl,rfl⟩)|(go_at_call 195;refine(JU _ _).mono ?_;rintro e w1⟨rfl,a⟩));all_goals
  go_ret;refine⟨Xf ?_,?_⟩
  .first
   | (simp[Xh,XU, *];done)
   | (simp[Xh,XU, *];omega)
   | (exfalso;simp_all)
  .first
   | exact bA _
   | exact(bA _).trans (a.mono (by simp))
theorem Xfi(op n m:Int)(s:ByteArray)(w:World):Calls prog 135 #[.agg #[.int .i64 11,.int .i64 op,.int .i64 n,.string s,.int .i64 m]] w fun e w'=>e= .returned (.bool (Xh ⟨11,op,n,s,m⟩))/\Below w.heap.size w w':=by
 go_enter func135,ntmps135;go_wp2_with(first|(go_at_call 82;refine(Zw _ _ _ _).mono ?_;rintro e w'⟨rfl,rfl⟩)|(go_at_call 194;refine(JX _ _).mono ?_;rintro e w'⟨rfl,rfl⟩)|(go_at_call 195;refine(JU _ _).mono ?_;rintro e w1⟨rfl,a⟩));all_goals
  go_ret;refine⟨Xf ?_,?_⟩
  .first
   | (simp[Xh,XU, *];done)
   | (simp[Xh,XU, *];omega)
   | (exfalso;simp_all)
  .first
   | exact bA _
   | exact(bA _).trans (a.mono (by simp))
theorem Xfj(op n m:Int)(s:ByteArray)(w:World):Calls prog 135 #[.agg #[.int .i64 14,.int .i64 op,.int .i64 n,.string s,.int .i64 m]] w fun e w'=>e= .returned (.bool (Xh ⟨14,op,n,s,m⟩))/\Below w.heap.size w w':=by
 go_enter func135,ntmps135;go_wp2_with(first|(go_at_call 82;refine(Zw _ _ _ _).mono ?_;rintro e w'⟨rfl,rfl⟩)|(go_at_call 194;refine(JX _ _).mono ?_;rintro e w'⟨rfl,rfl⟩)|(go_at_call 195;refine(JU _ _).mono ?_;rintro e w1⟨rfl,a⟩));all_goals
  go_ret;refine⟨Xf ?_,?_⟩
  .first
   | (simp[Xh,XU, *];done)
   | (simp[Xh,XU, *];omega)
   | (exfalso;simp_all)
  .first
   | exact bA _
   | exact(bA _).trans (a.mono (by simp))
theorem Xfq(op n m:Int)(s:ByteArray)(w:World):Calls prog 135 #[.agg #[.int .i64 6,.int .i64 op,.int .i64 n,.string s,.int .i64 m]] w fun e w'=>e= .returned (.bool (Xh ⟨6,op,n,s,m⟩))/\Below w.heap.size w w':=by
 have q:Xl 6 16 21=false:=by decide
 go_enter func135,ntmps135;go_wp2_with(first|(go_at_call 82;refine(Zw _ _ _ _).mono ?_;rintro e w'⟨rfl,rfl⟩)|(go_at_call 194;refine(JX _ _).mono ?_;rintro e w'⟨rfl,rfl⟩)|(go_at_call 195;refine(JU _ _).mono ?_;rintro e w1⟨rfl,a⟩));all_goals
  go_ret;refine⟨Xf ?_,?_⟩
  .first
   | (simp[Xh,XU, *];done)
   | (simp[Xh,XU, *];omega)
   | (exfalso;simp_all)
  .first
   | exact bA _
   | exact(bA _).trans (a.mono (by simp))
theorem Xfr(op n m:Int)(s:ByteArray)(w:World):Calls prog 135 #[.agg #[.int .i64 7,.int .i64 op,.int .i64 n,.string s,.int .i64 m]] w fun e w'=>e= .returned (.bool (Xh ⟨7,op,n,s,m⟩))/\Below w.heap.size w w':=by
 have q:Xl 7 16 21=false:=by decide
 go_enter func135,ntmps135;go_wp2_with(first|(go_at_call 82;refine(Zw _ _ _ _).mono ?_;rintro e w'⟨rfl,rfl⟩)|(go_at_call 194;refine(JX _ _).mono ?_;rintro e w'⟨rfl,rfl⟩)|(go_at_call 195;refine(JU _ _).mono ?_;rintro e w1⟨rfl,a⟩));all_goals
  go_ret;refine⟨Xf ?_,?_⟩
  .first
   | (simp[Xh,XU, *];done)
   | (simp[Xh,XU, *];omega)
   | (exfalso;simp_all)
  .first
   | exact bA _
   | exact(bA _).trans (a.mono (by simp))
theorem Xfk(op n m:Int)(s:ByteArray)(w:World):Calls prog 135 #[.agg #[.int .i64 17,.int .i64 op,.int .i64 n,.string s,.int .i64 m]] w fun e w'=>e= .returned (.bool (Xh ⟨17,op,n,s,m⟩))/\Below w.heap.size w w':=by
 have q:Xl 17 16 21=true:=by decide
 go_enter func135,ntmps135;go_wp2_with(first|(go_at_call 82;refine(Zw _ _ _ _).mono ?_;rintro e w'⟨rfl,rfl⟩)|(go_at_call 194;refine(JX _ _).mono ?_;rintro e w'⟨rfl,rfl⟩)|(go_at_call 195;refine(JU _ _).mono ?_;rintro e w1⟨rfl,a⟩));all_goals
  go_ret;refine⟨Xf ?_,?_⟩
  .first
   | (simp[Xh,XU, *];done)
   | (simp[Xh,XU, *];omega)
   | (exfalso;simp_all)
  .first
   | exact bA _
   | exact(bA _).trans (a.mono (by simp))
theorem Xfm(op n m:Int)(s:ByteArray)(w:World):Calls prog 135 #[.agg #[.int .i64 23,.int .i64 op,.int .i64 n,.string s,.int .i64 m]] w fun e w'=>e= .returned (.bool (Xh ⟨23,op,n,s,m⟩))/\Below w.heap.size w w':=by
 have q:Xl 23 16 21=false:=by decide
 go_enter func135,ntmps135;go_wp2_with(first|(go_at_call 82;refine(Zw _ _ _ _).mono ?_;rintro e w'⟨rfl,rfl⟩)|(go_at_call 194;refine(JX _ _).mono ?_;rintro e w'⟨rfl,rfl⟩)|(go_at_call 195;refine(JU _ _).mono ?_;rintro e w1⟨rfl,a⟩));all_goals
  go_ret;refine⟨Xf ?_,?_⟩
  .first
   | (simp[Xh,XU, *];done)
   | (simp[Xh,XU, *];omega)
   | (exfalso;simp_all)
  .first
   | exact bA _
   | exact(bA _).trans (a.mono (by simp))
theorem Y0j(k op n m:Int)(s:ByteArray)(w:World)(c:Xl k 16 21=true)(d:k≠17):Calls prog 135 #[.agg #[.int .i64 k,.int .i64 op,.int .i64 n,.string s,.int .i64 m]] w fun e w'=>e= .returned (.bool (Xh ⟨k,op,n,s,m⟩))/\Below w.heap.size w w':=by
 obtain⟨t,u⟩:=Ua c;have n2:k≠2:=by omega
 have n3:k≠3:=by omega
 have l:k≠4:=by omega
 have q:k≠6:=by omega
 have r:k≠7:=by omega
 have g:k≠23:=by omega
 by_cases j:op=0;all_goals
  go_enter func135,ntmps135;go_wp2_with(first|(go_at_call 82;refine(Zw _ _ _ _).mono ?_;rintro e w'⟨rfl,rfl⟩)|(go_at_call 194;refine(JX _ _).mono ?_;rintro e w'⟨rfl,rfl⟩)|(go_at_call 195;refine(JU _ _).mono ?_;rintro e w1⟨rfl,a⟩))
 all_goals
  go_ret;refine⟨Xf ?_,?_⟩
  .first
   | (simp[Xh,XU, *];done)
   | (simp[Xh,XU, *];omega)
   | (exfalso;simp_all)
  .first
   | exact bA _
   | exact(bA _).trans (a.mono (by simp))
theorem Y0k(k op n m:Int)(s:ByteArray)(w:World)(q:Xl k 16 21=false)(l:k≠2/\k≠3/\k≠4/\k≠5/\k≠11/\k≠14/\k≠6/\k≠7/\k≠17/\k≠23):Calls prog 135 #[.agg #[.int .i64 k,.int .i64 op,.int .i64 n,.string s,.int .i64 m]] w fun e w'=>e= .returned (.bool (Xh ⟨k,op,n,s,m⟩))/\Below w.heap.size w w':=by
 obtain⟨r,t,u,v,c,d,y,z,g,j⟩:=l;by_cases A:op=0;all_goals
  go_enter func135,ntmps135;go_wp2_with(first|(go_at_call 82;refine(Zw _ _ _ _).mono ?_;rintro e w'⟨rfl,rfl⟩)|(go_at_call 194;refine(JX _ _).mono ?_;rintro e w'⟨rfl,rfl⟩)|(go_at_call 195;refine(JU _ _).mono ?_;rintro e w1⟨rfl,a⟩))
 all_goals
  go_ret;refine⟨Xf ?_,?_⟩
  .first
   | (simp[Xh,XU, *];done)
   | (simp[Xh,XU, *];omega)
   | (exfalso;simp_all)
  .first
   | exact bA _
   | exact(bA _).trans (a.mono (by simp))
theorem Xfs(k op n m:Int)(s:ByteArray)(w:World):Calls prog 135 #[.agg #[.int .i64 k,.int .i64 op,.int .i64 n,.string s,.int .i64 m]] w fun e w'=>e= .returned (.bool (Xh ⟨k,op,n,s,m⟩))/\Below w.heap.size w w':=by
 rcases Tk k with rfl|rfl|rfl|rfl|rfl|rfl|rfl|rfl|rfl|rfl|⟨a,c⟩|⟨_,a,d⟩
 .exact Xfl op n m s w
 .exact Xfn op n m s w
 .exact Xfo op n m s w
 .exact Xfp op n m s w
 .exact Xfi op n m s w
 .exact Xfj op n m s w
 .exact Xfq op n m s w
 .exact Xfr op n m s w
 .exact Xfk op n m s w
 .exact Xfm op n m s w
 .exact Y0j k op n m s w a c
 .exact Y0k k op n m s w a d
