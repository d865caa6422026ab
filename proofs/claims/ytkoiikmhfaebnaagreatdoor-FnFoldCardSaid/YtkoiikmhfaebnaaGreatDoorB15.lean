import Derived.Test.YtkoiikmhfaebnaaGreatDoorB10
import Derived.Test.YtkoiikmhfaebnaaGreatDoorB14
set_option maxHeartbeats 16000000
set_option maxRecDepth 100000
namespace Go.Proofs.YtkoiikmhfaebnaaGreatDoor
open Tryz Go.RowKit
variable (gb rb:Nat) (vb:Value) (n:Nat)
theorem Qz{P:Program}{c:Prop}[Decidable c]{o:Oper}{a:Act}{K:Act->World->Prop}{Q:Exit->Act->World->Prop}{E:Prop}(X:World)(h:if c then Oper.wp P o a X K Q else E):if c then Oper.wp P o a X K Q else E:=h
theorem Dh[LB]{q k:Nat}{w:World}(h:Gn gb rb vb n q k w)(j:q<=900000000)(m:Int)(d:1<=m)(g:m<=1000000):Calls prog 23 #[.pointer (some ⟨rb,0,none⟩),.int .i64 m] w fun e w1=>∃r,e= .returned r/\∃z:Nat,(z:Int)<m/\r= .int .i64 (z:Int)/\Gn gb rb vb n (q+1) k w1/\Ty w w1:=(h.pick j m d g).mono fun _ _ ⟨z,a,b,c⟩=>⟨_,b,z,a,rfl,c⟩
theorem Xds[LB](d kd:Nat):OfK gb rb vb n d kd 3:=by
 intro E Y a8 q k w h hq hk d9;have e0:IntKind.i64.wrap (d:Int)=(d:Int):=by rw[Yt];omega
 have B:=h.B0;have c0:=h.c0;have Y:=X1 Y;have a8:=X1 a8;have E:=X1 E;clear h;go_enter func212,ntmps212;go_wp2_with fail;refine(B.pk 9 (by omega)).mono ?_;rintro e w⟨z,hz,rfl,c0,B⟩;by_cases b1:z=0
 .subst b1;have HG:=X1 B.g;have HT:=X1 B.t;clear B;have b9:=X1 (HG.o.below (X5 _ _).drew);have d0:=X1 (HT.o.trans (.of (X5 _ _).drew));have e1:w.drew.heap.size=w.heap.size:=rfl;have b8:=X1 (HG.o.below (bA (.cells #[.string ⟨#[115,111,114,116,101,100]⟩,.string ⟨#[117,110,105,113,117,101]⟩] 9)).drew);have c9:=X1 (HT.o.trans (.of (bA (.cells #[.string ⟨#[115,111,114,116,101,100]⟩,.string ⟨#[117,110,105,113,117,101]⟩] 9)).drew));have c8:Hid ((((w.alloc (.cells #[.string ⟨#[115,111,114,116,101,100]⟩,.string ⟨#[117,110,105,113,117,101]⟩] 9)).drew).ownsRow 0 9 1 (.slice (some ⟨w.heap.size,0,none⟩) 2 2) 2 [.string ⟨#[115,111,114,116,101,100]⟩,.string ⟨#[117,110,105,113,117,101]⟩])):=X1 (XV (base:=0) (e:=9) (size:=1) w #[.string ⟨#[115,111,114,116,101,100]⟩,.string ⟨#[117,110,105,113,117,101]⟩] 2 (X6 _) (by unfold maxLen;omega) rfl);have A:Hid (¬XS (some 9)):=X1 (by unfold XS;simp);go_wp2_with fail;go_region_law(first
   | ((with_reducible refine Qz ((w.alloc (.cells #[.string ⟨#[115,111,114,116,101,100]⟩,.string ⟨#[117,110,105,113,117,101]⟩] 9)).drew) ?_);refine KL rfl 23 (.tmp 204) (.const (.int .i64 2)) _ _ rfl (.pointer (some ⟨rb,0,none⟩)) (.int .i64 2) (by first|(simp[Act.eval];done)|simp[Act.eval,Act.put]) (by first|(simp[Act.eval];done)|simp[Act.eval,Act.put]) f23 func23 (by kernel_rfl) (by kernel_rfl) _ (Dh gb rb vb n b8.o (by omega) 2 (by omega) (by omega)) ?_;intro v1 w1 h1;obtain⟨y,d1,a7,L,D⟩:=h1;subst a7;have V:=X1 L;obtain⟨u,S⟩:∃u:XC,([.string ⟨#[115,111,114,116,101,100]⟩,.string ⟨#[117,110,105,113,117,101]⟩]:List Value)[y]?=some (.string u):=(by have hz:y=0\/y=1:=(by omega);rcases hz with rfl|rfl<;>exact⟨⟨_,by exact YC rfl⟩,rfl⟩);have W:=X1 (c9.o.trans D);have a0:=X1 (YL c8.o D A.o);have a1:=a0.o.cells rfl y _ S;rw[Ye,Xn]at a1;clear L D)
   | ((with_reducible refine Qz (w.drew) ?_);refine KL rfl 23 (.tmp 204) (.const (.int .i64 2)) _ _ rfl (.pointer (some ⟨rb,0,none⟩)) (.int .i64 2) (by first|(simp[Act.eval];done)|simp[Act.eval,Act.put]) (by first|(simp[Act.eval];done)|simp[Act.eval,Act.put]) f23 func23 (by kernel_rfl) (by kernel_rfl) _ (Dh gb rb vb n b9.o (by omega) 2 (by omega) (by omega)) ?_;intro v1 w1 h1;obtain⟨y,d1,a7,L,D⟩:=h1;subst a7;have V:=X1 L;obtain⟨u,S⟩:∃u:XC,([.string ⟨#[115,111,114,116,101,100]⟩,.string ⟨#[117,110,105,113,117,101]⟩]:List Value)[y]?=some (.string u):=(by have hz:y=0\/y=1:=(by omega);rcases hz with rfl|rfl<;>exact⟨⟨_,by exact YC rfl⟩,rfl⟩);have W:=X1 (d0.o.trans D);have a1:=(XV (base:=0) (e:=9) (size:=1) w1 #[.string ⟨#[115,111,114,116,101,100]⟩,.string ⟨#[117,110,105,113,117,101]⟩] 2 (X6 _) (by unfold maxLen;omega) rfl).cells rfl y _ S;rw[Ye,Xn]at a1;clear L D)
   | ((with_reducible refine Qz (w1.alloc (.cells #[.string ⟨#[115,111,114,116,101,100]⟩,.string ⟨#[117,110,105,113,117,101]⟩] 9)) ?_);refine Wo rfl 147 (.tmp 208) (.const (.int .i64 3)) (.tmp 210) _ _ _ rfl (.pointer (some ⟨gb,0,none⟩)) (.int .i64 3) (.int .i64 (d:Int)) (by first|(simp[Act.eval];done)|simp[Act.eval,Act.put]) (by first|(simp[Act.eval];done)|simp[Act.eval,Act.put]) (by first|(simp[Act.eval];done)|simp[Act.eval,Act.put]) f147 func147 (by kernel_rfl) (by kernel_rfl) _ (UU gb rb vb n (E.o _ _ _ _ (V.o.below (bA (.cells #[.string ⟨#[115,111,114,116,101,100]⟩,.string ⟨#[117,110,105,113,117,101]⟩] 9))) (by omega) (by omega))) ?_;intro v2 Q h2;obtain⟨l2,a,X,m2,v,m⟩:=h2;obtain⟨s,r,N⟩:=a.form X;subst N;have I:=X1 a;have F:=X1 v;have J:=X1 ((W.o.trans (.of (bA (.cells #[.string ⟨#[115,111,114,116,101,100]⟩,.string ⟨#[117,110,105,113,117,101]⟩] 9)))).trans m);have H:=X1 (YL (XV (base:=0) (e:=9) (size:=1) w1 #[.string ⟨#[115,111,114,116,101,100]⟩,.string ⟨#[117,110,105,113,117,101]⟩] 2 (X6 _) (by unfold maxLen;omega) rfl) m A.o);have a2:=H.o.cells rfl y _ S;have a3:=(YL H.o (TyM.of (M:=XS) (bA (.cells #[.slice (some ⟨s,0,none⟩) l2.length r] 23))) A.o).cells rfl y _ S;rw[Ye,Xn]at a2 a3;clear v m a)
   | ((with_reducible refine Qz (w1) ?_);have _hl:=a0.o;refine Wo rfl 147 (.tmp 208) (.const (.int .i64 3)) (.tmp 210) _ _ _ rfl (.pointer (some ⟨gb,0,none⟩)) (.int .i64 3) (.int .i64 (d:Int)) (by first|(simp[Act.eval];done)|simp[Act.eval,Act.put]) (by first|(simp[Act.eval];done)|simp[Act.eval,Act.put]) (by first|(simp[Act.eval];done)|simp[Act.eval,Act.put]) f147 func147 (by kernel_rfl) (by kernel_rfl) _ (UU gb rb vb n (E.o _ _ _ _ V.o (by omega) (by omega))) ?_;intro v2 Q h2;obtain⟨l2,a,X,m2,v,m⟩:=h2;obtain⟨s,r,N⟩:=a.form X;subst N;have I:=X1 a;have F:=X1 v;have J:=X1 (W.o.trans m);have H:=X1 (YL a0.o m A.o);have a2:=H.o.cells rfl y _ S;have a3:=(YL H.o (TyM.of (M:=XS) (bA (.cells #[.slice (some ⟨s,0,none⟩) l2.length r] 23))) A.o).cells rfl y _ S;rw[Ye,Xn]at a2 a3;clear v m a)
   | ((with_reducible refine Qz (w1) ?_);refine Wo rfl 147 (.tmp 208) (.const (.int .i64 3)) (.tmp 210) _ _ _ rfl (.pointer (some ⟨gb,0,none⟩)) (.int .i64 3) (.int .i64 (d:Int)) (by first|(simp[Act.eval];done)|simp[Act.eval,Act.put]) (by first|(simp[Act.eval];done)|simp[Act.eval,Act.put]) (by first|(simp[Act.eval];done)|simp[Act.eval,Act.put]) f147 func147 (by kernel_rfl) (by kernel_rfl) _ (UU gb rb vb n (E.o _ _ _ _ V.o (by omega) (by omega))) ?_;intro v2 Q h2;obtain⟨l2,a,X,m2,v,m⟩:=h2;obtain⟨s,r,N⟩:=a.form X;subst N;have I:=X1 a;have F:=X1 v;have J:=X1 (W.o.trans m);have a2:=(XV (base:=0) (e:=9) (size:=1) Q #[.string ⟨#[115,111,114,116,101,100]⟩,.string ⟨#[117,110,105,113,117,101]⟩] 2 (X6 _) (by unfold maxLen;omega) rfl).cells rfl y _ S;rw[Ye,Xn]at a2;have a3:=(XV (base:=0) (e:=9) (size:=1) (Q.alloc (.cells #[.slice (some ⟨s,0,none⟩) l2.length r] 23)) #[.string ⟨#[115,111,114,116,101,100]⟩,.string ⟨#[117,110,105,113,117,101]⟩] 2 (X6 _) (by unfold maxLen;omega) rfl).cells rfl y _ S;rw[Ye,Xn]at a3;have a4:=(YL (XV (base:=0) (e:=9) (size:=1) Q #[.string ⟨#[115,111,114,116,101,100]⟩,.string ⟨#[117,110,105,113,117,101]⟩] 2 (X6 _) (by unfold maxLen;omega) rfl) (TyM.of (M:=XS) (bA (.cells #[.slice (some ⟨s,0,none⟩) l2.length r] 23))) A.o).cells rfl y _ S;rw[Ye,Xn]at a4;rw[Xb]at a3;clear v m a)
   | ((with_reducible refine Qz (Q.alloc (.cells #[.slice (some ⟨s,0,none⟩) l2.length r] 23)) ?_);refine KL rfl 244 (.tmp 207) (.tmp 212) _ _ rfl (.string u) (.slice (some ⟨Q.heap.size,0,none⟩) 1 1) (by first|(simp[Act.eval];done)|simp[Act.eval,Act.put]) (by first|(simp[Act.eval];done)|simp[Act.eval,Act.put]) f244 func244 (by kernel_rfl) (by kernel_rfl) _ (V1 (by have hh:=WQ u [_] _ _ kd (pr1 I.o X) (by simpa using m2) (by omega) (by simp) (by simp);exact hh)) ?_;intro v3 w3 h3;obtain⟨l3,j,p3,m3,K⟩:=h3;obtain⟨b0,a9,P⟩:=j.form p3;subst P;have a5:=X1 j;have Z:=X1 ((F.o.below (bA _)).below K);have a6:=X1 ((J.o.trans (.of (bA _))).trans (.of K));clear j K)
   | ((with_reducible refine Qz ((Q.alloc (.cells #[.string ⟨#[115,111,114,116,101,100]⟩,.string ⟨#[117,110,105,113,117,101]⟩] 9)).alloc (.cells #[.slice (some ⟨s,0,none⟩) l2.length r] 23)) ?_);refine KL rfl 244 (.tmp 207) (.tmp 212) _ _ rfl (.string u) (.slice (some ⟨(Q.heap.size+1),0,none⟩) 1 1) (by first|(simp[Act.eval];done)|simp[Act.eval,Act.put]) (by first|(simp[Act.eval];done)|simp[Act.eval,Act.put]) f244 func244 (by kernel_rfl) (by kernel_rfl) _ (V1 (by have hh:=WQ u [_] _ _ kd (pr1 (I.o.below (bA (.cells #[.string ⟨#[115,111,114,116,101,100]⟩,.string ⟨#[117,110,105,113,117,101]⟩] 9))) X) (by simpa using m2) (by omega) (by simp) (by simp);rw[Xb]at hh;exact hh)) ?_;intro v3 w3 h3;obtain⟨l3,j,p3,m3,K⟩:=h3;obtain⟨b0,a9,P⟩:=j.form p3;subst P;have a5:=X1 j;have Z:=X1 ((F.o.below ((bA _).alloc (by simp) _)).below K);have a6:=X1 ((J.o.trans (.of ((bA _).alloc (by simp) _))).trans (.of K));clear j K)
   | ((with_reducible refine Qz ((Q.alloc (.cells #[.slice (some ⟨s,0,none⟩) l2.length r] 23)).alloc (.cells #[.string ⟨#[115,111,114,116,101,100]⟩,.string ⟨#[117,110,105,113,117,101]⟩] 9)) ?_);refine KL rfl 244 (.tmp 207) (.tmp 212) _ _ rfl (.string u) (.slice (some ⟨Q.heap.size,0,none⟩) 1 1) (by first|(simp[Act.eval];done)|simp[Act.eval,Act.put]) (by first|(simp[Act.eval];done)|simp[Act.eval,Act.put]) f244 func244 (by kernel_rfl) (by kernel_rfl) _ (V1 (by have hh:=WQ u [_] _ _ kd ((pr1 I.o X).below (bA (.cells #[.string ⟨#[115,111,114,116,101,100]⟩,.string ⟨#[117,110,105,113,117,101]⟩] 9))) (by simpa using m2) (by omega) (by simp) (by simp);exact hh)) ?_;intro v3 w3 h3;obtain⟨l3,j,p3,m3,K⟩:=h3;obtain⟨b0,a9,P⟩:=j.form p3;subst P;have a5:=X1 j;have Z:=X1 ((F.o.below ((bA _).alloc (by simp) _)).below K);have a6:=X1 ((J.o.trans (.of ((bA _).alloc (by simp) _))).trans (.of K));clear j K)
   )
  all_goals
   go_wp2;go_ret;exact⟨_,_,rfl,a5.o,p3,by omega,Z.o.mono (by omega),a6.o⟩
 by_cases b2:z=1
 .subst b2;go_wp2_with fail;refine(B.e E.o (by omega)).mono ?_;rintro e w⟨g,c,l,rfl,C,c0,B⟩;go_wp2_with fail;refine(B.sk [.string ⟨#[44]⟩,.string ⟨#[46]⟩,.string ⟨#[]⟩] 3 rfl rfl (by omega)).mono ?_;rintro e w⟨z,u1,hz,rfl,cl,c0,B⟩;go_wp2_with fail;refine(B.mo (Dk u1 _)).mono ?_;rintro e w⟨g,c,l,rfl,C,c0,B⟩;go_wp2_with fail;refine(B.n2 ⟨#[115,112,108,105,116]⟩ (by omega)).mono ?_;rintro e w⟨g,c,l,rfl,C,c0,B⟩;go_wp2;go_ret;exact B.ret (by omega)
 by_cases b4:z=2
 .subst b4;go_wp2_with fail;refine(B.sk [.string ⟨#[]⟩,.string ⟨#[97]⟩,.string ⟨#[120]⟩,.string ⟨#[108,105,98,47]⟩] 4 rfl rfl (by omega)).mono ?_;rintro e w⟨z,u2,hz,rfl,cl,c0,B⟩;go_wp2_with fail;refine(B.mo (Dk u2 _)).mono ?_;rintro e w⟨g,c,l,rfl,C,c0,B⟩;go_wp2_with fail;refine(B.n1 ⟨#[102,105,108,101,115]⟩ (by omega)).mono ?_;rintro e w⟨g,c,l,rfl,C,c0,B⟩;go_wp2;go_ret;exact B.ret (by omega)
 by_cases b5:z=3
 .subst b5;go_wp2_with fail;refine(B.e E.o (by omega)).mono ?_;rintro e w⟨g,c,l,rfl,C,c0,B⟩;go_wp2_with fail;refine(B.n1 ⟨#[107,101,121,115]⟩ (by omega)).mono ?_;rintro e w⟨g,c,l,rfl,C,c0,B⟩;go_wp2;go_ret;exact B.ret (by omega)
 by_cases b6:z=4
 .subst b6;go_wp2_with fail;refine(B.e E.o (by omega)).mono ?_;rintro e w⟨g,c,l,rfl,C,c0,B⟩;go_wp2_with fail;refine(B.e E.o (by omega)).mono ?_;rintro e w⟨g,c,l,rfl,C,c0,B⟩;go_wp2_with fail;refine(B.bn _ (by omega)).mono ?_;rintro e w⟨g,c,l,rfl,C,c0,B⟩;go_wp2;go_ret;exact B.ret (by omega)
 by_cases b7:z=5\/z=6
 .rcases b7 with rfl|rfl;all_goals
   go_wp2_with fail;refine(B.nd (Y.o _ _ _ _ B.g (by omega) (by omega))).mono ?_;rintro e w⟨g,c,l,rfl,C,c0,B⟩;go_wp2;go_ret;exact B.ret (by omega)
 have d2:((z:Int)==0)=false:=by simp;omega
 have d3:((z:Int)==1)=false:=by simp;omega
 have d4:((z:Int)==2)=false:=by simp;omega
 have d5:((z:Int)==3)=false:=by simp;omega
 have d6:((z:Int)==4)=false:=by simp;omega
 have d7:((z:Int)==5)=false:=by simp;omega
 have d8:((z:Int)==6)=false:=by simp;omega
 go_wp2_with fail;refine(B.e E.o (by omega)).mono ?_;rintro e w⟨g,c,l,rfl,C,c0,B⟩;go_wp2_with fail;refine(B.e E.o (by omega)).mono ?_;rintro e w⟨g,c,l,rfl,C,c0,B⟩;go_wp2_with fail;refine(B.o2 ⟨8,0,0,⟨#[]⟩,0⟩ (by omega)).mono ?_;rintro e w⟨g,c,l,rfl,C,c0,B⟩;go_wp2;go_ret;exact B.ret (by omega)
theorem Ey{d:De}{p:Nat}(s:∀q,p<=q->WE d q):Wn d 141 p:=by
 intro S c w h;go_enter func141,ntmps141;go_wp2_with fail;refine(Z7 h _).mono ?_;rintro e w1⟨rfl,Y,L,y⟩;go_wp2_with fail;go_loopw[3] (fun t wr=>∃(z:Int) (q:Nat),t= .int .i64 z/\p<=q/\WK d S q (c+1) wr) (fun _ wr=>wl d wr)
 case atStart=>exact⟨0,_,rfl,L,y⟩
 case round=>
  obtain⟨z,q,rfl,W,j⟩:=hrel;have A:=j;obtain⟨bad,a,v,out,B,-⟩:=j.st;obtain⟨-,-,-,c3,-⟩:=Z2 B;clear B;clear y h;cases bad
  .by_cases X:(0:Int)<z;rotate_left;focus
    go_wp2_with fail;refine(Gb j _).mono ?_;rintro e w1⟨r,rfl,-,u⟩;have j:=j.below u;clear u;cases r;rotate_left
    .go_wp2_with fail;refine(Z7 j _).mono ?_;rintro e w2⟨rfl,Z,q2,C⟩;go_wp2;go_ret;exact⟨_,_,rfl,by omega,C.mono (by omega)⟩
   all_goals
    go_wp2_with fail;refine(Wg j).mono ?_;rintro e w3⟨t3,p3,rfl,q3,D⟩;go_wp2_with fail;refine(Zn D _).mono ?_;rintro e w4⟨r,rfl,⟨rfl,n⟩|⟨rfl,n⟩⟩
    .go_wp2_with fail;refine(Zh n (by decide)).mono ?_;rintro e w5⟨rfl,E⟩;go_wp2_with fail;refine(Zn E _).mono ?_;rintro e w6⟨r,rfl,⟨rfl,k⟩|⟨rfl,k⟩⟩
     .go_wp2_with fail;refine(Z7 k _).mono ?_;rintro e w7⟨rfl,p7,q7,F⟩;go_wp2;go_ret;exact⟨_,_,rfl,by omega,F.mono (by omega)⟩
     .go_wp2;go_roundw
      case rel=>exact⟨_,_,rfl,by omega,k.mono (by omega)⟩
      case measure=>rw[k.wl,A.wl];have:=k.le;omega
    .go_wp2_with fail;refine(s _ (by omega) _ _ _ n).mono ?_;rintro e w8⟨rfl,p8,q8,H⟩;go_wp2_with fail;refine(Zh H (by decide)).mono ?_;rintro e w9⟨rfl,I⟩;go_wp2_with fail;refine(Zn I _).mono ?_;rintro e P⟨r,rfl,⟨rfl,g⟩|⟨rfl,g⟩⟩
     .go_wp2_with fail;refine(Z7 g _).mono ?_;rintro e Q⟨rfl,J,M,l⟩;go_wp2;go_ret;exact⟨_,_,rfl,by omega,l.mono (by omega)⟩
     .go_wp2;go_roundw
      case rel=>exact⟨_,_,rfl,by omega,g.mono (by omega)⟩
      case measure=>rw[g.wl,A.wl];have:=g.le;omega
  .go_wp2_with fail;refine(Z7 j _).mono ?_;rintro e V⟨rfl,K,N,m⟩;go_wp2;go_ret;exact⟨_,_,rfl,by omega,m.mono (by omega)⟩
theorem L1{d:De}{p:Nat}(r:Int)(E:0<=r)(H:r<=6)(F:¬r=3)(g:∀q,p<=q->WO d (r+1) q):WO d r p:=by
 intro S c w h;have N:=h.KH.1;obtain⟨bad,a,v,out,m,-⟩:=h.st;obtain⟨-,-,-,c3,-⟩:=Z2 m;clear m;cases bad
 .go_enter func207,ntmps207;go_wp2_with fail;refine(g _ (X4 _) _ _ _ h).mono ?_;rintro e w1⟨rfl,Q,J,y⟩;go_wp2_with fail;go_loopw[4] (fun _ wr=>∃q:Nat,p<=q/\WK d S q c wr) (fun _ wr=>wl d wr)
  case atStart=>exact⟨_,J,y⟩
  case round=>
   obtain⟨q,P,n⟩:=hrel;have B:=n;clear y c3;go_wp2_with fail;refine(Xek n r).mono ?_;rintro e V⟨z,rfl,A,u⟩;have s:=n.below u;clear u;by_cases l:z=0
   .subst l;go_wp2;refine X7 (Yf rfl _ _ _) rfl ?_;exact⟨rfl,_,by omega,s.mono (by omega)⟩
   have D:=A l;obtain⟨bad,a,v,out,m,-⟩:=s.st;obtain⟨-,-,c2,-,-,-,f⟩:=Z2 m;have M:=f 2;have t:=s.adv D;have C:=t.le;clear m f A;by_cases j:r=4
   .subst j;go_wp2_with fail;refine(g _ (by omega) _ _ _ t).mono ?_;rintro e L⟨rfl,I,K,j⟩;go_wp2_with fail;refine(Zh j (by decide)).mono ?_;rintro e w5⟨rfl,k⟩;go_wp2;refine X7 (Yf rfl _ _ _) rfl ?_;exact⟨rfl,_,by omega,k.mono (by omega)⟩
   go_wp2_with fail;refine(g _ (by omega) _ _ _ t).mono ?_;rintro e L⟨rfl,I,K,j⟩;go_wp2_with fail;refine(Zh j (by decide)).mono ?_;rintro e w5⟨rfl,k⟩;go_wp2;go_roundw
   case rel=>exact⟨_,by omega,k.mono (by omega)⟩
   case measure=>rw[k.wl,B.wl];have:=k.le;omega
 .go_enter func207,ntmps207;go_wp2;refine X7 (Yf rfl _ _ _) rfl ?_;exact⟨rfl,_,by omega,h.mono (by omega)⟩
theorem Xeq{d:De}{p:Nat}(k:∀q,p<q->WO d 3 q)(j:WO d 4 p):WO d 3 p:=by
 intro S c w h;obtain⟨bad,a,v,out,l,-⟩:=h.st;obtain⟨-,-,-,c3,-⟩:=Z2 l;clear l;cases bad
 .go_enter func207,ntmps207;go_wp2_with fail;refine(Zn h _).mono ?_;rintro e w1⟨r,rfl,⟨rfl,g⟩|⟨rfl,g⟩⟩
  .clear c3;go_wp2_with fail;refine(j _ _ _ g).mono ?_;rintro e A⟨rfl,t,y,m⟩;go_wp2;refine X7 (Yf rfl _ _ _) rfl ?_;exact⟨rfl,_,by omega,m.mono (by omega)⟩
  .clear c3;go_wp2_with fail;refine(k _ (by omega) _ _ _ g).mono ?_;rintro e B⟨rfl,u,z,n⟩;go_wp2_with fail;refine(Zh n (by decide)).mono ?_;rintro e C⟨rfl,s⟩;go_wp2;refine X7 (Yf rfl _ _ _) rfl ?_;exact⟨rfl,_,by omega,s.mono (by omega)⟩
 .go_enter func207,ntmps207;go_wp2;refine X7 (Yf rfl _ _ _) rfl ?_;exact⟨rfl,_,by omega,h.mono (by omega)⟩
theorem Xer{d:De}{p:Nat}(k:∀q,p<q->WO d 7 q)(j:Wm d 238 [] p):WO d 7 p:=by
 intro S c w h;obtain⟨bad,a,v,out,l,-⟩:=h.st;obtain⟨-,-,-,c3,-⟩:=Z2 l;clear l;cases bad
 .go_enter func207,ntmps207;go_wp2_with fail;refine(Zn h _).mono ?_;rintro e w1⟨r,rfl,⟨rfl,g⟩|⟨rfl,g⟩⟩
  .clear c3;go_wp2_with fail;refine(j _ _ _ g).mono ?_;rintro e A⟨rfl,t,y,m⟩;go_wp2;refine X7 (Yf rfl _ _ _) rfl ?_;exact⟨rfl,_,by omega,m.mono (by omega)⟩
  .clear c3;go_wp2_with fail;refine(k _ (by omega) _ _ _ g).mono ?_;rintro e B⟨rfl,u,z,n⟩;go_wp2_with fail;refine(Zh n (by decide)).mono ?_;rintro e C⟨rfl,s⟩;go_wp2;refine X7 (Yf rfl _ _ _) rfl ?_;exact⟨rfl,_,by omega,s.mono (by omega)⟩
 .go_enter func207,ntmps207;go_wp2;refine X7 (Yf rfl _ _ _) rfl ?_;exact⟨rfl,_,by omega,h.mono (by omega)⟩
theorem Y0n{d:De}{p:Nat}(A:Wm d 258 [] p)(z:∀q,p<q->WE d q)(y:∀q,p<q->Wn d 259 q):Wm d 238 [] p:=by
 intro S c w h;go_enter func238,ntmps238;go_wp2_with fail;refine(A _ _ _ h).mono ?_;rintro e w1⟨rfl,P,I,B⟩;go_wp2_with fail;go_loopw[9] (fun _ wr=>∃q:Nat,p<=q/\WK d S q c wr) (fun _ wr=>wl d wr)
 case atStart=>exact⟨_,I,B⟩
 case round=>
  obtain⟨q,N,j⟩:=hrel;have u:=j;obtain⟨bad,a,v,out,C,-⟩:=j.st;obtain⟨-,-,-,c3,-⟩:=Z2 C;clear C;clear B h;cases bad
  .go_wp2_with fail;refine(Zn j _).mono ?_;rintro e w2⟨r,rfl,⟨rfl,l⟩|⟨rfl,l⟩⟩
   .go_wp2_with fail;refine(Zn l _).mono ?_;rintro e w3⟨r,rfl,⟨rfl,m⟩|⟨rfl,m⟩⟩
    .go_wp2_with fail;refine(Zn m _).mono ?_;rintro e w4⟨r,rfl,⟨rfl,n⟩|⟨rfl,n⟩⟩
     .go_wp2;refine X7 (Yf rfl _ _ _) rfl ?_;exact⟨rfl,_,by omega,n.mono (by omega)⟩
     .clear c3;go_wp2_with fail;refine(Wg n).mono ?_;rintro e w5⟨t5,Q,rfl,X,D⟩;go_wp2_with fail;refine(Zh D (by decide)).mono ?_;rintro e w6⟨rfl,s⟩;go_wp2;go_roundw
      case rel=>exact⟨_,by omega,s.mono (by omega)⟩
      case measure=>rw[s.wl,u.wl];have:=s.le;omega
    .clear c3;go_wp2_with fail;refine(z _ (by omega) _ _ _ m).mono ?_;rintro e w7⟨rfl,V,Y,E⟩;go_wp2_with fail;refine(Z7 E _).mono ?_;rintro e w8⟨rfl,W,Z,F⟩;go_wp2_with fail;refine(Zh F (by decide)).mono ?_;rintro e w9⟨rfl,t⟩;go_wp2;go_roundw
     case rel=>exact⟨_,by omega,t.mono (by omega)⟩
     case measure=>rw[t.wl,u.wl];have:=t.le;omega
   .clear c3;go_wp2_with fail;refine(y _ (by omega) _ _ _ l).mono ?_;rintro e K⟨M,H,rfl,J,k⟩;go_wp2_with fail;refine(Zh k (by decide)).mono ?_;rintro e L⟨rfl,g⟩;go_wp2;go_roundw
    case rel=>exact⟨_,by omega,g.mono (by omega)⟩
    case measure=>rw[g.wl,u.wl];have:=g.le;omega
  .go_wp2;go_end0;exact⟨rfl,_,by omega,j.mono (by omega)⟩
theorem Y2c{d:De}{p:Nat}(L:∀q,p<q->WE d q)(M:∀q,p<q->Wr d 265 q)(N:∀q,p<q->Wr d 266 q):Wm d 258 [] p:=by
 intro S c w h;have Y:=h.KH.1;have X:=h.le;obtain⟨x,t⟩:∃x,x=Ys d p:=⟨_,rfl⟩;have y:=X1 t;have j:¬p<d.ts.length->(x.kind:Int)=0:=fun e=>by rw[t,GC e];rfl
 go_enter func258,ntmps258;go_wp2_with fail;refine(Wt h).mono ?_;rintro e w1⟨rfl,z⟩;rw[←t];unfold Jl;generalize(x.kind:Int)=k at *;have l:=(h.below z).box (Ut k x);have g:=(h.below z).fresh;obtain⟨y0,y1,y2,-⟩:=Dm l.boxed;obtain⟨bad,a,v,out,P,-⟩:=l.st;obtain⟨-,-,c2,c3,-,-,f⟩:=Z2 P;have Q:=f 2;unfold Ut at y0 y1 y2 c2 c3 Q l;clear P f z t;cases bad
 .by_cases s:k=3\/k=4\/k=1
  .have Z:p<d.ts.length:=by by_cases e:p<d.ts.length;exact e;have:=j e;omega
   have m:=l.adv Z;obtain⟨z0,z1,z2,-⟩:=Dm (k:=k) (x:=x) m.boxed;have u:=X1 g;clear j g;rcases s with rfl|rfl|rfl;all_goals
    go_wp2_with fail;refine(Zh m (by first|decide|(rw[y.o];exact h.Y4a p))).mono ?_;rintro e w3⟨rfl,n⟩;go_wp2;go_end0;exact⟨rfl,_,UF _,(n.mono (by omega)).unbox h u.o⟩
  have a1:¬k=3:=fun e=>s (.inl e);have a2:¬k=4:=fun e=>s (.inr (.inl e));have a0:¬k=1:=fun e=>s (.inr (.inr e));clear s j;go_wp2_with fail;refine(Zn l _).mono ?_;rintro e w2⟨r,rfl,⟨rfl,m⟩|⟨rfl,m⟩⟩
  .go_wp2_with fail;refine(Zn m _).mono ?_;rintro e w3⟨r,rfl,⟨rfl,n⟩|⟨rfl,n⟩⟩
   .go_wp2_with fail;refine(Zn n _).mono ?_;rintro e w4⟨r,rfl,⟨rfl,H⟩|⟨rfl,H⟩⟩
    .go_wp2_with fail;refine(Zn H _).mono ?_;rintro e w5⟨r,rfl,⟨rfl,I⟩|⟨rfl,I⟩⟩
     .go_wp2_with fail;refine(Zn I _).mono ?_;rintro e w6⟨r,rfl,⟨rfl,J⟩|⟨rfl,J⟩⟩
      .go_wp2_with fail;refine(Zn J _).mono ?_;rintro e w7⟨r,rfl,⟨rfl,K⟩|⟨rfl,K⟩⟩
       .go_wp2_with fail;refine(Wp K).mono ?_;rintro e w8⟨rfl,V,-⟩;go_wp2;go_end0;exact⟨rfl,_,by omega,(V.mono (by omega)).unbox h g⟩
       .go_wp2_with fail;refine(L _ (by omega) _ _ _ K).mono ?_;rintro e w9⟨rfl,p9,q9,W⟩;go_wp2_with fail;refine(Z7 W _).mono ?_;rintro e a9⟨rfl,a3,a6,A⟩;go_wp2;go_end0;exact⟨rfl,_,by omega,(A.mono (by omega)).unbox h g⟩
      .go_wp2_with fail;refine(N _ (by omega) _ _ _ J).mono ?_;rintro e b0⟨rfl,a4,a7,B⟩;go_wp2;go_end0;exact⟨rfl,_,by omega,(B.mono (by omega)).unbox h g⟩
     .go_wp2_with fail;refine(M _ (by omega) _ _ _ I).mono ?_;rintro e b2⟨rfl,a5,a8,C⟩;go_wp2;go_end0;exact⟨rfl,_,by omega,(C.mono (by omega)).unbox h g⟩
    .go_wp2_with fail;refine(Zh H (by decide)).mono ?_;rintro e b3⟨rfl,D⟩;go_wp2;go_end0;exact⟨rfl,_,by omega,(D.mono (by omega)).unbox h g⟩
   .go_wp2_with fail;refine(Zh n (by decide)).mono ?_;rintro e b4⟨rfl,E⟩;go_wp2;go_end0;exact⟨rfl,_,by omega,(E.mono (by omega)).unbox h g⟩
  .go_wp2_with fail;refine(Zh m (by decide)).mono ?_;rintro e b5⟨rfl,F⟩;go_wp2;go_end0;exact⟨rfl,_,by omega,(F.mono (by omega)).unbox h g⟩
 .go_wp2;refine X7 (Yf rfl _ _ _) rfl ?_;exact⟨rfl,_,X4 _,l.unbox h g⟩
def NmW(w:World)(e:Ending)(w':World):Prop:=∃r,e= .returned (.bool r)/\Below w.heap.size w w'
theorem Xcl{d:De}{S:Kz}{p c:Nat}{w:World}(h:WK d S p c w):Calls prog 267 #[.pointer (some ⟨d.b,0,none⟩)] w (NmW w):=by
 haveI hne:Nonempty (KB w):=⟨⟨_,X5 _ _⟩⟩;have M:=h.KH.1;have H:=h.le;have A:(0:Int)<=(p:Int)+1:=by omega
 obtain⟨bad,a,v,out,t,-⟩:=h.st;have C:∀q:KB w,q.w.cell? ⟨d.b,0,none⟩=some (.slice d.ta d.ts.length d.tc):=fun q=>(q.below.cell (p:=⟨d.b,0,none⟩) h.lt).trans (Z2 t).1;have L:∀q:KB w,q.w.cell? ⟨d.b,2,none⟩=some (.int .i64 p):=fun q=>(q.below.cell (p:=⟨d.b,2,none⟩) h.lt).trans (Z2 t).2.2.1;have l:Hid (∀w1,BL w w1->Calls prog 144 #[.pointer (some ⟨d.b,0,none⟩)] w1 fun e w'=>e= .returned (Jl (Ys d p))/\BL w1 w'):=X1 (fun w1 D=>Wt (h.below D));unfold Jl at l;have u:=Fj (Ys d p).kind (Ys d p).n (Ys d p).place ⟨(Ys d p).text.toArray⟩;clear t;by_cases y:((Ys d p).kind:Int)=1
 .rw[y]at l u;by_cases I:p+1<d.ts.length
  .have s:(p:Int)+1<d.ts.length:=by omega
   obtain⟨B,z,-,k⟩:=h.Ss I;rw[z]at C;have K:∀q:KB w,q.w.cell? ⟨B,(p+1)*4,none⟩=some (.int .i64 (Ys d (p+1)).kind):=fun q=>(k _ (h.below q.below).XH).1;have t:∀q:KB w,q.w.cell? ⟨B,(p+1)*4+1,none⟩=some (.string ⟨(Ys d (p+1)).text.toArray⟩):=fun q=>(k _ (h.below q.below).XH).2.1;clear k h;by_cases j:((Ys d (p+1)).kind:Int)=5;all_goals
    have r:=j;have m:=j;first|(rw[j]at K)|(have r:decide (((Ys d (p+1)).kind:Int)=5)=false:=Yb j;have m:(((Ys d (p+1)).kind:Int)==5)=false:=by simpa using j)
    go_enter func267,ntmps267;go_wp2_with fail;refine JY (KB.w (w:=w)) (by kernel_rfl) (by kernel_rfl) ⟨⟨_,below_drewN (X5 _ _) _⟩,rfl⟩ ?_;repeat(go_big_quiet_step ((go_at_call 144;exact VB l.o _)))
    refine wpQuiet_nil ?_;rintro _⟨q,rfl⟩;have g:=q.below;go_wp2;go_ret;exact⟨_,rfl,g⟩
  .have s:¬(p:Int)+1<d.ts.length:=by omega
   have J:decide ((p:Int)+1<d.ts.length)=false:=Yb s;clear h;go_enter func267,ntmps267;go_wp2_with fail;refine JY (KB.w (w:=w)) (by kernel_rfl) (by kernel_rfl) ⟨⟨_,below_drewN (X5 _ _) _⟩,rfl⟩ ?_;repeat(go_big_quiet_step ((go_at_call 144;exact VB l.o _)))
   refine wpQuiet_nil ?_;rintro _⟨q,rfl⟩;have g:=q.below;go_wp2;go_ret;exact⟨_,rfl,g⟩
 .have F:decide (((Ys d p).kind:Int)=1)=false:=Yb y;have E:(((Ys d p).kind:Int)==1)=false:=by simpa using y
  clear h;go_enter func267,ntmps267;go_wp2_with fail;refine JY (KB.w (w:=w)) (by kernel_rfl) (by kernel_rfl) ⟨⟨_,below_drewN (X5 _ _) _⟩,rfl⟩ ?_;repeat(go_big_quiet_step ((go_at_call 144;exact VB l.o _)))
  refine wpQuiet_nil ?_;rintro _⟨q,rfl⟩;have g:=q.below;go_wp2;go_ret;exact⟨_,rfl,g⟩
theorem X0n{d:De}{p:Nat}(m:∀q,p<=q->WE d q):Wn d 259 p:=by
 intro S c w h;go_enter func259,ntmps259;go_wp2_with fail;go_loopw[3,4] (fun t u wr=>∃(z:Int) (y:Bool) (q:Nat),t= .int .i64 z/\u= .bool y/\p<=q/\WK d S q (c+1) wr) (fun _ _ wr=>wl d wr)
 case atStart=>exact⟨0,false,_,rfl,rfl,X4 _,h⟩
 case round=>
  obtain⟨z,y,q,rfl,rfl,V,g⟩:=hrel;have A:=g;obtain⟨bad,a,v,out,B,-⟩:=g.st;obtain⟨-,-,-,c3,-⟩:=Z2 B;clear B;clear h;cases bad
  .by_cases W:(0:Int)<z;rotate_left;focus
    go_wp2_with fail;refine(Gb g _).mono ?_;rintro e w1⟨r,rfl,-,j⟩;have g:=g.below j;clear j;cases r;rotate_left
    .go_wp2_with fail;refine(Z7 g _).mono ?_;rintro e w1⟨rfl,X,q1,C⟩;go_wp2;go_ret;exact⟨_,_,rfl,by omega,C.mono (by omega)⟩
   all_goals
    cases y;focus
     go_wp2_with fail;refine(Xcl g).mono ?_;rintro e w1⟨r,rfl,j⟩;have g:=g.below j;clear j;cases r
     .go_wp2_with fail;refine(m _ (by omega) _ _ _ g).mono ?_;rintro e w2⟨rfl,Y,q2,D⟩;go_wp2_with fail;refine(Zn D _).mono ?_;rintro e w3⟨r,rfl,⟨rfl,k⟩|⟨rfl,k⟩⟩
      .go_wp2_with fail;refine(Z7 k _).mono ?_;rintro e w4⟨rfl,Z,q4,E⟩;go_wp2;go_ret;exact⟨_,_,rfl,by omega,E.mono (by omega)⟩
      .go_wp2;go_roundw
       case rel=>exact⟨_,_,_,rfl,rfl,by omega,k.mono (by omega)⟩
       case measure=>rw[k.wl,A.wl];have:=k.le;omega
    all_goals
     go_wp2_with fail;refine(Wg g).mono ?_;rintro e w5⟨t5,p5,rfl,q5,F⟩;go_wp2_with fail;refine(Z7 F _).mono ?_;rintro e w6⟨rfl,p6,q6,H⟩;go_wp2_with fail;refine(m _ (by omega) _ _ _ H).mono ?_;rintro e w7⟨rfl,p7,q7,I⟩;go_wp2_with fail;refine(Zh I (by decide)).mono ?_;rintro e w8⟨rfl,J⟩;go_wp2_with fail;refine(Zn J _).mono ?_;rintro e w9⟨r,rfl,⟨rfl,l⟩|⟨rfl,l⟩⟩
     .go_wp2_with fail;refine(Z7 l _).mono ?_;rintro e P⟨rfl,K,M,n⟩;go_wp2;go_ret;exact⟨_,_,rfl,by omega,n.mono (by omega)⟩
     .go_wp2;go_roundw
      case rel=>exact⟨_,_,_,rfl,rfl,by omega,l.mono (by omega)⟩
      case measure=>rw[l.wl,A.wl];have:=l.le;omega
  .go_wp2_with fail;refine(Z7 g _).mono ?_;rintro e Q⟨rfl,L,N,s⟩;go_wp2;go_ret;exact⟨_,_,rfl,by omega,s.mono (by omega)⟩
theorem Y1f{d:De}{p:Nat}(M:∀q,p<=q->WE d q):Wr d 266 p:=by
 intro S c w h;go_enter func266,ntmps266;go_wp2_with fail;go_loopw[2] (fun t wr=>∃(z:Int) (q:Nat),t= .int .i64 z/\p<=q/\WK d S q (c+1) wr) (fun _ wr=>wl d wr)
 case atStart=>exact⟨0,_,rfl,X4 _,h⟩
 case round=>
  obtain⟨z,q,rfl,hq,g⟩:=hrel;have hR:=g;obtain⟨bad,a,v,out,A,-⟩:=g.st;obtain⟨-,-,-,c3,-⟩:=Z2 A;clear A;clear h;cases bad
  .by_cases hz:(0:Int)<z;rotate_left;focus
    go_wp2_with fail;refine(Gb g _).mono ?_;rintro e w1⟨r,rfl,-,s⟩;have g:=g.below s;clear s;cases r;rotate_left
    .go_wp2_with fail;refine(Z7 g _).mono ?_;rintro e w1⟨rfl,p1,q1,Z⟩;go_wp2_with fail;refine(Zh Z (by decide)).mono ?_;rintro e w2⟨rfl,h2⟩;go_wp2;go_end0;exact⟨rfl,_,by omega,h2.mono (by omega)⟩
   all_goals
    have a1:=g.KH.1;have a0:=g.le;obtain⟨x,L⟩:∃x,x=Ys d q:=⟨_,rfl⟩;have m:¬q<d.ts.length->(x.kind:Int)=0:=fun e=>by rw[L,GC e];rfl
    go_wp2_with fail;refine(Wt g).mono ?_;rintro e v1⟨rfl,s⟩;rw[←L];unfold Jl;generalize(x.kind:Int)=k at *;have y:=g.below s;have l:=y.fresh;have n:=y.box (Ut k x);obtain⟨bad,a,v,out,A,-⟩:=n.st;obtain⟨-,-,c2,-,-,-,f⟩:=Z2 A;have V:=f 2;obtain⟨X,-⟩:=Dm n.boxed;clear A f s L;by_cases B:k=1\/k=4
    .have hp:q<d.ts.length:=by by_cases e:q<d.ts.length;exact e;have:=m e;omega
     have N:=n.adv hp;have W:=N.le;unfold Ut at X c2 V n N;have Y:=X1 y;have C:=X1 l;clear m c3 y l;rcases B with rfl|rfl;all_goals
      go_wp2_with fail;refine(Z7 N _).mono ?_;rintro e b3⟨rfl,a4,a8,D⟩;go_wp2_with fail;refine(M _ (by omega) _ _ _ D).mono ?_;rintro e b4⟨rfl,a5,a9,u⟩;obtain⟨u0,u1,-⟩:=Dm (x:=x) u.boxed;go_wp2_with fail;refine(Zh u (by decide)).mono ?_;rintro e b5⟨rfl,E⟩;have hU:=E.unbox Y.o C.o;go_wp2_with fail;refine(Zn hU _).mono ?_;rintro e b6⟨r,rfl,⟨rfl,j⟩|⟨rfl,j⟩⟩
      .go_wp2_with fail;refine(Z7 j _).mono ?_;rintro e b7⟨rfl,a6,b0,F⟩;go_wp2_with fail;refine(Zh F (by decide)).mono ?_;rintro e b8⟨rfl,H⟩;go_wp2;go_end0;exact⟨rfl,_,by omega,H.mono (by omega)⟩
      .go_wp2;go_roundw
       case rel=>exact⟨_,_,rfl,by omega,j.mono (by omega)⟩
       case measure=>rw[j.wl,hR.wl];have:=j.le;omega
    have P:¬k=1:=fun e=>B (.inl e);have Q:¬k=4:=fun e=>B (.inr e);have a2:(k !=1)=true:=by simpa using P
    have a3:(k !=4)=true:=by simpa using Q
    unfold Ut at X n;clear m B c2 V c3;go_wp2_with fail;refine(Wp n).mono ?_;rintro e b9⟨rfl,I,-⟩;go_wp2;refine X7 (Yf rfl _ _ _) rfl ?_;exact⟨rfl,_,by omega,(I.mono (by omega)).unbox y l⟩
  .go_wp2_with fail;refine(Z7 g _).mono ?_;rintro e c8⟨rfl,a7,b2,J⟩;go_wp2_with fail;refine(Zh J (by decide)).mono ?_;rintro e c9⟨rfl,K⟩;go_wp2;go_end0;exact⟨rfl,_,by omega,K.mono (by omega)⟩
