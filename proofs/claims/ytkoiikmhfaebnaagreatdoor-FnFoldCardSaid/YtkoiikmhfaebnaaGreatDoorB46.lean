import Derived.Test.YtkoiikmhfaebnaaGreatDoorB36
import Derived.Test.YtkoiikmhfaebnaaGreatDoorB38
import Derived.Test.YtkoiikmhfaebnaaGreatDoorB39
import Derived.Test.YtkoiikmhfaebnaaGreatDoorB42
import Derived.Test.YtkoiikmhfaebnaaGreatDoorB45
set_option maxHeartbeats 16000000
set_option maxRecDepth 100000
namespace Go.Proofs.YtkoiikmhfaebnaaGreatDoor
open Go.Proofs.Tryz Go.RowKit
def DTk[LB](w:World)(e:Ending)(w':World):Prop:=∃v l,e= .returned (.agg #[v])/\NR w' v l/\l.length<=300000/\Tf w w'
theorem X3z[LB](j:∀rb vb n q w,Rq rb vb n q w->q<=90000000->Calls prog 28 #[.pointer (some ⟨rb,0,none⟩)] w fun e w'=>RTk rb vb n q 250010 w e w')(r:∀rb vb n,Pa rb vb n)(m:Nat)(v:Value)(w:World)(h:ByV w v m)(V:JT<=w.heap.size):Calls prog 4 #[v] w fun e w'=>DTk w e w':=by
 have t:BL w (w.alloc (.cells #[.slice none 0 0] 25)):=bA _;have L:ByV (w.alloc (.cells #[.slice none 0 0] 25)) v m:=by
  rcases h with h|⟨g,o,c,N,P,Q,K,S⟩
  .exact .inl h
  .refine .inr ⟨g,o,c,N,P,Q,Xd K t.size,fun i hi=>?_⟩;obtain⟨k,X,W⟩:=S i hi;exact⟨k,X,(t.cell (p:=⟨g,o+i,none⟩) K).trans W⟩
 have M:=X1 (Xem m v _ L (XO V t.size));have B:Hid (Ty w (w.alloc (.cells #[.slice none 0 0] 25))):=X1 (.of t);have E:Hid ((w.alloc (.cells #[.slice none 0 0] 25)).heap[w.heap.size]?=some (.cells #[.slice none 0 0] 25)):=X1 (XM w _);have j:=X1 j;have r:=X1 r;clear t L;obtain⟨vp,vl,vc,Z⟩:∃p l c,v= .slice p l c:=by
  rcases h with⟨q,c,h,_⟩|⟨g,o,c,h,_⟩
  .exact⟨_,_,_,h⟩
  .exact⟨_,_,_,h⟩
 subst Z;clear h;go_enter func4,ntmps4;go_wp2_with fail;refine M.o.mono ?_;rintro e w1⟨rb,vb,n,rfl,J,u,H⟩;have A:Hid (Rq rb vb n 0 w1):=X1 ⟨0,X4 _,u⟩;have C:=X1 (B.o.trans (.of H));have F:=X1 (TyM.same E.o H);have Y:w.heap.size<rb:=by simp at J;omega
 clear u H;go_wp2_with fail;refine(X0k rb vb n (j.o rb vb n) (r.o rb vb n) 0 w1 A.o (by omega)).mono ?_;rintro e w2⟨v2,l2,rfl,d,m2,I,s⟩;obtain⟨y,c2,rfl⟩:=d.val;have a:=Tf.same s F.o Dd;have t0:=(ZK a).1;have ft:=(ZK a).2;have z:Hid (NR (w2.setCell ⟨w.heap.size,0,none⟩ (.slice y l2.length c2)) (.slice y l2.length c2) l2):=X1 ⟨Kc d.1 (by unfold Xm;rw[a];decide),d.2⟩;have D:=X1 (Uq (o:=0) (v:= .slice y l2.length c2) ((Ty.tf C.o).trans s) (X4 _));clear d I s a;go_wp2;exact X7 (v:= .agg #[.slice y l2.length c2]) (by simp[results,results4,go_sem,t0]) rfl ⟨_,_,rfl,z.o,by omega,D.o⟩
theorem Y9[LB]{α:Type}{l:List α}{n:Nat}(h:l.length=n+1):∃x t,l=x::t/\t.length=n:=by
 cases l with
 | nil=>cases h
 | cons x t=>exact⟨x,t,rfl,by simpa using h⟩
theorem X0o[LB]{xs:Array Value}(h:xs.size=48):∃x0 x1 x2 x3 x4 x5 x6 x7 x8 x9 a c d g j k m q r s t u v y z A B C D E F H I J K L M N P Q S V W X Y Z a0 a1,xs=#[x0,x1,x2,x3,x4,x5,x6,x7,x8,x9,a,c,d,g,j,k,m,q,r,s,t,u,v,y,z,A,B,C,D,E,F,H,I,J,K,L,M,N,P,Q,S,V,W,X,Y,Z,a0,a1]:=by
 obtain⟨l⟩:=xs;have h:l.length=48:=h;obtain⟨x0,l0,rfl,h0⟩:=Y9 h;obtain⟨x1,l1,rfl,h1⟩:=Y9 h0;obtain⟨x2,l2,rfl,h2⟩:=Y9 h1;obtain⟨x3,l3,rfl,h3⟩:=Y9 h2;obtain⟨x4,l4,rfl,h4⟩:=Y9 h3;obtain⟨x5,l5,rfl,h5⟩:=Y9 h4;obtain⟨x6,l6,rfl,h6⟩:=Y9 h5;obtain⟨x7,l7,rfl,h7⟩:=Y9 h6;obtain⟨x8,l8,rfl,h8⟩:=Y9 h7;obtain⟨x9,l9,rfl,h9⟩:=Y9 h8;obtain⟨a,e8,rfl,a2⟩:=Y9 h9;obtain⟨c,e9,rfl,a3⟩:=Y9 a2;obtain⟨d,f0,rfl,a4⟩:=Y9 a3;obtain⟨g,f1,rfl,a5⟩:=Y9 a4;obtain⟨j,f2,rfl,a6⟩:=Y9 a5;obtain⟨k,f3,rfl,a7⟩:=Y9 a6;obtain⟨m,f4,rfl,a8⟩:=Y9 a7;obtain⟨q,f5,rfl,a9⟩:=Y9 a8;obtain⟨r,f6,rfl,b0⟩:=Y9 a9;obtain⟨s,f7,rfl,b1⟩:=Y9 b0;obtain⟨t,f8,rfl,b2⟩:=Y9 b1;obtain⟨u,f9,rfl,b3⟩:=Y9 b2;obtain⟨v,g0,rfl,b4⟩:=Y9 b3;obtain⟨y,g1,rfl,b5⟩:=Y9 b4;obtain⟨z,g2,rfl,b6⟩:=Y9 b5;obtain⟨A,g3,rfl,b7⟩:=Y9 b6;obtain⟨B,g4,rfl,b8⟩:=Y9 b7;obtain⟨C,g5,rfl,b9⟩:=Y9 b8;obtain⟨D,g6,rfl,c8⟩:=Y9 b9;obtain⟨E,g7,rfl,c9⟩:=Y9 c8;obtain⟨F,g8,rfl,d0⟩:=Y9 c9;obtain⟨H,g9,rfl,d1⟩:=Y9 d0;obtain⟨I,i0,rfl,d2⟩:=Y9 d1;obtain⟨J,i1,rfl,d3⟩:=Y9 d2;obtain⟨K,i2,rfl,d4⟩:=Y9 d3;obtain⟨L,i3,rfl,d5⟩:=Y9 d4;obtain⟨M,i4,rfl,d6⟩:=Y9 d5;obtain⟨N,i5,rfl,d7⟩:=Y9 d6;obtain⟨P,i6,rfl,d8⟩:=Y9 d7;obtain⟨Q,i7,rfl,d9⟩:=Y9 d8;obtain⟨S,i8,rfl,e0⟩:=Y9 d9;obtain⟨V,i9,rfl,e1⟩:=Y9 e0;obtain⟨W,j0,rfl,e2⟩:=Y9 e1;obtain⟨X,j1,rfl,e3⟩:=Y9 e2;obtain⟨Y,j2,rfl,e4⟩:=Y9 e3;obtain⟨Z,j3,rfl,e5⟩:=Y9 e4;obtain⟨a0,j4,rfl,e6⟩:=Y9 e5;obtain⟨a1,j5,rfl,e7⟩:=Y9 e6;obtain rfl:=P1.1 e7;exact⟨x0,x1,x2,x3,x4,x5,x6,x7,x8,x9,a,c,d,g,j,k,m,q,r,s,t,u,v,y,z,A,B,C,D,E,F,H,I,J,K,L,M,N,P,Q,S,V,W,X,Y,Z,a0,a1,rfl⟩
variable (gb rb:Nat) (vb:Value) (n:Nat)
theorem Y1e[LB](d kd:Nat)(Y:EAt gb rb vb n d kd)(b8:kd<=1000000):GX gb rb vb n d kd:=fun q k w h hq hk=>by
 have d8:IntKind.i64.wrap (d:Int)=(d:Int):=by rw[Yt];omega
 have d0:rb<w.heap.size:=GU h.up h.lt
 have b0:BL w (w.alloc (.cells #[] 23)):=bA _
 have j:=X1 (h.below b0)
 have c0:=j.o.c0
 have y:Hid (Ty w (w.alloc (.cells #[] 23))):=X1 (.of b0)
 have u:=X1 (PW.new (B:=w.heap.size) w (X4 _))
 have Y:=X1 Y
 clear h b0
 go_enter func247,ntmps247
 go_wp2_with fail
 refine(Gn.pick j.o (by omega) 4 (by omega) (by omega)).mono ?_
 rintro e w0⟨z0,e5,rfl,P,r⟩
 have a0:=X1 P
 have b1:=X1 (y.o.trans r)
 have a6:=X1 (u.o.ty r)
 clear P r j y u c0
 go_wp2_with fail
 go_loopw[5,6] (fun sv tv wr=>∃(i qq:Nat) (ls:List (List Nd)),i<=3/\tv= .int .i64 (i:Int)/\ls.length+i<=3/\ls.flatten.length+i*(kd+1)<=3*(kd+1)/\qq+i*(kd+2)<=q+1+3*(kd+2)/\PW w.heap.size wr sv ls/\Gn gb rb vb n qq k wr/\Ty w wr) (fun _ tv _=>(intOf tv).toNat)
 case atStart=>exact⟨z0,q+1,[],by omega,rfl,by simp;omega,by simp only[SQ,ZN,Xn];exact DH _ (by omega),Nat.add_le_add_left (DH _ (by omega)) _,a6.o,a0.o,b1.o⟩
 case round=>
  obtain⟨i,qq,ls,l,rfl,m,g,c,N,hG,hT⟩:=hrel
  have v:=X1 N
  have t:=X1 hG
  have z:=X1 hT
  have d7:=hT.size
  obtain⟨f6,V,_⟩:=N
  obtain⟨f3,f2,c8⟩:=XQ V
  subst c8
  have c0:=hG.c0
  clear hG hT V
  match i,l,m,g,c with
  | 0,l,m,g,c=>
   have HO:=X1 (ZY ⟨9,0,0,⟨#[]⟩,0⟩ ls _ _ (3*kd+3) v.o.pr (by omega) (by omega) (by omega))
   unfold ndV at HO
   go_wp2_with fail
   refine HO.o.mono ?_
   rintro e7 w7⟨v7,l7,rfl,s,p7,m7,b7⟩
   obtain⟨g7,c7,d1⟩:=s.form p7
   subst d1
   have a2:=X1 (t.o.below b7)
   have b3:=X1 (z.o.trans (.of b7))
   have a4:=X1 s
   clear b7 s
   go_wp2
   go_ret
   exact⟨_,_,rfl,a4.o,p7,by omega,a2.o.mono (by omega),b3.o⟩
  | i+1,l,m,g,c=>
   have d6:qq+kd+10<=700000000:=by rw[DG,LA]at c;omega
   have Z:=X1 g
   have a9:=X1 c
   clear g c
   have ei:((i+1:Nat):Int)=(i:Int)+1:=by omega
   rw[ei]
   have b6:i<3:=by omega
   have d3:(i:Int)<3:=by omega
   have b9:ls.length<=3:=by omega
   have d9:IntKind.i64.wrap (i:Int)=(i:Int):=by rw[Yt];omega
   have d4:(0:Int)<(i:Int)+1:=by omega
   have a3:=X1 (t.o.below ((X5 _ _).drew))
   have b4:=X1 (z.o.trans (.of ((X5 _ _).drew)))
   have a8:=X1 (v.o.below ((X5 _ _).drew))
   go_wp2_with fail
   refine wp_region_any (by kernel_rfl) ?_
   refine Y1d (gb:=gb) (rb:=rb) (vb:=vb) (n:=n) (W0:=w) (qq:=qq) (k:=k) (kd:=kd) (d:=d) (i:=i) (ls:=ls) ⟨_,rfl,rfl,rfl,rfl⟩ ⟨_,rfl,rfl,rfl,rfl⟩ ⟨_,rfl,rfl,rfl,rfl⟩ ⟨_,rfl,rfl,rfl,rfl⟩ ⟨_,rfl,rfl,rfl,rfl⟩ ⟨_,rfl,rfl,rfl,rfl⟩ ⟨_,rfl,rfl,rfl,rfl⟩ ⟨_,rfl,rfl,rfl,rfl⟩ ⟨_,rfl,rfl,rfl,rfl⟩ ⟨_,rfl,rfl,rfl,rfl⟩ ⟨_,rfl,rfl,rfl,rfl⟩ ⟨_,rfl,rfl,rfl,rfl⟩ ⟨_,rfl,rfl,rfl,rfl⟩ ⟨_,rfl,rfl,rfl,rfl⟩ ⟨_,rfl,rfl,rfl,rfl⟩ ⟨_,rfl,rfl,rfl,rfl⟩ ⟨_,rfl,rfl,rfl,rfl⟩ ⟨_,rfl,rfl,rfl,rfl⟩ ⟨_,rfl,rfl,rfl,rfl⟩ ⟨_,rfl,rfl,rfl,rfl⟩ ⟨_,rfl,rfl,rfl,rfl⟩ ⟨_,rfl,rfl,rfl,rfl⟩ ⟨_,rfl,rfl,rfl,rfl⟩ ⟨_,rfl,rfl,rfl,rfl⟩ ⟨_,rfl,rfl,rfl,rfl⟩ ⟨_,rfl,rfl,rfl,rfl⟩ ⟨_,rfl,rfl,rfl,rfl⟩ ⟨_,rfl,rfl,rfl,rfl⟩ ⟨_,rfl,rfl,rfl,rfl⟩ rfl (by kernel_rfl) (by kernel_rfl) (by kernel_rfl) (by kernel_rfl) (by kernel_rfl) (by kernel_rfl) (by kernel_rfl) (by kernel_rfl) (by kernel_rfl) (by kernel_rfl) (by kernel_rfl) (by kernel_rfl) (by kernel_rfl) (by kernel_rfl) (by kernel_rfl) (by kernel_rfl) (by kernel_rfl) (by kernel_rfl) (by kernel_rfl) (by kernel_rfl) (by kernel_rfl) (by kernel_rfl) (by kernel_rfl) (by kernel_rfl) (by kernel_rfl) (by kernel_rfl) (by kernel_rfl) (by kernel_rfl) (by kernel_rfl) (by kernel_rfl) Y.o b8 (by omega) (by omega) b6 b9 d0 rfl rfl rfl rfl ?_ rfl b4.o a8.o a3.o
   intro a5 w5 h5
   obtain⟨A,b5,a,l5,X,f0,f1,Q,S⟩:=h5
   obtain⟨j8,d5⟩:=a5
   obtain⟨x0,x1,x2,x3,x4,x5,x6,x7,x8,x9,f8,f9,g0,g1,g2,g3,g4,g5,g6,g8,g9,h0,h1,h2,h3,h4,h6,h7,h8,h9,i0,i1,i2,i3,i4,i5,i6,i7,i8,i9,j0,j1,j2,j3,j4,j5,j6,j7,d2⟩:=X0o A
   subst d2
   obtain rfl:=b5
   have e0:=a 0 (by decide) (by decide)
   simp only[Q8,KO,ZP]at e0
   subst e0
   have e1:=a 1 (by decide) (by decide)
   simp only[Q8,KO,Q7,ZP]at e1
   subst e1
   have e2:=a 2 (by decide) (by decide)
   simp only[Q8,KO,Q7,ZP]at e2
   subst e2
   have e3:=a 3 (by decide) (by decide)
   simp only[Q8,KO,Q7,ZP]at e3
   subst e3
   have e4:=a 4 (by decide) (by decide)
   simp only[Q8,KO,Q7,ZP]at e4
   subst e4
   have e6:=a 6 (by decide) (by decide)
   simp only[Q8,KO,Q7,ZP]at e6
   subst e6
   have e7:=a 7 (by decide) (by decide)
   simp only[Q8,KO,Q7,ZP]at e7
   subst e7
   have e8:=a 8 (by decide) (by decide)
   simp only[Q8,KO,Q7,ZP]at e8
   subst e8
   have e9:=a 9 (by decide) (by decide)
   simp only[Q8,KO,Q7,ZP]at e9
   subst e9
   have C:=a 10 (by decide) (by decide)
   simp only[Q8,KO,Q7,ZP]at C
   subst C
   have D:=a 11 (by decide) (by decide)
   simp only[Q8,KO,Q7,ZP]at D
   subst D
   have E:=a 12 (by decide) (by decide)
   simp only[Q8,KO,Q7,ZP]at E
   subst E
   have F:=a 13 (by decide) (by decide)
   simp only[Q8,KO,Q7,ZP]at F
   subst F
   have H:=a 14 (by decide) (by decide)
   simp only[Q8,KO,Q7,ZP]at H
   subst H
   have I:=a 15 (by decide) (by decide)
   simp only[Q8,KO,Q7,ZP]at I
   subst I
   have J:=a 16 (by decide) (by decide)
   simp only[Q8,KO,Q7,ZP]at J
   subst J
   have K:=a 45 (by decide) (by decide)
   simp only[Q8,KO,Q7,ZP]at K
   subst K
   have L:=a 46 (by decide) (by decide)
   simp only[Q8,KO,Q7,ZP]at L
   subst L
   have M:=a 47 (by decide) (by decide)
   simp only[Q8,KO,Q7,ZP]at M
   subst M
   have X:PW w.heap.size w5 x5 (ls++[l5]):=X
   have a7:=X1 X
   have a1:=X1 Q
   have b2:=X1 S
   obtain⟨f7,W,_⟩:=X
   obtain⟨f5,f4,c9⟩:=XQ W
   subst c9
   clear W Q S a A
   go_wp2
   go_roundw
   case rel=>exact⟨i,qq+(2+kd),_,by omega,by go_num,by rw[Xo];simp only[Ya,ZN];omega,by have:=Z.o;rw[DG,LA]at this;rw[UA,Xo,fl1];omega,by have:=a9.o;rw[DG,LA]at this;omega,a7.o,a1.o,b2.o⟩
   case measure=>simp[intOf]
variable (rb:Nat) (vb:Value) (n:Nat)
theorem Y2l[LB]:Pa rb vb n:=fun q v l w h Z L M=>by
 obtain⟨iN,a2,b5,b4,b2⟩:=Yk Wc
 have B:=h.lt
 have HN:=X1 Z
 have HR:=X1 h
 rcases Z.1.2 with⟨hv,h0⟩|⟨g,c,d1,hv,_⟩
 .subst hv
  obtain rfl:l=[]:=P1.1 h0;have E:Hid ((((w.alloc (.cells #[.slice none 0 0] 25)).alloc (.cells #[.slice none 0 0] 25)).alloc (.cells #[] 48)).ownsRow w.heap.size 48 5 (.slice (some ⟨w.heap.size+1+1,0,none⟩) 0 0) 0 []):=X1 (by
   have hr:=XV (base:=w.heap.size) (e:=48) (size:=5) ((w.alloc (.cells #[.slice none 0 0] 25)).alloc (.cells #[.slice none 0 0] 25)) #[] 0 (by simp;omega) (X6 _) rfl;simpa using hr)
  have HS:=X1 (SP.start (w5:=(((w.alloc (.cells #[.slice none 0 0] 25)).alloc (.cells #[.slice none 0 0] 25)).alloc (.cells #[] 48))) HR.o HN.o (World.grownBy.Y1g _ _) E.o);clear h Z h0;obtain⟨_,t0,o0,ft,_⟩:=HS.o.cells;rw[show(((w.alloc (.cells #[.slice none 0 0] 25)).alloc (.cells #[.slice none 0 0] 25)).alloc (.cells #[] 48)).heap.size=w.heap.size+1+1+1 by simp]at o0 HS;go_enter func27,ntmps27;go_upto_region 2 with(at_builtin;refine wpList_append_own_none rfl _ _ 23 rfl w.heap.size 48 iN 5 underlying23 a2 _ 0 [] rfl E.o rfl ?_);generalize Y:(((w.alloc (.cells #[.slice none 0 0] 25)).alloc (.cells #[.slice none 0 0] 25)).alloc (.cells #[] 48)).alloc (.cells #[.slice (some ⟨w.heap.size+1+1,0,none⟩) 0 0] 25)=w6 at *;clear Y E;have d:=X1 (HS.o.ret (l':=[]) (v':= .slice (some ⟨w.heap.size+1+1,0,none⟩) 0 0) ⟨QJ HS.o.o (X6 _),F3⟩);go_wp2;exact X7 (v:= .agg #[.slice (some ⟨w.heap.size+1+1,0,none⟩) 0 0]) (by simp[results,results27,go_sem,t0]) rfl ⟨_,_,rfl,d.o.1,X6 _,d.o.2.1.mono (by omega),d.o.2.2⟩
 .subst hv;have a5:∀(j:Nat) (x:Value),(Xe l)[j]?=some x->(((w.alloc (.cells #[.slice (some ⟨g,0,none⟩) l.length c] 25)).alloc (.cells #[.slice none 0 0] 25)).alloc (.cells #[] 48)).cell? ((⟨g,0,none⟩:Addr).add j)=some x:=fun j x hx=>by
   have b3:BL w (((w.alloc (.cells #[.slice (some ⟨g,0,none⟩) l.length c] 25)).alloc (.cells #[.slice none 0 0] 25)).alloc (.cells #[] 48)):=((bA _).alloc (by simp) _).alloc (by simp;omega) _;have h1:=JN Z.1 rfl j x hx;rw[Ye]at h1⊢;exact(b3.cell (p:=⟨g,0+j,none⟩) (Z.1.lt g rfl).2).trans h1
  have a0:=X1 a5;have E:Hid ((((w.alloc (.cells #[.slice (some ⟨g,0,none⟩) l.length c] 25)).alloc (.cells #[.slice none 0 0] 25)).alloc (.cells #[] 48)).ownsRow w.heap.size 48 5 (.slice (some ⟨w.heap.size+1+1,0,none⟩) 0 0) 0 []):=X1 (by
   have hr:=XV (base:=w.heap.size) (e:=48) (size:=5) ((w.alloc (.cells #[.slice (some ⟨g,0,none⟩) l.length c] 25)).alloc (.cells #[.slice none 0 0] 25)) #[] 0 (by simp;omega) (X6 _) rfl;simpa using hr)
  have S:w.heap.size<=(((w.alloc (.cells #[.slice (some ⟨g,0,none⟩) l.length c] 25)).alloc (.cells #[.slice none 0 0] 25)).alloc (.cells #[] 48)).heap.size:=by simp;omega
  clear h Z a5;go_enter func27,ntmps27;go_wp2_with(at_builtin;refine Yg _ rfl _ _ 23 rfl w.heap.size 48 iN _ 5 48 underlying23 a2 b5 b4 b2 rfl (by decide) _ 0 [] rfl E.o ⟨g,0,none⟩ l.length c (Xe l) rfl (Il l) a0.o (WR l) (by unfold maxLen;omega) (by omega) S ?_);intro ov w5 r1 r2 r3 r4;have P:w5.ownsRow w.heap.size 48 5 ov l.length (Xe l):=by simpa using r1
  have t:=X1 (SP.start HR.o HN.o r2 P);obtain⟨op,oc,b7⟩:=XQ P;subst b7;clear r1 r2 r3 r4 a0 E S;go_upto_region 2 with fail;generalize Y:w5.alloc (.cells #[.slice op l.length oc] 25)=w6 at *;generalize w5.heap.size=H at *;have o0:=t.o.cells.2.2.1;by_cases a6:l.length=0
  .obtain rfl:=P1.1 a6;simp only[ZN]at o0;have t:Hid (SP rb vb n w (.slice (some ⟨g,0,none⟩) 0 c) [] w.heap.size (w.heap.size+1) H q (.slice op 0 oc) [] w6):=t;have d:=X1 (t.o.ret (l':=[]) (v':= .slice op 0 oc) ⟨QJ t.o.o (X6 _),t.o.sh⟩);obtain⟨_,t0,_,ft,_⟩:=t.o.cells;go_wp2;exact X7 (v:= .agg #[.slice op 0 oc]) (by simp[results,results27,go_sem,t0]) rfl (by first|exact⟨_,_,rfl,d.o.1,(X6 _),d.o.2.1.mono (by omega),d.o.2.2⟩|exact⟨_,rfl,_,d.o.1,(X6 _),d.o.2.1.mono (by omega),d.o.2.2⟩)
  .have y:((l.length:Int)==0)=false:=DU.2 (by omega);have A:(0:Int)<(l.length:Int):=by omega
   obtain⟨og,b6⟩:∃og,op=some ⟨og,0,none⟩:=by
    rcases P.2 with⟨_,h0⟩|⟨g',c',_,h2,_⟩
    .exact absurd h0 a6
    .cases h2;exact⟨_,rfl⟩
   subst b6;clear P Y;go_wp2_with fail;refine(Rq.pick t.o.r (by omega) 256 (by omega) (by omega)).mono ?_;rintro e w7⟨N,d4,rfl,a7,a9⟩;have W:=X1 (t.o.ty a9 a7);clear a7 a9 t o0;go_wp2_with fail;refine(Rq.pick W.o.r (by omega) 256 (by omega) (by omega)).mono ?_;rintro e w8⟨V,d5,rfl,a8,b0⟩;have C:=X1 (W.o.ty b0 a8);clear a8 b0 W;have D:(N*256+V)%l.length<l.length:=WB _ (by omega);have e0:IntKind.i64.wrap ((N:Int)*256)=(N:Int)*256:=by rw[Yt];omega
   have e3:IntKind.i64.wrap ((N:Int)*256+(V:Int))=(N:Int)*256+(V:Int):=by rw[Yt];omega
   have e1:((N:Int)*256+(V:Int))%(l.length:Int)=(((N*256+V)%l.length:Nat):Int):=by simp
   have e2:((N:Int)*256+(V:Int)).tmod (l.length:Int)=(((N*256+V)%l.length:Nat):Int):=by rw[Dw (by omega)];exact e1
   generalize(N*256+V)%l.length=k at *;have o2:=C.o.cells.2.2.1;obtain⟨q0,q1,q2,q3,q4,_⟩:=C.o.node D;have a1:Hid (XN w w8.heap.size (.slice (some ⟨og,0,none⟩) l.length oc) l[k] (w8.alloc (.cells #[.int .i64 l[k].kind,.int .i64 l[k].op,.int .i64 l[k].n,.string l[k].text,.int .i64 l[k].kids] 48))):=X1 ⟨XM _ _,C.o.sh _ (XR D),fun e=>by have:=(C.o.o.lt _ e).2;omega,C.o.tf.size⟩;have X:=X1 (C.o.below (bA (.cells #[.int .i64 l[k].kind,.int .i64 l[k].op,.int .i64 l[k].n,.string l[k].text,.int .i64 l[k].kids] 48)));have u:=X1 C.o.sh;go_upto_region 7 with fail;generalize b8:w8.alloc (.cells #[.int .i64 l[k].kind,.int .i64 l[k].op,.int .i64 l[k].n,.string l[k].text,.int .i64 l[k].kids] 48)=w9 at *;generalize d3:w8.heap.size=I at *;generalize l[k]=K at *;clear b8 C;go_cut[39]from 38 to 200 (fun c8 wx=>∃z:Nat,z<10/\c8= .int .i64 (z:Int)/\SP rb vb n w (.slice (some ⟨g,0,none⟩) l.length c) l w.heap.size (w.heap.size+1) H (q+3) (.slice (some ⟨og,0,none⟩) l.length oc) l wx/\XN w I (.slice (some ⟨og,0,none⟩) l.length oc) K wx)
   case first=>
    go_wp2_with fail;refine(Rq.pick X.o.r (by omega) 10 (by omega) (by omega)).mono ?_;rintro e e5⟨z,hz,rfl,Q,J⟩;have m:=X1 (X.o.ty J Q);have s:=X1 (a1.o.ty J);clear Q J;go_wp2_with fail;go_meet
    case rel=>exact⟨z,by omega,rfl,m.o,s.o⟩
   case rest=>
    obtain⟨z,hz,rfl,a3,a4⟩:=hcut;have m:=X1 a3;have s:=X1 a4;clear a3 a4 X a1 q0 q1 q2 q3 q4 o2 e0 e1 e2 e3;rename ∀(a:Act) (w:World),_->_=>hKK;refine hKK _ _ ?_;go_cut[9,10,11,12,13]from 39 to 200 (fun _ _ _ _ _ wx=>∃x,SP rb vb n w (.slice (some ⟨g,0,none⟩) l.length c) l w.heap.size (w.heap.size+1) H (q+6) (.slice (some ⟨og,0,none⟩) l.length oc) l wx/\XN w I (.slice (some ⟨og,0,none⟩) l.length oc) x wx)
    case first=>
     have b9:z=0\/z=1\/z=2\/z=3\/z=4\/z=5\/z=6\/z=7\/z=8\/z=9:=by omega
     rcases b9 with rfl|rfl|rfl|rfl|rfl|rfl|rfl|rfl|rfl|rfl
     .exact L8 0 (by decide) rb vb n q l w g c H og oc I k K wc L M y A D B u m s _ _ (by unfold spJ;assumption) (by assumption) _ rfl
     .exact L8 1 (by decide) rb vb n q l w g c H og oc I k K wc L M y A D B u m s _ _ (by unfold spJ;assumption) (by assumption) _ rfl
     .exact L8 2 (by decide) rb vb n q l w g c H og oc I k K wc L M y A D B u m s _ _ (by unfold spJ;assumption) (by assumption) _ rfl
     .exact L8 3 (by decide) rb vb n q l w g c H og oc I k K wc L M y A D B u m s _ _ (by unfold spJ;assumption) (by assumption) _ rfl
     .exact L8 4 (by decide) rb vb n q l w g c H og oc I k K wc L M y A D B u m s _ _ (by unfold spJ;assumption) (by assumption) _ rfl
     .exact Sf 5 (by decide) rb vb n q l w g c H og oc I k K wc L M y A D B u m s _ _ (by unfold spJ;assumption) (by assumption) _ rfl
     .exact Sf 6 (by decide) rb vb n q l w g c H og oc I k K wc L M y A D B u m s _ _ (by unfold spJ;assumption) (by assumption) _ rfl
     .exact Sf 7 (by decide) rb vb n q l w g c H og oc I k K wc L M y A D B u m s _ _ (by unfold spJ;assumption) (by assumption) _ rfl
     .exact Y2e rb vb n q l w g c H og oc I k K wc L M y A D B u m s _ _ (by unfold spJ;assumption) (by assumption) _ rfl
     .exact Y2f rb vb n q l w g c H og oc I k K wc L M y A D B u m s _ _ (by unfold spJ;assumption) (by assumption) _ rfl
    case rest=>
     obtain⟨x,hS,hX⟩:=hcut;have c9:=X1 hS;have d0:=X1 hX;have o5:=hS.cells.2.2.1;obtain⟨q0,q1,q2,q3,q4,qf⟩:=hS.node D;have d6:=qf (k*5);have d7:=qf (k*5+1);have d8:=qf (k*5+2);have d9:=qf (k*5+3);have e4:=qf (k*5+4);obtain⟨y0,y1,y2,y3,y4,_⟩:=hX.cells;have F:=X1 (hS.Y0z (k:=k) x hX.sh D);have d2:(l.set k x).length=l.length:=by simp
     have b1:Hid (NR _ (.slice (some ⟨og,0,none⟩) l.length oc) (l.set k x)):=X1 ⟨QJ F.o.o (X6 _),F.o.sh⟩;have d:=X1 (F.o.ret b1.o);have o6:=F.o.cells.2.2.1;have t0:=F.o.cells.2.1;have ft:=F.o.cells.2.2.2.1;clear hS hX qf m s;go_wp2;exact X7 (v:= .agg #[(.slice (some ⟨og,0,none⟩) l.length oc)]) (by simp[results,results27,go_sem,t0]) rfl ⟨_,_,rfl,d.o.1,by omega,d.o.2.1.mono (by omega),d.o.2.2⟩
theorem X3y[LB](m:Nat)(v:Value)(w:World)(h:ByV w v m)(j:JT<=w.heap.size):Calls prog 4 #[v] w fun e w'=>DTk w e w':=X3z (fun rb vb n q w h l=>Y0q rb vb n (fun gb d kd a k=>Y1e gb rb vb n d kd a k) (fun gb c g=>X3s gb rb vb n c g) q w h l) (fun rb vb n=>Y2l rb vb n) m v w h j
theorem X4a(m:Nat)(v:Value)(w:World)(h:ByV w v m):Calls prog 4 #[v] w fun e w'=>∃v l,e= .returned (.agg #[v])/\NR w' v l/\l.length<=300000/\Below w.heap.size w w':=by
 have c:∀I:Inhabited Bs,@JT I=w.heap.size->Calls prog 4 #[v] w fun e w'=>∃v l,e= .returned (.agg #[v])/\NR w' v l/\l.length<=300000/\BL w w':=fun I d=>by
  refine(X3y m v w h (by rw[d];exact X4 _)).mono ?_;rintro e w'⟨v',l,rfl,k,j,a⟩;exact⟨v',l,rfl,k,j,⟨a.os,a.tape,a.output,a.size,fun b g=>a.old b g (by rw[d];exact g)⟩⟩
 exact c ⟨(show Bs from w.heap.size)⟩ rfl
theorem X7v(ns:List Nd)(r A:Nat)(w:World)(hn:ns.length<=1048576)(I:∀x∈ns,x.text.size<=1048576)(P:U4 w)(H:Yw w r ns): Calls prog 11 #[.agg #[.slice (some ⟨r,0,none⟩) ns.length A]] w fun e w'=>e= .returned (.agg #[.int .i64 (Yi ns).1,.int .i64 (Yi ns).2])/\Below w.heap.size w w':=by
 have K:BL w ((w.alloc (.cells #[.slice (some ⟨r,0,none⟩) ns.length A] 25)).alloc (.cells #[.int .i64 0,.int .i64 0] 35)):=(bA _).alloc (by simp) _;have q:=X1 (X9h ns r A _ hn I (H.below K));rw[Pj ns]at q;have W:=X1 H;have V:=X1 P;have X:=X1 I;clear H P I;cases y:YS ns
 .have B:Hid (Yi ns=(11,0)):=X1 (by unfold Yi;rw[y];rfl);rw[y]at q;rw[B.o];go_enter func11,ntmps11;go_wp2_with fail;refine q.o.mono ?_;rintro e w1⟨rfl,a⟩;rw[Xb,Xb]at a;obtain⟨L,C,D,Z,b4⟩:=boxes a;have c:=K.trans (a.mono (by omega));clear a;go_wp2;refine X7 (v:= .agg #[.int .i64 11,.int .i64 0]) (by simp[results,results11,go_sem,C,D]) rfl ⟨rfl,?_⟩;exact(c.setCell (p:=⟨w.heap.size+1,0,none⟩) (by simp) _).setCell (p:=⟨w.heap.size+1,1,none⟩) (by simp) _
 .obtain⟨F,u,n,k⟩:=JL y;have B:=X1 (NT y).1;rw[y]at q;have s:=X1 (fun w' (Q:BL w w')=>X0z ns r A w' F u n k X.o (V.o.below Q) (W.o.below Q));clear k;go_enter func11,ntmps11;go_wp2_with fail;refine q.o.mono ?_;rintro e w1⟨rfl,a⟩;rw[Xb,Xb]at a;obtain⟨L,_⟩:=boxes a;have c:=K.trans (a.mono (by omega));have z:w.heap.size+1+1<=w1.heap.size:=by have:=a.size;simpa using this
  go_wp2_with fail;refine(s.o _ c).mono ?_;rintro e S⟨wb,kg,kc,cg,bg,rfl,N,M,a1,a0,d⟩;have g:=a.trans (d.mono z);have t:=c.trans (d.mono c.size);have J:w.heap.size+1+1<=S.heap.size:=XO z d.size;have l:=X1 (X5j ns _ wb r A kg kc cg bg _ S u N M);rw[show Zl (YX ns (Xc ns) ns.length (ns.length-1) [Vm] (K8 ns.length)).Xj 0=Yi ns from B.o]at l;clear N M d q s;go_wp2_with fail;refine l.o.mono ?_;rintro e w3⟨rfl,m⟩;have j:=g.trans (m.mono J);obtain⟨Y,C,D,Z,b4⟩:=boxes j;have E:=t.trans (m.mono t.size);clear a g j m l L;go_wp2;refine X7 (v:= .agg #[.int .i64 (Yi ns).1,.int .i64 (Yi ns).2]) (by simp[results,results11,go_sem,C,D]) rfl ⟨rfl,?_⟩;exact(E.setCell (p:=⟨w.heap.size+1,0,none⟩) (by simp) _).setCell (p:=⟨w.heap.size+1,1,none⟩) (by simp) _
theorem Xbi{α:Type}{l:List α}(h:l.length=1):∃a,l=[a]:=by
 match l,h with
 | [a],_=>exact⟨a,rfl⟩
theorem CK{α:Type}{l:List α}(h:l.length=2):∃a b,l=[a,b]:=by
 match l,h with
 | [a,b],_=>exact⟨a,b,rfl⟩
theorem Xbj{α:Type}{l:List α}(h:l.length=3):∃a b c,l=[a,b,c]:=by
 match l,h with
 | [a,b,c],_=>exact⟨a,b,c,rfl⟩
theorem X0j(l:Nat):∀f,Ln Fd.O l f:=by
 intro f;induction f with
 | zero=>intro y I;have:=Fd.size_pos y;omega
 | succ f J=>
  intro y I X N F B u w M P h;obtain⟨x,p,b,ks⟩:=y;rw[Fd.Zi]at I;have H:∀t∈ks,t.size<=f:=fun t S=>by have:=Fd.Ql S;omega
  have Q:=Fd.IP ks;obtain⟨v,a⟩:=(Fd.Jb _ _ _ _).1 N;obtain⟨Y,Z,V,E,K,L⟩:=(Fd.Q2 _ _ _ _ _ _ _).1 h;obtain⟨g,d,D⟩:=YV E;subst D;have s:Anw Fd.O l f B w x p b ks g d:=Anw.of J (by omega) H (by omega) a (F.kids) M P E K L;obtain⟨k,o,m,t,c0⟩:=x;subst V;by_cases z:k=6
  .subst z;obtain⟨r,C⟩:=v.un rfl;obtain⟨c,rfl⟩:=Xbi r;exact⟨_,_,X1w o m 1 t (.slice g 1 d) (pt l) w,Y4z o m c0 t p b c B g d w s (a c (by simp)) C⟩
  .by_cases A:k=7
   .subst A;obtain⟨r,C⟩:=v.bin rfl;obtain⟨c,j,rfl⟩:=CK r;exact⟨_,_,X1s o m 2 t (.slice g 2 d) (pt l) w,X0w o m c0 t p b c j B g d w s (a c (by simp)) (a j (by simp)) C⟩
   .by_cases n:k=13
    .subst n;obtain⟨c,j,W,rfl⟩:=Xbj (v.choice rfl);exact⟨_,_,X1t o m 3 t (.slice g 3 d) (pt l) w,X7y Fd.WW o m c0 t p b c j W B g d w s (a c (by simp))⟩
    .by_cases q:k=14
     .subst q;obtain⟨c,j,rfl⟩:=CK (v.bind rfl);exact⟨_,_,X1u o m 2 t (.slice g 2 d) (pt l) w,Xbl Fd.WW Fd.Bg J (by omega) o m c0 t p b c j B g d w s (a c (by simp)) (a j (by simp)) (F.AI rfl) (H j (by simp))⟩
     .refine⟨_,_,X1v z A n q o m ks.length t (.slice g ks.length d) (pt l) w,?_⟩;rw[Fd.fold_succ,Fd.G4 _ _ _ _ _ _ z A n q];exact s.L9 w (X5 _ _)
end Go.Proofs.YtkoiikmhfaebnaaGreatDoor
namespace Go.Proofs.YtkoiikmhfaebnaaGreatDoor
open Go.Proofs.Tryz
namespace Fd
theorem Y3j{ns:List Nd}{B:List Int}:∀(f g k:Nat),k<f->k<g->k<ns.length->take ns (Xc ns) B f k=take ns (Xc ns) B g k:=by
 intro f;induction f with
 | zero=>intro g k h;omega
 | succ f l=>
  intro g k m n q;cases g with
  | zero=>omega
  | succ g=>
   rw[take_succ,take_succ];congr 1;refine JF fun x c=>?_;have a:k<(Xc ns).length\/¬k<(Xc ns).length:=by omega
   have j:x<k:=by
    rcases a with a|a
    .have d:x∈(Xc ns)[k]:=by
      have:X9 (Xc ns) k=(Xc ns)[k]:=by simp[X9,a]
      rw[this]at c;exact c
     exact WJ ns k a x d
    .have:X9 (Xc ns) k=[]:=by simp[X9,a]
     rw[this]at c;cases c
   exact l g x (by omega) (by omega) (by omega)
def tk(ns:List Nd)(j:Nat):Fd:=take ns (Xc ns) (Yl ns) ns.length j
theorem Y3x{ns:List Nd}{i:Nat}(h:i<ns.length)(a:i<(Xc ns).length):tk ns i= .mk ns[i] i (Tr.bOf (Yl ns) i) (((Xc ns)[i]).map (tk ns)):=by
 unfold tk;cases j:ns.length with
 | zero=>omega
 | succ n=>
  have c:Tr.Q1 ns i=ns[i]:=by simp[Tr.Q1,h]
  have d:X9 (Xc ns) i=(Xc ns)[i]:=by simp[X9,a]
  rw[take_succ,c,d];congr 1;refine JF fun x g=>?_;have:=WJ ns i a x g;exact Y3j n (n+1) x (by omega) (by omega) (by omega)
end Fd
