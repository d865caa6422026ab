import Derived.Test.YtkoiikmhfaebnaaGreatDoorB15
import Derived.Test.YtkoiikmhfaebnaaGreatDoorB17
import Derived.Laws.BytesArg
set_option maxHeartbeats 16000000
set_option maxRecDepth 100000
namespace Go.Proofs.YtkoiikmhfaebnaaGreatDoor
open Tryz Go.RowKit
variable (gb rb:Nat) (vb:Value) (n:Nat)
theorem Xdl[LB](d kd:Nat){kind:Int}(h0:kind≠0)(h1:kind≠1)(X:kind≠2)(Y:kind≠3)(h4:kind≠4):OfK gb rb vb n d kd kind:=by
 intro HE a0 a5 q k w h hq hk b5;have b6:IntKind.i64.wrap (d:Int)=(d:Int):=by rw[Yt];omega
 have B:=h.B0;have c0:=h.c0;have a0:=X1 a0;have a5:=X1 a5;have HE:=X1 HE;clear h;have b8:(kind==0)=false:=by simpa using h0
 have b9:(kind==1)=false:=by simpa using h1
 have c8:(kind==2)=false:=by simpa using X
 have c9:(kind==3)=false:=by simpa using Y
 have d0:(kind==4)=false:=by simpa using h4
 go_enter func212,ntmps212;have HG:=X1 B.g;have HT:=X1 B.t;clear B;have a9:=X1 (HG.o.below (X5 _ _).drew);have b2:=X1 (HT.o.trans (.of (X5 _ _).drew));have b7:w.drew.heap.size=w.heap.size:=rfl;have a8:=X1 (HG.o.below (bA (.cells #[.string ⟨#[97]⟩,.string ⟨#[98]⟩] 9)).drew);have b1:=X1 (HT.o.trans (.of (bA (.cells #[.string ⟨#[97]⟩,.string ⟨#[98]⟩] 9)).drew));have b0:Hid ((((w.alloc (.cells #[.string ⟨#[97]⟩,.string ⟨#[98]⟩] 9)).drew).ownsRow 0 9 1 (.slice (some ⟨w.heap.size,0,none⟩) 2 2) 2 [.string ⟨#[97]⟩,.string ⟨#[98]⟩])):=X1 (XV (base:=0) (e:=9) (size:=1) w #[.string ⟨#[97]⟩,.string ⟨#[98]⟩] 2 (X6 _) (by unfold maxLen;omega) rfl);have v:Hid (¬XS (some 9)):=X1 (by unfold XS;simp);go_wp2_with fail;go_region_law(first
  | ((with_reducible refine Qz ((w.alloc (.cells #[.string ⟨#[97]⟩,.string ⟨#[98]⟩] 9)).drew) ?_);refine KL rfl 23 (.tmp 328) (.const (.int .i64 2)) _ _ rfl (.pointer (some ⟨rb,0,none⟩)) (.int .i64 2) (by first|(simp[Act.eval];done)|simp[Act.eval,Act.put]) (by first|(simp[Act.eval];done)|simp[Act.eval,Act.put]) f23 func23 (by kernel_rfl) (by kernel_rfl) _ (Dh gb rb vb n a8.o (by omega) 2 (by omega) (by omega)) ?_;intro v1 w1 h1;obtain⟨s,b4,Z,F,y⟩:=h1;subst Z;have L:=X1 F;obtain⟨u,K⟩:∃u:XC,([.string ⟨#[97]⟩,.string ⟨#[98]⟩]:List Value)[s]?=some (.string u):=(by have hz:s=0\/s=1:=(by omega);rcases hz with rfl|rfl<;>exact⟨⟨_,by exact YC rfl⟩,rfl⟩);have N:=X1 (b1.o.trans y);have S:=X1 (YL b0.o y v.o);have a1:=S.o.cells rfl s _ K;rw[Ye,Xn]at a1;clear F y)
  | ((with_reducible refine Qz (w.drew) ?_);refine KL rfl 23 (.tmp 328) (.const (.int .i64 2)) _ _ rfl (.pointer (some ⟨rb,0,none⟩)) (.int .i64 2) (by first|(simp[Act.eval];done)|simp[Act.eval,Act.put]) (by first|(simp[Act.eval];done)|simp[Act.eval,Act.put]) f23 func23 (by kernel_rfl) (by kernel_rfl) _ (Dh gb rb vb n a9.o (by omega) 2 (by omega) (by omega)) ?_;intro v1 w1 h1;obtain⟨s,b4,Z,F,y⟩:=h1;subst Z;have L:=X1 F;obtain⟨u,K⟩:∃u:XC,([.string ⟨#[97]⟩,.string ⟨#[98]⟩]:List Value)[s]?=some (.string u):=(by have hz:s=0\/s=1:=(by omega);rcases hz with rfl|rfl<;>exact⟨⟨_,by exact YC rfl⟩,rfl⟩);have N:=X1 (b2.o.trans y);have a1:=(XV (base:=0) (e:=9) (size:=1) w1 #[.string ⟨#[97]⟩,.string ⟨#[98]⟩] 2 (X6 _) (by unfold maxLen;omega) rfl).cells rfl s _ K;rw[Ye,Xn]at a1;clear F y)
  | ((with_reducible refine Qz (w1.alloc (.cells #[.string ⟨#[97]⟩,.string ⟨#[98]⟩] 9)) ?_);refine Wo rfl 147 (.tmp 333) (.const (.int .i64 4)) (.tmp 335) _ _ _ rfl (.pointer (some ⟨gb,0,none⟩)) (.int .i64 4) (.int .i64 (d:Int)) (by first|(simp[Act.eval];done)|simp[Act.eval,Act.put]) (by first|(simp[Act.eval];done)|simp[Act.eval,Act.put]) (by first|(simp[Act.eval];done)|simp[Act.eval,Act.put]) f147 func147 (by kernel_rfl) (by kernel_rfl) _ (UU gb rb vb n (HE.o _ _ _ _ (L.o.below (bA (.cells #[.string ⟨#[97]⟩,.string ⟨#[98]⟩] 9))) (by omega) (by omega))) ?_;intro v2 J X;obtain⟨l2,a,P,m2,r,j⟩:=X;obtain⟨m,l,H⟩:=a.form P;subst H;have C:=X1 a;have z:=X1 r;have D:=X1 ((N.o.trans (.of (bA (.cells #[.string ⟨#[97]⟩,.string ⟨#[98]⟩] 9)))).trans j);have A:=X1 (YL (XV (base:=0) (e:=9) (size:=1) w1 #[.string ⟨#[97]⟩,.string ⟨#[98]⟩] 2 (X6 _) (by unfold maxLen;omega) rfl) j v.o);have a2:=A.o.cells rfl s _ K;have a3:=(YL A.o (TyM.of (M:=XS) (bA (.cells #[.slice (some ⟨m,0,none⟩) l2.length l] 23))) v.o).cells rfl s _ K;rw[Ye,Xn]at a2 a3;clear r j a)
  | ((with_reducible refine Qz (w1) ?_);have _hl:=S.o;refine Wo rfl 147 (.tmp 333) (.const (.int .i64 4)) (.tmp 335) _ _ _ rfl (.pointer (some ⟨gb,0,none⟩)) (.int .i64 4) (.int .i64 (d:Int)) (by first|(simp[Act.eval];done)|simp[Act.eval,Act.put]) (by first|(simp[Act.eval];done)|simp[Act.eval,Act.put]) (by first|(simp[Act.eval];done)|simp[Act.eval,Act.put]) f147 func147 (by kernel_rfl) (by kernel_rfl) _ (UU gb rb vb n (HE.o _ _ _ _ L.o (by omega) (by omega))) ?_;intro v2 J X;obtain⟨l2,a,P,m2,r,j⟩:=X;obtain⟨m,l,H⟩:=a.form P;subst H;have C:=X1 a;have z:=X1 r;have D:=X1 (N.o.trans j);have A:=X1 (YL S.o j v.o);have a2:=A.o.cells rfl s _ K;have a3:=(YL A.o (TyM.of (M:=XS) (bA (.cells #[.slice (some ⟨m,0,none⟩) l2.length l] 23))) v.o).cells rfl s _ K;rw[Ye,Xn]at a2 a3;clear r j a)
  | ((with_reducible refine Qz (w1) ?_);refine Wo rfl 147 (.tmp 333) (.const (.int .i64 4)) (.tmp 335) _ _ _ rfl (.pointer (some ⟨gb,0,none⟩)) (.int .i64 4) (.int .i64 (d:Int)) (by first|(simp[Act.eval];done)|simp[Act.eval,Act.put]) (by first|(simp[Act.eval];done)|simp[Act.eval,Act.put]) (by first|(simp[Act.eval];done)|simp[Act.eval,Act.put]) f147 func147 (by kernel_rfl) (by kernel_rfl) _ (UU gb rb vb n (HE.o _ _ _ _ L.o (by omega) (by omega))) ?_;intro v2 J X;obtain⟨l2,a,P,m2,r,j⟩:=X;obtain⟨m,l,H⟩:=a.form P;subst H;have C:=X1 a;have z:=X1 r;have D:=X1 (N.o.trans j);have a2:=(XV (base:=0) (e:=9) (size:=1) J #[.string ⟨#[97]⟩,.string ⟨#[98]⟩] 2 (X6 _) (by unfold maxLen;omega) rfl).cells rfl s _ K;rw[Ye,Xn]at a2;have a3:=(XV (base:=0) (e:=9) (size:=1) (J.alloc (.cells #[.slice (some ⟨m,0,none⟩) l2.length l] 23)) #[.string ⟨#[97]⟩,.string ⟨#[98]⟩] 2 (X6 _) (by unfold maxLen;omega) rfl).cells rfl s _ K;rw[Ye,Xn]at a3;have a4:=(YL (XV (base:=0) (e:=9) (size:=1) J #[.string ⟨#[97]⟩,.string ⟨#[98]⟩] 2 (X6 _) (by unfold maxLen;omega) rfl) (TyM.of (M:=XS) (bA (.cells #[.slice (some ⟨m,0,none⟩) l2.length l] 23))) v.o).cells rfl s _ K;rw[Ye,Xn]at a4;rw[Xb]at a3;clear r j a)
  | ((with_reducible refine Qz (J.alloc (.cells #[.slice (some ⟨m,0,none⟩) l2.length l] 23)) ?_);refine KL rfl 80 (.tmp 332) (.tmp 337) _ _ rfl (ndV ⟨11,0,0,u,0⟩) (.slice (some ⟨J.heap.size,0,none⟩) 1 1) (by unfold ndV;first|(simp[Act.eval];done)|simp[Act.eval,Act.put]) (by first|(simp[Act.eval];done)|simp[Act.eval,Act.put]) f80 func80 (by kernel_rfl) (by kernel_rfl) _ (V1 (by have hh:=ZY ⟨11,0,0,u,0⟩ [_] _ _ kd (pr1 C.o P) (by simpa using m2) (by omega) (by simp);exact hh)) ?_;intro v3 w3 Y;obtain⟨l3,c,p3,m3,E⟩:=Y;obtain⟨a7,a6,I⟩:=c.form p3;subst I;have V:=X1 c;have Q:=X1 ((z.o.below (bA _)).below E);have W:=X1 ((D.o.trans (.of (bA _))).trans (.of E));clear c E)
  | ((with_reducible refine Qz ((J.alloc (.cells #[.string ⟨#[97]⟩,.string ⟨#[98]⟩] 9)).alloc (.cells #[.slice (some ⟨m,0,none⟩) l2.length l] 23)) ?_);refine KL rfl 80 (.tmp 332) (.tmp 337) _ _ rfl (ndV ⟨11,0,0,u,0⟩) (.slice (some ⟨(J.heap.size+1),0,none⟩) 1 1) (by unfold ndV;first|(simp[Act.eval];done)|simp[Act.eval,Act.put]) (by first|(simp[Act.eval];done)|simp[Act.eval,Act.put]) f80 func80 (by kernel_rfl) (by kernel_rfl) _ (V1 (by have hh:=ZY ⟨11,0,0,u,0⟩ [_] _ _ kd (pr1 (C.o.below (bA (.cells #[.string ⟨#[97]⟩,.string ⟨#[98]⟩] 9))) P) (by simpa using m2) (by omega) (by simp);rw[Xb]at hh;exact hh)) ?_;intro v3 w3 Y;obtain⟨l3,c,p3,m3,E⟩:=Y;obtain⟨a7,a6,I⟩:=c.form p3;subst I;have V:=X1 c;have Q:=X1 ((z.o.below ((bA _).alloc (by simp) _)).below E);have W:=X1 ((D.o.trans (.of ((bA _).alloc (by simp) _))).trans (.of E));clear c E)
  | ((with_reducible refine Qz ((J.alloc (.cells #[.slice (some ⟨m,0,none⟩) l2.length l] 23)).alloc (.cells #[.string ⟨#[97]⟩,.string ⟨#[98]⟩] 9)) ?_);refine KL rfl 80 (.tmp 332) (.tmp 337) _ _ rfl (ndV ⟨11,0,0,u,0⟩) (.slice (some ⟨J.heap.size,0,none⟩) 1 1) (by unfold ndV;first|(simp[Act.eval];done)|simp[Act.eval,Act.put]) (by first|(simp[Act.eval];done)|simp[Act.eval,Act.put]) f80 func80 (by kernel_rfl) (by kernel_rfl) _ (V1 (by have hh:=ZY ⟨11,0,0,u,0⟩ [_] _ _ kd ((pr1 C.o P).below (bA (.cells #[.string ⟨#[97]⟩,.string ⟨#[98]⟩] 9))) (by simpa using m2) (by omega) (by simp);exact hh)) ?_;intro v3 w3 Y;obtain⟨l3,c,p3,m3,E⟩:=Y;obtain⟨a7,a6,I⟩:=c.form p3;subst I;have V:=X1 c;have Q:=X1 ((z.o.below ((bA _).alloc (by simp) _)).below E);have W:=X1 ((D.o.trans (.of ((bA _).alloc (by simp) _))).trans (.of E));clear c E)
  )
 all_goals
  go_wp2;go_ret;exact⟨_,_,rfl,V.o,p3,by omega,Q.o.mono (by omega),W.o⟩
namespace Sc
theorem Y5h{b:UInt8}(r:List UInt8)(h:b.toNat=34):unq (b::r)=some ([],1):=by unfold unq;rw[X3 h]
theorem Y5j{b:UInt8}(r:List UInt8)(h:b.toNat=92)(a:r.length<2):unq (b::r)=none:=by
 unfold unq;rw[X2 (by omega),X3 h]
 match r,a with
 | [],_=>rfl
 | [_],_=>rfl
theorem FF{b x y:UInt8}(r:List UInt8)(h:b.toNat=92)(a:Qe x<0\/Qe y<0):unq (b::x::y::r)=none:=by
 unfold unq;rw[X2 (by omega),X3 h];simp only;rw[X3 a]
theorem Y5i{b x y:UInt8}(r:List UInt8)(h:b.toNat=92)(a:¬Qe x<0)(c:¬Qe y<0): unq (b::x::y::r)=(unq r).map fun p=>(UInt8.ofNat (16*Qe x+Qe y).toNat::p.1,p.2+3):=by
 conv=>lhs;unfold unq
 rw[X2 (by omega),X3 h];simp only;rw[X2 (by omega)]
theorem FG{b:UInt8}(r:List UInt8)(a:b.toNat≠34)(c:b.toNat≠92)(h:b.toNat<32\/126<b.toNat):unq (b::r)=none:=by
 unfold unq;rw[X2 a,X2 c,X3 h]
theorem Y5k{b:UInt8}(r:List UInt8)(a:b.toNat≠34)(c:b.toNat≠92)(h:¬(b.toNat<32\/126<b.toNat)):unq (b::r)=(unq r).map fun p=>(b::p.1,p.2+1):=by
 conv=>lhs;unfold unq
 rw[X2 a,X2 c,X2 h]
theorem Cr(b:UInt8):-1<=Qe b/\Qe b<=15:=by unfold Qe;split<;>(try split)<;>omega
def bytesOf(t:List UInt8):List Value:=t.map fun c=>Value.int .u8 c.toNat
theorem X1r(t:List UInt8)(c:UInt8):bytesOf (t++[c])=bytesOf t++[.int .u8 c.toNat]:=by simp[bytesOf]
theorem strOf(t:List UInt8):strOfNums (t.map fun c=>(c.toNat:Int))=⟨t.toArray⟩:=by
 unfold strOfNums;simp[Function.comp_def]
end Sc
theorem X8q:(prog.info? 5).map (fun i=>(i.zero,i.size,i.bytes))=some (some (.int .u8 0),1,1):=by kernel_rfl
theorem X3g{w:World}{base g a:Nat}{t:List UInt8}(h:w.ownsRow base 5 1 (.slice (some ⟨g,0,none⟩) t.length a) t.length (Sc.bytesOf t)): (convert 22 9 (.slice (some ⟨g,0,none⟩) t.length a)).run prog w= .ok (.string ⟨t.toArray⟩) w:=by
 have:=run_convert_bytes_arg (P:=prog) w 22 5 underlying22 underlying5 g 0 t.length a (t.map fun c=>(c.toNat:Int)) (by simp) (fun i hi=>by
  rw[Xn,h.cellAt i (by omega)];simp[Sc.bytesOf,hi]) 9 underlying9
 rw[this,Sc.strOf]
theorem below_drewN{B:Nat}{a w:World}(h:Below B a w)(n:Nat):Below B a (w.drewN n):=⟨h.os,h.tape,h.output,h.size,h.block⟩
theorem Y1p{W:World}{base:Nat}{e:TypeId}{size:Nat}{v:Value}{k:Nat}{d:List Value}(h:W.ownsRow base e size v (k+1) d):∃g a,v= .slice (some ⟨g,0,none⟩) (k+1) a:=by
 rcases h.2 with⟨_,j⟩|⟨g,a,_,c,_⟩
 .omega
 .exact⟨g,a,c⟩
theorem AH{w wr w1:World}{g j:Nat}{t:List UInt8}{c:UInt8}{v':Value}{o:Obj}(l:wr.ownsRow w.heap.size 5 1 (.slice (some ⟨g,0,none⟩) t.length j) t.length (Sc.bytesOf t))(n:BL w wr)(d:w1.ownsRow w.heap.size 5 1 v' (t.length+1) (Sc.bytesOf t++[.int .u8 c.toNat]))(q:(wr.alloc o).grownBy w1 (Value.slice (some ⟨g,0,none⟩) t.length j).ownBlock): ∃m a,v'= .slice (some ⟨m,0,none⟩) (t.length+1) a/\w1.ownsRow w.heap.size 5 1 (.slice (some ⟨m,0,none⟩) (t++[c]).length a) (t++[c]).length (Sc.bytesOf (t++[c]))/\Below w.heap.size w w1:=by
 obtain⟨m,a,rfl⟩:=Y1p d;refine⟨m,a,rfl,by rw[Sc.X1r,Xo];exact d,(n.alloc n.size _).grown q (by have:=n.size;simp;omega) (fun k e=>?_)⟩;exact(l.lt k e).1
def Lg(k:Nat)(r:Option (List UInt8 × Nat)):Value:=
 match r with
 | none=> .tuple #[.string ⟨#[]⟩,.int .i64 0,.bool false]
 | some p=> .tuple #[.string ⟨p.1.toArray⟩,.int .i64 ((k:Int)+1+p.2),.bool true]
theorem X7j{x y:Int}(a:0<=x)(d:x<=15)(c:0<=y)(g:y<=15):((UInt8.ofNat (16*x+y).toNat).toNat:Int)=16*x+y:=by
 rw[UInt8.toNat_ofNat'];omega
theorem Y5l{k j:Nat}{t:List UInt8}(h:k+1<=j):Ending.returned (.tuple #[.string ⟨t.toArray⟩,.int .i64 ((j:Int)+1),.bool true])= .returned (Lg k (some (t,j-k))):=by
 unfold Lg;simp;omega
theorem Y5m(s:ByteArray)(k:Nat)(a:Int)(w:World)(hs:s.size<=1048576)(hk:k<s.size)(ha:a=(k:Int)): Calls prog 204 #[.string s,.int .i64 a] w fun e w'=>e= .returned (Lg k (Sc.unq (s.data.toList.drop (k+1))))/\Below w.heap.size w w':=by
 subst ha;obtain⟨i0,hi,M,N,P⟩:=Yk X8q;go_enter func204,ntmps204;go_wp2
 go_loopw[7,8] (fun v i wr=>∃(j:Nat) (t:List UInt8) (g z:Nat),k+1<=j/\j<=s.size/\i= .int .i64 j/\v= .slice (some ⟨g,0,none⟩) t.length z/\wr.ownsRow w.heap.size 5 1 (.slice (some ⟨g,0,none⟩) t.length z) t.length (Sc.bytesOf t)/\BL w wr/\t.length<=j/\
   Sc.unq (s.data.toList.drop (k+1))=(Sc.unq (s.data.toList.drop j)).map fun p=>(t++p.1,p.2+(j-(k+1)))) (fun _ i _=>s.size-(intOf i).toNat)
 case atStart=>
  exact⟨k+1,[],w.heap.size,0,X4 _,hk,by go_num,rfl,XV w #[] 0 (X4 _) (X6 _) rfl,bA _,X6 _,by simp⟩
 case round=>
  obtain⟨j,t,g,z,S,hj,rfl,rfl,l,u,a5,Z⟩:=hrel;have y:=X1 Z;clear Z;have a4:=u.size;by_cases J:j<s.size
  .have I:=X1 (Sc.drop_cons s j J);cases E:((s[j].toNat:Int)==34)
   .have A:Hid (s[j].toNat≠34):=by simp at E;exact X1 (by omega)
    cases F:((s[j].toNat:Int)==92)
    .have m:Hid (s[j].toNat≠92):=by simp at F;exact X1 (by omega)
     by_cases hlo:(s[j].toNat:Int)<32
     .have q:Hid (Sc.unq (s.data.toList.drop (k+1))=none):=X1 (by rw[y.o,I.o,Sc.FG _ A.o m.o (.inl (by omega))];rfl);go_wp2;go_ret3;exact⟨by rw[q.o];rfl,u⟩
     .by_cases a3:126<(s[j].toNat:Int)
      .have q:Hid (Sc.unq (s.data.toList.drop (k+1))=none):=X1 (by rw[y.o,I.o,Sc.FG _ A.o m.o (.inr (by omega))];rfl);go_wp2;go_ret3;exact⟨by rw[q.o];rfl,u⟩
      .go_wp2_with(at_builtin;refine FX _ rfl _ _ 22 rfl w.heap.size 5 i0 (.int .u8 0) 1 1 underlying22 hi M N P rfl (by decide) _ _ _ rfl (l.alloc _) ⟨wr.heap.size,0,none⟩ 1 1 [.int .u8 s[j].toNat] rfl rfl (cell_one_new _ _ _) (by simp[Value.oneCell']) ?_ ?_ ?_ ?_)
       .unfold maxLen;omega
       .omega
       .first|omega|(simp;omega)
       .intro v' w1 c d _;obtain⟨Q,r,rfl,D,B⟩:=AH l u c d;clear c d l;go_wp2;go_roundw
        case rel=>
         refine⟨j+1,t++[s[j]],Q,r,by omega,by omega,by go_num,by simp,D,B,by simp;omega,?_⟩;rw[y.o,I.o,Sc.Y5k _ A.o m.o (by omega),Option.map_map];congr 1;funext p;simp;omega
        case measure=>simp[intOf];omega
    .have m:Hid (s[j].toNat=92):=by simp at F;exact X1 (by omega)
     by_cases h2:s.size<=j+2
     .have q:Hid (Sc.unq (s.data.toList.drop (k+1))=none):=X1 (by rw[y.o,I.o,Sc.Y5j _ m.o (by simp;omega)];rfl);go_wp2;go_ret3;exact⟨by rw[q.o];rfl,u⟩
     .have C:=X1 (show s.data.toList.drop j=s[j]::s[j+1]::s[j+2]::s.data.toList.drop (j+3) by rw[Sc.drop_cons s j J,Sc.drop_cons s (j+1) (by omega),Sc.drop_cons s (j+2) (by omega)]);have X:=Sc.Cr s[j+1];have Y:=Sc.Cr s[j+2];obtain⟨a0,K⟩:=X;obtain⟨a1,L⟩:=Y;by_cases V:Sc.Qe s[j+1]<0
      .have q:Hid (Sc.unq (s.data.toList.drop (k+1))=none):=X1 (by rw[y.o,C.o,Sc.FF _ m.o (.inl V)];rfl);go_wp2_with(go_at_call 237;refine(Mp _ _).mono ?_;rintro e w'⟨rfl,rfl⟩);go_ret3;exact⟨by rw[q.o];rfl,u⟩
      .by_cases W:Sc.Qe s[j+2]<0
       .have q:Hid (Sc.unq (s.data.toList.drop (k+1))=none):=X1 (by rw[y.o,C.o,Sc.FF _ m.o (.inr W)];rfl);go_wp2_with(go_at_call 237;refine(Mp _ _).mono ?_;rintro e w'⟨rfl,rfl⟩);go_ret3;exact⟨by rw[q.o];rfl,u⟩
       .go_wp2_with(go_at_call 237;refine(Mp _ _).mono ?_;rintro e w'⟨rfl,rfl⟩);go_quiet((go_at_call 237;exact Calls.quiet_of_same (Mp _ _)));have n:(w'.drewN nq).ownsRow w.heap.size 5 1 (.slice (some ⟨g,0,none⟩) t.length z) t.length (Sc.bytesOf t):=l;have H:BL w (w'.drewN nq):=below_drewN u nq;go_wp2_with(at_builtin;refine FX _ rfl _ _ 22 rfl w.heap.size 5 i0 (.int .u8 0) 1 1 underlying22 hi M N P rfl (by decide) _ _ _ rfl (n.alloc _) ⟨w'.heap.size,0,none⟩ 1 1 [.int .u8 (16*Sc.Qe s[j+1]+Sc.Qe s[j+2])] rfl rfl (cell_one_new _ _ _) (by simp[Value.oneCell']) ?_ ?_ ?_ ?_)
        .unfold maxLen;omega
        .omega
        .first|omega|(simp;omega)
        .intro v' w1 c d _;rw[←X7j (by omega) K (by omega) L]at c;obtain⟨Q,r,rfl,D,B⟩:=AH n H c d;clear c d l n H;go_wp2;go_roundw
         case rel=>
          refine⟨j+3,_,Q,r,by omega,by omega,by go_num,by simp,D,B,by simp;omega,?_⟩;rw[y.o,C.o,Sc.Y5i _ m.o (by omega) (by omega),Option.map_map];congr 1;funext p;simp;omega
         case measure=>simp[intOf];omega
   .have a2:=X3g l;have q:Hid (Sc.unq (s.data.toList.drop (k+1))=some (t,j-k)):=X1 (by rw[y.o,I.o,Sc.Y5h _ (by simp at E;omega)];simp;omega);go_wp2;go_ret3;exact⟨by rw[q.o];exact Y5l S,u⟩
  .have q:Hid (Sc.unq (s.data.toList.drop (k+1))=none):=X1 (by rw[y.o,Yu (i:=j) (by simp;omega)];rfl);go_wp2;go_ret3;exact⟨by rw[q.o];rfl,u⟩
theorem Xeb(k:Nat)(r:Sc.R):∃(kd:Int) (g:ByteArray) (n a d c:Int),QU k r= .tuple #[.agg #[.int .i64 kd,.string g,.int .i64 n,.int .i64 a],.int .i64 d,.int .i64 c]:=by
 unfold QU;split<;>exact⟨_,_,_,_,_,_,rfl⟩
theorem Vu{B b:Nat}{w w1:World}{c d g j:Value}(h:Below B w w1)(a:B<=b):Below B w ((((w1.setCell ⟨b,0,none⟩ c).setCell ⟨b,1,none⟩ d).setCell ⟨b,2,none⟩ g).setCell ⟨b,3,none⟩ j):=(((h.setCell (p:=⟨b,0,none⟩) a _).setCell (p:=⟨b,1,none⟩) a _).setCell (p:=⟨b,2,none⟩) a _).setCell (p:=⟨b,3,none⟩) a _
def LC(l:List UInt8):Bool:=decide (l∈Sc.words)
theorem Ra(b:Nat)(s:ByteArray)(w:World)(t:List UInt8)(c:s.data.toList=t)(a:VQ w b Sc.words): Calls prog 202 #[.slice (some ⟨b,0,none⟩) 17 17,.string s] w fun e w'=>e= .returned (.bool (LC t))/\w'=w:=by
 subst c;exact R9 Sc.words b s w (by decide) a
theorem BJ{x:ByteArray}{t:List UInt8}(h:x.data.toList=t):x=⟨t.toArray⟩:=by subst h;exact(Lib.mk_data x).symm
theorem UN{W w1:World}(a:BL W w1):(∀b o,b<W.heap.size->w1.cell? ⟨b,o,none⟩=W.cell? ⟨b,o,none⟩)/\(∀b o,b<W.heap.size->w1.frozen? ⟨b,o,none⟩=W.frozen? ⟨b,o,none⟩):=⟨fun b o h=>a.cell (p:=⟨b,o,none⟩) h,fun b o h=>a.frozen (p:=⟨b,o,none⟩) h⟩
theorem Ht(s:ByteArray)(k:Nat)(c:k<s.size)(a:Sc.dig s[k]=true):Sc.one (s.data.toList.drop k)=Sc.Jj (s.data.toList.drop k):=by
 rw[Sc.drop_cons s k c];simp only[Sc.one];rw[X3 a]
theorem Hs(s:ByteArray)(k:Nat)(d:k<s.size)(c:Sc.dig s[k]=false)(a:Sc.beg s[k]=true):Sc.one (s.data.toList.drop k)=Sc.V3 (s.data.toList.drop k):=by
 rw[Sc.drop_cons s k d];simp only[Sc.one];rw[X2 (by simp[c]),X3 a]
theorem Hu(s:ByteArray)(k:Nat)(d:k<s.size)(c:Sc.dig s[k]=false)(a:Sc.beg s[k]=false)(g:s[k].toNat=34):Sc.one (s.data.toList.drop k)=Sc.Gh (s.data.toList.drop k):=by
 rw[Sc.drop_cons s k d];simp only[Sc.one];rw[X2 (by simp[c]),X2 (by simp[a]),X3 g]
theorem Hq(s:ByteArray)(k:Nat)(d:k<s.size)(c:Sc.dig s[k]=false)(a:Sc.beg s[k]=false)(g:s[k].toNat≠34):Sc.one (s.data.toList.drop k)=Sc.V2 (s.data.toList.drop k):=by
 rw[Sc.drop_cons s k d];simp only[Sc.one];rw[X2 (by simp[c]),X2 (by simp[a]),X2 g]
theorem Xeh(s:ByteArray)(k:Nat)(w:World)(y:s.size<=1048576)(l:k<s.size)(u:Sc.dig s[k]=true): Calls prog 138 #[.string s,.int .i64 k] w fun e w'=>e= .returned (QU k (Sc.one (s.data.toList.drop k)))/\Below w.heap.size w w':=by
 rw[Ht s k l u];obtain⟨kd,z,n,a,r,q,c⟩:=Xeb k (Sc.Jj (s.data.toList.drop k));have d:=fun w=>Xdf s k k w y l rfl;rw[c]at d⊢;clear c;have m:=X1 d;clear d;go_enter func138,ntmps138;go_wp2_with(first|(go_at_call 198;refine(KF _ _).mono ?_;rintro e w'⟨rfl,rfl⟩)|(go_at_call 199;refine(m.o _).mono ?_;rintro e w1⟨rfl,j⟩;obtain⟨t,A⟩:=UN j));have g:BL w w1:=(bA _).trans (j.mono (by simp));refine X7 (v:= .tuple #[.agg #[.int .i64 kd,.string z,.int .i64 n,.int .i64 a],.int .i64 r,.int .i64 q]) (by simp[results,results138,go_sem,t]) rfl ⟨rfl,?_⟩;exact Vu g (X4 _)
theorem Xei(s:ByteArray)(k:Nat)(w:World)(A:s.size<=1048576)(u:k<s.size)(y:Sc.dig s[k]=false)(r:Sc.beg s[k]=false)(z:((s[k].toNat:Int)==34)=true): Calls prog 138 #[.string s,.int .i64 k] w fun e w'=>e= .returned (QU k (Sc.one (s.data.toList.drop k)))/\Below w.heap.size w w':=by
 rw[Hu s k u y r (by simp at z;omega)];have l:(s.data.toList.drop k).tail=s.data.toList.drop (k+1):=by simp
 have d:Sc.Gh (s.data.toList.drop k)=match Sc.unq (s.data.toList.drop (k+1))with
  | none=>Sc.bad 4
  | some p=>if 1000<p.1.length then Sc.bad 5 else⟨0,4,p.1,0,p.2+1⟩:=by unfold Sc.Gh;rw[l];rfl
 have g:=fun w=>Y5m s k k w A u rfl;cases n:Sc.unq (s.data.toList.drop (k+1))with
 | none=>
  rw[n]at d g;rw[d];simp only[Lg]at g;have q:=X1 g;clear g d l n;go_enter func138,ntmps138;go_wp2_with(first|(go_at_call 198;refine(KF _ _).mono ?_;rintro e w'⟨rfl,rfl⟩)|(go_at_call 200;refine(Vt _ _).mono ?_;rintro e w'⟨rfl,rfl⟩)|(go_at_call 204;refine(q.o _).mono ?_;rintro e w1⟨rfl,j⟩;obtain⟨m,t⟩:=UN j));have a:BL w w1:=(bA _).trans (j.mono (by simp));refine X7 (v:= .tuple #[.agg #[.int .i64 0,.string ⟨#[]⟩,.int .i64 0,.int .i64 0],.int .i64 0,.int .i64 4]) (by simp[results,results138,go_sem,m]) rfl ⟨by rw[V4 rfl (by decide)];rfl,?_⟩;exact Vu a (X4 _)
 | some p=>
  rw[n]at d g;simp only at d;simp only[Lg]at g;have q:=X1 g;have B:=X1 (Sc.Oo _ p.1 p.2 n);clear g l n;by_cases c:1000<p.1.length
  .rw[X3 c]at d;rw[d];clear d;go_enter func138,ntmps138;go_wp2_with(first|(go_at_call 198;refine(KF _ _).mono ?_;rintro e w'⟨rfl,rfl⟩)|(go_at_call 200;refine(Vt _ _).mono ?_;rintro e w'⟨rfl,rfl⟩)|(go_at_call 204;refine(q.o _).mono ?_;rintro e w1⟨rfl,j⟩;obtain⟨m,t⟩:=UN j));have a:BL w w1:=(bA _).trans (j.mono (by simp));refine X7 (v:= .tuple #[.agg #[.int .i64 0,.string ⟨#[]⟩,.int .i64 0,.int .i64 0],.int .i64 0,.int .i64 5]) (by simp[results,results138,go_sem,m]) rfl ⟨by rw[V4 rfl (by decide)];rfl,?_⟩;exact Vu a (X4 _)
  .rw[X2 c]at d;rw[d];clear d;go_enter func138,ntmps138;go_wp2_with(first|(go_at_call 198;refine(KF _ _).mono ?_;rintro e w'⟨rfl,rfl⟩)|(go_at_call 200;refine(Vt _ _).mono ?_;rintro e w'⟨rfl,rfl⟩)|(go_at_call 204;refine(q.o _).mono ?_;rintro e w1⟨rfl,j⟩;obtain⟨m,t⟩:=UN j));have a:BL w w1:=(bA _).trans (j.mono (by simp));refine X7 (v:= .tuple #[.agg #[.int .i64 4,.string ⟨p.1.toArray⟩,.int .i64 0,.int .i64 k],.int .i64 ((k:Int)+1+p.2),.int .i64 0]) (by simp[results,results138,go_sem,m]) rfl ⟨by rw[Wi rfl];simp;omega,?_⟩;exact Vu a (X4 _)
theorem Hw(p:UInt8->Bool)(l:List UInt8):l.take (l.takeWhile p).length=l.takeWhile p:=by
 induction l with
 | nil=>rfl
 | cons x r a=>simp only[DF];split<;>simp[a]
theorem Xeg(s:ByteArray)(k:Nat)(w:World)(V:s.size<=1048576)(M:k<s.size)(L:Sc.dig s[k]=false)(E:Sc.beg s[k]=true): Calls prog 138 #[.string s,.int .i64 k] w fun e w'=>e= .returned (QU k (Sc.one (s.data.toList.drop k)))/\Below w.heap.size w w':=by
 rw[Hs s k M L E];go_enter func138,ntmps138;go_wp2_with(first|(go_at_call 198;refine(KF _ _).mono ?_;rintro e w'⟨rfl,rfl⟩)|(go_at_call 200;refine(Vt _ _).mono ?_;rintro e w'⟨rfl,rfl⟩));go_loop[7] (fun t=>∃j:Nat,k<=j/\j<=s.size/\t= .int .i64 j/\j+((s.data.toList.drop j).takeWhile Sc.nm).length=k+((s.data.toList.drop k).takeWhile Sc.nm).length) (fun t=>s.size-(intOf t).toNat)
 case atStart=>exact⟨k,X4 _,by omega,rfl,rfl⟩
 case round=>
  obtain⟨j,N,Q,rfl,B⟩:=hrel;have C:=X1 B;clear B;by_cases z:∃h:j<s.size,Sc.nm s[j]=true
  .obtain⟨a,q⟩:=z;have F:=X1 (Sc.drop_cons s j a);go_wp2_with(go_at_call 201;refine(QP _ _).mono ?_;rintro e w'⟨rfl,rfl⟩);go_round
   case rel=>
    refine⟨j+1,by omega,by omega,by go_num,?_⟩;have e:=C.o;rw[F.o,Sc.Y3f q]at e;omega
   case measure=>simp[intOf];omega
  .have B:((s.data.toList.drop j).takeWhile Sc.nm).length=0:=by
    by_cases a:j<s.size
    .have q:Sc.nm s[j]=false:=by cases h:Sc.nm s[j]<;>simp_all
     rw[Sc.drop_cons s j a,Sc.Y3e q]
    .rw[Yu (i:=j) (by simp;omega)];rfl
   have J:(s.extract k j).data.toList=(s.data.toList.drop k).takeWhile Sc.nm:=by
    have e:=C.o;rw[Lib.extract_data,show j-k=((s.data.toList.drop k).takeWhile Sc.nm).length from by omega,Hw]
   have A:j=k+((s.data.toList.drop k).takeWhile Sc.nm).length:=by have e:=C.o;omega
   have u:=X1 J;have D:=X1 A;clear B J A;have l:(∃h:j<s.size,Sc.nm s[j]=false)\/¬j<s.size:=by
    by_cases a:j<s.size
    .left;refine⟨a,?_⟩;cases h:Sc.nm s[j]<;>simp_all
    .exact .inr a
   clear z;have n:(s.extract k j).size=j-k:=by simp;omega
   have P:=X1 n;clear n;cases I:LC ((s.data.toList.drop k).takeWhile Sc.nm)
   .have d:¬(s.data.toList.drop k).takeWhile Sc.nm∈Sc.words:=by simpa[LC]using I
    by_cases S:30<j-k
    .have r:Hid (Sc.V3 (s.data.toList.drop k)=Sc.bad 5):=X1 (by have e:=D.o;unfold Sc.V3;rw[X2 d,X3 (by omega)]);clear d;rcases l with⟨a,q⟩|a;all_goals
      go_wp2_with(first|(go_at_call 201;refine(QP _ _).mono ?_;rintro e w'⟨rfl,rfl⟩)|(go_at_call 203;refine(Lm _).mono ?_;rintro e w1⟨rfl,m,K,c⟩;obtain⟨y,H⟩:=UN m;rw[Xb]at c)|(go_at_call 202;refine(Ra (w.heap.size+1) _ _ _ u.o c).mono ?_;rintro e w1⟨rfl,rfl⟩));have g:BL w w1:=(bA _).trans (m.mono (by simp));refine X7 (v:= .tuple #[.agg #[.int .i64 0,.string ⟨#[]⟩,.int .i64 0,.int .i64 0],.int .i64 0,.int .i64 5]) (by simp[results,results138,go_sem,y]) rfl ⟨by rw[V4 r.o (by decide)];rfl,?_⟩;exact Vu g (X4 _)
    .have r:Hid (Sc.V3 (s.data.toList.drop k)=⟨0,1,(s.data.toList.drop k).takeWhile Sc.nm,0,j-k⟩):=X1 (by have e:=D.o;unfold Sc.V3;rw[X2 d,X2 (by omega),show((s.data.toList.drop k).takeWhile Sc.nm).length=j-k from by omega])
     clear d;rcases l with⟨a,q⟩|a;all_goals
      go_wp2_with(first|(go_at_call 201;refine(QP _ _).mono ?_;rintro e w'⟨rfl,rfl⟩)|(go_at_call 203;refine(Lm _).mono ?_;rintro e w1⟨rfl,m,K,c⟩;obtain⟨y,H⟩:=UN m;rw[Xb]at c)|(go_at_call 202;refine(Ra (w.heap.size+1) _ _ _ u.o c).mono ?_;rintro e w1⟨rfl,rfl⟩));have g:BL w w1:=(bA _).trans (m.mono (by simp));refine X7 (v:= .tuple #[.agg #[.int .i64 1,.string (s.extract k j),.int .i64 0,.int .i64 k],.int .i64 j,.int .i64 0]) (by simp[results,results138,go_sem,y]) rfl ⟨by rw[Wi r.o,BJ u.o,show(k:Int)+(j-k:Nat)=j from by omega];rfl,?_⟩
      exact Vu g (X4 _)
   .have d:(s.data.toList.drop k).takeWhile Sc.nm∈Sc.words:=by simpa[LC]using I
    have r:Hid (Sc.V3 (s.data.toList.drop k)=⟨0,2,(s.data.toList.drop k).takeWhile Sc.nm,0,j-k⟩):=X1 (by have e:=D.o;unfold Sc.V3;rw[X3 d,show((s.data.toList.drop k).takeWhile Sc.nm).length=j-k from by omega])
    clear d;rcases l with⟨a,q⟩|a;all_goals
      go_wp2_with(first|(go_at_call 201;refine(QP _ _).mono ?_;rintro e w'⟨rfl,rfl⟩)|(go_at_call 203;refine(Lm _).mono ?_;rintro e w1⟨rfl,m,K,c⟩;obtain⟨y,H⟩:=UN m;rw[Xb]at c)|(go_at_call 202;refine(Ra (w.heap.size+1) _ _ _ u.o c).mono ?_;rintro e w1⟨rfl,rfl⟩));have g:BL w w1:=(bA _).trans (m.mono (by simp));refine X7 (v:= .tuple #[.agg #[.int .i64 2,.string (s.extract k j),.int .i64 0,.int .i64 k],.int .i64 j,.int .i64 0]) (by simp[results,results138,go_sem,y]) rfl ⟨by rw[Wi r.o,BJ u.o,show(k:Int)+(j-k:Nat)=j from by omega];rfl,?_⟩
      exact Vu g (X4 _)
def WN(ns:List Nd):List (Nd × List Nat)->Bool
 | []=>true
 | (d,k)::r=>Xh d&&XA ns d.kind k&&WN ns r
def Qp:List (List Nat)->List Nat->List Nat
 | [],hs=>hs
 | k::r,hs=>Qp r (hs++[YR hs k 0])
theorem An(ks:List (List Nat))(a:List Nat):∃t,Qp ks a=a++t/\t.length=ks.length:=by
 induction ks generalizing a with
 | nil=>exact⟨[],by simp[Qp]⟩
 | cons k r g=>
  obtain⟨t,c,d⟩:=g (a++[YR a k 0]);exact⟨YR a k 0::t,by rw[Qp,c];simp,by simp[d]⟩
theorem TX(ns:List Nd)(j:List Nd)(ks:List (List Nat))(a:List Nat)(h:j.length=ks.length)(c:∀x∈a,x<=50): (Qq ns (j.zip ks) a=true)↔(WN ns (j.zip ks)=true/\∀x∈Qp ks a,x<=50):=by
 induction j generalizing ks a with
 | nil=>
  cases ks with
  | nil=>simp[Qq,WN,Qp];exact c
  | cons k r=>simp at h
 | cons d r n=>
  cases ks with
  | nil=>simp at h
  | cons k t=>
   simp only[A1,Qq,WN,Qp,XD];by_cases m:50<YR a k 0
   .have e:(!decide (50<YR a k 0))=false:=by simp[m]
    rw[e];simp only[Du,false_and,false_iff];rintro⟨_,q⟩;obtain⟨u,l,_⟩:=An t (a++[YR a k 0]);have:=q (YR a k 0) (by rw[l];simp);omega
   .have e:(!decide (50<YR a k 0))=true:=by simp;omega
    rw[e,n t (a++[YR a k 0]) (by simpa using h) (fun x g=>by
     rcases K7.1 g with g|g
     .exact c x g
     .have:x=YR a k 0:=by simpa using g
      omega)]
    simp only[Le,LP]
theorem N0(ns:List Nd)(a:List Nat)(y x:Nat)(h:x<a.length):XT ns (a++[y]) x=XT ns a x:=by
 unfold XT;rw[QY h]
theorem NW(ns:List Nd):∀(m i:Nat) (op a:List Nat),m=ns.length-i->i<=ns.length->a.length=i->(∀x∈op,x<i)->ZS (ns.drop i) (op.map (XT ns a))=match(Xv (ns.drop i) i op).2 with
   | none=>none
   | some fin=>if WN ns ((ns.drop i).zip (Xv (ns.drop i) i op).1)=true then some (fin.map (XT ns (Qp (Xv (ns.drop i) i op).1 a)))else none:=by
 intro m;induction m with
 | zero=>
  intro i op a C hi t c;have e:ns.drop i=[]:=Yu (by omega);rw[e];rfl
 | succ m D=>
  intro i op a C hi t c;have g:i<ns.length:=by omega
  rw[Zp g];by_cases s:ns[i].kids<0\/(op.length:Int)<ns[i].kids
  .rw[ZS,X3 (by rw[Z9];exact s),Xv,X3 s]
  .obtain⟨k,y⟩:∃k:Nat,ns[i].kids=k:=⟨ns[i].kids.toNat,by omega⟩;rw[ZS,X2 (by rw[Z9];exact s),Xv,X2 s];have n:(op.map (XT ns a)).length-ns[i].kids.toNat=op.length-ns[i].kids.toNat:=by rw[Z9]
   rw[n];generalize E:op.length-ns[i].kids.toNat=q;have A:(op.drop q).length=k:=by simp;omega
   have v:∀x∈op.drop q,x<ns.length:=fun x d=>GU (c x (KQ d)) g;rw[←QB,←J7];have z:Kw ns[i] ((op.drop q).map (XT ns a))=(Xh ns[i]&&XA ns ns[i].kind (op.drop q)):=by
    unfold Kw;rw[OC,y,←A,Tt ns a _ _ v]
   rw[z];have l:(op.take q).map (XT ns a)++[(⟨ns[i],Zr ((op.drop q).map (XT ns a)) 0⟩:Gr)]=(op.take q++[i]).map (XT ns (a++[YR a (op.drop q) 0])):=by
    rw[ZO];congr 1
    .apply JF;intro x d;rw[N0 _ _ _ _ (by rw[t];exact c x (UC d))]
    .have B:XT ns (a++[YR a (op.drop q) 0]) i=⟨ns[i],YR a (op.drop q) 0⟩:=by
      unfold XT;rw[YH g,K6 (by omega),t,WC];rfl
     rw[Tu,Xu,Yc,B]
   have j:=D (i+1) (op.take q++[i]) (a++[YR a (op.drop q) 0]) (by omega) (by omega) (by simp[t]) (fun x d=>by
    rcases K7.1 d with d|d
    .have:=c x (UC d);omega
    .have:x=i:=by simpa using d
     omega)
   simp only[A1,WN,Qp];by_cases r:(Xh ns[i]&&XA ns ns[i].kind (op.drop q))=true
   .rw[X3 r,l,j];simp only[r,VO]
   .rw[X2 r];have u:(Xh ns[i]&&XA ns ns[i].kind (op.drop q))=false:=by simpa using r
    simp only[u,GK,Du,JR];cases(Xv (ns.drop (i+1)) (i+1) (op.take q++[i])).2<;>rfl
theorem NP(a ls:List Nat)(h:Nat):h<=YR a ls h/\∀x∈ls,a[x]?.getD 0+1<=YR a ls h:=by
 induction ls generalizing h with
 | nil=>simp[YR]
 | cons y r d=>
  rw[YR];have q:=d (if h<a[y]?.getD 0+1 then a[y]?.getD 0+1 else h);have g:h<=(if h<a[y]?.getD 0+1 then a[y]?.getD 0+1 else h)/\a[y]?.getD 0+1<=(if h<a[y]?.getD 0+1 then a[y]?.getD 0+1 else h):=by split<;>omega
  refine⟨by omega,fun x c=>?_⟩;rcases Y6.1 c with rfl|c
  .omega
  .exact q.2 x c
theorem NN(m:List Nd):∀(i:Nat) (op a:List Nat),a.length=i->(∀x∈op,x<i)->(∀y∈a,∃x∈op,y<=a[x]?.getD 0)->∀fin,(Xv m i op).2=some fin->∀y∈Qp (Xv m i op).1 a,∃x∈fin,y<=(Qp (Xv m i op).1 a)[x]?.getD 0:=by
 induction m with
 | nil=>
  intro i op a _ _ h fin j;simp only[Xv,ZP]at j;subst j;exact h
 | cons d r v=>
  intro i op a n k h fin j;by_cases u:d.kids<0\/(op.length:Int)<d.kids
  .rw[Xv,X3 u]at j;cases j
  .rw[Xv,X2 u]at j⊢;generalize z:op.length-d.kids.toNat=q at *;simp only[Qp];refine v (i+1) (op.take q++[i]) (a++[YR a (op.drop q) 0]) (by simp[n]) ?_ ?_ fin j
   .intro x c;rcases K7.1 c with c|c
    .have:=k x (UC c);omega
    .have:x=i:=by simpa using c
     omega
   .intro y l;have g:(a++[YR a (op.drop q) 0])[i]?.getD 0=YR a (op.drop q) 0:=by simp[←n]
    rcases K7.1 l with l|l
    .obtain⟨x,c,s⟩:=h y l;have t:x<a.length:=by rw[n];exact k x c
     rw[←Vh q op]at c;rcases K7.1 c with c|c
     .exact⟨x,by simp[c],by rw[QY t];exact s⟩
     .have:=(NP a (op.drop q) 0).2 x c;exact⟨i,by simp,by rw[g];omega⟩
    .have:y=YR a (op.drop q) 0:=by simpa using l
     exact⟨i,by simp,by rw[g];omega⟩
theorem Tl(c:List Nd):∀(i:Nat) (op:List Nat),(c=[]->op.getLast?=some (i-1)/\1<=i)->∀fin,(Xv c i op).2=some fin->fin.getLast?=some (i+c.length-1):=by
 induction c with
 | nil=>
  intro i op h fin a;simp only[Xv,ZP]at a;subst a;simpa using(h rfl).1
 | cons d r j=>
  intro i op h fin a;by_cases g:d.kids<0\/(op.length:Int)<d.kids
  .rw[Xv,X3 g]at a;cases a
  .rw[Xv,X2 g]at a;have:=j (i+1) _ (fun _=>⟨by simp,by omega⟩) fin a;rw[this,Ya];congr 1;omega
theorem Pj(ns:List Nd):Kj ns=YS ns:=by
 have C:=NW ns ns.length 0 [] [] (by simp) (X6 _) rfl (fun x h=>by cases h);rw[Qm,Yc]at C;unfold Kj YS;by_cases m:ns=[]
 .subst m;rfl
 have E:1<=ns.length:=by
  cases ns with
  | nil=>exact absurd rfl m
  | cons x r=>simp
 have F:Xl ns.length 1 5000=decide (ns.length<=5000):=by unfold Xl;rw[Y5];simp;omega
 rw[F,C,OC,OC];congr 1
 have s:Kk ns=match(Xv ns 0 []).2 with
  | none=>false
  | some op=>op.length==1:=rfl
 have q:Xc ns=(Xv ns 0 []).1:=rfl;have j:=Aq ns 0 [];have n:=NN ns 0 [] [] rfl (fun x h=>by cases h) (fun x h=>by cases h);have v:=Tl ns 0 [] (fun h=>absurd h m);rw[s,q];generalize K:Xv ns 0 []=P at *;obtain⟨ks,I⟩:=P;cases I with
 | none=>simp[UI]
 | some fin=>
  have u:ks.length=ns.length:=j.2 (by simp);have B:=TX ns ns ks [] u.symm (fun x h=>by cases h);have c:=v fin rfl;have d:=n fin rfl;simp only at B d⊢
  match fin,c with
  | [r],c=>
   have L:r=ns.length-1:=by simpa using c
   have A:WL ns=(XT ns (Qp ks []) r).nd.kind:=by
    rw[Pc,L];unfold WL X8;rw[P0];cases ns[ns.length-1]? <;> rfl
   have k:(Qp ks [])[r]?.getD 0∈Qp ks []:=by
    obtain⟨t,J,Q⟩:=An ks [];have D:r<(Qp ks []).length:=by rw[J];simp;omega
    rw[YH D];exact XR D
   have g:(∀x∈Qp ks [],x<=50)↔(XT ns (Qp ks []) r).high<=50:=by
    constructor
    .intro h;exact h _ k
    .intro h x M;obtain⟨y,N,z⟩:=d x M;have:y=r:=by simpa using N
     subst this;exact XO z h
   rw[A];by_cases l:WN ns (ns.zip ks)=true
   .rw[X3 l];simp only[Xu,Yc,UI];rw[Y5];simp only[XD,Qr,B,g,l,Le];simp
   .rw[X2 l];have:Qq ns (ns.zip ks) []=false:=by
     rw[Bool.eq_false_iff];intro h;exact l (B.1 h).1
    simp[UI,this]
  | [],c=>simp at c
  | a::b::t,_=>
   have H:((a::b::t).length==1)=false:=by simp
   rw[H];simp only[GK,Bool.and_false];split<;>simp[UI]
