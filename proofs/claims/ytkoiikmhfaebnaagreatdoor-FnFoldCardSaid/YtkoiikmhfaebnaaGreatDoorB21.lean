import Derived.Test.YtkoiikmhfaebnaaGreatDoorB14
import Derived.Shelf.Strings.Search3
import Derived.Test.YtkoiikmhfaebnaaGreatDoorB20
import Derived.Test.YtkoiikmhfaebnaaGreatDoorB16
import Derived.Lib.SliceRun
set_option maxHeartbeats 4000000
set_option maxRecDepth 100000
namespace Go.Proofs.YtkoiikmhfaebnaaGreatDoor
open Tryz Go.RowKit
theorem WK.hold{d:De}{S:Kz}{p c q:Nat}{o:Obj}{w:World}(h:WK d S p c w)(B:w.heap[q]?=some o)(z:q≠d.b)(C:∀v,w.cell? ⟨d.b,5,none⟩=some v->v.ownBlock≠some q)(u:S.f q=none):WK d (Jm S q o) p c w:=by
 have e:∀x,x≠q->(Jm S q o).f x=S.f x:=fun x g=>X2 g;obtain⟨bad,a,v,out,l,r,m,A,s⟩:=h.st;refine⟨h.os,h.tape,h.output,fun x y g=>?_,(e _ (Ne.symm z)).trans h.ne,h.le,h.KH,fun i hi=>?_,bad,a,v,out,l,r,⟨fun x g=>(e x (fun e'=>C v (Z2 l).2.2.2.2.2.1 (e' ▸ g))).trans (m.1 x g),m.2⟩,A,s⟩
 .by_cases j:x=q
  .subst j;rw[show(Jm S x o).f x=some o from X3 rfl]at g;exact B.trans g
  .exact h.XH x y ((e x j).symm.trans g)
 .obtain⟨n,cs,t,D,k,E⟩:=h.tk i hi;exact⟨n,cs,t,D,(e n (fun e'=>by rw[e',u]at k;cases k)).trans k,E⟩
theorem Na(a b:List Nd):Xe (a++b)=Xe a++Xe b:=by unfold Xe;rw[OV]
theorem Xbn{d:De}{p:Nat}(Z:∀q,p<=q->WE d q):Wr d 265 p:=by
 obtain⟨iN,b6,b8,b7,b5⟩:=Yk Wc;intro S c w h;have i6:=h.KH.1;go_enter func265,ntmps265;go_wp2_with fail;refine(Zn h _).mono ?_;rintro e w1⟨r,rfl,⟨rfl,F⟩|⟨rfl,F⟩⟩
 .obtain⟨bad,a,v,out,P,x2,x3,x4,x5⟩:=F.st;obtain⟨p1,g9,rfl⟩:=XQ x2;have c5:=(Z2 P).2.2.2.2.2.1;have hS:WK d ⟨S.f,out.length⟩ p (c+1) w1:=⟨F.os,F.tape,F.output,F.XH,F.ne,F.le,F.KH,F.tk,bad,a,_,out,P,x2,x3,X4 _,x5⟩;clear P x2 x3 x5;generalize out.length=n0 at *;have e4:=X1 x4;clear x4 F;go_wp2_with fail;refine(Z _ (X4 _) _ _ _ hS).mono ?_;rintro e w2⟨rfl,p2,q2,h2⟩;have T1:Hid (∀{q0 c0:Nat} {w0:World},WK d ⟨S.f,n0⟩ q0 c0 w0->WK d S q0 c0 w0):=X1 (fun hh=>hh.less e4.o);clear c5;go_wp2_with fail;refine(Zn h2 _).mono ?_;rintro e s⟨r,rfl,⟨rfl,V⟩|⟨rfl,V⟩⟩
  .go_wp2_with fail;go_loopw[6] (fun t wr=>∃(z:Int) (q:Nat),t= .int .i64 z/\p<=q/\WK d ⟨S.f,n0⟩ q (c+1) wr) (fun _ wr=>wl d wr)
   case atStart=>exact⟨1,_,rfl,q2,V⟩
   case round=>
    obtain⟨z,q,rfl,hq,h0⟩:=hrel;go_wp2_with fail;refine(Zn h0 _).mono ?_;rintro e w4⟨r,rfl,⟨rfl,h4⟩|⟨rfl,h4⟩⟩
    .go_wp2_with fail;refine(Z7 h4 _).mono ?_;rintro e w5⟨rfl,p5,q5,h5⟩;go_wp2_with fail;refine(Zh h5 (by decide)).mono ?_;rintro e w6⟨rfl,h6⟩;go_wp2;go_end0;exact⟨rfl,_,by omega,T1.o h6⟩
    .go_wp2_with fail;refine(Z _ (by omega) _ _ _ h4).mono ?_;rintro e w5⟨rfl,p5,q5,h5⟩;go_wp2;go_roundw
     case rel=>exact⟨_,_,rfl,by omega,h5.mono (by omega)⟩
     case measure=>rw[h5.wl,h0.wl];have:=h5.le;omega
  .have g4:=V.le;obtain⟨bad,a,v,out,Q,D,y3,y4,y5⟩:=V.st;have y4:n0<=out.length:=y4;have i1:(n0:Int)<=(out.length:Int):=by omega
   have H3:=X1 V;have HS:=X1 hS;have c8:=X1 (show S.f s.heap.size=none from V.fresh);have E:d.b<s.heap.size:=V.lt;have g7:=X1 E;have HA:=X1 ((X5 s.heap.size s).alloc (X4 _) (.cells #[] 48));have M:=Qi D HA.o;rcases D.2 with⟨N,hz⟩|⟨g,m,i0,N,f0,f1,f2,f3,f4,f6⟩;have f8:n0=0:=by omega
   subst f8;subst N;have d1:=H3.o.below HA.o;have P:(s.alloc (.cells #[] 48)).heap[d.b]?=some (dsk d (p2+1) bad a (.slice none 0 0)):=(HA.o.block _ E).trans Q;obtain⟨-,-,-,-,-,c5,f⟩:=Z2 P;have f5:=f 5;obtain⟨B,k⟩:∃l:List Nd,l=[]:=⟨_,rfl⟩;have h6:WK d (Jm ⟨S.f,0⟩ s.heap.size (.cells #[] 48)) (p2+1) (c+5+B.length) ((s.alloc (.cells #[] 48)).setCell ⟨d.b,5,none⟩ (.slice none 0 0)):=by
    refine WK.hold (WK.grow (S:=⟨S.f,0⟩) (out':=[]) d1 P (Qi D HA.o) y3 (fun _ H=>by cases H) ⟨rfl,rfl,rfl,X4 _,fun _ _ _=>rfl⟩ (ZJ _ _ _ _) (.inl rfl) (X4 _) (by rw[k];simp;omega)) ?_ (by omega) (fun v N=>?_) c8.o
    .rw[heap_setCell_other _ _ _ _ (show s.heap.size≠d.b by omega),XM]
    .rw[JM _ _ _ c5]at N;cases N;simp[Value.ownBlock]
   have HN:Hid (∀(W:World),W.heap[s.heap.size]?=some (.cells #[] 48)->∀(j:Nat) (u:Value),(Xe B)[j]?=some u->W.cell? ((⟨s.heap.size,0,none⟩:Addr).add j)=some u):=X1 (fun W _ j u y=>by rw[k]at y;simp[Xe]at y);have HL:Hid ((Xe B).length=0*5/\B.length=0):=X1 (by rw[k];exact⟨rfl,rfl⟩);have a6:=X1 (show(⟨S.f,0⟩:Kz).f s.heap.size=none from c8.o);have Y:B.length<=60000:=by rw[k];exact X6 _
   have a5:Hid (∀x∈B,x.n<9223372036854775808):=X1 (fun x H=>by rw[k]at H;cases H);clear d1 P f M Q D y3 V k E hS;rotate_left;subst N;have g3:(out.length:Int)<=(m:Int):=by omega
   have e8:(n0:Int)<=(m:Int):=by omega
   have d3:g<s.heap.size:=(D.lt g rfl).2;have d2:d.b<g:=(D.lt g rfl).1;have c5:=(Z2 ((HA.o.block _ E).trans Q)).2.2.2.2.2.1;have a0:=X1 (XV (base:=s.heap.size) (e:=48) (size:=5) s #[] 0 (X4 _) (X6 _) rfl);have e3:=X1 M;have d0:=X1 Q;have a7:=X1 D;have I:=X1 y3;have g8:=X1 (And.intro d3 d2);have i7:out.length<=60000:=by omega
   have b9:Hid (∀(v5:Value) (w5:World),w5.ownsRow s.heap.size 48 5 v5 (0+(out.length-n0)) ([]++(Xe out).drop (n0*5))->(s.alloc (.cells #[] 48)).grownBy w5 (Value.ownBlock (.slice (some ⟨s.heap.size,0,none⟩) 0 0))->(v5= .slice none 0 0↔Value.slice (some ⟨s.heap.size,0,none⟩) 0 0= .slice none 0 0/\out.length-n0=0)->∃(gb cb:Nat) (A:Array Value),v5= .slice (some ⟨gb,0,none⟩) (out.length-n0) cb/\w5.cell? ⟨d.b,5,none⟩=some (.slice (some ⟨g,0,none⟩) out.length m)/\w5.frozen? ⟨d.b,5,none⟩=false/\WK d (Jm ⟨S.f,n0⟩ gb (.cells A 48)) (p2+1) (c+5+(out.drop n0).length) (w5.setCell ⟨d.b,5,none⟩ (.slice (some ⟨g,0,none⟩) n0 m))/\S.f gb=none/\∀(W:World),W.heap[gb]?=some (.cells A 48)->∀(j:Nat) (u:Value),(Xe (out.drop n0))[j]?=some u->W.cell? ((⟨gb,0,none⟩:Addr).add j)=some u):=X1 (fun v5 w5 a1 a2 a3=>by
    have X:BL s w5:=((X5 _ s).alloc (X4 _) _).grown a2 (by simp) (fun x e=>by cases e;exact X4 _);have e9:=H3.o.below X;have P:w5.heap[d.b]?=some (dsk d (p2+1) bad a (.slice (some ⟨g,0,none⟩) out.length m)):=(X.block _ E).trans Q;obtain⟨-,-,-,-,-,z5,zf⟩:=Z2 P;rcases a1.2 with⟨N,_⟩|⟨gb,cb,A,N,i2,e7,i3,i4,i5,Y⟩
    .exact absurd (a3.1 N).1 (by simp)
    rw[Xn]at N;refine⟨gb,cb,A,N,z5,zf 5,?_,?_,fun W hW j u y=>?_⟩
    .refine WK.hold (WK.grow (S:=⟨S.f,n0⟩) (out':=out.take n0) e9 P (Qi D X) y3 (fun x H=>y3.2 x (UC H)) ⟨rfl,rfl,rfl,X4 _,fun _ _ _=>rfl⟩ (by rw[Ng,YM,QL y4];exact Y1q (Qi D X) y4) (.inl rfl) (by rw[YM];exact(QL y4).symm ▸ X4 _) (by rw[YM,YA];omega)) ?_ (by omega) (fun v d6=>?_) ?_
     .rw[heap_setCell_other _ _ _ _ (show gb≠d.b by omega)];exact e7
     .rw[JM _ _ _ z5]at d6;cases d6;simp[Value.ownBlock];omega
     .cases hs:S.f gb with
      | none=>first|rfl|exact hs
      | some o=>exact absurd (Kh.1 (H3.o.XH gb o hs)).1 (by omega)
    .cases hs:S.f gb with
     | none=>rfl
     | some o=>exact absurd (Kh.1 (H3.o.XH gb o hs)).1 (by omega)
    .rw[Ye,Xn];rw[Nc]at y;rw[←UD (List.drop _ _),←Y,OY]at y;split at y
     .rw[World.cell?,hW];simpa using y
     .cases y)
   have c9:Hid (∀(j:Nat) (u:Value),((Xe out).drop (n0*5))[j]?=some u->(s.alloc (.cells #[] 48)).cell? ((if m=n0 then(⟨g,0,none⟩:Addr)else⟨g,n0*5,none⟩).add j)=some u):=X1 (fun j u y=>by
    by_cases J:m=n0
    .rw[Yu (by rw[I1];omega)]at y;simp at y
    .rw[X2 J,Ye];rw[Lr]at y;exact Gm e3.o y)
   clear f0 f1 f2 f3 f4 f6 d3 d2 M Q D y3 V E hS;by_cases J:m=n0;subst J;focus go_wp2_with(at_builtin;go_loud (refine Yg _ rfl _ _ 23 rfl s.heap.size 48 iN _ 5 48 underlying23 b6 b8 b7 b5 rfl (by decide) (.slice (some ⟨s.heap.size,0,none⟩) 0 0) 0 [] rfl a0.o ⟨g,0,none⟩ (out.length-m) (m-m) ((Xe out).drop (m*5)) (by simp[Act.eval]) (by rw[YA,I1];omega) (fun j u y=>by have:=c9.o j u y;simpa using this) (fun u y=>Pd _ u (KQ y)) (by unfold maxLen;omega) (by omega) (by simp) ?_);intro v5 w5 a1 a2 a3 a4;clear c5;obtain⟨gb,cb,A,rfl,c5,f5,h6,K,L⟩:=b9.o v5 w5 a1 a2 a3;have HN:=X1 L;have a6:=X1 (show(⟨S.f,m⟩:Kz).f gb=none from K);clear a1 a2 a3 a4 L K)
   obtain⟨B,k⟩:∃l,l=out.drop m:=⟨_,rfl⟩;rw[←k]at h6 HN;have HL:Hid ((Xe B).length=(out.length-m)*5/\B.length=out.length-m):=X1 (by rw[I1,k,YA];exact⟨rfl,rfl⟩);have Y:B.length<=60000:=by rw[k,YA];omega
   have a5:Hid (∀x∈B,x.n<9223372036854775808):=X1 (fun x H=>I.o.2 x (KQ (k ▸ H)));clear k;rotate_left;focus go_wp2_with(at_builtin;go_loud (refine Yg _ rfl _ _ 23 rfl s.heap.size 48 iN _ 5 48 underlying23 b6 b8 b7 b5 rfl (by decide) (.slice (some ⟨s.heap.size,0,none⟩) 0 0) 0 [] rfl a0.o ⟨g,n0*5,none⟩ (out.length-n0) (m-n0) ((Xe out).drop (n0*5)) (by first|(simp[Act.eval];done)|simp[Act.eval,J]) (by rw[YA,I1];omega) (fun j u y=>by have:=c9.o j u y;rw[X2 J]at this;exact this) (fun u y=>Pd _ u (KQ y)) (by unfold maxLen;omega) (by omega) (by simp) ?_);intro v5 w5 a1 a2 a3 a4;clear c5;obtain⟨gb,cb,A,rfl,c5,f5,h6,K,L⟩:=b9.o v5 w5 a1 a2 a3;have HN:=X1 L;have a6:=X1 (show(⟨S.f,n0⟩:Kz).f gb=none from K);clear a1 a2 a3 a4 L K)
   obtain⟨B,k⟩:∃l,l=out.drop n0:=⟨_,rfl⟩;rw[←k]at h6 HN;have HL:Hid ((Xe B).length=(out.length-n0)*5/\B.length=out.length-n0):=X1 (by rw[I1,k,YA];exact⟨rfl,rfl⟩);have Y:B.length<=60000:=by rw[k,YA];omega
   have a5:Hid (∀x∈B,x.n<9223372036854775808):=X1 (fun x H=>I.o.2 x (KQ (k ▸ H)));clear k;all_goals
    go_wp2_with fail;refine(Wg h6).mono ?_;rintro e w7⟨t7,p7,rfl,q7,h7⟩;clear f5;go_wp2_with fail;refine(Z7 h7 _).mono ?_;rintro e w8⟨rfl,p8,q8,h8⟩;go_wp2_with fail;refine(Z _ (by omega) _ _ _ h8).mono ?_;rintro e w9⟨rfl,p9,q9,h9⟩;obtain⟨bad,a,v,C,Q,D,y3,y4,y5⟩:=h9.st;obtain⟨pk,ck,rfl⟩:=XQ D;obtain⟨-,-,-,-,-,c5,f⟩:=Z2 Q;have d5:some d.b≠Value.ownBlock (.slice pk C.length ck):=fun e'=>by have:=(D.lt _ e'.symm).1;omega
    have g5:=h9.le;have g6:=h9.KH.1;obtain⟨f7,d4⟩:=HL.o;have d0:=X1 Q;have a7:=X1 D;have I:=X1 y3;have e0:=X1 c5;have e1:=X1 (f 5);have HK:=X1 (HN.o w9 h9.boxed);have e2:=X1 d4;clear Q D y3 f d4;go_wp2_with(at_builtin;go_loud (refine Yg _ rfl _ _ 23 rfl (d.b+1) 48 iN _ 5 48 underlying23 b6 b8 b7 b5 rfl (by decide) (.slice pk C.length ck) C.length (Xe C) rfl a7.o _ _ _ (Xe B) rfl f7 HK.o (Pd _) (by unfold maxLen;omega) (by omega) h9.lt ?_);intro vv j0 b1 b2 b3 b4;obtain⟨pv,cv,rfl⟩:=XQ b1;have q5:=(Xy (a:=⟨d.b,5,none⟩) (b2.block d.b h9.lt d5)).trans e0.o;have q6:=(KU (a:=⟨d.b,5,none⟩) (b2.block d.b h9.lt d5)).trans e1.o;have d7:=X1 b1;have d8:=X1 b2;have d9:=X1 b4;clear b1 b2 b3 b4);have e5:=T1.o (WK.unbox (S:=⟨S.f,_⟩) (h9.grow (c':=c+5) (out':=C++B) d0.o a7.o I.o (fun x H=>(K7.1 H).elim (I.o.2 x) (a5.o x)) d8.o (by rw[Xo,e2.o,Na];exact d7.o) d9.o (by rw[Xo];exact Nat.le_add_right_of_le y4) (by rw[Xo];omega)) HS.o a6.o);clear q5 q6 c5;go_wp2_with fail;refine(Zn e5 _).mono ?_;rintro e j1⟨r,rfl,⟨rfl,a8⟩|⟨rfl,a8⟩⟩
    .go_wp2_with fail;refine(Z7 a8 _).mono ?_;rintro e g1⟨rfl,f9,g0,a9⟩;go_wp2_with fail;refine(Zh a9 (by decide)).mono ?_;rintro e g2⟨rfl,b0⟩;go_wp2;refine X7 (Yf rfl _ _ _) rfl ?_;exact⟨rfl,_,by omega,b0.mono (by omega)⟩
    .go_wp2_with fail;refine(Z _ (by omega) _ _ _ a8).mono ?_;rintro e g1⟨rfl,f9,g0,a9⟩;go_wp2_with fail;refine(Z7 a9 _).mono ?_;rintro e g2⟨rfl,i8,i9,b0⟩;go_wp2_with fail;refine(Zh b0 (by decide)).mono ?_;rintro e j2⟨rfl,e6⟩;go_wp2;refine X7 (Yf rfl _ _ _) rfl ?_;exact⟨rfl,_,by omega,e6.mono (by omega)⟩
 .go_wp2_with fail;refine(Zh F (by decide)).mono ?_;rintro e w2⟨rfl,h2⟩;go_wp2;refine X7 (Yf rfl _ _ _) rfl ?_;exact⟨rfl,_,by omega,h2.mono (by omega)⟩
end Go.Proofs.YtkoiikmhfaebnaaGreatDoor
namespace Go.Proofs
open Go.Shelf
def Tryz.Xaw:Go.Shelf.Ren:=⟨fun|144=>102|143=>171|219=>223|217=>248|225=>249|224=>250|267=>251|266=>262|314=>263|n=>n,fun|9=>9|4=>4|3=>3|5=>5|46=>275|146=>333|51=>317|n=>n,fun|1=>1|n=>n⟩
theorem Tryz.Xav:Go.Proofs.Lays.n144 Tryz.prog Tryz.Xaw:={
 mixed:=by kernel_rfl
 f143:=Tryz.func171.trans (congrArg some (by kernel_rfl))
 f144:=Tryz.func102.trans (congrArg some (by kernel_rfl))
 f217:=Tryz.func248.trans (congrArg some (by kernel_rfl))
 f219:=Tryz.func223.trans (congrArg some (by kernel_rfl))
 f224:=Tryz.func250.trans (congrArg some (by kernel_rfl))
 f225:=Tryz.func249.trans (congrArg some (by kernel_rfl))
 f266:=Tryz.func262.trans (congrArg some (by kernel_rfl))
 f267:=Tryz.func251.trans (congrArg some (by kernel_rfl))
 f314:=Tryz.func263.trans (congrArg some (by kernel_rfl))
 t3:=Tryz.underlying3
 a3:=Tryz.isAgg3
 z3:=Tryz.sizeOf3
 v3:=Tryz.zeroValue3
 t4:=Tryz.underlying4
 a4:=Tryz.isAgg4
 z4:=Tryz.sizeOf4
 v4:=Tryz.zeroValue4
 t5:=Tryz.underlying5
 a5:=Tryz.isAgg5
 z5:=Tryz.sizeOf5
 v5:=Tryz.zeroValue5
 t9:=Tryz.underlying9
 a9:=Tryz.isAgg9
 z9:=Tryz.sizeOf9
 v9:=Tryz.zeroValue9
 t46:=Tryz.underlying275
 a46:=Tryz.isAgg275
 z46:=Tryz.sizeOf275
 v46:=Tryz.zeroValue275
 t51:=Tryz.underlying317
 a51:=Tryz.isAgg317
 z51:=Tryz.sizeOf317
 v51:=Tryz.zeroValue317
 t146:=Tryz.underlying333
 a146:=Tryz.isAgg333
 z146:=Tryz.sizeOf333
 v146:=Tryz.zeroValue333
 g1:=by kernel_rfl}
end Go.Proofs
namespace Go.Proofs.YtkoiikmhfaebnaaGreatDoor
open Tryz
end Go.Proofs.YtkoiikmhfaebnaaGreatDoor
namespace Go.Proofs.YtkoiikmhfaebnaaGreatDoor
open Tryz Go.RowKit
abbrev GPt(v:Value)(w:World)(y:Fd)(u:Value):Prop:=Fd.Pt (fun q=>q<w.heap.size/\v.ownBlock≠some q) w y u
theorem GPt.gw{v v':Value}{w w':World}{y:Fd}{u:Value}(h:GPt v w y u)(g:Gw v v' w w'):GPt v' w' y u:=Fd.Pt.go h (fun q e=>⟨Xd e.1 g.size,fun a=>(g.own q a).elim e.2 (fun c=>absurd e.1 (Lz.2 c))⟩) (fun q e=>g.block q e.1 e.2)
theorem Fd.Pt.iface{B:Nat->Prop}{w:World}{y:Fd}{v:Value}(h:Fd.Pt B w y v):∃t u,v= .iface t u:=by
 obtain⟨x,p,b,ks⟩:=y;obtain⟨c,d,a,_⟩:=(Fd.Q2 _ _ _ _ _ _ _).1 h;exact⟨_,_,a⟩
theorem X8s(base:Nat):∀(n:Nat) (y:Fd),y.size<=n->∀(u v:Value) (l:List Nd) (w:World),l.length+y.size<=1000000->GPt v w y u->w.ownsRow base 48 5 v l.length (Xe l)->base<=w.heap.size->Calls prog 14 #[u,v] w fun e w'=>SH v w base (l++Fd.XP y) e w':=by
 intro n;induction n with
 | zero=>intro y hy;have:=Fd.size_pos y;omega
 | succ n ih=>
  intro y hy u v l w hl h hr b3;obtain⟨x,p,b,ks⟩:=y;rw[Fd.Zi]at hy hl;have hs:∀t∈ks,t.size<=n:=fun t ht=>by have:=Fd.Ql ht;omega
  have b8:=Fd.IP ks;rw[Fd.G7];obtain⟨iN,hN,b2,b1,b0⟩:=Yk Cy;obtain⟨sl,xs,hu,M,h3,h4⟩:=(Fd.Q2 _ _ _ _ _ _ _).1 h;obtain⟨sp,Z,b4⟩:=YV M;obtain⟨vp,vc,hv⟩:=YV hr;subst b4 hv;have HF:Hid (∀v' w',Gw (.slice vp l.length vc) v' w w'->w'.ownsRow 0 44 1 (.slice sp ks.length Z) ks.length xs/\Fd.Pt.ptL (fun q=>q<w'.heap.size/\v'.ownBlock≠some q) w' ks xs):=X1 (fun v' w' g=>
   ⟨Qj M (fun _ _=>X6 _) (fun q e=>g.block q (h3 q e).1 (h3 q e).2),Fd.QW (fun q e=>⟨Xd e.1 g.size,fun K=>(g.own q K).elim e.2 (fun e3=>absurd e.1 (Lz.2 e3))⟩) (fun q e=>g.block q e.1 e.2) h4⟩)
  have a8:=X1 hr;obtain⟨k,o,m,t,c⟩:=x;subst hu;have b9:=Ge k o m (ks.length:Int) t (.slice sp ks.length Z);have c8:=Dc k o m (ks.length:Int) t (.slice sp ks.length Z);have Q:=X1 (G9 k o m (ks.length:Int) t (.slice sp ks.length Z) ⟨_,_,_,rfl⟩ w);clear h M h3 h4 hr;unfold Fd.nk Ip.pv;go_enter func14,ntmps14;go_wp2_with fail;refine Q.o.mono ?_;rintro e w1⟨rfl,S⟩;have I:=X1 S;clear S Q;go_wp2_with fail;go_loopw[1,10] (fun v' iv wr=>∃i:Nat,i<=ks.length/\iv= .int .i64 (i:Int)/\wr.ownsRow base 48 5 v' (l++Fd.XP.giveL (ks.take i)).length (Xe (l++Fd.XP.giveL (ks.take i)))/\Gw (.slice vp l.length vc) v' w wr) (fun _ iv _=>ks.length-(intOf iv).toNat)
  case atStart=>exact⟨0,X6 _,rfl,by simpa[Fd.XP.giveL]using KJ a8.o I.o,.of I.o⟩
  case round=>
   obtain⟨i,hi,rfl,d,hg⟩:=hrel;have HG:=X1 hg;have W:(Fd.XP.giveL (ks.take i)).length+Fd.YP (ks.drop i)<=Fd.YP ks:=Fd.R6 ks i;have a9:(l++Fd.XP.giveL (ks.take i)).length+Fd.YP (ks.drop i)<=l.length+Fd.YP ks:=by rw[Xo];omega
   obtain⟨L,A⟩:∃L,L=l++Fd.XP.giveL (ks.take i):=⟨_,rfl⟩;rw[←A]at d a9;have J:=X1 A;clear A W;have HR:=X1 d;obtain⟨g3,g5⟩:=HF.o _ _ hg;have HK:=X1 g3;have HA:=X1 g5;have d0:=hg.size;clear hg d g3 g5;by_cases B:i<ks.length
   .have b6:(i:Int)<(ks.length:Int):=by omega
    obtain⟨g,cc,Y⟩:=Q3 HK.o (by omega);cases Y;obtain⟨ai,P,E⟩:=Fd.Gi i HA.o B;obtain⟨ta,ua,b5⟩:=E.iface;subst b5;have ke:wr.cell? ⟨g,i,none⟩=some (.iface ta ua):=ZF HK.o P;have X:ks[i]∈ks:=XR _;have b7:Fd.YP (ks.drop i)=ks[i].size+Fd.YP (ks.drop (i+1)):=by rw[Zp B,Fd.Qk]
    obtain⟨a1,a0,F⟩:=YV HR.o;subst F;have HC:=X1 (ih ks[i] (hs _ X) (.iface ta ua) _ L wr (by omega) E HR.o (by omega));clear E P;go_wp2_with fail;refine HC.o.mono ?_;rintro e w5⟨v5,rfl,D,V⟩;have e5:L++Fd.XP ks[i]=l++Fd.XP.giveL (ks.take (i+1)):=by
     rw[J.o,Kt B,Fd.Ce,Jo];congr 2;rw[Fd.UT];simp[Fd.XP.giveL]
    rw[e5]at D;have a6:=X1 D;have a4:=X1 (HG.o.trans V);clear D V HC;go_wp2;go_roundw
    case rel=>exact⟨i+1,by omega,by go_num,a6.o,a4.o⟩
    case measure=>simp[intOf];omega
   .obtain rfl:i=ks.length:=by omega
    obtain⟨a1,a0,F⟩:=YV HR.o;subst F;have d1:L.length<=1000000:=by omega
    have Q:=X1 (D5 k o m (ks.length:Int) t (.slice sp ks.length Z) ⟨_,_,_,rfl⟩ wr);go_wp2_with fail;refine Q.o.mono ?_;rintro e s⟨rfl,r⟩;have a2:=X1 r;have a5:=X1 (KJ HR.o r);have c9:=r.size;clear r Q;go_wp2_with(at_builtin;refine Yg _ rfl _ _ 23 rfl base 48 iN _ 5 48 underlying23 hN b2 b1 b0 rfl (by decide) _ _ _ rfl (a5.o.alloc _) ⟨s.heap.size,0,none⟩ 1 1 (⟨k,o,m,t,ks.length⟩:Nd).cells rfl rfl ?_ ?_ ?_ ?_ ?_ ?_)
    .exact AU s ⟨k,o,m,t,ks.length⟩
    .simp[Nd.cells,Value.oneCell']
    .unfold maxLen;omega
    .omega
    .simp;omega
    .intro v6 w6 j a C z;have B0:Below 0 s w6:=((X5 0 s).alloc (X6 _) _).grown a (X6 _) (fun _ _=>X6 _);have H:∀o:Obj,(s.alloc o).heap.size=s.heap.size+1:=fun o=>Xb _ _;have N:Gw (.slice a1 L.length a0) v6 s w6:=by
      refine⟨B0.os,B0.tape,B0.output,B0.size,fun q h1 M=>?_,fun q e=>?_⟩
      .exact(a.block q (by rw[H];omega) (fun e=>M e.symm)).trans (((X5 s.heap.size s).alloc (X4 _) _).block q h1)
      .rcases z with K|K
       .exact .inl (K ▸ e)
       .rw[K]at e;cases e;exact .inr (by first|omega|(rw[H];omega))
     have a3:=X1 ((HG.o.trans (.of a2.o)).trans N);have er:L++[(⟨k,o,m,t,ks.length⟩:Nd)]=l++(Fd.XP.giveL ks++[(⟨k,o,m,t,ks.length⟩:Nd)]):=by rw[J.o,JG,Jo]
     have d:w6.ownsRow base 48 5 v6 (L++[(⟨k,o,m,t,ks.length⟩:Nd)]).length (Xe (L++[(⟨k,o,m,t,ks.length⟩:Nd)])):=by rw[Eg,Xo];exact j
     rw[er]at d;have a7:=X1 d;clear d er N B0 H a j C z;go_wp2;go_ret;exact⟨v6,rfl,a7.o,a3.o⟩
theorem Ri:(prog.info? 44).map (fun i=>(i.zero,i.size,i.bytes))=some (some .nilIface,1,16):=by kernel_rfl
def GZ(w:World)(p:Option Addr)(vs:List Value):Prop:=vs=[]\/∃g o,p=some ⟨g,o,none⟩/\g<w.heap.size/\∀j u,vs[j]?=some u->w.cell? ⟨g,o+j,none⟩=some u
theorem M3(m:List Value)(p:Option Addr)(n c:Nat)(w:World)(F:m.length=n)(hn:n<=1000000)(E:∀u∈m,u.oneCell'=true)(H:GZ w p m): Calls prog 66 #[.slice p n c] w fun e w'=>∃v,e= .returned v/\w'.ownsRow w.heap.size 44 1 v n m/\Below w.heap.size w w':=by
 obtain⟨X,P,y,t,s⟩:=Yk Ri;have Y:∀(w:World) (a:Option Addr) (n c A c':Nat),(binOp .eql 107 (.slice a n c) (.slice none A c')).run prog w= .ok (.bool a.isNone) w:=fun w a n c A c'=>Lib.run_eql_slice_nil w _ _ a n c A c' underlying107;have D:=X1 H;have K:=X1 E;have C:=X1 F;clear H E F;cases p with
 | none=>
  have W:m=[]:=by
   rcases D.o with h|⟨g,o,h,_⟩
   .exact h
   .cases h
  subst W;have z:n=0:=by have:=C.o;simp at this;omega
  subst z;go_enter func66,ntmps66;go_wp2;go_ret;exact⟨_,rfl,ZJ _ _ _ _,X5 _ _⟩
 | some N=>
  obtain⟨g,o,J⟩:=N;have L:Hid (∀(B:Obj) (j:Nat) (u:Value),m[j]?=some u->(w.alloc B).cell? ((⟨g,o,J⟩:Addr).add j)=some u):=X1 (by
   intro B j u I;rcases D.o with h|⟨Z,o',h,V,S⟩
   .subst h;simp at I
   .cases h;have e:((⟨g,o,none⟩:Addr).add j)=⟨g,o+j,none⟩:=by simp[Addr.add]
    rw[e];exact(((X5 w.heap.size w).alloc (X4 _) B).cell (p:=⟨g,o+j,none⟩) V).trans (S j u I))
  go_enter func66,ntmps66;go_wp2_with(at_builtin;refine Yg _ rfl _ _ 107 rfl w.heap.size 44 X _ 1 16 underlying107 P y t s rfl (by decide) (.slice (some ⟨w.heap.size,0,none⟩) 0 0) 0 [] rfl (XV (base:=w.heap.size) w #[] 0 (X4 _) (X6 _) rfl) ⟨g,o,J⟩ n c m rfl (by have:=C.o;omega) (L.o _) K.o (by unfold maxLen;omega) (by omega) (by simp) ?_);intro v w1 d k l r;have Q:BL w w1:=(bA _).grown k (by simp) (fun q e=>by simp[Value.ownBlock]at e;omega);obtain⟨p',c',rfl⟩:=YV d;have M:=X1 d;clear k l r d;go_wp2;go_ret;exact⟨_,rfl,by simpa using M.o,Q⟩
