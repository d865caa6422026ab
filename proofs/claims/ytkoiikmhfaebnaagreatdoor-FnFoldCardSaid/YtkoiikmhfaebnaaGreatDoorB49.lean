import Derived.Test.YtkoiikmhfaebnaaGreatDoorB48
import Derived.Test.YtkoiikmhfaebnaaGreatDoorB38
set_option maxHeartbeats 4000000
set_option maxRecDepth 100000
namespace Go.Proofs.YtkoiikmhfaebnaaGreatDoor
open Tryz Go.RowKit
theorem LN(x y:Nd)(hx:Fd.CN x)(hy:Fd.CN y)(g c M c':Nat)(w:World)(h:AC w g x)(h':AC w M y):Calls prog 130 #[av g c,av M c'] w (KR (Vl.UJ (Fd.tn x) (Fd.tn y)) w):=by
 have E:=X1 (fun(w':World) (Z:BL w w')=>Jt x g c w' (h.below Z));have X:=X1 (fun(w':World) (Z:BL w w')=>Jt y M c' w' (h'.below Z));have d1:=X1 (fun(w':World) (Z:BL w w')=>Qu x g c w' (h.below Z));have d2:=X1 (fun(w':World) (Z:BL w w')=>Qu y M c' w' (h'.below Z));have b9:=X1 (fun(w':World) (Z:BL w w')=>We x g c w' (h.below Z));have c9:=X1 (fun(w':World) (Z:BL w w')=>We y M c' w' (h'.below Z));have W:=X1 (OB.start w (.slice (some ⟨g,0,none⟩) 1 c) (.slice (some ⟨M,0,none⟩) 1 c'));have a0:=W.o.a;have b0:=W.o.b;have a9:=hx.c;unfold Fd.isC at a9;have F1:=fun w=>Mj x.kind x.n 0 x.text w;have F2:=fun w=>Mj y.kind y.n 0 y.text w;have G1:=fun w=>Uf x.kind x.n 0 x.text w;have G2:=fun w=>Uf y.kind y.n 0 y.text w;have f2:=hx.n0;have f4:=hx.n1;have f5:=hy.n0;have f7:=hy.n1;have e8:=hx.long;have e9:=hy.long;clear h h';by_cases hk:x.kind=y.kind
 .have tk:(x.kind !=y.kind)=false:=by simpa using hk
  by_cases h3:x.kind=3
  .have t3:(x.kind==3)=true:=by simpa using h3
   have k:=X1 (X0b (t:=Fd.tn x) (u:=Fd.tn y) h3 (show y.kind=3 by omega));have k:Hid (Vl.UJ (Fd.tn x) (Fd.tn y)=Vl.Qw (Vl.XL (x.n+y.n)) Vl.rgW):=k;rw[k.o];clear hk h3 a9 hx hy e8 e9 F1 F2;have g4:¬(y.n<0):=by omega
   have ew:IntKind.i64.wrap (9223372036854775807-y.n)=9223372036854775807-y.n:=by rw[Yt];omega
   by_cases f0:x.n<=9223372036854775807-y.n
   .have Q:Vl.Qw (Vl.XL (x.n+y.n)) Vl.rgW= .inr (Vl.QF (x.n+y.n)):=by
     unfold Vl.XL;rw[X3 (by omega)];rfl
    rw[Q];have es:IntKind.i64.wrap (x.n+y.n)=x.n+y.n:=by rw[Yt];omega
    have g5:¬(9223372036854775807-y.n<x.n):=by omega
    clear Q;by_cases h0:0<y.n;all_goals
     go_enter func130,ntmps130;go_wp2_with fail;go_region_held3 (fun w'=>w'.cell? ⟨w.heap.size,0,none⟩=some (.slice (some ⟨g,0,none⟩) 1 c)/\w'.cell? ⟨w.heap.size+1,0,none⟩=some (.slice (some ⟨M,0,none⟩) 1 c')) (go_keep) (first
      | (refine Vl.Dj rfl 125 (.tmp 13) 118 rfl (av g c) (.int .i64 x.kind) (by simp[Act.eval]) f125 func125 (by kernel_rfl) (by kernel_rfl) _ (E.o _ W.o.drew.B) ?_;intro w1 m;have d:=W.o.drew.below m;have H:=d.a;have J:=d.b)
      | (refine Vl.Dj rfl 125 (.tmp 15) 118 rfl (av M c') (.int .i64 y.kind) (by simp[Act.eval]) f125 func125 (by kernel_rfl) (by kernel_rfl) _ (X.o _ d.B) ?_;intro w2 q;have j:=d.below q;have I:=j.a;have K:=j.b)
      | fail)
     have s:=X1 j;have a2:=s.o.a;have b2:=s.o.b;clear d j m q H J I K a0 b0;go_wp2_with fail;refine(b9.o _ s.o.B).mono ?_;rintro e w3⟨q3,rfl,l⟩;have A:=X1 (s.o.below l);have a3:=A.o.a;have b3:=A.o.b;clear l a2 b2;go_wp2_with fail;refine(c9.o _ A.o.B).mono ?_;rintro e w4⟨q4,rfl,C⟩;have F:=X1 (A.o.below C);have a4:=F.o.a;have b4:=F.o.b;clear C a3 b3;go_wp2_with fail;refine(E.o _ F.o.B).mono ?_;rintro e w5⟨rfl,D⟩;have L:=X1 (F.o.below D);have a5:=L.o.a;have b5:=L.o.b;clear D a4 b4;go_wp2_with fail;refine(d1.o _ L.o.B).mono ?_;rintro e w6⟨rfl,N⟩;have S:=X1 (L.o.below N);have a6:=S.o.a;have b6:=S.o.b;clear N a5 b5;go_wp2_with fail;refine(d2.o _ S.o.B).mono ?_;rintro e w7⟨rfl,a1⟩;have O7:=X1 (S.o.below a1);have a7:=O7.o.a;have b7:=O7.o.b;clear a1 a6 b6;go_wp2_with fail;refine(CA _ _).mono ?_;rintro e w8⟨ga,rfl,g1,Y,P⟩;have O8:=X1 (O7.o.below P);have r8:=O8.o.r;have f8:=O8.o.f;have e0:=X1 Y;have g6:=O7.o.z;have f9:=O7.o.B.size;clear P Y;go_wp2;refine X7 (v:= .tuple #[av ga 1,.string ⟨#[]⟩]) (by simp[results,results130,go_sem,r8]) rfl ?_;exact Sg (e0.o.set (by omega)) (by omega) (O8.o.set _)
   .have Q:Vl.Qw (Vl.XL (x.n+y.n)) Vl.rgW= .inl Vl.rgW:=by
     unfold Vl.XL;rw[X2 (by omega)];rfl
    rw[Q];have g2:9223372036854775807-y.n<x.n:=by omega
    have h0:0<y.n:=by omega
    clear Q;go_enter func130,ntmps130;go_wp2_with fail;go_region_held3 (fun w'=>w'.cell? ⟨w.heap.size,0,none⟩=some (.slice (some ⟨g,0,none⟩) 1 c)/\w'.cell? ⟨w.heap.size+1,0,none⟩=some (.slice (some ⟨M,0,none⟩) 1 c')) (go_keep) (first
     | (refine Vl.Dj rfl 125 (.tmp 13) 118 rfl (av g c) (.int .i64 x.kind) (by simp[Act.eval]) f125 func125 (by kernel_rfl) (by kernel_rfl) _ (E.o _ W.o.drew.B) ?_;intro w1 m;have d:=W.o.drew.below m;have H:=d.a;have J:=d.b)
     | (refine Vl.Dj rfl 125 (.tmp 15) 118 rfl (av M c') (.int .i64 y.kind) (by simp[Act.eval]) f125 func125 (by kernel_rfl) (by kernel_rfl) _ (X.o _ d.B) ?_;intro w2 q;have j:=d.below q;have I:=j.a;have K:=j.b)
     | fail)
    have s:=X1 j;have a2:=s.o.a;have b2:=s.o.b;clear d j m q H J I K a0 b0;go_wp2_with fail;refine(b9.o _ s.o.B).mono ?_;rintro e w3⟨q3,rfl,l⟩;have A:=X1 (s.o.below l);have a3:=A.o.a;have b3:=A.o.b;clear l a2 b2;go_wp2_with fail;refine(c9.o _ A.o.B).mono ?_;rintro e w4⟨q4,rfl,C⟩;have F:=X1 (A.o.below C);have a4:=F.o.a;have b4:=F.o.b;clear C a3 b3;go_wp2_with fail;refine(E.o _ F.o.B).mono ?_;rintro e w5⟨rfl,D⟩;have L:=X1 (F.o.below D);have a5:=L.o.a;have b5:=L.o.b;clear D a4 b4;go_wp2_with fail;refine(d1.o _ L.o.B).mono ?_;rintro e w6⟨rfl,N⟩;have S:=X1 (L.o.below N);have a6:=S.o.a;have b6:=S.o.b;clear N a5 b5;go_wp2_with fail;refine(d2.o _ S.o.B).mono ?_;rintro e w7⟨rfl,a1⟩;have O7:=X1 (S.o.below a1);have a7:=O7.o.a;have b7:=O7.o.b;clear a1 a6 b6;go_wp2_with fail;refine(noW _ _).mono ?_;rintro e w8⟨rfl,P⟩;have O8:=X1 (O7.o.below P);have r8:=O8.o.r;have f8:=O8.o.f;clear P;go_wp2;refine X7 (v:= .tuple #[.agg #[.slice none 0 0],.string ⟨#[114,97,110,103,101]⟩]) (by simp[results,results130,go_sem,r8]) rfl ?_;exact J5 (O8.o.set _)
  .have t3:(x.kind==3)=false:=by simpa using h3
   by_cases h4:x.kind=4
   .have t4:(x.kind==4)=true:=by simpa using h4
    have k:=X1 (X0c (t:=Fd.tn x) (u:=Fd.tn y) h4 (show y.kind=4 by omega));have k:Hid (Vl.UJ (Fd.tn x) (Fd.tn y)=if(x.text++y.text).size<=1000 then .inr (.mk 4 0 (x.text++y.text) [])else .inl Vl.lgW):=k;rw[k.o];have d3:=X1 (fun g c w h=>Y1k (x.text++y.text) g c w h);obtain⟨OT,d4⟩:∃o:Vl.Out,o=(if(x.text++y.text).size<=1000 then Sum.inr (.mk 4 0 (x.text++y.text) [])else .inl Vl.lgW):=⟨_,rfl⟩;rw[←d4]at d3⊢;clear d4 k;have d6:(x.text++y.text).size=x.text.size+y.text.size:=JA;have f1:¬9223372036854775807<x.text.size+y.text.size:=by omega
    clear hk h3 h4 a9 hx hy G1 G2 d6;go_enter func130,ntmps130;go_wp2_with fail;go_region_held3 (fun w'=>w'.cell? ⟨w.heap.size,0,none⟩=some (.slice (some ⟨g,0,none⟩) 1 c)/\w'.cell? ⟨w.heap.size+1,0,none⟩=some (.slice (some ⟨M,0,none⟩) 1 c')) (go_keep) (first
     | (refine Vl.Dj rfl 125 (.tmp 13) 118 rfl (av g c) (.int .i64 x.kind) (by simp[Act.eval]) f125 func125 (by kernel_rfl) (by kernel_rfl) _ (E.o _ W.o.drew.B) ?_;intro w1 m;have d:=W.o.drew.below m;have H:=d.a;have J:=d.b)
     | (refine Vl.Dj rfl 125 (.tmp 15) 118 rfl (av M c') (.int .i64 y.kind) (by simp[Act.eval]) f125 func125 (by kernel_rfl) (by kernel_rfl) _ (X.o _ d.B) ?_;intro w2 q;have j:=d.below q;have I:=j.a;have K:=j.b)
     | fail)
    have s:=X1 j;have a2:=s.o.a;have b2:=s.o.b;clear d j m q H J I K a0 b0;go_wp2_with fail;refine(b9.o _ s.o.B).mono ?_;rintro e w3⟨q3,rfl,l⟩;have A:=X1 (s.o.below l);have a3:=A.o.a;have b3:=A.o.b;clear l a2 b2;go_wp2_with fail;refine(c9.o _ A.o.B).mono ?_;rintro e w4⟨q4,rfl,C⟩;have F:=X1 (A.o.below C);have a4:=F.o.a;have b4:=F.o.b;clear C a3 b3;go_wp2_with fail;refine(E.o _ F.o.B).mono ?_;rintro e w5⟨rfl,D⟩;have L:=X1 (F.o.below D);have a5:=L.o.a;have b5:=L.o.b;clear D a4 b4;go_wp2_with fail;go_region_held3 (fun w'=>w'.cell? ⟨w.heap.size,0,none⟩=some (.slice (some ⟨g,0,none⟩) 1 c)/\w'.cell? ⟨w.heap.size+1,0,none⟩=some (.slice (some ⟨M,0,none⟩) 1 c')) (go_keep) (first
     | (refine Vl.Dj rfl 126 (.tmp 68) 118 rfl (av g c) (agA x) (by simp[Act.eval]) f126 func126 (by kernel_rfl) (by kernel_rfl) _ (d1.o _ L.o.drew.B) ?_;intro w6 d8;have b1:=L.o.drew.below d8;have e2:=b1.a;have e5:=b1.b)
     | (refine Vl.Dj rfl 126 (.tmp 71) 118 rfl (av M c') (agA y) (by simp[Act.eval]) f126 func126 (by kernel_rfl) (by kernel_rfl) _ (d2.o _ b1.B) ?_;intro w7 d9;have d0:=b1.below d9;have e3:=d0.a;have e6:=d0.b)
     | (refine Z8 rfl 123 [.tmp 74] _ rfl [.string (x.text++y.text)] (by first|(simp[Act.eval];done)|simp[Act.eval,Act.put]) f123 func123 (by kernel_rfl) (by kernel_rfl) (fun r w8=>∃ga,r=av ga 1/\AC w8 ga (Fd.cn 4 0 (x.text++y.text))/\BL w7 w8) ((Y3s (x.text++y.text) w7).mono (fun _ _ ⟨ga,y1,y2,y3,y4⟩=>⟨_,y1,ga,rfl,y3,y4⟩)) ?_;rintro r w9⟨ga,rfl,Y,d5⟩;have V:=d0.below d5;have e4:=V.a;have e7:=V.b)
     | (refine Z8 rfl 188 [.tmp 75] _ rfl [av ga 1] (by simp[Act.eval]) f188 func188 (by kernel_rfl) (by kernel_rfl) (fun r w8=>∃p8 m8 c8 s8,r= .tuple #[.agg #[.slice p8 m8 c8],.string s8]/\SV OT w9.heap.size (.slice p8 m8 c8) w8/\BL w9 w8) ((d3.o ga 1 w9 Y).mono (fun _ _ ⟨p8,m8,c8,s8,y1,y2,y3⟩=>⟨_,y1,p8,m8,c8,s8,rfl,y2,y3⟩)) ?_;rintro r w8⟨p8,m8,c8,s8,rfl,d7,P⟩;have o8:=V.below P;have a8:=o8.a;have b8:=o8.b;have r8:=o8.r;have f8:=o8.f;have s0:=(Zs w8 ⟨w.heap.size+1+1,0,none⟩ ⟨w.heap.size,0,none⟩ (.slice p8 m8 c8) (by simp)).trans a8;have s1:=(Zs w8 ⟨w.heap.size+1+1,0,none⟩ ⟨w.heap.size+1,0,none⟩ (.slice p8 m8 c8) (by simp)).trans b8)
     | fail)
    have g7:=V.z;have O8:=X1 o8;have e1:=X1 d7;have g0:=V.B.size;clear s0 s1 a8 b8 b1 d0 d8 d9 P e2 e5 e3 e6 d7 o8 V d5 e4 e7 Y;go_wp2;refine X7 (v:= .tuple #[.agg #[.slice p8 m8 c8],.string s8]) (by simp[results,results130,go_sem,r8]) rfl ?_;exact⟨p8,m8,c8,s8,rfl,e1.o.set (by omega) (by omega),O8.o.set _⟩
   .have t4:(x.kind==4)=false:=by simpa using h4
    have t5:(x.kind==5)=false:=by simpa using(by omega:x.kind≠5)
    have t6:(x.kind==6)=false:=by simpa using(by omega:x.kind≠6)
    have k:=X1 (AB (t:=Fd.tn x) (u:=Fd.tn y) (fun e=>h3 e.1) (fun e=>h4 e.1));rw[k.o];clear hk h3 h4 a9 hx hy F1 F2 G1 G2;go_enter func130,ntmps130;go_wp2_with fail;go_region_held3 (fun w'=>w'.cell? ⟨w.heap.size,0,none⟩=some (.slice (some ⟨g,0,none⟩) 1 c)/\w'.cell? ⟨w.heap.size+1,0,none⟩=some (.slice (some ⟨M,0,none⟩) 1 c')) (go_keep) (first
     | (refine Vl.Dj rfl 125 (.tmp 13) 118 rfl (av g c) (.int .i64 x.kind) (by simp[Act.eval]) f125 func125 (by kernel_rfl) (by kernel_rfl) _ (E.o _ W.o.drew.B) ?_;intro w1 m;have d:=W.o.drew.below m;have H:=d.a;have J:=d.b)
     | (refine Vl.Dj rfl 125 (.tmp 15) 118 rfl (av M c') (.int .i64 y.kind) (by simp[Act.eval]) f125 func125 (by kernel_rfl) (by kernel_rfl) _ (X.o _ d.B) ?_;intro w2 q;have j:=d.below q;have I:=j.a;have K:=j.b)
     | fail)
    have s:=X1 j;have a2:=s.o.a;have b2:=s.o.b;clear d j m q H J I K a0 b0;go_wp2_with fail;refine(b9.o _ s.o.B).mono ?_;rintro e w3⟨q3,rfl,l⟩;have A:=X1 (s.o.below l);have a3:=A.o.a;have b3:=A.o.b;clear l a2 b2;go_wp2_with fail;refine(c9.o _ A.o.B).mono ?_;rintro e w4⟨q4,rfl,C⟩;have F:=X1 (A.o.below C);have a4:=F.o.a;have b4:=F.o.b;clear C a3 b3;go_wp2_with fail;refine(E.o _ F.o.B).mono ?_;rintro e w5⟨rfl,D⟩;have L:=X1 (F.o.below D);have a5:=L.o.a;have b5:=L.o.b;clear D a4 b4;go_wp2_with fail;refine(noW _ _).mono ?_;rintro e w6⟨rfl,N⟩;have S:=X1 (L.o.below N);have r6:=S.o.r;have f6:=S.o.f;clear N;go_wp2;refine X7 (v:= .tuple #[.agg #[.slice none 0 0],.string ⟨#[116,121,112,101]⟩]) (by simp[results,results130,go_sem,r6]) rfl ?_;exact J5 (S.o.set _)
 .have tk:(x.kind !=y.kind)=true:=by simpa using hk
  have g3:¬(x.kind=y.kind):=hk;have k:=X1 (AB (t:=Fd.tn x) (u:=Fd.tn y) (fun e=>hk (e.1.trans e.2.symm)) (fun e=>hk (e.1.trans e.2.symm)));rw[k.o];clear hk a9 hx hy F1 F2 G1 G2;go_enter func130,ntmps130;go_wp2_with fail;go_region_held3 (fun w'=>w'.cell? ⟨w.heap.size,0,none⟩=some (.slice (some ⟨g,0,none⟩) 1 c)/\w'.cell? ⟨w.heap.size+1,0,none⟩=some (.slice (some ⟨M,0,none⟩) 1 c')) (go_keep) (first
   | (refine Vl.Dj rfl 125 (.tmp 13) 118 rfl (av g c) (.int .i64 x.kind) (by simp[Act.eval]) f125 func125 (by kernel_rfl) (by kernel_rfl) _ (E.o _ W.o.drew.B) ?_;intro w1 m;have d:=W.o.drew.below m;have H:=d.a;have J:=d.b)
   | (refine Vl.Dj rfl 125 (.tmp 15) 118 rfl (av M c') (.int .i64 y.kind) (by simp[Act.eval]) f125 func125 (by kernel_rfl) (by kernel_rfl) _ (X.o _ d.B) ?_;intro w2 q;have j:=d.below q;have I:=j.a;have K:=j.b)
   | fail)
  have s:=X1 j;have a2:=s.o.a;have b2:=s.o.b;clear d j m q H J I K a0 b0;go_wp2_with fail;refine(noW _ _).mono ?_;rintro e w3⟨rfl,l⟩;have A:=X1 (s.o.below l);have r3:=A.o.r;have f3:=A.o.f;clear l;go_wp2;refine X7 (v:= .tuple #[.agg #[.slice none 0 0],.string ⟨#[116,121,112,101]⟩]) (by simp[results,results130,go_sem,r3]) rfl ?_;exact J5 (A.o.set _)
theorem Mq(a:Int)(c:1<=a)(d:a<=14)(w:World):Calls prog 82 #[.int .i64 a,.int .i64 1,.int .i64 14] w fun e w'=>e= .returned (.bool true)/\w'=w:=by
 go_enter func82,ntmps82;go_wp2;go_ret;exact⟨rfl,rfl⟩
theorem M4(l e:Bool):Vl.ZV l e= -1\/Vl.ZV l e=0\/Vl.ZV l e=1:=by cases l<;>cases e<;>simp[Vl.ZV]
theorem MR(x y:Nd):(Fd.tn x).ord (Fd.tn y)= -1\/(Fd.tn x).ord (Fd.tn y)=0\/(Fd.tn x).ord (Fd.tn y)=1:=by
 rw[Vl.T.RN];split
 .exact M4 _ _
 .split
  .exact M4 _ _
  .split
   .exact M4 _ _
   .exact M4 _ _
theorem X0d{a:Int->Bool}{t u:Vl.T}(h:t.kind=u.kind)(j:t.kind=2\/t.kind=3\/t.kind=4):Vl.alike a t u= .inr (Vl.YT (a (t.ord u))):=by
 unfold Vl.alike;simp only[Xu,Yc];rcases j with e|e|e
 .have c:Vl.Wb a t u= .inr (Vl.YT (a (t.ord u))):=X3 ⟨e,by omega⟩;rw[c];rfl
 .have c:Vl.Wb a t u= .inl Vl.tyW:=X2 (fun q=>by omega);have d:Vl.WT a t u= .inr (Vl.YT (a (t.ord u))):=X3 ⟨e,by omega⟩;rw[c,d];rfl
 .have c:Vl.Wb a t u= .inl Vl.tyW:=X2 (fun q=>by omega);have d:Vl.WT a t u= .inl Vl.tyW:=X2 (fun q=>by omega);have g:Vl.DX a t u= .inr (Vl.YT (a (t.ord u))):=X3 ⟨e,by omega⟩;rw[c,d,g];rfl
theorem AD{a:Int->Bool}{t u:Vl.T}(h:t.kind≠u.kind\/t.kind=1):Vl.alike a t u= .inl Vl.tyW:=by
 unfold Vl.alike;simp only[Xu,Yc];have c:Vl.Wb a t u= .inl Vl.tyW:=X2 (fun q=>by omega);have d:Vl.WT a t u= .inl Vl.tyW:=X2 (fun q=>by omega);have g:Vl.DX a t u= .inl Vl.tyW:=X2 (fun q=>by omega);rw[c,d,g];rfl
theorem Xda(op:Int)(g:op=11\/op=12\/op=13\/op=14){x y:Nd}(j:x.kind=3)(k:y.kind=3):∃r l,Vl.Yv op x.n y.n=(r,l)/\Vl.Yh op (Fd.tn x) (Fd.tn y)=Vl.Qw r l:=by
 have d:(Fd.tn x).kind=3/\(Fd.tn y).kind=3:=⟨j,k⟩;rcases g with rfl|rfl|rfl|rfl
 .refine⟨Vl.XL (x.n-y.n),if(Vl.XL (x.n-y.n)).isSome then[]else Vl.Ux,by unfold Vl.Yv;rw[X3 rfl],?_⟩;refine(show Vl.Yh 11 (Fd.tn x) (Fd.tn y)=Vl.Qw (Vl.XL (x.n-y.n)) Vl.rgW from X3 d).trans ?_;cases Vl.XL (x.n-y.n)<;>rfl
 .refine⟨Vl.XL (x.n*y.n),if(Vl.XL (x.n*y.n)).isSome then[]else Vl.Ux,by unfold Vl.Yv;rw[X2 (by decide),X3 rfl],?_⟩;refine(show Vl.Yh 12 (Fd.tn x) (Fd.tn y)=Vl.Qw (Vl.XL (x.n*y.n)) Vl.rgW from X3 d).trans ?_;cases Vl.XL (x.n*y.n)<;>rfl
 .have e:Vl.Yh 13 (Fd.tn x) (Fd.tn y)=(if y.n=0 then Sum.inl Vl.Ll else if x.n= -9223372036854775808/\y.n= -1 then .inl Vl.Ux else .inr (Vl.QF (Vl.Jw x.n y.n))):=X3 d;rw[e];unfold Vl.Yv;rw[X2 (by decide),X2 (by decide)];by_cases a:y.n=0
  .rw[X3 a,X3 a];exact⟨_,_,rfl,rfl⟩
  .rw[X2 a,X2 a,X3 rfl];by_cases c:x.n= -9223372036854775808/\y.n= -1
   .rw[X3 c,X3 c];exact⟨_,_,rfl,rfl⟩
   .rw[X2 c,X2 c];exact⟨_,_,rfl,rfl⟩
 .have e:Vl.Yh 14 (Fd.tn x) (Fd.tn y)=(if y.n=0 then Sum.inl Vl.Ll else .inr (Vl.QF (Vl.Jx x.n y.n))):=X3 d;rw[e];unfold Vl.Yv;rw[X2 (by decide),X2 (by decide)];by_cases a:y.n=0
  .rw[X3 a,X3 a];exact⟨_,_,rfl,rfl⟩
  .rw[X2 a,X2 a,X2 (by decide)];exact⟨_,_,rfl,rfl⟩
theorem Xcy(op:Int)(c:op=11\/op=12\/op=13\/op=14){x y:Nd}(q:Fd.CN x)(s:Fd.CN y)(B:x.kind=3)(C:y.kind=3)(w:World):Calls prog 131 #[.int .i64 op,.int .i64 x.n,.int .i64 y.n] w (KR (Vl.Yh op (Fd.tn x) (Fd.tn y)) w):=by
 obtain⟨r,l,t,u⟩:=Xda op c B C;have hi:Vl.Xp x.n:=by have a:=q.n0;have b:=q.n1;unfold Vl.Xp;omega
 have j:Vl.Xp y.n:=by have a:=s.n0;have b:=s.n1;unfold Vl.Xp;omega
 have d:Calls prog 131 #[.int .i64 op,.int .i64 x.n,.int .i64 y.n] w (Vl.GW w (Vl.Yv op x.n y.n)):=by
  rcases c with rfl|rfl|rfl|rfl
  .exact Vl.Xde _ _ w hi j
  .exact Vl.Xdc _ _ w hi j
  .exact Vl.Xdb _ _ w hi j
  .exact Vl.Xdd _ _ w hi j
 rw[t]at d;rw[u];refine d.mono fun e w' h=>?_;obtain⟨m,k⟩:=h;cases r with
 | none=>
  have k:e= .returned (.tuple #[.agg #[.slice none 0 0],.string ⟨l.toArray⟩]):=k;rw[k];exact J5 m
 | some n=>
  obtain⟨g,A,z,v⟩:=k;rw[z];exact Sg (If v) A m
theorem opA(op:Int)(b5:op=3\/op=4\/op=9\/op=10)(x y:Nd)(K:Fd.CN x)(Y:Fd.CN y)(g c t c':Nat)(w:World)(h:AC w g x)(H:AC w t y):Calls prog 70 #[.int .i64 op,av g c,av t c'] w (KR (Vl.Yh op (Fd.tn x) (Fd.tn y)) w):=by
 have a6:=X1 (fun(w':World) (k:BL w w')=>Jt x g c w' (h.below k));have b7:=X1 (fun(w':World) (k:BL w w')=>Jt y t c' w' (H.below k));have b8:=X1 (fun(w':World) (k:BL w w')=>Qu x g c w' (h.below k));have b9:=X1 (fun(w':World) (k:BL w w')=>Qu y t c' w' (H.below k));have a8:=X1 (fun(w':World) (k:BL w w')=>V9 x (.inl K) g c w' (h.below k));have a9:=X1 (fun(w':World) (k:BL w w')=>V9 y (.inl Y) t c' w' (H.below k));have N:=X1 (fun(w':World) (k:BL w w')=>Mn x y K Y g c t c' w' (h.below k) (H.below k));have M:=X1 (fun(w':World) (k:BL w w')=>LN x y K Y g c t c' w' (h.below k) (H.below k));obtain⟨L,A⟩:∃L,L=(Fd.tn x).ord (Fd.tn y):=⟨_,rfl⟩;have E:Hid (L= -1\/L=0\/L=1):=X1 (A ▸ MR x y);have HO:=X1 (fun(w':World) (k:BL w w')=>MS x y K.c g c t c' w' (h.below k) (H.below k));rw[←A]at HO;have P:=X1 A;have a5:=X1 (fun w=>Mq op (by omega) (by omega) w);have I:=K.c;unfold Fd.isC at I;have b6:=X1 I;have G1:=fun w=>Uf x.kind x.n 0 x.text w;have G2:=fun w=>Uf y.kind y.n 0 y.text w;have HX:=X1 K;have HY:=X1 Y;have Z:=X1 (OB.start w (.slice (some ⟨g,0,none⟩) 1 c) (.slice (some ⟨t,0,none⟩) 1 c'));have a0:=Z.o.a;have b0:=Z.o.b;clear h H A I K Y;go_enter func70,ntmps70;go_wp2_with fail;refine(a8.o _ Z.o.B).mono ?_;rintro e w1⟨rfl,Q⟩;have O1:=X1 (Z.o.below Q);have a1:=O1.o.a;have b1:=O1.o.b;clear Q a0 b0;go_wp2_with fail;refine(a9.o _ O1.o.B).mono ?_;rintro e w2⟨rfl,S⟩;have O2:=X1 (O1.o.below S);have a2:=O2.o.a;have b2:=O2.o.b;clear S a1 b1;go_wp2_with fail;refine(a5.o _).mono ?_;rintro e c9⟨rfl,rfl⟩;go_wp2_with fail;refine(HO.o _ O2.o.B).mono ?_;rintro e w3⟨rfl,V⟩;have O3:=X1 (O2.o.below V);have a3:=O3.o.a;have b3:=O3.o.b;clear V a2 b2;go_wp2_with fail;refine(a6.o _ O3.o.B).mono ?_;rintro e w4⟨rfl,W⟩;have l:=X1 (O3.o.below W);have a4:=l.o.a;have b4:=l.o.b;clear W a3 b3;rcases b5 with rfl|rfl|rfl|rfl
 .have q:Hid (Vl.Yh 3 (Fd.tn x) (Fd.tn y)= .inr (Vl.YT (decide (L=0)))):=X1 (by rw[P.o];rfl);rcases E.o with h|h|h;rotate_left
  .subst h;go_wp2_with fail;refine(Jr true _).mono ?_;rintro e w5⟨F,rfl,J,j,d⟩;have m:=X1 (l.o.below d);have D:=m.o.r;have f5:=m.o.f;have s:=X1 j;have C:=l.o.z;have u:=l.o.B.size;clear d j;go_wp2;refine X7 (v:= .tuple #[av F 1,.string ⟨#[]⟩]) (by simp[results,results70,go_sem,D]) rfl ?_;rw[q.o];exact V5 (b:=true) (s.o.set (by omega)) (by omega) (m.o.set _)
  all_goals
   subst h;go_wp2_with fail;refine(Jr false _).mono ?_;rintro e w5⟨F,rfl,J,j,d⟩;have m:=X1 (l.o.below d);have D:=m.o.r;have f5:=m.o.f;have s:=X1 j;have C:=l.o.z;have u:=l.o.B.size;clear d j;go_wp2;refine X7 (v:= .tuple #[av F 1,.string ⟨#[]⟩]) (by simp[results,results70,go_sem,D]) rfl ?_;rw[q.o];exact V5 (b:=false) (s.o.set (by omega)) (by omega) (m.o.set _)
 .have q:Hid (Vl.Yh 4 (Fd.tn x) (Fd.tn y)= .inr (Vl.YT (decide (L≠0)))):=X1 (by rw[P.o];rfl);rcases E.o with h|h|h;rotate_left
  .subst h;go_wp2_with fail;refine(Jr false _).mono ?_;rintro e w5⟨F,rfl,J,j,d⟩;have m:=X1 (l.o.below d);have D:=m.o.r;have f5:=m.o.f;have s:=X1 j;have C:=l.o.z;have u:=l.o.B.size;clear d j;go_wp2;refine X7 (v:= .tuple #[av F 1,.string ⟨#[]⟩]) (by simp[results,results70,go_sem,D]) rfl ?_;rw[q.o];exact V5 (b:=false) (s.o.set (by omega)) (by omega) (m.o.set _)
  all_goals
   subst h;go_wp2_with fail;refine(Jr true _).mono ?_;rintro e w5⟨F,rfl,J,j,d⟩;have m:=X1 (l.o.below d);have D:=m.o.r;have f5:=m.o.f;have s:=X1 j;have C:=l.o.z;have u:=l.o.B.size;clear d j;go_wp2;refine X7 (v:= .tuple #[av F 1,.string ⟨#[]⟩]) (by simp[results,results70,go_sem,D]) rfl ?_;rw[q.o];exact V5 (b:=true) (s.o.set (by omega)) (by omega) (m.o.set _)
 focus
  go_wp2_with fail;refine(N.o _ l.o.B).mono ?_
 rotate_left;focus
  go_wp2_with fail;refine(M.o _ l.o.B).mono ?_
 all_goals
  rintro e w5⟨p8,m8,c8,s8,rfl,X,d⟩;have m:=X1 (l.o.below d);have D:=m.o.r;have f5:=m.o.f;have a7:=X1 X;have C:=l.o.z;have u:=l.o.B.size;clear d X;go_wp2;refine X7 (v:= .tuple #[.agg #[.slice p8 m8 c8],.string s8]) (by simp[results,results70,go_sem,D]) rfl ?_;exact⟨p8,m8,c8,s8,rfl,a7.o.set (by omega) (by omega),m.o.set _⟩
end Go.Proofs.YtkoiikmhfaebnaaGreatDoor
namespace Go.Proofs.YtkoiikmhfaebnaaGreatDoor
open Tryz
theorem Tr.M9{α:Type}(q:α->Prop)[DecidablePred q](p:Nat):∀(l:List α) (s:St),p<s.Xj.length->(l.foldl (fun s x=>if q x then Xq p 8 s else s) s).Xj.length=s.Xj.length/\(Za (l.foldl (fun s x=>if q x then Xq p 8 s else s) s)↔Za s/\∀x∈l,¬q x)
 | [],s,_=>⟨rfl,by simp⟩
 | x::r,s,h=>by
  rw[ZI];by_cases c:q x
  .rw[X3 c];obtain⟨a,b⟩:=Tr.M9 q p r (Xq p 8 s) (by rw[I3];exact h);refine⟨a.trans (I3 _ _ _),?_⟩;rw[b];exact⟨fun e=>absurd e.1 (LI (by decide) h),fun e=>absurd c (e.2 x (by simp))⟩
  .rw[X2 c];obtain⟨a,b⟩:=Tr.M9 q p r s h;refine⟨a,?_⟩;rw[b];simp[c]
theorem Tr.CR(x:ByteArray):∀c:List Kn,(∃a,XE x c=some a)↔x∈c.map Prod.fst
 | []=>by simp[XE]
 | q::r=>by
  have d:=Tr.CR x r;rw[XE,Xu,Y6,←d];cases h:XE x r with
  | some a=>simp
  | none=>
   simp only[reduceCtorEq,exists_false,Zy];split
   .rename_i e;simp[e]
   .rename_i e;simp[Ne.symm e]
namespace Fd
section
variable {ns:List Nd} {ks:List (List Nat)} {B:List Int}
def CAt(ns:List Nd)(ks:List (List Nat))(B:List Int)(f:Nat):Prop:=∀(g k:Nat) (kn:List Kn) (s:St),k<f->k<g->k<ns.length->s.Xj.length=ns.length->(Xg ns ks f k kn s).Xj.length=ns.length/\(Za (Xg ns ks f k kn s)↔Za s/\Cl (kn.map Prod.fst) (take ns ks B g k))
theorem PZ{f:Nat}(c:CAt ns ks B f)(g:Nat)(a:List Kn):∀(l:List Nat) (s:St),(∀x∈l,x<f/\x<g/\x<ns.length)->s.Xj.length=ns.length->(l.foldl (fun s y=>Xg ns ks f y a s) s).Xj.length=ns.length/\(Za (l.foldl (fun s y=>Xg ns ks f y a s) s)↔Za s/\∀t∈l.map (take ns ks B g),Cl (a.map Prod.fst) t)
 | [],s,_,hs=>⟨hs,by simp⟩
 | x::r,s,hl,hs=>by
  rw[ZI];obtain⟨n,q,u⟩:=hl x (by simp);obtain⟨d,j⟩:=c g x a s n q u hs;obtain⟨k,m⟩:=PZ c g a r _ (fun y v=>hl y (by simp[v])) d;refine⟨k,?_⟩;rw[m,j,Xu,List.forall_mem_cons,LP]
theorem Xex{f:Nat}(H:CAt ns ks B f)(A:∀k,∀x∈X9 ks k,x<k)(n:∀k,X8 ns k=19->(X9 ks k).length<=1)(g p:Nat)(a:List Nat)(q:List Kn)(u:Bool)(s:St)(M:p<f)(N:p<g)(E:p<ns.length)(m:X8 ns p=19)(C:s.Xj.length=ns.length): (Zv (Xg ns ks f) ns ks p a q u s).Xj.length=ns.length/\(Za (Zv (Xg ns ks f) ns ks p a q u s)↔Za s/\Cl (q.map Prod.fst) (take ns ks B g p)/\(take ns ks B g p).x.text∉a.map (Xi ns)/\(u=true->(take ns ks B g p).ks≠[])):=by
 obtain⟨g,rfl⟩:∃K,g=K+1:=⟨g-1,by omega⟩;have v:=n p m;have d:=A p;obtain⟨r,t⟩:=Tr.M9 (fun x=>Xi ns x=Xi ns p) p a s (by omega);have L:Z1 ns p a s=a.foldl (fun s x=>if Xi ns x=Xi ns p then Xq p 8 s else s) s:=rfl;rw[←L]at r t;have j:(∀x∈a,¬Xi ns x=Xi ns p)↔(Tr.Q1 ns p).text∉a.map (Xi ns):=by
  rw[Tr.Df E,Zq];exact⟨fun h ⟨x,D,e⟩=>h x D e,fun h x D e=>h ⟨x,D,e⟩⟩
 rw[j]at t;rw[take_succ,Vx,Tr.Ul E,m,X2 (by decide),X2 (by decide),X2 (by decide),X2 (by decide),Wa];show _/\(_↔_/\_/\(Tr.Q1 ns p).text∉_/\(_->(X9 ks p).map (take ns ks B g)≠[]));unfold Zv;generalize X9 ks p=l at *;generalize Z1 ns p a s=F at *
 match l,v,d with
 | [],_,_=>
  cases u
  .refine⟨r.trans C,?_⟩;rw[X2 (by decide),t];simp
  .refine⟨by rw[X3 rfl,I3];exact r.trans C,?_⟩;rw[X3 rfl];exact⟨fun e=>absurd e (LI (by decide) (by omega)),fun e=>absurd rfl (e.2.2.2 rfl)⟩
 | [c],_,d=>
  have P:=d c (by simp);obtain⟨I,J⟩:=H g c q F (by omega) (by omega) (by omega) (r.trans C);refine⟨I,?_⟩;show Za (Xg ns ks f c q F)↔_;rw[J,t];simp only[Xu,Yc,QZ,forall_eq,ne_eq,reduceCtorEq,Eh,implies_true,and_true];exact⟨fun⟨⟨x,y⟩,z⟩=>⟨x,z,y⟩,fun⟨x,z,y⟩=>⟨⟨x,y⟩,z⟩⟩
theorem C5{f:Nat}(t:CAt ns ks B f)(m:∀k,∀x∈X9 ks k,x<k)(j:∀k,X8 ns k=19->(X9 ks k).length<=1)(g:Nat):∀(l a:List Nat) (c:List Kn) (d:Bool) (s:St),(∀x∈l,x<f/\x<g/\x<ns.length)->(∀x∈l.dropLast,X8 ns x=19)->s.Xj.length=ns.length->(Yd (Xg ns ks f) ns ks l a c d s).Xj.length=ns.length/\(Za (Yd (Xg ns ks f) ns ks l a c d s)↔Za s/\Cl.clP (a.map (Xi ns)) (c.map Prod.fst) d (l.map (take ns ks B g)))
 | [],a,c,d,s,_,_,hs=>⟨by rw[Yd];exact hs,by rw[Yd,Yc];exact⟨fun h=>⟨h,DW _ _ _⟩,fun h=>h.1⟩⟩
 | [x],a,c,d,s,hl,_,hs=>by
  obtain⟨C,D,n⟩:=hl x (by simp);obtain⟨v,A⟩:=t g x c s C D n hs;rw[Yd,Xu,Yc,Iq,A];exact⟨v,fun h=>⟨h.1,h.2,fun e=>absurd rfl e,DW _ _ _⟩,fun h=>⟨h.1,h.2.1⟩⟩
 | p::q::r,a,c,d,s,hl,h19,hs=>by
  obtain⟨C,D,n⟩:=hl p (by simp);obtain⟨v,A⟩:=Xex t m j g p a c d s C D n (h19 p (by simp)) hs;obtain⟨F,H⟩:=C5 t m j g (q::r) (a++[p]) (c++[(Xi ns p,p)]) (d||!decide ((X9 ks p).length=0)) _ (fun y E=>hl y (DC _ E)) (fun y E=>h19 y (by rw[SL];exact DC _ E)) v;obtain⟨g,rfl⟩:∃K,g=K+1:=⟨g-1,by omega⟩;have I:(take ns ks B (g+1) p).x.text=Xi ns p:=Tr.Df n;have J:(!(take ns ks B (g+1) p).ks.isEmpty)=!decide ((X9 ks p).length=0):=by
   show(!((X9 ks p).map _).isEmpty)=_;cases X9 ks p<;>simp
  rw[Yd];refine⟨F,?_⟩;rw[H,A,Xu (l:=q::r),Iq,I,J,ZO,ZO];simp only[Xu,Yc,ne_eq,reduceCtorEq,Eh,forall_const];exact⟨fun⟨⟨x,y,z⟩,u⟩=>⟨x,y,z,u⟩,fun⟨x,y,z,u⟩=>⟨⟨x,y,z⟩,u⟩⟩
theorem X6w(t:∀k,∀x∈X9 ks k,x<k)(u:∀k,X8 ns k=19->(X9 ks k).length<=1)(v:∀k,X8 ns k=15\/X8 ns k=20->∀x∈(X9 ks k).dropLast,X8 ns x=19):∀f,CAt ns ks B f:=by
 intro f;induction f with
 | zero=>intro g k n s h;omega
 | succ f A=>
  intro g k n s Q S D m;obtain⟨g,rfl⟩:∃J,g=J+1:=⟨g-1,by omega⟩;have q:∀x∈X9 ks k,x<f/\x<g/\x<ns.length:=fun x K=>by have:=t k x K;omega
  rw[Xg,take_succ,Vx,Tr.Ul D,Tr.Df D];by_cases z:X8 ns k=5
  .rw[X3 z,X3 z,←Tr.CR];unfold K9;cases V:XE (Xi ns k) n with
   | some a=>exact⟨m,fun h=>⟨h,.inl ⟨a,rfl⟩⟩,fun h=>h.1⟩
   | none=>
    simp only[reduceCtorEq,exists_false,false_or];split
    .rename_i C;exact⟨m,fun h=>⟨h,C⟩,fun h=>h.1⟩
    .rename_i C;exact⟨by rw[I3];exact m,fun h=>absurd h (LI (by decide) (by omega)),fun h=>absurd h.2 C⟩
  rw[X2 z,X2 z];by_cases j:X8 ns k=23
  .rw[X3 j,X3 j];exact⟨m,fun h=>⟨h,trivial⟩,fun h=>h.1⟩
  rw[X2 j,X2 j];by_cases c:X8 ns k=15\/X8 ns k=20
  .rw[X3 c,X3 c];exact C5 A t u g _ [] n false s q (v k c) m
  rw[X2 c,X2 c];by_cases d:X8 ns k=14\/X8 ns k=16
  .rw[X3 d,X3 d];generalize X9 ks k=l at q;cases l with
   | nil=>rw[KS,Yc];exact⟨m,fun h=>⟨h,PE _ _⟩,fun h=>h.1⟩
   | cons x r=>
    obtain⟨M,N,P⟩:=q x (by simp);obtain⟨E,F⟩:=A g x n s M N P m;obtain⟨H,I⟩:=PZ A g (n++[(Xi ns k,k)]) r _ (fun y L=>q y (by simp[L])) E;rw[KS,Xu,Io];refine⟨H,?_⟩;rw[I,F,ZO,LP];rfl
  .rw[X2 d,X2 d,Wa];exact PZ A g n _ s q m
theorem E9:∀(c:List Nat) (a:List Kn) (s:St),(∀x∈c,x<ns.length)->s.Xj.length=ns.length->(Zu ns c a s).1.map Prod.fst=a.map Prod.fst++c.map (Xi ns)/\(Zu ns c a s).2.Xj.length=ns.length/\(Za (Zu ns c a s).2↔Za s/\ND (a.map Prod.fst) (c.map (Xi ns)))
 | [],a,s,_,hs=>by rw[Zu];exact⟨by simp,hs,fun h=>⟨h,trivial⟩,fun h=>h.1⟩
 | x::r,a,s,hm,hs=>by
  have q:=hm x (by simp);obtain⟨g,j⟩:=Tr.M9 (fun p:Kn=>p.1=Xi ns x) x a s (by omega);have n:Qo ns x a s=a.foldl (fun s p=>if p.1=Xi ns x then Xq x 8 s else s) s:=rfl;rw[←n]at g j;obtain⟨k,l,m⟩:=E9 r (a++[(Xi ns x,x)]) (Qo ns x a s) (fun y d=>hm y (by simp[d])) (g.trans hs);rw[Zu];refine⟨by rw[k];simp,l,?_⟩;rw[m,j,ZO,Xu,LP];have:(∀y∈a,¬y.1=Xi ns x)↔Xi ns x∉a.map Prod.fst:=by
   rw[Zq];exact⟨fun h ⟨y,d,e⟩=>h y d e,fun h y d e=>h ⟨y,d,e⟩⟩
  rw[this];rfl
theorem X6q(u:∀k (h:k<ns.length),ns[k].kids=(X9 ks k).length):∀{b e:Nat} {l:List Nat},Tr.Cov ks b l e->e<=ns.length->∀g,(∀x∈l,x<g)->XP.giveL (l.map (take ns ks B g))=(ns.drop b).take (e-b):=by
 intro b e l h;induction h using Tr.Cov.ind with
 | nil b=>intro _ g _;simp[XP.giveL]
 | @cons b x e r h1 h2 ih1 ih2=>
  intro t g q;have D:=q x (by simp);have E:=h1.le;have l2:=h2.le;obtain⟨d,rfl⟩:∃d,g=d+1:=⟨g-1,by omega⟩;have v:=ih1 (by omega) d (fun y m=>by have:=h1.mem m;omega);have z:=ih2 t (d+1) (fun y m=>q y (by simp[m]));have c:x<ns.length:=by omega
  have s:({Tr.Q1 ns x with kids:=(((X9 ks x).map (take ns ks B d)).length:Int)}:Nd)=ns[x]:=by
   have:Tr.Q1 ns x=ns[x]:=by unfold Tr.Q1;rw[YH c];rfl
   rw[this,Z9,←u x c]
  rw[Xu,UT,take_succ,G7,s,v,z];have n:ns.drop b=(ns.drop b).take (x-b)++ns[x]::ns.drop (x+1):=by
   have a:=(Vh (x-b) (ns.drop b)).symm;rw[GM,show b+(x-b)=x by omega,Zp c]at a;exact a
  have j:((ns.drop b).take (x-b)).length=x-b:=by rw[YM,YA];omega
  generalize C:(ns.drop b).take (x-b)=A at n j⊢;rw[n,show e-b=A.length+(1+(e-(x+1))) by omega,List.take_length_add_append,VV 1,UE,Jo];rfl
end
theorem CH:∀(r:List Nd) (i:Nat) (op:List Nat),(Xv r i op).2≠none->∀j (h:j<r.length),r[j].kids=(X9 (Xv r i op).1 j).length
 | [],_,_,_,j,h=>by cases h
 | x::r,i,op,hn,j,h=>by
  rw[Xv]at hn⊢;by_cases a:x.kids<0\/(op.length:Int)<x.kids
  .rw[X3 a]at hn;exact absurd rfl hn
  .rw[X2 a]at hn⊢;cases j with
   | zero=>show x.kids=(((op.drop (op.length-x.kids.toNat)).length:Nat):Int);rw[YA];omega
   | succ j=>exact CH r _ _ hn j (by simpa using h)
theorem Cg{ns:List Nd}(l:YS ns=true)(B:List Int):XP (take ns (Xc ns) B ns.length (ns.length-1))=ns:=by
 obtain⟨g,j,a,_⟩:=JL l;obtain⟨c,_⟩:=Az a;have d:∀k (h:k<ns.length),ns[k].kids=(X9 (Xc ns) k).length:=by
  refine CH ns 0 [] fun e=>?_;unfold Kk at a;rw[e]at a;cases a
 have:=X6q (B:=B) d (.cons c (.nil _)) (by omega) ns.length (fun x m=>by rw[QZ.1 m];omega);rw[Xu,Yc,UT,show ns.length-1+1-0=ns.length by omega,Qm,JG]at this;simpa[XP.giveL]using this
theorem C0{ns:List Nd}(v:YS ns=true)(B:List Int):Zb ns=true↔FC (take ns (Xc ns) B ns.length (ns.length-1)):=by
 obtain⟨H,I,_,_⟩:=JL v;obtain⟨j,s,_,a⟩:=LL v;have t:∀x∈Yn ns (Xc ns) (X9 (Xc ns) (ns.length-1)),x<ns.length:=by
  intro x d;unfold Yn at d;obtain⟨z,K,c⟩:=GR.1 d;unfold Ja at c;split at c
  .rw[QZ.1 c];exact a _ _ K
  .split at c
   .exact a _ _ c
   .cases c
 obtain⟨A,C,D⟩:=E9 (ns:=ns) _ [] (K8 ns.length) t (by simp[K8]);obtain⟨M,E⟩:=X6w (B:=B) j.lt j.one j.par ns.length ns.length (ns.length-1) (Zu ns (Yn ns (Xc ns) (X9 (Xc ns) (ns.length-1))) [] (K8 ns.length)).1 _ (by omega) (by omega) (by omega) C;have e:(Yn ns (Xc ns) (X9 (Xc ns) (ns.length-1))).map (Xi ns)=(take ns (Xc ns) B ns.length (ns.length-1)).ks.flatMap Ju:=by
  obtain⟨m,t⟩:∃m,ns.length=m+1:=⟨ns.length-1,by omega⟩;rw[show take ns (Xc ns) B ns.length (ns.length-1)=take ns (Xc ns) B (m+1) (ns.length-1) by rw[t],take_succ];show _=((X9 (Xc ns) (ns.length-1)).map (take ns (Xc ns) B m)).flatMap Ju;rw[SN];unfold Yn;rw[List.map_flatMap];have q:∀x∈X9 (Xc ns) (ns.length-1),x<m:=fun x d=>by have:=j.lt _ x d;omega
  generalize X9 (Xc ns) (ns.length-1)=l at q;induction l with
  | nil=>rfl
  | cons x r L=>
   rw[GO,GO,L (fun y J=>q y (by simp[J]))];congr 1;have d:=q x (by simp);have g:x<ns.length:=by omega
   obtain⟨n,u⟩:∃n,m=n+1:=⟨m-1,by omega⟩;unfold Ja Ju;rw[(VJ _ _ _ _ _).1,Tr.Ul g,Tr.Df g];split
   .rfl
   .split
    .rw[u,take_succ];show _=((X9 (Xc ns) x).map (take ns (Xc ns) B n)).map _;rw[Wz];refine JF fun k F=>?_;show _=(take ns (Xc ns) B n k).x.text;rw[(VJ _ _ _ _ _).1,Tr.Df (a _ _ F)]
    .rfl
 unfold FC;rw[←e];unfold Zb Yi;rw[X3 v,JP,Aj];show Za (QC ns (Xc ns))↔_;unfold QC;rw[E,D,A];simp only[Yc,UD,TR,Le]
theorem X6j{O:FOp}(z:Uy O)(D:Cs O){l:List Nd}(r:∀x∈l,x.n<9223372036854775808)(k:Zb l=true):Zb (ZX O l)=true/\(ZX O l).length<=l.length:=by
 have m:=DO k;obtain⟨F,H,_,_⟩:=JL m;obtain⟨a,c,v⟩:=PV k r;have s:=(C0 m (Yl l)).1 k;have g:=Cg m (Yl l);have e:ZX O l=XP (fold O l.length (take l (Xc l) (Yl l) l.length (l.length-1))):=by unfold ZX;rw[X3 k]
 rw[e];generalize take l (Xc l) (Yl l) l.length (l.length-1)=t at *;have hi:=Pj l;rw[m]at hi;unfold Kj at hi;rw[XD,←g,CC]at hi;have y:t.VF=true:=by
  cases h:t.VF
  .rw[h]at hi;cases hi.2
  .rfl
 rw[X3 y]at hi;have j:=hi.2;unfold UI at j;simp only[XD,M7]at j;have E:t.hi<=50:=j.2;obtain⟨J,A,_⟩:=Lj z l.length t y c;have C:=X4x z D l.length y c a s;have sz:=size_fold O l.length t;have q:=a.1;have I:=(A.o (by omega)).1;have K:=A.hi;generalize fold O l.length t=u at *;have L:=Cf _ u (X4 _);have d:YS (XP u)=true:=by
  rw[←Pj];unfold Kj;rw[CC,X3 J,XD];refine⟨YJ (by omega),?_⟩;unfold UI;simp only[XD,M7,JP,Mm,I,q,Le];show u.hi<=50;omega
 refine⟨?_,by omega⟩;rw[C0 d [],BN,Y2p (Cg d []),←BN];exact C
end Fd
