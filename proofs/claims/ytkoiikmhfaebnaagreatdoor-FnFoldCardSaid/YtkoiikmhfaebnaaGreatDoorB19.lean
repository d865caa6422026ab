import Derived.Test.YtkoiikmhfaebnaaGreatDoorB15
set_option maxHeartbeats 16000000
set_option maxRecDepth 100000
namespace Go.Proofs.YtkoiikmhfaebnaaGreatDoor
open Tryz Go.RowKit
variable (gb rb:Nat) (vb:Value) (n:Nat)
theorem Kb[LB]{w:World}{B size g c m:Nat}{e:TypeId}{a:List Value}(h:w.ownsRow B e size (.slice (some ⟨g,0,none⟩) m c) m a){j:Nat}{u:Value}(d:a[j]?=some u):w.cell? ⟨g,j,none⟩=some u:=by
 have:=h.cells rfl j u d
 rwa[Ye,Xn]at this
structure CV [LB] (gb rb:Nat) (vb:Value) (n:Nat) (W:World) (bx:Nat) (X:List Value) (pv:Value) (ps:List Int) (sv:Value) (ls:List (List Nd)) (L:NL) (q k:Nat) (w:World):Prop where
 b:GB gb rb vb n W L q k w
 p:PW W.heap.size w sv ls
 x:w.ownsRow 0 296 4 (.slice (some ⟨bx,0,none⟩) 1 1) 1 X
 y:w.ownsRow 0 3 1 pv ps.length (ps.map (Value.int .i64))
section
variable {gb rb n bx q k q' k':Nat} {vb pv sv:Value} {X:List Value} {ps:List Int} {W w w':World} {ls:List (List Nd)} {L L':NL}
theorem CV.at[LB](B:CV gb rb vb n W bx X pv ps sv ls L q k w):GB gb rb vb n w L q k w:=⟨B.b.g,.refl w,B.b.n⟩
theorem CV.st[LB](B:CV gb rb vb n W bx X pv ps sv ls L q k w)(h:GB gb rb vb n w L' q' k' w'):CV gb rb vb n W bx X pv ps sv ls L' q' k' w':=⟨⟨h.g,B.b.t.trans h.t,h.n⟩,B.p.ty h.t,YL B.x h.t (by unfold XS;simp),YL B.y h.t (by unfold XS;simp)⟩
theorem CV.be[LB](B:CV gb rb vb n W bx X pv ps sv ls L q k w)(h:BL w w'):CV gb rb vb n W bx X pv ps sv ls L q k w':=B.st ⟨B.b.g.below h,.of h,B.b.n.ty (.of h)⟩
theorem CV.ap[LB]{O:Obj}{u v':Value}{l:List Nd}{d:List Value}(B:CV gb rb vb n W bx X pv ps sv ls ((u,l)::L) q k w)(c:rb<W.heap.size)(j:w.ownsRow W.heap.size 23 1 sv ls.length d)(m:∀i (h:i<ls.length),∃u,d[i]?=some u/\NR w u ls[i]/\0<ls[i].length)(v:w'.ownsRow W.heap.size 23 1 v' (ls.length+1) (d++[u]))(r:(w.alloc O).grownBy w' sv.ownBlock):CV gb rb vb n W bx X pv ps v' (ls++[l]) [] q k w':=by
 obtain⟨s,a⟩:=Gj j m B.b.n.1.1 B.b.n.1.2 v r;exact⟨⟨a.gn B.b.g c,a.tyM B.b.t (X4 _),trivial⟩,s,a.row B.x (by decide),a.row B.y (by decide)⟩
end
theorem X1x[LB](d kd:Nat)(HE:EAt gb rb vb n d kd)(h6:kd<=1000000):SG gb rb vb n d kd:=fun q k kind w h hq hk=>by
 obtain⟨iP,hP,d8,d7,d6⟩:=Yk Ga
 have i2:IntKind.i64.wrap (d:Int)=(d:Int):=by rw[Yt];omega
 have c0:=h.c0
 have e8:=h.up
 have b3:=h.lt
 obtain⟨v,m,ys,f1,f2,f3,f4⟩:=h.fn
 obtain⟨vp,vc,rfl⟩:=XQ f2
 have g9:=h.ty
 obtain⟨p0,h8,b4⟩:=h.R
 have b5:=b4.ty
 have HP:=X1 ((Xfd gb rb vb n h (by omega) m (by omega)))
 have a0:=X1 f2
 have a1:=X1 f4
 have HE:=X1 HE
 clear f2 f4 h b4
 go_enter func211,ntmps211
 go_wp2_with fail
 refine HP.o.mono ?_
 rintro e w1⟨z,hz,rfl,a8,b6,j0,I⟩
 have e2:=I gb b3 (by omega)
 have M:=(Xy (a:=⟨gb,2,none⟩) e2).trans f1
 have d0:=X1 (KK a0.o (fun b H ht=>I b H (fun e=>by rw[e,b5]at ht;cases ht)))
 have b9:=X1 (a1.o.XH (fun b H ht=>I b H (fun e=>by rw[e,b5]at ht;cases ht)))
 have c8:=X1 a8
 have d5:=X1 b6
 have a2:=X1 M
 clear a8 b6 HP c0 f1 I a0 a1 M
 go_wp2_with fail
 go_loopw[10] (fun t wr=>∃(i:Nat),i<=m/\t= .int .i64 i/\Gn gb rb vb n (q+1) k wr/\Ty w wr/\wr.cell? ⟨gb,2,none⟩=some (.slice vp m vc)/\wr.ownsRow (rb+1) 296 4 (.slice vp m vc) m ys/\FnC wr ys m) (fun t _=>m-(intOf t).toNat)
 case atStart=>exact⟨0,X6 _,rfl,c8.o,d5.o,a2.o,d0.o,b9.o⟩
 case round=>
  obtain⟨i,hi,rfl,V,hT,n1,n2,n3⟩:=hrel
  by_cases f7:i<m
  .obtain⟨g,f0⟩:∃g,vp=some ⟨g,0,none⟩:=by
    rcases n2.2 with⟨_,h0⟩|⟨g,c,_,h2,_⟩
    .omega
    .cases h2;exact⟨g,rfl⟩
   subst f0;have e0:(z+i)%m<m:=WB _ (by omega);have e1:((z:Int)+(i:Int))%(m:Int)=(((z+i)%m:Nat):Int):=by simp
   have g5:((z:Int)+(i:Int)).tmod (m:Int)=(((z+i)%m:Nat):Int):=by rw[Dw (by omega)];exact e1
   have e3:IntKind.i64.wrap ((z:Int)+(i:Int))=(z:Int)+(i:Int):=by rw[Yt];omega
   have h3:¬m=0:=by omega
   generalize(z+i)%m=x at *;obtain⟨s,pv,ps,f,K,y1,y2,y3,y4,y5,y6,y7,y8⟩:=n3 x e0;obtain⟨E,J,D⟩:=XQ y5;subst D;have d1:=Kb n2 y1;have d2:=Kb n2 y2;have d3:=Kb n2 y3;have d4:=Kb n2 y4;have bx:=(X5 wr.heap.size wr).alloc (X4 _) (.cells #[.string ⟨#[]⟩,.slice none 0 0,.int .i64 0,.int .i64 0] 296);have r:=(n2.lt g rfl).2;have j1:=(bx.cell (p:=⟨gb,2,none⟩) V.lt).trans n1;have g0:=(bx.cell (p:=⟨g,x*4,none⟩) r).trans d1;have g2:=(bx.cell (p:=⟨g,x*4+1,none⟩) r).trans d2;have g3:=(bx.cell (p:=⟨g,x*4+2,none⟩) r).trans d3;have g4:=(bx.cell (p:=⟨g,x*4+3,none⟩) r).trans d4;have N:BL wr (wr.alloc (.cells #[.string s,.slice E ps.length J,.int .i64 f,.int .i64 K] 296)).drew:=(bA _).drew;have P:=X1 (V.below N);have A:=X1 (hT.trans (.of N));have a4:=X1 ((N.cell (p:=⟨gb,2,none⟩) V.lt).trans n1);have a5:=X1 (KK n2 (fun b H _=>N.block b H));have a6:=X1 (n3.XH (fun b H _=>N.block b H));have a3:=X1 (KK y5 (fun b H _=>N.block b H));have F:Hid ((wr.alloc (.cells #[.string s,.slice E ps.length J,.int .i64 f,.int .i64 K] 296)).drew.ownsRow 0 296 4 (.slice (some ⟨wr.heap.size,0,none⟩) 1 1) 1 [.string s,.slice E ps.length J,.int .i64 f,.int .i64 K]):=X1 (XV (base:=0) (e:=296) (size:=4) wr #[.string s,.slice E ps.length J,.int .i64 f,.int .i64 K] 1 (X6 _) (by unfold maxLen;omega) rfl);clear V hT n2 n3 y1 y2 y3 y4 y5 bx N;by_cases b0:K=kind
   .subst b0;go_wp2_with fail;go_region;all_goals
     generalize a7:(wr.alloc (.cells #[.string s,.slice E ps.length J,.int .i64 f,.int .i64 K] 296)).drew=w9 at *;have i1:wr.heap.size<w9.heap.size:=by rw[←a7];simp
     have i5:w.heap.size<=w9.heap.size:=A.o.size;have h9:rb<w.heap.size:=GU e8 b3;generalize wr.heap.size=bx at *;have x0:=Kb F.o (j:=0) rfl;have x3:=Kb F.o (j:=3) rfl;clear a7;go_wp2_with fail;refine((GB.mk P.o A.o trivial:GB gb rb vb n w [] (q+1) k w9).g.B0.mo (MC _ _)).mono ?_;rintro e w1⟨M,c1,S,rfl,Q,f9,l⟩;have B:CV gb rb vb n w bx [.string s,.slice E ps.length J,.int .i64 f,.int .i64 K] (.slice E ps.length J) ps _ [S] [] (q+1) k (w1.alloc (.cells #[.slice (some ⟨M,0,none⟩) S.length c1] 23)):=⟨⟨(l.al _).g,A.o.trans (l.al _).t,trivial⟩,PW.one l.n.1.1 l.n.1.2 (by have:=l.t.size;omega),YL F.o (l.al _).t (by unfold XS;simp),YL a3.o (l.al _).t (by unfold XS;simp)⟩;have x1:=Kb B.x (j:=1) rfl;have x2:=Kb B.x (j:=2) rfl;have c0:=B.b.g.c0;clear l P A F a3 a4 a5 a6;by_cases hf:0<f;rotate_left;focus
      go_wp2_with fail;obtain⟨C,d9⟩:∃C:Int,C=ps.length:=⟨_,rfl⟩;rw[←d9];have r:-1000000000<=C/\C<=3/\C<=ps.length:=by omega
     rotate_left;focus
      have Bd:=B.be (X5 _ _).drew;have i3:IntKind.i64.wrap (f+1)=f+1:=by rw[Yt];omega
      go_wp2_with fail;go_region_law(refine KL rfl 23 (.tmp 62) (.tmp 65) _ _ rfl (.pointer (some ⟨rb,0,none⟩)) (.int .i64 (f+1)) (by first|(simp[Act.eval];done)|simp[Act.eval,Act.put]) (by first|(simp[Act.eval];done)|simp[Act.eval,Act.put]) f23 func23 (by kernel_rfl) (by kernel_rfl) _ (Dh gb rb vb n Bd.b.g (by omega) (f+1) (by omega) (by omega)) ?_;intro v4 w4 h4;obtain⟨Y,i9,e9,a9,b7⟩:=h4;subst e9);all_goals
       have B:=Bd.st (L':=[]) ⟨a9,b7,trivial⟩;have c0:=B.b.g.c0;have x1:=Kb B.x (j:=1) rfl;clear a9 b7 Bd;have f5:IntKind.i64.wrap ((ps.length:Int)-(Y:Int))=(ps.length:Int)-(Y:Int):=by rw[Yt];omega
       go_wp2_with fail;have r:-1000000000<=(ps.length:Int)-(Y:Int)/\(ps.length:Int)-(Y:Int)<=3/\(ps.length:Int)-(Y:Int)<=ps.length:=by omega
       generalize(ps.length:Int)-(Y:Int)=C at r⊢;clear f5
     all_goals
      refine(B.at.pk 2 (by omega)).mono ?_;rintro e w1⟨z2,i8,rfl,c0,l⟩;have B:=B.st l;clear l;go_wp2_with fail;go_loopw[12,15,16] (fun sv tv uv wr=>∃(j:Nat) (ls:List (List Nd)),j<=3/\tv= .int .i64 j/\ls.length=j+1/\ls.flatten.length<=1+j*(kd+1)/\CV gb rb vb n w bx [.string s,.slice E ps.length J,.int .i64 f,.int .i64 K] (.slice E ps.length J) ps sv ls [] (q+8+j*kd) k wr) (fun _ t _ _=>(C-intOf t).toNat)
      case atStart=>exact⟨0,_,X6 _,rfl,rfl,by rw[fl1];omega,⟨B.b.up (by omega),B.p,B.x,B.y⟩⟩
      case round=>
       obtain⟨j,ls,e5,rfl,b2,g8,B⟩:=hrel;have h1:j*kd<=3*kd:=DH _ e5;have f6:j*(kd+1)=j*kd+j:=by rw[Nat.mul_add,DI]
       have h7:ls.length<=4:=by omega
       have c9:=X1 b2;clear b2;by_cases hj:(j:Int)<C
       .have e6:j<ps.length:=by omega
        obtain⟨py,e7⟩:∃g,E=some ⟨g,0,none⟩:=by
         rcases B.y.2 with⟨_,h0⟩|⟨g,c,_,h2,_⟩
         .omega
         .cases h2;exact⟨g,rfl⟩
        subst e7;have i6:=Kb B.x (j:=1) rfl;have i7:=Kb B.y (j:=j) (u:= .int .i64 ps[j]) (by rw[Vf,YH e6];rfl);generalize ps[j]=pj at *;go_wp2_with fail;refine(B.at.e HE.o (by omega)).mono ?_;rintro e w1⟨M,c1,S,rfl,Q,c0,l⟩;have B:=B.st l;clear l;have i4:IntKind.i64.wrap (C-(z2:Int))=C-(z2:Int):=by rw[Yt];omega
        by_cases g6:C-(z2:Int)<=(j:Int);rotate_left;rotate_left;focus
         have Z:=X1 (fun w0=>DZ j w0 (by omega));have g7:=DL j;generalize KC j=dc at *;have f8:(⟨dc.toArray⟩:ByteArray).size<=100:=by show dc.toArray.size<=_;simp;omega
         go_wp2_with fail;refine(Z.o _).mono ?_;rintro e w1⟨rfl,b1⟩;have B:=B.be b1;clear b1 Z;go_wp2_with fail;refine(B.at.o1 ⟨18,0,0,_,0⟩ (by omega) ⟨by first|omega|(rw[JA];show 1+_<=_;omega),n0⟩).mono ?_;rintro e w1⟨M,c1,S,rfl,Q,c0,l⟩;have B:=B.st l;clear l
        all_goals
         obtain⟨vs,pv,pw⟩:=B.p;obtain⟨pa,pb,D⟩:=XQ pv;subst D;have i0:=B.b.t.size;have HV:=X1 pv;have HW:=X1 pw;clear pv pw;go_wp2_with(at_builtin;refine Yg _ rfl _ _ 138 rfl (w.heap.size) 23 iP _ 1 24 underlying138 hP d8 d7 d6 rfl (by decide) _ ls.length vs rfl (HV.o.alloc _) ⟨w1.heap.size,0,none⟩ 1 1 [.slice (some ⟨M,0,none⟩) S.length c1] rfl rfl (QD _ [_] _ _ rfl) (by simp[Value.oneCell']) (by unfold maxLen;omega) (by omega) (by simp;omega) ?_);intro v2 w2 ra b8 _ _;have B:=B.ap (by omega) HV.o HW.o ra b8;obtain⟨sp,sc,hs⟩:=XQ ra;subst hs;clear ra b8;go_wp2;go_roundw
         case rel=>exact⟨j+1,_,by omega,by go_num,by rw[Xo,c9.o];rfl,by rw[UA,Xo,fl1];rw[DG,LA];omega,⟨B.b.up (by rw[DG,LA];omega),B.p,B.x,B.y⟩⟩
         case measure=>simp[intOf];omega
       .have HO:=X1 (ZY ⟨12,0,0,⟨#[]⟩,0⟩ ls _ _ (3*kd+10) B.p.pr (by omega) (by omega) (by omega));unfold ndV at HO;obtain⟨vs,pv,_⟩:=B.p;obtain⟨pa,pb,D⟩:=XQ pv;subst D;clear pv;go_wp2_with fail;refine(B.at.mo HO.o).mono ?_;rintro e w1⟨M,c1,S,rfl,Q,c0,l⟩;have B:=B.st l;clear l;go_wp2;go_ret2;exact⟨_,S,true,rfl,fun _=>⟨B.b.n.1.1,B.b.n.1.2,by omega⟩,(fun h=>by cases h),B.b.g.mono (by omega),B.b.t,_,_,_,rfl⟩
   .have h5:(K !=kind)=true:=by simp[b0]
    go_wp2_with fail;go_region;all_goals
     go_wp2;go_roundw
     case rel=>exact⟨i+1,by omega,by go_num,P.o,A.o,a4.o,a5.o,a6.o⟩
     case measure=>simp[intOf];omega
  .have e4:i=m:=by omega
   subst e4;have HG:=X1 V;have HT:=X1 hT;clear V hT n1 n2 n3;go_wp2;go_ret2;exact⟨_,[],false,rfl,(fun h=>by cases h),fun _=>HG.o.below (bA _),(HG.o.below (bA _)).mono (by omega),HT.o.trans (.of (bA _)),_,_,_,rfl⟩
end Go.Proofs.YtkoiikmhfaebnaaGreatDoor
namespace Go.Proofs.YtkoiikmhfaebnaaGreatDoor
open Tryz
namespace Fd
def nd:Fd->Nd | .mk x _ _ ks=>{x with kids:=ks.length}
def hi:Fd->Nat
 | .mk _ _ _ ks=>hiL ks 0
 where
 hiL:List Fd->Nat->Nat
 | [],h=>h
 | t::r,h=>hiL r (if h<t.hi+1 then t.hi+1 else h)
theorem ID(x:Nd)(p b:Int)(ks:List Fd):(Fd.mk x p b ks).hi=hi.hiL ks 0:=by rw[hi]
def gr(t:Fd):Gr:=⟨t.nd,t.hi⟩
theorem Mm(t:Fd):t.gr.nd.kind=t.x.kind:=by cases t;rfl
theorem Co(t:Fd):t.gr.nd.text=t.x.text:=by cases t;rfl
theorem Cv:∀(l:List Fd) (h:Nat),hi.hiL l h=Zr (l.map gr) h
 | [],h=>by rw[hi.hiL];rfl
 | t::r,h=>by rw[hi.hiL,Cv r];rfl
theorem Cu{F:Fd->Fd}:∀(l:List Fd) (g h:Nat),(∀t∈l,(F t).hi<=t.hi)->g<=h->hi.hiL (l.map F) g<=hi.hiL l h
 | [],g,h,_,e=>by rw[Yc,hi.hiL,hi.hiL];exact e
 | t::r,g,h,H,e=>by
  have:=H t (by simp);rw[Xu,hi.hiL,hi.hiL];exact Cu r _ _ (fun y a=>H y (by simp[a])) (by split<;>split<;>omega)
theorem Ct:∀(l:List Fd) (h:Nat),h<=hi.hiL l h/\∀t∈l,t.hi<hi.hiL l h
 | [],h=>by rw[hi.hiL];exact⟨X4 _,fun _ h=>by cases h⟩
 | t::r,h=>by
  rw[hi.hiL];obtain⟨a,b⟩:=Ct r (if h<t.hi+1 then t.hi+1 else h);refine⟨by split at a<;>split<;>omega,fun y c=>?_⟩
  rcases Y6.1 c with rfl|c
  .split at a<;>split<;>omega
  .exact b y c
theorem X7k{x:Nd}{p b:Int}{ks:List Fd}{k:Fd}(h:k∈ks):k.hi<(Fd.mk x p b ks).hi:=by rw[ID];exact(Ct ks 0).2 k h
def VF:Fd->Bool
 | .mk x _ _ ks=>Kw {x with kids:=ks.length} (ks.map gr)&&vfL ks
 where
 vfL:List Fd->Bool
 | []=>true
 | t::r=>t.VF&&vfL r
theorem FM:∀l:List Fd,VF.vfL l=true↔∀t∈l,t.VF=true
 | []=>by simp[VF.vfL]
 | t::r=>by simp[VF.vfL,FM r]
theorem FO(x:Nd)(p b:Int)(ks:List Fd):(Fd.mk x p b ks).VF=(Kw {x with kids:=ks.length} (ks.map gr)&&VF.vfL ks):=by rw[VF]
theorem Va(x:Nd)(p b:Int)(ks:List Fd):(Fd.mk x p b ks).VF=true↔Kw {x with kids:=ks.length} (ks.map gr)=true/\∀t∈ks,t.VF=true:=by rw[FO,XD,FM]
theorem X9d:∀(n:Nat) (y:Fd),y.size<=n->∀(r:List Nd) (op:List Gr),ZS (XP y++r) op=if y.VF=true then ZS r (op++[y.gr])else none:=by
 intro n;induction n with
 | zero=>intro y a;have:=size_pos y;omega
 | succ n q=>
  intro y a r op;obtain⟨x,p,b,ks⟩:=y;rw[Zi]at a;have k:∀t∈ks,t.size<=n:=fun t m=>by have:=Ql m;omega
  have d:∀(l:List Fd),(∀t∈l,t.size<=n)->∀r op,ZS (XP.giveL l++r) op=if VF.vfL l=true then ZS r (op++l.map gr)else none:=by
   intro l;induction l with
   | nil=>intro _ r op;simp[XP.giveL,VF.vfL]
   | cons t l c=>
    intro g r op;rw[UT,Jo,q t (g t (by simp)),VF.vfL];cases t.VF
    .simp
    .simp only[J2,VO,Xu];rw[c (fun y a=>g y (by simp[a])),Jo];rfl
  rw[G7,Jo,d ks k,FO];cases VF.vfL ks
  .simp
  .simp only[J2,Bool.and_true,List.singleton_append];have j:¬((ks.length:Int)<0\/((op++ks.map gr).length:Int)<(ks.length:Int)):=by rw[Xo,Z9];omega
   rw[ZS,X2 j,Xo,Z9,show((ks.length:Int)).toNat=ks.length from rfl,Lx,List.drop_left,List.take_left];rw[←Cv,←ID x p b ks];rfl
theorem CC(y:Fd):ZS (XP y) []=if y.VF=true then some [y.gr]else none:=by
 have:=X9d _ y (X4 _) [] [];rw[VS]at this;rw[this];rfl
structure Lk (t u:Fd):Prop where
 hi:u.hi<=t.hi
 e:1<=t.x.kind/\t.x.kind<=16->1<=u.x.kind/\u.x.kind<=16
 o:¬(1<=t.x.kind/\t.x.kind<=16)->u.x=t.x/\(u.ks=[]↔t.ks=[])
theorem Lk.refl(t:Fd):Lk t t:=⟨X4 _,id,fun _=>⟨rfl,Iff.rfl⟩⟩
theorem Lk.trans{t u v:Fd}(h:Lk t u)(g:Lk u v):Lk t v:=
 ⟨XO g.hi h.hi,fun e=>g.e (h.e e),fun o=>by
  obtain⟨a,b⟩:=h.o o;obtain⟨c,d⟩:=g.o (by rw[a];exact o);exact⟨c.trans a,d.trans b⟩⟩
theorem JQ(a b:Int)(l:List Fd):XY a b (l.map gr)=true↔∀t∈l,a<=t.x.kind/\t.x.kind<=b:=by
 simp[XY,Mm]
theorem Lk.btw{F:Fd->Fd}{l:List Fd}(H:∀t∈l,Lk t (F t)){a b:Int}(h:XY a b (l.map gr)=true)(c:a=1/\b=16\/17<=a):XY a b ((l.map F).map gr)=true:=by
 rw[JQ]at h⊢;intro u j;obtain⟨t,d,rfl⟩:=Zq.1 j;have g:=h t d;rcases c with⟨rfl,rfl⟩|k
 .exact(H t d).e g
 .rw[((H t d).o (by omega)).1];exact g
theorem Lk.dif{F:Fd->Fd}{l:List Fd}(H:∀t∈l,Lk t (F t)){a b:Int}(h:XY a b (l.map gr)=true)(j:17<=a)(d:Qn (l.map gr)=true):Qn ((l.map F).map gr)=true:=by
 rw[JQ]at h;have e:((l.map F).map gr).map (fun g=>g.nd.text)=(l.map gr).map (fun g=>g.nd.text):=by
  rw[Wz,Wz,Wz];refine JF fun t c=>?_;show(F t).gr.nd.text=t.gr.nd.text;rw[Co,Co,((H t c).o (by have:=h t c;omega)).1]
 unfold Qn at *;rw[e];exact d
theorem Lk.plainN{F:Fd->Fd}{l:List Fd}(H:∀t∈l,Lk t (F t)):Kl ((l.map F).map gr)=Kl (l.map gr):=by
 unfold Kl;rw[←QB,←QB,←QB];congr 1;have c:∀t∈l.drop 1,Lk t (F t):=fun t a=>H t (KQ a);generalize l.drop 1=r at c;induction r with
 | nil=>rfl
 | cons t r d=>
  have d:=d fun y g=>c y (by simp[g]);have a:=c t (by simp);have e:((F t).gr.nd.kind !=18)=(t.gr.nd.kind !=18):=by
   rw[Mm,Mm];by_cases h:1<=t.x.kind/\t.x.kind<=16
   .have j:=a.e h;rw[Y5,LX,LX];omega
   .rw[(a.o h).1]
  rw[Xu,Xu,Xu,DF,DF,e];split
  .rw[Ya,Ya,d]
  .rfl
theorem Lk.fits{F:Fd->Fd}{l:List Fd}(H:∀t∈l,Lk t (F t)){k:Int}(r:k≠23)(h:YE k (l.map gr)=true):YE k ((l.map F).map gr)=true:=by
 unfold YE at h⊢;have m:∀n,∀t∈l.take n,Lk t (F t):=fun n t j=>H t (UC j);have g:∀n,∀t∈l.drop n,Lk t (F t):=fun n t j=>H t (KQ j);by_cases q:k=9
 .rw[X3 q,XD]at h⊢;exact⟨Lk.btw H h.1 (.inr (by decide)),Lk.dif H h.1 (by decide) h.2⟩
 rw[X2 q]at h⊢;by_cases a:k=12
 .rw[X3 a,XD,XD]at h⊢;rw[Lk.plainN H];generalize Kl (l.map gr)=n at h⊢;rw[←J7,←QB]at h;rw[←J7,←QB,←J7,←QB];exact⟨⟨Lk.btw (m n) h.1.1 (.inl ⟨rfl,rfl⟩),Lk.btw (g n) h.1.2 (.inr (by decide))⟩,Lk.dif (g n) h.1.2 (by decide) h.2⟩
 rw[X2 a]at h⊢;by_cases c:k=15\/k=20
 .rw[X3 c,XD]at h⊢;rw[Z9]at h;rw[Z9,Z9];rw[←J7,←QB]at h;rw[←J7,←QB,←J7,←QB];exact⟨Lk.btw (m _) h.1 (.inr (by decide)),Lk.btw (g _) h.2 (.inl ⟨rfl,rfl⟩)⟩
 rw[X2 c,X2 r]at h⊢;by_cases d:k=24
 .rw[X3 d]at h⊢;exact Lk.btw H h (.inr (by decide))
 .rw[X2 d]at h⊢;exact Lk.btw H h (.inl ⟨rfl,rfl⟩)
theorem Lk.node{F:Fd->Fd}{x:Nd}{p b:Int}{l:List Fd}(H:∀t∈l,Lk t (F t))(d:∀t∈l,(F t).VF=true)(g:x.kind≠23)(h:(Fd.mk x p b l).VF=true):(Fd.mk x p b (l.map F)).VF=true/\Lk (.mk x p b l) (.mk x p b (l.map F)):=by
 refine⟨(Va _ _ _ _).2 ⟨?_,fun u j=>?_⟩,?_,id,fun _=>⟨rfl,?_⟩⟩
 .have a:=((Va _ _ _ _).1 h).1;unfold Kw at a⊢;rw[XD]at a⊢;rw[Z9];exact⟨a.1,Lk.fits H g a.2⟩
 .obtain⟨t,c,rfl⟩:=Zq.1 j;exact d t c
 .rw[ID,ID];exact Cu l 0 0 (fun t c=>(H t c).hi) (X4 _)
 .show l.map F=[]↔l=[];simp
theorem X5r{k:Int}{l:List Fd}(h:YE k (l.map gr)=true)(j:k<20):∀t∈l,t.x.kind<20:=by
 unfold YE at h;intro t a;by_cases g:k=9
 .rw[X3 g,XD,JQ]at h;have:=h.1 t a;omega
 rw[X2 g]at h;by_cases c:k=12
 .rw[X3 c,XD,XD]at h;generalize Kl (l.map gr)=n at h;rw[←J7,←QB,JQ,JQ]at h;rw[←Vh n l,K7]at a;rcases a with a|a
  .have:=h.1.1 t a;omega
  .have:=h.1.2 t a;omega
 rw[X2 c]at h;by_cases d:k=15\/k=20
 .rw[X3 d,XD]at h;generalize(l.map gr).length-1=n at h;rw[←J7,←QB,JQ,JQ]at h;rw[←Vh n l,K7]at a;rcases a with a|a
  .have:=h.1 t a;omega
  .have:=h.2 t a;omega
 rw[X2 d,X2 (by omega),X2 (by omega),JQ]at h;have:=h t a;omega
theorem PU{k:Int}{l:List Fd}(h:YE k (l.map gr)=true)(a:k=6\/k=7\/k=13\/k=14):∀t∈l,1<=t.x.kind/\t.x.kind<=16:=by
 unfold YE at h;rw[X2 (by omega),X2 (by omega),X2 (by omega),X2 (by omega),X2 (by omega),JQ]at h;exact h
theorem GA{x:Nd}{p b:Int}{l:List Fd}(h:(Fd.mk x p b l).VF=true):YE x.kind (l.map gr)=true:=by
 have a:=((Va _ _ _ _).1 h).1;unfold Kw at a;rw[XD]at a;exact a.2
theorem CN.plain{c:Nd}(h:CN c)(n:Int):Xh {c with kids:=n}=true:=by
 have k:=h.c;unfold isC at k;have l:¬c.kind=4->c.text.toList=[]:=fun e=>by rw[h.text e,VP]
 unfold Xh;have j:¬(!XU c.kind&&!(c.text.toList==[])||(c.kind !=2&&c.kind !=3&&c.n !=0)||(c.kind !=6&&c.kind !=7&&c.op !=0))=true:=by
  simp only[OF,XD,not_or,not_and,OE,LX,ne_eq,Decidable.not_not];refine⟨⟨fun e=>?_,fun e=>h.zero e.1 e.2⟩,fun _=>h.op⟩;rw[l (fun d=>by rw[d]at e;cases e)];simp
 rw[X2 j];show(if c.kind=2 then c.n==0||c.n==1 else if c.kind=3 then decide (0<=c.n)else if c.kind=4\/c.kind=17 then decide ((c.text.size:Int)<=1000)else if c.kind=6 then Xl c.op 1 2 else if c.kind=7 then Xl c.op 1 14 else if c.kind=23 then Uc c.text else !XU c.kind||KT c.text)=true;by_cases a:c.kind=2
 .rw[X3 a];simpa using h.bit a
 rw[X2 a];by_cases g:c.kind=3
 .rw[X3 g];exact YJ h.n0
 rw[X2 g];by_cases d:c.kind=4
 .rw[X3 (.inl d)];have:=h.long;exact YJ (by omega)
 rw[X2 (by omega),X2 (by omega),X2 (by omega),X2 (by omega),show c.kind=1 by omega];rfl
theorem FP{c:Nd}(h:CN c):(one c).VF=true/\(one c).hi=0:=by
 have a:=h.c;unfold isC at a;refine⟨?_,by rw[one,ID,hi.hiL]⟩;rw[one,Va];refine⟨?_,fun t h=>by cases h⟩;unfold Kw;rw[h.plain,VO,XD];refine⟨?_,?_⟩
 .show Qb c.kind 0=true;unfold Qb;rw[X3 (by omega)];rfl
 .show YE c.kind []=true;unfold YE;rw[X2 (by omega),X2 (by omega),X2 (by omega),X2 (by omega),X2 (by omega)];rfl
theorem FQ(m:Int){c:Nd}(l:CN c):∀(n:Nat) (y:Fd),y.size<=n->y.VF=true->y.x.kind<20->(Yr m c y).VF=true/\Lk y (Yr m c y):=by
 intro n;induction n with
 | zero=>intro y s;have:=size_pos y;omega
 | succ n u=>
  intro y s k A;obtain⟨x,p,b,ks⟩:=y;rw[Zi]at s;have r:∀t∈ks,t.size<=n:=fun t a=>by have:=Ql a;omega
  have d:=((Va _ _ _ _).1 k).2;have q:=X5r (GA k) A;rw[Up];by_cases j:x.kind=5/\b=m
  .rw[X3 j];obtain⟨v,z⟩:=FP l;have g:=l.c;unfold isC at g;have B:(Fd.mk x p b ks).x.kind=5:=j.1;exact⟨v,by show(one c).hi<=_;rw[z];omega,fun _=>⟨g.1,Int.le_trans g.2 (by decide)⟩,fun o=>absurd (by omega) o⟩
  .rw[X2 j];have B:(Fd.mk x p b ks).x.kind=x.kind:=rfl;exact Lk.node (fun t a=>(u t (r t a) (d t a) (q t a)).2) (fun t a=>(u t (r t a) (d t a) (q t a)).1) (by omega) k
theorem Lj{O:FOp}(F:Uy O):∀(f:Nat) (y:Fd),y.VF=true->Good y->(fold O f y).VF=true/\Lk y (fold O f y)/\(y.x.kind=5->fold O f y=y):=by
 intro f;induction f with
 | zero=>intro y h _;exact⟨h,.refl _,fun _=>rfl⟩
 | succ f D=>
  intro y C Y;obtain⟨x,p,b,ks⟩:=y;obtain⟨H,g⟩:=(Jb _ _ _ _).1 Y;have n:=((Va _ _ _ _).1 C).2;have a:∀t∈ks.map (fold O f),Good t:=fun u Z=>by
   obtain⟨t,d,rfl⟩:=Zq.1 Z;exact UX F f t (g t d)
  have N:(Fd.mk x p b (ks.map (fold O f))).VF=true/\Lk (.mk x p b ks) (.mk x p b (ks.map (fold O f))):=by
   by_cases s:x.kind=23
   .have L:=GA C;rw[s]at L;have v:=(JQ 5 5 ks).1 L;rw[show ks.map (fold O f)=ks from(JF fun t d=>(D t (n t d) (g t d)).2.2 (by have:=v t d;omega)).trans (DB _)];exact⟨C,.refl _⟩
   .exact Lk.node (fun t d=>(D t (n t d) (g t d)).2.1) (fun t d=>(D t (n t d) (g t d)).1) s C
  rw[fold_succ];obtain⟨K,M⟩:=N;have A:=GA K;have I:=((Va _ _ _ _).1 K).2;have kid:x.kind=6\/x.kind=7\/x.kind=13\/x.kind=14->∀k∈ks.map (fold O f),k.VF=true/\Lk (.mk x p b ks) k:=fun J k j=>by
   have W:=PU A J k j;have h2:=X7k (x:=x) (p:=p) (b:=b) j;have h3:=M.hi;exact⟨I k j,by omega,fun _=>W,fun o=>absurd (show 1<=x.kind/\x.kind<=16 by omega) o⟩
  have r:∀c,CN c->1<=x.kind/\x.kind<=16->(one c).VF=true/\Lk (.mk x p b ks) (one c):=fun c q J=>by
   obtain⟨P,Q⟩:=FP q;have E:=q.c;unfold isC at E;exact⟨P,by rw[Q];omega,fun _=>⟨E.1,Int.le_trans E.2 (by decide)⟩,fun o=>absurd J o⟩
  rw[←LP];refine⟨?_,fun v=>?_⟩
  .refine Iz O (fold O f) x p b _ (fun t=>t.VF=true/\Lk (.mk x p b ks) t) ⟨K,M⟩ ?_ ?_ ?_ ?_ ?_
   .intro h k c e j q;exact r c (F.un _ _ _ ((a k (by rw[e];simp)).const j).1 q) (by omega)
   .intro h k l e _;exact kid (by omega) k (by rw[e];simp)
   .intro h k l c e j B q;exact r c (F.bin _ _ _ _ ((a k (by rw[e];simp)).const j).1 ((a l (by rw[e];simp)).const B).1 q) (by omega)
   .intro h k l m e _;exact⟨kid (by omega) l (by rw[e];simp),kid (by omega) m (by rw[e];simp)⟩
   .intro h k l e j;have B:l∈ks.map (fold O f):=by rw[e];simp
    have z:=((a k (by rw[e];simp)).const j).1;obtain⟨S,V⟩:=kid (by omega) l B;have X:=PU A (by omega) l B;obtain⟨r1,r2⟩:=FQ p z _ l (X4 _) S (by omega);obtain⟨s1,s2,_⟩:=D _ r1 (IC p z _ l (X4 _) (a l B));exact⟨s1,(V.trans r2).trans s2⟩
  .have v:x.kind=5:=v;rw[G4 _ _ _ _ _ _ (by omega) (by omega) (by omega) (by omega),H.name v];rfl
end Fd
