import Derived.Test.YtkoiikmhfaebnaaGreatDoorB08
import Derived.Test.YtkoiikmhfaebnaaGreatDoorB12
set_option maxHeartbeats 4000000
set_option maxRecDepth 100000
namespace Go.Proofs.YtkoiikmhfaebnaaGreatDoor
open Tryz Go.RowKit
def KB(w:World):Type:={x:World // Below w.heap.size w x}
def KB.w{w:World}(q:KB w):World:=q.1
theorem KB.below{w:World}(q:KB w):Below w.heap.size w q.w:=q.2
theorem VB{P:Program}{f:FuncId}{a:Array Value}{r:Value}{w:World}(h:∀w1,BL w w1->Calls P f a w1 fun e w'=>e= .returned r/\BL w1 w')(q:KB w): Calls P f a q.w fun e c=>e= .returned r/\∃q':KB w,c=q'.w:=(h q.w q.2).mono fun _ g d=>⟨d.1,⟨⟨g,q.2.trans (d.2.mono q.2.size)⟩,rfl⟩⟩
theorem KJ{w w1:World}{base:Nat}{e:TypeId}{size:Nat}{v:Value}{n:Nat}{c:List Value}(h:w.ownsRow base e size v n c)(a:BL w w1):w1.ownsRow base e size v n c:=by
 have d:w.grownBy w1 none:=⟨a.os,a.tape,a.output,a.size,fun k g _=>a.block k g⟩;refine h.kept d ?_;cases j:v.ownBlock with
 | none=>exact .inl rfl
 | some k=>exact .inr (by simp)
def YR(hs:List Nat):List Nat->Nat->Nat
 | [],h=>h
 | x::r,h=>YR hs r (if h<hs[x]?.getD 0+1 then hs[x]?.getD 0+1 else h)
def Qq(ns:List Nd):List (Nd × List Nat)->List Nat->Bool
 | [],_=>true
 | (d,k)::r,hs=>!decide (50<YR hs k 0)&&Xh d&&XA ns d.kind k&&Qq ns r (hs++[YR hs k 0])
def WL(ns:List Nd):Int:=match ns.getLast? with
 | some d=>d.kind
 | none=>0
def YS(ns:List Nd):Bool:=Xl ns.length 1 5000&&(WL ns==24)&&Kk ns&&Qq ns (ns.zip (Xc ns)) []
theorem NO(a ls:List Nat)(j h:Nat)(c:j<ls.length)(d:ls[j]<a.length):YR a (ls.drop j) h=YR a (ls.drop (j+1)) (if h<a[ls[j]]+1 then a[ls[j]]+1 else h):=by
 rw[Zp c,YR];simp[d]
theorem TW(ns:List Nd)(ks:List (List Nat))(i:Nat)(a:List Nat)(c:i<ns.length)(d:i<ks.length): Qq ns ((ns.zip ks).drop i) a=(!decide (50<YR a ks[i] 0)&&Xh ns[i]&&XA ns ns[i].kind ks[i]&&Qq ns ((ns.zip ks).drop (i+1)) (a++[YR a ks[i] 0])):=by
 rw[Zp (by simp;omega),SS];rfl
theorem FL(ns:List Nd)(C tc:Nat)(w:World)(hn:ns.length<=1048576)(ht:Yw w C ns): Calls prog 73 #[.agg #[.slice (some ⟨C,0,none⟩) ns.length tc]] w fun e w'=>e= .returned (.bool (YS ns))/\Below w.heap.size w w':=by
 obtain⟨iI,hI,d9,d8,d7⟩:=Yk WZ;have r1:BL w (w.alloc (.cells #[.slice (some ⟨C,0,none⟩) ns.length tc] 25)):=bA _;have HT:=X1 ht;cases V:Xl ns.length 1 5000
 .have L:Hid (YS ns=false):=X1 (by simp[YS,V]);clear ht;go_enter func73,ntmps73;go_wp2_with(go_at_call 82;refine(Zw _ _ _ _).mono ?_;rintro e w'⟨rfl,rfl⟩);go_ret;exact⟨Xf L.o.symm,r1⟩
 .obtain⟨f7,f8⟩:=Ua V;obtain⟨m,X⟩:∃m,ns.length=m+1:=⟨ns.length-1,by omega⟩;obtain⟨a0,_⟩:=ht.2 m (by omega);have b4:=X1 (show WL ns=(ns[m]'(by omega)).kind by
   have e:ns.getLast?=some (ns[m]'(by omega)):=by rw[P0,show ns.length-1=m from by omega,YH (by omega)]
   unfold WL;rw[e])
  rw[X]at r1;have a1:=(r1.cell (p:=⟨C,m*5,none⟩) ht.1).trans a0;clear ht a0;generalize(ns[m]'(by omega)).kind=lk at *;have e4:Xl ((m:Int)+1) 1 5000=true:=by rw[←V,X];rfl
  cases hk:(lk !=24)
  .have b5:Hid (WL ns=24):=X1 (by simp at hk;rw[b4.o,hk]);have a9:=X1 r1;cases a4:Kk ns
   .have L:Hid (YS ns=false):=X1 (by simp[YS,a4]);go_enter func73,ntmps73;go_wp2_with(first|(go_at_call 82;refine(Zw _ _ _ _).mono ?_;rintro e w'⟨rfl,rfl⟩)|(go_at_call 17;rw[←X];refine(Mt ns C tc _ hn (by have:=HT.o.below a9.o;rwa[←X]at this)).mono ?_;rintro e w1⟨g4,c4,vs,rfl,H,c,j⟩;rw[X,Xb]at j H c));go_ret;exact⟨Xf L.o.symm,r1.trans (j.mono (UF _))⟩
   .have e1:=Vn a4;have L:Hid (YS ns=Qq ns (ns.zip (Xc ns)) []):=X1 (by simp[YS,a4,b5.o,V]);have d2:=X1 (WJ ns);have d3:=X1 e1;go_enter func73,ntmps73;go_wp2_with(first|(go_at_call 82;refine(Zw _ _ _ _).mono ?_;rintro e w'⟨rfl,rfl⟩)|(go_at_call 17;rw[←X];refine(Mt ns C tc _ hn (by have:=HT.o.below a9.o;rwa[←X]at this)).mono ?_;rintro e w1⟨g4,c4,vs,rfl,H,c,j⟩;rw[X,Xb]at j H c));have b2:Hid (BL w w1):=X1 (r1.trans (j.mono (UF _)));have D:=X1 H;have d4:=X1 c;have Z:w1.cell? ⟨w.heap.size,0,none⟩=some (.slice (some ⟨C,0,none⟩) (m+1) tc):=(j.cell (p:=⟨w.heap.size,0,none⟩) (XI _)).trans (by simp);have Q:w.heap.size<w1.heap.size:=Xd (by simp) j.size;have c8:=X1 Z;clear c H j Z a1;go_wp2
    go_loopw[6,7] (fun v6 t wr=>∃(i:Nat) (l:List Nat) (g6 c6:Nat),i<=m+1/\t= .int .i64 i/\v6= .slice (some ⟨g6,0,none⟩) i c6/\l.length=i/\wr.ownsRow w1.heap.size 3 1 (.slice (some ⟨g6,0,none⟩) i c6) i (l.map YW)/\BL w1 wr/\(∀x∈l,x<=50)/\
      Qq ns (ns.zip (Xc ns)) []=Qq ns ((ns.zip (Xc ns)).drop i) l) (fun _ t _=>m+1-(intOf t).toNat)
    case atStart=>
     refine⟨0,[],w1.heap.size,0,X6 _,rfl,rfl,rfl,?_,?_,(fun x h=>by cases h),rfl⟩
     .exact XV (base:=w1.heap.size) (e:=3) (size:=1) w1 #[] 0 (X4 _) (X6 _) rfl
     .exact bA _
    case round=>
     obtain⟨i,l,g6,c6,e8,rfl,rfl,e7,a5,hB,b6,he⟩:=hrel;have HE:=X1 he;have a8:=X1 b6;clear he b6;by_cases e9:i<m+1
     .have S:i<(Xc ns).length:=by have:=d3.o;omega
      obtain⟨gi,ci,hv,_,_,_,v,e0⟩:=d4.o.2 i S;have b3:=X1 (d2.o i S);have b9:=Ao ns i S;have d5:=(hB.cell (p:=⟨g4,i,none⟩) (Qx D.o).2.2).trans ((D.o.cellAt i (by omega)).trans hv);have d0:=X1 (v.below hB);have HV:=X1 (TW ns (Xc ns) i l (by omega) S);have c9:=X1 ((D.o.cellAt i (by omega)).trans hv);have d1:=X1 v;clear hv v;generalize(Xc ns)[i]=ls at *;obtain⟨_,e3,e5⟩:=Qx a5;go_wp2;go_loop[8,9] (fun a b=>∃k h:Nat,k<=ls.length/\b= .int .i64 k/\a= .int .i64 h/\h<=51/\YR l (ls.drop k) h=YR l ls 0) (fun _ b=>ls.length-(intOf b).toNat)
      case atStart=>exact⟨0,0,X6 _,rfl,rfl,by omega,by rw[Qm]⟩
      case round=>
       obtain⟨k,h,hk,rfl,rfl,hh,b8⟩:=hrel;have HM:=X1 b8;clear b8;by_cases a2:k<ls.length
       .have b0:=d0.o.2 k a2;rw[Xn]at b0;have K:ls[k]<l.length:=by have:=b3.o ls[k] (XR _);omega
        have b1:wr.cell? ⟨g6,ls[k],none⟩=some (.int .i64 l[ls[k]]):=by rw[a5.cellAt ls[k] (by omega)];simp[K,YW]
        have HN:=X1 (NO l ls k h a2 K);have hy:=a8.o l[ls[k]] (XR _);generalize l[ls[k]]=y at *;generalize ls[k]=x at *;by_cases hc:(h:Int)<(y:Int)+1
        .go_wp2;go_round
         case rel=>exact⟨k+1,y+1,by omega,by go_num,by go_num,by omega,by rw[←HM.o,HN.o,X3 (by omega)]⟩
         case measure=>simp[intOf];omega
        .go_wp2;go_round
         case rel=>exact⟨k+1,h,by omega,by go_num,rfl,by omega,by rw[←HM.o,HN.o,X2 (by omega)]⟩
         case measure=>simp[intOf];omega
       .have HH:=X1 (show YR l ls 0=h by rw[←HM.o,Yu (by omega)];rfl);have e2:=hB.size;go_wp2_with(at_builtin;refine Yg _ rfl _ _ 55 rfl w1.heap.size 3 iI (.int .i64 0) 1 8 underlying55 hI d9 d8 d7 rfl (by decide) (.slice (some ⟨g6,0,none⟩) i c6) i (l.map YW) rfl (a5.alloc _) ⟨wr.heap.size,0,none⟩ 1 1 [.int .i64 h] rfl rfl (UO _ _ _) (by simp[Value.oneCell']) (by unfold maxLen;omega) (by omega) (by simp;omega) ?_);intro v7 r I A F Y;obtain⟨g7,c7,rfl,e6⟩:=IS I F (by simpa[Value.ownBlock]using Y);have B:BL w1 r:=(hB.alloc e2 _).grown A (by simp;omega) (fun q e=>by simp[Value.ownBlock]at e;omega);clear A F Y d5;have N:BL w r:=b2.o.trans (B.mono (GS Q));have P:=HT.o.below N;obtain⟨n0,n1,n2,n3,n4⟩:=P.2 i (by omega);have x0:=(B.cell (p:=⟨w.heap.size,0,none⟩) Q).trans c8.o;have x1:=(B.cell (p:=⟨g4,i,none⟩) (Qx D.o).2.2).trans c9.o;have a7:=B.size;have J:=P.1;have b7:g4<r.heap.size:=Xd (Qx D.o).2.2 a7;have f0:=fun q:KB r=>(q.below.cell (p:=⟨w.heap.size,0,none⟩) (Xd Q a7)).trans x0;have f1:=fun q:KB r=>(q.below.cell (p:=⟨g4,i,none⟩) b7).trans x1;have f2:=fun q:KB r=>(q.below.cell (p:=⟨C,i*5,none⟩) J).trans n0;have f3:=fun q:KB r=>(q.below.cell (p:=⟨C,i*5+1,none⟩) J).trans n1;have f4:=fun q:KB r=>(q.below.cell (p:=⟨C,i*5+2,none⟩) J).trans n2;have f5:=fun q:KB r=>(q.below.cell (p:=⟨C,i*5+3,none⟩) J).trans n3;have f6:=fun q:KB r=>(q.below.cell (p:=⟨C,i*5+4,none⟩) J).trans n4;have hP:=fun w' (_:BL r w')=>Xfs (ns[i]'(by omega)).kind (ns[i]'(by omega)).op (ns[i]'(by omega)).n (ns[i]'(by omega)).kids (ns[i]'(by omega)).text w';have hKK:=fun w' (hb:BL r w')=>Xab (ns[i]'(by omega)).kind ns ls C tc gi ci w' (by omega) (P.below hb) ((d1.o.below B).below hb) (fun x K=>by have:=b3.o x K;omega) e0;have z:Hid (YS ns=(!decide (50<h)&&Xh (ns[i]'(by omega))&&XA ns (ns[i]'(by omega)).kind ls&&Qq ns ((ns.zip (Xc ns)).drop (i+1)) (l++[h]))):=X1 (by rw[L.o,HE.o,HV.o,HH.o]);clear n0 n1 n2 n3 n4 x0 x1 P HV HE;generalize(ns[i]'(by omega))=d at *;rw[X]at hKK;have HP:=X1 hP;have HK:=X1 hKK;clear hP hKK;haveI hne:Nonempty (KB r):=⟨⟨_,X5 _ _⟩⟩;by_cases d6:50<h
        .go_wp2;have E:(50:Int)<(h:Int):=by omega
         refine JY (KB.w (w:=r)) (by kernel_rfl) (by kernel_rfl) ⟨⟨_,below_drewN (X5 _ _) _⟩,rfl⟩ ?_;repeat(go_big_quiet_step (fail))
         refine wpQuiet_nil ?_;rintro _⟨q,rfl⟩;have g:=q.below;go_wp2;go_ret;refine⟨Xf ?_,N.trans (g.mono (by omega))⟩;rw[z.o];simp[d6]
        .cases hp:Xh d
         .have u:=HP.o;simp only[show Xh ⟨d.kind,d.op,d.n,d.text,d.kids⟩=false from hp]at u;have M:=X1 u;clear u;go_wp2;have E:¬((50:Int)<(h:Int)):=by omega
          refine JY (KB.w (w:=r)) (by kernel_rfl) (by kernel_rfl) ⟨⟨_,below_drewN (X5 _ _) _⟩,rfl⟩ ?_;repeat(go_big_quiet_step ((go_at_call 135;exact VB M.o _)))
          refine wpQuiet_nil ?_;rintro _⟨q,rfl⟩;have g:=q.below;go_wp2;go_ret;refine⟨Xf ?_,N.trans (g.mono (by omega))⟩;rw[z.o,hp];simp
         .have u:=HP.o;simp only[show Xh ⟨d.kind,d.op,d.n,d.text,d.kids⟩=true from hp]at u;have M:=X1 u;clear u;cases W:XA ns d.kind ls
          .have s:=HK.o;simp only[W]at s;have a3:=X1 s;clear s;go_wp2;have E:¬((50:Int)<(h:Int)):=by omega
           refine JY (KB.w (w:=r)) (by kernel_rfl) (by kernel_rfl) ⟨⟨_,below_drewN (X5 _ _) _⟩,rfl⟩ ?_;repeat(go_big_quiet_step (first|(go_at_call 135;exact VB M.o _)|(go_at_call 136;exact VB a3.o _)))
           refine wpQuiet_nil ?_;rintro _⟨q,rfl⟩;have g:=q.below;go_wp2;go_ret;refine⟨Xf ?_,N.trans (g.mono (by omega))⟩;rw[z.o,W];simp
          .have s:=HK.o;simp only[W]at s;have a3:=X1 s;clear s;go_wp2;have E:¬((50:Int)<(h:Int)):=by omega
           refine JY (KB.w (w:=r)) (by kernel_rfl) (by kernel_rfl) ⟨⟨_,below_drewN (X5 _ _) _⟩,rfl⟩ ?_;repeat(go_big_quiet_step (first|(go_at_call 135;exact VB M.o _)|(go_at_call 136;exact VB a3.o _)))
           refine wpQuiet_nil ?_;rintro _⟨q,rfl⟩;have g:=q.below;have a6:=KJ I g;go_wp2;go_roundw
           case rel=>
            refine⟨i+1,l++[h],g7,c7,by omega,by go_num,rfl,by simp;omega,?_,B.trans (g.mono a7),?_,?_⟩
            .rw[ZO];exact a6
            .intro x K;rcases K7.1 K with K|K
             .exact a8.o x K
             .have:x=h:=by simpa using K
              omega
            .rw[←L.o,z.o,hp,W,Yb (by omega)];rfl
           case measure=>simp[intOf];omega
     .go_wp2;go_ret;refine⟨Xf ?_,b2.o.trans (hB.mono (GS Q))⟩;rw[L.o,HE.o,Yu (by simp;omega)];rfl
  .have L:Hid (YS ns=false):=X1 (by simp at hk;simp[YS,b4.o,hk]);go_enter func73,ntmps73;go_wp2_with(go_at_call 82;refine(Zw _ _ _ _).mono ?_;rintro e w'⟨rfl,rfl⟩);go_ret;exact⟨Xf L.o.symm,r1⟩
end Go.Proofs.YtkoiikmhfaebnaaGreatDoor
namespace Go.Proofs.YtkoiikmhfaebnaaGreatDoor
open Tryz
structure FOp where
 un:Int->Nd->Option Nd
 bin:Int->Nd->Nd->Option Nd
namespace Fd
abbrev isC(x:Nd):Prop:=1<=x.kind/\x.kind<=4
abbrev stops(op:Int)(a:Nd):Prop:=a.kind=2/\(op=1/\a.n=1\/op=2/\a.n=0)
def one(c:Nd):Fd:= .mk c (-1) (-1) []
def back(out:Fd):Option Nd->Fd
 | some c=>one c
 | none=>out
def fin(O:FOp)(F:Fd->Fd)(x:Nd)(p b:Int)(ks:List Fd):Fd:=
 if x.kind=6 then(match ks with
  | [k]=>if isC k.x then back (.mk x p b ks) (O.un x.op k.x)else .mk x p b ks
  | _=> .mk x p b ks)
 else if x.kind=7 then(match ks with
  | [k,l]=>if stops x.op k.x then k else if isC k.x/\isC l.x then back (.mk x p b ks) (O.bin x.op k.x l.x)else .mk x p b ks
  | _=> .mk x p b ks)
 else if x.kind=13 then(match ks with
  | [k,l,m]=>if k.x.kind=2 then(if k.x.n=1 then l else m)else .mk x p b ks
  | _=> .mk x p b ks)
 else if x.kind=14 then(match ks with
  | [k,l]=>if isC k.x then F (Yr p k.x l)else .mk x p b ks
  | _=> .mk x p b ks)
 else .mk x p b ks
def fold(O:FOp):Nat->Fd->Fd
 | 0,t=>t
 | f+1,.mk x p b ks=>fin O (fold O f) x p b (ks.map (fold O f))
theorem fold_succ(O:FOp)(f:Nat)(x:Nd)(p b:Int)(ks:List Fd):fold O (f+1) (.mk x p b ks)=fin O (fold O f) x p b (ks.map (fold O f)):=rfl
theorem G4(O:FOp)(F:Fd->Fd)(x:Nd)(p b:Int)(ks:List Fd)(d:x.kind≠6)(g:x.kind≠7)(a:x.kind≠13)(c:x.kind≠14):fin O F x p b ks= .mk x p b ks:=by
 unfold fin;rw[X2 d,X2 g,X2 a,X2 c]
theorem Iz(O:FOp)(F:Fd->Fd)(x:Nd)(p b:Int)(ks:List Fd)(C:Fd->Prop)(a:C (.mk x p b ks))(g:x.kind=6->∀k c,ks=[k]->isC k.x->O.un x.op k.x=some c->C (one c))(j:x.kind=7->∀k l,ks=[k,l]->stops x.op k.x->C k)(n:x.kind=7->∀k l c,ks=[k,l]->isC k.x->isC l.x->O.bin x.op k.x l.x=some c->C (one c))(q:x.kind=13->∀k l m,ks=[k,l,m]->k.x.kind=2->C l/\C m)(r:x.kind=14->∀k l,ks=[k,l]->isC k.x->C (F (Yr p k.x l))):C (fin O F x p b ks):=by
 unfold fin;split
 .rename_i h;split
  .rename_i k;split
   .rename_i d;cases e:O.un x.op k.x with
    | none=>exact a
    | some c=>exact g h k c rfl d e
   .exact a
  .exact a
 .split
  .rename_i h;split
   .rename_i k l;split
    .rename_i t;exact j h k l rfl t
    .split
     .rename_i d;cases e:O.bin x.op k.x l.x with
      | none=>exact a
      | some c=>exact n h k l c rfl d.1 d.2 e
     .exact a
   .exact a
  .split
   .rename_i h;split
    .rename_i k l m;split
     .rename_i s;have:=q h k l m rfl s;split
      .exact this.1
      .exact this.2
     .exact a
    .exact a
   .split
    .rename_i h;split
     .rename_i k l;split
      .rename_i d;exact r h k l rfl d
      .exact a
     .exact a
    .exact a
structure CN (x:Nd):Prop where
 c:isC x
 op:x.op=0
 n0:0<=x.n
 n1:x.n<9223372036854775808
 bit:x.kind=2->x.n=0\/x.n=1
 zero:x.kind≠2->x.kind≠3->x.n=0
 text:x.kind≠4->x.text=⟨#[]⟩
 long:x.text.size<=1000
structure Loc (x:Nd) (ks:List Fd):Prop where
 c:isC x->CN x/\ks=[]
 name:x.kind=5->ks=[]
 un:x.kind=6->ks.length=1/\1<=x.op/\x.op<=2
 bin:x.kind=7->ks.length=2/\1<=x.op/\x.op<=14
 choice:x.kind=13->ks.length=3
 bind:x.kind=14->ks.length=2
 fn:x.kind=15->0<ks.length
 each:x.kind=16->0<ks.length
 low:1<=x.kind
 high:x.kind<=24
def Good:Fd->Prop
 | .mk x _ _ ks=>Loc x ks/\goodL ks
 where
 goodL:List Fd->Prop
 | []=>True
 | t::r=>Good t/\goodL r
theorem X6y(l:List Fd):Good.goodL l↔∀t∈l,Good t:=by
 induction l with
 | nil=>simp[Good.goodL]
 | cons t r a=>simp[Good.goodL,a]
theorem Jb(x:Nd)(p b:Int)(ks:List Fd):Good (.mk x p b ks)↔Loc x ks/\∀t∈ks,Good t:=by rw[Good,X6y]
theorem Loc.len{x:Nd}{ks ls:List Fd}(h:Loc x ks)(a:ls.length=ks.length):Loc x ls:=by
 have d:ks=[]->ls=[]:=fun e=>by rw[e]at a;exact JC a
 exact⟨fun c=>⟨(h.c c).1,d (h.c c).2⟩,fun c=>d (h.name c),fun c=>a ▸ h.un c,fun c=>a ▸ h.bin c,fun c=>a ▸ h.choice c,fun c=>a ▸ h.bind c,fun c=>a ▸ h.fn c,fun c=>a ▸ h.each c,h.low,h.high⟩
theorem R8{c:Nd}(h:CN c):Good (one c):=by
 have:=h.c;unfold isC at this;rw[one,Jb];exact⟨⟨fun _=>⟨h,rfl⟩,fun e=>by omega,fun e=>by omega,fun e=>by omega,fun e=>by omega,fun e=>by omega,fun e=>by omega,fun e=>by omega,by omega,by omega⟩,fun t a=>by cases a⟩
theorem Good.const{t:Fd}(h:Good t)(a:isC t.x):CN t.x/\t.ks=[]:=by
 cases t;exact((Jb _ _ _ _).1 h).1.c a
theorem IC(m:Int){c:Nd}(g:CN c):∀(n:Nat) (y:Fd),y.size<=n->Good y->Good (Yr m c y):=by
 intro n;induction n with
 | zero=>intro y d;have:=size_pos y;omega
 | succ n k=>
  intro y d h;obtain⟨x,p,b,ks⟩:=y;rw[Zi]at d;rw[Up];rw[Jb]at h;split
  .exact R8 g
  .rw[Jb];refine⟨h.1.len (by simp),fun t j=>?_⟩;obtain⟨u,a,rfl⟩:=Zq.1 j;exact k u (by have:=Ql a;omega) (h.2 u a)
theorem Ob{F:Fd->Fd}:∀(l:List Fd),(∀t∈l,(F t).size<=t.size)->YP (l.map F)<=YP l
 | [],_=>by simp
 | t::r,h=>by
  have c:=h t (by simp);have d:=Ob r (fun y a=>h y (by simp[a]));rw[Xu,Qk,Qk];omega
theorem Sd(m:Int)(c:Nd):∀(n:Nat) (y:Fd),y.size<=n->(Yr m c y).size<=y.size:=by
 intro n;induction n with
 | zero=>intro y a;have:=size_pos y;omega
 | succ n g=>
  intro y a;obtain⟨x,p,b,ks⟩:=y;rw[Up];split
  .rw[Zi,Zi,Gs];omega
  .rw[Zi]at a;rw[Zi,Zi];have:=Ob (F:=Yr m c) ks (fun t d=>g t (by have:=Ql d;omega));omega
theorem size_fold(O:FOp):∀(f:Nat) (y:Fd),(fold O f y).size<=y.size:=by
 intro f;induction f with
 | zero=>intro y;exact X4 _
 | succ f d=>
  intro y;obtain⟨x,p,b,ks⟩:=y;rw[fold_succ,Zi];have a:=Ob (F:=fold O f) ks (fun t _=>d t);generalize ks.map (fold O f)=ls at a;refine Iz O (fold O f) x p b ls (fun t=>t.size<=1+YP ks) (by rw[Zi];omega) ?_ ?_ ?_ ?_ ?_
  .intro _ k c _ _ _;rw[one,Zi,Gs];omega
  .rintro _ k l rfl _;rw[Qk]at a;omega
  .intro _ k l c _ _ _ _;rw[one,Zi,Gs];omega
  .rintro _ k l m rfl _;rw[Qk,Qk,Qk]at a;exact⟨by omega,by omega⟩
  .rintro _ k l rfl _;rw[Qk,Qk]at a;have g:=d (Yr p k.x l);have j:=Sd p k.x _ l (X4 _);omega
structure Uy (O:FOp):Prop where
 un:∀op k c,CN k->O.un op k=some c->CN c
 bin:∀op k l c,CN k->CN l->O.bin op k l=some c->CN c
theorem UX{O:FOp}(g:Uy O):∀(f:Nat) (y:Fd),Good y->Good (fold O f y):=by
 intro f;induction f with
 | zero=>intro y h;exact h
 | succ f n=>
  intro y h;obtain⟨x,p,b,ks⟩:=y;rw[Jb]at h;rw[fold_succ];have j:Loc x (ks.map (fold O f)):=h.1.len (by simp);have a:∀t∈ks.map (fold O f),Good t:=fun t r=>by
   obtain⟨u,s,rfl⟩:=Zq.1 r;exact n u (h.2 u s)
  generalize ks.map (fold O f)=ls at a j;refine Iz O (fold O f) x p b ls Good ((Jb _ _ _ _).2 ⟨j,a⟩) ?_ ?_ ?_ ?_ ?_
  .rintro _ k c rfl d e;exact R8 (g.un _ _ _ ((a k (by simp)).const d).1 e)
  .rintro _ k l rfl _;exact a k (by simp)
  .rintro _ k l c rfl d q e;exact R8 (g.bin _ _ _ _ ((a k (by simp)).const d).1 ((a l (by simp)).const q).1 e)
  .rintro _ k l m rfl _;exact⟨a l (by simp),a m (by simp)⟩
  .rintro _ k l rfl d;exact n _ (IC p ((a k (by simp)).const d).1 _ l (X4 _) (a l (by simp)))
theorem ok_one(e:ByteArray->Int)(U:Int->Prop){c:Nd}(h:isC c):Ok e U (one c):=by
 unfold isC at h;rw[one,QI,X2 (by omega),X2 (by omega),X2 (by omega)];exact⟨by omega,(J3 _ _ _).2 fun t a=>by cases a⟩
theorem FH{e a:ByteArray->Int}{m:Int}(d:∀s,e s≠m->e s=a s)(t:ByteArray)(z:Int)(s:ByteArray)(c:upd e t z s≠m):upd e t z s=upd a t z s:=by
 by_cases h:s=t
 .subst h;rw[Uv,Uv]
 .rw[JZ e z h,JZ a z h];rw[JZ e z h]at c;exact d s c
theorem Ea{U c:Int->Prop}(a:∀z,c z->U z)(z y:Int)(h:more c z y):more U z y:=h.elim (fun h=> .inl (a _ h)) .inr
theorem Er(m:Int){c:Nd}(Z:isC c):∀(n:Nat) (y:Fd),y.size<=n->∀(e j:ByteArray->Int) (U g:Int->Prop),Ok e U y->(∀s,e s≠m->e s=j s)->U m->(∀z,g z->U z)->Ok j g (Yr m c y):=by
 intro n;induction n with
 | zero=>intro y P;have:=size_pos y;omega
 | succ n K=>
  intro y P e j U g d A C a;obtain⟨x,p,b,ks⟩:=y;rw[Zi]at P;have D:∀t∈ks,t.size<=n:=fun t E=>by have:=Ql E;omega
  rw[Up];rw[QI]at d;by_cases q:x.kind=5
  .rw[X3 q]at d;obtain⟨W,hk⟩:=d;by_cases v:b=m
   .rw[X3 ⟨q,v⟩];exact ok_one j g Z
   .have n2:¬(x.kind=5/\b=m):=fun h=>v h.2;rw[X2 n2,QI,X3 q,hk];exact⟨by rw[W];exact A _ (by rw[←W];exact v),rfl⟩
  .have n2:¬(x.kind=5/\b=m):=fun h=>q h.1;rw[X2 n2,QI,X2 q];rw[X2 q]at d;by_cases k:x.kind=14\/x.kind=16
   .rw[X3 k]at d⊢;obtain⟨hp,Y⟩:=d;refine⟨fun h=>hp (a _ h),?_⟩;cases ks with
    | nil=>exact RG _ _ _ _
    | cons y r=>
     obtain⟨M,I⟩:=(Ji _ _ _ _ _ _).1 Y;rw[Xu];refine(Ji _ _ _ _ _ _).2 ⟨K y (D y (by simp)) e j U g M A C a,fun t E=>?_⟩;obtain⟨u,F,rfl⟩:=Zq.1 E;exact K u (D u (by simp[F])) _ _ _ _ (I u F) (FH A _ _) (.inl C) (Ea a p)
   .rw[X2 k]at d⊢;by_cases l:x.kind=15
    .rw[X3 l]at d⊢;clear P k l q n2;induction ks generalizing e j U g with
     | nil=>exact Gg _ _
     | cons y r Q=>
      obtain⟨M,I,X⟩:=(JW _ _ _ _).1 d;rw[Xu];refine(JW _ _ _ _).2 ⟨K y (D y (by simp)) e j U g M A C a,?_,?_⟩
      .intro J;have N:r≠[]:=fun h=>J (by rw[h];rfl);obtain⟨L,V⟩:=I N;obtain⟨H,p',b',S⟩:=y;have B:H.kind=19:=L;have n3:¬(H.kind=5/\b'=m):=by omega
       rw[Up,X2 n3];exact⟨B,fun h=>V (a _ h)⟩
      .by_cases J:r=[]
       .subst J;exact Gg _ _
       .obtain⟨L,V⟩:=I J;obtain⟨H,p',b',S⟩:=y;have B:H.kind=19:=L;have n3:¬(H.kind=5/\b'=m):=by omega
        rw[Up,X2 n3];exact Q _ _ _ _ (FH A _ _) (.inl C) (Ea a _) X (fun z hz=>D z (by simp[hz]))
    .rw[X2 l]at d⊢;have hl:=(J3 _ _ _).1 d.2;refine⟨d.1,(J3 _ _ _).2 fun t E=>?_⟩;obtain⟨u,F,rfl⟩:=Zq.1 E;exact K u (D u F) e j U g (hl u F) A C a
theorem C7(O:FOp)(f:Nat)(t:Fd)(h:t.x.kind=19):(fold O f t).x=t.x/\(fold O f t).p=t.p:=by
 obtain⟨x,p,b,ks⟩:=t;have a:x.kind=19:=h;cases f with
 | zero=>exact⟨rfl,rfl⟩
 | succ f=>rw[fold_succ,G4 O _ _ _ _ _ (by omega) (by omega) (by omega) (by omega)];exact⟨rfl,rfl⟩
theorem RI{O:FOp}(X:∀op k c,O.un op k=some c->isC c)(W:∀op k l c,O.bin op k l=some c->isC c):∀(f:Nat) (y:Fd) (e:ByteArray->Int) (U:Int->Prop),Ok e U y->(∀s,U (e s))->Ok e U (fold O f y):=by
 intro f;induction f with
 | zero=>intro y e U h _;exact h
 | succ f B=>
  intro y e U d j;obtain⟨x,p,b,ks⟩:=y;rw[fold_succ];have n:∀(t:ByteArray) (z:Int) (e:ByteArray->Int) (U:Int->Prop),(∀s,U (e s))->∀s,more U z (upd e t z s):=by
   intro t z e U j s;by_cases h:s=t
   .subst h;rw[Uv];exact .inr rfl
   .rw[JZ e z h];exact .inl (j s)
  have g:Ok e U (.mk x p b (ks.map (fold O f))):=by
   rw[QI]at d⊢;by_cases H:x.kind=5
   .rw[X3 H]at d⊢;exact⟨d.1,by rw[d.2];rfl⟩
   .rw[X2 H]at d⊢;by_cases q:x.kind=14\/x.kind=16
    .rw[X3 q]at d⊢;refine⟨d.1,?_⟩;cases ks with
     | nil=>exact RG _ _ _ _
     | cons y r=>
      obtain⟨D,A⟩:=(Ji _ _ _ _ _ _).1 d.2;rw[Xu];refine(Ji _ _ _ _ _ _).2 ⟨B y e U D j,fun t J=>?_⟩;obtain⟨u,K,rfl⟩:=Zq.1 J;exact B u _ _ (A u K) (n _ _ e U j)
    .rw[X2 q]at d⊢;by_cases v:x.kind=15
     .rw[X3 v]at d⊢;clear q v H;induction ks generalizing e U with
      | nil=>exact Gg _ _
      | cons y r L=>
       obtain⟨D,A,V⟩:=(JW _ _ _ _).1 d;rw[Xu];refine(JW _ _ _ _).2 ⟨B y e U D j,?_,?_⟩
       .intro E;have I:r≠[]:=fun h=>E (by rw[h];rfl);obtain⟨C,P⟩:=A I;obtain⟨M,N⟩:=C7 O f y C;rw[M,N];exact⟨C,P⟩
       .by_cases E:r=[]
        .subst E;exact Gg _ _
        .obtain⟨C,P⟩:=A E;obtain⟨M,N⟩:=C7 O f y C;rw[M,N];exact L _ _ (n _ _ e U j) V
     .rw[X2 v]at d⊢;have Z:=(J3 _ _ _).1 d.2;refine⟨d.1,(J3 _ _ _).2 fun t J=>?_⟩;obtain⟨u,K,rfl⟩:=Zq.1 J;exact B u e U (Z u K) j
  generalize ks.map (fold O f)=ls at g;have a:=g;rw[QI]at a;refine Iz O (fold O f) x p b ls (Ok e U) g ?_ ?_ ?_ ?_ ?_
  .intro _ k c _ _ F;exact ok_one e U (X _ _ _ F)
  .rintro h k l rfl _;rw[X2 (by omega),X2 (by omega),X2 (by omega)]at a;exact(J3 _ _ _).1 a.2 k (by simp)
  .intro _ k l c _ _ _ F;exact ok_one e U (W _ _ _ _ F)
  .rintro h k l m rfl _;rw[X2 (by omega),X2 (by omega),X2 (by omega)]at a;exact⟨(J3 _ _ _).1 a.2 l (by simp),(J3 _ _ _).1 a.2 m (by simp)⟩
  .rintro h k l rfl Y;rw[X2 (by omega),X3 (.inl h)]at a;obtain⟨D,A⟩:=(Ji _ _ _ _ _ _).1 a.2;refine B _ e U (Er p Y _ l (X4 _) _ e _ U (A l (by simp)) ?_ (.inr rfl) (fun z hz=> .inl hz)) j;intro s Q;by_cases S:s=x.text
   .subst S;rw[Uv]at Q;exact absurd rfl Q
   .exact JZ e p S
theorem X5b{e:ByteArray->Int}{U:Int->Prop}{x:Nd}{p b:Int}{k l:Fd}(h:Ok e U (.mk x p b [k,l]))(a:x.kind=14)(m:∀s,U (e s))(c:Nd):fill x.text c l=Yr p c l:=by
 rw[QI,X2 (by omega),X3 (.inl a)]at h;obtain⟨n,j⟩:=(Ji _ _ _ _ _ _).1 h.2;refine fill_eq p x.text c _ l (X4 _) _ _ (j l (by simp)) (fun s=>?_) (.inr rfl);by_cases g:s=x.text
 .subst g;rw[Uv];exact⟨fun _=>rfl,fun _=>rfl⟩
 .rw[JZ e p g];exact⟨fun d=>absurd (d ▸ m s) h.1,fun d=>absurd d g⟩
def XP:Fd->List Nd
 | .mk x _ _ ks=>giveL ks++[{x with kids:=ks.length}]
 where
 giveL:List Fd->List Nd
 | []=>[]
 | t::r=>XP t++giveL r
theorem G7(x:Nd)(p b:Int)(ks:List Fd):XP (.mk x p b ks)=XP.giveL ks++[{x with kids:=ks.length}]:=by rw[XP]
theorem UT(t:Fd)(r:List Fd):XP.giveL (t::r)=XP t++XP.giveL r:=by rw[XP.giveL]
theorem Ce(a b:List Fd):XP.giveL (a++b)=XP.giveL a++XP.giveL b:=by
 induction a with
 | nil=>simp[XP.giveL]
 | cons t r c=>rw[OU,UT,UT,c,Jo]
theorem Cf:∀(n:Nat) (y:Fd),y.size<=n->(XP y).length=y.size:=by
 intro n;induction n with
 | zero=>intro y a;have:=size_pos y;omega
 | succ n j=>
  intro y a;obtain⟨x,p,b,ks⟩:=y;rw[Zi]at a;have d:∀t∈ks,t.size<=n:=fun t g=>by have:=Ql g;omega
  rw[G7,Zi,Xo,JE];have k:(XP.giveL ks).length=YP ks:=by
   clear a;induction ks with
   | nil=>rw[Gs];simp[XP.giveL]
   | cons t r c=>rw[UT,Qk,Xo,j t (d t (by simp)),c (fun y a=>d y (by simp[a]))]
  omega
end Fd
