import Derived.Test.YtaeafhenpjnhiaaGreatDoorE08
import Derived.Test.YtaeafhenpjnhiaaGreatDoorE04
set_option maxHeartbeats 4000000
set_option maxRecDepth 100000
namespace Go.Proofs.YtaeafhenpjnhiaaGreatDoor
open Tryz Go.RowKit
def KW(w:World)(v:Value):Type:={x:World // Below w.heap.size w x/\w.heap.size<x.heap.size/\x.cell? ⟨w.heap.size,0,none⟩=some v}
def KW.w{w:World}{v:Value}(q:KW w v):World:=q.1
theorem KW.box{w:World}{v:Value}(q:KW w v):q.w.c w.heap.size 0=some v:=q.2.2.2
theorem KW.below{w:World}{v:Value}(q:KW w v):Below w.heap.size w q.w:=q.2.1
theorem Z2{P:Program}{α:Type}(c:α->World){k:Nat}{Q:Exit->Act->World->Prop}{a:Act}{w:World}{l:List Oper}(hm:P.follows .mixedOrders=true)(j:Region.lexB .any l.toArray=true)(g:∃q,w.drewN 1=c q)(h:wpQuiet P l.toArray (fun w'=>∃q,w'=c q) (fun d=>∀w',(∃q,w'=c q)->Q .normal d w') l a):(Code.region k l.toArray true).wp P Q a w:=wp_region_quiet (C:=fun w'=>∃q,w'=c q) hm j g (by simpa using h)
theorem Ow{P:Program}{f:FuncId}{args:Array Value}{r v:Value}{w:World}(h:∀g,BL w g->Calls P f args g fun e w'=>e= .returned r/\BL g w')(q:KW w v): Calls P f args q.w fun e d=>e= .returned r/\∃q':KW w v,d=q'.w:=(h q.w q.2.1).mono fun _ j a=>⟨a.1,⟨⟨j,q.2.1.trans (a.2.mono q.2.1.size),XH q.2.2.1 a.2.size,(a.2.cell (p:=⟨w.heap.size,0,none⟩) q.2.2.1).trans q.2.2.2⟩,rfl⟩⟩
theorem X7m(W:Int)(ns:List Nd)(ls:List Nat)(m tc g c:Nat)(w:World)(hl:ls.length<=1048576)(ht:K1 w m ns)(hi:YZ w g 0 ls)(a6:∀x∈ls,x<ns.length)(S:W=12)(b2:ls.length<=c): CB 41 #[.agg #[.l m ns.length tc],.q W,.l g ls.length c] w (.bool (XU ns W ls)):=by
 have r1:BL w (w.alloc (.cells #[.l m ns.length tc] 25)):=bA _;have L:=X1 ht;have I:=X1 hi;have C:=X1 a6;have HK:=X1 S;have b3:=UG ns ls;clear ht hi a6 S;go_enter func41,ntmps41;go_wp2;go_loopw[8,10] (fun s t wr=>∃(j es:Nat),j<=ls.length/\t= .q j/\s= .q es/\es+Yu ns (ls.drop j)=Yu ns ls/\BL w wr/\w.heap.size<wr.heap.size/\wr.c w.heap.size 0=some (.l m ns.length tc)) (fun _ t _=>ls.length-(intOf t).toNat)
 case atStart=>exact⟨0,0,Xb _,rfl,rfl,by simp,r1,by simp,by simp⟩
 case round=>
  obtain⟨j,es,hj,rfl,rfl,he,k,a,d⟩:=hrel;have X:=X1 he;clear he;by_cases U:j<ls.length
  .have A:=I.o.2 j U;rw[Xu]at A;have V:ls[j]<ns.length:=C.o _ (YJ _);obtain⟨N,_⟩:=L.o.2 ls[j] V;have K:=X1 (VD ns ls j U);have J:=X1 (show Z1 ns ls[j]=Xs ns[ls[j]].kind 1 16 by unfold Z1;rw[QZ V]);have a0:=(k.cell (p:=⟨g,j,none⟩) I.o.1).trans A;have a1:=(k.cell (p:=⟨m,ls[j]*5,none⟩) L.o.1).trans N;generalize ns[ls[j]].kind=kj at *;generalize ls[j]=xj at *;clear A N;have a5:es<=ls.length:=by have:=X.o;omega
   cases y:Xs kj 1 16;all_goals
    go_wp2;go_quiet((go_at_call 69;exact Calls.quiet_of_same (Ui _ _)));rw[y];go_wp2;go_roundw
    case rel=>
     have E:=X.o;rw[K.o,J.o,y]at E;first|rw[Xa rfl]at E|rw[X6 (by decide)]at E
     first
     | exact⟨j+1,es+1,by omega,by go_num,by go_num,by omega,below_drewN k _,a,d⟩
     | exact⟨j+1,es,by omega,by go_num,rfl,by omega,below_drewN k _,a,d⟩
    case measure=>simp[intOf];omega
  .have a5:es=Yu ns ls:=by have E:=X.o;rw[YI (by omega)]at E;simpa[Yu]using E
   subst a5;obtain rfl:j=ls.length:=by omega
   clear X hj;obtain rfl:=HK.o;have HD:=X1 (Hq ns ls);go_wp2;go_loopw[9] (fun t wr=>∃f:Nat,f<=ls.length/\t= .q f/\f+Z8 ns (ls.drop f)=Z8 ns ls/\BL w wr/\w.heap.size<wr.heap.size/\wr.c w.heap.size 0=some (.l m ns.length tc)) (fun t _=>ls.length-(intOf t).toNat)
   case atStart=>exact⟨0,Xb _,rfl,by simp,k,a,d⟩
   case round=>
    obtain⟨f,hf,rfl,he,k,a,d⟩:=hrel;have X:=X1 he;clear he;by_cases U:f<ls.length
    .have A:=I.o.2 f U;rw[Xu]at A;have V:ls[f]<ns.length:=C.o _ (YJ _);obtain⟨N,_⟩:=L.o.2 ls[f] V;have K:=X1 (FZ ns ls f U);have J:=X1 (show Z1 ns ls[f]=Xs ns[ls[f]].kind 1 16 by unfold Z1;rw[QZ V]);have a0:=(k.cell (p:=⟨g,f,none⟩) I.o.1).trans A;have a1:=(k.cell (p:=⟨m,ls[f]*5,none⟩) L.o.1).trans N;generalize ns[ls[f]].kind=kf at *;generalize ls[f]=xf at *;clear A N;cases y:Xs kf 1 16
     .have hE:=fun w=>Ui kf w;simp only[y]at hE;have a3:=X1 hE;clear hE;have Z:Hid (Z8 ns ls=f):=X1 (by have E:=X.o;rw[K.o,J.o,y,X6 (by decide)]at E;omega);go_wp2;go_quiet((go_at_call 69;exact Calls.quiet_of_same (a3.o _)));go_wp2;clear a0 a1 K J a3 X;go_loopw[12] (fun t B=>∃j:Nat,f<=j/\j<=ls.length/\t= .q j/\XS ns (fun x=>x==18) (ls.drop f)=XS ns (fun x=>x==18) (ls.drop j)/\BL w B/\w.heap.size<B.heap.size/\B.c w.heap.size 0=some (.l m ns.length tc)) (fun t _=>ls.length-(intOf t).toNat)
      case atStart=>exact⟨f,X5 _,hf,rfl,rfl,below_drewN k _,a,d⟩
      case round=>
       obtain⟨j,b0,hj,rfl,O,k,a,d⟩:=hrel;have r:=X1 O;clear O;by_cases Q:j<ls.length
       .have A:=I.o.2 j Q;rw[Xu]at A;have V:ls[j]<ns.length:=C.o _ (YJ _);obtain⟨N,_⟩:=L.o.2 ls[j] V;have K:=X1 (Wx ns (fun x=>x==18) ls j Q);have J:=X1 (QZ V);have a0:=(k.cell (p:=⟨g,j,none⟩) I.o.1).trans A;have a1:=(k.cell (p:=⟨m,ls[j]*5,none⟩) L.o.1).trans N;generalize ns[ls[j]].kind=kj at *;generalize ls[j]=xj at *;clear A N;cases y:(kj !=18);all_goals
         go_wp2;go_quiet(fail);go_wp2;first
         | (go_ret
            refine⟨Xn ?_,below_drewN k _⟩;rw[HD.o,Z.o,r.o,K.o,J.o];simp at y;simp[y]
            done)
         | (go_roundw
            case rel=>
             refine⟨j+1,by omega,by omega,by go_num,?_,below_drewN k _,a,d⟩;rw[r.o,K.o,J.o];simp at y;simp[y]
             done
            case measure=>simp[intOf];omega)
       .have a2:=X1 (show XS ns (fun x=>x==18) (ls.drop f)=true by rw[r.o,YI (by omega)];rfl);clear r;by_cases h1:(1:Int)<=f
        .by_cases h8:(ls.length:Int)-1<=8
         .by_cases a9:c=f
          .exfalso;omega
          .have n:=fun w1 (hb:BL w w1)=>Ix ns (ls.drop f) m tc g f (c-f) w1 (by simp;omega) (L.o.below hb) (by have:=(I.o.below hb).drop f;rwa[Xu]at this) (fun x h=>C.o x (Q8 h));rw[YC]at n;have H:=X1 n;clear n;go_wp2;have u:(1:Int)<=(f:Int):=by omega
           have F:(ls.length:Int)-1<=8:=by omega
           refine Z2 (KW.w (w:=w) (v:= .l m ns.length tc)) (by kernel_rfl) (by kernel_rfl) ⟨⟨_,below_drewN k _,a,d⟩,rfl⟩ ?_;have hbx:=fun q:KW w (.l m ns.length tc)=>q.box;haveI hne:Nonempty (KW w (.l m ns.length tc)):=⟨⟨_,k,a,d⟩⟩;repeat(go_big_quiet_step ((go_at_call 70;exact Ow H.o _)))
           refine wpQuiet_nil ?_;rintro _⟨q,rfl⟩;have M:=q.below;go_wp2;go_ret;refine⟨Xn ?_,M⟩;rw[HD.o,Z.o,a2.o];simp[u,F]
         .go_wp2;have u:(1:Int)<=(f:Int):=by omega
          have F:¬((ls.length:Int)-1<=8):=by omega
          go_quiet(fail);go_wp2;go_ret;refine⟨Xn ?_,below_drewN k _⟩;rw[HD.o,Z.o,JP (p:=(ls.length:Int)-1<=8) (by omega)];simp
        .go_wp2;have u:¬((1:Int)<=(f:Int)):=by omega
         go_quiet(fail);go_wp2;go_ret;refine⟨Xn ?_,below_drewN k _⟩;rw[HD.o,Z.o,JP (p:=(1:Int)<=f) (by omega)];simp
     .have hE:=fun w=>Ui kf w;simp only[y]at hE;have a3:=X1 hE;clear hE;go_wp2;go_quiet((go_at_call 69;exact Calls.quiet_of_same (a3.o _)));go_wp2;go_roundw
      case rel=>
       refine⟨f+1,by omega,by go_num,?_,below_drewN k _,a,d⟩;have E:=X.o;rw[K.o,J.o,y,Xa rfl]at E;omega
      case measure=>simp[intOf];omega
    .have Z:Hid (Z8 ns ls=f):=X1 (by have E:=X.o;rw[YI (by omega)]at E;simpa[Z8]using E.symm);go_wp2;go_quiet(fail);go_wp2;clear X;go_loopw[12] (fun t B=>∃j:Nat,f<=j/\j<=ls.length/\t= .q j/\XS ns (fun x=>x==18) (ls.drop f)=XS ns (fun x=>x==18) (ls.drop j)/\BL w B/\w.heap.size<B.heap.size/\B.c w.heap.size 0=some (.l m ns.length tc)) (fun t _=>ls.length-(intOf t).toNat)
     case atStart=>exact⟨f,X5 _,hf,rfl,rfl,below_drewN k _,a,d⟩
     case round=>
      obtain⟨j,b0,hj,rfl,O,k,a,d⟩:=hrel;have r:=X1 O;clear O;by_cases Q:j<ls.length
      .have A:=I.o.2 j Q;rw[Xu]at A;have V:ls[j]<ns.length:=C.o _ (YJ _);obtain⟨N,_⟩:=L.o.2 ls[j] V;have K:=X1 (Wx ns (fun x=>x==18) ls j Q);have J:=X1 (QZ V);have a0:=(k.cell (p:=⟨g,j,none⟩) I.o.1).trans A;have a1:=(k.cell (p:=⟨m,ls[j]*5,none⟩) L.o.1).trans N;generalize ns[ls[j]].kind=kj at *;generalize ls[j]=xj at *;clear A N;cases y:(kj !=18);all_goals
        go_wp2;go_quiet(fail);go_wp2;first
        | (go_ret
           refine⟨Xn ?_,below_drewN k _⟩;rw[HD.o,Z.o,r.o,K.o,J.o];simp at y;simp[y]
           done)
        | (go_roundw
           case rel=>
            refine⟨j+1,by omega,by omega,by go_num,?_,below_drewN k _,a,d⟩;rw[r.o,K.o,J.o];simp at y;simp[y]
            done
           case measure=>simp[intOf];omega)
      .have a2:=X1 (show XS ns (fun x=>x==18) (ls.drop f)=true by rw[r.o,YI (by omega)];rfl);clear r;by_cases h1:(1:Int)<=f
       .by_cases h8:(ls.length:Int)-1<=8
        .by_cases a9:c=f
         .have b1:ls.length=f:=by omega
          have a4:ls.drop f=[]:=YI (by omega);have n:=fun w1 (hb:BL w w1)=>Ix ns [] m tc g 0 0 w1 (Xb _) (L.o.below hb) ⟨(I.o.below hb).1,fun j h=>absurd h (JK _)⟩ (fun x h=>by cases h);have H:=X1 n;have a7:=X1 a4;clear n a4;have a8:(f:Int)-1<=8:=by omega
          go_wp2;have u:(1:Int)<=(f:Int):=by omega
          have F:(ls.length:Int)-1<=8:=by omega
          refine Z2 (KW.w (w:=w) (v:= .l m ns.length tc)) (by kernel_rfl) (by kernel_rfl) ⟨⟨_,below_drewN k _,a,d⟩,rfl⟩ ?_;have hbx:=fun q:KW w (.l m ns.length tc)=>q.box;haveI hne:Nonempty (KW w (.l m ns.length tc)):=⟨⟨_,k,a,d⟩⟩;repeat(go_big_quiet_step ((go_at_call 70;exact Ow H.o _)))
          refine wpQuiet_nil ?_;rintro _⟨q,rfl⟩;have M:=q.below;go_wp2;go_ret;refine⟨Xn ?_,M⟩;rw[HD.o,Z.o,a2.o,a7.o,b1];simp[u,a8]
         .have n:=fun w1 (hb:BL w w1)=>Ix ns (ls.drop f) m tc g f (c-f) w1 (by simp;omega) (L.o.below hb) (by have:=(I.o.below hb).drop f;rwa[Xu]at this) (fun x h=>C.o x (Q8 h));rw[YC]at n;have H:=X1 n;clear n;go_wp2;have u:(1:Int)<=(f:Int):=by omega
          have F:(ls.length:Int)-1<=8:=by omega
          refine Z2 (KW.w (w:=w) (v:= .l m ns.length tc)) (by kernel_rfl) (by kernel_rfl) ⟨⟨_,below_drewN k _,a,d⟩,rfl⟩ ?_;have hbx:=fun q:KW w (.l m ns.length tc)=>q.box;haveI hne:Nonempty (KW w (.l m ns.length tc)):=⟨⟨_,k,a,d⟩⟩;repeat(go_big_quiet_step ((go_at_call 70;exact Ow H.o _)))
          refine wpQuiet_nil ?_;rintro _⟨q,rfl⟩;have M:=q.below;go_wp2;go_ret;refine⟨Xn ?_,M⟩;rw[HD.o,Z.o,a2.o];simp[u,F]
        .go_wp2;have u:(1:Int)<=(f:Int):=by omega
         have F:¬((ls.length:Int)-1<=8):=by omega
         go_quiet(fail);go_wp2;go_ret;refine⟨Xn ?_,below_drewN k _⟩;rw[HD.o,Z.o,JP (p:=(ls.length:Int)-1<=8) (by omega)];simp
       .go_wp2;have u:¬((1:Int)<=(f:Int)):=by omega
        go_quiet(fail);go_wp2;go_ret;refine⟨Xn ?_,below_drewN k _⟩;rw[HD.o,Z.o,JP (p:=(1:Int)<=f) (by omega)];simp
namespace Fd
def nd:Fd->Nd | .mk x _ _ ks=>{x with kids:=ks.length}
def hi:Fd->Nat
 | .mk _ _ _ ks=>hiL ks 0
 where
 hiL:List Fd->Nat->Nat
 | [],h=>h
 | t::r,h=>hiL r (if h<t.hi+1 then t.hi+1 else h)
theorem X2n(x:Nd)(p b:Int)(ks:List Fd):(Fd.mk x p b ks).hi=hi.hiL ks 0:=by rw[hi]
def gr(t:Fd):Gr:=⟨t.nd,t.hi⟩
theorem Az(t:Fd):t.gr.nd.kind=t.x.kind:=by cases t;rfl
theorem AJ:∀(l:List Fd) (h:Nat),hi.hiL l h=Zs (l.map gr) h
 | [],h=>by rw[hi.hiL];rfl
 | t::r,h=>by rw[hi.hiL,AJ r];rfl
def VF:Fd->Bool
 | .mk x _ _ ks=>KQ {x with kids:=ks.length} (ks.map gr)&&vfL ks
 where
 vfL:List Fd->Bool
 | []=>true
 | t::r=>t.VF&&vfL r
theorem ED:∀l:List Fd,VF.vfL l=true↔∀t∈l,t.VF=true
 | []=>by simp[VF.vfL]
 | t::r=>by simp[VF.vfL,ED r]
theorem EE(x:Nd)(p b:Int)(ks:List Fd):(Fd.mk x p b ks).VF=(KQ {x with kids:=ks.length} (ks.map gr)&&VF.vfL ks):=by rw[VF]
theorem Y3d(x:Nd)(p b:Int)(ks:List Fd):(Fd.mk x p b ks).VF=true↔KQ {x with kids:=ks.length} (ks.map gr)=true/\∀t∈ks,t.VF=true:=by rw[EE,XE,ED]
theorem X5t:∀(n:Nat) (y:Fd),y.size<=n->∀(r:List Nd) (op:List Gr),ZS (Xy y++r) op=if y.VF=true then ZS r (op++[y.gr])else none:=by
 intro n;induction n with
 | zero=>intro y a;have:=size_pos y;omega
 | succ n u=>
  intro y a r op;obtain⟨x,p,b,ks⟩:=y;rw[UU]at a;have m:∀t∈ks,t.size<=n:=fun t s=>by have:=Wc s;omega
  have g:∀(l:List Fd),(∀t∈l,t.size<=n)->∀r op,ZS (Xy.giveL l++r) op=if VF.vfL l=true then ZS r (op++l.map gr)else none:=by
   intro l;induction l with
   | nil=>intro _ r op;simp[Xy.giveL,VF.vfL]
   | cons t l d=>
    intro j r op;rw[Jh,KL,u t (j t (by simp)),VF.vfL];cases t.VF
    .simp
    .simp only[Kv,Vs,Y5];rw[d (fun y a=>j y (by simp[a])),KL];rfl
  rw[Zh,KL,g ks m,EE];cases VF.vfL ks
  .simp
  .simp only[Kv,Bool.and_true,List.singleton_append];have k:¬((ks.length:Int)<0\/((op++ks.map gr).length:Int)<(ks.length:Int)):=by rw[Xj,Ju];omega
   rw[ZS,X6 k,Xj,Ju,show((ks.length:Int)).toNat=ks.length from rfl,Dt,List.drop_left,List.take_left];rw[←AJ,←X2n x p b ks];rfl
theorem Oj(y:Fd):ZS (Xy y) []=if y.VF=true then some [y.gr]else none:=by
 have:=X5t _ y (X5 _) [] [];rw[JW]at this;rw[this];rfl
structure Lk (t u:Fd):Prop where
 hi:u.hi<=t.hi
 e:1<=t.x.kind/\t.x.kind<=16->1<=u.x.kind/\u.x.kind<=16
 o:¬(1<=t.x.kind/\t.x.kind<=16)->u.x=t.x/\(u.ks=[]↔t.ks=[])
theorem VK(a b:Int)(l:List Fd):Yg a b (l.map gr)=true↔∀t∈l,a<=t.x.kind/\t.x.kind<=b:=by
 simp[Yg,Az]
theorem Ak{k:Int}{l:List Fd}(h:YE k (l.map gr)=true)(m:k<20):∀t∈l,t.x.kind<20:=by
 unfold YE at h;intro t a;by_cases j:k=9
 .rw[Xa j,XE,VK]at h;have:=h.1 t a;omega
 rw[X6 j]at h;by_cases d:k=12
 .rw[Xa d,XE,XE]at h;generalize KR (l.map gr)=n at h;rw[←Uz,←Ud,VK,VK]at h;rw[←JX n l,KC]at a;rcases a with a|a
  .have:=h.1.1 t a;omega
  .have:=h.1.2 t a;omega
 rw[X6 d]at h;by_cases g:k=15\/k=20
 .rw[Xa g,XE]at h;generalize(l.map gr).length-1=n at h;rw[←Uz,←Ud,VK,VK]at h;rw[←JX n l,KC]at a;rcases a with a|a
  .have:=h.1 t a;omega
  .have:=h.2 t a;omega
 rw[X6 g,X6 (by omega),X6 (by omega),VK]at h;have:=h t a;omega
