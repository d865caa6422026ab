import Derived.Test.YtaeafhenpjnhiaaGreatDoorE11
import Derived.Test.YtaeafhenpjnhiaaGreatDoorE13
set_option maxHeartbeats 4000000
set_option maxRecDepth 100000
namespace Go.Proofs.YtaeafhenpjnhiaaGreatDoor
open Tryz Go.RowKit
def KB(w:World):Type:={x:World // Below w.heap.size w x}
def KB.w{w:World}(q:KB w):World:=q.1
theorem KB.below{w:World}(q:KB w):Below w.heap.size w q.w:=q.2
theorem Kw{P:Program}{f:FuncId}{args:Array Value}{r:Value}{w:World}(h:∀d,BL w d->Calls P f args d fun e w'=>e= .returned r/\BL d w')(q:KB w): Calls P f args q.w fun e a=>e= .returned r/\∃q':KB w,a=q'.w:=(h q.w q.2).mono fun _ j g=>⟨g.1,⟨⟨j,q.2.trans (g.2.mono q.2.size)⟩,rfl⟩⟩
theorem U3{w d:World}{base:Nat}{e:TypeId}{size:Nat}{v:Value}{n:Nat}{g:List Value}(h:w.ownsRow base e size v n g)(a:BL w d):d.ownsRow base e size v n g:=by
 have j:w.grownBy d none:=⟨a.os,a.tape,a.output,a.size,fun k m _=>a.block k m⟩;refine h.kept j ?_;cases r:v.ownBlock with
 | none=>exact .inl rfl
 | some k=>exact .inr (by simp)
def YU(hs:List Nat):List Nat->Nat->Nat
 | [],h=>h
 | x::r,h=>YU hs r (if h<hs[x]?.getD 0+1 then hs[x]?.getD 0+1 else h)
def Jg(ns:List Nd):List (Nd × List Nat)->List Nat->Bool
 | [],_=>true
 | (d,k)::r,hs=>!decide (50<YU hs k 0)&&Xr d&&XU ns d.kind k&&Jg ns r (hs++[YU hs k 0])
def WA(ns:List Nd):Int:=match ns.getLast? with
 | some d=>d.kind
 | none=>0
def YG(ns:List Nd):Bool:=Xs ns.length 1 5000&&(WA ns==24)&&Qc ns&&Jg ns (ns.zip (YF ns)) []
theorem Hj(a ls:List Nat)(j h:Nat)(d:j<ls.length)(g:ls[j]<a.length):YU a (ls.drop j) h=YU a (ls.drop (j+1)) (if h<a[ls[j]]+1 then a[ls[j]]+1 else h):=by
 rw[KM d,YU];simp[g]
theorem Nq(ns:List Nd)(ks:List (List Nat))(i:Nat)(a:List Nat)(d:i<ns.length)(g:i<ks.length): Jg ns ((ns.zip ks).drop i) a=(!decide (50<YU a ks[i] 0)&&Xr ns[i]&&XU ns ns[i].kind ks[i]&&Jg ns ((ns.zip ks).drop (i+1)) (a++[YU a ks[i] 0])):=by
 rw[KM (by simp;omega),List.getElem_zip];rfl
theorem R9(ns:List Nd)(H tc:Nat)(w:World)(hn:ns.length<=1048576)(ht:K1 w H ns): CB 16 #[.agg #[.l H ns.length tc]] w (.bool (YG ns)):=by
 obtain⟨iI,hI,d8,d7,d6⟩:=YK AQ;have r1:BL w (w.alloc (.cells #[.l H ns.length tc] 25)):=bA _;have HT:=X1 ht;cases a2:Xs ns.length 1 5000
 .have S:Hid (YG ns=false):=X1 (by simp[YG,a2]);clear ht;go_enter func16,ntmps16;go_wp2_with(go_at_call 39;go_fit(ZD _ _ _ _);rintro e w'⟨rfl,rfl⟩);go_ret;exact⟨Xn S.o.symm,r1⟩
 .obtain⟨e9,f7⟩:=KP a2;obtain⟨m,hm⟩:∃m,ns.length=m+1:=⟨ns.length-1,by omega⟩;obtain⟨a0,_⟩:=ht.2 m (by omega);have b8:=X1 (show WA ns=(ns[m]'(by omega)).kind by
   have e:ns.getLast?=some (ns[m]'(by omega)):=by rw[Rp,show ns.length-1=m from by omega,K0 (by omega)]
   unfold WA;rw[e])
  rw[hm]at r1;have a1:=(r1.cell (p:=⟨H,m*5,none⟩) ht.1).trans a0;clear ht a0;generalize(ns[m]'(by omega)).kind=lk at *;have e3:Xs ((m:Int)+1) 1 5000=true:=by rw[←a2,hm];rfl
  cases hk:(lk !=24)
  .have b9:Hid (WA ns=24):=X1 (by simp at hk;rw[b8.o,hk]);have b5:=X1 r1;cases a8:Qc ns
   .have S:Hid (YG ns=false):=X1 (by simp[YG,a8]);go_enter func16,ntmps16;go_wp2_with(first|(go_at_call 39;go_fit(ZD _ _ _ _);rintro e w'⟨rfl,rfl⟩)|(go_at_call 17;rw[←hm];go_fit(Ot ns H tc _ hn (by have:=HT.o.below b5.o;rwa[←hm]at this));rintro e O⟨g4,c4,vs,rfl,L,g,r⟩;rw[hm,Yx]at r L g));go_ret;exact⟨Xn S.o.symm,r1.trans (r.mono (Qy _))⟩
   .have e0:=S7 a8;have S:Hid (YG ns=Jg ns (ns.zip (YF ns)) []):=X1 (by simp[YG,a8,b9.o,a2]);have d1:=X1 (Hw ns);have d2:=X1 e0;go_enter func16,ntmps16;go_wp2_with(first|(go_at_call 39;go_fit(ZD _ _ _ _);rintro e w'⟨rfl,rfl⟩)|(go_at_call 17;rw[←hm];go_fit(Ot ns H tc _ hn (by have:=HT.o.below b5.o;rwa[←hm]at this));rintro e O⟨g4,c4,vs,rfl,L,g,r⟩;rw[hm,Yx]at r L g));have b6:Hid (BL w O):=X1 (r1.trans (r.mono (Qy _)));have I:=X1 L;have d3:=X1 g;have a5:O.cell? ⟨w.heap.size,0,none⟩=some (.l H (m+1) tc):=(r.cell (p:=⟨w.heap.size,0,none⟩) (Q9 _)).trans (by simp);have X:w.heap.size<O.heap.size:=XH (by simp) r.size;have c5:=X1 a5;clear g L r a5 a1;go_wp2
    go_loopw[6,7] (fun v6 t wr=>∃(i:Nat) (s:List Nat) (g6 c6:Nat),i<=m+1/\t= .q i/\v6= .l g6 i c6/\s.length=i/\wr.ownsRow O.heap.size 3 1 (.l g6 i c6) i (s.map JF)/\BL O wr/\(∀x∈s,x<=50)/\
      Jg ns (ns.zip (YF ns)) []=Jg ns ((ns.zip (YF ns)).drop i) s) (fun _ t _=>m+1-(intOf t).toNat)
    case atStart=>
     refine⟨0,[],O.heap.size,0,Xb _,rfl,rfl,rfl,?_,?_,(fun x h=>by cases h),rfl⟩
     .exact Y4 (base:=O.heap.size) (e:=3) (size:=1) O #[] 0 (X5 _) (Xb _) rfl
     .exact bA _
    case round=>
     obtain⟨i,s,g6,c6,e7,rfl,rfl,e6,a9,hB,c0,he⟩:=hrel;have HE:=X1 he;have b4:=X1 c0;clear he c0;by_cases e8:i<m+1
     .have Z:i<(YF ns).length:=by have:=d2.o;omega
      obtain⟨gi,ci,hv,_,_,_,B,d9⟩:=d3.o.2 i Z;have b7:=X1 (d1.o i Z);have c3:=S8 ns i Z;have d4:=(hB.cell (p:=⟨g4,i,none⟩) (J8 I.o).2.2).trans ((I.o.cellAt i (by omega)).trans hv);have c9:=X1 (B.below hB);have HV:=X1 (Nq ns (YF ns) i s (by omega) Z);have c8:=X1 ((I.o.cellAt i (by omega)).trans hv);have d0:=X1 B;clear hv B;generalize(YF ns)[i]=ls at *;obtain⟨_,e2,e4⟩:=J8 a9;go_wp2;go_loop[8,9] (fun a b=>∃k h:Nat,k<=ls.length/\b= .q k/\a= .q h/\h<=51/\YU s (ls.drop k) h=YU s ls 0) (fun _ b=>ls.length-(intOf b).toNat)
      case atStart=>exact⟨0,0,Xb _,rfl,rfl,by omega,by rw[Kh]⟩
      case round=>
       obtain⟨k,h,hk,rfl,rfl,hh,c2⟩:=hrel;have HM:=X1 c2;clear c2;by_cases a6:k<ls.length
       .have b0:=c9.o.2 k a6;rw[Xu]at b0;have Q:ls[k]<s.length:=by have:=b7.o ls[k] (YJ _);omega
        have b1:wr.cell? ⟨g6,ls[k],none⟩=some (.q s[ls[k]]):=by rw[a9.cellAt ls[k] (by omega)];simp[Q,JF]
        have HN:=X1 (Hj s ls k h a6 Q);have hy:=b4.o s[ls[k]] (YJ _);generalize s[ls[k]]=y at *;generalize ls[k]=x at *;by_cases hc:(h:Int)<(y:Int)+1
        .go_wp2;go_round
         case rel=>exact⟨k+1,y+1,by omega,by go_num,by go_num,by omega,by rw[←HM.o,HN.o,Xa (by omega)]⟩
         case measure=>simp[intOf];omega
        .go_wp2;go_round
         case rel=>exact⟨k+1,h,by omega,by go_num,rfl,by omega,by rw[←HM.o,HN.o,X6 (by omega)]⟩
         case measure=>simp[intOf];omega
       .have HH:=X1 (show YU s ls 0=h by rw[←HM.o,YI (by omega)];rfl);have e1:=hB.size;go_wp2_with(at_builtin;refine YY _ rfl _ _ 89 rfl O.heap.size 3 iI (.q 0) 1 8 underlying89 hI d8 d7 d6 rfl (by decide) (.l g6 i c6) i (s.map JF) rfl (a9.alloc _) ⟨wr.heap.size,0,none⟩ 1 1 [.q h] rfl rfl (II _ _ _) (by simp[Value.oneCell']) (by unfold maxLen;omega) (by omega) (by simp;omega) ?_);intro v7 u M E K a4;obtain⟨g7,c7,rfl,e5⟩:=Lm M K (by simpa[Value.ownBlock]using a4);have F:BL O u:=(hB.alloc e1 _).grown E (by simp;omega) (fun q e=>by simp[Value.ownBlock]at e;omega);clear E K a4 d4;have V:BL w u:=b6.o.trans (F.mono (Du X));have W:=HT.o.below V;obtain⟨n0,n1,n2,n3,n4⟩:=W.2 i (by omega);have x0:=(F.cell (p:=⟨w.heap.size,0,none⟩) X).trans c5.o;have x1:=(F.cell (p:=⟨g4,i,none⟩) (J8 I.o).2.2).trans c8.o;have b3:=F.size;have N:=W.1;have c1:g4<u.heap.size:=XH (J8 I.o).2.2 b3;have f0:=fun q:KB u=>(q.below.cell (p:=⟨w.heap.size,0,none⟩) (XH X b3)).trans x0;have f1:=fun q:KB u=>(q.below.cell (p:=⟨g4,i,none⟩) c1).trans x1;have f2:=fun q:KB u=>(q.below.cell (p:=⟨H,i*5,none⟩) N).trans n0;have f3:=fun q:KB u=>(q.below.cell (p:=⟨H,i*5+1,none⟩) N).trans n1;have f4:=fun q:KB u=>(q.below.cell (p:=⟨H,i*5+2,none⟩) N).trans n2;have f5:=fun q:KB u=>(q.below.cell (p:=⟨H,i*5+3,none⟩) N).trans n3;have f6:=fun q:KB u=>(q.below.cell (p:=⟨H,i*5+4,none⟩) N).trans n4;have hP:=fun w' (_:BL u w')=>Xej (ns[i]'(by omega)).kind (ns[i]'(by omega)).op (ns[i]'(by omega)).n (ns[i]'(by omega)).kids (ns[i]'(by omega)).text w';have hKK:=fun w' (hb:BL u w')=>X7s (ns[i]'(by omega)).kind ns ls H tc gi ci w' (by omega) (W.below hb) ((d0.o.below F).below hb) (fun x Q=>by have:=b7.o x Q;omega) d9;have C:Hid (YG ns=(!decide (50<h)&&Xr (ns[i]'(by omega))&&XU ns (ns[i]'(by omega)).kind ls&&Jg ns ((ns.zip (YF ns)).drop (i+1)) (s++[h]))):=X1 (by rw[S.o,HE.o,HV.o,HH.o]);clear n0 n1 n2 n3 n4 x0 x1 W HV HE;generalize(ns[i]'(by omega))=d at *;rw[hm]at hKK;have HP:=X1 hP;have HK:=X1 hKK;clear hP hKK;haveI hne:Nonempty (KB u):=⟨⟨_,X8 _ _⟩⟩;by_cases d5:50<h
        .go_wp2;have J:(50:Int)<(h:Int):=by omega
         refine Z2 (KB.w (w:=u)) (by kernel_rfl) (by kernel_rfl) ⟨⟨_,below_drewN (X8 _ _) _⟩,rfl⟩ ?_;repeat(go_big_quiet_step (fail))
         refine wpQuiet_nil ?_;rintro _⟨q,rfl⟩;have j:=q.below;go_wp2;go_ret;refine⟨Xn ?_,V.trans (j.mono (by omega))⟩;rw[C.o];simp[d5]
        .cases hp:Xr d
         .have A:=HP.o;simp only[show Xr ⟨d.kind,d.op,d.n,d.text,d.kids⟩=false from hp]at A;have U:=X1 A;clear A;go_wp2;have J:¬((50:Int)<(h:Int)):=by omega
          refine Z2 (KB.w (w:=u)) (by kernel_rfl) (by kernel_rfl) ⟨⟨_,below_drewN (X8 _ _) _⟩,rfl⟩ ?_;repeat(go_big_quiet_step ((go_at_call 40;exact Kw U.o _)))
          refine wpQuiet_nil ?_;rintro _⟨q,rfl⟩;have j:=q.below;go_wp2;go_ret;refine⟨Xn ?_,V.trans (j.mono (by omega))⟩;rw[C.o,hp];simp
         .have A:=HP.o;simp only[show Xr ⟨d.kind,d.op,d.n,d.text,d.kids⟩=true from hp]at A;have U:=X1 A;clear A;cases a3:XU ns d.kind ls
          .have v:=HK.o;simp only[a3]at v;have a7:=X1 v;clear v;go_wp2;have J:¬((50:Int)<(h:Int)):=by omega
           refine Z2 (KB.w (w:=u)) (by kernel_rfl) (by kernel_rfl) ⟨⟨_,below_drewN (X8 _ _) _⟩,rfl⟩ ?_;repeat(go_big_quiet_step (first|(go_at_call 40;exact Kw U.o _)|(go_at_call 41;exact Kw a7.o _)))
           refine wpQuiet_nil ?_;rintro _⟨q,rfl⟩;have j:=q.below;go_wp2;go_ret;refine⟨Xn ?_,V.trans (j.mono (by omega))⟩;rw[C.o,a3];simp
          .have v:=HK.o;simp only[a3]at v;have a7:=X1 v;clear v;go_wp2;have J:¬((50:Int)<(h:Int)):=by omega
           refine Z2 (KB.w (w:=u)) (by kernel_rfl) (by kernel_rfl) ⟨⟨_,below_drewN (X8 _ _) _⟩,rfl⟩ ?_;repeat(go_big_quiet_step (first|(go_at_call 40;exact Kw U.o _)|(go_at_call 41;exact Kw a7.o _)))
           refine wpQuiet_nil ?_;rintro _⟨q,rfl⟩;have j:=q.below;have b2:=U3 M j;go_wp2;go_roundw
           case rel=>
            refine⟨i+1,s++[h],g7,c7,by omega,by go_num,rfl,by simp;omega,?_,F.trans (j.mono b3),?_,?_⟩
            .rw[JI];exact b2
            .intro x Q;rcases KC.1 Q with Q|Q
             .exact b4.o x Q
             .have:x=h:=by simpa using Q
              omega
            .rw[←S.o,C.o,hp,a3,JP (by omega)];rfl
           case measure=>simp[intOf];omega
     .go_wp2;go_ret;refine⟨Xn ?_,b6.o.trans (hB.mono (Du X))⟩;rw[S.o,HE.o,YI (by simp;omega)];rfl
  .have S:Hid (YG ns=false):=X1 (by simp at hk;simp[YG,b8.o,hk]);go_enter func16,ntmps16;go_wp2_with(go_at_call 39;go_fit(ZD _ _ _ _);rintro e w'⟨rfl,rfl⟩);go_ret;exact⟨Xn S.o.symm,r1⟩
theorem MA(s:ByteArray)(k:Nat)(m:List UInt8):m.isPrefixOf (s.data.toList.drop k)=((s.extract k (k+m.length)).toList==m):=by
 rw[Lib.extract_toList,show k+m.length-k=m.length from by omega,YH,V0,List.prefix_iff_eq_take,Ql]
 exact⟨fun h=>h.symm,fun h=>h.symm⟩
theorem FF(s:ByteArray)(k:Nat)(m:List UInt8)(d:1<=m.length)(h:¬k+m.length<=s.size):m.isPrefixOf (s.data.toList.drop k)=false:=by
 rw[Bool.eq_false_iff];intro a;have:=(V0.1 a).length_le;simp at this;omega
theorem FC(l:List UInt8)(i:Nat)(hi:i<Sc.marks.length)(a:∀(j:Nat) (h:j<Sc.marks.length),j<i->(Sc.marks[j]).isPrefixOf l=false)(d:(Sc.marks[i]).isPrefixOf l=true): Sc.ZM l=⟨0,5,Sc.marks[i],0,(Sc.marks[i]).length⟩:=by
 have:Sc.marks.find? (fun m=>m.isPrefixOf l)=some Sc.marks[i]:=by
  rw[List.find?_eq_some_iff_getElem];exact⟨d,i,hi,rfl,fun j g=>by simp[a j (by omega) g]⟩
 unfold Sc.ZM;rw[this]
theorem FD(l:List UInt8)(d:∀(j:Nat) (h:j<Sc.marks.length),j<23->(Sc.marks[j]).isPrefixOf l=false):Sc.ZM l=Sc.bad 2:=by
 have:Sc.marks.find? (fun m=>m.isPrefixOf l)=none:=by
  rw[List.find?_eq_none];intro x g;obtain⟨j,a,rfl⟩:=Ro g;simp[d j a a]
 unfold Sc.ZM;rw[this]
theorem OS(s:ByteArray)(k:Nat)(w:World)(Z:s.size<=1048576)(S:k<s.size)(Q:Sc.dig s[k]=false)(F:Sc.beg s[k]=false)(V:((s[k].toNat:Int)==34)=false): CB 52 #[.string s,.q k] w (QL k (Sc.one (s.data.toList.drop k))):=by
 rw[RQ s k S Q F (by simp at V;omega)];go_enter func52,ntmps52;go_wp2_with(first|(go_at_call 88;go_fit(KG _ _);rintro e w'⟨rfl,rfl⟩)|(go_at_call 74;go_fit(UL _ _);rintro e w'⟨rfl,rfl⟩)|(go_at_call 91;go_fit(X9t _);rintro e O⟨rfl,E,W,d⟩;obtain⟨L,X⟩:=Qd E;rw[Yx]at d W));have y:=X1 d;clear d;go_loop[13] (fun t=>∃i:Nat,i<=23/\t= .q i/\∀(j:Nat) (h:j<Sc.marks.length),j<i->(Sc.marks[j]).isPrefixOf (s.data.toList.drop k)=false) (fun t=>23-(intOf t).toNat)
 case atStart=>exact⟨0,by omega,rfl,fun j _ h=>by omega⟩
 case round=>
  obtain⟨i,hi,rfl,M⟩:=hrel;have r:=X1 M;clear M;by_cases g:i<23
  .have H:=y.o i g;have n:=Sc.OF Sc.marks[i] (YJ _);obtain⟨m,hm⟩:∃m,m=Sc.marks[i]:=⟨_,rfl⟩;rw[←hm]at H n;have A:=X1 hm;clear hm;obtain⟨J,U⟩:=n;by_cases K:k+m.length<=s.size
   .cases N:((s.extract k (k+m.length)).toList==m)
    .have C:Hid (m.isPrefixOf (s.data.toList.drop k)=false):=X1 ((MA s k m).trans N);go_wp2;go_round
     case rel=>
      refine⟨i+1,by omega,by go_num,?_⟩;intro j u I;by_cases e:j=i
      .subst e;have h:=C.o;rw[A.o]at h;exact h
      .exact r.o j u (by omega)
     case measure=>simp[intOf];omega
    .have B:Hid (Sc.ZM (s.data.toList.drop k)=⟨0,5,m,0,m.length⟩):=X1 (by have h:=A.o;rw[h];exact FC _ i g r.o (by rw[←h];exact(MA s k m).trans N));go_wp2;have a:BL w O:=(bA _).trans (E.mono (by simp));refine Xq (v:= .tuple #[.agg #[.q 5,.string ⟨m.toArray⟩,.q 0,.q k],.q ((k:Int)+m.length),.q 0]) (by simp[results,results52,go_sem,L]) rfl ⟨by rw[Vg B.o];rfl,?_⟩;exact Zu a (X5 _)
   .have C:Hid (m.isPrefixOf (s.data.toList.drop k)=false):=X1 (FF s k m J K);go_wp2;go_round
    case rel=>
     refine⟨i+1,by omega,by go_num,?_⟩;intro j u I;by_cases e:j=i
     .subst e;have h:=C.o;rw[A.o]at h;exact h
     .exact r.o j u (by omega)
    case measure=>simp[intOf];omega
  .have B:Hid (Sc.ZM (s.data.toList.drop k)=Sc.bad 2):=X1 (FD _ (fun j h u=>r.o j h (by omega)));go_wp2;have a:BL w O:=(bA _).trans (E.mono (by simp));refine Xq (v:= .tuple #[.agg #[.q 0,.t #[],.q 0,.q 0],.q 0,.q 2]) (by simp[results,results52,go_sem,L]) rfl ⟨by rw[Us B.o (by decide)];rfl,?_⟩;exact Zu a (X5 _)
theorem Xcb(s:ByteArray)(k:Nat)(a:Int)(w:World)(j:s.size<=1048576)(g:k<s.size)(r:a=(k:Int)): CB 52 #[.string s,.q a] w (QL k (Sc.one (s.data.toList.drop k))):=by
 subst r;cases d:Sc.dig s[k]
 .cases m:Sc.beg s[k]
  .cases n:((s[k].toNat:Int)==34)
   .exact OS s k w j g d m n
   .exact OX s k w j g d m n
  .exact OT s k w j g d m
 .exact OV s k w j g d
def Sc.T.cells(x:Sc.T):List Value:=[.q x.kind,.string ⟨x.text.toArray⟩,.q x.n,.q x.place]
def KO(l:List Sc.T):List Value:=l.flatMap Sc.T.cells
theorem RP(l:List Sc.T)(x:Sc.T):KO (l++[x])=KO l++x.cells:=by simp[KO]
theorem AR:(prog.info? 101).map (fun i=>(i.zero,i.size,i.bytes))=some (some (.agg #[.q 0,.t #[],.q 0,.q 0]),4,40):=by kernel_rfl
def Y2(s:ByteArray):List Sc.T:=if 8000<s.size then[]else if(Sc.from_ s.data.toList 0).2.1=0 then(Sc.from_ s.data.toList 0).1 else[]
def Yf(s:ByteArray):Nat:=if 8000<s.size then 1 else(Sc.from_ s.data.toList 0).2.1
def Ye(s:ByteArray):Nat:=if 8000<s.size then 0 else(Sc.from_ s.data.toList 0).2.2
theorem SG(w:World)(cs:List Value)(t:TypeId)(j:Nat)(u:Value)(h:cs[j]?=some u):(w.z cs.toArray t).cell? ((⟨w.heap.size,0,none⟩:Addr).add j)=some u:=by
 have e:((⟨w.heap.size,0,none⟩:Addr).add j)=⟨w.heap.size,j,none⟩:=by simp[Addr.add];exact fun h=>h.symm
 rw[e,World.cell?,YV];simpa using h
theorem Y1h(w:World)(a:Addr)(v:Value):(w.setCell a v).heap.size=w.heap.size:=by simp[World.setCell]
theorem Sk{w wr d:World}{base:Nat}{o1 o2:Obj}{v:Value}{n:Nat}{r:List Value}(a:wr.ownsRow base 101 4 v n r)(g:Below base w wr)(m:base<=wr.heap.size)(j:((wr.alloc o1).alloc o2).grownBy d v.ownBlock):Below base w d:=((g.alloc m _).alloc (by simp;omega) _).grown j (by simp;omega) (fun k e=>(a.lt k e).1)
theorem IL{s:ByteArray}(h:8000<s.size):Yf s=1/\Ye s=0/\Y2 s=[]:=by simp[Yf,Ye,Y2,h]
theorem DR{s:ByteArray}(h:¬8000<s.size):Yf s=(Sc.from_ s.data.toList 0).2.1/\Ye s=(Sc.from_ s.data.toList 0).2.2/\Y2 s=if(Sc.from_ s.data.toList 0).2.1=0 then(Sc.from_ s.data.toList 0).1 else[]:=by simp[Yf,Ye,Y2,h]
theorem Ag{s:ByteArray}{ts:List Sc.T}{k:Nat}(h:Yf s=(Sc.from_ s.data.toList 0).2.1/\Ye s=(Sc.from_ s.data.toList 0).2.2/\Y2 s=if(Sc.from_ s.data.toList 0).2.1=0 then(Sc.from_ s.data.toList 0).1 else[])(a:Sc.from_ s.data.toList 0=(ts++(Sc.from_ s.data.toList k).1,(Sc.from_ s.data.toList k).2))(d:Sc.from_ s.data.toList k=([],0,0)):Yf s=0/\Ye s=0/\Y2 s=ts:=by
 rw[a,d]at h;simpa using h
theorem Af{s:ByteArray}{ts:List Sc.T}{k c:Nat}(h:Yf s=(Sc.from_ s.data.toList 0).2.1/\Ye s=(Sc.from_ s.data.toList 0).2.2/\Y2 s=if(Sc.from_ s.data.toList 0).2.1=0 then(Sc.from_ s.data.toList 0).1 else[])(d:Sc.from_ s.data.toList 0=(ts++(Sc.from_ s.data.toList k).1,(Sc.from_ s.data.toList k).2))(g:Sc.from_ s.data.toList k=([],c,k))(a:c≠0):Yf s=c/\Ye s=k/\Y2 s=[]:=by
 rw[d,g]at h;simpa[a]using h
theorem LP(s:ByteArray)(w:World)(hs:s.size<=1048576): Calls prog 26 #[.string s] w fun e w'=>∃v,e= .returned (.tuple #[v,.agg #[.q (Yf s),.q (Ye s)]])/\w'.ownsRow w.heap.size 101 4 v (Y2 s).length (KO (Y2 s))/\Below w.heap.size w w':=by
 obtain⟨i0,hi,a8,a9,b0⟩:=YK AR;by_cases J:8000<s.size
 .obtain⟨c1,c2,c3⟩:=IL J;rw[c1,c2,c3];clear c1 c2 c3;go_enter func26,ntmps26;go_wp2;refine Xq (v:= .tuple #[.l (w.heap.size+1) 0 0,.agg #[.q 1,.q 0]]) (by simp[results,results26,go_sem]) rfl ⟨_,rfl,?_,?_⟩
  .have:=Y4 (base:=w.heap.size) (e:=101) (size:=4) (w.z #[.q 1,.q 0] 29) #[] 0 (by simp) (Xb _) rfl;rw[Yx]at this;exact this
  .exact(bA _).alloc (by simp) _
 .have h0:=fun w=>Av s 0 0 w hs (Xb _) rfl;have H0:=X1 h0;clear h0;have a5:=X1 (Sc.G5 false s.data.toList);have HC:=X1 (DR J);go_enter func26,ntmps26;go_wp2_with(go_at_call 51;go_fit(H0.o _);rintro e w'⟨rfl,rfl⟩)
  go_loopw[4,5] (fun v t wr=>∃(k:Nat) (ts:List Sc.T),k<=s.size/\t= .q k/\Sc.Xl false (s.data.toList.drop k)=0/\wr.ownsRow (w.heap.size+1) 101 4 v ts.length (KO ts)/\BL w wr/\w.heap.size<wr.heap.size/\
    wr.cell? ⟨w.heap.size,0,none⟩=some (.q 0)/\wr.cell? ⟨w.heap.size,1,none⟩=some (.q 0)/\wr.frozen? ⟨w.heap.size,0,none⟩=false/\wr.frozen? ⟨w.heap.size,1,none⟩=false/\ts.length<=k/\
    Sc.from_ s.data.toList 0=(ts++(Sc.from_ s.data.toList k).1,(Sc.from_ s.data.toList k).2)) (fun _ t _=>s.size-(intOf t).toNat)
  case atStart=>
   have hg:=a5.o;refine⟨Sc.Xl false s.data.toList,[],by simpa using hg,rfl,Sc.G6 _ _,?_,?_,by simp;omega,by simp,by simp,by simp,by simp,Xb _,?_⟩
   .have:=Y4 (base:=w.heap.size+1) (e:=101) (size:=4) (w.z #[.q 0,.q 0] 29) #[] 0 (by simp) (Xb _) rfl;rw[Yx]at this;exact this
   .exact(bA _).alloc (by simp) _
   .have:=Sc.O3 s.data.toList 0 (by simpa using Sc.G6 false s.data.toList);simp only[Kh,Xu]at this;rw[←this];simp
  case round=>
   obtain⟨k,ts,hk,rfl,a0,B,hB,d,E,F,W,X,b1,he⟩:=hrel;have U:=X1 he;have HG:=X1 a0;clear he a0;by_cases M:k<s.size
   .have Q:=fun w=>Xcb s k k w hs M rfl;by_cases a:(Sc.one (s.data.toList.drop k)).code=0
    .have a7:=Sc.Vj _ a;have y:=Sc.Au s.data.toList k (by simpa using M) HG.o a;have e:QL k (Sc.one (s.data.toList.drop k))= .tuple #[.agg #[.q (Sc.one (s.data.toList.drop k)).kind,.string ⟨(Sc.one (s.data.toList.drop k)).text.toArray⟩,.q (Sc.one (s.data.toList.drop k)).n,.q k],.q ((k:Int)+(Sc.one (s.data.toList.drop k)).size),.q 0]:=by
      unfold QL;rw[Xa a]
     rw[e]at Q;clear e a;generalize Sc.one (s.data.toList.drop k)=r at *;have HO:=X1 Q;have C:=X1 y;obtain⟨b2,L⟩:=a7;simp only[YC,JG]at L;have a2:k+r.size<=s.size:=by have:s.data.size=s.size:=rfl;omega
     clear Q y L;go_wp2_with(first
      | (go_at_call 52;go_fit(HO.o _);rintro e H⟨rfl,I⟩;obtain⟨V,hf⟩:=Qd I;have K:w.heap.size<H.heap.size:=XH d I.size;have m:=U3 B I)
      | (at_builtin;refine Vr _ rfl _ _ 55 rfl (w.heap.size+1) 101 i0 (.agg #[.q 0,.t #[],.q 0,.q 0]) 4 40 underlying55 hi a8 a9 b0 rfl (by decide) _ _ _ rfl ((m.alloc _).alloc _) ⟨H.heap.size+1,0,none⟩ 1 1 [.q r.kind,.string ⟨r.text.toArray⟩,.q r.n,.q k] rfl rfl ?_ ?_ ?_ ?_ ?_ ?_))
     .intro j u h;have:=SG (H.z #[.q r.kind,.string ⟨r.text.toArray⟩,.q r.n,.q k] 101) _ 101 j u h;rw[Yx]at this;exact this
     .simp[Value.oneCell']
     .unfold maxLen;omega
     .omega
     .simp;omega
     .intro v' O N g _;have a4:BL w O:=((Sk m ((X8 _ _)) (by omega) g).mono (by omega)) |> fun h=>(hB.trans (I.mono (by omega))).trans h;have a1:w.heap.size<O.heap.size:=by have:=g.size;simp at this;omega
      have A:Below (w.heap.size+1) H O:=Sk m ((X8 _ _)) (by omega) g;have q0:O.cell? ⟨w.heap.size,0,none⟩=some (.q 0):=(A.cell (p:=⟨w.heap.size,0,none⟩) (Q9 _)).trans ((V _ _ d).trans E);have q1:O.cell? ⟨w.heap.size,1,none⟩=some (.q 0):=(A.cell (p:=⟨w.heap.size,1,none⟩) (Q9 _)).trans ((V _ _ d).trans F);have q2:O.frozen? ⟨w.heap.size,0,none⟩=false:=(A.frozen (p:=⟨w.heap.size,0,none⟩) (Q9 _)).trans ((hf _ _ d).trans W);have q3:O.frozen? ⟨w.heap.size,1,none⟩=false:=(A.frozen (p:=⟨w.heap.size,1,none⟩) (Q9 _)).trans ((hf _ _ d).trans X);clear g A V hf E F W X B m;go_wp2_with(go_at_call 51;go_fit(Av s (k+r.size) _ _ hs a2 (by omega));rintro e w3⟨rfl,rfl⟩);go_roundw
      case rel=>
       have a6:=Sc.G5 false (s.data.toList.drop (k+r.size));have Z:Sc.Xl false (s.data.toList.drop (k+r.size+Sc.Xl false (s.data.toList.drop (k+r.size))))=0:=by have:=Sc.G6 false (s.data.toList.drop (k+r.size));rwa[Ub]at this
       simp only[YC,JG]at a6;have b4:s.data.size=s.size:=rfl;refine⟨k+r.size+Sc.Xl false (s.data.toList.drop (k+r.size)),ts++[⟨r.kind,r.text,r.n,k⟩],by omega,by go_num,Z,?_,a4,a1,q0,q1,q2,q3,by simp;omega,?_⟩
       .rw[RP,Xj];exact N
       .rw[U.o,C.o,←Sc.O3 s.data.toList (k+r.size) Z];simp
      case measure=>simp[intOf];omega
    .have y:=Sc.Ar s.data.toList k (by simpa using M) HG.o a;have e:QL k (Sc.one (s.data.toList.drop k))= .tuple #[.agg #[.q 0,.t #[],.q 0,.q 0],.q 0,.q (Sc.one (s.data.toList.drop k)).code]:=by
      unfold QL;rw[X6 a]
     rw[e]at Q;have b3:(((Sc.one (s.data.toList.drop k)).code:Int)!=0)=true:=by simp[a]
     clear e;generalize Sc.one (s.data.toList.drop k)=r at *;have HO:=X1 Q;have C:=X1 y;have S:=X1 a;clear Q y a;go_wp2_with(go_at_call 52;go_fit(HO.o _);rintro e H⟨rfl,I⟩;obtain⟨V,hf⟩:=Qd I;have K:w.heap.size<H.heap.size:=XH d I.size);refine Xq (v:= .tuple #[.l (H.heap.size+1) 0 0,.agg #[.q r.code,.q k]]) (by simp[results,results26,go_sem,V,E,F,d,K]) rfl ⟨.l (H.heap.size+1) 0 0,?_,?_,?_⟩
     .have h:=Af HC.o U.o C.o S.o;rw[h.1,h.2.1]
     .have h:=Af HC.o U.o C.o S.o;rw[h.2.2];have:=Y4 (base:=w.heap.size) (e:=101) (size:=4) (((H.setCell ⟨w.heap.size,0,none⟩ (.q r.code)).setCell ⟨w.heap.size,1,none⟩ (.q k)).z #[.q 0,.t #[],.q 0,.q 0] 101) #[] 0 (by simp[World.setCell];omega) (Xb _) rfl;simp only[Yx,Y1h]at this;exact this
     .have a3:=hB.trans (I.mono (Du d));exact((((a3.setCell (p:=⟨w.heap.size,0,none⟩) (X5 _) _).setCell (p:=⟨w.heap.size,1,none⟩) (X5 _) _).alloc (by simp;omega) _).alloc (by simp;omega) _)
   .have y:=X1 (Sc.As s.data.toList k (by simp;omega));go_wp2;refine Xq (v:= .tuple #[u4,.agg #[.q 0,.q 0]]) (by simp[results,results26,go_sem,E,F]) rfl ⟨u4,?_,?_,?_⟩
    .have h:=Ag HC.o U.o y.o;rw[h.1,h.2.1];rfl
    .have h:=Ag HC.o U.o y.o;rw[h.2.2];exact Wa (Gz (Gz B (by simp) _) (by simp) _) (by omega)
    .exact(hB.setCell (p:=⟨w.heap.size,0,none⟩) (X5 _) _).setCell (p:=⟨w.heap.size,1,none⟩) (X5 _) _
