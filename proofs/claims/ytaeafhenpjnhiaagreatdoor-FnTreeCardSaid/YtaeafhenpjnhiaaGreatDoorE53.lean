import Derived.Test.YtaeafhenpjnhiaaGreatDoorE44
import Derived.Test.YtaeafhenpjnhiaaGreatDoorCards
import Derived.Test.YtaeafhenpjnhiaaGreatDoorTie
import Derived.Test.YtaeafhenpjnhiaaGreatDoorE52
import Derived.Deep.Slices
import Derived.ProofKit
import Derived.LaidMore
import Derived.OpenShut
import Derived.OpenVars
import Derived.Stop.Joined
import Derived.Stop.LaidErr
set_option maxHeartbeats 16000000
set_option maxRecDepth 100000
namespace Go.Proofs.YtaeafhenpjnhiaaGreatDoor
open Go.Proofs.Tryz Go.RowKit
section
variable (rb:Nat) (vb:Value) (n:Nat)
theorem Ee[LB]:Ir rb vb n:=fun q v l w h hn Q S=>by
 obtain⟨iN,a5,b8,b7,b6⟩:=YK Un
 have C:=h.lt
 have HN:=X1 hn
 have HR:=X1 h
 rcases hn.1.2 with⟨hv,h0⟩|⟨g,c,c6,hv,_⟩
 .subst hv
  obtain rfl:l=[]:=Uy.1 h0;have J:Hid ((((w.alloc (.cells #[.slice none 0 0] 25)).alloc (.cells #[.slice none 0 0] 25)).alloc (.cells #[] 64)).ownsRow w.heap.size 64 5 (.l (w.heap.size+1+1) 0 0) 0 []):=X1 (by
   have hr:=Y4 (base:=w.heap.size) (e:=64) (size:=5) ((w.alloc (.cells #[.slice none 0 0] 25)).alloc (.cells #[.slice none 0 0] 25)) #[] 0 (by simp;omega) (Xb _) rfl;simpa using hr)
  have HS:=X1 (SP.start (w5:=(((w.alloc (.cells #[.slice none 0 0] 25)).alloc (.cells #[.slice none 0 0] 25)).alloc (.cells #[] 64))) HR.o HN.o (World.grownBy.Y0a _ _) J.o);clear h hn h0;obtain⟨_,t0,o0,ft,_⟩:=HS.o.cells;rw[show(((w.alloc (.cells #[.slice none 0 0] 25)).alloc (.cells #[.slice none 0 0] 25)).alloc (.cells #[] 64)).heap.size=w.heap.size+1+1+1 by simp]at o0 HS;go_enter func35,ntmps35;go_upto_region 2 with(at_builtin;refine wpList_append_own_none rfl _ _ 23 rfl w.heap.size 64 iN 5 underlying23 a5 _ 0 [] rfl J.o rfl ?_);generalize a2:(((w.alloc (.cells #[.slice none 0 0] 25)).alloc (.cells #[.slice none 0 0] 25)).alloc (.cells #[] 64)).alloc (.cells #[.slice (some ⟨w.heap.size+1+1,0,none⟩) 0 0] 25)=w6 at *;clear a2 J;have d:=X1 (HS.o.ret (l':=[]) (v':= .l (w.heap.size+1+1) 0 0) ⟨Qo HS.o.o (Xb _),Y1c⟩);go_wp2;exact Xq (v:= .agg #[.l (w.heap.size+1+1) 0 0]) (by simp[results,results35,go_sem,t0]) rfl ⟨_,_,rfl,d.o.1,Xb _,d.o.2.1.mono (by omega),d.o.2.2⟩
 .subst hv;have a8:∀(j:Nat) (x:Value),(Xh l)[j]?=some x->(((w.alloc (.cells #[.l g l.length c] 25)).alloc (.cells #[.slice none 0 0] 25)).alloc (.cells #[] 64)).cell? ((⟨g,0,none⟩:Addr).add j)=some x:=fun j x hx=>by
   have b3:BL w (((w.alloc (.cells #[.l g l.length c] 25)).alloc (.cells #[.slice none 0 0] 25)).alloc (.cells #[] 64)):=((bA _).alloc (by simp) _).alloc (by simp;omega) _;have h1:=JO hn.1 rfl j x hx;rw[Y8]at h1⊢;exact(b3.cell (p:=⟨g,0+j,none⟩) (hn.1.lt g rfl).2).trans h1
  have a3:=X1 a8;have J:Hid ((((w.alloc (.cells #[.l g l.length c] 25)).alloc (.cells #[.slice none 0 0] 25)).alloc (.cells #[] 64)).ownsRow w.heap.size 64 5 (.l (w.heap.size+1+1) 0 0) 0 []):=X1 (by
   have hr:=Y4 (base:=w.heap.size) (e:=64) (size:=5) ((w.alloc (.cells #[.l g l.length c] 25)).alloc (.cells #[.slice none 0 0] 25)) #[] 0 (by simp;omega) (Xb _) rfl;simpa using hr)
  have X:w.heap.size<=(((w.alloc (.cells #[.l g l.length c] 25)).alloc (.cells #[.slice none 0 0] 25)).alloc (.cells #[] 64)).heap.size:=by simp;omega
  clear h hn a8;go_enter func35,ntmps35;go_wp2_with(at_builtin;refine YY _ rfl _ _ 23 rfl w.heap.size 64 iN _ 5 48 underlying23 a5 b8 b7 b6 rfl (by decide) _ 0 [] rfl J.o ⟨g,0,none⟩ l.length c (Xh l) rfl (DP l) a3.o (VN l) (by unfold maxLen;omega) (by omega) X ?_);intro ov w5 r1 r2 r3 r4;have V:w5.ownsRow w.heap.size 64 5 ov l.length (Xh l):=by simpa using r1
  have u:=X1 (SP.start HR.o HN.o r2 V);obtain⟨op,E,c0⟩:=XA V;subst c0;clear r1 r2 r3 r4 a3 J X;go_upto_region 2 with fail;generalize a2:w5.alloc (.cells #[.slice op l.length E] 25)=w6 at *;generalize w5.heap.size=L at *;have o0:=u.o.cells.2.2.1;by_cases a9:l.length=0
  .obtain rfl:=Uy.1 a9;simp only[Ya]at o0;have u:Hid (SP rb vb n w (.l g 0 c) [] w.heap.size (w.heap.size+1) L q (.slice op 0 E) [] w6):=u;have d:=X1 (u.o.ret (l':=[]) (v':= .slice op 0 E) ⟨Qo u.o.o (Xb _),u.o.sh⟩);obtain⟨_,t0,_,ft,_⟩:=u.o.cells;go_wp2;exact Xq (v:= .agg #[.slice op 0 E]) (by simp[results,results35,go_sem,t0]) rfl (by first|exact⟨_,_,rfl,d.o.1,(Xb _),d.o.2.1.mono (by omega),d.o.2.2⟩|exact⟨_,rfl,_,d.o.1,(Xb _),d.o.2.1.mono (by omega),d.o.2.2⟩)
  .have A:((l.length:Int)==0)=false:=UM.2 (by omega);have B:(0:Int)<(l.length:Int):=by omega
   obtain⟨F,b9⟩:∃F,op=some ⟨F,0,none⟩:=by
    rcases V.2 with⟨_,h0⟩|⟨g',c',_,h2,_⟩
    .exact absurd h0 a9
    .cases h2;exact⟨_,rfl⟩
   subst b9;clear V a2;go_wp2_with fail;go_fit(Rq.pick u.o.r (by omega) 256 (by omega) (by omega));rintro e w7⟨U,c9,rfl,b0,b2⟩;have a0:=X1 (u.o.ty b2 b0);clear b0 b2 u o0;go_wp2_with fail;go_fit(Rq.pick a0.o.r (by omega) 256 (by omega) (by omega));rintro e w8⟨Z,d0,rfl,b1,b4⟩;have H:=X1 (a0.o.ty b4 b1);clear b1 b4 a0;have I:(U*256+Z)%l.length<l.length:=Wt _ (by omega);have e0:IntKind.i64.wrap ((U:Int)*256)=(U:Int)*256:=by rw[Yp];omega
   have e3:IntKind.i64.wrap ((U:Int)*256+(Z:Int))=(U:Int)*256+(Z:Int):=by rw[Yp];omega
   have e1:((U:Int)*256+(Z:Int))%(l.length:Int)=(((U*256+Z)%l.length:Nat):Int):=by simp
   have e2:((U:Int)*256+(Z:Int)).tmod (l.length:Int)=(((U*256+Z)%l.length:Nat):Int):=by rw[UY (by omega)];exact e1
   generalize(U*256+Z)%l.length=k at *;have o2:=H.o.cells.2.2.1;obtain⟨q0,q1,q2,q3,q4,_⟩:=H.o.node I;have a4:Hid (XN w w8.heap.size (.l F l.length E) l[k] (w8.alloc (.cells #[.q l[k].kind,.q l[k].op,.q l[k].n,.string l[k].text,.q l[k].kids] 64))):=X1 ⟨YV _ _,H.o.sh _ (YJ I),fun e=>by have:=(H.o.o.lt _ e).2;omega,H.o.tf.size⟩;have a1:=X1 (H.o.below (bA (.cells #[.q l[k].kind,.q l[k].op,.q l[k].n,.string l[k].text,.q l[k].kids] 64)));have y:=X1 H.o.sh;go_upto_region 7 with fail;generalize c1:w8.alloc (.cells #[.int .i64 l[k].kind,.int .i64 l[k].op,.int .i64 l[k].n,.string l[k].text,.int .i64 l[k].kids] 64)=w9 at *;generalize c8:w8.heap.size=M at *;generalize l[k]=O at *;clear c1 H;go_cut[39]from 38 to 200 (fun c3 wx=>∃z:Nat,z<10/\c3= .q (z:Int)/\SP rb vb n w (.l g l.length c) l w.heap.size (w.heap.size+1) L (q+3) (.l F l.length E) l wx/\XN w M (.l F l.length E) O wx)
   case first=>
    go_wp2_with fail;go_fit(Rq.pick a1.o.r (by omega) 10 (by omega) (by omega));rintro e d6⟨z,hz,rfl,W,N⟩;have m:=X1 (a1.o.ty N W);have s:=X1 (a4.o.ty N);clear W N;go_wp2_with fail;go_meet
    case rel=>exact⟨z,by omega,rfl,m.o,s.o⟩
   case rest=>
    obtain⟨z,hz,rfl,a6,a7⟩:=hcut;have m:=X1 a6;have s:=X1 a7;clear a6 a7 a1 a4 q0 q1 q2 q3 q4 o2 e0 e1 e2 e3;rename ∀(a:Act) (w:World),_->_=>hKK;refine hKK _ _ ?_;go_cut[9,10,11,12,13]from 39 to 200 (fun _ _ _ _ _ wx=>∃x,SP rb vb n w (.l g l.length c) l w.heap.size (w.heap.size+1) L (q+6) (.l F l.length E) l wx/\XN w M (.l F l.length E) x wx)
    case first=>
     have c2:z=0\/z=1\/z=2\/z=3\/z=4\/z=5\/z=6\/z=7\/z=8\/z=9:=by omega
     rcases c2 with rfl|rfl|rfl|rfl|rfl|rfl|rfl|rfl|rfl|rfl
     .exact GV 0 (by decide) rb vb n q l w g c L F E M k O wc Q S A B I C y m s _ _ (by unfold spJ;assumption) (by assumption) _ rfl
     .exact GV 1 (by decide) rb vb n q l w g c L F E M k O wc Q S A B I C y m s _ _ (by unfold spJ;assumption) (by assumption) _ rfl
     .exact GV 2 (by decide) rb vb n q l w g c L F E M k O wc Q S A B I C y m s _ _ (by unfold spJ;assumption) (by assumption) _ rfl
     .exact GV 3 (by decide) rb vb n q l w g c L F E M k O wc Q S A B I C y m s _ _ (by unfold spJ;assumption) (by assumption) _ rfl
     .exact GV 4 (by decide) rb vb n q l w g c L F E M k O wc Q S A B I C y m s _ _ (by unfold spJ;assumption) (by assumption) _ rfl
     .exact PL 5 (by decide) rb vb n q l w g c L F E M k O wc Q S A B I C y m s _ _ (by unfold spJ;assumption) (by assumption) _ rfl
     .exact PL 6 (by decide) rb vb n q l w g c L F E M k O wc Q S A B I C y m s _ _ (by unfold spJ;assumption) (by assumption) _ rfl
     .exact PL 7 (by decide) rb vb n q l w g c L F E M k O wc Q S A B I C y m s _ _ (by unfold spJ;assumption) (by assumption) _ rfl
     .exact Y1k rb vb n q l w g c L F E M k O wc Q S A B I C y m s _ _ (by unfold spJ;assumption) (by assumption) _ rfl
     .exact Y1l rb vb n q l w g c L F E M k O wc Q S A B I C y m s _ _ (by unfold spJ;assumption) (by assumption) _ rfl
    case rest=>
     obtain⟨x,hS,hX⟩:=hcut;have c4:=X1 hS;have c5:=X1 hX;have o5:=hS.cells.2.2.1;obtain⟨q0,q1,q2,q3,q4,qf⟩:=hS.node I;have d1:=qf (k*5);have d2:=qf (k*5+1);have d3:=qf (k*5+2);have d4:=qf (k*5+3);have d5:=qf (k*5+4);obtain⟨y0,y1,y2,y3,y4,_⟩:=hX.cells;have K:=X1 (hS.Xfg (k:=k) x hX.sh I);have c7:(l.set k x).length=l.length:=by simp
     have b5:Hid (NR _ (.l F l.length E) (l.set k x)):=X1 ⟨Qo K.o.o (Xb _),K.o.sh⟩;have d:=X1 (K.o.ret b5.o);have o6:=K.o.cells.2.2.1;have t0:=K.o.cells.2.1;have ft:=K.o.cells.2.2.2.1;clear hS hX qf m s;go_wp2;exact Xq (v:= .agg #[(.l F l.length E)]) (by simp[results,results35,go_sem,t0]) rfl ⟨_,_,rfl,d.o.1,by omega,d.o.2.1.mono (by omega),d.o.2.2⟩
theorem TW[LB](m:Nat)(v:Value)(w:World)(h:ByV w v m)(k:Ji<=w.heap.size):Calls prog 4 #[v] w (DTk w):=TX (fun rb vb n q w h s=>Cm rb vb n (fun gb d kd a r=>Cy gb rb vb n d kd a r) (fun gb g j=>A0 gb rb vb n g j) q w h s) (fun rb vb n=>Ee rb vb n) m v w h k
theorem TY(m:Nat)(v:Value)(w:World)(h:ByV w v m):Calls prog 4 #[v] w fun e w'=>∃v l,e= .returned (.agg #[v])/\NR w' v l/\l.length<=300000/\Below w.heap.size w w':=by
 have d:∀I:Inhabited Bs,@Ji I=w.heap.size->Calls prog 4 #[v] w fun e w'=>∃v l,e= .returned (.agg #[v])/\NR w' v l/\l.length<=300000/\BL w w':=fun I g=>by
  go_fit(TW m v w h (by rw[g];exact X5 _));rintro e w'⟨v',l,rfl,n,k,a⟩;exact⟨v',l,rfl,n,k,⟨a.os,a.tape,a.output,a.size,fun b j=>a.old b j (by rw[g];exact j)⟩⟩
 exact d ⟨(show Bs from w.heap.size)⟩ rfl
theorem TV(m:Nat)(v:Value)(w:World)(h:ByV w v m):Calls prog 9 #[v] w fun e w'=>∃s:ByteArray,e= .returned (.string s)/\s.size<=300000/\Below w.heap.size w w':=by
 have g:∀I:Inhabited Bs,@Ji I=w.heap.size->Calls prog 9 #[v] w fun e w'=>∃s:ByteArray,e= .returned (.string s)/\s.size<=300000/\BL w w':=fun I j=>by
  go_fit(TU (fun rb vb n q w h B=>Cm rb vb n (fun gb d kd r A=>Cy gb rb vb n d kd r A) (fun gb u y=>A0 gb rb vb n u y) q w h B) (fun rb vb n=>Ee rb vb n) m v w h (by rw[j];exact X5 _));rintro e w'⟨s,rfl,C,a⟩;exact⟨s,rfl,C,⟨a.os,a.tape,a.output,a.size,fun b k=>a.old b k (by rw[j];exact k)⟩⟩
 exact g ⟨(show Bs from w.heap.size)⟩ rfl
end
open Go.ChangeShapes Go.WideShapes Go.ChangeAt Go.ChangeMaps
theorem own:ownKnob prog.godebug=none:=by kernel_rfl
theorem Bi:laidOutB prog=true:=by kernel_rfl
theorem TA:prog.cellsOf 9=1:=by kernel_rfl
theorem Tz:prog.cellsOf 3=1:=by kernel_rfl
theorem Tw:prog.cellsOf 197=2:=by kernel_rfl
theorem AN{P:Program}{n nm:String}{d:DataW Unit}{r:List (String × DataW Unit)}{W:World}{g:Nat}{ti:TypeId}{E:Array (String × TypeId)}(h:laidMet P ((n,.iface nm d)::r) W)(B:P.globalNamed n=some g)(C:(P.globals[g]?).map (·.type)=some ti)(hi:P.underlying ti=some (.interface E)): ∃u v,W.cell? ⟨g,0,none⟩=some (.iface u v):=by
 obtain⟨M,⟨K,N,A,I,L,q0,a,s,y,k,_,F⟩,_,m⟩:=h;obtain rfl:=Zq (B.symm.trans a);obtain rfl:=Zq (C.symm.trans s);obtain⟨J,u,v,j,_,_⟩:=iface_of_trod hi k;refine⟨u,v,?_⟩;have:=World.var?_cell a y 0;rw[Array.eq_one_of_toList j]at this;simpa using this
theorem X1o:prog.globalNamed "strconv.ErrRange"=some 3:=by kernel_rfl
theorem X1p:prog.globalNamed "strconv.ErrSyntax"=some 2:=by kernel_rfl
theorem O4:prog.globalNamed "loop.example/kilnclay/impl.opForms"=some 0:=by kernel_rfl
theorem Y1x:(prog.globals[3]?).map (·.type)=some 187:=by kernel_rfl
theorem Y1y:(prog.globals[2]?).map (·.type)=some 187:=by kernel_rfl
theorem Y1w:(prog.globals[0]?).map (·.type)=some 198:=by kernel_rfl
theorem X9c:Rows.laid_loop_example_kilnclay_impl_opForms=DataW.agg (H:=Unit) ((List.range 15).map fun o=> .agg [.lit (.string (Yd o)),.lit (.int .i64 (Xi o:Nat))]):=rfl
theorem X1m{r:List (String × DataW Unit)}{W:World}(h:laidMet prog (("loop.example/kilnclay/impl.opForms",Rows.laid_loop_example_kilnclay_impl_opForms)::r) W):Ip.Zy W:=by
 obtain⟨ps,⟨g0,t0,a,f0,p0,q0,A,E,y,u,_,Z⟩,_,B⟩:=h;obtain rfl:=Zq (O4.symm.trans A);obtain rfl:=Zq (Y1w.symm.trans E);rw[X9c]at u;obtain⟨M,m,_,U,hl,V,j⟩:=DataW.trod_array underlying198 u;have v:(List.range 15).map (fun o=>(DataW.agg [.lit (.string (Yd o)),.lit (.int .i64 (Xi o:Nat))]:DataW Unit))=M.map (·.1):=by
  have:=Yt Prod.fst U;injection this
 intro o ho;have d:o<15:=by omega
 have L:=j o d;rw[Tw,K0 (by omega)]at L;obtain⟨y0,y1,k,X,K,J,g⟩:=trod_struct2 underlying197 L;have hm:((List.range 15).map (fun o=>(DataW.agg [.lit (.string (Yd o)),.lit (.int .i64 (Xi o:Nat))]:DataW Unit)))[o]?=(M.map (·.1))[o]?:=by rw[v]
 rw[Mi,Mi,List.getElem?_range d,K0 (by omega),X]at hm;simp only[TA,Tz]at J g;obtain⟨s,S,I,_⟩:=DataW.trod_string underlying9 J;obtain⟨n,Q,F,_⟩:=DataW.trod_int underlying3 g;subst I F;simp only[UA,ZO,DataW.agg.injEq,List.cons.injEq,DataW.lit.injEq,Lit.string.injEq,Lit.int.injEq,and_true,I0]at hm;have C:s=⟨(Yd o).toArray⟩:=Mb (Rf.1 (by rw[←hm.1]));have N:a.toList[o*2]?=some (.string s):=by
  have g:((((a.toList.drop (o*2)).take 2).drop 0).take 1)[0]?=some (.string s):=by rw[S];rfl
  simpa[Dq]using g
 have O:a.toList[o*2+1]?=some (.q n):=by
  have g:((((a.toList.drop (o*2)).take 2).drop 1).take 1)[0]?=some (.q n):=by rw[Q];rfl
  simpa[Dq]using g
 refine⟨?_,?_⟩
 .rw[World.var?_cell O4 y (o*2),←C];simpa using N
 .rw[World.var?_cell O4 y (o*2+1),hm.2];simpa using O
theorem Tv:prog.cellsOf 5=1:=by kernel_rfl
section
variable {H:Type} {enc:TypeId × Value->H} {W:World} {sp:Nat->Bool}
theorem Xcp{n:Nat}{v:Value}{x:DataW H × List MemPlace}(h:DataW.trod enc prog W 0 (fun _=>true) true n 22 [v]=some x): ∃m,ByV W v m:=by
 rcases Deep.open_slice1 underlying22 Tv h with⟨j,_⟩|⟨a,len,cap,m,k,V,D,N,j,_,I,E,hm,_,L⟩
 .cases j;exact⟨0,.inl ⟨none,0,rfl,rfl⟩⟩
 .cases j;have J:m=cap:=by simpa using hm
  by_cases A:len=0
  .subst A;exact⟨0,.inl ⟨_,_,rfl,rfl⟩⟩
  .have g:∀i,i<len->∃b:Nat,b<256/\W.cell? (a.add i)=some (.int .u8 (b:Int)):=by
    intro i hi;obtain⟨B,C⟩:=L i (by omega);obtain⟨z,e,_,r⟩:=DataW.trod_int underlying5 C;have y:V i= .int .u8 z:=by simpa using e
    simp[Lit.wf]at r;have M:(0:Int)<=z:=r.1;have O:z<=255:=r.2;exact⟨z.toNat,by omega,by rw[B,y,Rk M]⟩
   obtain⟨u,_,d⟩:=g 0 (by omega);obtain⟨b,o,s⟩:=a;have K:s=none:=by
    cases s with
    | none=>rfl
    | some q=>
     simp only[Addr.add,World.cell?]at d;split at d<;>simp at d
   subst K;refine⟨len,.inr ⟨b,o,cap,rfl,by omega,by omega,?_,fun i hi=>?_⟩⟩
   .exact QE W ⟨b,o,none⟩ (show W.cell? ⟨b,o,none⟩=some (.int .u8 (u:Int))from by simpa[Addr.add]using d)
   .obtain⟨k,F,j⟩:=g i hi;rw[Y8]at j;exact⟨k,F,j⟩
theorem Xco{a:Value}{g:DataW H}{p:List MemPlace}(k:a.cells=#[a])(j:DataW.Trod enc prog W 0 (fun _=>true) true 22 a g p): ∃m,ByV W a m:=by
 obtain⟨fuel,d⟩:=j;rw[k]at d;exact Xcp d
end
theorem X9d:Rows.laid_internal_strconv_uint64pow10=Lib.tabData (H:=Unit) .u64 Lib.pow10Tab:=rfl
theorem X1x{W:World}(h:laidMetH prog Rows.fnTreeRow.laid W):GL W:=by
 rw[MakeChecks.laidMetH_plain _ _ _ (by kernel_rfl)]at h;have g:=h.tail.tail;have a:=g.tail;obtain⟨r,u,d⟩:=AN a X1o Y1x underlying187;obtain⟨n,s,m⟩:=AN a.tail X1p Y1y underlying187;have j:=g;rw[X9d]at j;have k:=Lib.tabIs_of_head O7 (t:=229) (by kernel_rfl) underlying229 underlying178 (by kernel_rfl) (by kernel_rfl) j;exact⟨⟨X1m a.tail.tail,k,QE W ⟨4,0,none⟩ (k.cell O7 0 (by decide))⟩,⟨⟨n,s,m⟩,⟨r,u,d⟩,QE W ⟨3,0,none⟩ d⟩⟩
theorem TP(os:Os)(args:Array Value):laidMetH prog Rows.fnTreeRow.laid ((World.doorLaid prog 259 os).forCall (fun _ _=>0) ⟨#[],args,[]⟩).memory:=laidMetH_of_parts3 (fuel:=8) (laidMet_of_run' 8 (by kernel_rfl) (by kernel_rfl)) (by kernel_rfl) (by kernel_rfl)
theorem X8u(os:Os)(d:os.Started)(H:Type)(enc:TypeId × Value->H): ReturnsInHanded {} checked os 3 .any (fun w args=>(Rows.fnTreeSpec.pre enc prog f3 [] false w args/\laidMetH prog Rows.fnTreeRow.laid w)/\sizedMet enc prog f3 (OpenSpec.ofChange Rows.fnTreeSpec) false w args) (Rows.fnTreeSpec.post enc prog f3 false true false false):=by
 refine returnsInHanded_of_change_and (C:=checked) (X:=fun w _=>laidMetH prog Rows.fnTreeRow.laid w) (fun _ _ _ U h=>h.of_heap U) own d (by kernel_rfl) func3
  (ChangeSpec.witness_shaped (enc:=enc) (C:=checked) (os:=os) (X:=fun w _=>laidMetH prog Rows.fnTreeRow.laid w) false (World.doorLaid prog 259 os) #[.slice none 0 0] 8 rfl (World.shaped_of_RefB (by kernel_rfl) (by kernel_rfl)) (by kernel_rfl) (by kernel_rfl) (by kernel_rfl) (TP os _)) ?_
 intro W base args K L s a I _ _ F _;have g:∀(j:Nat) t v,f3.params[j]?=some t->args[j]?=some v->Value.okWide prog W .any base t v:=a;have r:=I;obtain⟨p,q,k,O,rfl,S,V⟩:=I;have E:DataW.TrodAll enc prog W 0 (fun _=>true) true f3.params.toList args.toList K p:=k;rw[params3]at E g;obtain⟨v0,J,rfl,rfl,B⟩:=trodAll_one E;have m:DataW.TrodVars enc prog W (fun _=>true) ["loop.example/kilnclay/impl.opForms"] L q:=O;obtain⟨_,_,_,_,dg,_,rfl,_⟩:=trodVars_one m;have u:=B;have A:∀x∈p,x.block<W.heap.size:=fun x Z=>by simpa using r.lt x (by simp[Z])
 obtain⟨a0,l0,c0,rfl⟩:=okWide_slice underlying22 (g 0 22 v0 rfl rfl);obtain⟨n,N⟩:=Xco rfl B;have M:=X1x F;clear k a F;refine(X8j (fun n v w h=>TY n v w h) (fun n v w h=>TV n v w h) n _ W N M).mono fun e W' ⟨Q,y⟩=>?_;subst Q;exact⟨_,rfl,[J],[dg],_,[],p,q,r,trodAll_mk1 (shut_bool underlying4 _),trodAll_mk1 (Below.trod Bi (by kernel_rfl) (Qn (by kernel_rfl)) u y A),Below.trodVars Bi y (by kernel_rfl) m,y.frame _,fun h=>by cases h⟩
theorem Y0r:Rows.FnTreeSaid:=
 OpenClaim.holds_of_wide 3 f3 rfl rfl rfl rfl rfl rfl rfl ⟨rfl,rfl,rfl,rfl,rfl⟩ rfl rfl rfl rfl rfl (by kernel_rfl) func3 (by kernel_rfl)
  (Qn (by kernel_rfl)) (by unfold Func.isWrapper;first|(rw[Xa (by decide +kernel)];kernel_rfl)|(rw[X6 (by decide +kernel)];exact⟨rfl,rfl⟩))
  (fun os a H enc _=>X8u os a H enc)
theorem Xdy(f:FuncId)(fn:Func)(g:Tryz.pinned.checked.prog.funcNamed Rows.fnTreeRow.func=some f)(a:Tryz.pinned.checked.prog.funcs[f]?=some fn): true=Tryz.pinned.checked.prog.looks []/\∀(j:Nat) t,fn.params[j]?=some t->Tryz.pinned.checked.prog.wantsStandIn t=false:=by
 obtain rfl:f=3:=Zq ((show prog.funcNamed Rows.fnTreeRow.func=some 3 by kernel_rfl).symm.trans g) |>.symm;obtain rfl:fn=f3:=(Zq (func3.symm.trans a)).symm;refine⟨by kernel_rfl,fun j t d=>?_⟩;rw[params3]at d;obtain rfl:t=22:=by simpa using Re d
 exact(show prog.wantsStandIn 22=false by kernel_rfl)
theorem cardTr:Rows.FnTreeCardSaid:=Claim7.holds_tied_plain_at .later [] _ _ _ _ Y0r (fun _ h=>by cases h) (by kernel_rfl) (fun _ h=>by cases h) fnTree_row_tie rfl ⟨rfl,rfl⟩ (by kernel_rfl) rfl Xdy (by kernel_rfl)
