import Derived.Test.YtkoiikmhfaebnaaGreatDoorB22
import Derived.Test.YtkoiikmhfaebnaaGreatDoorB25
set_option maxHeartbeats 4000000
set_option maxRecDepth 100000
namespace Go.Proofs.YtkoiikmhfaebnaaGreatDoor
open Tryz Go.RowKit
theorem Hm(l:List Sc.T)(i:Nat)(h:i<l.length):(J8 l)[i*4]?=some (.int .i64 l[i].kind)/\(J8 l)[i*4+1]?=some (.string ⟨l[i].text.toArray⟩)/\(J8 l)[i*4+2]?=some (.int .i64 l[i].n)/\(J8 l)[i*4+3]?=some (.int .i64 l[i].place):=by
 induction l generalizing i with
 | nil=>simp at h
 | cons x r a=>
  have e:J8 (x::r)=[.int .i64 x.kind,.string ⟨x.text.toArray⟩,.int .i64 x.n,.int .i64 x.place]++J8 r:=by simp[J8,Sc.T.cells]
  rw[e]
  match i,h with
  | 0,_=>simp
  | i+1,h=>
   have:=a i (by simpa using h);refine⟨?_,?_,?_,?_⟩;all_goals rw[K6 (by simp;omega)]
   .rw[show(i+1)*4-([.int .i64 x.kind,.string ⟨x.text.toArray⟩,.int .i64 x.n,.int .i64 x.place]:List Value).length=i*4 from by simp;omega];exact this.1
   .rw[show(i+1)*4+1-([.int .i64 x.kind,.string ⟨x.text.toArray⟩,.int .i64 x.n,.int .i64 x.place]:List Value).length=i*4+1 from by simp;omega];exact this.2.1
   .rw[show(i+1)*4+2-([.int .i64 x.kind,.string ⟨x.text.toArray⟩,.int .i64 x.n,.int .i64 x.place]:List Value).length=i*4+2 from by simp;omega];exact this.2.2.1
   .rw[show(i+1)*4+3-([.int .i64 x.kind,.string ⟨x.text.toArray⟩,.int .i64 x.n,.int .i64 x.place]:List Value).length=i*4+3 from by simp;omega];exact this.2.2.2
theorem A6:∀(f k:Nat) (l:List UInt8),(Sc.scan f k l).1.length<=l.length
 | 0,_,_=>by simp[Sc.scan]
 | f+1,k,l=>by
  rw[Sc.scan];split
  .simp
  .split
   .simp
   .rename_i c d;have a:(Sc.one (l.drop (Sc.Xz false l))).code=0:=by omega
    have g:=Sc.MQ _ a;have j:=A6 f (k+Sc.Xz false l+(Sc.one (l.drop (Sc.Xz false l))).size) ((l.drop (Sc.Xz false l)).drop (Sc.one (l.drop (Sc.Xz false l))).size);simp only[Ya,YA]at *;omega
theorem Hx(s:ByteArray):(Jp s).length<=8000:=by
 by_cases h:8000<s.size
 .rw[(PH h).2.2];simp
 .rw[(PI h).2.2];split
  .have:=A6 (s.data.toList.length+1) 0 (s.data.toList.drop 0);simp only[Qm,Oy]at this;unfold Sc.from_;simp only[Qm,Oy];have e:s.data.size=s.size:=rfl;omega
  .simp
abbrev Gv:Obj:= .cells #[.slice none 0 0] 25
abbrev WX(a b:Int):Obj:= .cells #[.int .i64 a,.int .i64 b] 35
structure PB (w W:World):Prop where
 B:Below w.heap.size w W
 z:w.heap.size+1<W.heap.size
 t0:W.cell? ⟨w.heap.size,0,none⟩=some (.slice none 0 0)
 f0:W.cell? ⟨w.heap.size+1,0,none⟩=some (.int .i64 0)
 f1:W.cell? ⟨w.heap.size+1,1,none⟩=some (.int .i64 0)
 ft:W.frozen? ⟨w.heap.size,0,none⟩=false
 ff:∀j,W.frozen? ⟨w.heap.size+1,j,none⟩=false
theorem PB.new(w:World):PB w ((w.alloc Gv).alloc (WX 0 0)):=by
 have a:=(X5 (w.heap.size+1) (w.alloc Gv)).alloc (by simp) (WX 0 0);refine⟨(bA _).alloc (by simp) _,by simp,(a.cell (p:=⟨w.heap.size,0,none⟩) (XI _)).trans (by simp),?_,?_,(a.frozen (p:=⟨w.heap.size,0,none⟩) (XI _)).trans (by simp),fun j=>?_⟩
 .rw[World.cell?,show w.heap.size+1=(w.alloc Gv).heap.size from by simp,XM];rfl
 .rw[World.cell?,show w.heap.size+1=(w.alloc Gv).heap.size from by simp,XM];rfl
 .rw[World.frozen?,show w.heap.size+1=(w.alloc Gv).heap.size from by simp,XM];simp
theorem PB.below{w W c:World}(h:PB w W)(a:BL W c):PB w c:=⟨h.B.trans (a.mono h.B.size),Xd h.z a.size,(a.cell (p:=⟨w.heap.size,0,none⟩) (show w.heap.size<W.heap.size by have:=h.z;omega)).trans h.t0,(a.cell (p:=⟨w.heap.size+1,0,none⟩) h.z).trans h.f0,(a.cell (p:=⟨w.heap.size+1,1,none⟩) h.z).trans h.f1,(a.frozen (p:=⟨w.heap.size,0,none⟩) (show w.heap.size<W.heap.size by have:=h.z;omega)).trans h.ft,fun j=>(a.frozen (p:=⟨w.heap.size+1,j,none⟩) h.z).trans (h.ff j)⟩
theorem Hr(l:List UInt8):(Sc.one l).n<=9223372036854775807:=by
 unfold Sc.one;split
 .exact X6 _
 .split
  .unfold Sc.Jj;split
   .rename_i h;exact h.2.1
   .exact X6 _
  .split
   .unfold Sc.V3;split
    .exact X6 _
    .split<;>exact X6 _
   .split
    .unfold Sc.Gh;split
     .exact X6 _
     .split<;>exact X6 _
    .unfold Sc.V2;split<;>exact X6 _
theorem A7:∀(f k:Nat) (l:List UInt8),∀x∈(Sc.scan f k l).1,(x.n:Int)<9223372036854775808
 | 0,_,_,x,hx=>by simp[Sc.scan]at hx
 | f+1,k,l,x,hx=>by
  rw[Sc.scan]at hx;split at hx
  .cases hx
  .split at hx
   .cases hx
   .rcases Y6.1 hx with rfl|h
    .have:=Hr (l.drop (Sc.Xz false l));show(((Sc.one (l.drop (Sc.Xz false l))).n:Nat):Int)<_;omega
    .exact A7 f _ _ x h
theorem Hy(s:ByteArray):∀x∈Jp s,(x.n:Int)<9223372036854775808:=by
 by_cases h:8000<s.size
 .rw[(PH h).2.2];intro x a;cases a
 .rw[(PI h).2.2];split
  .unfold Sc.from_;exact A7 _ _ _
  .intro x a;cases a
def s0(W:World):Kz:=⟨fun q=>W.heap[q]?,0⟩
theorem WK.init{w:World}{B sz t:Nat}{s:Option Addr}{g:List Sc.T}(h:w.ownsRow B 235 4 (.slice s g.length t) g.length (J8 g))(C:g.length<=8000/\∀x∈g,(x.n:Int)<9223372036854775808):WK ⟨w.heap.size,s,t,g,sz,w⟩ (s0 w) 0 1 (w.alloc (.cells #[.slice s g.length t,.int .i64 sz,.int .i64 0,.bool false,.int .i64 0,.slice none 0 0] 136)):=by
 refine⟨rfl,rfl,rfl,fun q o m=>?_,U3 (X4 _),X6 _,C,fun i hi=>?_,false,0,.slice none 0 0,[],?_,ZJ _ _ _ _,⟨fun q m=>(by cases m),fun _ E=>(by cases E)⟩,X6 _,by simp⟩
 .rw[heap_alloc_old _ _ (Kh.1 m).1];exact m
 .rcases h.2 with⟨_,y⟩|⟨F,v,l,D,H,z,I,J,K,A⟩
  .exact absurd hi (by rw[y];exact U8 _)
  .cases D;obtain⟨a,b,c,d⟩:=Hm g i hi;have k:∀j u,(J8 g)[j]?=some u->l[j]?=some u:=fun j u r=>by
    rw[←A,OY]at r;split at r
    .simpa using r
    .cases r
   exact⟨F,l,_,rfl,z,k _ _ a,k _ _ b,k _ _ c,k _ _ d⟩
 .rw[XM];rfl
theorem WK.back{d:De}{p c:Nat}{w:World}(h:WK d (s0 d.W) p c w)(g:d.W.heap.size<=d.b):Below d.W.heap.size d.W w:=⟨h.os,h.tape,h.output,XO g (GS h.lt),fun q a=>(h.XH q _ (Dt a)).trans (Dt a).symm⟩
def wlB(d:De)(w:World):Nat:=
 match w.cell? ⟨d.b,3,none⟩with
 | some (.bool true)=>0
 | _=>wl d w+1
def Hk(w:World)(e:Ending)(w':World):Prop:=∃(v:Value) (l:List Nd) (cd a:Int),e= .returned (.tuple #[.agg #[v],.agg #[.int .i64 cd,.int .i64 a]])/\w'.ownsRow w.heap.size 48 5 v l.length (Xe l)/\l.length<=60000/\(l=[]\/YS l=true/\∀x∈l,x.n<9223372036854775808)/\Below w.heap.size w w'
theorem Xey(s:ByteArray)(w:World)(hs:s.size<=1048576):Calls prog 24 #[.string s] w (Hk w):=by
 have a7:=X1 (PB.new w);have b5:=Hx s;have a8:=X1 (Hy s);go_enter func24,ntmps24;go_wp2_with fail;refine(Y2m s ((w.alloc Gv).alloc (WX 0 0)) hs).mono ?_;rintro e w1⟨v,rfl,m,M⟩;have D:=a7.o.below M;have d3:=D.z;have k:=D.below (bA (WX (JI s) (JH s)));obtain⟨ta,tc,rfl⟩:=XQ m;have u:=Qi m ((X5 w1.heap.size w1).alloc (X4 _) (WX (JI s) (JH s)));have I:=X1 k;generalize Jp s=ts at *;generalize JH s=at_ at *;generalize JI s=cd at *;by_cases hc:cd=0
 .subst hc;have N:=WK.init (sz:=s.size) u ⟨b5,a8.o⟩;rw[Xb]at N;generalize hd:(⟨w1.heap.size+1,ta,tc,ts,s.size,w1.alloc (WX (0:Nat) at_)⟩:De)=d at *;have n:d.b=w1.heap.size+1:=by rw[←hd]
  have C:d.ts=ts:=by rw[←hd]
  have r:Hid (d.W=w1.alloc (WX (0:Nat) at_)/\d.W.heap.size<=d.b):=X1 (by rw[←hd];exact⟨rfl,by simp⟩);have a0:Hid (d.ta=ta/\d.tc=tc):=X1 (by rw[←hd];exact⟨rfl,rfl⟩);have b0:=X1 N;clear N u m M D k hd;go_wp2_with fail;go_loopw[7] (fun t wr=>∃(z:Int) (q:Nat),t= .int .i64 z/\WK d (s0 d.W) q 1 wr) (fun _ wr=>wlB d wr)
  case atStart=>exact⟨0,0,rfl,by rw[r.o.1];exact b0.o⟩
  case round=>
   obtain⟨z,q,rfl,X⟩:=hrel;obtain⟨bad,a,v,out,x1,x2,x3,x4,x5⟩:=X.st;obtain⟨c0,-,c2,c3,c4,c5,f⟩:=Z2 x1;have b4:=X.le;rw[n,a0.o.1,a0.o.2,C]at c0;rw[n]at c2 c3 c4;rw[C]at b4;have c:=I.o.below (r.o.1 ▸ X.back r.o.2);have J:=X1 c;have b1:Hid (wlB d wr=if bad then 0 else d.ts.length-q+1):=X1 (by unfold wlB;rw[n,c3,X.wl];cases bad<;>rfl)
   have H0:=X1 X;clear x1 x2 x3 x4 c5 f X;cases bad
   .by_cases d2:q<ts.length
    .have H:(q:Int)<(ts.length:Int):=by omega
     have Y:=H0.o.below (X5 _ _).drew;have H1:=X1 Y;clear Y c;go_wp2_with fail;go_region;all_goals
      go_wp2_with fail;refine(by rw[←n];exact Y2o d q _ _ _ H1.o:Calls prog 75 #[.pointer (some ⟨w1.heap.size+1,0,none⟩)] _ (StW d (s0 d.W) q 1)).mono ?_;rintro e A⟨rfl,p2,q2,F,a5⟩;have H2:=X1 F;have HM:=X1 (show wlB d A<wlB d wr from by
       rw[b1.o];have b3:=F.le;rw[C]at b3;rcases a5 with h|h
       .have:wlB d A<=d.ts.length-p2+1:=by unfold wlB;rw[F.wl];split<;>omega
        rw[C]at *;simp only[Du,JR];omega
       .have:wlB d A=0:=by unfold wlB;rw[h]
        simp only[Du,JR];omega)
      clear F a5 c0 c2 c3 c4;go_wp2;go_roundw
      case rel=>exact⟨_,_,rfl,H2.o⟩
      case measure=>exact HM.o
    .have H:¬(q:Int)<(ts.length:Int):=by omega
     have b8:decide ((q:Int)<(ts.length:Int))=false:=Yb H;have Y:=H0.o.below (X5 _ _).drew;obtain⟨b7,a',v',out',x1,-⟩:=Y.st;have b9:wr.drew.cell? ⟨w1.heap.size+1,3,none⟩=some (.bool false):=c3;have H1:=X1 Y;clear Y x1 c;go_wp2_with fail;go_region;all_goals
      go_wp2_with fail;refine(by rw[←n];exact EH H1.o 24 0 0 ⟨#[]⟩ z (by decide):Calls prog 76 #[.pointer (some ⟨w1.heap.size+1,0,none⟩),.agg #[.int .i64 24,.int .i64 0,.int .i64 0,.string ⟨#[]⟩,.int .i64 z]] _ fun e w'=>e= .returned (.tuple #[])/\WK d ⟨(s0 d.W).f,1⟩ q 0 w').mono ?_;rintro e A⟨rfl,F⟩;obtain⟨bad,a,v,L,y1,y2,y3,y4,y5⟩:=F.st;have c5:=(Z2 y1).2.2.2.2.2.1;rw[n]at c5 y2;have y4:1<=L.length:=y4;rcases y2.2 with⟨_,e0⟩|⟨g,P,c8,hv,-⟩
      .omega
      subst hv;have c:=(I.o.below (r.o.1 ▸ (F.less (S:=s0 d.W) (X6 _)).back r.o.2)).below (bA (.cells #[.slice (some ⟨g,0,none⟩) L.length P] 25));have a4:L.length<=60000:=by omega
      have J:=X1 c;have b2:=X1 y3.2;have a1:=X1 (Qi y2 ((X5 A.heap.size A).alloc (X4 _) (.cells #[.slice (some ⟨g,0,none⟩) L.length P] 25)));have HV:=X1 (FL L g P _ (by omega) (Ef a1.o));clear F y1 y2 y3 y4 y5 c c0 c2 c3 c4;obtain⟨bv,y⟩:∃b,YS L=b:=⟨_,rfl⟩;rw[y]at HV;have a9:=X1 y;have a6:=X1 a4;clear y a4;go_wp2_with fail;refine HV.o.mono ?_;rintro c9 b6⟨rfl,l⟩;have j:=J.o.below l;have Z:=j.t0;have Q:=j.f0;have V:=j.f1;have ft:=j.ft;have a2:=j.ff 0;have a3:=j.ff 1;have x0:b6.cell? ⟨A.heap.size,0,none⟩=some (Value.slice (some ⟨g,0,none⟩) L.length P):=(l.cell (p:=⟨A.heap.size,0,none⟩) (show A.heap.size<(A.alloc (.cells #[.slice (some ⟨g,0,none⟩) L.length P] 25)).heap.size by simp)).trans (by simp[go_sem]);have K:=X1 (S0 (Qi a1.o l) (show w.heap.size+2<=w1.heap.size+1+1 by omega));have E:=X1 j;clear l j;cases bv
      .go_wp2;refine X7 (v:= .tuple #[.agg #[.slice none 0 0],.agg #[.int .i64 7,.int .i64 0]]) (by simp[results,results24,go_sem,Z,Q,V]) rfl ⟨_,[],_,_,rfl,ZJ _ _ _ _,X6 _,.inl rfl,?_⟩;repeat(first|(refine VN ?_ (by show w.heap.size<=_;simp) _)|(refine GJ ?_))
       exact E.o.B
      .go_wp2;refine X7 (v:= .tuple #[.agg #[.slice (some ⟨g,0,none⟩) L.length P],.agg #[.int .i64 0,.int .i64 0]]) (by simp[results,results24,go_sem,Z,Q,V]) rfl ⟨_,L,_,_,rfl,?_,a6.o,.inr ⟨a9.o,b2.o⟩,?_⟩
       .refine S0 (base:=w.heap.size+2) ?_ (by omega);repeat(refine MT ?_ (by show _<w.heap.size+2;simp) _)
        exact K.o
       .repeat(first|(refine VN ?_ (by show w.heap.size<=_;simp) _)|(refine GJ ?_))
        exact E.o.B
   .have Z:=c.t0;have Q:=c.f0;have V:=c.f1;have ft:=c.ft;have a2:=c.ff 0;have a3:=c.ff 1;clear c;go_wp2_with fail;go_region;all_goals
     go_wp2;go_region;all_goals
      try go_wp2
      refine X7 (v:= .tuple #[.agg #[.slice none 0 0],.agg #[.int .i64 6,.int .i64 a]]) (by simp[results,results24,go_sem,Z,Q,V]) rfl ⟨_,[],_,_,rfl,ZJ _ _ _ _,X6 _,.inl rfl,?_⟩;repeat(first|(refine VN ?_ (by show w.heap.size<=_;simp) _)|(refine GJ ?_))
      exact J.o.B
 .have d1:¬((cd:Nat):Int)=0:=by omega
  have d0:(((cd:Nat):Int)!=0)=true:=by simpa using hc
  have Z:=k.t0;have Q:=k.f0;have V:=k.f1;have ft:=k.ft;have a2:=k.ff 0;have a3:=k.ff 1;clear D k M m u;go_wp2;go_region;all_goals
   try go_wp2
   refine X7 (v:= .tuple #[.agg #[.slice none 0 0],.agg #[.int .i64 cd,.int .i64 at_]]) (by simp[results,results24,go_sem,Z,Q,V]) rfl ⟨_,[],_,_,rfl,ZJ _ _ _ _,X6 _,.inl rfl,?_⟩;repeat(first|(refine VN ?_ (by show w.heap.size<=_;simp) _)|(refine GJ ?_))
   exact I.o.B
def PY:List Value:=[.string ⟨#[108,101,116,32,115,48,32,61,32,108,101,116,32,110,49,32,61,32,49,32,105,110,32,91,110,49,32,102,111,114,32,110,49,32,105,110,32,91,110,49,93,93,59,10,101,109,105,116,32,123,118,58,32,115,48,125,59,10]⟩,.string ⟨#[108,101,116,32,115,48,32,61,32,108,101,116,32,110,49,32,61,32,49,32,105,110,32,91,110,49,32,43,32,110,50,32,102,111,114,32,110,50,32,105,110,32,91,110,49,93,32,105,102,32,110,49,32,61,61,32,110,50,93,59,10,101,109,105,116,32,123,118,58,32,115,48,125,59,10]⟩,.string ⟨#[108,101,116,32,115,48,32,61,32,108,101,116,32,110,49,32,61,32,49,32,105,110,32,40,102,110,40,110,49,32,61,32,50,41,32,61,62,32,110,49,41,40,41,32,43,32,110,49,59,10,101,109,105,116,32,123,118,58,32,115,48,125,59,10]⟩,.string ⟨#[108,101,116,32,115,48,32,61,32,108,101,116,32,110,49,32,61,32,49,32,105,110,32,40,102,110,40,110,50,44,32,110,49,32,61,32,110,49,41,32,61,62,32,91,110,49,44,32,110,50,93,41,40,110,49,41,59,10,101,109,105,116,32,123,118,58,32,115,48,125,59,10]⟩,.string ⟨#[108,101,116,32,115,48,32,61,32,108,101,116,32,110,49,32,61,32,49,32,105,110,32,40,102,110,40,110,49,44,32,110,50,32,61,32,110,49,41,32,61,62,32,91,110,49,44,32,110,50,93,41,40,55,41,59,10,101,109,105,116,32,123,118,58,32,115,48,125,59,10]⟩,.string ⟨#[108,101,116,32,121,32,61,32,53,59,10,100,101,102,32,102,40,120,44,32,121,32,61,32,121,41,32,61,32,91,120,44,32,121,93,59,10,101,109,105,116,32,123,118,58,32,102,40,49,41,125,59,10]⟩,.string ⟨#[100,101,102,32,102,40,120,44,32,121,32,61,32,121,41,32,61,32,120,59,10]⟩,.string ⟨#[100,101,102,32,102,40,120,32,61,32,120,41,32,61,32,120,59,10,108,101,116,32,120,32,61,32,51,59,10,101,109,105,116,32,123,118,58,32,102,40,41,125,59,10]⟩,.string ⟨#[108,101,116,32,115,48,32,61,32,108,101,116,32,110,49,32,61,32,34,110,101,119,95,110,97,109,101,34,32,105,110,32,110,49,32,43,32,34,110,50,34,59,10,101,109,105,116,32,123,110,101,119,95,110,97,109,101,58,32,115,48,44,32,118,58,32,115,48,46,110,49,125,59,10]⟩,.string ⟨#[100,101,102,32,108,101,110,40,120,41,32,61,32,55,59,10,108,101,116,32,97,32,61,32,108,101,110,40,49,41,59,10,101,109,105,116,32,123,118,58,32,97,125,59,10]⟩,.string ⟨#[108,101,116,32,97,32,61,32,108,101,110,40,91,49,93,41,59,10,100,101,102,32,108,101,110,40,120,41,32,61,32,55,59,10,101,109,105,116,32,123,118,58,32,97,125,59,10]⟩,.string ⟨#[108,101,116,32,110,32,61,32,49,59,10,108,101,116,32,102,32,61,32,102,110,40,120,41,32,61,62,32,110,32,43,32,120,59,10,100,101,102,32,103,40,110,41,32,61,32,102,40,110,41,59,10,101,109,105,116,32,123,118,58,32,103,40,49,48,41,125,59,10]⟩,.string ⟨#[108,101,116,32,102,32,61,32,102,110,40,120,41,32,61,62,32,91,120,44,32,110,93,59,10,108,101,116,32,115,48,32,61,32,108,101,116,32,110,32,61,32,50,32,105,110,32,102,40,110,41,59,10,108,101,116,32,110,32,61,32,57,59,10]⟩,.string ⟨#[108,101,116,32,114,32,61,32,123,97,58,32,49,125,59,10,101,109,105,116,32,123,118,58,32,115,111,114,116,101,100,40,91,114,44,32,123,98,58,32,50,125,44,32,114,93,41,44,32,119,58,32,117,110,105,113,117,101,40,91,114,44,32,123,98,58,32,50,125,44,32,114,93,41,125,59,10]⟩,.string ⟨#[101,109,105,116,32,123,95,58,32,49,44,32,95,95,58,32,123,95,97,58,32,50,125,44,32,34,97,45,98,34,58,32,51,125,59,10]⟩]
theorem X5w[LB](z:Nat)(a:z<15):∃s:ByteArray,PY[z]?=some (.string s)/\s.size<=1000:=by
 have:z=0\/z=1\/z=2\/z=3\/z=4\/z=5\/z=6\/z=7\/z=8\/z=9\/z=10\/z=11\/z=12\/z=13\/z=14:=by omega
 rcases this with rfl|rfl|rfl|rfl|rfl|rfl|rfl|rfl|rfl|rfl|rfl|rfl|rfl|rfl|rfl;all_goals exact⟨_,rfl,by decide⟩
theorem X5v[LB](w:World):Calls prog 25 #[] w fun e w'=>e= .returned (.slice (some ⟨w.heap.size,0,none⟩) 15 15)/\w'.ownsRow 0 9 1 (.slice (some ⟨w.heap.size,0,none⟩) 15 15) 15 PY/\Below w.heap.size w w':=by
 have a:=X1 (XV (base:=0) (e:=9) (size:=1) w PY.toArray 15 (X6 _) (by unfold maxLen;omega) rfl);go_enter func25,ntmps25;go_wp2;go_ret;exact⟨rfl,a.o,bA _⟩
variable (rb:Nat) (vb:Value) (n:Nat)
def Pa[LB]:Prop:=∀(q:Nat) (v:Value) (l:List Nd) (w:World),Rq rb vb n q w->NR w v l->l.length<=300000->q<=700000000->Calls prog 27 #[.pointer (some ⟨rb,0,none⟩),.agg #[v]] w fun e w'=>∃v' l',e= .returned (.agg #[v'])/\NR w' v' l'/\l'.length<=l.length+1/\Rq rb vb n (q+10) w'/\Tf w w'
theorem NR.val[LB]{w:World}{v:Value}{l:List Nd}(h:NR w v l):∃p c,v= .slice p l.length c:=XQ h.1
theorem NR.S9[LB]{w:World}{b o:Nat}{v u:Value}{l:List Nd}(h:NR w v l)(a:Xm w b≠some 48):NR (w.setCell ⟨b,o,none⟩ u) v l:=⟨Kc h.1 a,h.2⟩
theorem TP[LB]{x:Nd}(h:Xh x=true):x.text.size<=1000000:=by
 unfold Xh at h;split at h
 .cases h
 .rename_i d;cases a:XU x.kind
  .have c:(x.text.toList==[])=true:=by
    cases j:(x.text.toList==[])
    .exact absurd (by simp[a,j]) d
    .rfl
   rw[VP]at c;have g:x.text.data.toList=[]:=by simpa using c
   have k:x.text.data.toList.length=0:=by rw[g];rfl
   have l:x.text.size=x.text.data.toList.length:=rfl;omega
  .have n2:x.kind≠2:=fun e=>by rw[e]at a;revert a;decide
   have n3:x.kind≠3:=fun e=>by rw[e]at a;revert a;decide
   have m:x.kind≠6:=fun e=>by rw[e]at a;revert a;decide
   have q:x.kind≠7:=fun e=>by rw[e]at a;revert a;decide
   rw[X2 n2,X2 n3]at h;split at h
   .have:=QR h;omega
   .split at h
    .unfold Uc at h;simp only[XD]at h;have:=Ua h.1;omega
    .simp only[a,Bool.not_true,OD]at h;unfold KT at h;simp only[XD]at h;have:=Ua h.1.1.1;omega
theorem TY[LB]{ns:List Nd}:∀(r:List (Nd × List Nat)) (g:List Nat),Qq ns r g=true->∀p∈r,Xh p.1=true:=by
 intro r;induction r with
 | nil=>intro g _ p c;cases c
 | cons a r j=>
  intro g h p c;obtain⟨d,k⟩:=a;simp only[Qq,XD]at h;rcases Y6.1 c with rfl|c
  .exact h.1.1.2
  .exact j _ h.2 p c
theorem TV[LB]{l:List Nd}(h:YS l=true)(c:∀x∈l,x.n<9223372036854775808):Sh l:=fun x a=>by
 refine⟨?_,c x a⟩
 unfold YS at h
 simp only[XD]at h
 obtain⟨i,hi,rfl⟩:=OZ a
 have g:=Vn h.1.2
 have d:i<(l.zip (Xc l)).length:=by rw[List.length_zip];omega
 have:=TY _ _ h.2 _ (XR d)
 rw[SS]at this
 exact TP this
theorem F3[LB]:Sh []:=fun _ a=>by cases a
theorem X0k[LB](D:∀q w,Rq rb vb n q w->q<=90000000->Calls prog 28 #[.pointer (some ⟨rb,0,none⟩)] w fun e w'=>RTk rb vb n q 250010 w e w')(M:Pa rb vb n)(q:Nat)(w:World)(h:Rq rb vb n q w)(hq:q<=80000000):Calls prog 9 #[.pointer (some ⟨rb,0,none⟩)] w fun e w'=>RTk rb vb n q 250030 w e w':=by
 have J:=h.lt;have b0:BL w (w.alloc (.cells #[.slice none 0 0] 25)):=bA _;have a6:=X1 (h.below b0);have b1:Hid (Ty w (w.alloc (.cells #[.slice none 0 0] 25))):=X1 (.of b0);have c8:Hid ((w.alloc (.cells #[.slice none 0 0] 25)).heap[w.heap.size]?=some (.cells #[.slice none 0 0] 25)):=X1 (XM w _);have D:=X1 D;have M:=X1 M;clear b0 h;go_enter func9,ntmps9;go_wp2_with fail;refine(Rq.pick a6.o (by omega) 30 (by omega) (by omega)).mono ?_;rintro e w1⟨z1,d8,rfl,Z,Q⟩;have E:=X1 Z;have F:=X1 (b1.o.trans Q);have H:=X1 (Ty.same Q c8.o VD);clear Z Q;by_cases d6:(26:Int)<(z1:Int)
 .go_wp2_with fail;refine(X5v w1).mono ?_;rintro e w2⟨rfl,Y,b2⟩;have a7:=X1 (E.o.below b2);have b3:=X1 (F.o.trans (.of b2));have c9:=X1 (TyM.same H.o b2);have a3:=X1 Y;clear Y b2;go_wp2_with fail;refine(Rq.pick a7.o (by omega) 15 (by omega) (by omega)).mono ?_;rintro e w3⟨z3,d9,rfl,a0,K⟩;have a8:=X1 a0;have b7:=X1 (b3.o.trans K);have d0:=X1 (Ty.same K c9.o VD);have a4:=X1 (YL a3.o K (by unfold XS;simp));obtain⟨s3,a2,d7⟩:=X5w z3 (by omega);have d4:=Kb a4.o a2;clear a0 K a2;go_wp2_with fail;refine(Xey s3 w3 (by omega)).mono ?_;rintro e C⟨v4,A,P,N,rfl,y,d3,L,b4⟩;have t:NR C v4 A:=⟨QJ y (X6 _),by rcases L with rfl|h;exact F3;exact TV h.1 h.2⟩;obtain⟨B,c4,V⟩:=t.val;subst V;have b5:BL C (C.alloc (.cells #[.slice B A.length c4] 25)):=bA _;have X:BL C ((C.alloc (.cells #[.slice B A.length c4] 25)).alloc (.cells #[.int .i64 P,.int .i64 N] 35)):=b5.alloc b5.size _;have I:=TyM.same (TyM.same d0.o b4) X;have a9:=X1 ((a8.o.below b4).below X);have b9:=X1 ((b7.o.trans (.of b4)).trans (.of X));have a5:=X1 (t.below X);have W:=(ZK I).1;have ft:=(ZK I).2;have s:Xm ((C.alloc (.cells #[.slice B A.length c4] 25)).alloc (.cells #[.int .i64 P,.int .i64 N] 35)) w.heap.size≠some 48:=by unfold Xm;rw[I];decide
  have d2:Hid (((C.alloc (.cells #[.slice B A.length c4] 25)).alloc (.cells #[.int .i64 P,.int .i64 N] 35)).heap[C.heap.size]?=some (.cells #[.slice B A.length c4] 25)):=X1 (TyM.same (XM C _) (bA _));have y0:=(ZK d2.o).1;clear t y b4 b5 X I L;have l:=X1 (NR.S9 (o:=0) (u:= .slice B A.length c4) a5.o s);have m:=X1 (Rq.set (o:=0) (v:= .slice B A.length c4) a9.o J);have r:=X1 (Uq (o:=0) (v:= .slice B A.length c4) (Ty.tf b9.o) (X4 _));go_wp2;exact X7 (v:= .agg #[.slice B A.length c4]) (by simp[results,results9,go_sem,W]) rfl ⟨_,_,rfl,l.o,by omega,m.o.mono (by omega),r.o⟩
 .by_cases h0:z1=0
  .subst h0;go_wp2_with fail;refine(X4n rb vb n _ _ E.o (by omega)).mono ?_;rintro e w5⟨v5,g,rfl,c,m5,j,d⟩;obtain⟨k,c5,z⟩:=c.val;subst z;have a:=Tf.same d H.o Dd;have W:=(ZK a).1;have ft:=(ZK a).2;have s:Xm w5 w.heap.size≠some 48:=by unfold Xm;rw[a];decide
   have l:Hid (NR (w5.setCell ⟨w.heap.size,0,none⟩ (.slice k g.length c5)) (.slice k g.length c5) g):=X1 ⟨Kc c.1 s,c.2⟩;have m:=X1 (Rq.set (o:=0) (v:= .slice k g.length c5) j J);have r:=X1 (Uq (o:=0) (v:= .slice k g.length c5) ((Ty.tf F.o).trans d) (X4 _));clear c a j d;go_wp2;exact X7 (v:= .agg #[.slice k g.length c5]) (by simp[results,results9,go_sem,W]) rfl ⟨_,_,rfl,l.o,by omega,m.o.mono (by omega),r.o⟩
  have d5:((z1:Int)==0)=false:=by simp;omega
  by_cases h4:(z1:Int)<4
  .go_wp2_with fail;refine(D.o _ _ E.o (by omega)).mono ?_;rintro e C⟨v4,A,rfl,t,m4,a1,S⟩;obtain⟨B,c4,V⟩:=t.val;subst V;have d1:=X1 (Tf.same S H.o Dd);have b8:=X1 ((Ty.tf F.o).trans S);have HQ:=X1 (M.o _ _ _ _ a1 t (by omega) (by omega));clear t a1 S;go_wp2_with fail;refine HQ.o.mono ?_;rintro e w5⟨v5,g,rfl,c,m5,j,d⟩;obtain⟨k,c5,z⟩:=c.val;subst z;have a:=Tf.same d d1.o Dd;have W:=(ZK a).1;have ft:=(ZK a).2;have s:Xm w5 w.heap.size≠some 48:=by unfold Xm;rw[a];decide
   have l:Hid (NR (w5.setCell ⟨w.heap.size,0,none⟩ (.slice k g.length c5)) (.slice k g.length c5) g):=X1 ⟨Kc c.1 s,c.2⟩;have m:=X1 (Rq.set (o:=0) (v:= .slice k g.length c5) j J);have r:=X1 (Uq (o:=0) (v:= .slice k g.length c5) (b8.o.trans d) (X4 _));clear c a j d;go_wp2;exact X7 (v:= .agg #[.slice k g.length c5]) (by simp[results,results9,go_sem,W]) rfl ⟨_,_,rfl,l.o,by omega,m.o.mono (by omega),r.o⟩
  .go_wp2_with fail;refine(D.o _ _ E.o (by omega)).mono ?_;rintro e w5⟨v5,g,rfl,c,m5,j,d⟩;obtain⟨k,c5,z⟩:=c.val;subst z;have a:=Tf.same d H.o Dd;have W:=(ZK a).1;have ft:=(ZK a).2;have s:Xm w5 w.heap.size≠some 48:=by unfold Xm;rw[a];decide
   have l:Hid (NR (w5.setCell ⟨w.heap.size,0,none⟩ (.slice k g.length c5)) (.slice k g.length c5) g):=X1 ⟨Kc c.1 s,c.2⟩;have m:=X1 (Rq.set (o:=0) (v:= .slice k g.length c5) j J);have r:=X1 (Uq (o:=0) (v:= .slice k g.length c5) ((Ty.tf F.o).trans d) (X4 _));clear c a j d;go_wp2;exact X7 (v:= .agg #[.slice k g.length c5]) (by simp[results,results9,go_sem,W]) rfl ⟨_,_,rfl,l.o,by omega,m.o.mono (by omega),r.o⟩
