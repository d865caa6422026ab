import Derived.Test.YtkoiikmhfaebnaaGreatDoorB18
import Derived.Test.YtkoiikmhfaebnaaGreatDoorB24
set_option maxHeartbeats 1000000
set_option maxRecDepth 100000
namespace Go.Proofs.YtkoiikmhfaebnaaGreatDoor
open Tryz Go.RowKit
theorem A5(s:ByteArray)(k:Nat)(m:List UInt8):m.isPrefixOf (s.data.toList.drop k)=((s.extract k (k+m.length)).toList==m):=by
 rw[Lib.extract_toList,show k+m.length-k=m.length from by omega,Y5,SU,List.prefix_iff_eq_take,JP]
 exact⟨fun h=>h.symm,fun h=>h.symm⟩
theorem Hv(s:ByteArray)(k:Nat)(m:List UInt8)(c:1<=m.length)(h:¬k+m.length<=s.size):m.isPrefixOf (s.data.toList.drop k)=false:=by
 rw[Bool.eq_false_iff];intro a;have:=(SU.1 a).length_le;simp at this;omega
theorem Ho(l:List UInt8)(i:Nat)(hi:i<Sc.marks.length)(a:∀(j:Nat) (h:j<Sc.marks.length),j<i->(Sc.marks[j]).isPrefixOf l=false)(c:(Sc.marks[i]).isPrefixOf l=true): Sc.V2 l=⟨0,5,Sc.marks[i],0,(Sc.marks[i]).length⟩:=by
 have:Sc.marks.find? (fun m=>m.isPrefixOf l)=some Sc.marks[i]:=by
  rw[List.find?_eq_some_iff_getElem];exact⟨c,i,hi,rfl,fun j d=>by simp[a j (by omega) d]⟩
 unfold Sc.V2;rw[this]
theorem Hp(l:List UInt8)(c:∀(j:Nat) (h:j<Sc.marks.length),j<23->(Sc.marks[j]).isPrefixOf l=false):Sc.V2 l=Sc.bad 2:=by
 have:Sc.marks.find? (fun m=>m.isPrefixOf l)=none:=by
  rw[List.find?_eq_none];intro x d;obtain⟨j,a,rfl⟩:=OZ d;simp[c j a a]
 unfold Sc.V2;rw[this]
theorem Xee(s:ByteArray)(k:Nat)(w:World)(S:s.size<=1048576)(L:k<s.size)(K:Sc.dig s[k]=false)(A:Sc.beg s[k]=false)(N:((s[k].toNat:Int)==34)=false): Calls prog 138 #[.string s,.int .i64 k] w fun e w'=>e= .returned (QU k (Sc.one (s.data.toList.drop k)))/\Below w.heap.size w w':=by
 rw[Hq s k L K A (by simp at N;omega)];go_enter func138,ntmps138;go_wp2_with(first|(go_at_call 198;refine(KF _ _).mono ?_;rintro e w'⟨rfl,rfl⟩)|(go_at_call 200;refine(Vt _ _).mono ?_;rintro e w'⟨rfl,rfl⟩)|(go_at_call 205;refine(Xca _).mono ?_;rintro e w1⟨rfl,z,P,c⟩;obtain⟨H,Q⟩:=UN z;rw[Xb]at c P));have q:=X1 c;clear c;go_loop[13] (fun t=>∃i:Nat,i<=23/\t= .int .i64 i/\∀(j:Nat) (h:j<Sc.marks.length),j<i->(Sc.marks[j]).isPrefixOf (s.data.toList.drop k)=false) (fun t=>23-(intOf t).toNat)
 case atStart=>exact⟨0,by omega,rfl,fun j _ h=>by omega⟩
 case round=>
  obtain⟨i,hi,rfl,I⟩:=hrel;have l:=X1 I;clear I;by_cases d:i<23
  .have B:=q.o i d;have g:=Sc.E2 Sc.marks[i] (XR _);obtain⟨m,D⟩:∃m,m=Sc.marks[i]:=⟨_,rfl⟩;rw[←D]at B g;have r:=X1 D;clear D;obtain⟨E,M⟩:=g;by_cases F:k+m.length<=s.size
   .cases J:((s.extract k (k+m.length)).toList==m)
    .have y:Hid (m.isPrefixOf (s.data.toList.drop k)=false):=X1 ((A5 s k m).trans J);go_wp2;go_round
     case rel=>
      refine⟨i+1,by omega,by go_num,?_⟩;intro j n C;by_cases e:j=i
      .subst e;have h:=y.o;rw[r.o]at h;exact h
      .exact l.o j n (by omega)
     case measure=>simp[intOf];omega
    .have u:Hid (Sc.V2 (s.data.toList.drop k)=⟨0,5,m,0,m.length⟩):=X1 (by have h:=r.o;rw[h];exact Ho _ i d l.o (by rw[←h];exact(A5 s k m).trans J));go_wp2;have a:BL w w1:=(bA _).trans (z.mono (by simp));refine X7 (v:= .tuple #[.agg #[.int .i64 5,.string ⟨m.toArray⟩,.int .i64 0,.int .i64 k],.int .i64 ((k:Int)+m.length),.int .i64 0]) (by simp[results,results138,go_sem,H]) rfl ⟨by rw[Wi u.o];rfl,?_⟩;exact Vu a (X4 _)
   .have y:Hid (m.isPrefixOf (s.data.toList.drop k)=false):=X1 (Hv s k m E F);go_wp2;go_round
    case rel=>
     refine⟨i+1,by omega,by go_num,?_⟩;intro j n C;by_cases e:j=i
     .subst e;have h:=y.o;rw[r.o]at h;exact h
     .exact l.o j n (by omega)
    case measure=>simp[intOf];omega
  .have u:Hid (Sc.V2 (s.data.toList.drop k)=Sc.bad 2):=X1 (Hp _ (fun j h n=>l.o j h (by omega)));go_wp2;have a:BL w w1:=(bA _).trans (z.mono (by simp));refine X7 (v:= .tuple #[.agg #[.int .i64 0,.string ⟨#[]⟩,.int .i64 0,.int .i64 0],.int .i64 0,.int .i64 2]) (by simp[results,results138,go_sem,H]) rfl ⟨by rw[V4 u.o (by decide)];rfl,?_⟩;exact Vu a (X4 _)
theorem Xec(s:ByteArray)(k:Nat)(a:Int)(w:World)(g:s.size<=1048576)(d:k<s.size)(m:a=(k:Int)): Calls prog 138 #[.string s,.int .i64 a] w fun e w'=>e= .returned (QU k (Sc.one (s.data.toList.drop k)))/\Below w.heap.size w w':=by
 subst m;cases c:Sc.dig s[k]
 .cases j:Sc.beg s[k]
  .cases l:((s[k].toNat:Int)==34)
   .exact Xee s k w g d c j l
   .exact Xei s k w g d c j l
  .exact Xeg s k w g d c j
 .exact Xeh s k w g d c
def Sc.T.cells(x:Sc.T):List Value:=[.int .i64 x.kind,.string ⟨x.text.toArray⟩,.int .i64 x.n,.int .i64 x.place]
def J8(l:List Sc.T):List Value:=l.flatMap Sc.T.cells
theorem Hn(l:List Sc.T)(x:Sc.T):J8 (l++[x])=J8 l++x.cells:=by simp[J8]
theorem X8p:(prog.info? 235).map (fun i=>(i.zero,i.size,i.bytes))=some (some (.agg #[.int .i64 0,.string ⟨#[]⟩,.int .i64 0,.int .i64 0]),4,40):=by kernel_rfl
def Jp(s:ByteArray):List Sc.T:=if 8000<s.size then[]else if(Sc.from_ s.data.toList 0).2.1=0 then(Sc.from_ s.data.toList 0).1 else[]
def JI(s:ByteArray):Nat:=if 8000<s.size then 1 else(Sc.from_ s.data.toList 0).2.1
def JH(s:ByteArray):Nat:=if 8000<s.size then 0 else(Sc.from_ s.data.toList 0).2.2
theorem X2m(w:World)(cs:List Value)(t:TypeId)(j:Nat)(u:Value)(h:cs[j]?=some u):(w.alloc (.cells cs.toArray t)).cell? ((⟨w.heap.size,0,none⟩:Addr).add j)=some u:=by
 have e:((⟨w.heap.size,0,none⟩:Addr).add j)=⟨w.heap.size,j,none⟩:=by simp[Addr.add];exact fun h=>h.symm
 rw[e,World.cell?,XM];simpa using h
theorem Y2d(w:World)(a:Addr)(v:Value):(w.setCell a v).heap.size=w.heap.size:=by simp[World.setCell]
theorem AG{w wr w1:World}{base:Nat}{o1 o2:Obj}{v:Value}{n:Nat}{j:List Value}(a:wr.ownsRow base 235 4 v n j)(c:Below base w wr)(g:base<=wr.heap.size)(d:((wr.alloc o1).alloc o2).grownBy w1 v.ownBlock):Below base w w1:=((c.alloc g _).alloc (by simp;omega) _).grown d (by simp;omega) (fun k e=>(a.lt k e).1)
theorem PH{s:ByteArray}(h:8000<s.size):JI s=1/\JH s=0/\Jp s=[]:=by simp[JI,JH,Jp,h]
theorem PI{s:ByteArray}(h:¬8000<s.size):JI s=(Sc.from_ s.data.toList 0).2.1/\JH s=(Sc.from_ s.data.toList 0).2.2/\Jp s=if(Sc.from_ s.data.toList 0).2.1=0 then(Sc.from_ s.data.toList 0).1 else[]:=by simp[JI,JH,Jp,h]
theorem BT{s:ByteArray}{a:List Sc.T}{k:Nat}(h:JI s=(Sc.from_ s.data.toList 0).2.1/\JH s=(Sc.from_ s.data.toList 0).2.2/\Jp s=if(Sc.from_ s.data.toList 0).2.1=0 then(Sc.from_ s.data.toList 0).1 else[])(c:Sc.from_ s.data.toList 0=(a++(Sc.from_ s.data.toList k).1,(Sc.from_ s.data.toList k).2))(d:Sc.from_ s.data.toList k=([],0,0)):JI s=0/\JH s=0/\Jp s=a:=by
 rw[c,d]at h;simpa using h
theorem BS{s:ByteArray}{j:List Sc.T}{k c:Nat}(h:JI s=(Sc.from_ s.data.toList 0).2.1/\JH s=(Sc.from_ s.data.toList 0).2.2/\Jp s=if(Sc.from_ s.data.toList 0).2.1=0 then(Sc.from_ s.data.toList 0).1 else[])(d:Sc.from_ s.data.toList 0=(j++(Sc.from_ s.data.toList k).1,(Sc.from_ s.data.toList k).2))(g:Sc.from_ s.data.toList k=([],c,k))(a:c≠0):JI s=c/\JH s=k/\Jp s=[]:=by
 rw[d,g]at h;simpa[a]using h
theorem Y2m(s:ByteArray)(w:World)(hs:s.size<=1048576): Calls prog 74 #[.string s] w fun e w'=>∃v,e= .returned (.tuple #[v,.agg #[.int .i64 (JI s),.int .i64 (JH s)]])/\w'.ownsRow w.heap.size 235 4 v (Jp s).length (J8 (Jp s))/\Below w.heap.size w w':=by
 obtain⟨i0,hi,a5,a6,a7⟩:=Yk X8p;by_cases C:8000<s.size
 .obtain⟨c1,c2,c3⟩:=PH C;rw[c1,c2,c3];clear c1 c2 c3;go_enter func74,ntmps74;go_wp2;refine X7 (v:= .tuple #[.slice (some ⟨w.heap.size+1,0,none⟩) 0 0,.agg #[.int .i64 1,.int .i64 0]]) (by simp[results,results74,go_sem]) rfl ⟨_,rfl,?_,?_⟩
  .have:=XV (base:=w.heap.size) (e:=235) (size:=4) (w.alloc (.cells #[.int .i64 1,.int .i64 0] 35)) #[] 0 (by simp) (X6 _) rfl;rw[Xb]at this;exact this
  .exact(bA _).alloc (by simp) _
 .have h0:=fun w=>Cd s 0 0 w hs (X6 _) rfl;have H0:=X1 h0;clear h0;have a2:=X1 (Sc.Cc false s.data.toList);have Y:=X1 (PI C);go_enter func74,ntmps74;go_wp2_with(go_at_call 137;refine(H0.o _).mono ?_;rintro e w'⟨rfl,rfl⟩)
  go_loopw[4,5] (fun v t wr=>∃(k:Nat) (K:List Sc.T),k<=s.size/\t= .int .i64 k/\Sc.Xz false (s.data.toList.drop k)=0/\wr.ownsRow (w.heap.size+1) 235 4 v K.length (J8 K)/\BL w wr/\w.heap.size<wr.heap.size/\
    wr.cell? ⟨w.heap.size,0,none⟩=some (.int .i64 0)/\wr.cell? ⟨w.heap.size,1,none⟩=some (.int .i64 0)/\wr.frozen? ⟨w.heap.size,0,none⟩=false/\wr.frozen? ⟨w.heap.size,1,none⟩=false/\K.length<=k/\
    Sc.from_ s.data.toList 0=(K++(Sc.from_ s.data.toList k).1,(Sc.from_ s.data.toList k).2)) (fun _ t _=>s.size-(intOf t).toNat)
  case atStart=>
   have hg:=a2.o;refine⟨Sc.Xz false s.data.toList,[],by simpa using hg,rfl,Sc.R5 _ _,?_,?_,by simp;omega,by simp,by simp,by simp,by simp,X6 _,?_⟩
   .have:=XV (base:=w.heap.size+1) (e:=235) (size:=4) (w.alloc (.cells #[.int .i64 0,.int .i64 0] 35)) #[] 0 (by simp) (X6 _) rfl;rw[Xb]at this;exact this
   .exact(bA _).alloc (by simp) _
   .have:=Sc.C9 s.data.toList 0 (by simpa using Sc.R5 false s.data.toList);simp only[Qm,Xn]at this;rw[←this];simp
  case round=>
   obtain⟨k,K,hk,rfl,V,q,hB,c,z,A,P,Q,a8,he⟩:=hrel;have M:=X1 he;have HG:=X1 V;clear he V;by_cases F:k<s.size
   .have J:=fun w=>Xec s k k w hs F rfl;by_cases a:(Sc.one (s.data.toList.drop k)).code=0
    .have a4:=Sc.MQ _ a;have l:=Sc.X6n s.data.toList k (by simpa using F) HG.o a;have e:QU k (Sc.one (s.data.toList.drop k))= .tuple #[.agg #[.int .i64 (Sc.one (s.data.toList.drop k)).kind,.string ⟨(Sc.one (s.data.toList.drop k)).text.toArray⟩,.int .i64 (Sc.one (s.data.toList.drop k)).n,.int .i64 k],.int .i64 ((k:Int)+(Sc.one (s.data.toList.drop k)).size),.int .i64 0]:=by
      unfold QU;rw[X3 a]
     rw[e]at J;clear e a;generalize Sc.one (s.data.toList.drop k)=r at *;have HO:=X1 J;have y:=X1 l;obtain⟨a9,E⟩:=a4;simp only[YA,Oy]at E;have X:k+r.size<=s.size:=by have:s.data.size=s.size:=rfl;omega
     clear J l E;go_wp2_with(first
      | (go_at_call 138;refine(HO.o _).mono ?_;rintro e w1⟨rfl,B⟩;obtain⟨N,Z⟩:=UN B;have D:w.heap.size<w1.heap.size:=Xd c B.size;have g:=KJ q B)
      | (at_builtin;refine FX _ rfl _ _ 131 rfl (w.heap.size+1) 235 i0 (.agg #[.int .i64 0,.string ⟨#[]⟩,.int .i64 0,.int .i64 0]) 4 40 underlying131 hi a5 a6 a7 rfl (by decide) _ _ _ rfl ((g.alloc _).alloc _) ⟨w1.heap.size+1,0,none⟩ 1 1 [.int .i64 r.kind,.string ⟨r.text.toArray⟩,.int .i64 r.n,.int .i64 k] rfl rfl ?_ ?_ ?_ ?_ ?_ ?_))
     .intro j u h;have:=X2m (w1.alloc (.cells #[.int .i64 r.kind,.string ⟨r.text.toArray⟩,.int .i64 r.n,.int .i64 k] 235)) _ 235 j u h;rw[Xb]at this;exact this
     .simp[Value.oneCell']
     .unfold maxLen;omega
     .omega
     .simp;omega
     .intro v' I H d _;have a1:BL w I:=((AG g ((X5 _ _)) (by omega) d).mono (by omega)) |> fun h=>(hB.trans (B.mono (by omega))).trans h;have W:w.heap.size<I.heap.size:=by have:=d.size;simp at this;omega
      have m:Below (w.heap.size+1) w1 I:=AG g ((X5 _ _)) (by omega) d;have q0:I.cell? ⟨w.heap.size,0,none⟩=some (.int .i64 0):=(m.cell (p:=⟨w.heap.size,0,none⟩) (XI _)).trans ((N _ _ c).trans z);have q1:I.cell? ⟨w.heap.size,1,none⟩=some (.int .i64 0):=(m.cell (p:=⟨w.heap.size,1,none⟩) (XI _)).trans ((N _ _ c).trans A);have q2:I.frozen? ⟨w.heap.size,0,none⟩=false:=(m.frozen (p:=⟨w.heap.size,0,none⟩) (XI _)).trans ((Z _ _ c).trans P);have q3:I.frozen? ⟨w.heap.size,1,none⟩=false:=(m.frozen (p:=⟨w.heap.size,1,none⟩) (XI _)).trans ((Z _ _ c).trans Q);clear d m N Z z A P Q q g;go_wp2_with(go_at_call 137;refine(Cd s (k+r.size) _ _ hs X (by omega)).mono ?_;rintro e w3⟨rfl,rfl⟩);go_roundw
      case rel=>
       have a3:=Sc.Cc false (s.data.toList.drop (k+r.size));have S:Sc.Xz false (s.data.toList.drop (k+r.size+Sc.Xz false (s.data.toList.drop (k+r.size))))=0:=by have:=Sc.R5 false (s.data.toList.drop (k+r.size));rwa[GM]at this
       simp only[YA,Oy]at a3;have b1:s.data.size=s.size:=rfl;refine⟨k+r.size+Sc.Xz false (s.data.toList.drop (k+r.size)),K++[⟨r.kind,r.text,r.n,k⟩],by omega,by go_num,S,?_,a1,W,q0,q1,q2,q3,by simp;omega,?_⟩
       .rw[Hn,Xo];exact H
       .rw[M.o,y.o,←Sc.C9 s.data.toList (k+r.size) S];simp
      case measure=>simp[intOf];omega
    .have l:=Sc.X6l s.data.toList k (by simpa using F) HG.o a;have e:QU k (Sc.one (s.data.toList.drop k))= .tuple #[.agg #[.int .i64 0,.string ⟨#[]⟩,.int .i64 0,.int .i64 0],.int .i64 0,.int .i64 (Sc.one (s.data.toList.drop k)).code]:=by
      unfold QU;rw[X2 a]
     rw[e]at J;have b0:(((Sc.one (s.data.toList.drop k)).code:Int)!=0)=true:=by simp[a]
     clear e;generalize Sc.one (s.data.toList.drop k)=r at *;have HO:=X1 J;have y:=X1 l;have L:=X1 a;clear J l a;go_wp2_with(go_at_call 138;refine(HO.o _).mono ?_;rintro e w1⟨rfl,B⟩;obtain⟨N,Z⟩:=UN B;have D:w.heap.size<w1.heap.size:=Xd c B.size);refine X7 (v:= .tuple #[.slice (some ⟨w1.heap.size+1,0,none⟩) 0 0,.agg #[.int .i64 r.code,.int .i64 k]]) (by simp[results,results74,go_sem,N,z,A,c,D]) rfl ⟨.slice (some ⟨w1.heap.size+1,0,none⟩) 0 0,?_,?_,?_⟩
     .have h:=BS Y.o M.o y.o L.o;rw[h.1,h.2.1]
     .have h:=BS Y.o M.o y.o L.o;rw[h.2.2];have:=XV (base:=w.heap.size) (e:=235) (size:=4) (((w1.setCell ⟨w.heap.size,0,none⟩ (.int .i64 r.code)).setCell ⟨w.heap.size,1,none⟩ (.int .i64 k)).alloc (.cells #[.int .i64 0,.string ⟨#[]⟩,.int .i64 0,.int .i64 0] 235)) #[] 0 (by simp[World.setCell];omega) (X6 _) rfl;simp only[Xb,Y2d]at this;exact this
     .have a0:=hB.trans (B.mono (GS c));exact((((a0.setCell (p:=⟨w.heap.size,0,none⟩) (X4 _) _).setCell (p:=⟨w.heap.size,1,none⟩) (X4 _) _).alloc (by simp;omega) _).alloc (by simp;omega) _)
   .have l:=X1 (Sc.X6m s.data.toList k (by simp;omega));go_wp2;refine X7 (v:= .tuple #[u4,.agg #[.int .i64 0,.int .i64 0]]) (by simp[results,results74,go_sem,z,A]) rfl ⟨u4,?_,?_,?_⟩
    .have h:=BT Y.o M.o l.o;rw[h.1,h.2.1];rfl
    .have h:=BT Y.o M.o l.o;rw[h.2.2];exact Wj (MT (MT q (by simp) _) (by simp) _) (by omega)
    .exact(hB.setCell (p:=⟨w.heap.size,0,none⟩) (X4 _) _).setCell (p:=⟨w.heap.size,1,none⟩) (X4 _) _
def Zc:List ByteArray:=[[108,101,110],[116,101,120,116],[105,110,116],[114,97,110,103,101],[115,111,114,116,101,100],[117,110,105,113,117,101],[106,111,105,110],[115,112,108,105,116],[107,101,121,115],[114,101,99,111,114,100],[119,105,116,104,111,117,116],[98,101,103,105,110,115],[99,117,116],[102,105,108,101,115],[102,97,105,108]].map fun l=>⟨l.toArray⟩
def U4(w:World):Prop:=0<w.heap.size/\∀j (h:j<Zc.length),w.cell? ⟨0,j,none⟩=some (.string Zc[j])
theorem U4.below{w w':World}(h:U4 w)(a:BL w w'):U4 w':=⟨Xd h.1 a.size,fun j c=>(a.cell (p:=⟨0,j,none⟩) h.1).trans (h.2 j c)⟩
def W6(j:Nat):Sp:=((Zc.take j).map fun x=>(x,(-2:Int))).reverse
theorem X1o:W6 15=Vm:=rfl
theorem X1p(j:Nat):(W6 j).length<=15:=by
 unfold W6;rw[List.length_reverse,Z9,YM];exact Nat.min_le_right _ _
theorem X1n(j:Nat)(h:j<Zc.length):W6 (j+1)=(Zc[j],-2)::W6 j:=by
 unfold W6;rw[Kt h,ZO,List.reverse_append];rfl
theorem X7x(cs:Array Value)(j:Nat)(x:ByteArray)(W:World)(a:j<15)(h:cs[j]?=some (.string x)):(Instr.index 255 (.agg cs) (.int .i64 j)).run prog W= .ok (.string x) W:=by
 simp[Instr.index,part,asIntOf,Gq underlying255,h,Result.andThen];omega
theorem X1q(cg bg:Nat)(w:World)(Z:U4 w)(h1:cg<w.heap.size)(h2:bg<w.heap.size): Calls prog 91 #[] w fun e w'=>e= .returned (.pointer (some ⟨w.heap.size+1,0,none⟩))/\Below w.heap.size w w'/\Zf cg bg w' w'.heap.size (some ⟨w.heap.size+1,0,none⟩) [Vm]:=by
 have a3:=@Gp prog;obtain⟨n0,n1,n2,n3,n4⟩:=MY w none;have a:=X1 (Z.below n3);have e0:=a.o.2 0 (by decide);have e1:=a.o.2 1 (by decide);have e2:=a.o.2 2 (by decide);have e3:=a.o.2 3 (by decide);have e4:=a.o.2 4 (by decide);have e5:=a.o.2 5 (by decide);have e6:=a.o.2 6 (by decide);have e7:=a.o.2 7 (by decide);have e8:=a.o.2 8 (by decide);have e9:=a.o.2 9 (by decide);have L:=a.o.2 10 (by decide);have M:=a.o.2 11 (by decide);have N:=a.o.2 12 (by decide);have P:=a.o.2 13 (by decide);have Q:=a.o.2 14 (by decide);have A:=X1 n0;have B:=X1 n1;have C:=X1 n2;have E:=X1 n3;have F:=X1 n4;clear Z n0 n1 n2 n3 n4;go_enter func91,ntmps91;go_wp2;generalize m:(#[Value.string Zc[0],Value.string Zc[1],Value.string Zc[2],Value.string Zc[3],Value.string Zc[4],Value.string Zc[5],Value.string Zc[6],Value.string Zc[7],Value.string Zc[8],Value.string Zc[9],Value.string Zc[10],Value.string Zc[11],Value.string Zc[12],Value.string Zc[13],Value.string Zc[14]]:Array Value)=cs at *;have a1:cs.size=15:=by rw[←m];rfl
 have y:Hid (∀j (h:j<Zc.length),cs[j]?=some (.string Zc[j])):=X1 (by
  intro j h;rw[←m]
  match j,h with
  | 0,_=>rfl
  | 1,_=>rfl
  | 2,_=>rfl
  | 3,_=>rfl
  | 4,_=>rfl
  | 5,_=>rfl
  | 6,_=>rfl
  | 7,_=>rfl
  | 8,_=>rfl
  | 9,_=>rfl
  | 10,_=>rfl
  | 11,_=>rfl
  | 12,_=>rfl
  | 13,_=>rfl
  | 14,_=>rfl
  | n+15,h=>exact absurd h (by rw[show Zc.length=15 from rfl];omega))
 clear m e0 e1 e2 e3 e4 e5 e6 e7 e8 e9 L M N P Q;go_loopw[8] (fun t wr=>∃j:Nat,j<=15/\t= .int .i64 j/\BL w wr/\w.heap.size+1<wr.heap.size/\wr.cell? ⟨w.heap.size+1,0,none⟩=some (.map (some w.heap.size))/\wr.cell? ⟨w.heap.size+1,1,none⟩=some (.pointer none)/\Kv wr w.heap.size (W6 j)) (fun t _=>15-(intOf t).toNat)
 case atStart=>exact⟨0,X6 _,rfl,E.o,by rw[F.o];omega,A.o,B.o,C.o⟩
 case round=>
  obtain⟨j,hj,rfl,Y,u,c0,c1,s⟩:=hrel;by_cases g:j<15
  .have V:=y.o j g;have HS:=X1 (X1n j g);have a4:Zc[j].size<=1048576:=by
    have:∀x∈Zc,x.size<=1048576:=by decide
    exact this _ (XR g)
   generalize Zc[j]=x at *;have a2:=X7x cs j x wr g V;have a0:=X1p j;obtain⟨D,l,r⟩:=s;have X:=X1 l;have z:=X1 r;have v:=X1 c1;have HY:Hid (keyOf prog 9 (.string x)=some (.string x.data.toList)):=X1 (Ib underlying9 (by unfold maxLen;omega));have I:Hid (plainElem (H:=Unit) prog 3 (.int .i64 (-2))=some (.lit (.int .i64 (-2)),[])):=X1 (plainElem_int underlying3 (by decide));clear l r c1;go_wp2_with(at_mapUpdate;refine FY _ rfl _ _ _ 252 rfl 9 3 Gc underlying252 _ w.heap.size _ D rfl X.o (by unfold maxLen;omega) _ _ _ rfl rfl HY.o _ [] I.o ?_);intro w1 d c;have J:Hid (Kv w1 w.heap.size (W6 (j+1))):=X1 (by rw[HS.o];exact Kv.put z.o X.o.isMap d);have K:w1.cell? ⟨w.heap.size+1,0,none⟩=some (.map (some w.heap.size)):=(Xy (c.block (w.heap.size+1) u (by simp))).trans c0;have q:Hid (w1.cell? ⟨w.heap.size+1,1,none⟩=some (.pointer none)):=X1 ((Xy (c.block (w.heap.size+1) u (by simp))).trans v.o);have S:BL w w1:=Y.grown c (by omega) (fun k e=>by cases e;exact X4 _);have W:=Xd u c.size;clear d c;go_wp2;go_roundw
   case rel=>exact⟨j+1,by omega,by go_num,S,W,K,q.o,J.o⟩
   case measure=>simp[intOf];omega
  .obtain rfl:j=15:=by omega
   go_wp2;go_ret;exact⟨rfl,Y,⟨w.heap.size+1,w.heap.size,none,rfl,u,XI _,by omega,by omega,by omega,by omega,c0,c1,by rw[←X1o];exact s,rfl⟩⟩
