import Derived.Test.YtaeafhenpjnhiaaGreatDoorE25
import Derived.Test.YtaeafhenpjnhiaaGreatDoorE26
import Derived.Test.YtaeafhenpjnhiaaGreatDoorE27
set_option maxHeartbeats 4000000
set_option maxRecDepth 100000
namespace Go.Proofs.YtaeafhenpjnhiaaGreatDoor
open Tryz Go.RowKit
section
abbrev Uu:Obj:= .cells #[.slice none 0 0] 25
abbrev Zv(a b:Int):Obj:= .cells #[.q a,.q b] 29
structure PB (w W:World):Prop where
 B:Below w.heap.size w W
 z:w.heap.size+1<W.heap.size
 t0:W.cell? ⟨w.heap.size,0,none⟩=some (.slice none 0 0)
 f0:W.cell? ⟨w.heap.size+1,0,none⟩=some (.q 0)
 f1:W.cell? ⟨w.heap.size+1,1,none⟩=some (.q 0)
 ft:W.frozen? ⟨w.heap.size,0,none⟩=false
 ff:∀j,W.frozen? ⟨w.heap.size+1,j,none⟩=false
theorem PB.new(w:World):PB w ((w.alloc Uu).alloc (Zv 0 0)):=by
 have a:=(X8 (w.heap.size+1) (w.alloc Uu)).alloc (by simp) (Zv 0 0);refine⟨(bA _).alloc (by simp) _,by simp,(a.cell (p:=⟨w.heap.size,0,none⟩) (Q9 _)).trans (by simp),?_,?_,(a.frozen (p:=⟨w.heap.size,0,none⟩) (Q9 _)).trans (by simp),fun j=>?_⟩
 .rw[World.cell?,show w.heap.size+1=(w.alloc Uu).heap.size from by simp,YV];rfl
 .rw[World.cell?,show w.heap.size+1=(w.alloc Uu).heap.size from by simp,YV];rfl
 .rw[World.frozen?,show w.heap.size+1=(w.alloc Uu).heap.size from by simp,YV];simp
theorem PB.below{w W d:World}(h:PB w W)(a:BL W d):PB w d:=⟨h.B.trans (a.mono h.B.size),XH h.z a.size,(a.cell (p:=⟨w.heap.size,0,none⟩) (show w.heap.size<W.heap.size by have:=h.z;omega)).trans h.t0,(a.cell (p:=⟨w.heap.size+1,0,none⟩) h.z).trans h.f0,(a.cell (p:=⟨w.heap.size+1,1,none⟩) h.z).trans h.f1,(a.frozen (p:=⟨w.heap.size,0,none⟩) (show w.heap.size<W.heap.size by have:=h.z;omega)).trans h.ft,fun j=>(a.frozen (p:=⟨w.heap.size+1,j,none⟩) h.z).trans (h.ff j)⟩
theorem Xdj(s:ByteArray)(w:World)(H:s.size<=1048576)(C:Yf s≠0): CB 10 #[.string s] w (.tuple #[.agg #[.slice none 0 0],.agg #[.q (Yf s),.q (Ye s)]]):=by
 have k:=X1 (PB.new w);have n:=X1 (LP s ((w.alloc Uu).alloc (Zv 0 0)) H);have F:¬((Yf s:Nat):Int)=0:=by omega
 have E:(((Yf s:Nat):Int)!=0)=true:=by simpa using C
 go_enter func10,ntmps10;go_wp2_with fail;go_fit n.o;rintro e L⟨v,rfl,j,g⟩;have d:=k.o.below g;have a:=d.below (bA (Zv (Yf s) (Ye s)));have I:=a.t0;have r:=a.f0;have u:=a.f1;have J:=a.ft;have y:=a.ff 0;have A:=a.ff 1;have K:=d.z;have m:=X1 a;clear d a g j n;go_wp2;go_region;all_goals
  try go_wp2
  refine Xq (v:= .tuple #[.agg #[.slice none 0 0],.agg #[.q (Yf s),.q (Ye s)]]) (by simp[results,results10,go_sem,I,r,u]) rfl ⟨rfl,?_⟩;repeat(first|(refine Qw ?_ (by show w.heap.size<=_;simp) _)|(refine Jp ?_))
  exact m.o.B
section
variable {ts:List Sc.T} {sz:Nat}
theorem My(s:Pr.Dk):(Z0 ts sz s).bad=true:=by unfold Z0;split;assumption;rfl
theorem F8(s:Pr.Dk)(t:List UInt8):(Xd ts sz (Z0 ts sz s) t).bad=true:=by
 have h:=My (ts:=ts) (sz:=sz) s;have hi:X4 ts sz (Z0 ts sz s) t=false:=by unfold X4;rw[h];rfl
 unfold Xd;rw[hi];exact My _
theorem Fg(f:Nat)(s:Pr.Dk):(Xc ts sz (f+1) .statement s).1.bad=true\/s.p<(Xc ts sz (f+1) .statement s).1.p:=by
 have st:∀(c:Zb) (s:Pr.Dk),s.p<=ts.length->Pr.Stp ts s (Xc ts sz f c s).1 (XX c):=Mu f;unfold Xc;split
 .rename_i hi;have a:(X2 s).p<=ts.length:=Yb hi;exact .inr ((((((((Pr.Stp.refl a).name (sz:=sz)).run st .params).X7 (sz:=sz) [61]).run st .e).put 20 0 0 (Xe ts sz (X2 s)) ((Xc ts sz f .params (Xm ts sz (X2 s))).2+1)).X7 (sz:=sz) [59]).ge)
 .split
  .rename_i _ hi;have a:(X2 s).p<=ts.length:=Yb hi;exact .inr (((((((Pr.Stp.refl a).name (sz:=sz)).X7 (sz:=sz) [61]).run st .e).put 21 0 0 (Xe ts sz (X2 s)) 1).X7 (sz:=sz) [59]).ge)
  .split
   .rename_i _ _ hi;have a:(X2 s).p<=ts.length:=Yb hi;exact .inr (((((Pr.Stp.refl a).run st .e).put 22 0 0 [] 1).X7 (sz:=sz) [59]).ge)
   .split
    .rename_i _ _ _ hi;have a:(X2 s).p<=ts.length:=Yb hi;split
     .rename_i d;have g:(X2 s).p<ts.length:=QB (sz:=sz) (by simp only[Ql]at d;omega);exact .inr (((((((Pr.Stp.refl a).Z6 g).X7 (sz:=sz) [58]).run st (.YX 0)).put 23 0 0 (X3 ts sz (X2 s)).text (Xc ts sz f (.YX 0) (Xd ts sz (X2 (X2 s)) [58])).2).X7 (sz:=sz) [59]).ge)
     .exact .inl (My _)
    .exact .inl (F8 _ _)
theorem Pr.Cv.on{s:Pr.Dk}{r:Pr.Dk × Nat}(h:Pr.Cv ts sz .statement s r):r.1.bad=true\/s.p<r.1.p:=by
 obtain⟨f,a⟩:=h;have:=Fg (ts:=ts) (sz:=sz) f s
 rwa[a (f+1) (by omega)]at this
end
def Dy(b:Nat)(ts:List Sc.T)(w:World):Nat:=
 match w.cell? ⟨b,3,none⟩with
 | some (.bool true)=>0
 | _=>Y7 b ts w+1
theorem DK.Ve{b a tc:Nat}{ts:List Sc.T}{sz:Nat}{v:Value}{s:Pr.Dk}{w:World}(h:DK b a tc ts sz v s w):Dy b ts w=if s.bad then 0 else ts.length-s.p+1:=by
 unfold Dy;rw[h.c3,h.left];cases s.bad<;>rfl
theorem PB.gr{w W g:World}{b:Nat}{v v':Value}(h:PB w W)(d:Pr.Gr b v v' W g)(r:w.heap.size+1<b)(n:∀q,v.ownBlock=some q->b<q):PB w g:=by
 have k:∀q,q<=w.heap.size+1->g.heap[q]?=W.heap[q]?:=fun q m=>d.mv.block q (by have:=h.z;omega) (fun e=>e.elim (fun e=>by omega) (fun e=>by have:=n q e;omega));refine⟨⟨d.mv.os.trans h.B.os,d.mv.tape.trans h.B.tape,d.mv.output.trans h.B.output,Xz h.B.size d.mv.size,fun q m=>(k q (by omega)).trans (h.B.block q m)⟩,XH h.z d.mv.size,(XQ (a:=⟨w.heap.size,0,none⟩) (k w.heap.size (by omega))).trans h.t0,(XQ (a:=⟨w.heap.size+1,0,none⟩) (k (w.heap.size+1) (X5 _))).trans h.f0,(XQ (a:=⟨w.heap.size+1,1,none⟩) (k (w.heap.size+1) (X5 _))).trans h.f1,(ZC (a:=⟨w.heap.size,0,none⟩) (k w.heap.size (by omega))).trans h.ft,fun j=>(ZC (a:=⟨w.heap.size+1,j,none⟩) (k (w.heap.size+1) (X5 _))).trans (h.ff j)⟩
def VB(w:World)(r:List Nd × Nat × Nat)(e:Ending)(w':World):Prop:=∃v,e= .returned (.tuple #[.agg #[v],.agg #[.q r.2.1,.q r.2.2]])/\w'.ownsRow w.heap.size 64 5 v r.1.length (Xh r.1)/\Below w.heap.size w w'
theorem Ik.EF(ns:List Nd):∀(a:List Nd) (ks:List (List Nat)) (n:List Nat),Jg ns (a.zip ks) n=true->∀k (g:k<a.length) (m:k<ks.length),Xr a[k]=true/\XU ns a[k].kind ks[k]=true:=by
 intro a;induction a with
 | nil=>intro ks n _ k g;simp at g
 | cons d r s=>
  intro ks n j k g m;cases ks with
  | nil=>simp at m
  | cons x t=>
   simp only[Rv,Jg,XE]at j;cases k with
   | zero=>exact⟨j.1.1.2,j.1.2⟩
   | succ k=>exact s t _ j.2 k (by simpa using g) (by simpa using m)
theorem Ik.LZ{x:Nd}(h:Xr x=true):x.text.size<=1000:=by
 unfold Xr at h;split at h
 .cases h
 .rename_i g;cases a:Yq x.kind
  .have d:(x.text.toList==[])=true:=by
    cases k:(x.text.toList==[])
    .exact absurd (by simp[a,k]) g
    .rfl
   rw[Ri]at d;have j:x.text.data.toList=[]:=by simpa using d
   have r:x.text.data.toList.length=0:=by rw[j];rfl
   have s:x.text.size=x.text.data.toList.length:=rfl;omega
  .have n2:x.kind≠2:=fun e=>by rw[e]at a;revert a;decide
   have n3:x.kind≠3:=fun e=>by rw[e]at a;revert a;decide
   have m:x.kind≠6:=fun e=>by rw[e]at a;revert a;decide
   have n:x.kind≠7:=fun e=>by rw[e]at a;revert a;decide
   rw[X6 n2,X6 n3,X6 m,X6 n]at h;split at h
   .have:=Qn h;omega
   .split at h
    .unfold U0 at h;simp only[XE]at h;have:=KP h.1;omega
    .simp only[a,Bool.not_true,I3]at h;unfold K6 at h;simp only[XE]at h;have:=KP h.1.1.1;omega
theorem Ik.num{x:Nd}(h:Xr x=true):(x.kind=2->x.n=0\/x.n=1)/\(x.kind=3->0<=x.n)/\(x.kind=6->x.op=1\/x.op=2)/\(x.kind=7->1<=x.op/\x.op<=14):=by
 unfold Xr at h;split at h
 .cases h
 .refine⟨fun e=>?_,fun e=>?_,fun e=>?_,fun e=>?_⟩
  .rw[e]at h;simpa using h
  .rw[e]at h;simpa using h
  .rw[e]at h;have:=KP (a:=x.op) (by simpa using h:Xs x.op 1 2=true);omega
  .rw[e]at h;exact KP (a:=x.op) (by simpa using h:Xs x.op 1 14=true)
theorem Ik.one{α:Type}{l:List α}(h:l.length=1):∃a,l=[a]:=by
 match l,h with
 | [a],_=>exact⟨a,rfl⟩
theorem Ik.two{α:Type}{l:List α}(h:l.length=2):∃a b,l=[a,b]:=by
 match l,h with
 | [a,b],_=>exact⟨a,b,rfl⟩
theorem Ik.three{α:Type}{l:List α}(h:l.length=3):∃a b c,l=[a,b,c]:=by
 match l,h with
 | [a,b,c],_=>exact⟨a,b,c,rfl⟩
theorem Ik.lens{ns:List Nd}{d:Int}{l:List Nat}(h:XU ns d l=true): (1<=d/\d<=24)/\((d=6\/d=11\/d=17\/d=18\/d=21\/d=22)->l.length=1)/\((d=7\/d=10\/d=14)->l.length=2)/\(d=13->l.length=3)/\(d=16->l.length=2\/l.length=3)/\(d=19->l.length=0\/l.length=1)/\(d=12->l≠[])/\((d=15\/d=20)->l≠[]):=by
 have a:XU ns 12 []=false:=by simp[XU,Z8]
 have g:XU ns 15 []=false:=by simp[XU]
 have j:XU ns 20 []=false:=by simp[XU]
 refine⟨?_,fun e=>?_,fun e=>?_,fun e=>?_,fun e=>?_,fun e=>?_,fun k m=>(by rw[k,m,a]at h;cases h),fun k m=>by rcases k with k|k<;>(rw[k,m]at h;simp[g,j]at h)⟩
 .refine Classical.byContradiction fun n=>?_;unfold XU at h;rw[X6 (by omega),X6 (by omega),X6 (by omega),X6 (by omega),X6 (by omega),X6 (by omega),X6 (by omega),X6 (by omega),X6 (by omega),X6 (by omega),X6 (by omega),X6 (by omega)]at h;cases h
 .rcases e with e|e|e|e|e|e<;>(rw[e]at h;simp[XU]at h;omega)
 .rcases e with e|e|e<;>(rw[e]at h;simp[XU]at h;omega)
 .rw[e]at h;simp[XU]at h;omega
 .rw[e]at h;simp[XU]at h;omega
 .rw[e]at h;simp[XU]at h;omega
theorem Y3a(w:World):CB 16 #[.agg #[.slice none 0 0]] w (.bool false):=by
 have r1:BL w (w.alloc (.cells #[.slice none 0 0] 25)):=bA _;have a:Xs 0 1 5000=false:=by decide
 go_enter func16,ntmps16;go_wp2_with(go_at_call 39;go_fit(ZD _ _ _ _);rintro e w'⟨rfl,rfl⟩);go_ret;exact⟨rfl,r1⟩
theorem NR.Tn{w:World}{v:Value}{l:List Nd}(h:NR w v l):(v= .slice none 0 0/\l=[])\/∃g c,v= .l g l.length c/\K1 w g l:=by
 have d:=h.1;rcases d.2 with⟨a,k⟩|⟨g,c,j,a,_⟩
 .exact .inl ⟨a,Uy.1 k⟩
 .subst a;exact .inr ⟨g,c,rfl,Gu d⟩
theorem Ci(w:World):CB 6 #[.agg #[.slice none 0 0]] w (.t #[]):=by
 have a:=X1 (Y3a (w.alloc (.cells #[.slice none 0 0] 25)));go_enter func6,ntmps6;go_wp2_with fail;go_fit a.o;rintro e g⟨rfl,d⟩;go_wp2;go_ret;exact⟨rfl,(bA _).trans (d.mono (by simp))⟩
end
namespace Sc
theorem Y0s{f k:Nat}{l:List UInt8}{u:T}(h:(scan f k l).1[0]?=some u):u.place=k+Xl false l:=by
 cases f with
 | zero=>simp[scan]at h
 | succ f=>
  rw[scan]at h;split at h
  .simp at h
  .split at h
   .simp at h
   .simp only[Kq,ZO]at h;rw[←h]
theorem Y0t{f k:Nat}{l:List UInt8}(j:l.length<f)(a:(scan f k l).2.1=0)(h:(scan f k l).1[0]?=none):Xl false l=l.length:=by
 cases f with
 | zero=>omega
 | succ f=>
  rw[scan]at h a;split at h
  .rename_i d;have:=G5 false l;have:=Mf.1 d;omega
  .rename_i d;rw[X6 d]at a;split at h
   .rename_i g;rw[Xa g]at a;exact absurd a g
   .simp at h
def Dl(ts:List T)(i e z:Nat):Prop:=(∃u,ts[i+1]?=some u/\e=u.place)\/(ts[i+1]?=none/\e=z)
theorem E2:∀(f k:Nat) (l:List UInt8),l.length<f->(scan f k l).2.1=0->∀(i:Nat) (t:T),(scan f k l).1[i]?=some t->∀e,Dl (scan f k l).1 i e (k+l.length)->k<=t.place/\t.place<e/\e<=k+l.length/\∀m,2<=m->scan m 0 ((l.drop (t.place-k)).take (e-t.place))=([⟨t.kind,t.text,t.n,0⟩],0,0)
 | 0,_,_,h,_,_,_,_,_,_=>by omega
 | f+1,k,l,hf,hc,i,t,hi,e,he=>by
  rw[scan]at hc hi he;by_cases B:l.drop (Xl false l)=[]
  .rw[Xa B]at hi;simp at hi
  .rw[X6 B]at hc hi he;by_cases C:(one (l.drop (Xl false l))).code≠0
   .rw[Xa C]at hi;simp at hi
   .rw[X6 C]at hc hi he;have A:=G6 false l;have K:=G5 false l;generalize S:Xl false l=g at *;generalize v:l.drop g=x at *;have N:x.length=l.length-g:=by rw[←v,YC]
    have r:(one x).code=0:=by omega
    have U:=Vj x r;have L:(x.drop (one x).size).length=x.length-(one x).size:=YC;have s:(x.drop (one x).size).length<f:=by omega
    simp only at hc hi he;have I:=E2 f (k+g+(one x).size) (x.drop (one x).size) s hc;have F:=fun u=>Y0s (f:=f) (k:=k+g+(one x).size) (l:=x.drop (one x).size) (u:=u);have H:=Y0t (f:=f) (k:=k+g+(one x).size) (l:=x.drop (one x).size) s hc;generalize M:(scan f (k+g+(one x).size) (x.drop (one x).size)).1=ts at *;cases i with
    | zero=>
     simp only[Kq,ZO]at hi;subst hi;have J:e=k+g+(one x).size+Xl false (x.drop (one x).size):=by
      rcases he with⟨u,a,rfl⟩|⟨a,rfl⟩
      .rw[ZZ]at a;exact F u a
      .rw[ZZ]at a;have:=H a;omega
     have E:=G5 false (x.drop (one x).size);refine⟨by simp only;omega,by simp only;omega,by omega,fun m d=>?_⟩;simp only;rw[show k+g-k=g from by omega,v,show e-(k+g)=(one x).size+Xl false (x.drop (one x).size)from by omega]
     exact alone x A r m d _ (X5 _)
    | succ j=>
     rw[ZZ]at hi;have y:Dl ts j e (k+g+(one x).size+(x.drop (one x).size).length):=by
      rcases he with⟨u,a,rfl⟩|⟨a,rfl⟩
      .rw[ZZ]at a;exact .inl ⟨u,a,rfl⟩
      .rw[ZZ]at a;exact .inr ⟨a,by omega⟩
     obtain⟨V,O,W,Q⟩:=I j t hi e y;refine⟨by omega,O,by omega,fun m d=>?_⟩;have:=Q m d;rw[←v,Ub,Ub]at this;rw[show t.place-k=g+((one x).size+(t.place-(k+g+(one x).size)))from by omega]
     rw[v]at this;exact this
end Sc
theorem Sc.Xdv{s:ByteArray}(g:Yf s=0){i:Nat}{t:Sc.T}(hi:(Y2 s)[i]?=some t){e:Nat}(k:Sc.Dl (Y2 s) i e s.size): t.place<e/\e<=s.size/\Yf (s.extract t.place e)=0/\Ye (s.extract t.place e)=0/\Y2 (s.extract t.place e)=[⟨t.kind,t.text,t.n,0⟩]:=by
 by_cases v:8000<s.size
 .rw[(IL v).2.2]at hi;simp at hi
 .have j:=DR v;rw[j.1]at g;have F:Y2 s=(Sc.from_ s.data.toList 0).1:=by rw[j.2.2,Xa g]
  rw[F]at hi k;have d:s.data.toList.length=s.size:=by simp
  unfold Sc.from_ at hi k g;rw[Kh]at hi k g;have h:=Sc.E2 (s.data.toList.length+1) 0 s.data.toList (Q9 _) g i t hi e (by rw[Xu,d];exact k);obtain⟨_,y,u,A⟩:=h;rw[Xu,d]at u;have B:(s.extract t.place e).data.toList=(s.data.toList.drop t.place).take (e-t.place):=by
   simp[List.take_drop]
  have E:(s.extract t.place e).size=e-t.place:=by simp;omega
  have m:¬8000<(s.extract t.place e).size:=by omega
  have r:Sc.from_ (s.extract t.place e).data.toList 0=([⟨t.kind,t.text,t.n,0⟩],0,0):=by
   unfold Sc.from_;rw[Kh,B];have C:((s.data.toList.drop t.place).take (e-t.place)).length=e-t.place:=by rw[YO,YC,d];omega
   rw[C];have:=A (e-t.place+1) (by omega);rw[Nat.sub_zero]at this;exact this
  have a:=DR m;exact⟨y,u,by rw[a.1,r],by rw[a.2.1,r],by rw[a.2.2,r];rfl⟩
theorem Y0l{P:Program}{w:World}(base:Nat)(t u ty e:TypeId)(i:TypeInfo)(H:P.underlying t=some (.slice e))(I:P.underlying u=some .string)(hi:P.info? e=some i)(M:i.zero=some (.int .u8 0))(d:i.size=1)(r:i.bytes=1)(v:Value)(n:Nat)(C:List Value)(j:w.ownsRow base e 1 v n C)(s:ByteArray)(B:n+s.size<=maxLen)(k:n+s.size<=140737488355328)(m:base<=w.heap.size): ∃v' w',(Builtin.append_ #[t,u] ty #[v,.string s]).run P w= .ok v' w'/\w'.ownsRow base e 1 v' (n+s.size) (C++Lib.strCells s)/\w.grownBy w' v.ownBlock/\(v'.ownBlock=v.ownBlock\/v'.ownBlock=some w.heap.size):=by
 obtain⟨v',w',E,N,O,Q⟩:=Lib.run_append_own_string (P:=P) w base t u ty e i H I hi M d r v n C j s B k m;refine⟨v',w',E,N,O,?_⟩;have F:n+s.size<=9223372036854775807:=by simp only[maxLen]at B;omega
 rcases j.2 with⟨rfl,rfl⟩|⟨g,cap,J,rfl,S,W,X,U,V,K⟩
 .by_cases hm:s.size=0
  .rw[Q.2 ⟨rfl,hm⟩];exact .inl rfl
  .have a:=run_append_nil_string (P:=P) w t u ty e i (.int .u8 0) H I hi M s (by omega) (by omega) (by rw[r];omega);rw[E]at a;injection a with A;rw[A];exact .inr rfl
 .by_cases y:n+s.size<=cap
  .have a:=Lib.run_append_room_string (P:=P) w t u ty e i H I hi d g n cap J W s y (by omega);rw[E]at a;injection a with A;rw[A];exact .inl rfl
  .have L:C.length=n:=by simpa using j.1
   have a:=Lib.run_append_grow_string (P:=P) w t u ty e i (.int .u8 0) H I hi M ⟨g,0,none⟩ n cap C (by rw[d];simpa using L) (j.cells (g:=g) rfl) s (by omega) (by omega) (by rw[r];exact growslice_fits (by omega) (by omega));rw[E]at a;injection a with A;rw[A];exact .inr rfl
theorem Y3n{P:Program}{w:World}{ops:Array Oper}{g:List Oper}{o:Oper}{a:Act}{Q:Exit->Act->World->Prop}(A:o.guard=none)(sl x:Operand)(t u:TypeId)(I:o.op= .call {callee:= .builtin .append,args:=#[sl,x],argTypes:=#[t,u]})(base:Nat)(e:TypeId)(i:TypeInfo)(M:P.underlying t=some (.slice e))(N:P.underlying u=some .string)(hi:P.info? e=some i)(S:i.zero=some (.int .u8 0))(k:i.size=1)(y:i.bytes=1)(v:Value)(n:Nat)(B:List Value)(L:a.eval sl=v)(m:w.ownsRow base e 1 v n B)(s:ByteArray)(O:a.eval x= .string s)(r:n+s.size<=maxLen)(d:n+s.size<=140737488355328)(j:base<=w.heap.size)(h:∀v' w',w'.ownsRow base e 1 v' (n+s.size) (B++Lib.strCells s)->w.grownBy w' v.ownBlock->(v'.ownBlock=v.ownBlock\/v'.ownBlock=some w.heap.size)->wpList P ops Q g (a.put o.dst v') w'):wpList P ops Q (o::g) a w:=by
 refine wpList_plain A fun K H=>?_;obtain⟨v',w',J,C,E,F⟩:=Y0l (P:=P) (w:=w) base t u o.type e i M N hi S k y v n B m s r d j;unfold Oper.wp execOp;simp only[I,resolve,invoke,builtin,ZB,Jd,ZA,Qg,Y5,YD,L,O,J];exact H _ _ (h v' w' C E F)
structure PtR (ob:Nat) (m v:Value) (t:List UInt8) (w:World):Prop where
 lt:ob<w.heap.size
 c0:w.cell? ⟨ob,0,none⟩=some v
 c1:w.cell? ⟨ob,1,none⟩=some m
 fr:∀j,w.frozen? ⟨ob,j,none⟩=false
 row:w.ownsRow (ob+1) 5 1 v t.length (Y6 t)
theorem PtR.below{d:Nat}{m v:Value}{t:List UInt8}{w w':World}(h:PtR d m v t w)(a:BL w w'):PtR d m v t w':=⟨XH h.lt a.size,(a.cell (p:=⟨d,0,none⟩) h.lt).trans h.c0,(a.cell (p:=⟨d,1,none⟩) h.lt).trans h.c1,fun j=>(a.frozen (p:=⟨d,j,none⟩) h.lt).trans (h.fr j),U3 h.row a⟩
theorem PtR.form{a:Nat}{m v:Value}{t:List UInt8}{w:World}(h:PtR a m v t w):∃p c,v= .slice p t.length c:=XA h.row
theorem PtR.Xfi{d:Nat}{m v v':Value}{t n:List UInt8}{w w':World}(h:PtR d m v t w)(u:w.grownBy w' v.ownBlock)(B:w'.ownsRow (d+1) 5 1 v' n.length (Y6 n)):PtR d m v' n (w'.setCell ⟨d,0,none⟩ v'):=by
 have A:=h.lt;have k:v.ownBlock≠some d:=fun e=>by have:=(h.row.lt d e).1;omega
 have s:w'.heap[d]?=w.heap[d]?:=u.block d A (fun e=>k e.symm);have r:∀j,w'.cell? ⟨d,j,none⟩=w.cell? ⟨d,j,none⟩:=fun j=>XQ (a:=⟨d,j,none⟩) s;refine⟨by rw[World.size_setCell];have:=u.size;omega,Qk _ _ _ ((r 0).trans h.c0),(Zt _ _ _ _ (fun e=>by cases e)).trans ((r 1).trans h.c1),fun j=>?_,?_⟩
 .rw[UJ];exact(ZC (a:=⟨d,j,none⟩) s).trans (h.fr j)
 .exact GQ B (fun g y _=>Y0 _ _ _ _ (show g≠d by omega))
def Ig(ob:Nat)(m v:Value)(t:List UInt8)(w:World)(e:Ending)(w':World):Prop:=e= .returned (.tuple #[])/\∃v',PtR ob m v' t w'/\Pr.Gr ob v v' w w'
theorem Of{d:Nat}{m v:Value}{t:List UInt8}{w:World}(h:PtR d m v t w)(S:ByteArray)(Z:t.length+S.size<=100000000):Calls prog 195 #[.p d,.string S] w (Ig d m v (t++S.data.toList) w):=by
 obtain⟨U,y,B,C,E⟩:=YK WQ;have O:=h.lt;have M:=h.c0;obtain⟨p,c,Q⟩:=h.form;have N:=h.fr 0;have F:=X1 h;clear h;subst Q;have j:=F.o.row;obtain⟨H,n⟩:∃H,H=t++S.data.toList:=⟨_,rfl⟩;rw[←n];have L:=X1 n;clear n;go_enter func195,ntmps195;go_wp2_with(at_builtin;refine Y3n rfl _ _ 22 9 rfl (d+1) 5 U underlying22 underlying9 y B C E _ _ _ rfl j S rfl (by unfold maxLen;omega) (by omega) (by omega) ?_);intro I s g k r;have e:S.size=S.data.toList.length:=Array.length_toList.symm;rw[PQ,←DF,show t.length+S.size=(t++S.data.toList).length by rw[Xj,e]]at g;rw[←L.o]at g;clear e;have K:=X1 (F.o.Xfi k g);have J:=X1 ((Pr.Gr.grown (b:=d) k r).trans (.set I s d 0 I));have u:s.heap[d]?=w.heap[d]?:=k.block d O (fun e=>by have:=(j.lt d e.symm).1;omega);have W:s.cell? ⟨d,0,none⟩=some (.slice p t.length c):=(XQ (a:=⟨d,0,none⟩) u).trans M;have X:s.frozen? ⟨d,0,none⟩=false:=(ZC (a:=⟨d,0,none⟩) u).trans N;obtain⟨p4,V,A⟩:=XA g;subst A;clear g k r u j;go_wp2;refine Xw ?_;exact⟨rfl,_,K.o,J.o⟩
theorem Ga:(prog.info? 44).map (fun i=>(i.zero,i.size,i.bytes))=some (some .nilIface,1,16):=by kernel_rfl
theorem IG(W:World)(v:Value)(t:TypeId)(q:Nat)(a:q=W.heap.size):∀(j:Nat) (u:Value),[v][j]?=some u->(W.alloc (.cells #[v] t)).cell? ((⟨q,0,none⟩:Addr).add j)=some u:=by
 intro j u d;subst a;rw[Y8,Xu,World.cell?,YV];simpa using d
theorem M9{ops:Array Oper}{g:List Oper}{o:Oper}{a:Act}{w:World}{Q:Exit->Act->World->Prop}(H:o.guard=none)(s x:Operand)(W:o.op= .call {callee:= .builtin .append,args:=#[s,x],argTypes:=#[85,85]})(lo lo' n:Nat)(sv v:Value)(l M:List Nd)(K:Ip.Row lo w sv n l)(y:Ip.Pt lo' w v M)(I:lo<=lo')(V:lo<=w.heap.size)(F:∀q,sv.ownBlock=some q->q<lo')(hn:n<=2000000)(X:a.eval s=sv)(Z:a.eval x= .l w.heap.size 1 1)(h:∀v' w',Ip.Row lo w' v' (n+1) (l++M)->Below lo w w'->wpList prog ops Q g (a.put o.dst v') w'):wpList prog ops Q (o::g) a (w.z #[v] 44):=by
 obtain⟨iN,U,E,C,B⟩:=YK Ga;have j:=fun q e=>K.lt (q:=q) e;obtain⟨N,m,O,S⟩:=K;obtain⟨k,y⟩:=y;have d:(w.z #[v] 44).heap.size=w.heap.size+1:=by simp
 have r:∀q,q<w.heap.size->(w.z #[v] 44).heap[q]?=w.heap[q]?:=fun q J=>Below.heap_alloc w _ q J;have A:(w.z #[v] 44).ownsRow lo 44 1 sv n N:=Vn O (fun q e=>(j q e).1) (fun q e=>r q (j q e).2);refine YY _ H s x 85 W lo 44 iN _ 1 16 underlying85 U E C B rfl (by decide) sv n N X A ⟨w.heap.size,0,none⟩ 1 1 [v] Z rfl (IG w v _ _ rfl) (by intro u L;simp only[Kr,QU,J7]at L;rw[L];exact y.one) (by unfold maxLen;omega) (by omega) (by rw[d];omega) ?_;intro v' w' r1 r2 _ r4;refine h v' w' (Ip.Row.push (w:=w.z #[v] 44) (sv:=sv) (m:=m) (k:=k) (S.mono (fun _ _ e=>e.go (fun q z=>⟨z.1,by rw[d];omega,z.2.2⟩) (fun q z=>r q z.2.1))) (y.go (fun q z=>⟨Xz I z.1,by rw[d];omega,fun e=>by have:=F q e;omega⟩) (fun q z=>r q z.2)) r1 r2 r4) ?_;refine⟨r2.os,r2.tape,r2.output,?_,fun q J=>(r2.block q (by rw[d];omega) (fun e=>?_)).trans (r q (by omega))⟩
 .have:=r2.size;rw[d]at this;omega
 .have:=(j q e.symm).1;omega
