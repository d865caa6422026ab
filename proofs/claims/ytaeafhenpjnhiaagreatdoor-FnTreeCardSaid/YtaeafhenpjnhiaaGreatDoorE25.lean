import Derived.Test.YtaeafhenpjnhiaaGreatDoorE20
import Derived.Test.YtaeafhenpjnhiaaGreatDoorE22
import Derived.Test.YtaeafhenpjnhiaaGreatDoorE23
import Derived.Test.YtaeafhenpjnhiaaGreatDoorE24
set_option maxHeartbeats 16000000
set_option maxRecDepth 100000
namespace Go.Proofs.YtaeafhenpjnhiaaGreatDoor
open Tryz Go.RowKit
section
variable (gb rb:Nat) (vb:Value) (n:Nat)
theorem Xay[LB](d kd:Nat):OfK gb rb vb n d kd 2:=by
 intro m r s q k w h N M K;have L:IntKind.i64.wrap (d:Int)=(d:Int):=by rw[Yp];omega
 have B:=h.B0;have a:=h.c0;have r:=X1 r;have s:=X1 s;have m:=X1 m;clear h;go_enter func120,ntmps120;go_wp2_with fail;go_fit(B.pk 5 (by omega));rintro e w⟨z,C,rfl,a,B⟩;go_wp2_with fail;go_fit(B.pk 6 (by omega));rintro e w⟨z,C,rfl,a,B⟩;by_cases u:z=0
 .subst u;go_wp2_with fail;go_fit(B.e m.o (by omega));rintro e w⟨g,c,l,rfl,j,a,B⟩;go_wp2_with fail;go_fit(B.o1 ⟨6,1,0,⟨#[]⟩,0⟩ (by omega));rintro e w⟨g,c,l,rfl,j,a,B⟩;go_wp2;go_ret;exact B.ret (by omega)
 by_cases v:z=1\/z=2
 .rcases v with rfl|rfl;all_goals
   go_wp2_with fail;go_fit(B.pk 2 (by omega));rintro e w⟨z,C,rfl,a,B⟩;go_wp2_with fail;go_fit(B.e m.o (by omega));rintro e w⟨g,c,l,rfl,j,a,B⟩;go_wp2_with fail;go_fit(B.e m.o (by omega));rintro e w⟨g,c,l,rfl,j,a,B⟩;go_wp2_with fail;go_fit(B.bn _ (by omega));rintro e w⟨g,c,l,rfl,j,a,B⟩;go_wp2;go_ret;exact B.ret (by omega)
 by_cases y:z=3
 .subst y;go_wp2_with fail;go_fit(B.ik Bz [.q 1,.q 3,.q 4] 3 rfl rfl (by omega));rintro e w⟨z,O,C,rfl,cl,a,B⟩;go_wp2_with fail;go_fit(B.e m.o (by omega));rintro e w⟨g,c,l,rfl,j,a,B⟩;go_wp2_with fail;go_fit(B.e m.o (by omega));rintro e w⟨g,c,l,rfl,j,a,B⟩;go_wp2_with fail;go_fit(B.bn _ (by omega));rintro e w⟨g,c,l,rfl,j,a,B⟩;go_wp2;go_ret;exact B.ret (by omega)
 by_cases A:z=4
 .subst A;go_wp2_with fail;go_fit(B.e m.o (by omega));rintro e w⟨g,c,l,rfl,j,a,B⟩;go_wp2_with fail;go_fit(B.e m.o (by omega));rintro e w⟨g,c,l,rfl,j,a,B⟩;go_wp2_with fail;go_fit(B.n2 ⟨#[98,101,103,105,110,115]⟩ (by omega));rintro e w⟨g,c,l,rfl,j,a,B⟩;go_wp2;go_ret;exact B.ret (by omega)
 have E:((z:Int)==0)=false:=by simp;omega
 have F:((z:Int)==1)=false:=by simp;omega
 have H:((z:Int)==2)=false:=by simp;omega
 have I:((z:Int)==3)=false:=by simp;omega
 have J:((z:Int)==4)=false:=by simp;omega
 go_wp2_with fail;go_fit(B.pk 6 (by omega));rintro e w⟨z,C,rfl,a,B⟩;go_wp2_with fail;go_fit(B.e m.o (by omega));rintro e w⟨g,c,l,rfl,j,a,B⟩;go_wp2_with fail;go_fit(B.e m.o (by omega));rintro e w⟨g,c,l,rfl,j,a,B⟩;go_wp2_with fail;go_fit(B.bn _ (by omega));rintro e w⟨g,c,l,rfl,j,a,B⟩;go_wp2;go_ret;exact B.ret (by omega)
theorem Xbb[LB](d kd:Nat):OfK gb rb vb n d kd 4:=by
 intro m s r q k w h K J H;have I:IntKind.i64.wrap (d:Int)=(d:Int):=by rw[Yp];omega
 have B:=h.B0;have a:=h.c0;have s:=X1 s;have r:=X1 r;have m:=X1 m;clear h;go_enter func120,ntmps120;go_wp2_with fail;go_fit(B.pk 6 (by omega));rintro e w⟨z,L,rfl,a,B⟩;by_cases u:z=0
 .subst u;go_wp2_with fail;go_fit(B.e m.o (by omega));rintro e w⟨g,c,l,rfl,j,a,B⟩;go_wp2_with fail;go_fit(B.e m.o (by omega));rintro e w⟨g,c,l,rfl,j,a,B⟩;go_wp2_with fail;go_fit(B.bn _ (by omega));rintro e w⟨g,c,l,rfl,j,a,B⟩;go_wp2;go_ret;exact B.ret (by omega)
 by_cases v:z=1
 .subst v;go_wp2_with fail;go_fit(B.e m.o (by omega));rintro e w⟨g,c,l,rfl,j,a,B⟩;go_wp2_with fail;go_fit(B.mo (We ⟨#[97]⟩ _));rintro e w⟨g,c,l,rfl,j,a,B⟩;go_wp2_with fail;go_fit(B.n2 ⟨#[119,105,116,104,111,117,116]⟩ (by omega));rintro e w⟨g,c,l,rfl,j,a,B⟩;go_wp2;go_ret;exact B.ret (by omega)
 by_cases y:z=2
 .subst y;go_wp2_with fail;go_fit(B.f (by omega));rintro e w⟨F,rfl,a,B⟩;go_wp2_with fail;go_fit(B.mo (Lr F _));rintro e w⟨g,c,l,rfl,j,a,B⟩;go_wp2_with fail;go_fit(B.e m.o (by omega));rintro e w⟨g,c,l,rfl,j,a,B⟩;go_wp2_with fail;go_fit(B.o2 ⟨8,0,0,⟨#[]⟩,0⟩ (by omega));rintro e w⟨g,c,l,rfl,j,a,B⟩;go_wp2_with fail;go_fit(B.e m.o (by omega));rintro e w⟨g,c,l,rfl,j,a,B⟩;go_wp2_with fail;go_fit(B.n1 ⟨#[117,110,105,113,117,101]⟩ (by omega));rintro e w⟨g,c,l,rfl,j,a,B⟩;have B:=B.sw;go_wp2_with fail;go_fit(B.o2 ⟨16,0,0,F,0⟩ (by omega));rintro e w⟨g,c,l,rfl,j,a,B⟩;go_wp2_with fail;go_fit(B.n1 ⟨#[114,101,99,111,114,100]⟩ (by omega));rintro e w⟨g,c,l,rfl,j,a,B⟩;go_wp2;go_ret;exact B.ret (by omega)
 have A:((z:Int)==0)=false:=by simp;omega
 have C:((z:Int)==1)=false:=by simp;omega
 have E:((z:Int)==2)=false:=by simp;omega
 go_wp2_with fail;go_fit(B.nd (r.o _ _ _ B.g (by omega) (by omega)));rintro e w⟨g,c,l,rfl,j,a,B⟩;go_wp2;go_ret;exact B.ret (by omega)
theorem Pr.SOi.cast{b a tc:Nat}{ts:List Sc.T}{sz:Nat}{i j:Int}{r:Nat}{s:Pr.Dk}(h:Pr.SOi b a tc ts sz i r s)(e:i=j):Pr.SOi b a tc ts sz j r s:=e ▸ h
def Ih(b tg tc:Nat)(ts:List Sc.T)(sz:Nat):Prop:=∀s:Pr.Dk,(∀q:Pr.Dk,s.p<=q.p->q.p<=ts.length->Pr.SE b tg tc ts sz q)->Pr.SL b tg tc ts sz s
def Mp(b tg tc:Nat)(ts:List Sc.T)(sz:Nat)(s:Pr.Dk):Prop:=Pr.SE b tg tc ts sz s/\∀r:Nat,1<=r->r<=7->Pr.SOi b tg tc ts sz r r s
theorem Rz{b a tc:Nat}{ts:List Sc.T}{sz:Nat}(u:Wv b a tc ts sz)(n:Ih b a tc ts sz)(s:Pr.Dk)(m:∀q:Pr.Dk,s.p<q.p->q.p<=ts.length->Mp b a tc ts sz q):Mp b a tc ts sz s:=by
 have g:∀q:Pr.Dk,s.p<q.p->q.p<=ts.length->Pr.SE b a tc ts sz q:=fun q h k=>(m q h k).1;have L:∀q:Pr.Dk,s.p<q.p->q.p<=ts.length->Pr.SP b a tc ts sz q:=fun q h _=>C7 fun q' d k'=>g q' (XH h d) k';have J:∀q:Pr.Dk,s.p<q.p->q.p<=ts.length->Pr.SA b a tc ts sz q:=fun q h _=>NK u fun q' d k'=>g q' (XH h d) k';have M:∀q:Pr.Dk,s.p<q.p->q.p<=ts.length->Pr.SR b a tc ts sz q:=fun q h _=>Xfz fun q' d k'=>g q' (XH h d) k';have K:∀q:Pr.Dk,s.p<q.p->q.p<=ts.length->Pr.SL b a tc ts sz q:=fun q h _=>n q fun q' d k'=>g q' (XH h d) k';have N:Pr.SI b a tc ts sz s:=Y1f g K M;have O:Pr.ST b a tc ts sz s:=Xev N g J;have o:∀r:Nat,1<=r->r<=7->Pr.SOi b a tc ts sz r r s:=by
  cases j:s.bad
  .have B:Pr.SOi b a tc ts sz 7 7 s:=Xcu j (fun q h k=>(m q h k).2 7 (by omega) (by omega)) O;have st:∀r:Nat,1<=r->r<=6->r≠3->Pr.SOi b a tc ts sz ((r+1:Nat):Int) (r+1) s->Pr.SOi b a tc ts sz r r s:=fun r C F E h=>
    Xcs r F E j (fun q I k=>((m q I k).2 (r+1) (by omega) (by omega)).cast (by omega)) (h.cast (by omega))
   have A:=st 6 (by omega) (by omega) (by omega) B;have y:=st 5 (by omega) (by omega) (by omega) A;have v:=st 4 (by omega) (by omega) (by omega) y;have o3:Pr.SOi b a tc ts sz 3 3 s:=Xct j (fun q h k=>(m q h k).2 3 (by omega) (by omega)) v;have o2:=st 2 (by omega) (by omega) (by omega) o3;have o1:=st 1 (by omega) (by omega) (by omega) o2;intro r C Q;have H:r=1\/r=2\/r=3\/r=4\/r=5\/r=6\/r=7:=by omega
   rcases H with rfl|rfl|rfl|rfl|rfl|rfl|rfl
   .exact o1
   .exact o2
   .exact o3
   .exact v
   .exact y
   .exact A
   .exact B
  .exact fun r _ _=>Xcv r j
 exact⟨X0c g L (o 1 (by omega) (by omega)),o⟩
theorem RA{b g tc:Nat}{ts:List Sc.T}{sz:Nat}(d:Wv b g tc ts sz)(a:Ih b g tc ts sz):∀(n:Nat) (s:Pr.Dk),s.p<=ts.length->ts.length-s.p<=n->Mp b g tc ts sz s:=by
 intro n;induction n with
 | zero=>intro s h m;exact Rz d a s fun q k j=>by omega
 | succ n r=>intro s h m;exact Rz d a s fun q k j=>r q j (by omega)
theorem Fi{b g tc:Nat}{ts:List Sc.T}{sz:Nat}(d:Wv b g tc ts sz)(a:Ih b g tc ts sz)(s:Pr.Dk):Pr.SS b g tc ts sz s:=Y1q (fun q _ h=>(RA d a _ q h (X5 _)).1) (fun _ _ _=>C7 fun q' _ j=>(RA d a _ q' j (X5 _)).1)
theorem F7(b a tc:Nat)(ts:List Sc.T)(sz:Nat):Wv b a tc ts sz:=fun _ _ _ h=>Xam h
theorem F5(b d tc:Nat)(ts:List Sc.T)(sz:Nat):Ih b d tc ts sz:=fun s a=>by
 cases h:X4 ts sz s [93]
 .exact X9a h a
 .exact X8z h
theorem Fj(b a tc:Nat)(ts:List Sc.T)(sz:Nat)(s:Pr.Dk):Pr.SS b a tc ts sz s:=Fi (F7 b a tc ts sz) (F5 b a tc ts sz) s
theorem DC(l:List Sc.T)(i:Nat)(h:i<l.length):(KO l)[i*4]?=some (.q l[i].kind)/\(KO l)[i*4+1]?=some (.string ⟨l[i].text.toArray⟩)/\(KO l)[i*4+2]?=some (.q l[i].n)/\(KO l)[i*4+3]?=some (.q l[i].place):=by
 induction l generalizing i with
 | nil=>simp at h
 | cons x r a=>
  have e:KO (x::r)=[.q x.kind,.string ⟨x.text.toArray⟩,.q x.n,.q x.place]++KO r:=by simp[KO,Sc.T.cells]
  rw[e]
  match i,h with
  | 0,_=>simp
  | i+1,h=>
   have:=a i (by simpa using h);refine⟨?_,?_,?_,?_⟩;all_goals rw[Q7 (by simp;omega)]
   .rw[show(i+1)*4-([.int .i64 x.kind,.string ⟨x.text.toArray⟩,.int .i64 x.n,.int .i64 x.place]:List Value).length=i*4 from by simp;omega];exact this.1
   .rw[show(i+1)*4+1-([.int .i64 x.kind,.string ⟨x.text.toArray⟩,.int .i64 x.n,.int .i64 x.place]:List Value).length=i*4+1 from by simp;omega];exact this.2.1
   .rw[show(i+1)*4+2-([.int .i64 x.kind,.string ⟨x.text.toArray⟩,.int .i64 x.n,.int .i64 x.place]:List Value).length=i*4+2 from by simp;omega];exact this.2.2.1
   .rw[show(i+1)*4+3-([.int .i64 x.kind,.string ⟨x.text.toArray⟩,.int .i64 x.n,.int .i64 x.place]:List Value).length=i*4+3 from by simp;omega];exact this.2.2.2
def KN:Pr.Dk:=⟨0,false,0,[]⟩
theorem DK.init{w:World}{B g tc sz:Nat}{ts:List Sc.T}(h:w.ownsRow B 101 4 (.l g ts.length tc) ts.length (KO ts))(r:ts.length<=1048576): DK w.heap.size g tc ts sz (.slice none 0 0) KN (w.alloc (.cells #[.l g ts.length tc,.q sz,.q 0,.bool false,.q 0,.slice none 0 0] 71)):=by
 have m:g<w.heap.size:=(h.lt g rfl).2;have n:=(X8 w.heap.size w).alloc (X5 _) (.cells #[.l g ts.length tc,.q sz,.q 0,.bool false,.q 0,.slice none 0 0] 71);have k:∀j u,(KO ts)[j]?=some u->(w.alloc (.cells #[.l g ts.length tc,.q sz,.q 0,.bool false,.q 0,.slice none 0 0] 71)).cell? ⟨g,j,none⟩=some u:=fun j u s=>(n.cell (p:=⟨g,j,none⟩) m).trans (JU h s);refine⟨by simp,by simp,by simp[KN],by simp[KN],by simp[KN],by simp,fun j=>by simp,m,fun i hi=>?_,Xb _,r,K7 _ _ _ _⟩;obtain⟨a,b,c,d⟩:=DC ts i hi;exact⟨k _ _ a,k _ _ b,k _ _ c,k _ _ d⟩
theorem RW:∀(f k:Nat) (l:List UInt8),(Sc.scan f k l).1.length<=l.length
 | 0,_,_=>by simp[Sc.scan]
 | f+1,k,l=>by
  rw[Sc.scan];split
  .simp
  .split
   .simp
   .rename_i d g;have a:(Sc.one (l.drop (Sc.Xl false l))).code=0:=by omega
    have j:=Sc.Vj _ a;have m:=RW f (k+Sc.Xl false l+(Sc.one (l.drop (Sc.Xl false l))).size) ((l.drop (Sc.Xl false l)).drop (Sc.one (l.drop (Sc.Xl false l))).size);simp only[XI,YC]at *;omega
theorem MC(s:ByteArray):(Y2 s).length<=8000:=by
 by_cases h:8000<s.size
 .rw[(IL h).2.2];simp
 .rw[(DR h).2.2];split
  .have:=RW (s.data.toList.length+1) 0 (s.data.toList.drop 0);simp only[Kh,JG]at this;unfold Sc.from_;simp only[Kh,JG];have e:s.data.size=s.size:=rfl;omega
  .simp
def Pr.Comes(s:ByteArray)(r:Pr.Dk × Nat):Prop:=Pr.Cv (Y2 s) s.size (.fileL 0) KN r
theorem Pr.Comes.same{s:ByteArray}{r q:Pr.Dk × Nat}(h:Pr.Comes s r)(k:Pr.Comes s q):r=q:=Pr.Cv.same h k
def Qb(r:Pr.Dk × Nat):List Nd × Nat × Nat:=
 if r.1.bad then([],6,r.1.place)
 else if YG (r.1.o++[⟨24,0,0,⟨#[]⟩,r.2⟩])then(r.1.o++[⟨24,0,0,⟨#[]⟩,r.2⟩],0,0)
 else([],7,0)
end
section
def V9(x:Sc.T):Prop:=x.text.length<=1000/\(x.kind=2->x.text≠[61])/\x.n<=9223372036854775807
theorem FG{t:List UInt8}(h:t∈Sc.words):t.length<=1000/\t≠[61]:=by
 have a:∀x∈Sc.words,x.length<=1000/\x≠[61]:=by decide
 exact a t h
theorem FB{t:List UInt8}(h:t∈Sc.marks):t.length<=1000:=by
 have a:∀x∈Sc.marks,x.length<=1000:=by decide
 exact a t h
theorem FE(l:List UInt8):(Sc.one l).text.length<=1000/\((Sc.one l).kind=2->(Sc.one l).text≠[61])/\(Sc.one l).n<=9223372036854775807:=by
 unfold Sc.one;split
 .exact⟨by simp[Sc.bad],by simp[Sc.bad],by simp[Sc.bad]⟩
 .split
  .unfold Sc.ZV;split
   .rename_i h;exact⟨by simp,by simp,by simp only;omega⟩
   .exact⟨by simp[Sc.bad],by simp[Sc.bad],by simp[Sc.bad]⟩
  .split
   .unfold Sc.Kx;split
    .rename_i h;have:=FG h;exact⟨this.1,fun _=>this.2,by simp⟩
    .split
     .exact⟨by simp[Sc.bad],by simp[Sc.bad],by simp[Sc.bad]⟩
     .exact⟨by simp only;omega,by simp,by simp⟩
   .split
    .unfold Sc.KZ;split
     .exact⟨by simp[Sc.bad],by simp[Sc.bad],by simp[Sc.bad]⟩
     .split
      .exact⟨by simp[Sc.bad],by simp[Sc.bad],by simp[Sc.bad]⟩
      .exact⟨by simp only;omega,by simp,by simp⟩
    .unfold Sc.ZM;split
     .exact⟨by simp[Sc.bad],by simp[Sc.bad],by simp[Sc.bad]⟩
     .rename_i h;exact⟨FB (List.mem_of_find?_eq_some h),by simp,by simp⟩
theorem RV:∀(f k:Nat) (l:List UInt8),∀x∈(Sc.scan f k l).1,V9 x
 | 0,_,_,x,h=>by simp[Sc.scan]at h
 | f+1,k,l,x,h=>by
  rw[Sc.scan]at h;split at h
  .simp at h
  .split at h
   .simp at h
   .rcases Kr.1 h with rfl|h
    .exact FE _
    .exact RV f _ _ x h
theorem RX(s:ByteArray):∀x∈Y2 s,V9 x:=by
 intro x h;unfold Y2 at h;split at h
 .simp at h
 .split at h
  .exact RV _ _ _ x h
  .simp at h
section
variable {ts:List Sc.T} {sz:Nat} {s:Pr.Dk}
def Pr.Sm(s:Pr.Dk):Prop:=∀x∈s.o,x.text.size<=1000/\x.n<=9223372036854775807
theorem Pr.Sm.put(h:Pr.Sm s)(k o:Int){n:Int}{t:List UInt8}(g:t.length<=1000)(d:n<=9223372036854775807)(c:Nat):Pr.Sm (X9 s k o n t c):=by
 intro x a;simp only[X9,KC,Kr,QU,J7]at a;rcases a with a|rfl
 .exact h x a
 .exact⟨by simpa[ByteArray.size]using g,d⟩
theorem Pr.Sm.o{a:Pr.Dk}(h:Pr.Sm s)(e:a.o=s.o):Pr.Sm a:=fun x d=>h x (e ▸ d)
theorem Pr.Sm.adv(h:Pr.Sm s):Pr.Sm (X2 s):=h
theorem Pr.Sm.X7(h:Pr.Sm s)(t:List UInt8):Pr.Sm (Xd ts sz s t):=h.o (F9 s t)
theorem Pr.Sm.name(h:Pr.Sm s):Pr.Sm (Xm ts sz s):=h.o (F6 s)
theorem Pr.Sm.stop(h:Pr.Sm s):Pr.Sm (Z0 ts sz s):=h.o (DA s)
theorem RO(a:∀x∈ts,V9 x)(s:Pr.Dk):(X3 ts sz s).text.length<=1000:=by
 unfold X3;cases h:ts[s.p]? with
 | none=>simp
 | some x=>exact(a x (Rr h)).1
theorem RD(a:∀x∈ts,V9 x)(s:Pr.Dk):(Xe ts sz s).length<=1000:=by
 unfold Xe;split
 .exact RO a s
 .simp
theorem Fl(a:∀x∈ts,V9 x)(s:Pr.Dk):((X3 ts sz s).n:Int)<=9223372036854775807:=by
 unfold X3;cases h:ts[s.p]? with
 | none=>simp
 | some x=>have:=(a x (Rr h)).2.2;simp;omega
theorem Mr:([]:List UInt8).length<=1000:=by simp
theorem Fh(a:∀x∈ts,V9 x)(f:Nat):∀(c:Zb) (s:Pr.Dk),Pr.Sm s->Pr.Sm (Xc ts sz f c s).1:=by
 induction f with
 | zero=>intro c s h;exact h
 | succ f j=>
  intro c s h;cases c using Zb.elim with
  | list=>
   unfold Xc;split
   .exact h.adv.put _ _ Mr (by decide) _
   .dsimp only
    have m:=j .e s h;generalize(Xc ts sz f .e s).1=g at *;split
    .have r:Pr.Sm ({X2 g with o:=g.o.take s.o.length}:Pr.Dk):=fun x d=>m x (Ue d);have u:=j .e _ ((r.name (ts:=ts) (sz:=sz)).X7 (ts:=ts) (sz:=sz) Y1);generalize(Xc ts sz f .e (Xd ts sz (Xm ts sz {X2 g with o:=g.o.take s.o.length}) Y1)).1=k at *;have n:Pr.Sm ({k with o:=k.o++g.o.drop s.o.length}:Pr.Dk):=fun x d=>by
      rcases KC.1 d with d|d
      .exact u x d
      .exact m x (Q8 d)
     generalize({k with o:=k.o++g.o.drop s.o.length}:Pr.Dk)=v at *;refine Pr.Sm.put (Pr.Sm.X7 ?_ _) _ _ (RD a _) (by decide) _;split
     .exact j .e _ n.adv
     .exact n
    .exact((j (.Zl 1) _ m).X7 _).put _ _ Mr (by decide) _
  | _=>
   unfold Xc;(try dsimp only);repeat' (first|(with_reducible exact h)|(with_reducible apply Pr.Sm.X7)|(with_reducible apply Pr.Sm.name)|(with_reducible apply Pr.Sm.stop)|(with_reducible apply Pr.Sm.adv)|(with_reducible refine Pr.Sm.put ?_ _ _ Mr (by first|decide|exact Fl a _) _)|(with_reducible refine Pr.Sm.put ?_ _ _ (RD a _) (by decide) _)|(with_reducible refine Pr.Sm.put ?_ _ _ (RO a _) (by decide) _)|(with_reducible apply j)|split|dsimp only)
theorem Pr.Cv.sm(a:∀x∈ts,V9 x){c:Zb}{r:Pr.Dk × Nat}(h:Pr.Cv ts sz c s r)(g:Pr.Sm s):Pr.Sm r.1:=by
 obtain⟨f,d⟩:=h;have:=Fh (sz:=sz) a f c s g
 rwa[d f (X5 _)]at this
end
end
variable (w0:World) (pb tg tc kg kc:Nat) (ns:List Nd) (ks:List (List Nat))
theorem X4p(A:Ink w0 pb tg tc kg kc ns ks)(k:Nat)(Q:k<ns.length)(C:k<ks.length)(_hn:ns.length<=5000)(_hm:ks.length<=5000)(E:ns[k].kind=2)(_htx:ns[k].text.size<=1000)(I:ns[k].n=0):Xk w0 18 #[.p pb,.q k] ((⟨#[102,97,108,115,101]⟩:ByteArray)):=by
 intro w y;obtain⟨g,c,m,a,O⟩:=A.rows k C;have u:=X1 (A.below y);have v:=(y.cell (p:=⟨kg,k,none⟩) A.kl).trans m;obtain⟨n0,n1,n2,n3,n4⟩:=u.o.nodes.2 k Q;have X:=u.o.c0;have L:=u.o.c1;have H:=u.o.pl;have F:=u.o.kl;rw[E]at n0;rw[I]at n2;generalize U:ns[k].text=j at *;generalize ns[k].op=d at *;generalize ns[k].kids=s at *;generalize S:ks[k]=ls at *;have r1:BL w (w.z #[.q 2,.q d,.q 0,.string j,.q s] 64):=bA _;have r:=y.trans (r1.mono y.size);have Z:=(r1.cell (p:=⟨pb,1,none⟩) H).trans L;have J:=(r1.cell (p:=⟨kg,k,none⟩) F).trans v;obtain⟨x0,V,x2,W⟩:=Zm w ⟨2,d,0,j,s⟩;have B:=X1 (fun q:KB (w.z #[.q 2,.q d,.q 0,.string j,.q s] 64)=>a.below (r.trans (q.below.mono r.size)));have M:∀q:KB (w.z #[.q 2,.q d,.q 0,.string j,.q s] 64),q.w.c w.heap.size 1=some (.q d):=fun q=>(q.below.cell (p:=⟨w.heap.size,1,none⟩) (by simp)).trans V;have N:∀q:KB (w.z #[.q 2,.q d,.q 0,.string j,.q s] 64),q.w.c w.heap.size 3=some (.string j):=fun q=>(q.below.cell (p:=⟨w.heap.size,3,none⟩) (by simp)).trans W;have K:=X1 (fun q:KB (w.z #[.q 2,.q d,.q 0,.string j,.q s] 64)=>r1.trans (q.below.mono r1.size));haveI hne:Nonempty (KB (w.z #[.q 2,.q d,.q 0,.string j,.q s] 64)):=⟨⟨_,X8 _ _⟩⟩;have gt:=N ⟨_,X8 _ _⟩;have go:=M ⟨_,X8 _ _⟩;simp only[KB.w]at gt go;clear r1 a y r B A u;go_enter func18,ntmps18;go_wp2;go_ret;exact⟨rfl,K.o ⟨_,bA _⟩⟩
theorem X4q(A:Ink w0 pb tg tc kg kc ns ks)(k:Nat)(Q:k<ns.length)(C:k<ks.length)(_hn:ns.length<=5000)(_hm:ks.length<=5000)(E:ns[k].kind=2)(_htx:ns[k].text.size<=1000)(I:ns[k].n=1):Xk w0 18 #[.p pb,.q k] ((⟨#[116,114,117,101]⟩:ByteArray)):=by
 intro w y;obtain⟨g,c,m,a,O⟩:=A.rows k C;have u:=X1 (A.below y);have v:=(y.cell (p:=⟨kg,k,none⟩) A.kl).trans m;obtain⟨n0,n1,n2,n3,n4⟩:=u.o.nodes.2 k Q;have X:=u.o.c0;have L:=u.o.c1;have H:=u.o.pl;have F:=u.o.kl;rw[E]at n0;rw[I]at n2;generalize U:ns[k].text=j at *;generalize ns[k].op=d at *;generalize ns[k].kids=s at *;generalize S:ks[k]=ls at *;have r1:BL w (w.z #[.q 2,.q d,.q 1,.string j,.q s] 64):=bA _;have r:=y.trans (r1.mono y.size);have Z:=(r1.cell (p:=⟨pb,1,none⟩) H).trans L;have J:=(r1.cell (p:=⟨kg,k,none⟩) F).trans v;obtain⟨x0,V,x2,W⟩:=Zm w ⟨2,d,1,j,s⟩;have B:=X1 (fun q:KB (w.z #[.q 2,.q d,.q 1,.string j,.q s] 64)=>a.below (r.trans (q.below.mono r.size)));have M:∀q:KB (w.z #[.q 2,.q d,.q 1,.string j,.q s] 64),q.w.c w.heap.size 1=some (.q d):=fun q=>(q.below.cell (p:=⟨w.heap.size,1,none⟩) (by simp)).trans V;have N:∀q:KB (w.z #[.q 2,.q d,.q 1,.string j,.q s] 64),q.w.c w.heap.size 3=some (.string j):=fun q=>(q.below.cell (p:=⟨w.heap.size,3,none⟩) (by simp)).trans W;have K:=X1 (fun q:KB (w.z #[.q 2,.q d,.q 1,.string j,.q s] 64)=>r1.trans (q.below.mono r1.size));haveI hne:Nonempty (KB (w.z #[.q 2,.q d,.q 1,.string j,.q s] 64)):=⟨⟨_,X8 _ _⟩⟩;have gt:=N ⟨_,X8 _ _⟩;have go:=M ⟨_,X8 _ _⟩;simp only[KB.w]at gt go;clear r1 a y r B A u;go_enter func18,ntmps18;go_wp2;go_ret;exact⟨rfl,K.o ⟨_,bA _⟩⟩
theorem X4o(Q:Ink w0 pb tg tc kg kc ns ks)(k:Nat)(hk:k<ns.length)(a3:k<ks.length)(_hn:ns.length<=5000)(_hm:ks.length<=5000)(a4:ns[k].kind=24)(_htx:ns[k].text.size<=1000)(f:Nat->ByteArray)(hl:(ks[k]).length<=5000)(L:∀y∈ks[k],(f y).size<=20000000)(hT:∀i≤(ks[k]).length,(QW (fun y=>(f y).data.toList) ks[k] i).length<=40000000)(hS:∀y∈ks[k],Xk w0 18 #[.p pb,.q y] (f y)):Xk w0 18 #[.p pb,.q k] (⟨(QW (fun y=>(f y).data.toList) ks[k] (ks[k]).length).toArray⟩):=by
 intro w r;obtain⟨g,c,E,a,b3⟩:=Q.rows k a3;have H:=X1 (Q.below r);have O:=(r.cell (p:=⟨kg,k,none⟩) Q.kl).trans E;obtain⟨n0,n1,n2,n3,n4⟩:=H.o.nodes.2 k hk;have c0:=H.o.c0;have c1:=H.o.c1;have a6:=H.o.pl;have a5:=H.o.kl;rw[a4]at n0;generalize b6:ns[k].text=u at *;generalize ns[k].op=s at *;generalize ns[k].n=B at *;generalize ns[k].kids=A at *;generalize b4:ks[k]=ls at *;have r1:BL w (w.z #[.q 24,.q s,.q B,.string u,.q A] 64):=bA _;have F:=r.trans (r1.mono r.size);have d1:=(r1.cell (p:=⟨pb,1,none⟩) a6).trans c1;have b0:=(r1.cell (p:=⟨kg,k,none⟩) a5).trans O;obtain⟨x0,x1,x2,x3⟩:=Zm w ⟨24,s,B,u,A⟩;have X:=X1 (fun q:KB (w.z #[.q 24,.q s,.q B,.string u,.q A] 64)=>a.below (F.trans (q.below.mono F.size)));have fo:∀q:KB (w.z #[.q 24,.q s,.q B,.string u,.q A] 64),q.w.c w.heap.size 1=some (.q s):=fun q=>(q.below.cell (p:=⟨w.heap.size,1,none⟩) (by simp)).trans x1;have ft:∀q:KB (w.z #[.q 24,.q s,.q B,.string u,.q A] 64),q.w.c w.heap.size 3=some (.string u):=fun q=>(q.below.cell (p:=⟨w.heap.size,3,none⟩) (by simp)).trans x3;obtain⟨i0,a1,a7,a8,a9⟩:=YK WQ;have HS:=X1 hS;have HM:=X1 L;have HT:=X1 hT;have V:=X1 (fun W (hb:BL w W)=>a.below (r.trans (hb.mono r.size)));have HW:=X1 (fun W (hb:BL w W)=>r.trans (hb.mono r.size));clear hS L hT;have HQ:=X1 (fun q:KB (w.z #[.q 24,.q s,.q B,.string u,.q A] 64)=>r1.trans (q.below.mono r1.size));haveI hne:Nonempty (KB (w.z #[.q 24,.q s,.q B,.string u,.q A] 64)):=⟨⟨_,X8 _ _⟩⟩;have gt:=ft ⟨_,X8 _ _⟩;have go:=fo ⟨_,X8 _ _⟩;simp only[KB.w]at gt go;clear r1 a r F X Q H;go_enter func18,ntmps18;go_wp2;go_loopw[8,9] (fun v i wr=>∃(j gt cap:Nat) (t:List UInt8),j<=ls.length/\i= .q j/\v= .l gt t.length cap/\wr.ownsRow w.heap.size 5 1 (.l gt t.length cap) t.length (Y6 t)/\BL w wr/\t=QW (fun y=>(f y).data.toList) ls j) (fun _ i _=>ls.length-(intOf i).toNat)
 case atStart=>
  exact⟨0,w.heap.size+1,0,[],Xb _,rfl,rfl,by have:=Y4 (base:=w.heap.size) (e:=5) (size:=1) (w.z #[.q 24,.q s,.q B,.string u,.q A] 64) #[] 0 (by simp) (by decide) rfl;rw[Yx]at this;exact this,(bA _).alloc (by simp) _,rfl⟩
 case round=>
  obtain⟨j,gt,cap,t,hj,rfl,rfl,m,J,he⟩:=hrel;have HE:=X1 he;have b5:t.length<=40000000:=by rw[he];exact HT.o j hj
  clear he;by_cases C:j<ls.length
  .have d:ls[j]∈ls:=YJ C;have a0:=HM.o _ d;have HC:=X1 (HS.o _ d);have HJ:Hid (QW (fun y=>(f y).data.toList) ls (j+1)=QW (fun y=>(f y).data.toList) ls j++(f ls[j]).data.toList):=X1 (by rw[QW];simp[C]);obtain⟨y,hy⟩:∃y,ls[j]=y:=⟨_,rfl⟩;rw[hy]at a0 HC HJ;clear d;have cj:=(V.o wr J).2 j C;rw[hy]at cj;simp only[Xu]at cj;have U:=X1 (HC.o wr (HW.o wr J));go_wp2_with fail;go_fit U.o;rintro e w1⟨rfl,b1⟩;have Z:=U3 m b1;have S:=J.trans (b1.mono J.size);clear m b1;go_wp2_with(at_builtin;refine Lib.wpList_append_own_string _ rfl _ _ 22 9 rfl w.heap.size 5 i0 underlying22 underlying9 a1 a7 a8 a9 _ _ _ rfl Z (f y) rfl (by unfold maxLen;omega) (by omega) S.size ?_);intro v4 w4 N K M;obtain⟨g6,I,rfl,O6,B6⟩:=Iz Z S N K M;clear N K Z S M;go_wp2;go_roundw
   case rel=>exact⟨j+1,g6,I,_,by omega,by go_num,rfl,O6,B6,by rw[HJ.o,HE.o]⟩
   case measure=>simp[intOf];omega
  .have a2:j=ls.length:=by omega
   subst a2;have b2:=WH m;go_wp2;go_ret;exact⟨by have e:=HE.o;subst e;rfl,J⟩
