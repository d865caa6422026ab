import Derived.Test.YtaeafhenpjnhiaaGreatDoorE45
import Derived.RangeFuncBox
set_option maxHeartbeats 2000000
set_option maxRecDepth 100000
namespace Go.Proofs.YtaeafhenpjnhiaaGreatDoor
open Tryz Go.RowKit
open Go.Shelf
attribute [local go_sem] Oper.semAt_some
theorem WD{β:Type}(b:Nat)(cs:Array Value)(t:TypeId):Own (fun(_:β) W=>W.heap[b]?=some (.cells cs t (0,0))):=by
 intro s W m row a j k;refine(j.block b (QS.1 a).1 (fun e=>?_)).trans a;obtain⟨o,d,g⟩:=k b e.symm;rw[a]at d;cases d;cases g
theorem Xfc{β:Type}(p:β->Prop):Own (fun(s:β) (_:World)=>p s):=fun _ _ _ _ a _ _=>a
theorem EY{d a:Nat}{A B C:World}(h:Kp d a A B)(k:Kp d a B C):Kp d a A C:=⟨h.1.trans k.1,h.2.1.trans k.2.1,k.2.2.trans h.2.2⟩
theorem EX{m d:Nat}{w:World}(n:m<=w.heap.size)(r:d<w.heap.size)(W:World)(l:Nat)(o a:Obj)(j:w.heap.size<=l)(h:W.heap[l]?=some o)(g:o.isCells=false)(k:o.isWalk=false):Kp m d W (W.putObj l a):=⟨belowK_b n W l o a j h g k,walksK_b (w:=w) W l o a j h g k,World.putObj_heap_other (by omega)⟩
abbrev Oa:Obj:= .cells #[.slice none 0 0] 55
abbrev Ob:Obj:= .cells #[.q 0,.q 0] 29
def Inv(w:World)(s:ByteArray)(pre:List Sc.Y)(W:World):Prop:=
 (∃v,Boxed W (w.heap.size+1+1) 55 v/\W.ownsRow w.heap.size 101 4 v pre.length (KO (pre.map (·.1)))/\True)/\
 W.heap[w.heap.size]?=some (.cells #[.slice none 0 0] 55 (0,0))/\W.heap[w.heap.size+1]?=some (.cells #[.q 0,.q 0] 29 (0,0))/\W.heap[w.heap.size+1+1+1]?=some (.cells #[.string s] 9 (0,0))/\
 (∀x∈pre,x.2=0)/\Below w.heap.size w W
def Inx(w:World)(c:Code)(pre:List Sc.Y)(W:World):Prop:=∃q x,c= .ret/\pre=q++[x]/\x.2≠0/\W.heap[w.heap.size]?=some (.cells #[.slice none 0 0] 55 (0,0))/\W.heap[w.heap.size+1]?=some (.cells #[.q x.2,.q x.1.place] 29 (0,0))/\Below w.heap.size w W
theorem Rl(w:World)(s:ByteArray)(B:Nat)(d:w.heap.size<=B):OwnFrom B (Inv w s):=
 OwnFrom.and (Own.from (holdsRow_own w.heap.size (w.heap.size+1+1) 55 101 4 (fun a:List Sc.Y=>a.length) (fun a=>KO (a.map (·.1))) (fun _ _=>True)) _)
  (OwnFrom.and (Own.from (WD _ _ _) _) (OwnFrom.and (Own.from (WD _ _ _) _) (OwnFrom.and (Own.from (WD _ _ _) _) (OwnFrom.and (Own.from (Xfc _) _) (ownFrom_below (X5 _) d)))))
theorem EW(w:World)(B:Nat)(n:w.heap.size<=B)(c:Code):OwnFrom B (Inx w c):=by
 intro s W a row ⟨q,x,u,v,y,j,k,m⟩ d g;refine⟨q,x,u,v,y,?_,?_,?_⟩
 .exact WD (β:=Unit) _ _ _ () W a row j d (fun r e=>(g r e).2)
 .exact WD (β:=Unit) _ _ _ () W a row k d (fun r e=>(g r e).2)
 .exact ownFrom_below (β:=Unit) (X5 _) n () W a row m d g
theorem P6{W n:World}{base b:Nat}{t:TypeId}{o:Obj}{v:Value}{k:Nat}{y:List Value}{cs:Array Value}(d:W.ownsRow base 101 4 v k y)(a:W.heap[b]?=some (.cells cs t (0,0)))(u:t≠101)(s:(W.alloc o).grownBy n v.ownBlock):n.heap[b]?=some (.cells cs t (0,0)):=by
 have m:=(QS.1 a).1;refine(s.block b (by simp;omega) (fun e=>?_)).trans ((Below.heap_alloc W o b m).trans a);rcases d.2 with⟨rfl,_⟩|⟨g,cap,r,rfl,_,j,_⟩
 .simp[Value.ownBlock]at e
 .obtain rfl:b=g:=by simpa[Value.ownBlock]using e
  rw[j]at a;simp at a;exact u a.2.symm
theorem CC{w W:World}{B:Nat}{a:List Sc.Y}{x:Sc.Y}(j:W.heap[w.heap.size]?=some (.cells #[.slice none 0 0] 55 (0,0)))(k:W.heap[w.heap.size+1]?=some (.cells #[.q 0,.q 0] 29 (0,0)))(m:BL w W)(n:x.2≠0): KeepsFrom B W (((W.setCell ⟨w.heap.size,0,none⟩ (.slice none 0 0)).setCell ⟨w.heap.size+1,0,none⟩ (.q x.2)).setCell ⟨w.heap.size+1,1,none⟩ (.q x.1.place))/\Inx w .ret (a++[x]) (((W.setCell ⟨w.heap.size,0,none⟩ (.slice none 0 0)).setCell ⟨w.heap.size+1,0,none⟩ (.q x.2)).setCell ⟨w.heap.size+1,1,none⟩ (.q x.1.place)):=by
 refine⟨(((KeepsOthers.setCell _ _ _).trans (KeepsOthers.setCell _ _ _)).trans (KeepsOthers.setCell _ _ _)).from _,a,x,rfl,rfl,n,?_,?_,?_⟩
 .refine(Y0 _ _ _ _ (by show w.heap.size≠w.heap.size+1;omega)).trans ((Y0 _ _ _ _ (by show w.heap.size≠w.heap.size+1;omega)).trans ?_);exact heap_setCell_same W w.heap.size 0 _ 55 _ j
 .have d:=(Y0 W ⟨w.heap.size,0,none⟩ (.slice none 0 0) (w.heap.size+1) (by show w.heap.size+1≠w.heap.size;omega)).trans k;have g:=heap_setCell_same _ (w.heap.size+1) 0 _ 29 (.q x.2) d;exact heap_setCell_same _ (w.heap.size+1) 1 _ 29 (.q x.1.place) g
 .exact((m.setCell (p:=⟨w.heap.size,0,none⟩) (X5 _) _).setCell (p:=⟨w.heap.size+1,0,none⟩) (Qy _) _).setCell (p:=⟨w.heap.size+1,1,none⟩) (Qy _) _
theorem MV{w W X:World}{B:Nat}{p:List Sc.Y}{c:Code}(h:KeepsFrom B W X/\Inx w c p X):KeepsFrom B W X.drew/\Inx w c p X.drew:=by
 obtain⟨a,q,x,k,m,n,d,g,j⟩:=h;exact⟨⟨a.size,a.same⟩,q,x,k,m,n,d,g,j.drew⟩
namespace Sc
theorem CW:∀(f k:Nat) (l:List UInt8),(scan f k l).2.1=0->(scan f k l).2.2=0
 | 0,_,_,_=>rfl
 | f+1,k,l,h=>by
  unfold scan at h⊢;by_cases d:l.drop (Xl false l)=[]
  .rw[Xa d]
  .rw[X6 d]at h⊢;by_cases a:(one (l.drop (Xl false l))).code≠0
   .rw[Xa a]at h;exact absurd h a
   .rw[X6 a]at h⊢;exact CW f _ _ h
theorem Y0v(l:List UInt8)(h:∀x∈seq l 0,x.2=0):(from_ l 0).2.1=0/\(from_ l 0).2.2=0/\(seq l 0).map (·.1)=(from_ l 0).1:=by
 have a:(from_ l 0).2.1=0:=by
  by_cases d:(from_ l 0).2.1=0
  .exact d
  .have:=h (⟨0,[],0,(from_ l 0).2.2⟩,(from_ l 0).2.1) (by unfold seq Da;rw[X6 d];simp);exact this
 refine⟨a,CW _ _ _ a,?_⟩;unfold seq Da;rw[Xa a];simp[Function.comp_def]
theorem Y0x(l:List UInt8)(q:List Y)(x:Y)(h:q++[x] <+: seq l 0)(d:x.2≠0):(from_ l 0).2.1=x.2/\(from_ l 0).2.2=x.1.place:=by
 have hm:x∈seq l 0:=h.subset (by simp);unfold seq Da at hm;rw[KC]at hm;rcases hm with hm|hm
 .rw[Vw]at hm;obtain⟨t,_,rfl⟩:=hm;exact absurd rfl d
 .by_cases a:(from_ l 0).2.1=0
  .rw[Xa a]at hm;cases hm
  .rw[X6 a,V1]at hm;rw[hm];exact⟨rfl,rfl⟩
end Sc
theorem Sw{X:World}{b:Nat}{u:Value}{t:TypeId}(h:X.heap[b]?=some (.cells #[u] t (0,0))):X.cell? ⟨b,0,none⟩=some u:=by simp[World.cell?,h]
theorem Sx{X:World}{b:Nat}{u v:Value}{t:TypeId}(h:X.heap[b]?=some (.cells #[u,v] t (0,0))):X.cell? ⟨b,0,none⟩=some u:=by simp[World.cell?,h]
theorem Sy{X:World}{b:Nat}{u v:Value}{t:TypeId}(h:X.heap[b]?=some (.cells #[u,v] t (0,0))):X.cell? ⟨b,1,none⟩=some v:=by simp[World.cell?,h]
theorem Y0f{W j:World}{base:Nat}{v:Value}{n:Nat}{k:List Value}(a:W.ownsRow base 101 4 v n k)(h:∀(b:Nat) (cs:Array Value),W.heap[b]?=some (.cells cs 101 (0,0))->j.heap[b]?=some (.cells cs 101 (0,0))):j.ownsRow base 101 4 v n k:=by
 refine⟨a.1,?_⟩;rcases a.2 with y|⟨g,cap,d,m,r,s,u⟩
 .exact .inl y
 .exact .inr ⟨g,cap,d,m,r,h _ _ s,u⟩
theorem X0k{w W:World}{D:Nat}{u c p k m B:Value}(d:W.heap[w.heap.size]?=some (.cells #[k] 55 (0,0)))(g:W.heap[w.heap.size+1]?=some (.cells #[m,B] 29 (0,0)))(j:W.heap[D]?=some (.deferred (some [])))(C:BL w W)(E:w.heap.size<=D): (((W.setCell ⟨w.heap.size,0,none⟩ u).setCell ⟨w.heap.size+1,0,none⟩ c).setCell ⟨w.heap.size+1,1,none⟩ p).heap[D]?=some (.deferred (some []))/\((((W.setCell ⟨w.heap.size,0,none⟩ u).setCell ⟨w.heap.size+1,0,none⟩ c).setCell ⟨w.heap.size+1,1,none⟩ p).putObj D (.deferred none)).heap[w.heap.size]?=some (.cells #[u] 55 (0,0))/\((((W.setCell ⟨w.heap.size,0,none⟩ u).setCell ⟨w.heap.size+1,0,none⟩ c).setCell ⟨w.heap.size+1,1,none⟩ p).putObj D (.deferred none)).heap[w.heap.size+1]?=some (.cells #[c,p] 29 (0,0))/\Below w.heap.size w ((((W.setCell ⟨w.heap.size,0,none⟩ u).setCell ⟨w.heap.size+1,0,none⟩ c).setCell ⟨w.heap.size+1,1,none⟩ p).putObj D (.deferred none))/\(∀(b:Nat) (cs:Array Value),W.heap[b]?=some (.cells cs 101 (0,0))->((((W.setCell ⟨w.heap.size,0,none⟩ u).setCell ⟨w.heap.size+1,0,none⟩ c).setCell ⟨w.heap.size+1,1,none⟩ p).putObj D (.deferred none)).heap[b]?=some (.cells cs 101 (0,0))):=by
 have n:w.heap.size≠D:=fun e=>by rw[e]at d;rw[j]at d;cases d
 have r:w.heap.size+1≠D:=fun e=>by rw[e]at g;rw[j]at g;cases g
 have v:(((W.setCell ⟨w.heap.size,0,none⟩ u).setCell ⟨w.heap.size+1,0,none⟩ c).setCell ⟨w.heap.size+1,1,none⟩ p).heap[D]?=some (.deferred (some [])):=
  (((KeepsOthers.setCell W ⟨w.heap.size,0,none⟩ u).trans (KeepsOthers.setCell _ ⟨w.heap.size+1,0,none⟩ c)).trans (KeepsOthers.setCell _ ⟨w.heap.size+1,1,none⟩ p)).same D _ j rfl
 refine⟨v,?_,?_,?_,?_⟩
 .refine(World.putObj_heap_other n).trans ((Y0 _ _ _ _ (by show w.heap.size≠w.heap.size+1;omega)).trans ((Y0 _ _ _ _ (by show w.heap.size≠w.heap.size+1;omega)).trans ?_));exact heap_setCell_same W w.heap.size 0 _ 55 _ d
 .refine(World.putObj_heap_other r).trans ?_;have k:=(Y0 W ⟨w.heap.size,0,none⟩ u (w.heap.size+1) (by show w.heap.size+1≠w.heap.size;omega)).trans g;have y:=heap_setCell_same _ (w.heap.size+1) 0 _ 29 c k;exact heap_setCell_same _ (w.heap.size+1) 1 _ 29 p y
 .exact(((C.setCell (p:=⟨w.heap.size,0,none⟩) (X5 _) _).setCell (p:=⟨w.heap.size+1,0,none⟩) (Qy _) _).setCell (p:=⟨w.heap.size+1,1,none⟩) (Qy _) _).trans (belowK_b (w:=w) (X5 _) _ D _ _ E v rfl rfl)
 .intro b cs a;have m:b≠w.heap.size:=fun e=>by rw[e,d]at a;simp at a
  have s:b≠w.heap.size+1:=fun e=>by rw[e,g]at a;simp at a
  have A:b≠D:=fun e=>by rw[e,j]at a;cases a
  exact(World.putObj_heap_other A).trans ((Y0 _ _ _ _ s).trans ((Y0 _ _ _ _ s).trans ((Y0 _ _ _ _ m).trans a)))
theorem X0l{w W:World}{D:Nat}{u c p:Value}(a:W.heap[w.heap.size]?=some (.cells #[u] 55 (0,0)))(d:W.heap[w.heap.size+1]?=some (.cells #[c,p] 29 (0,0)))(k:W.heap[D]?=some (.deferred (some [])))(m:BL w W)(n:w.heap.size<=D): (W.putObj D (.deferred none)).heap[w.heap.size]?=some (.cells #[u] 55 (0,0))/\(W.putObj D (.deferred none)).heap[w.heap.size+1]?=some (.cells #[c,p] 29 (0,0))/\Below w.heap.size w (W.putObj D (.deferred none)):=by
 have g:w.heap.size≠D:=fun e=>by rw[e]at a;rw[k]at a;cases a
 have j:w.heap.size+1≠D:=fun e=>by rw[e]at d;rw[k]at d;cases d
 exact⟨(World.putObj_heap_other g).trans a,(World.putObj_heap_other j).trans d,m.trans (belowK_b (w:=w) (X5 _) _ D _ _ n k rfl rfl)⟩
def Ep(w:World)(s:ByteArray)(x:Sc.Y)(Bx:Nat):Array Value:=
 #[.string s,undef,.p w.heap.size,.p (w.heap.size+1),.p (w.heap.size+1+1),.p Bx,.q x.2,.string s,.q s.size,.bool (decide (8000 < (s.size:Int))),undef,.string s,
  .func (.func 78) #[] #[.p (w.heap.size+1+1+1)],.agg #[.q x.1.kind,.string ⟨x.1.text.toArray⟩,.q x.1.n,.q x.1.place],.q x.2,undef,undef,undef,undef,undef,undef,undef,undef,undef,undef,undef,undef]
def Axx(w:World)(s:ByteArray)(x:Sc.Y)(a':Act)(W:World):Prop:=∃Bx,w.heap.size+1+1+1<Bx/\W.heap[Bx]?=some (.cells #[.q x.1.kind,.string ⟨x.1.text.toArray⟩,.q x.1.n,.q x.1.place] 101 (0,0))/\a'={tmps:=Ep w s x Bx,defers:=[]}
theorem ER(w:World)(s:ByteArray)(B:Nat)(x:Sc.Y)(g:Act):OwnFrom B (fun(_:Unit) W=>Axx w s x g W):=by
 intro _ W d row ⟨a,j,k,m⟩ n u;exact⟨a,j,WD (β:=Unit) _ _ _ () W d row k n (fun r e=>(u r e).2),m⟩
theorem AW(s:ByteArray)(w:World)(hs:s.size<=1048576)(hG:Zy w): Calls prog 19 #[.string s] w fun e w'=>∃v,e= .returned (.tuple #[v,.agg #[.q (Yf s),.q (Ye s)]])/\w'.ownsRow w.heap.size 101 4 v (Y2 s).length (KO (Y2 s))/\Below w.heap.size w w':=by
 obtain⟨i0,hi,a9,b0,b1⟩:=YK AR;by_cases O:8000<s.size
 .have M:=X1 (IL O);go_enter func19,ntmps19;go_wp2;refine Xq (v:= .tuple #[.slice none 0 0,.agg #[.q 1,.q 0]]) (by simp[results,results19,go_sem]) rfl ⟨.slice none 0 0,?_,?_,?_⟩
  .rw[M.o.1,M.o.2.1];rfl
  .rw[M.o.2.2];exact K7 _ _ _ _
  .exact(bA _).alloc (by simp) _
 .have M:=X1 (DR O);refine(callsIn_wide (n:=6)).1 ?_;have hfw:∀f,Fence.wide.fn f:=fun _=>trivial;have a6:1<=6:=by omega
  refine callsIn_of_wp_marks func19 rfl trivial ?_ rfl;simp only[ntmps19,List.size_toArray,XI,Ya,Nat.reduceAdd,Nat.reduceSub,Array.replicate_succ,Array.replicate_zero,List.push_toArray,List.append_toArray,JJ,Ux]
  gi_wp2_with (gi_at_call 48;refine(callsIn_wide.2 (X6a s _)).mono ?_;rintro e w1⟨rfl,rfl⟩)
  have a0:BL w ((((w.alloc Oa).alloc Ob).alloc Oa).alloc (.cells #[.string s] 9)):=(((bA _).alloc (by simp) _).alloc (by simp;omega) _).alloc (by simp;omega) _;have a5:Inv w s [] ((((w.alloc Oa).alloc Ob).alloc Oa).alloc (.cells #[.string s] 9)):=by
   refine⟨⟨.slice none 0 0,?_,K7 _ _ _ _,trivial⟩,?_,?_,?_,by simp,a0⟩
   .have:=(Boxed.new ((w.alloc Oa).alloc Ob) 55 (.slice none 0 0)).alloc (.cells #[.string s] 9);simpa using this
   .exact(Below.heap_alloc _ _ _ (by simp;omega)).trans ((Below.heap_alloc _ _ _ (by simp;omega)).trans ((Below.heap_alloc _ _ _ (by simp)).trans (YV w _)))
   .have:=YV (w.alloc Oa) Ob;rw[Yx]at this;exact(Below.heap_alloc _ _ _ (by simp)).trans ((Below.heap_alloc _ _ _ (by simp)).trans this)
   .have:=YV (((w.alloc Oa).alloc Ob).alloc Oa) (.cells #[.string s] 9);simp only[Yx]at this;exact this
  have a2:((((w.alloc Oa).alloc Ob).alloc Oa).alloc (.cells #[.string s] 9)).cell? ⟨w.heap.size+1+1+1,0,none⟩=some (.string s):=by
   have:=(Boxed.new (((w.alloc Oa).alloc Ob).alloc Oa) 9 (.string s)).cell;simpa using this
  have b3:((((w.alloc Oa).alloc Ob).alloc Oa).alloc (.cells #[.string s] 9)).heap.size=w.heap.size+1+1+1+1:=by simp
  have a4:=hG.below a0 hG.2.2;have h2:=hG.2.2;generalize(((w.alloc Oa).alloc Ob).alloc Oa).alloc (.cells #[.string s] 9)=W0 at *
  refine wpIn_rangeFunc_ownH rfl a6 (gf:=78) (lb:=#[.p (w.heap.size+1+1+1)]) rfl trivial (enters_of func78 (by kernel_rfl) rfl)
   (X0h 5 (by omega) (w.heap.size+1+1+1) w.heap.size s (by omega) W0 (by omega) h2 (by omega) a2 a4) EY (EX (by omega) (by omega)) (X8 _ _) (fun _=>rfl) (Inv w s) (Inx w) (Rl w s _ (by omega)) (EW w _ (by omega)) a5 (Axx w s) (ER w s _) ?assign ?body ?done ?stop
  case assign=>
   rintro l H x W K E X;have A:=E.2.2.2.1;have Q:w.heap.size+1+1+1<W.heap.size:=(QS.1 A).1;have HV:=X1 E;clear E A;unfold Sc.DX
   gi_wp2
   refine X _ _ ((KeepsOthers.alloc _ _).from _) ⟨(X8 _ _).alloc (by omega) _,KeepsWalks.alloc _ _,Below.heap_alloc W _ _ Q⟩ ((Rl w s W0.heap.size (by omega)).alloc _ HV.o) ⟨W.heap.size,Q,YV W _,rfl⟩
  case body=>
   rintro l H x a' W hl⟨rl,b9⟩ ⟨⟨v,hv,d,_⟩,m,j,A,V,N⟩ ⟨Bx,b4,hbx,rfl⟩ b8;unfold Ep;have hc:=hv.cell;have b7:=hv.frozen;have a7:=N.size;by_cases L:x.2=0
   .have a8:((x.2:Int)!=0)=false:=by simp[L]
    have HX:=X1 L;clear L;have c0:W.cell? ⟨Bx,0,none⟩=some (.q x.1.kind):=by simp[World.cell?,hbx]
    have c1:W.cell? ⟨Bx,1,none⟩=some (.string ⟨x.1.text.toArray⟩):=by simp[World.cell?,hbx]
    have c2:W.cell? ⟨Bx,2,none⟩=some (.q x.1.n):=by simp[World.cell?,hbx]
    have c3:W.cell? ⟨Bx,3,none⟩=some (.q x.1.place):=by simp[World.cell?,hbx]
    gi_wp2_with (gi_at_builtin;refine wpListIn_append_own _ rfl _ _ 55 rfl w.heap.size 101 i0 (.agg #[.q 0,.t #[],.q 0,.q 0]) 4 40 underlying55 hi a9 b0 b1 rfl (by decide) _ _ _ rfl (d.alloc _) ⟨W.heap.size,0,none⟩ 1 1 [.q x.1.kind,.string ⟨x.1.text.toArray⟩,.q x.1.n,.q x.1.place] rfl rfl ?_ ?_ ?_ ?_ ?_ ?_)
    .exact SG W _ 101
    .simp[Value.oneCell']
    .unfold maxLen;omega
    .omega
    .simp;omega
    .intro v' w1 r k _;obtain⟨g',B,rfl⟩:=CP r;obtain⟨a3,J,I,F,C⟩:=hv.appended (by decide) d a7 (by omega) r k;have q0:=P6 d m (by decide) k;have q1:=P6 d j (by decide) k;have q3:=P6 d A (by decide) k;have b5:=a3.cell;have b6:=a3.frozen;have HQ:=X1 (And.intro J (And.intro I (And.intro F (And.intro C (And.intro q0 (And.intro q1 q3))))));clear J I F C q0 q1 q3 k r d c0 c1 c2 c3
     gi_wp2
     obtain⟨J,I,F,C,q0,q1,q3⟩:=HQ.o;have o0:=(Y0 w1 ⟨w.heap.size+1+1,0,none⟩ (.l g' (H.length+1) B) w.heap.size (by show w.heap.size≠w.heap.size+1+1;omega)).trans q0;have o1:=(Y0 w1 ⟨w.heap.size+1+1,0,none⟩ (.l g' (H.length+1) B) (w.heap.size+1) (by show w.heap.size+1≠w.heap.size+1+1;omega)).trans q1;have o3:=(Y0 w1 ⟨w.heap.size+1+1,0,none⟩ (.l g' (H.length+1) B) (w.heap.size+1+1+1) (by show w.heap.size+1+1+1≠w.heap.size+1+1;omega)).trans q3;refine⟨F.from _,⟨C,F.walks,o3.trans A.symm⟩,⟨_,J,?_,trivial⟩,o0,o1,o3,?_,N.trans C⟩
     .rw[JI,Y5,YD,RP,Xj];exact I
     .intro y Z;rw[KC,V1]at Z;rcases Z with Z|Z
      .exact V y Z
      .rw[Z];exact HX.o
   .have a8:((x.2:Int)!=0)=true:=by simp[L]
    have c3:W.cell? ⟨Bx,3,none⟩=some (.q x.1.place):=by simp[World.cell?,hbx]
    have d0:W.cell? ⟨w.heap.size,0,none⟩=some (.slice none 0 0):=by simp[World.cell?,m]
    have d1:W.cell? ⟨w.heap.size+1,0,none⟩=some (.q 0):=by simp[World.cell?,j]
    have d2:W.cell? ⟨w.heap.size+1,1,none⟩=some (.q 0):=by simp[World.cell?,j]
    have e0:W.frozen? ⟨w.heap.size,0,none⟩=false:=by simp[World.frozen?,m]
    have e1:W.frozen? ⟨w.heap.size+1,0,none⟩=false:=by simp[World.frozen?,j]
    have e2:W.frozen? ⟨w.heap.size+1,1,none⟩=false:=by simp[World.frozen?,j]
    have HX:=X1 L;clear L;have b2:prog.follows Departure.mixedOrders=true:=by kernel_rfl
    gi_wp2
    gi_region_o
    all_goals gi_wp2
    all_goals show KeepsFrom _ _ _/\Inx _ _ _ _
    all_goals first|exact MV (CC m j N HX.o)|exact MV (MV (CC m j N HX.o))
  case done=>
   rintro D ys W hD rfl⟨⟨v,hv,d,_⟩,m,j,A,V,N⟩ X;have hc:=hv.cell;have d0:W.cell? ⟨w.heap.size,0,none⟩=some (.slice none 0 0):=by simp[World.cell?,m]
   have d1:W.cell? ⟨w.heap.size+1,0,none⟩=some (.q 0):=by simp[World.cell?,j]
   have d2:W.cell? ⟨w.heap.size+1,1,none⟩=some (.q 0):=by simp[World.cell?,j]
   have e0:W.frozen? ⟨w.heap.size,0,none⟩=false:=by simp[World.frozen?,m]
   have e1:W.frozen? ⟨w.heap.size+1,0,none⟩=false:=by simp[World.frozen?,j]
   have e2:W.frozen? ⟨w.heap.size+1,1,none⟩=false:=by simp[World.frozen?,j]
   have HS:=X1 (Sc.Y0v _ V);have U:(∃a n c,v= .slice a n c):=by
    rcases d.2 with⟨rfl,_⟩|⟨g,cap,_,rfl,_⟩
    .exact⟨_,_,_,rfl⟩
    .exact⟨_,_,_,rfl⟩
   obtain⟨va,vn,vc,rfl⟩:=U;have S:=X1 (X0k (u:= .slice va vn vc) (c:= .q 0) (p:= .q 0) m j X N (by omega))
   gi_wp2
   obtain⟨k1,x0,x1,x2,x3⟩:=S.o;have y0:=Sw x0;have y1:=Sx x1;have y2:=Sy x1;refine⟨by simp,.inl ⟨_,_,rfl,run_takeDeferred k1,?_⟩⟩;refine⟨.tuple #[.slice va vn vc,.agg #[.q 0,.q 0]],by simp[results,results19,go_sem,y0,y1,y2],.slice va vn vc,?_,?_,x2⟩
   .have h:=M.o;have g:=HS.o;rw[h.1,h.2.1,g.1,g.2.1];rfl
   .have h:=M.o;have g:=HS.o;rw[h.2.2,Xa g.1,←g.2.2];have:=Y0f d x3;simpa using this
  case stop=>
   rintro D c H W hD a1⟨q,x,rfl,hp,L,h1,h3,N⟩ X;have HS:=X1 (Sc.Y0x s.data.toList q x (by rw[←hp];exact a1) L);have d0:W.cell? ⟨w.heap.size,0,none⟩=some (.slice none 0 0):=by simp[World.cell?,h1]
   have d1:W.cell? ⟨w.heap.size+1,0,none⟩=some (.q x.2):=by simp[World.cell?,h3]
   have d2:W.cell? ⟨w.heap.size+1,1,none⟩=some (.q x.1.place):=by simp[World.cell?,h3]
   have S:=X1 (X0l h1 h3 X N (by omega))
   gi_wp2
   obtain⟨x0,x1,x2⟩:=S.o;have y0:=Sw x0;have y1:=Sx x1;have y2:=Sy x1;refine⟨by simp,.inl ⟨_,_,rfl,run_takeDeferred X,?_⟩⟩;refine⟨.tuple #[.slice none 0 0,.agg #[.q x.2,.q x.1.place]],by simp[results,results19,go_sem,y0,y1,y2],.slice none 0 0,?_,?_,x2⟩
   .have h:=M.o;have g:=HS.o;rw[h.1,h.2.1,g.1,g.2]
   .have h:=M.o;have g:=HS.o;rw[h.2.2,X6 (by rw[g.1];exact L)];exact K7 _ _ _ _
