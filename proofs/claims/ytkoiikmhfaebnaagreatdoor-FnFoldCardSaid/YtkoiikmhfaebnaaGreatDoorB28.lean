import Derived.Test.YtkoiikmhfaebnaaGreatDoorB16
import Derived.Test.YtkoiikmhfaebnaaGreatDoorB27
set_option maxHeartbeats 400000
namespace Go.Proofs.YtkoiikmhfaebnaaGreatDoor.Vl
open Tryz Go.RowKit
def Xcg(l:List UInt8):ByteArray:=⟨l.toArray⟩
def Qf(r:Option Int)(word:List UInt8):Value:=match r with
 | some n=> .tuple #[.iface 96 (.int .i64 n),.string ⟨#[]⟩]
 | none=> .tuple #[.nilIface,.string (Xcg word)]
def XL(p:Int):Option Int:=if -9223372036854775808<=p/\p<=9223372036854775807 then some p else none
theorem X0a(x y:Int)(w:World)(j:Xp x)(k:Xp y):Calls prog 51 #[.int .i64 x,.int .i64 y] w fun e w'=>e= .returned (Qf (XL (x+y)) [114,97,110,103,101])/\w'=w:=by
 unfold Xp at j k;by_cases c:-9223372036854775808<=x+y/\x+y<=9223372036854775807
 .rw[show XL (x+y)=some (x+y)from X3 c];have l:wrap64 (x+y)=x+y:=by unfold wrap64;omega
  by_cases g:y<0
  .have a:x+y<x:=by omega
   go_enter func51,ntmps51;go_wp2;go_ret2;exact⟨rfl,rfl⟩
  .have a:¬x+y<x:=by omega
   go_enter func51,ntmps51;go_wp2;go_ret2;exact⟨rfl,rfl⟩
 .rw[show XL (x+y)=none from X2 c];obtain⟨z,d⟩:∃z,wrap64 (x+y)=z:=⟨_,rfl⟩;by_cases g:y<0
  .have a:¬z<x:=by rw[←d];unfold wrap64;omega
   go_enter func51,ntmps51;go_wp2;go_ret2;exact⟨rfl,rfl⟩
  .have a:z<x:=by rw[←d];unfold wrap64;omega
   go_enter func51,ntmps51;go_wp2;go_ret2;exact⟨rfl,rfl⟩
theorem Y2v(x y:Int)(w:World)(j:Xp x)(k:Xp y):Calls prog 57 #[.int .i64 x,.int .i64 y] w fun e w'=>e= .returned (Qf (XL (x-y)) [114,97,110,103,101])/\w'=w:=by
 unfold Xp at j k;by_cases c:-9223372036854775808<=x-y/\x-y<=9223372036854775807
 .rw[show XL (x-y)=some (x-y)from X3 c];have l:wrap64 (x-y)=x-y:=by unfold wrap64;omega
  by_cases g:y<0
  .have a:x<x-y:=by omega
   go_enter func57,ntmps57;go_wp2;go_ret2;exact⟨rfl,rfl⟩
  .have a:¬x<x-y:=by omega
   go_enter func57,ntmps57;go_wp2;go_ret2;exact⟨rfl,rfl⟩
 .rw[show XL (x-y)=none from X2 c];obtain⟨z,d⟩:∃z,wrap64 (x-y)=z:=⟨_,rfl⟩;by_cases g:y<0
  .have a:¬x<z:=by rw[←d];unfold wrap64;omega
   go_enter func57,ntmps57;go_wp2;go_ret2;exact⟨rfl,rfl⟩
  .have a:x<z:=by rw[←d];unfold wrap64;omega
   go_enter func57,ntmps57;go_wp2;go_ret2;exact⟨rfl,rfl⟩
theorem Xcf(x y:Int)(w:World)(A:Xp x)(C:Xp y):Calls prog 58 #[.int .i64 x,.int .i64 y] w fun e w'=>e= .returned (Qf (XL (x*y)) [114,97,110,103,101])/\w'=w:=by
 by_cases m:x=0
 .subst m;go_enter func58,ntmps58;go_wp2;go_ret2;exact⟨by simp[Qf,XL],rfl⟩
 .have d:=Eb y x C A m;rw[Int.mul_comm y x]at d;obtain⟨z,l⟩:∃z,wrap64 (x*y)=z:=⟨_,rfl⟩;rw[l]at d;obtain⟨u,k⟩:∃u,wrap64 (z.tdiv x)=u:=⟨_,rfl⟩;rw[k]at d;have B:(x !=0)=true:=by simpa using m
  by_cases c:Xp (x*y)
  .obtain⟨s,a⟩:=d.2 c;rw[s]at k;clear s;have j:z=x*y:=by rw[←l];unfold Xp at c;unfold wrap64;omega
   have q:Hid (Qf (XL (x*y)) [114,97,110,103,101]= .tuple #[.iface 96 (.int .i64 z),.string ⟨#[]⟩]):=(by rw[j,show XL (x*y)=some (x*y)from X3 c];rfl);rw[show Qf (XL (x*y)) [114,97,110,103,101]= .tuple #[.iface 96 (.int .i64 z),.string ⟨#[]⟩]from q];clear q j d c;by_cases g:x= -1
   .subst g;have D:wrap64 (-y)=z:=by rw[←l];congr 1;omega
    have v:wrap64 (-z)=y:=by rw[←k,Int.tdiv_neg,OO]
    have n:¬y= -9223372036854775808:=fun h=>a ⟨rfl,h⟩;have r:(y == -9223372036854775808)=false:=by simpa using n
    clear a;go_enter func58,ntmps58;go_wp2;go_ret2;exact⟨rfl,rfl⟩
   .have r:(x == -1)=false:=by simpa using g
    clear a;go_enter func58,ntmps58;go_wp2;go_ret2;exact⟨rfl,rfl⟩
  .rw[show XL (x*y)=none from X2 c];have a:¬(u=y/\¬(x= -1/\y= -9223372036854775808)):=fun h=>c (d.1 h);clear d c;by_cases g:u=y
   .have n:x= -1/\y= -9223372036854775808:=Dv fun h=>a ⟨g,h⟩;obtain⟨rfl,rfl⟩:=n;have t:wrap64 9223372036854775808= -9223372036854775808:=by unfold wrap64;omega
    clear a g k l;go_enter func58,ntmps58;go_wp2;go_ret2;exact⟨rfl,rfl⟩
   .have r:(u !=y)=true:=by simpa using g
    clear a;go_enter func58,ntmps58;go_wp2;go_ret2;exact⟨rfl,rfl⟩
def Jf(x y:Int):Bool:=(x.tmod y !=0)&&(decide (x<0)!=decide (y<0))
def Jw(x y:Int):Int:=if Jf x y then x.tdiv y-1 else x.tdiv y
def Jx(x y:Int):Int:=if Jf x y then x.tmod y+y else x.tmod y
theorem Y1a(x y:Int)(w:World)(S:Xp x)(X:Xp y):Calls prog 59 #[.int .i64 x,.int .i64 y] w fun e w'=>e= .returned (if y=0 then Qf none [100,105,118,105,100,101]else if x= -9223372036854775808/\y= -1 then Qf none [114,97,110,103,101]else Qf (some (Jw x y)) [])/\w'=w:=by
 by_cases v:y=0
 .subst v;rw[X3 rfl];go_enter func59,ntmps59;go_wp2;go_ret2;exact⟨rfl,rfl⟩
 .rw[X2 v];have P:(y==0)=false:=by simpa using v
  by_cases z:x= -9223372036854775808/\y= -1
  .rw[X3 z];obtain⟨rfl,rfl⟩:=z;go_enter func59,ntmps59;go_wp2;go_ret2;exact⟨rfl,rfl⟩
  .rw[X2 z];have C:Xp (x.tdiv y):=by
    by_cases E:y= -1
    .subst E;rw[Int.tdiv_neg,OO];unfold Xp at *;omega
    .exact Oi x y S v E
   have I:wrap64 (x.tdiv y)=x.tdiv y:=Jn C;have H:=Ld x y v;have F:=OM x y;have m:(x == -9223372036854775808&&y == -1)=false:=by
    cases h:(x == -9223372036854775808&&y == -1)with
    | false=>rfl
    | true=>simp at h;exact(z h).elim
   have K:x= -9223372036854775808->(y == -1)=false:=fun J=>by
    cases h:(y == -1)with
    | false=>rfl
    | true=>exact(z ⟨J,by simpa using h⟩).elim
   have l:x.tmod y≠0->wrap64 (x.tdiv y-1)=x.tdiv y-1:=fun D=>by
    refine Jn ?_;have hne:y.natAbs≠1:=fun E=>by omega
    have V:=ON x y;have W:x.natAbs.div y.natAbs<=x.natAbs / 2:=P6 (by omega) (by omega);unfold Xp at *;omega
   unfold Jw Jf;clear F H C;obtain⟨q,N⟩:∃q,x.tdiv y=q:=⟨_,rfl⟩;obtain⟨r,A⟩:∃r,x.tmod y=r:=⟨_,rfl⟩;rw[N]at I l;rw[A]at l;rw[N,A];generalize n:Qf (some (if(r !=0&&decide (x<0)!=decide (y<0))=true then q-1 else q)) []=L;have a:Hid (Qf (some (if(r !=0&&decide (x<0)!=decide (y<0))=true then q-1 else q)) []=L):=n;clear n;have M:∀b:Bool,(x == -9223372036854775808)=b->(b&&(y == -1))=false:=fun b C=>by rw[←C];exact m
   by_cases D:r=0
   .subst D;cases t:(x == -9223372036854775808);rotate_left;focus
     have B:(y == -1)=false:=by have:=M _ t;simpa using this
    all_goals
     go_enter func59,ntmps59;go_wp2;go_ret2;exact⟨by rw[←a.o];simp[Qf],rfl⟩
   .have k:(r !=0)=true:=by simpa using D
    have Q:=l D;clear l m K;cases t:(x == -9223372036854775808);all_goals
     have B:=M _ t;simp only[GK,VO]at B;cases c:decide (x<0);all_goals cases d:decide (y<0)
     all_goals
      have g:Hid (decide (x<0)=_):=c;have j:Hid (decide (y<0)=_):=d
     .have s:¬x<0:=by simpa using c
      have u:¬y<0:=by simpa using d
      go_enter func59,ntmps59;go_wp2;go_ret2;refine⟨?_,rfl⟩;rw[←a.o,k,g.o,j.o];rfl
     .have s:¬x<0:=by simpa using c
      have u:y<0:=by simpa using d
      go_enter func59,ntmps59;go_wp2;go_ret2;refine⟨?_,rfl⟩;rw[←a.o,k,g.o,j.o];rfl
     .have s:x<0:=by simpa using c
      have u:¬y<0:=by simpa using d
      go_enter func59,ntmps59;go_wp2;go_ret2;refine⟨?_,rfl⟩;rw[←a.o,k,g.o,j.o];rfl
     .have s:x<0:=by simpa using c
      have u:y<0:=by simpa using d
      go_enter func59,ntmps59;go_wp2;go_ret2;refine⟨?_,rfl⟩;rw[←a.o,k,g.o,j.o];rfl
theorem Sq(x y:Int):(x<0->x.tmod y<=0)/\(¬x<0->0<=x.tmod y):=by
 refine⟨fun h=>?_,fun h=>SJ _ (by omega)⟩;have a:0<=(-x).tmod y:=SJ _ (by omega);rw[Int.neg_tmod]at a;omega
theorem Y1h(x y:Int)(w:World)(F:Xp y):Calls prog 60 #[.int .i64 x,.int .i64 y] w fun e w'=>e= .returned (if y=0 then Qf none [100,105,118,105,100,101]else Qf (some (Jx x y)) [])/\w'=w:=by
 by_cases s:y=0
 .subst s;rw[X3 rfl];go_enter func60,ntmps60;go_wp2;go_ret2;exact⟨rfl,rfl⟩
 .rw[X2 s];have E:(y==0)=false:=by simpa using s
  have z:=Ld x y s;have k:=Sq x y;have l:x.tmod y≠0->¬(x<0↔y<0)->wrap64 (x.tmod y+y)=x.tmod y+y:=fun n D=>by
   refine Jn ?_;unfold Xp at *;by_cases a:x<0
   .have:=k.1 a;have:¬y<0:=fun h=>D ⟨fun _=>h,fun _=>a⟩;omega
   .have:=k.2 a;have:y<0:=Dv fun h=>D ⟨fun v=>(a v).elim,fun v=>(h v).elim⟩;omega
  unfold Jx Jf;clear z k;obtain⟨r,q⟩:∃r,x.tmod y=r:=⟨_,rfl⟩;rw[q]at l;rw[q];generalize j:Qf (some (if(r !=0&&decide (x<0)!=decide (y<0))=true then r+y else r)) []=C;have g:Hid (Qf (some (if(r !=0&&decide (x<0)!=decide (y<0))=true then r+y else r)) []=C):=j;clear j;by_cases n:r=0
  .subst n;go_enter func60,ntmps60;go_wp2;go_ret2;exact⟨by rw[←g.o];simp[Qf],rfl⟩
  .have A:(r !=0)=true:=by simpa using n
   cases c:decide (x<0);all_goals cases d:decide (y<0)
   all_goals
    have t:Hid (decide (x<0)=_):=c;have u:Hid (decide (y<0)=_):=d
   focus
    have a:¬x<0:=by simpa using c
    have m:¬y<0:=by simpa using d
   rotate_left;focus
    have a:¬x<0:=by simpa using c
    have m:y<0:=by simpa using d
    have B:=l n (by omega)
   rotate_left;focus
    have a:x<0:=by simpa using c
    have m:¬y<0:=by simpa using d
    have B:=l n (by omega)
   rotate_left;focus
    have a:x<0:=by simpa using c
    have m:y<0:=by simpa using d
   all_goals
    go_enter func60,ntmps60;go_wp2;go_ret2;refine⟨?_,rfl⟩;rw[←g.o,A,t.o,u.o];rfl
end Go.Proofs.YtkoiikmhfaebnaaGreatDoor.Vl
namespace Go.Proofs.YtkoiikmhfaebnaaGreatDoor.Vl
open Tryz Go.RowKit T.atoms T.ok T.high T.Y0 T.Ko Xs T.ord
theorem YZ{f:FuncId}{fn:Func}(d:prog.funcs[f]?=some fn)(hne:(fn.name == "runtime.NumGoroutine")=false)(c:fn.body.isNone=false)(a:Array Value)(w:World):(callFunc f a).run prog w= .ok (.enter f a) w:=by
 simp only[callFunc,Zk,Wk,Zj,d,hne,c];rfl
def GI(W:World):Prop:=∃m:Int,W.cell? ⟨1,0,none⟩=some (.int .i64 m)
theorem GI.below{W a:World}(h:GI W)(d:BL W a):GI a:=by
 obtain⟨m,c⟩:=h;exact⟨m,(d.cell (p:=⟨1,0,none⟩) (J1 W ⟨1,0,none⟩ c)).trans c⟩
def YQ(lo hi:Nat)(w W:World):Prop:=hi<=W.heap.size/\∀q,lo<=q->q<hi->W.heap[q]?=w.heap[q]?
theorem YQ.refl{lo hi:Nat}{w:World}(h:hi<=w.heap.size):YQ lo hi w w:=⟨h,fun _ _ _=>rfl⟩
theorem YQ.trans{lo hi:Nat}{w W c:World}(h:YQ lo hi w W)(d:YQ lo hi W c):YQ lo hi w c:=⟨d.1,fun q a b=>(d.2 q a b).trans (h.2 q a b)⟩
theorem YQ.below{lo hi:Nat}{w W c:World}(h:YQ lo hi w W)(d:BL W c):YQ lo hi w c:=⟨XO h.1 d.size,fun q a b=>(d.block q (Xd b h.1)).trans (h.2 q a b)⟩
theorem YQ.grown{lo hi m:Nat}{w W c:World}(h:YQ lo hi w W)(d:W.grownBy c (some m))(g:m<lo):YQ lo hi w c:=⟨XO h.1 d.size,fun q a b=>(d.block q (Xd b h.1) (fun e=>by have:=YD e;omega)).trans (h.2 q a b)⟩
theorem YQ.sub{lo hi d c:Nat}{w W:World}(h:YQ lo hi w W)(j:lo<=d)(g:c<=hi):YQ d c w W:=⟨XO g h.1,fun q a b=>h.2 q (XO j a) (Xd b g)⟩
theorem YQ.cell{lo hi:Nat}{w W:World}(h:YQ lo hi w W)(q o:Nat)(c:lo<=q)(d:q<hi):W.cell? ⟨q,o,none⟩=w.cell? ⟨q,o,none⟩:=Xy (a:=⟨q,o,none⟩) (h.2 q c d)
structure ZH (lo hi:Nat) (w:World) (f b:Nat) (R:T->T->Out):Prop where
 size:hi<=w.heap.size
 en:∀args w,(callFunc f args).run prog w= .ok (.enter f args) w
 It:∀W,YQ lo hi w W->GI W->∀t u,t.Y0=true->u.Y0=true->t.kind<=4->u.kind<=4->Xp t.num->Xp u.num->∀(gg cc x y:Nat) (xa xb:Value),gg<W.heap.size->W.cell? ⟨gg,0,none⟩=some xa->W.cell? ⟨gg,1,none⟩=some xb->Xs W x t xa->Xs W y u xb->Calls prog f #[.slice (some ⟨gg,0,none⟩) 2 cc,.pointer (some ⟨b,0,none⟩)] W (YF (DoK W (R t u)))
theorem ZH.same{lo hi:Nat}{w W:World}{f b:Nat}{R:T->T->Out}(h:ZH lo hi w f b R)(a:YQ lo hi w W):ZH lo hi W f b R:=⟨a.1,h.en,fun c d=>h.It c (a.trans d)⟩
theorem ZH.wide{lo hi c a:Nat}{w:World}{f b:Nat}{R:T->T->Out}(h:ZH lo hi w f b R)(g:c<=lo)(j:hi<=a)(k:a<=w.heap.size):ZH c a w f b R:=⟨k,h.en,fun d l=>h.It d (l.sub g j)⟩
theorem Dn{W a:World}{out:Out}(g:BL W a)(e:Ending)(w':World)(h:YF (DoK a out) e w'):YF (DoK W out) e w':=by
 obtain⟨dv,s,c,d⟩:=h;exact⟨dv,s,c,d.from g⟩
theorem QK{W:World}(e:Ending)(w':World)(h:e= .returned (.tuple #[.nilIface,.string ⟨#[116,121,112,101]⟩])/\BL W w'):YF (DoK W (.inl tyW)) e w':=⟨_,_,h.1,h.2,rfl,rfl⟩
theorem UR{w:World}{x:Nat}{t:T}{v:Value}(h:Xs w x t v):(t.kind=2->∃b:Bool,v= .iface 73 (.bool b))/\(¬t.kind=2->∃y u,v= .iface y u/\¬y=73):=by
 cases t with
 | mk k n s ks=>
  rw[Xs]at h;show(k=2->_)/\(¬k=2->_);rcases h with⟨rfl,rfl⟩|⟨rfl,rfl⟩|⟨rfl,rfl⟩|⟨rfl,rfl⟩|⟨rfl,p,c,a,rfl,_⟩|⟨rfl,p,c,m,a,_,rfl,_⟩;all_goals
   refine⟨fun h=>?_,fun h=>?_⟩;all_goals first|(exfalso;revert h;decide)|exact⟨_,rfl⟩|exact⟨_,_,_,_,_,rfl⟩|exact⟨_,_,rfl,by decide⟩
theorem US{w:World}{x:Nat}{t:T}{v:Value}(h:Xs w x t v):(t.kind=3->∃n:Int,v= .iface 96 (.int .i64 n))/\(¬t.kind=3->∃y u,v= .iface y u/\¬y=96):=by
 cases t with
 | mk k n s ks=>
  rw[Xs]at h;show(k=3->_)/\(¬k=3->_);rcases h with⟨rfl,rfl⟩|⟨rfl,rfl⟩|⟨rfl,rfl⟩|⟨rfl,rfl⟩|⟨rfl,p,c,a,rfl,_⟩|⟨rfl,p,c,m,a,_,rfl,_⟩;all_goals
   refine⟨fun h=>?_,fun h=>?_⟩;all_goals first|(exfalso;revert h;decide)|exact⟨_,rfl⟩|exact⟨_,_,_,_,_,rfl⟩|exact⟨_,_,rfl,by decide⟩
theorem Ug{w:World}{x:Nat}{t:T}{v:Value}(h:Xs w x t v):(t.kind=4->∃s:ByteArray,v= .iface 81 (.string s))/\(¬t.kind=4->∃y u,v= .iface y u/\¬y=81):=by
 cases t with
 | mk k n s ks=>
  rw[Xs]at h;show(k=4->_)/\(¬k=4->_);rcases h with⟨rfl,rfl⟩|⟨rfl,rfl⟩|⟨rfl,rfl⟩|⟨rfl,rfl⟩|⟨rfl,p,c,a,rfl,_⟩|⟨rfl,p,c,m,a,_,rfl,_⟩;all_goals
   refine⟨fun h=>?_,fun h=>?_⟩;all_goals first|(exfalso;revert h;decide)|exact⟨_,rfl⟩|exact⟨_,_,_,_,_,rfl⟩|exact⟨_,_,rfl,by decide⟩
def OP(f:FuncId)(R:T->T->Out):Prop:=∀(W:World) (t u:T) (x y:Nat) (xb:Bool) (zb:Bool),GI W->t.Y0=true->u.Y0=true->t.kind<=4->u.kind<=4->Xp t.num->Xp u.num->Xs W x t (.iface 73 (.bool xb))->Xs W y u (.iface 73 (.bool zb))->Calls prog f #[.bool xb,.bool zb] W (YF (DoK W (R t u)))
def Lf(R:T->T->Out)(t u:T):Out:=if t.kind=2/\u.kind=2 then R t u else .inl tyW
theorem Bi{w w':World}{f:FuncId}{R:T->T->Out}(q:∀c w,(callFunc f c).run prog w= .ok (.enter f c) w)(N:w'.cell? ⟨w.heap.size,0,none⟩=some (.func (.func f) #[] #[]))(P:w.heap.size<w'.heap.size)(J:OP f R):ZH w.heap.size (w.heap.size+1) w' 92 w.heap.size (Lf R):=by
 refine⟨P,YZ func92 (by kernel_rfl) (by kernel_rfl),fun W E I t u L r K n hi s j Q x y S g C k D l m=>?_⟩;have M:=(E.cell w.heap.size 0 (X4 _) (XI _)).trans N;have v:w.heap.size<W.heap.size:=E.1;unfold Lf;by_cases d:t.kind=2
 .obtain⟨g,rfl⟩:=(UR l).1 d;by_cases a:u.kind=2
  .obtain⟨F,rfl⟩:=(UR m).1 a;rw[X3 ⟨d,a⟩];exact Y4h f g F j w.heap.size _ W k D M C v q (X1 (fun H a=>(J H t u x y g F (I.below a) L r K n hi s (l.Z4 (YB.below a)) (m.Z4 (YB.below a))).mono (Dn a)))
  .obtain⟨B,A,rfl,z⟩:=(UR m).2 a;rw[X2 (fun h=>a h.2)];exact(Fs g B A z j w.heap.size W k D C).mono QK
 .obtain⟨B,A,rfl,z⟩:=(UR l).2 d;rw[X2 (fun h=>d h.1)];exact(Fq B A z j w.heap.size W k).mono QK
def OR(f:FuncId)(R:T->T->Out):Prop:=∀(W:World) (t u:T) (x y:Nat) (xs:ByteArray) (zs:ByteArray),GI W->t.Y0=true->u.Y0=true->t.kind<=4->u.kind<=4->Xp t.num->Xp u.num->Xs W x t (.iface 81 (.string xs))->Xs W y u (.iface 81 (.string zs))->Calls prog f #[.string xs,.string zs] W (YF (DoK W (R t u)))
def VM(R:T->T->Out)(t u:T):Out:=if t.kind=4/\u.kind=4 then R t u else .inl tyW
theorem Bl{w w':World}{f:FuncId}{R:T->T->Out}(n:∀c w,(callFunc f c).run prog w= .ok (.enter f c) w)(M:w'.cell? ⟨w.heap.size,0,none⟩=some (.func (.func f) #[] #[]))(N:w.heap.size<w'.heap.size)(I:OR f R):ZH w.heap.size (w.heap.size+1) w' 101 w.heap.size (VM R):=by
 refine⟨N,YZ func101 (by kernel_rfl) (by kernel_rfl),fun W E H t u K q J m hi r g P x y Q S C j D k l=>?_⟩;have L:=(E.cell w.heap.size 0 (X4 _) (XI _)).trans M;have s:w.heap.size<W.heap.size:=E.1;unfold VM;by_cases d:t.kind=4
 .obtain⟨A,rfl⟩:=(Ug k).1 d;by_cases a:u.kind=4
  .obtain⟨zs,rfl⟩:=(Ug l).1 a;rw[X3 ⟨d,a⟩];exact Y4t f A zs g w.heap.size _ W j D L C s n (X1 (fun F a=>(I F t u x y A zs (H.below a) K q J m hi r (k.Z4 (YB.below a)) (l.Z4 (YB.below a))).mono (Dn a)))
  .obtain⟨B,z,rfl,v⟩:=(Ug l).2 a;rw[X2 (fun h=>a h.2)];exact(Fz A B z v g w.heap.size W j D C).mono QK
 .obtain⟨B,z,rfl,v⟩:=(Ug k).2 d;rw[X2 (fun h=>d h.1)];exact(Fy B z v g w.heap.size W j).mono QK
def Dx(f:FuncId)(R:T->T->Out):Prop:=∀(W:World) (t u:T) (x y:Nat) (xn:Int) (zn:Int),GI W->t.Y0=true->u.Y0=true->t.kind<=4->u.kind<=4->Xp t.num->Xp u.num->Xs W x t (.iface 96 (.int .i64 xn))->Xs W y u (.iface 96 (.int .i64 zn))->Calls prog f #[.int .i64 xn,.int .i64 zn] W (YF (DoK W (R t u)))
def Uu(R:T->T->Out)(t u:T):Out:=if t.kind=3/\u.kind=3 then R t u else .inl tyW
theorem Ir{w w':World}{f:FuncId}{R:T->T->Out}(n:∀c w,(callFunc f c).run prog w= .ok (.enter f c) w)(N:w'.cell? ⟨w.heap.size,0,none⟩=some (.func (.func f) #[] #[]))(P:w.heap.size<w'.heap.size)(J:Dx f R):ZH w.heap.size (w.heap.size+1) w' 107 w.heap.size (Uu R):=by
 refine⟨P,YZ func107 (by kernel_rfl) (by kernel_rfl),fun W E I t u L q K m hi r g Q x y S V C j D k l=>?_⟩;have M:=(E.cell w.heap.size 0 (X4 _) (XI _)).trans N;have s:w.heap.size<W.heap.size:=E.1;unfold Uu;by_cases d:t.kind=3
 .obtain⟨A,rfl⟩:=(US k).1 d;by_cases a:u.kind=3
  .obtain⟨F,rfl⟩:=(US l).1 a;rw[X3 ⟨d,a⟩];exact Y4l f A F g w.heap.size _ W j D M C s n (X1 (fun H a=>(J H t u x y A F (I.below a) L q K m hi r (k.Z4 (YB.below a)) (l.Z4 (YB.below a))).mono (Dn a)))
  .obtain⟨B,z,rfl,v⟩:=(US l).2 a;rw[X2 (fun h=>a h.2)];exact(Fu A B z v g w.heap.size W j D C).mono QK
 .obtain⟨B,z,rfl,v⟩:=(US k).2 d;rw[X2 (fun h=>d h.1)];exact(Ft B z v g w.heap.size W j).mono QK
def YT(b:Bool):T:= .mk 2 (if b then 1 else 0) ⟨#[]⟩ []
theorem X1h(b:Bool):(YT b).Y0=true:=by cases b<;>decide +kernel
theorem X1f(b:Bool):(YT b).count=1:=by simp[YT,T.count,T.atoms,atomsL]
theorem X1g(w:World)(x:Nat)(b:Bool):Xs w x (YT b) (.iface 73 (.bool b)):=by
 unfold YT Xs;exact .inr (.inl ⟨rfl,by cases b<;>rfl⟩)
theorem Wu{W:World}{b:Bool}(e:Ending)(w':World)(h:YF (fun dv s w'=>dv= .iface 73 (.bool b)/\s=⟨#[]⟩/\BL W w') e w'):YF (DoK W (.inr (YT b))) e w':=by
 obtain⟨dv,s,a,rfl,rfl,c⟩:=h;exact⟨_,_,a,c,rfl,X1h b,by rw[X1f];omega,0,X1g _ _ _⟩
def U5(h:FuncId)(hb:Int->Bool):Prop:=∀n w,Calls prog h #[.int .i64 n] w fun e w'=>e= .returned (.bool (hb n))/\w'=w
def M5(hb:Int->Bool)(t u:T):Out:= .inr (YT (hb (t.ord u)))
theorem Bj{w w':World}{h:FuncId}{j:Int->Bool}(n:∀a w,(callFunc h a).run prog w= .ok (.enter h a) w)(E:U5 h j)(J:w'.cell? ⟨w.heap.size,0,none⟩=some (.func (.func h) #[] #[]))(X:w'.cell? ⟨w.heap.size+1+1,0,none⟩=some (.func (.func 94) #[] #[.pointer (some ⟨w.heap.size,0,none⟩)]))(Z:w.heap.size+1+1<w'.heap.size):ZH w.heap.size (w.heap.size+1+1+1) w' 158 (w.heap.size+1+1) (M5 j):=by
 refine⟨Z,YZ func158 (by kernel_rfl) (by kernel_rfl),fun W s hG t u Q q N k hi S I cc x y xa xb K L M v z=>?_⟩;have V:=(s.cell (w.heap.size+1+1) 0 (by omega) (XI _)).trans X;have Y:=(s.cell w.heap.size 0 (X4 _) (by omega)).trans J;have r:w.heap.size+1+1<W.heap.size:=s.1;have g:w.heap.size<W.heap.size:=by omega
 have P:=YZ func94 (by kernel_rfl) (by kernel_rfl);unfold M5;obtain⟨B,A,rfl,l⟩:=Br v;obtain⟨D,C,rfl,m⟩:=Br z;exact Y4k 94 w.heap.size B A l D C m I (w.heap.size+1+1) _ W L M V K r P (X1 (fun F c=>((X2t B A D C h w.heap.size j (t.ord u) F n (X1 E) (Xd g c.size) ((c.cell (p:=⟨w.heap.size,0,none⟩) g).trans Y) (X1 (fun H d=>M6 (t.count+1) t u _ _ x y H (XI _) N k Q q ((v.Z4 (YB.below c)).Z4 (YB.below d)) ((z.Z4 (YB.below c)).Z4 (YB.below d))))).mono Wu).mono (Dn c)))
def Wb(hb:Int->Bool)(t u:T):Out:=if t.kind=2/\u.kind=2 then .inr (YT (hb (t.ord u)))else .inl tyW
theorem X3j{w w':World}{h:FuncId}{s:Int->Bool}(z:∀c w,(callFunc h c).run prog w= .ok (.enter h c) w)(K:U5 h s)(N:w'.cell? ⟨w.heap.size,0,none⟩=some (.func (.func h) #[] #[]))(Y:w'.cell? ⟨w.heap.size+1+1,0,none⟩=some (.func (.func 167) #[] #[.pointer (some ⟨w.heap.size,0,none⟩)]))(hz:w.heap.size+1+1<w'.heap.size):ZH w.heap.size (w.heap.size+1+1+1) w' 92 (w.heap.size+1+1) (Wb s):=by
 refine⟨hz,YZ func92 (by kernel_rfl) (by kernel_rfl),fun W C hG t u S A P v hi V m cc x y xa l H n I q r=>?_⟩;have X:=(C.cell (w.heap.size+1+1) 0 (by omega) (XI _)).trans Y;have Z:=(C.cell w.heap.size 0 (X4 _) (by omega)).trans N;have B:w.heap.size+1+1<W.heap.size:=C.1;have j:w.heap.size<W.heap.size:=by omega
 have Q:=YZ func167 (by kernel_rfl) (by kernel_rfl);unfold Wb;by_cases k:t.kind=2
 .obtain⟨l,rfl⟩:=(UR q).1 k;by_cases a:u.kind=2
  .obtain⟨J,rfl⟩:=(UR r).1 a;rw[X3 ⟨k,a⟩];exact Y4i 167 w.heap.size l J m (w.heap.size+1+1) _ W n I X H B Q (X1 (fun L d=>((X2s l J h w.heap.size s (t.ord u) L z (X1 K) (Xd j d.size) ((d.cell (p:=⟨w.heap.size,0,none⟩) j).trans Z) (X1 (fun M g=>M6 (t.count+1) t u _ _ x y M (XI _) P v S A ((q.Z4 (YB.below d)).Z4 (YB.below g)) ((r.Z4 (YB.below d)).Z4 (YB.below g))))).mono Wu).mono (Dn d)))
  .obtain⟨F,E,rfl,D⟩:=(UR r).2 a;rw[X2 (fun h=>a h.2)];exact(Fs l F E D m (w.heap.size+1+1) W n I H).mono QK
 .obtain⟨F,E,rfl,D⟩:=(UR q).2 k;rw[X2 (fun h=>k h.1)];exact(Fq F E D m (w.heap.size+1+1) W n).mono QK
def WT(hb:Int->Bool)(t u:T):Out:=if t.kind=3/\u.kind=3 then .inr (YT (hb (t.ord u)))else .inl tyW
theorem X3k{w w':World}{h:FuncId}{r:Int->Bool}(v:∀c w,(callFunc h c).run prog w= .ok (.enter h c) w)(K:U5 h r)(N:w'.cell? ⟨w.heap.size,0,none⟩=some (.func (.func h) #[] #[]))(Y:w'.cell? ⟨w.heap.size+1+1,0,none⟩=some (.func (.func 168) #[] #[.pointer (some ⟨w.heap.size,0,none⟩)]))(hz:w.heap.size+1+1<w'.heap.size):ZH w.heap.size (w.heap.size+1+1+1) w' 107 (w.heap.size+1+1) (WT r):=by
 refine⟨hz,YZ func107 (by kernel_rfl) (by kernel_rfl),fun W B hG t u S z P s hi V l cc x y xa xb H m I n q=>?_⟩;have X:=(B.cell (w.heap.size+1+1) 0 (by omega) (XI _)).trans Y;have Z:=(B.cell w.heap.size 0 (X4 _) (by omega)).trans N;have A:w.heap.size+1+1<W.heap.size:=B.1;have j:w.heap.size<W.heap.size:=by omega
 have Q:=YZ func168 (by kernel_rfl) (by kernel_rfl);unfold WT;by_cases k:t.kind=3
 .obtain⟨E,rfl⟩:=(US n).1 k;by_cases a:u.kind=3
  .obtain⟨J,rfl⟩:=(US q).1 a;rw[X3 ⟨k,a⟩];exact Y4m 168 w.heap.size E J l (w.heap.size+1+1) _ W m I X H A Q (X1 (fun L d=>((X2u E J h w.heap.size r (t.ord u) L v (X1 K) (Xd j d.size) ((d.cell (p:=⟨w.heap.size,0,none⟩) j).trans Z) (X1 (fun M g=>M6 (t.count+1) t u _ _ x y M (XI _) P s S z ((n.Z4 (YB.below d)).Z4 (YB.below g)) ((q.Z4 (YB.below d)).Z4 (YB.below g))))).mono Wu).mono (Dn d)))
  .obtain⟨F,D,rfl,C⟩:=(US q).2 a;rw[X2 (fun h=>a h.2)];exact(Fu E F D C l (w.heap.size+1+1) W m I H).mono QK
 .obtain⟨F,D,rfl,C⟩:=(US n).2 k;rw[X2 (fun h=>k h.1)];exact(Ft F D C l (w.heap.size+1+1) W m).mono QK
def DX(hb:Int->Bool)(t u:T):Out:=if t.kind=4/\u.kind=4 then .inr (YT (hb (t.ord u)))else .inl tyW
theorem X3m{w w':World}{h:FuncId}{r:Int->Bool}(v:∀c w,(callFunc h c).run prog w= .ok (.enter h c) w)(J:U5 h r)(M:w'.cell? ⟨w.heap.size,0,none⟩=some (.func (.func h) #[] #[]))(X:w'.cell? ⟨w.heap.size+1+1,0,none⟩=some (.func (.func 169) #[] #[.pointer (some ⟨w.heap.size,0,none⟩)]))(Z:w.heap.size+1+1<w'.heap.size):ZH w.heap.size (w.heap.size+1+1+1) w' 101 (w.heap.size+1+1) (DX r):=by
 refine⟨Z,YZ func101 (by kernel_rfl) (by kernel_rfl),fun W B hG t u Q z N s hi S l cc x y xa xb H m I n q=>?_⟩;have V:=(B.cell (w.heap.size+1+1) 0 (by omega) (XI _)).trans X;have Y:=(B.cell w.heap.size 0 (X4 _) (by omega)).trans M;have A:w.heap.size+1+1<W.heap.size:=B.1;have j:w.heap.size<W.heap.size:=by omega
 have P:=YZ func169 (by kernel_rfl) (by kernel_rfl);unfold DX;by_cases k:t.kind=4
 .obtain⟨E,rfl⟩:=(Ug n).1 k;by_cases a:u.kind=4
  .obtain⟨zs,rfl⟩:=(Ug q).1 a;rw[X3 ⟨k,a⟩];exact Y4u 169 w.heap.size E zs l (w.heap.size+1+1) _ W m I V H A P (X1 (fun K d=>((X2z E zs h w.heap.size r (t.ord u) K v (X1 J) (Xd j d.size) ((d.cell (p:=⟨w.heap.size,0,none⟩) j).trans Y) (X1 (fun L g=>M6 (t.count+1) t u _ _ x y L (XI _) N s Q z ((n.Z4 (YB.below d)).Z4 (YB.below g)) ((q.Z4 (YB.below d)).Z4 (YB.below g))))).mono Wu).mono (Dn d)))
  .obtain⟨F,D,rfl,C⟩:=(Ug q).2 a;rw[X2 (fun h=>a h.2)];exact(Fz E F D C l (w.heap.size+1+1) W m I H).mono QK
 .obtain⟨F,D,rfl,C⟩:=(Ug n).2 k;rw[X2 (fun h=>k h.1)];exact(Fy F D C l (w.heap.size+1+1) W m).mono QK
def tyR(_ _:T):Out:= .inl tyW
theorem IB{w:World}{x:Nat}{t:T}{v:Value}(h:Xs w x t v)(a:t.kind<=4):∃y u,v= .iface y u/\¬y=88/\¬y=93:=by
 cases t with
 | mk k n s ks=>
  have a:k<=4:=a;rw[Xs]at h;rcases h with⟨rfl,rfl⟩|⟨rfl,rfl⟩|⟨rfl,rfl⟩|⟨rfl,rfl⟩|⟨rfl,_⟩|⟨rfl,_⟩;all_goals first|(exfalso;revert a;decide)|exact⟨_,_,rfl,by decide,by decide⟩
theorem X3n{w w':World}(n:w.heap.size<w'.heap.size):ZH w.heap.size (w.heap.size+1) w' 103 (w.heap.size) tyR:=by
 refine⟨n,YZ func103 (by kernel_rfl) (by kernel_rfl),fun W D B t u C k g j hi l a s x y E F v c z d A=>?_⟩;obtain⟨r,q,rfl,m,_⟩:=IB d g;exact(Y4o r q (m) a (w.heap.size) W c).mono QK
theorem X3q{w w':World}(n:w.heap.size<w'.heap.size):ZH w.heap.size (w.heap.size+1) w' 105 (w.heap.size) tyR:=by
 refine⟨n,YZ func105 (by kernel_rfl) (by kernel_rfl),fun W D B t u C k g j hi l a s x y E F v c z d A=>?_⟩;obtain⟨r,q,rfl,_,m⟩:=IB d g;exact(Y4s r q (m) a (w.heap.size) W c).mono QK
theorem X3o{w w':World}(n:w.heap.size<w'.heap.size):ZH w.heap.size (w.heap.size+1) w' 110 (w.heap.size) tyR:=by
 refine⟨n,YZ func110 (by kernel_rfl) (by kernel_rfl),fun W D B t u C k g j hi l a s x y E F v c z d A=>?_⟩;obtain⟨r,q,rfl,m,_⟩:=IB d g;exact(Fw r q (m) a (w.heap.size) W c).mono QK
theorem X3p{w w':World}(n:w.heap.size<w'.heap.size):ZH w.heap.size (w.heap.size+1) w' 113 (w.heap.size) tyR:=by
 refine⟨n,YZ func113 (by kernel_rfl) (by kernel_rfl),fun W D B t u C k g j hi l a s x y E F v c z d A=>?_⟩;obtain⟨r,q,rfl,_,m⟩:=IB d g;exact(Y4q r q (m) a (w.heap.size) W c).mono QK
theorem X3l{w w':World}(n:w.heap.size+1+1<w'.heap.size):ZH w.heap.size (w.heap.size+1+1+1) w' 110 (w.heap.size+1+1) tyR:=by
 refine⟨n,YZ func110 (by kernel_rfl) (by kernel_rfl),fun W D B t u C k g j hi l a s x y E F v c z d A=>?_⟩;obtain⟨r,q,rfl,m,_⟩:=IB d g;exact(Fw r q (m) a (w.heap.size+1+1) W c).mono QK
end Go.Proofs.YtkoiikmhfaebnaaGreatDoor.Vl
