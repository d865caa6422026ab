import Derived.Test.YtaeafhenpjnhiaaGreatDoorE02
import Derived.Test.YtaeafhenpjnhiaaGreatDoorE03
import Derived.Maps.OwnSet
import Derived.Lib.IndexAny
import Derived.Lib.IndexLaws
import Derived.Shelf.Small.Strs
set_option maxHeartbeats 1000000
set_option maxRecDepth 100000
namespace Go.Proofs.YtaeafhenpjnhiaaGreatDoor
open Tryz Go.RowKit
theorem Eh[LB]{P:Program}{ops:Array Oper}{o:Oper}{a:Act}{w:World}{K:Act->World->Prop}{Q:Exit->Act->World->Prop}{E:Prop}(u:o.guard=none)(f:FuncId)(x:Operand)(t:TypeId)(j:o.op=Op.call {callee:=Callee.value (Operand.func f),args:=#[x],argTypes:=#[t]})(v r:Value)(A:a.eval x=v)(fn:Func)(g:P.funcs[f]?=some fn)(hne:(fn.name == "runtime.NumGoroutine")=false)(d:fn.body.isNone=false)(R:World->Prop)(n:Calls P f #[v] w fun e w'=>e= .returned r/\R w')(s:∀w',R w'->K (a.put o.dst r) w'): if Region.wanted o (yielded ops a.tmps)=true then Oper.wp P o a w K Q else E:=by
 have y:Region.wanted o (yielded ops a.tmps)=true:=by simp[Region.wanted,u]
 rw[Xa y];have k:(callFunc f #[v]).run P w= .ok (.enter f #[v]) w:=by
  simp only[callFunc,ZB,JE,ZA,g,hne,d];rfl
 unfold Oper.wp;simp only[execOp,j,resolve,invoke,Qg,Y5,YD,A,Deferred.ofValue,ZB];rw[show a.eval (Operand.func f)=Value.func (Fn.func f) #[] #[]from rfl];simp only[Jd,ZA];simp[k];refine n.mono fun e B h=>?_;obtain⟨rfl,m⟩:=h;exact s _ m
def Wz(n:Nat):UInt8:=UInt8.ofNat (48+n%10)
def KE(n:Nat):List UInt8:=if _h:n<10 then[Wz n]else KE (n / 10)++[Wz n]
theorem Wy[LB](n:Nat):(KE n).length<=n / 10+1:=by
 induction n using Nat.strongRecOn with
 | ind n a=>
  rw[KE];by_cases h:n<10
  .rw[dif_pos h];simp
  .rw[dif_neg h];have:=a (n / 10) (by omega);simp only[Xj,XI,Ya];omega
theorem Tt[LB](W:World)(x:Int):(W.alloc (.cells #[.int .u8 x] 5)).cell? ⟨W.heap.size,0,none⟩=some (.int .u8 x):=by simp
theorem Y1v[LB](o:List UInt8)(c:UInt8):(⟨o.toArray⟩:ByteArray)++⟨#[c]⟩=⟨(o++[c]).toArray⟩:=by
 rw[←Lib.mk_data (⟨o.toArray⟩++⟨#[c]⟩)];congr 1
theorem Ss[LB]{B:Nat}{a w:World}(h:Below B a.drew w):Below B a w:=⟨h.os,h.tape,h.output,h.size,h.block⟩
theorem Ly[LB](W:World)(g:Nat)(j:Nat)(x:Int)(a:x=48+(j:Int)%10)(h:W.cell? ⟨g,0,none⟩=some (.int .u8 x)):(convert 22 9 (.l g 1 1)).run prog W= .ok (.t #[Wz j]) W:=by
 have:=run_convert_bytes_arg (P:=prog) W 22 5 underlying22 underlying5 g 0 1 1 [x] rfl (fun i hi=>by
  obtain rfl:i=0:=by omega
  simpa using h) 9 underlying9
 rw[this];subst a;have e:(48+(j:Int)%10).toNat=48+j%10:=by omega
 simp[strOfNums,e,Wz]
theorem WI[LB](n:Nat):∀(w:World),n<=9223372036854775807->CB 42 #[.q n] w (.string ⟨(KE n).toArray⟩):=by
 induction n using Nat.strongRecOn with
 | ind n v=>
  intro w B;by_cases h:n<10
  .have y:((n:Int)<10):=by omega
   have A:=Ly (w.z #[.int .u8 (48+(n:Int))] 5) w.heap.size n (48+(n:Int)) (by omega) (by simp);have j:=X1 (show KE n=[Wz n] by rw[KE,dif_pos h]);go_enter func42,ntmps42;go_wp2;go_ret;exact⟨by rw[j.o];rfl,bA _⟩
  .have y:¬((n:Int)<10):=by omega
   have j:=X1 (show KE n=KE (n / 10)++[Wz n] by rw[KE,dif_neg h]);have k:=X1 (fun w'=>v (n / 10) (by omega) w' (by omega));clear v;have F:(n:Int).tmod 10=(n:Int)%10:=UY (by omega);have C:IntKind.i64.wrap ((n:Int) / 10)=(n:Int) / 10:=by rw[Yp];omega
   have E:IntKind.i64.wrap (48+(n:Int)%10)=48+(n:Int)%10:=by rw[Yp];omega
   have H:IntKind.u8.wrap (48+(n:Int)%10)=48+(n:Int)%10:=by rw[IntKind.wrap_u8];omega
   have d:(w.z #[.int .u8 (48+(n:Int)%10)] 5).drew.cell? ⟨w.heap.size,0,none⟩=some (.int .u8 (48+(n:Int)%10)):=Tt w _;have u:¬9223372036854775807<(KE (n / 10)).length+1:=by have:=Wy (n / 10);omega
   have s:=Ly (w.z #[.int .u8 (48+(n:Int)%10)] 5).drew w.heap.size n _ rfl d;have g:=X1 d;clear d;go_enter func42,ntmps42;go_wp2_with fail;go_region_law(first
    | (refine Eh rfl 42 (.tmp 11) 2 rfl (.q (n / 10:Nat)) (.string ⟨(KE (n / 10)).toArray⟩) (by simp[Act.eval,Act.put]) f42 func42 (by kernel_rfl) (by kernel_rfl) _ (k.o w.drew) ?_;intro w5 a;have m:=Ly (w5.z #[.int .u8 (48+(n:Int)%10)] 5) w5.heap.size n _ rfl (by simp))
    | (refine Eh rfl 42 (.tmp 11) 2 rfl (.q (n / 10:Nat)) (.string ⟨(KE (n / 10)).toArray⟩) (by first|(simp[Act.eval];done)|simp[Act.eval,Act.put]) f42 func42 (by kernel_rfl) (by kernel_rfl) _ (k.o (w.z #[.int .u8 (48+(n:Int)%10)] 5).drew) ?_;intro w5 a;have r:=Ly w5 w.heap.size n (48+(n:Int)%10) rfl ((a.cell (p:=⟨w.heap.size,0,none⟩) (by show w.heap.size<(w.z #[.int .u8 (48+(n:Int)%10)] 5).heap.size;simp)).trans g.o)))
   all_goals
    go_wp2;go_ret;refine⟨by rw[j.o,←Y1v];rfl,?_⟩
    first
     | exact(Ss a).alloc a.size _
     | exact((X8 _ w).alloc (X5 _) _).trans ((Ss a).mono (by simp))
section
set_option linter.unusedSimpArgs false
section
variable {ts:List Sc.T} {sz:Nat}
theorem Pr.Cv.same{c:Zb}{s:Pr.Dk}{r q:Pr.Dk × Nat}(h:Pr.Cv ts sz c s r)(k:Pr.Cv ts sz c s q):r=q:=by
 obtain⟨f,a⟩:=h;obtain⟨g,d⟩:=k;exact(a (f+g) (by omega)).symm.trans (d (f+g) (by omega))
theorem Pr.Cv.stp{c:Zb}{s:Pr.Dk}{r:Pr.Dk × Nat}(h:Pr.Cv ts sz c s r)(d:s.p<=ts.length):Pr.Stp ts s r.1 (XX c):=by
 obtain⟨f,a⟩:=h;have:=Mu (ts:=ts) (sz:=sz) f c s d
 rwa[a f (X5 _)]at this
theorem Pr.Cv.num{c:Zb}{s:Pr.Dk}{r:Pr.Dk × Nat}(h:Pr.Cv ts sz c s r)(a:Mq c=false)(g:s.p<=ts.length):r.2<=2*(Zf c+(r.1.p-s.p))+3:=by
 obtain⟨f,d⟩:=h;have:=Ff (ts:=ts) (sz:=sz) f c s a g
 rwa[d f (X5 _)]at this
theorem Pr.Cv.of0{c:Zb}{s:Pr.Dk}{r:Pr.Dk × Nat}(h:∀g,Xc ts sz (g+1) c s=r):Pr.Cv ts sz c s r:=⟨1,fun f a=>by
 obtain⟨g,rfl⟩:∃g,f=g+1:=⟨f-1,by omega⟩
 exact h g⟩
theorem Pr.Cv.of1{c a:Zb}{s j:Pr.Dk}{r d:Pr.Dk × Nat}(k:Pr.Cv ts sz a j d)(h:∀g,Xc ts sz g a j=d->Xc ts sz (g+1) c s=r):Pr.Cv ts sz c s r:=by
 obtain⟨n,k⟩:=k;refine⟨n+1,fun f m=>?_⟩;obtain⟨g,rfl⟩:∃g,f=g+1:=⟨f-1,by omega⟩;exact h g (k g (by omega))
theorem Pr.Cv.of2{c a d:Zb}{s v y:Pr.Dk}{r u r1:Pr.Dk × Nat}(k:Pr.Cv ts sz a v u)(j:Pr.Cv ts sz d y r1)(h:∀g,Xc ts sz g a v=u->Xc ts sz g d y=r1->Xc ts sz (g+1) c s=r):Pr.Cv ts sz c s r:=by
 obtain⟨n,k⟩:=k;obtain⟨m,j⟩:=j;refine⟨n+m+1,fun f A=>?_⟩;obtain⟨g,rfl⟩:∃g,f=g+1:=⟨f-1,by omega⟩;exact h g (k g (by omega)) (j g (by omega))
theorem Pr.Cv.of3{c a d u:Zb}{s y A B:Pr.Dk}{r v r1 r2:Pr.Dk × Nat}(k:Pr.Cv ts sz a y v)(j:Pr.Cv ts sz d A r1)(i:Pr.Cv ts sz u B r2)(h:∀g,Xc ts sz g a y=v->Xc ts sz g d A=r1->Xc ts sz g u B=r2->Xc ts sz (g+1) c s=r):Pr.Cv ts sz c s r:=by
 obtain⟨n,k⟩:=k;obtain⟨m,j⟩:=j;obtain⟨l,i⟩:=i;refine⟨n+m+l+1,fun f C=>?_⟩;obtain⟨g,rfl⟩:∃g,f=g+1:=⟨f-1,by omega⟩;exact h g (k g (by omega)) (j g (by omega)) (i g (by omega))
variable {s:Pr.Dk} {r1 r2 r3:Pr.Dk × Nat} {n r:Nat}
theorem Pr.Cv.DW(j:X4 ts sz s XM=true)(k:Pr.Cv ts sz .e (Xd ts sz (Xm ts sz (X2 s)) [61]) r1)(m:Pr.Cv ts sz .e (Xd ts sz r1.1 Y1) r2):Pr.Cv ts sz .e s (X9 r2.1 14 0 0 (Xe ts sz (X2 s)) 2,0):=.of2 k m fun g a d=>by unfold Xc;simp[j,a,d]
theorem Pr.Cv.IQ(k:X4 ts sz s XM=false)(m:X4 ts sz s XR=true)(u:Pr.Cv ts sz .e (X2 s) r1)(v:Pr.Cv ts sz .e (Xd ts sz r1.1 Qi) r2)(y:Pr.Cv ts sz .e (Xd ts sz r2.1 Qq) r3):Pr.Cv ts sz .e s (X9 r3.1 13 0 0 [] 3,0):=.of3 u v y fun g a d j=>by unfold Xc;simp[k,m,a,d,j]
theorem Pr.Cv.IN(j:X4 ts sz s XM=false)(k:X4 ts sz s XR=false)(m:X4 ts sz s Zz=true)(u:Pr.Cv ts sz .params (X2 s) r1)(v:Pr.Cv ts sz .e (Xd ts sz r1.1 [61,62]) r2):Pr.Cv ts sz .e s (X9 r2.1 15 0 0 [] (r1.2+1),0):=.of2 u v fun g a d=>by unfold Xc;simp[j,k,m,a,d]
theorem Pr.Cv.VP(d:X4 ts sz s XM=false)(j:X4 ts sz s XR=false)(k:X4 ts sz s Zz=false)(m:Pr.Cv ts sz (.ops 1) s r1):Pr.Cv ts sz .e s r1:=.of1 m fun g a=>by unfold Xc;simp[d,j,k,a]
theorem Pr.Cv.params(d:Pr.Cv ts sz (.Yn 0) (Xd ts sz s [40]) r1):Pr.Cv ts sz .params s (Xd ts sz r1.1 [41],r1.2):=.of1 d fun g a=>by unfold Xc;simp[a]
theorem Pr.Cv.P8(a:s.bad=true):Pr.Cv ts sz (.Yn n) s (s,n):=.of0 fun g=>by unfold Xc;simp[a]
theorem Pr.Cv.LF(a:s.bad=false)(d:X4 ts sz s [41]=true):Pr.Cv ts sz (.Yn 0) s (s,0):=.of0 fun g=>by unfold Xc;simp[a,d]
theorem Pr.Cv.GF(j:s.bad=false)(k:(n==0&&X4 ts sz s [41])=false)(m:X4 ts sz (Xm ts sz s) [61]=true)(u:X4 ts sz (X9 r1.1 19 0 0 (Xe ts sz s) 1) [44]=true)(v:Pr.Cv ts sz .e (X2 (Xm ts sz s)) r1)(y:Pr.Cv ts sz (.Yn (n+1)) (X2 (X9 r1.1 19 0 0 (Xe ts sz s) 1)) r2):Pr.Cv ts sz (.Yn n) s r2:=.of2 v y fun g a d=>by unfold Xc;simp[j,k,m,u,a,d]
theorem Pr.Cv.GG(d:s.bad=false)(j:(n==0&&X4 ts sz s [41])=false)(k:X4 ts sz (Xm ts sz s) [61]=true)(m:X4 ts sz (X9 r1.1 19 0 0 (Xe ts sz s) 1) [44]=false)(u:Pr.Cv ts sz .e (X2 (Xm ts sz s)) r1):Pr.Cv ts sz (.Yn n) s (X9 r1.1 19 0 0 (Xe ts sz s) 1,n+1):=.of1 u fun g a=>by unfold Xc;simp[d,j,k,m,a]
theorem Pr.Cv.GC(d:s.bad=false)(j:(n==0&&X4 ts sz s [41])=false)(k:X4 ts sz (Xm ts sz s) [61]=false)(m:X4 ts sz (X9 (Xm ts sz s) 19 0 0 (Xe ts sz s) 0) [44]=true)(u:Pr.Cv ts sz (.Yn (n+1)) (X2 (X9 (Xm ts sz s) 19 0 0 (Xe ts sz s) 0)) r2):Pr.Cv ts sz (.Yn n) s r2:=.of1 u fun g a=>by unfold Xc;simp[d,j,k,m,a]
theorem Pr.Cv.GD(a:s.bad=false)(d:(n==0&&X4 ts sz s [41])=false)(j:X4 ts sz (Xm ts sz s) [61]=false)(k:X4 ts sz (X9 (Xm ts sz s) 19 0 0 (Xe ts sz s) 0) [44]=false):Pr.Cv ts sz (.Yn n) s (X9 (Xm ts sz s) 19 0 0 (Xe ts sz s) 0,n+1):=.of0 fun g=>by unfold Xc;simp[a,d,j,k]
theorem Pr.Cv.ops_bad(a:s.bad=true):Pr.Cv ts sz (.ops r) s (s,0):=.of0 fun g=>by unfold Xc;simp[a]
theorem Pr.Cv.P4(d:s.bad=false)(j:X4 ts sz s Zk=true)(k:Pr.Cv ts sz (.ops 3) (X2 s) r1):Pr.Cv ts sz (.ops 3) s (X9 r1.1 6 1 0 [] 1,0):=.of1 k fun g a=>by unfold Xc;simp[d,j,a]
theorem Pr.Cv.P3(d:s.bad=false)(j:X4 ts sz s Zk=false)(k:Pr.Cv ts sz (.ops 4) s r1):Pr.Cv ts sz (.ops 3) s r1:=.of1 k fun g a=>by unfold Xc;simp[d,j,a]
theorem Pr.Cv.D3(d:s.bad=false)(j:((7:Nat)==3)=false)(k:X4 ts sz s [45]=true)(m:Pr.Cv ts sz (.ops 7) (X2 s) r1):Pr.Cv ts sz (.ops 7) s (X9 r1.1 6 2 0 [] 1,0):=.of1 m fun g a=>by unfold Xc;simp[d,j,k,a]
theorem Pr.Cv.D0(d:s.bad=false)(j:((7:Nat)==3)=false)(k:X4 ts sz s [45]=false)(m:Pr.Cv ts sz .post s r1):Pr.Cv ts sz (.ops 7) s r1:=.of1 m fun g a=>by unfold Xc;simp[d,j,k,a]
theorem Pr.Cv.Vk(j:s.bad=false)(k:(r==3)=false)(m:(r==7)=false)(u:Pr.Cv ts sz (.ops (r+1)) s r1)(v:Pr.Cv ts sz (.opsL r) r1.1 r2):Pr.Cv ts sz (.ops r) s r2:=.of2 u v fun g a d=>by unfold Xc;simp[j,k,m,a,d]
theorem Pr.Cv.Lz(a:(YT ts sz s r==0)=true):Pr.Cv ts sz (.opsL r) s (s,0):=.of0 fun g=>by unfold Xc;simp[a]
theorem Pr.Cv.P1(d:(YT ts sz s 4==0)=false)(j:Pr.Cv ts sz (.ops (4+1)) (X2 s) r1):Pr.Cv ts sz (.opsL 4) s (X9 r1.1 7 (YT ts sz s 4) 0 [] 2,0):=.of1 j fun g a=>by unfold Xc;simp[d,a]
theorem Pr.Cv.P2(j:(YT ts sz s r==0)=false)(k:(r==4)=false)(m:Pr.Cv ts sz (.ops (r+1)) (X2 s) r1)(u:Pr.Cv ts sz (.opsL r) (X9 r1.1 7 (YT ts sz s r) 0 [] 2) r2):Pr.Cv ts sz (.opsL r) s r2:=.of2 m u fun g a d=>by unfold Xc;simp[j,k,a,d]
theorem Pr.Cv.post(j:Pr.Cv ts sz .single s r1)(k:Pr.Cv ts sz .Yr r1.1 r2):Pr.Cv ts sz .post s r2:=.of2 j k fun g a d=>by unfold Xc;simp[a,d]
theorem Pr.Cv.Cf(a:s.bad=true):Pr.Cv ts sz .Yr s (s,0):=.of0 fun g=>by unfold Xc;simp[a]
theorem Pr.Cv.GH(j:s.bad=false)(k:X4 ts sz s [40]=true)(m:Pr.Cv ts sz .args (X2 s) r1)(u:Pr.Cv ts sz .Yr (X9 r1.1 12 0 0 [] (1+r1.2)) r2):Pr.Cv ts sz .Yr s r2:=.of2 m u fun g a d=>by unfold Xc;simp[j,k,a,d]
theorem Pr.Cv.LI(j:s.bad=false)(k:X4 ts sz s [40]=false)(m:X4 ts sz s [91]=true)(u:Pr.Cv ts sz .e (X2 s) r1)(v:Pr.Cv ts sz .Yr (X9 (Xd ts sz r1.1 [93]) 10 0 0 [] 2) r2):Pr.Cv ts sz .Yr s r2:=.of2 u v fun g a d=>by unfold Xc;simp[j,k,m,a,d]
theorem Pr.Cv.LH(d:s.bad=false)(j:X4 ts sz s [40]=false)(k:X4 ts sz s [91]=false)(m:X4 ts sz s [46]=true)(u:Pr.Cv ts sz .Yr (X9 (Xm ts sz (X2 s)) 11 0 0 (Xe ts sz (X2 s)) 1) r2):Pr.Cv ts sz .Yr s r2:=.of1 u fun g a=>by unfold Xc;simp[d,j,k,m,a]
theorem Pr.Cv.Pc(a:s.bad=false)(d:X4 ts sz s [40]=false)(j:X4 ts sz s [91]=false)(k:X4 ts sz s [46]=false):Pr.Cv ts sz .Yr s (s,0):=.of0 fun g=>by unfold Xc;simp[a,d,j,k]
theorem Pr.Cv.args(d:Pr.Cv ts sz (.argsL 0 false) s r1):Pr.Cv ts sz .args s (Xd ts sz r1.1 [41],r1.2):=.of1 d fun g a=>by unfold Xc;simp[a]
theorem Pr.Cv.NH{b:Bool}(a:s.bad=true):Pr.Cv ts sz (.argsL n b) s (s,n):=.of0 fun g=>by unfold Xc;simp[a]
theorem Pr.Cv.MI{b:Bool}(a:s.bad=false)(d:X4 ts sz s [41]=true):Pr.Cv ts sz (.argsL 0 b) s (s,0):=.of0 fun g=>by unfold Xc;simp[a,d]
theorem Pr.Cv.VH{b:Bool}(j:s.bad=false)(k:(n==0&&X4 ts sz s [41])=false)(m:(b||Yl ts sz s)=true)(u:X4 ts sz (X9 r1.1 18 0 0 (Xe ts sz s) 1) [44]=true)(v:Pr.Cv ts sz .e (Xd ts sz (Xm ts sz s) [61]) r1)(y:Pr.Cv ts sz (.argsL (n+1) true) (X2 (X9 r1.1 18 0 0 (Xe ts sz s) 1)) r2):Pr.Cv ts sz (.argsL n b) s r2:=.of2 v y fun g a d=>by unfold Xc;simp[j,k,m,u,a,d]
theorem Pr.Cv.VI{b:Bool}(d:s.bad=false)(j:(n==0&&X4 ts sz s [41])=false)(k:(b||Yl ts sz s)=true)(m:X4 ts sz (X9 r1.1 18 0 0 (Xe ts sz s) 1) [44]=false)(u:Pr.Cv ts sz .e (Xd ts sz (Xm ts sz s) [61]) r1):Pr.Cv ts sz (.argsL n b) s (X9 r1.1 18 0 0 (Xe ts sz s) 1,n+1):=.of1 u fun g a=>by unfold Xc;simp[d,j,k,m,a]
theorem Pr.Cv.DL{b:Bool}(j:s.bad=false)(k:(n==0&&X4 ts sz s [41])=false)(m:(b||Yl ts sz s)=false)(u:X4 ts sz r1.1 [44]=true)(v:Pr.Cv ts sz .e s r1)(y:Pr.Cv ts sz (.argsL (n+1) false) (X2 r1.1) r2):Pr.Cv ts sz (.argsL n b) s r2:=.of2 v y fun g a d=>by unfold Xc;simp[j,k,m,u,a,d]
theorem Pr.Cv.DM{b:Bool}(d:s.bad=false)(j:(n==0&&X4 ts sz s [41])=false)(k:(b||Yl ts sz s)=false)(m:X4 ts sz r1.1 [44]=false)(u:Pr.Cv ts sz .e s r1):Pr.Cv ts sz (.argsL n b) s (r1.1,n+1):=.of1 u fun g a=>by unfold Xc;simp[d,j,k,m,a]
theorem Pr.Cv.list_nil(a:X4 ts sz s [93]=true):Pr.Cv ts sz .list s (X9 (X2 s) 8 0 0 [] 0,0):=.of0 fun g=>by unfold Xc;simp[a]
theorem Pr.Cv.VZ(j:X4 ts sz s [93]=false)(k:X4 ts sz r1.1 Zr=false)(m:Pr.Cv ts sz .e s r1)(u:Pr.Cv ts sz (.Zl 1) r1.1 r2):Pr.Cv ts sz .list s (X9 (Xd ts sz r2.1 [93]) 8 0 0 [] r2.2,0):=.of2 m u fun g a d=>by unfold Xc;simp[j,k,a,d]
theorem Pr.Cv.VY(j:X4 ts sz s [93]=false)(k:X4 ts sz r1.1 Zr=true)(m:X4 ts sz {r2.1 with o:=r2.1.o++r1.1.o.drop s.o.length} XR=false)(u:Pr.Cv ts sz .e s r1)(v:Pr.Cv ts sz .e (Xd ts sz (Xm ts sz {X2 r1.1 with o:=r1.1.o.take s.o.length}) Y1) r2):Pr.Cv ts sz .list s (X9 (Xd ts sz {r2.1 with o:=r2.1.o++r1.1.o.drop s.o.length} [93]) 16 0 0 (Xe ts sz {X2 r1.1 with o:=r1.1.o.take s.o.length}) 2,0):=.of2 u v fun g a d=>by unfold Xc;simp only[j,k,m,a,d,Kv,Jq,Kl,ite_true,ite_false,Bool.and_true,Bool.and_false,Bool.or_false,I3,Bool.true_or,Bool.or_true,Vs,UW,beq_self_eq_true]
theorem Pr.Cv.WV(k:X4 ts sz s [93]=false)(m:X4 ts sz r1.1 Zr=true)(u:X4 ts sz {r2.1 with o:=r2.1.o++r1.1.o.drop s.o.length} XR=true)(v:Pr.Cv ts sz .e s r1)(y:Pr.Cv ts sz .e (Xd ts sz (Xm ts sz {X2 r1.1 with o:=r1.1.o.take s.o.length}) Y1) r2)(A:Pr.Cv ts sz .e (X2 {r2.1 with o:=r2.1.o++r1.1.o.drop s.o.length}) r3):Pr.Cv ts sz .list s (X9 (Xd ts sz r3.1 [93]) 16 0 0 (Xe ts sz {X2 r1.1 with o:=r1.1.o.take s.o.length}) 3,0):=.of3 v y A fun g a d j=>by unfold Xc;simp only[k,m,u,a,d,j,Kv,Jq,Kl,ite_true,ite_false,Bool.and_true,Bool.and_false,Bool.or_false,I3,Bool.true_or,Bool.or_true,Vs,UW,beq_self_eq_true]
theorem Pr.Cv.Gi(j:X4 ts sz s [44]=true)(k:Pr.Cv ts sz .e (X2 s) r1)(m:Pr.Cv ts sz (.Zl (n+1)) r1.1 r2):Pr.Cv ts sz (.Zl n) s r2:=.of2 k m fun g a d=>by unfold Xc;simp[j,a,d]
theorem Pr.Cv.Gh(a:X4 ts sz s [44]=false):Pr.Cv ts sz (.Zl n) s (s,n):=.of0 fun g=>by unfold Xc;simp[a]
theorem Pr.Cv.GM(d:(r1.2%2==1)=false)(j:Pr.Cv ts sz (.recordL 0) s r1):Pr.Cv ts sz .record s (X9 (Xd ts sz r1.1 [125]) 9 0 0 [] (r1.2 / 2),0):=.of1 j fun g a=>by unfold Xc;simp[d,a]
theorem Pr.Cv.Cz(d:(r1.2%2==1)=true)(j:Pr.Cv ts sz (.recordL 0) s r1):Pr.Cv ts sz .record s (r1.1,0):=.of1 j fun g a=>by unfold Xc;simp[d,a]
theorem Pr.Cv.Xfy(a:s.bad=true):Pr.Cv ts sz (.recordL n) s (s,2*n):=.of0 fun g=>by unfold Xc;simp[a]
theorem Pr.Cv.Pm(a:s.bad=false)(d:X4 ts sz s [125]=true):Pr.Cv ts sz (.recordL 0) s (s,2*0):=.of0 fun g=>by unfold Xc;simp[a,d]
theorem Pr.Cv.Vl(j:s.bad=false)(k:(n==0&&X4 ts sz s [125])=false)(m:((X3 ts sz s).kind==1||(X3 ts sz s).kind==4)=true)(u:X4 ts sz (X9 r1.1 17 0 0 (X3 ts sz s).text 1) [44]=true)(v:Pr.Cv ts sz .e (Xd ts sz (X2 s) [58]) r1)(y:Pr.Cv ts sz (.recordL (n+1)) (X2 (X9 r1.1 17 0 0 (X3 ts sz s).text 1)) r2):Pr.Cv ts sz (.recordL n) s r2:=.of2 v y fun g a d=>by unfold Xc;simp[j,k,m,u,a,d]
theorem Pr.Cv.Vm(d:s.bad=false)(j:(n==0&&X4 ts sz s [125])=false)(k:((X3 ts sz s).kind==1||(X3 ts sz s).kind==4)=true)(m:X4 ts sz (X9 r1.1 17 0 0 (X3 ts sz s).text 1) [44]=false)(u:Pr.Cv ts sz .e (Xd ts sz (X2 s) [58]) r1):Pr.Cv ts sz (.recordL n) s (X9 r1.1 17 0 0 (X3 ts sz s).text 1,2*(n+1)):=.of1 u fun g a=>by unfold Xc;simp[d,j,k,m,a]
theorem Pr.Cv.Pn(a:s.bad=false)(d:(n==0&&X4 ts sz s [125])=false)(j:((X3 ts sz s).kind==1||(X3 ts sz s).kind==4)=false):Pr.Cv ts sz (.recordL n) s (Z0 ts sz s,2*n+1):=.of0 fun g=>by unfold Xc;simp[a,d,j]
theorem Pr.Cv.Y1e(a:s.bad=true):Pr.Cv ts sz .single s (s,0):=.of0 fun g=>by unfold Xc;simp[a]
theorem Pr.Cv.PA(a:s.bad=false)(d:((X3 ts sz s).kind==3)=true):Pr.Cv ts sz .single s (X9 (X2 s) 3 0 (X3 ts sz s).n [] 0,0):=.of0 fun g=>by unfold Xc;simp[a,d]
theorem Pr.Cv.PH(a:s.bad=false)(d:((X3 ts sz s).kind==3)=false)(j:((X3 ts sz s).kind==4)=true):Pr.Cv ts sz .single s (X9 (X2 s) 4 0 0 (X3 ts sz s).text 0,0):=.of0 fun g=>by unfold Xc;simp[a,d,j]
theorem Pr.Cv.PD(a:s.bad=false)(d:((X3 ts sz s).kind==3)=false)(j:((X3 ts sz s).kind==4)=false)(k:((X3 ts sz s).kind==1)=true):Pr.Cv ts sz .single s (X9 (X2 s) 5 0 0 (X3 ts sz s).text 0,0):=.of0 fun g=>by unfold Xc;simp[a,d,j,k]
theorem Pr.Cv.PE(a:s.bad=false)(d:((X3 ts sz s).kind==3)=false)(j:((X3 ts sz s).kind==4)=false)(k:((X3 ts sz s).kind==1)=false)(m:X4 ts sz s Zj=true):Pr.Cv ts sz .single s (X9 (X2 s) 1 0 0 [] 0,0):=.of0 fun g=>by unfold Xc;simp[a,d,j,k,m]
theorem Pr.Cv.Pz(a:s.bad=false)(d:((X3 ts sz s).kind==3)=false)(j:((X3 ts sz s).kind==4)=false)(k:((X3 ts sz s).kind==1)=false)(m:X4 ts sz s Zj=false)(u:X4 ts sz s ZK=true):Pr.Cv ts sz .single s (X9 (X2 s) 2 0 0 [] 0,0):=.of0 fun g=>by unfold Xc;simp[a,d,j,k,m,u]
theorem Pr.Cv.PI(a:s.bad=false)(d:((X3 ts sz s).kind==3)=false)(j:((X3 ts sz s).kind==4)=false)(k:((X3 ts sz s).kind==1)=false)(m:X4 ts sz s Zj=false)(u:X4 ts sz s ZK=false)(v:X4 ts sz s K4=true):Pr.Cv ts sz .single s (X9 (X2 s) 2 0 1 [] 0,0):=.of0 fun g=>by unfold Xc;simp[a,d,j,k,m,u,v]
theorem Pr.Cv.PC(d:s.bad=false)(j:((X3 ts sz s).kind==3)=false)(k:((X3 ts sz s).kind==4)=false)(m:((X3 ts sz s).kind==1)=false)(u:X4 ts sz s Zj=false)(v:X4 ts sz s ZK=false)(y:X4 ts sz s K4=false)(A:X4 ts sz s [91]=true)(B:Pr.Cv ts sz .list (X2 s) r1):Pr.Cv ts sz .single s r1:=.of1 B fun g a=>by unfold Xc;simp[d,j,k,m,u,v,y,A,a]
theorem Pr.Cv.PF(d:s.bad=false)(j:((X3 ts sz s).kind==3)=false)(k:((X3 ts sz s).kind==4)=false)(m:((X3 ts sz s).kind==1)=false)(u:X4 ts sz s Zj=false)(v:X4 ts sz s ZK=false)(y:X4 ts sz s K4=false)(A:X4 ts sz s [91]=false)(B:X4 ts sz s [123]=true)(C:Pr.Cv ts sz .record (X2 s) r1):Pr.Cv ts sz .single s r1:=.of1 C fun g a=>by unfold Xc;simp[d,j,k,m,u,v,y,A,B,a]
theorem Pr.Cv.PG(d:s.bad=false)(j:((X3 ts sz s).kind==3)=false)(k:((X3 ts sz s).kind==4)=false)(m:((X3 ts sz s).kind==1)=false)(u:X4 ts sz s Zj=false)(v:X4 ts sz s ZK=false)(y:X4 ts sz s K4=false)(A:X4 ts sz s [91]=false)(B:X4 ts sz s [123]=false)(C:X4 ts sz s [40]=true)(E:Pr.Cv ts sz .e (X2 s) r1):Pr.Cv ts sz .single s (Xd ts sz r1.1 [41],0):=.of1 E fun g a=>by unfold Xc;simp[d,j,k,m,u,v,y,A,B,C,a]
theorem Pr.Cv.Ea(a:s.bad=false)(d:((X3 ts sz s).kind==3)=false)(j:((X3 ts sz s).kind==4)=false)(k:((X3 ts sz s).kind==1)=false)(m:X4 ts sz s Zj=false)(u:X4 ts sz s ZK=false)(v:X4 ts sz s K4=false)(y:X4 ts sz s [91]=false)(A:X4 ts sz s [123]=false)(B:X4 ts sz s [40]=false):Pr.Cv ts sz .single s (Z0 ts sz s,0):=.of0 fun g=>by unfold Xc;simp[a,d,j,k,m,u,v,y,A,B]
theorem Pr.Cv.Bp(a:s.bad=true):Pr.Cv ts sz (.YX n) s (s,n):=.of0 fun g=>by unfold Xc;simp[a]
theorem Pr.Cv.Ln(d:s.bad=false)(j:X4 ts sz (X9 (Xm ts sz s) 5 0 0 (Xe ts sz s) 0) [44]=true)(k:Pr.Cv ts sz (.YX (n+1)) (X2 (X9 (Xm ts sz s) 5 0 0 (Xe ts sz s) 0)) r1):Pr.Cv ts sz (.YX n) s r1:=.of1 k fun g a=>by unfold Xc;simp[d,j,a]
theorem Pr.Cv.Lo(a:s.bad=false)(d:X4 ts sz (X9 (Xm ts sz s) 5 0 0 (Xe ts sz s) 0) [44]=false):Pr.Cv ts sz (.YX n) s (X9 (Xm ts sz s) 5 0 0 (Xe ts sz s) 0,n+1):=.of0 fun g=>by unfold Xc;simp[a,d]
theorem Pr.Cv.LQ(j:X4 ts sz s Z7=true)(k:Pr.Cv ts sz .params (Xm ts sz (X2 s)) r1)(m:Pr.Cv ts sz .e (Xd ts sz r1.1 [61]) r2):Pr.Cv ts sz .statement s (Xd ts sz (X9 r2.1 20 0 0 (Xe ts sz (X2 s)) (r1.2+1)) [59],0):=.of2 k m fun g a d=>by unfold Xc;simp[j,a,d]
theorem Pr.Cv.LU(d:X4 ts sz s Z7=false)(j:X4 ts sz s XM=true)(k:Pr.Cv ts sz .e (Xd ts sz (Xm ts sz (X2 s)) [61]) r1):Pr.Cv ts sz .statement s (Xd ts sz (X9 r1.1 21 0 0 (Xe ts sz (X2 s)) 1) [59],0):=.of1 k fun g a=>by unfold Xc;simp[d,j,a]
theorem Pr.Cv.LR(d:X4 ts sz s Z7=false)(j:X4 ts sz s XM=false)(k:X4 ts sz s K3=true)(m:Pr.Cv ts sz .e (X2 s) r1):Pr.Cv ts sz .statement s (Xd ts sz (X9 r1.1 22 0 0 [] 1) [59],0):=.of1 m fun g a=>by unfold Xc;simp[d,j,k,a]
theorem Pr.Cv.LV(d:X4 ts sz s Z7=false)(j:X4 ts sz s XM=false)(k:X4 ts sz s K3=false)(m:X4 ts sz s Kj=true)(u:((X3 ts sz (X2 s)).kind==4)=true)(v:Pr.Cv ts sz (.YX 0) (Xd ts sz (X2 (X2 s)) [58]) r1):Pr.Cv ts sz .statement s (Xd ts sz (X9 r1.1 23 0 0 (X3 ts sz (X2 s)).text r1.2) [59],0):=.of1 v fun g a=>by unfold Xc;simp[d,j,k,m,u,a]
theorem Pr.Cv.Ef(a:X4 ts sz s Z7=false)(d:X4 ts sz s XM=false)(j:X4 ts sz s K3=false)(k:X4 ts sz s Kj=true)(m:((X3 ts sz (X2 s)).kind==4)=false):Pr.Cv ts sz .statement s (Z0 ts sz (X2 s),0):=.of0 fun g=>by unfold Xc;simp[a,d,j,k,m]
theorem Pr.Cv.Eg(a:X4 ts sz s Z7=false)(d:X4 ts sz s XM=false)(j:X4 ts sz s K3=false)(k:X4 ts sz s Kj=false):Pr.Cv ts sz .statement s (Xd ts sz (Z0 ts sz s) [59],0):=.of0 fun g=>by unfold Xc;simp[a,d,j,k]
theorem Pr.Cv.WL(a:(s.bad||decide (ts.length<=s.p))=true):Pr.Cv ts sz (.fileL n) s (s,n):=.of0 fun g=>by unfold Xc;simp[a]
theorem Pr.Cv.G0(j:(s.bad||decide (ts.length<=s.p))=false)(k:Pr.Cv ts sz .statement s r1)(m:Pr.Cv ts sz (.fileL (n+1)) r1.1 r2):Pr.Cv ts sz (.fileL n) s r2:=.of2 k m fun g a d=>by unfold Xc;simp[j,a,d]
end
end
namespace Sc
theorem Y2b{p:UInt8->Bool}{b:UInt8}{r:List UInt8}(h:p b=true):((b::r).takeWhile p).length=(r.takeWhile p).length+1:=by simp[h]
theorem Y2a{p:UInt8->Bool}{b:UInt8}{r:List UInt8}(h:p b=false):((b::r).takeWhile p).length=0:=by simp[h]
theorem WY(l:List UInt8)(b:UInt8):YR (l++[b])=YR l*10+(b.toNat-48):=by simp[YR]
theorem Y2c(s:ByteArray)(k j:Nat)(a:k<=j)(h:j<s.size):(s.data.toList.drop k).take (j+1-k)=(s.data.toList.drop k).take (j-k)++[s[j]]:=by
 rw[show j+1-k=(j-k)+1 from by omega,Vx (by simp;omega)]
 congr 2;simp[show k+(j-k)=j from by omega]
 rfl
end Sc
theorem Lc(b:UInt8)(w:World):CS 112 #[.int .u8 b.toNat] w (.q (Sc.XZ b)):=by
 by_cases a:48<=(b.toNat:Int);all_goals by_cases d:(b.toNat:Int)<=57
 all_goals by_cases g:97<=(b.toNat:Int)
 all_goals by_cases j:(b.toNat:Int)<=102
 all_goals first|(exfalso;omega)|skip
 all_goals
  go_enter func112,ntmps112;go_wp2;go_ret;exact⟨ZQ (by unfold Sc.XZ;first|rw[Xa (by omega)]|rw[X6 (by omega),Xa (by omega)]|rw[X6 (by omega),X6 (by omega)]),rfl⟩
theorem Av(s:ByteArray)(k:Nat)(a:Int)(w:World)(J:s.size<=1048576)(I:k<=s.size)(E:a=(k:Int)): CS 51 #[.string s,.q a] w (.q ((k+Sc.Xl false (s.data.toList.drop k):Nat):Int)):=by
 subst E;go_enter func51,ntmps51;go_wp2;go_loop[1] (fun t=>∃j:Nat,j<=s.size/\t= .q j/\j+Sc.Xl false (s.data.toList.drop j)=k+Sc.Xl false (s.data.toList.drop k)) (fun t=>s.size-(intOf t).toNat)
 case atStart=>exact⟨k,I,rfl,rfl⟩
 case round=>
  obtain⟨j,F,rfl,C⟩:=hrel;have n:=X1 C;clear C;by_cases B:j<s.size
  .have v:=X1 (Sc.drop_cons s j B);cases g:((s[j].toNat:Int)==35)
   .cases m:((s[j].toNat:Int)==32)
    .cases d:((s[j].toNat:Int)==10)
     .go_wp2;go_ret;refine⟨ZQ ?_,rfl⟩;have e:=n.o;rw[v.o]at e;simp at g m d;simp only[Sc.Xl]at e;rw[X6 (by omega),X6 (by omega)]at e;omega
     .go_wp2;go_round
      case rel=>
       refine⟨j+1,by omega,by go_num,?_⟩;have e:=n.o;rw[v.o]at e;simp at g m d;simp only[Sc.Xl]at e;rw[X6 (by omega),Xa (by omega)]at e;omega
      case measure=>simp[intOf];omega
    .go_wp2;go_round
     case rel=>
      refine⟨j+1,by omega,by go_num,?_⟩;have e:=n.o;rw[v.o]at e;simp at g m;simp only[Sc.Xl]at e;rw[X6 (by omega),Xa (by omega)]at e;omega
     case measure=>simp[intOf];omega
   .go_wp2;go_loop[1] (fun t=>∃i:Nat,j<=i/\i<=s.size/\t= .q i/\i+Sc.Xl true (s.data.toList.drop i)=k+Sc.Xl false (s.data.toList.drop k)) (fun t=>s.size-(intOf t).toNat)
    case atStart=>
     refine⟨j,X5 _,F,rfl,?_⟩;have e:=n.o;rw[v.o]at e⊢;simp at g;simp only[Sc.Xl]at e⊢;rw[Xa (by omega)]at e;rw[X6 (by omega)];omega
    case round=>
     obtain⟨i,H,hi,rfl,u⟩:=hrel;have y:=X1 u;clear u;by_cases A:i<s.size
     .have r:=X1 (Sc.drop_cons s i A);cases d:((s[i].toNat:Int)==10)
      .go_wp2;go_round
       case rel=>
        refine⟨i+1,by omega,by omega,by go_num,?_⟩;have e:=y.o;rw[r.o]at e;simp at d;simp only[Sc.Xl]at e;rw[X6 (by omega)]at e;omega
       case measure=>simp[intOf];omega
      .have hne:i≠j:=by rintro rfl;simp at g d;omega
       go_wp2;go_round
       case rel=>
        refine⟨i,by omega,rfl,?_⟩;have e:=y.o;rw[r.o]at e⊢;simp at d;simp only[Sc.Xl]at e⊢;rw[Xa (by omega)]at e;rw[X6 (by omega),Xa (by omega)];omega
       case measure=>simp[intOf];omega
     .go_wp2;go_round
      case rel=>
       refine⟨i,by omega,rfl,?_⟩;have e:=y.o;rw[YI (i:=i) (by simp;omega)]at e⊢;simp only[Sc.Xl]at e⊢;omega
      case measure=>simp[intOf];omega
  .go_wp2;go_ret;refine⟨ZQ ?_,rfl⟩;have e:=n.o;rw[YI (i:=j) (by simp;omega)]at e;simp only[Sc.Xl]at e;omega
theorem X9t(w:World):Calls prog 91 #[] w fun e w'=>e= .returned (.l w.heap.size 23 23)/\Below w.heap.size w w'/\w.heap.size<w'.heap.size/\Wo w' w.heap.size Sc.marks:=by
 go_enter func91,ntmps91;go_wp2;go_ret;refine⟨rfl,bA _,by simp,?_⟩;exact OA w 9 Sc.marks
section
section
variable {ts:List Sc.T} {sz:Nat}
def Pr.Lv(ts:List Sc.T)(sz:Nat):List Nat->Pr.Dk->Pr.Dk->Prop
 | [],s,t=>t=s
 | r::rs,s,t=>∃m,Pr.Cv ts sz (.opsL r) s m/\Pr.Lv ts sz rs m.1 t
def ZR(hi lo:Nat):List Nat:=[6,5,4,2,1].filter (fun r=>decide (lo<=r/\r<=hi))
theorem Pr.Lv.append{a b:List Nat}{s m t:Pr.Dk}(h:Pr.Lv ts sz a s m)(k:Pr.Lv ts sz b m t):Pr.Lv ts sz (a++b) s t:=by
 induction a generalizing s with
 | nil=>have h:m=s:=h;rw[←h];exact k
 | cons r n j=>obtain⟨q,d,g⟩:=h;exact⟨q,d,j g⟩
theorem Pr.Lv.none{s:Pr.Dk}:∀{l:List Nat},(∀r∈l,YT ts sz s r=0)->Pr.Lv ts sz l s s
 | [],_=>rfl
 | r::rs,h=>⟨(s,0),Pr.Cv.Lz (by rw[h r (by simp)];rfl),Pr.Lv.none (fun x a=>h x (by simp[a]))⟩
theorem Pr.Lv.stop{s:Pr.Dk}{hi lo:Nat}(h:∀r,lo<=r->r<=hi->YT ts sz s r=0):Pr.Lv ts sz (ZR hi lo) s s:=by
 refine Pr.Lv.none (fun r a=>?_);have:=(Mj.1 a).2;simp only[VO]at this;exact h r this.1 this.2
theorem RN{A B:List Nat}{r hi lo:Nat}(g:[6,5,4,2,1]=A++r::B)(a:lo<=r)(d:r<=hi):ZR hi lo=A.filter (fun r=>decide (lo<=r/\r<=hi))++r::B.filter (fun r=>decide (lo<=r/\r<=hi)):=by
 unfold ZR;rw[g,List.filter_append,List.filter_cons_of_pos (by simp only[VO];exact⟨a,d⟩)]
theorem RM{B:List Nat}{hi hi' lo:Nat}(a:∀x∈B,x<=hi/\x<=hi'):B.filter (fun r=>decide (lo<=r/\r<=hi))=B.filter (fun r=>decide (lo<=r/\r<=hi')):=by
 refine List.filter_congr (fun x d=>?_);have:=a x d;simp[this.1,this.2]
theorem RL{A:List Nat}{hi lo:Nat}(a:∀x∈A,hi<x):A.filter (fun r=>decide (lo<=r/\r<=hi))=[]:=by
 refine List.filter_eq_nil_iff.2 (fun x d=>?_);have:=a x d;simp only[VO];omega
theorem Pr.Lv.step{s t:Pr.Dk}{r hi lo:Nat}{m:Pr.Dk × Nat}(C:r∈([6,5,4,2,1]:List Nat))(v:lo<=r)(E:r<=hi)(H:YT ts sz s r≠0)(F:∀x,x≠r->YT ts sz s x=0)(k:Pr.Cv ts sz (.ops (r+1)) (X2 s) m)(d:Pr.Lv ts sz (ZR (if r=4 then 3 else r) lo) (X9 m.1 7 (YT ts sz s r) 0 [] 2) t):Pr.Lv ts sz (ZR hi lo) s t:=by
 have g:(YT ts sz s r==0)=false:=by simpa using H
 obtain⟨A,B,u,n,y⟩:∃A B,([6,5,4,2,1]:List Nat)=A++r::B/\(∀x∈A,r<x)/\(∀x∈B,x<r/\x≠3):=by
  simp only[Kr,QU,J7]at C;rcases C with rfl|rfl|rfl|rfl|rfl
  .exact⟨[],[5,4,2,1],rfl,by decide,by decide⟩
  .exact⟨[6],[4,2,1],rfl,by decide,by decide⟩
  .exact⟨[6,5],[2,1],rfl,by decide,by decide⟩
  .exact⟨[6,5,4],[1],rfl,by decide,by decide⟩
  .exact⟨[6,5,4,2],[],rfl,by decide,by decide⟩
 rw[RN u v E];refine Pr.Lv.append (m:=s) (Pr.Lv.none (fun x a=>F x (fun e=>by have:=n x (Mj.1 a).1;omega))) ?_;by_cases j:r=4
 .subst j;refine⟨(_,0),Pr.Cv.P1 g k,?_⟩;rw[Xa rfl]at d;have e:ZR 3 lo=B.filter (fun r=>decide (lo<=r/\r<=hi)):=by
   unfold ZR;rw[u,List.filter_append,RL (fun x a=>by have:=n x a;omega),JJ,List.filter_cons_of_neg (by simp),RM (hi':=hi) (fun x a=>by have:=y x a;omega)]
  rw[←e];exact d
 .rw[X6 j]at d;have e:ZR r lo=r::B.filter (fun r=>decide (lo<=r/\r<=hi)):=by
   rw[RN u v (X5 _),RL (fun x a=>n x a),JJ,RM (hi':=hi) (fun x a=>by have:=y x a;omega)]
  rw[e]at d;obtain⟨q,I,J⟩:=d;exact⟨q,Pr.Cv.P2 g (by simpa using j) k I,J⟩
theorem Pr.Lv.ops{s t:Pr.Dk}{m:Pr.Dk × Nat}(K:s.bad=false)(k:Pr.Cv ts sz (.ops 7) s m):∀lo,1<=lo->lo<=7->(lo<=3->X4 ts sz s Zk=false)->Pr.Lv ts sz (ZR 6 lo) m.1 t->∃q,Pr.Cv ts sz (.ops lo) s q/\q.1=t:=by
 have J:∀t,Pr.Lv ts sz (ZR 6 7) m.1 t->∃q,Pr.Cv ts sz (.ops 7) s q/\q.1=t:=fun t h=>⟨m,k,(show t=m.1 from h).symm⟩;have up:∀r,(r==3)=false->(r==7)=false->(∀t,Pr.Lv ts sz (ZR 6 (r+1)) m.1 t->∃q,Pr.Cv ts sz (.ops (r+1)) s q/\q.1=t)->ZR 6 r=ZR 6 (r+1)++[r]->∀t,Pr.Lv ts sz (ZR 6 r) m.1 t->∃q,Pr.Cv ts sz (.ops r) s q/\q.1=t:=by
  intro r g u M L t d;rw[L]at d;obtain⟨x,U,y,A,B⟩:∃x,Pr.Lv ts sz (ZR 6 (r+1)) m.1 x/\∃y,Pr.Cv ts sz (.opsL r) x y/\t=y.1:=by
   generalize ZR 6 (r+1)=l at d;generalize m.1=z at d;clear M L;induction l generalizing z with
   | nil=>obtain⟨y,j,n⟩:=d;exact⟨z,rfl,y,j,n⟩
   | cons a l V=>obtain⟨y,j,n⟩:=d;obtain⟨x,N,O⟩:=V _ n;exact⟨x,⟨y,j,N⟩,O⟩
  obtain⟨q,C,E⟩:=M x U;subst E;exact⟨y,Pr.Cv.Vk K g u C A,B.symm⟩
 have I:=up 6 rfl rfl J (by decide);have H:=up 5 rfl rfl I (by decide);have F:=up 4 rfl rfl H (by decide);intro lo W X S d;have v:lo=7\/lo=6\/lo=5\/lo=4\/lo=3\/lo=2\/lo=1:=by omega
 have g:lo<=3->∀t,Pr.Lv ts sz (ZR 6 3) m.1 t->∃q,Pr.Cv ts sz (.ops 3) s q/\q.1=t:=fun Q t d=>by
  obtain⟨q,C,E⟩:=F t (by rw[show ZR 6 4=ZR 6 3 by decide];exact d);exact⟨q,Pr.Cv.P3 K (S Q) C,E⟩
 rcases v with rfl|rfl|rfl|rfl|rfl|rfl|rfl
 .exact J t d
 .exact I t d
 .exact H t d
 .exact F t d
 .exact g (by omega) t d
 .exact up 2 rfl rfl (g (by omega)) (by decide) t d
 .exact up 1 rfl rfl (up 2 rfl rfl (g (by omega)) (by decide)) (by decide) t d
theorem Pr.Lv.C5{s t:Pr.Dk}{m:Pr.Dk × Nat}(a:s.bad=false)(v:X4 ts sz s Zk=true)(k:Pr.Cv ts sz (.ops 3) (X2 s) m)(lo:Nat)(A:1<=lo)(B:lo<=3)(j:Pr.Lv ts sz (ZR 2 lo) (X9 m.1 6 1 0 [] 1) t):∃q,Pr.Cv ts sz (.ops lo) s q/\q.1=t:=by
 have r:=Pr.Cv.P4 a v k;have n:lo=3\/lo=2\/lo=1:=by omega
 rcases n with rfl|rfl|rfl
 .exact⟨_,r,(show t=_ from j).symm⟩
 .obtain⟨y,d,g⟩:=j;exact⟨y,Pr.Cv.Vk a rfl rfl r d,(show t=_ from g).symm⟩
 .obtain⟨y,d,z,g,u⟩:=j;exact⟨z,Pr.Cv.Vk a rfl rfl (Pr.Cv.Vk a rfl rfl r d) g,(show t=_ from u).symm⟩
end
end
structure Gr where
 nd:Nd
 high:Nat
def Zs:List Gr->Nat->Nat
 | [],h=>h
 | x::r,h=>Zs r (if h<x.high+1 then x.high+1 else h)
def K5(k n:Int):Bool:=
 if k=1\/k=2\/k=3\/k=4\/k=5 then decide (0<=n/\n<=0)
 else if k=6\/k=11\/k=17\/k=18\/k=21\/k=22 then decide (1<=n/\n<=1)
 else if k=7\/k=10\/k=14 then decide (2<=n/\n<=2)
 else if k=13 then decide (3<=n/\n<=3)
 else if k=16 then decide (2<=n/\n<=3)
 else if k=19 then decide (0<=n/\n<=1)
 else if k=8\/k=9\/k=24 then decide (0<=n/\n<=200)
 else if k=23 then decide (1<=n/\n<=200)
 else if k=12\/k=15\/k=20 then decide (1<=n/\n<=9)
 else decide (0<=n/\n<= -1)
def Yg(a b:Int)(l:List Gr):Bool:=l.all fun g=>decide (a<=g.nd.kind)&&decide (g.nd.kind<=b)
def QX(l:List Gr):Bool:=decide ((l.map fun g=>g.nd.text).Nodup)
def KR(l:List Gr):Nat:=1+((l.drop 1).takeWhile fun g=>g.nd.kind !=18).length
def YE(k:Int)(l:List Gr):Bool:=
 if k=9 then Yg 17 17 l&&QX l
 else if k=12 then Yg 1 16 (l.take (KR l))&&Yg 18 18 (l.drop (KR l))&&QX (l.drop (KR l))
 else if k=15\/k=20 then Yg 19 19 (l.take (l.length-1))&&Yg 1 16 (l.drop (l.length-1))
 else if k=23 then Yg 5 5 l
 else if k=24 then Yg 20 23 l
 else Yg 1 16 l
def KQ(x:Nd)(l:List Gr):Bool:=Xr x&&K5 x.kind x.kids&&YE x.kind l
def ZS:List Nd->List Gr->Option (List Gr)
 | [],op=>some op
 | x::r,op=>if x.kids<0\/(op.length:Int)<x.kids then none else
   if KQ x (op.drop (op.length-x.kids.toNat))=true then ZS r (op.take (op.length-x.kids.toNat)++[⟨x,Zs (op.drop (op.length-x.kids.toNat)) 0⟩])else none
def UH:Option (List Gr)->Bool
 | some [g]=>(g.nd.kind==24)&&decide (g.high<=50)
 | _=>false
def Kk(ns:List Nd):Bool:=decide (ns.length<=5000)&&UH (ZS ns [])
def KK(w:World)(g o:Nat)(l:List Gr):Prop:=g<w.heap.size/\∀j (h:j<l.length),w.cell? ⟨g,o+j*6,none⟩=some (.q l[j].nd.kind)/\w.cell? ⟨g,o+j*6+1,none⟩=some (.q l[j].nd.op)/\w.cell? ⟨g,o+j*6+2,none⟩=some (.q l[j].nd.n)/\w.cell? ⟨g,o+j*6+3,none⟩=some (.string l[j].nd.text)/\w.cell? ⟨g,o+j*6+4,none⟩=some (.q l[j].nd.kids)/\w.cell? ⟨g,o+j*6+5,none⟩=some (.q l[j].high)
theorem KK.below{w w':World}{g o:Nat}{l:List Gr}(h:KK w g o l)(j:BL w w'):KK w' g o l:=by
 refine⟨XH h.1 j.size,fun i hi=>?_⟩;obtain⟨a,b,c,d,e,f⟩:=h.2 i hi;exact⟨(j.cell (p:=⟨g,o+i*6,none⟩) h.1).trans a,(j.cell (p:=⟨g,o+i*6+1,none⟩) h.1).trans b,(j.cell (p:=⟨g,o+i*6+2,none⟩) h.1).trans c,(j.cell (p:=⟨g,o+i*6+3,none⟩) h.1).trans d,(j.cell (p:=⟨g,o+i*6+4,none⟩) h.1).trans e,(j.cell (p:=⟨g,o+i*6+5,none⟩) h.1).trans f⟩
theorem KK.drop{w:World}{g o:Nat}{l:List Gr}(h:KK w g o l)(k:Nat):KK w g (o+k*6) (l.drop k):=by
 refine⟨h.1,fun j a=>?_⟩;have:=h.2 (k+j) (by simp at a;omega);rw[List.getElem_drop];rw[show o+k*6+j*6=o+(k+j)*6 from by omega]
 exact this
theorem KK.take{w:World}{g o:Nat}{l:List Gr}(h:KK w g o l)(k:Nat):KK w g o (l.take k):=by
 refine⟨h.1,fun j a=>?_⟩;have:=h.2 j (by simp at a;omega);rw[List.getElem_take];exact this
def GrV(w:World)(v:Value)(l:List Gr):Prop:=(∃p c,v= .slice p 0 c/\l=[])\/∃g o c,v= .slice (some ⟨g,o,none⟩) l.length c/\l.length<=c/\KK w g o l
theorem GrV.below{w w':World}{v:Value}{l:List Gr}(h:GrV w v l)(k:BL w w'):GrV w' v l:=by
 rcases h with h|⟨g,o,c,a,j,d⟩
 .exact .inl h
 .exact .inr ⟨g,o,c,a,j,d.below k⟩
theorem KK.MW{w:World}{g o c p n:Nat}{l:List Gr}(h:KK w g o l)(k:p<=l.length)(j:l.length<=c)(a:n=l.length-p):∀q,q=some ⟨g,o+p*6,none⟩\/c=p->GrV w (.slice q n (c-p)) (l.drop p):=by
 intro q d;subst a;by_cases e:c=p
 .have:l.length-p=0:=by omega
  exact .inl ⟨_,_,by rw[this],YI (by omega)⟩
 .obtain rfl:=d.resolve_right e;exact .inr ⟨g,_,_,by rw[YC],by rw[YC];omega,h.drop p⟩
theorem KK.El{w:World}{g o c p:Nat}{l:List Gr}(h:KK w g o l)(a:p<=l.length)(d:l.length<=c):GrV w (.slice (some ⟨g,o,none⟩) p c) (l.take p):=.inr ⟨g,o,c,by rw[YO,Jv a],by rw[YO,Jv a];omega,h.take p⟩
