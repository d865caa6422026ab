import Derived.Test.YtaeafhenpjnhiaaGreatDoorE36
import Derived.Test.YtaeafhenpjnhiaaGreatDoorE34
set_option maxHeartbeats 4000000
namespace Go.Proofs.YtaeafhenpjnhiaaGreatDoor
open Tryz Go.RowKit
section
variable {o:Oper} {a:Act} {w:World}
theorem Dg[LB]{x:Operand}(g:o.op= .move x):(execOp a.eval o).run prog w= .ok (.value (a.eval x)) w:=by
 unfold execOp;rw[g];rfl
theorem Y3s[LB]{x:Operand}(g:o.op= .assign x):(execOp a.eval o).run prog w= .ok (.value (a.eval x)) w:=by
 unfold execOp;rw[g];rfl
theorem EN[LB]{x:Operand}{p:Addr}(g:o.op= .nilCheck x)(j:a.eval x= .pointer (some p)):(execOp a.eval o).run prog w= .ok (.value (.pointer (some p))) w:=by
 unfold execOp;rw[g];simp only[j];rfl
theorem EI[LB]{x:Operand}{b:Nat}(g:o.op= .fieldAddr 128 x 0)(j:a.eval x= .p b):(execOp a.eval o).run prog w= .ok (.value (.p b)) w:=by
 unfold execOp;rw[g];simp only[j];go_simp
theorem EL[LB]{x:Operand}{p:Addr}{v:Value}(g:o.op= .load 37 x)(j:a.eval x= .pointer (some p))(m:w.cell? p=some v):(execOp a.eval o).run prog w= .ok (.value v) w:=by
 unfold execOp;rw[g];simp only[j];go_simp
theorem EM[LB]{x:Operand}{p:Addr}{v:Value}(g:o.op= .load 9 x)(j:a.eval x= .pointer (some p))(m:w.cell? p=some v):(execOp a.eval o).run prog w= .ok (.value v) w:=by
 unfold execOp;rw[g];simp only[j];go_simp
theorem EJ[LB]{x y:Operand}{g n c z:Nat}(j:o.op= .indexAddr 66 x y)(m:a.eval x= .l g n c)(r:a.eval y= .q (z:Int))(u:z<n):(execOp a.eval o).run prog w= .ok (.value (.pointer (some ⟨g,z,none⟩))) w:=by
 have s:(z:Int)<(n:Int):=by omega
 unfold execOp;rw[j];simp only[m,r];go_simp
theorem EO[LB]{x:Operand}{z:Int}(g:o.op= .binOp .sub 3 x (.const (.q 1)) 3)(m:a.eval x= .q (z+1))(r:IntKind.i64.wrap z=z):(execOp a.eval o).run prog w= .ok (.value (.q z)) w:=by
 have j:a.eval (.const (.q 1))= .q 1:=rfl;unfold execOp;rw[g];simp only[m,j];go_simp
theorem Y3t[LB]{x:Operand}{u:ByteArray}(g:o.op= .build 64 #[(0,.const (.q 17)),(3,x)])(m:a.eval x= .string u):(execOp a.eval o).run prog w= .ok (.value (ndV ⟨17,0,0,u,0⟩)) w:=by
 have j:a.eval (.const (.q 17))= .q 17:=rfl;unfold execOp ndV;rw[g];simp only[Qg,Y5,YD,m,j];go_simp
theorem Y3u[LB]{g j:ByteArray}(m:o.op= .buildSlice 66 2 #[(0,.const (.string g)),(1,.const (.string j))]):(execOp a.eval o).run prog w= .ok (.value (.l w.heap.size 2 2)) (w.alloc (.cells #[.string g,.string j] 9)):=by
 have r:a.eval (.const (.string g))= .string g:=rfl;have s:a.eval (.const (.string j))= .string j:=rfl;unfold execOp;rw[m];simp only[Qg,Y5,YD,r,s];go_simp
theorem Y3v[LB]{x:Operand}{g u j:ByteArray}(m:o.op= .buildSlice 66 3 #[(0,.const (.string g)),(1,x),(2,.const (.string j))])(v:a.eval x= .string u):(execOp a.eval o).run prog w= .ok (.value (.l w.heap.size 3 3)) (w.alloc (.cells #[.string g,.string u,.string j] 9)):=by
 have r:a.eval (.const (.string g))= .string g:=rfl;have s:a.eval (.const (.string j))= .string j:=rfl;unfold execOp;rw[m];simp only[Qg,Y5,YD,r,s,v];go_simp
theorem EK[LB]{x:Operand}{p:Option Addr}{n c:Nat}(g:o.op= .buildSlice 119 1 #[(0,x)])(j:a.eval x= .slice p n c):(execOp a.eval o).run prog w= .ok (.value (.l w.heap.size 1 1)) (w.alloc (.cells #[.slice p n c] 23)):=by
 unfold execOp;rw[g];simp only[Qg,Y5,YD,j];go_simp
end
theorem Xfe[LB]{B:Nat}{W j:World}{v v' u:Value}{l:List Nd}{ls:List (List Nd)}{r:List Value}(y:W.ownsRow B 23 1 v ls.length r)(E:∀i (h:i<ls.length),∃u,r[i]?=some u/\NR W u ls[i]/\0<ls[i].length)(J:NR W u l)(H:0<l.length)(K:j.ownsRow B 23 1 v' (ls.length+1) (r++[u]))(m:W.grownBy j v.ownBlock):PW B j v' (ls++[l])/\Pf B W j:=by
 have g:Pf B W j:=⟨m.os,m.tape,m.output,m.size,fun b I s=>by
  refine m.block b I (fun e=>?_);have M:=y.lt b e.symm;have F:=KH y e.symm;rcases s with s|s
  .omega
  .exact s F⟩
 have A:r.length=ls.length:=by have:=y.1;omega
 refine⟨⟨r++[u],by rw[Xj];exact K,fun i hi=>?_⟩,g⟩;by_cases C:i<ls.length
 .obtain⟨L,a,b,c⟩:=E i C;rw[I6 C];exact⟨L,by rw[Jt (by omega)];exact a,g.nr b,c⟩
 .have hi':i=ls.length:=by simp only[Xj,XI,Ya]at hi;omega
  subst hi';have e:(ls++[l])[ls.length]'hi=l:=by simp
  rw[e];exact⟨u,by rw[Q7 (by omega),A];simp,g.nr J,H⟩
theorem Lq[LB]:¬XL (some 9):=by unfold XL;simp
def RS(gb rb kd d i:Nat)(pv:Value):Nat->Value->World->Prop
 | 0,x,_=>x=pv
 | 1,x,w=>∃g,x= .l g 2 2/\w.ownsRow 0 9 1 (.l g 2 2) 2 [.t #[98],.t #[95]]
 | 2,x,_=>x= .p gb
 | 3,x,_=>x= .p gb
 | 4,x,_=>x= .p gb
 | 5,x,_=>x= .p rb
 | 6,x,_=>∃z:Nat,z<2/\x= .q (z:Int)
 | 7,x,w=>∃g z:Nat,z<2/\x= .pointer (some ⟨g,z,none⟩)/\w.ownsRow 0 9 1 (.l g 2 2) 2 [.t #[98],.t #[95]]
 | 8,x,_=>∃u:XJ,x= .string u.val
 | 9,x,w=>∃(g:Nat) (u:XJ),x= .l g 3 3/\w.ownsRow 0 9 1 (.l g 3 3) 3 [.t #[97],.string u.val,.t #[99,32,100]]
 | 10,x,_=>x= .q ((i:Int)+1)
 | 11,x,_=>x= .q (i:Int)
 | 12,x,w=>∃(g:Nat) (u:XJ),x= .pointer (some ⟨g,i,none⟩)/\w.ownsRow 0 9 1 (.l g 3 3) 3 [.t #[97],.string u.val,.t #[99,32,100]]
 | 13,x,_=>∃u:XJ,x= .string u.val
 | 14,x,_=>∃u:XJ,x=ndV ⟨17,0,0,u.val,0⟩
 | 15,x,_=>x= .p gb
 | 16,x,_=>x= .p gb
 | 17,x,_=>x= .p gb
 | 18,x,_=>x= .p gb
 | 19,x,_=>x= .p rb
 | 20,x,_=>∃z:Nat,x= .q (z:Int)
 | 21,x,_=>x= .q ((d:Int)+1)
 | 22,x,_=>x= .q (d:Int)
 | 23,x,w=>∃l,NR w x l/\0<l.length/\l.length<=kd
 | 24,x,w=>∃l,PR w x [l]/\0<l.length/\l.length<=kd
 | 25,x,w=>∃l,NR w x l/\0<l.length/\l.length<=kd+1
 | 26,x,w=>∃(g:Nat) (u:Value) (l:List Nd),x= .l g 1 1/\w.ownsRow 0 23 1 (.l g 1 1) 1 [u]/\NR w u l/\0<l.length/\l.length<=kd+1
 | _,_,_=>False
theorem RS.ty[LB]{gb rb kd d i:Nat}{pv:Value}{w w':World}(s:Ty w w'):∀(j:Nat) (x:Value),RS gb rb kd d i pv j x w->RS gb rb kd d i pv j x w'
 | 0,_,h=>by exact h
 | 1,_,h=>by obtain⟨g,m,r⟩:=h;exact⟨g,m,Yz r s Lq⟩
 | 2,_,h=>by exact h
 | 3,_,h=>by exact h
 | 4,_,h=>by exact h
 | 5,_,h=>by exact h
 | 6,_,h=>by exact h
 | 7,_,h=>by obtain⟨g,z,v,m,r⟩:=h;exact⟨g,z,v,m,Yz r s Lq⟩
 | 8,_,h=>by exact h
 | 9,_,h=>by obtain⟨g,u,m,r⟩:=h;exact⟨g,u,m,Yz r s Lq⟩
 | 10,_,h=>by exact h
 | 11,_,h=>by exact h
 | 12,_,h=>by obtain⟨g,u,m,r⟩:=h;exact⟨g,u,m,Yz r s Lq⟩
 | 13,_,h=>by exact h
 | 14,_,h=>by exact h
 | 15,_,h=>by exact h
 | 16,_,h=>by exact h
 | 17,_,h=>by exact h
 | 18,_,h=>by exact h
 | 19,_,h=>by exact h
 | 20,_,h=>by exact h
 | 21,_,h=>by exact h
 | 22,_,h=>by exact h
 | 23,_,h=>by obtain⟨l,m,r⟩:=h;exact⟨l,m.ty s,r⟩
 | 24,_,h=>by obtain⟨l,m,r⟩:=h;exact⟨l,m.ty s,r⟩
 | 25,_,h=>by obtain⟨l,m,r⟩:=h;exact⟨l,m.ty s,r⟩
 | 26,_,h=>by obtain⟨g,u,l,m,r,y,A⟩:=h;exact⟨g,u,l,m,Yz r s Lp,y.ty s,A⟩
def bq(kd:Nat)(l:Array Bool):Nat:=(if l[6]?=some true then 1 else 0)+(if l[20]?=some true then 1 else 0)+(if l[23]?=some true then kd else 0)
theorem MJ[LB](kd:Nat)(l:Array Bool):bq kd l<=2+kd:=by unfold bq;split<;>split<;>split<;>omega
theorem Te[LB](kd:Nat)(l:Array Bool)(h:l[23]?=some false):bq kd l<=2:=by
 unfold bq;rw[h,X6 (show ¬(some false=some true) by decide)];split<;>split<;>omega
theorem Tg[LB](kd:Nat)(l:Array Bool){i:Nat}(m:i≠6)(g:i≠20)(j:i≠23):bq kd (l.setIfInBounds i true)=bq kd l:=by
 unfold bq;rw[Jm m,Jm g,Jm j]
theorem Td[LB](kd:Nat){l:Array Bool}(h:l[6]?=some false):bq kd (l.setIfInBounds 6 true)=bq kd l+1:=by
 unfold bq;rw[GU h,Jm (by decide),Jm (by decide),h,Xa rfl,X6 (show ¬(some false=some true) by decide)];omega
theorem Tb[LB](kd:Nat){l:Array Bool}(h:l[20]?=some false):bq kd (l.setIfInBounds 20 true)=bq kd l+1:=by
 unfold bq;rw[GU h,Jm (by decide),Jm (by decide),h,Xa rfl,X6 (show ¬(some false=some true) by decide)];omega
theorem Tc[LB](kd:Nat){l:Array Bool}(h:l[23]?=some false):bq kd (l.setIfInBounds 23 true)=bq kd l+kd:=by
 unfold bq;rw[GU h,Jm (by decide),Jm (by decide),h,Xa rfl,X6 (show ¬(some false=some true) by decide)];omega
theorem W4[LB]{j:Region.Mode}{ops:Array Oper}{l:Array Bool}{i:Nat}(h:i∈Region.ready j ops l):l[i]?=some false:=by
 obtain⟨_,_,g,_⟩:=WW h;exact g
theorem Ph[LB](a:Act)(t:Nat)(v:Value):(a.put (some t) v).tmps=a.tmps.setIfInBounds t v:=rfl
section
variable (gb rb:Nat) (vb:Value) (n:Nat) (ops:Array Oper) (a0:Act) (W0:World) (qq k kd d i:Nat) (pv:Value) (ls:List (List Nd))
structure JZ [LB] (l:Array Bool) (a:Act) (w:World):Prop where
 sz:l.size=29
 asz:a.tmps.size=48
 adf:a.defers=a0.defers
 fr:∀t,t<48->(t<17\/44<t)->a.tmps[t]?=a0.tmps[t]?
 n27:l[27]?=some false
 n28:l[28]?=some false
 dn:Down .any ops l
 sl:∀j,j<27->l[j]?=some true->RS gb rb kd d i pv j (a.eval (.tmp (17+j))) w
 ty:Ty W0 w
 pw:PW W0.heap.size w pv ls
 gn:Gn gb rb vb n (qq+bq kd l) k w
structure Mz [LB] (a:Act) (x:Value) (w:World):Prop where
 asz:a.tmps.size=48
 adf:a.defers=a0.defers
 fr:∀t,t<48->(t<17/\t≠5\/44<t)->a.tmps[t]?=a0.tmps[t]?
 o:∃l,PW W0.heap.size w x (ls++[l])/\0<l.length/\l.length<=kd+1/\Gn gb rb vb n (qq+(2+kd)) k w/\Ty W0 w
end
section
variable {gb rb:Nat} {vb:Value} {n:Nat} {ops:Array Oper} {a0:Act} {W0:World} {qq k kd d i:Nat} {pv:Value} {ls:List (List Nd)} {l:Array Bool} {a:Act} {w:World}
theorem JZ.ev[LB](h:JZ gb rb vb n ops a0 W0 qq k kd d i pv ls l a w)(t:Nat)(g:t<17):a.eval (.tmp t)=a0.eval (.tmp t):=by
 show a.tmps.getD t undef=a0.tmps.getD t undef;rw[Dh,Dh,h.fr t (by omega) (.inl g)]
theorem JZ.gq[LB](h:JZ gb rb vb n ops a0 W0 qq k kd d i pv ls l a w)(j:Nat)(_hi:j∈Region.ready .any ops l)(g:j≠6/\j≠20/\j≠23):Gn gb rb vb n (qq+bq kd (l.setIfInBounds j true)) k w:=by
 rw[Tg kd l g.1 g.2.1 g.2.2];exact h.gn
theorem JZ.step[LB](h:JZ gb rb vb n ops a0 W0 qq k kd d i pv ls l a w)(j:Nat)(hi:j∈Region.ready .any ops l)(B:j<27){v:Value}{w':World}(g:Ty w w')(A:RS gb rb kd d i pv j v w')(y:Gn gb rb vb n (qq+bq kd (l.setIfInBounds j true)) k w'):JZ gb rb vb n ops a0 W0 qq k kd d i pv ls (l.setIfInBounds j true) (a.put (some (17+j)) v) w':=by
 refine⟨(Dj ..).trans h.sz,(Dj ..).trans h.asz,h.adf,fun t s u=>?_,by rw[Jm (by omega)];exact h.n27,by rw[Jm (by omega)];exact h.n28,h.dn.step hi,fun m hm r=>?_,h.ty.trans g,h.pw.ty g,y⟩
 .rw[Ph,Di,X6 (by omega)];exact h.fr t s u
 .by_cases e:j=m
  .subst e;rw[MX (by rw[h.asz];omega)];exact A
  .rw[Jm e]at r;rw[X0q (by omega)];exact(h.sl m hm r).ty g
theorem JZ.run[LB](h:JZ gb rb vb n ops a0 W0 qq k kd d i pv ls l a w){j:Nat}{op:Op}(E:Z5 ops j (17+j) op)(hi:j∈Region.ready .any ops l){v:Value}{Q:Exit->Act->World->Prop}{K:Act->World->Prop}(C:∀o:Oper,o.op=op->(execOp a.eval o).run prog w= .ok (.value v) w)(B:RS gb rb kd d i pv j v w)(s:∀m w',JZ gb rb vb n ops a0 W0 qq k kd d i pv ls (l.setIfInBounds j true) m w'->K m w')(r:j<27/\j≠6/\j≠20/\j≠23:=by decide):wpOp prog ops Q j K a w:=by
 obtain⟨o,A,u,g,y⟩:=E;exact U8 A (Dc y (C o g) (by rw[u];exact s _ _ (h.step j hi r.1 (.refl _) B (h.gq j hi r.2))))
end
theorem Xfv[LB]{gb rb:Nat}{vb:Value}{n:Nat}{ops:Array Oper}{a0:Act}{W0:World}{qq k kd d i:Nat}{pv:Value}{ls:List (List Nd)}{Q:Exit->Act->World->Prop}(o0:Z5 ops 0 17 (.move (.tmp 5)))(o1:Z5 ops 1 18 (.buildSlice 66 2 #[(0,.const (.t #[98])),(1,.const (.t #[95]))]))(o2:Z5 ops 2 19 (.move (.tmp 0)))(o3:Z5 ops 3 20 (.nilCheck (.tmp 19)))(o4:Z5 ops 4 21 (.fieldAddr 128 (.tmp 20) 0))(o5:Z5 ops 5 22 (.load 37 (.tmp 21)))(o6:Z5 ops 6 23 (.call {callee:= .value (.func 22),args:=#[.tmp 22,.const (.q 2)],argTypes:=#[37,3]}))(o7:Z5 ops 7 24 (.indexAddr 66 (.tmp 18) (.tmp 23)))(o8:Z5 ops 8 25 (.load 9 (.tmp 24)))(o9:Z5 ops 9 26 (.buildSlice 66 3 #[(0,.const (.t #[97])),(1,.tmp 25),(2,.const (.t #[99,32,100]))]))(e4:Z5 ops 10 27 (.move (.tmp 6)))(e5:Z5 ops 11 28 (.binOp .sub 3 (.tmp 27) (.const (.q 1)) 3))(e6:Z5 ops 12 29 (.indexAddr 66 (.tmp 26) (.tmp 28)))(e7:Z5 ops 13 30 (.load 9 (.tmp 29)))(e8:Z5 ops 14 31 (.build 64 #[(0,.const (.q 17)),(3,.tmp 30)]))(e9:Z5 ops 15 32 (.move (.tmp 0)))(f0:Z5 ops 16 33 (.move (.tmp 0)))(f1:Z5 ops 17 34 (.nilCheck (.tmp 33)))(f2:Z5 ops 18 35 (.fieldAddr 128 (.tmp 34) 0))(f3:Z5 ops 19 36 (.load 37 (.tmp 35)))(f4:Z5 ops 20 37 (.call {callee:= .value (.func 22),args:=#[.tmp 36,.const (.q 5)],argTypes:=#[37,3]}))(f5:Z5 ops 21 38 (.move (.tmp 1)))(f6:Z5 ops 22 39 (.binOp .sub 3 (.tmp 38) (.const (.q 1)) 3))(f7:Z5 ops 23 40 (.call {callee:= .value (.func 99),args:=#[.tmp 32,.tmp 37,.tmp 39],argTypes:=#[124,3,3]}))(f8:Z5 ops 24 41 (.buildSlice 119 1 #[(0,.tmp 40)]))(f9:Z5 ops 25 42 (.call {callee:= .value (.func 66),args:=#[.tmp 31,.tmp 41],argTypes:=#[64,119]}))(g0:Z5 ops 26 43 (.buildSlice 119 1 #[(0,.tmp 42)]))(g2:Z5 ops 27 44 (.call {callee:= .builtin .append,args:=#[.tmp 17,.tmp 43],argTypes:=#[119,119]}))(g3:Z5 ops 28 5 (.assign (.tmp 44)))(a9:ops.size=29)(c9:A1 ops=true)(d2:EC .any ops 27=true)(b9:onB .any ops 3 2=true)(c2:onB .any ops 4 3=true)(c3:onB .any ops 5 4=true)(c4:onB .any ops 6 5=true)(c5:onB .any ops 7 1=true)(c6:onB .any ops 7 6=true)(c7:onB .any ops 8 7=true)(c8:onB .any ops 9 8=true)(L:onB .any ops 11 10=true)(b5:onB .any ops 12 9=true)(M:onB .any ops 12 11=true)(N:onB .any ops 13 12=true)(O:onB .any ops 14 13=true)(S:onB .any ops 17 16=true)(U:onB .any ops 18 17=true)(V:onB .any ops 19 18=true)(W:onB .any ops 20 19=true)(X:onB .any ops 22 21=true)(Z:onB .any ops 23 15=true)(a1:onB .any ops 23 20=true)(a2:onB .any ops 23 22=true)(a3:onB .any ops 24 23=true)(a4:onB .any ops 25 14=true)(a5:onB .any ops 25 24=true)(a6:onB .any ops 26 25=true)(b6:onB .any ops 27 0=true)(a7:onB .any ops 27 26=true)(a8:onB .any ops 28 27=true)(HE:EAt gb rb vb n d kd)(g7:kd<=1000000)(h3:qq+2+kd<=700000000)(hk:k+d<=900)(g6:i<3)(g8:ls.length<=3)(e0:rb<W0.heap.size)(h0:a0.eval (.tmp 0)= .p gb)(h1:a0.eval (.tmp 1)= .q ((d:Int)+1))(h5:a0.eval (.tmp 5)=pv)(h6:a0.eval (.tmp 6)= .q ((i:Int)+1))(hQ:∀a w,Mz gb rb vb n a0 W0 qq k kd ls a (a.eval (.tmp 5)) w->Q .normal a w){w:World}(b7:a0.tmps.size=48)(e1:Ty W0 w)(d9:PW W0.heap.size w pv ls)(d7:Gn gb rb vb n qq k w):wpAny prog .any ops Q ops.size (Array.replicate ops.size false) a0 w:=by
 obtain⟨iP,hP,d5,d4,d3⟩:=YK WR;refine Y3l (fun l a w=>JZ gb rb vb n ops a0 W0 qq k kd d i pv ls l a w\/(l.size=29/\l[28]?=some false/\(∀j,j<=27->l[j]?=some true)/\Mz gb rb vb n a0 W0 qq k kd ls a (a.eval (.tmp 44)) w)\/(l.size=29/\(∀j,j<=28->l[j]?=some true)/\Mz gb rb vb n a0 W0 qq k kd ls a (a.eval (.tmp 5)) w)) ?_ ?_ _ _ _ _ ?_ (.inl ?_)
 .intro l a w hI y hi;have g9:y<29:=by
   obtain⟨o,B,_⟩:=WW hi;have:=(QS.1 B).1;omega
  rcases hI with m|⟨b1,b2,b3,K⟩|⟨b1,b2,K⟩
  .have d6:y=0\/y=1\/y=2\/y=3\/y=4\/y=5\/y=6\/y=7\/y=8\/y=9\/y=10\/y=11\/y=12\/y=13\/y=14\/y=15\/y=16\/y=17\/y=18\/y=19\/y=20\/y=21\/y=22\/y=23\/y=24\/y=25\/y=26\/y=27\/y=28:=by omega
   rcases d6 with rfl|rfl|rfl|rfl|rfl|rfl|rfl|rfl|rfl|rfl|rfl|rfl|rfl|rfl|rfl|rfl|rfl|rfl|rfl|rfl|rfl|rfl|rfl|rfl|rfl|rfl|rfl|rfl|rfl
   .exact m.run o0 hi (fun _=>Dg) ((m.ev 5 (by omega)).trans h5) fun _ _=> .inl
   .obtain⟨o,B,C,v,E⟩:=o1;exact U8 B (Dc E (Y3u v) (by rw[C];exact .inl (m.step 1 hi (by omega) (.of (bA _)) (⟨_,rfl,Y4 (base:=0) (e:=9) (size:=1) w #[.t #[98],.t #[95]] 2 (Xb _) (by unfold maxLen;omega) rfl⟩) ((m.gq 1 hi (by decide)).below (bA _)))))
   .exact m.run o2 hi (fun _=>Dg) ((m.ev 0 (by omega)).trans h0) fun _ _=> .inl
   .have s:a.eval (.tmp 19)= .p gb:=m.sl 2 (by omega) (ZF b9 hi);exact m.run o3 hi (fun _ h=>EN h s) rfl fun _ _=> .inl
   .have s:a.eval (.tmp 20)= .p gb:=m.sl 3 (by omega) (ZF c2 hi);exact m.run o4 hi (fun _ h=>EI h s) rfl fun _ _=> .inl
   .have s:a.eval (.tmp 21)= .p gb:=m.sl 4 (by omega) (ZF c3 hi);exact m.run o5 hi (fun _ h=>EL h s m.gn.c0) rfl fun _ _=> .inl
   .obtain⟨o,B,C,v,E⟩:=o6;have s:a.eval (.tmp 22)= .p rb:=m.sl 5 (by omega) (ZF c4 hi);refine U8 B (Kf E 22 (.tmp 22) (.const (.q 2)) _ _ v _ (.q 2) s rfl f22 func22 (by kernel_rfl) (by kernel_rfl) _ (W8 gb rb vb n m.gn (by have:=MJ kd l;omega) 2 (by omega) (by omega)) ?_);rintro r w1⟨z,hz,rfl,H,I⟩;rw[C];exact .inl (m.step 6 hi (by omega) I ⟨z,by omega,rfl⟩ (by rw[Td kd (W4 hi)];exact H))
   .have⟨g,A,s2⟩:∃g,a.eval (.tmp 18)= .l g 2 2/\w.ownsRow 0 9 1 (.l g 2 2) 2 [.t #[98],.t #[95]]:=m.sl 1 (by omega) (ZF c5 hi);have⟨z,hz,F⟩:∃z:Nat,z<2/\a.eval (.tmp 23)= .q (z:Int):=m.sl 6 (by omega) (ZF c6 hi);exact m.run o7 hi (fun _ h=>EJ h A F hz) (⟨g,z,hz,rfl,s2⟩) fun _ _=> .inl
   .have⟨g,z,hz,A,s2⟩:∃g z:Nat,z<2/\a.eval (.tmp 24)= .pointer (some ⟨g,z,none⟩)/\w.ownsRow 0 9 1 (.l g 2 2) 2 [.t #[98],.t #[95]]:=m.sl 7 (by omega) (ZF c7 hi);obtain⟨u,hu⟩:∃u:XJ,([.t #[98],.t #[95]]:List Value)[z]?=some (.string u.val):=by
     have b8:z=0\/z=1:=by omega
     rcases b8 with rfl|rfl<;>exact⟨⟨_,by exact YM rfl⟩,rfl⟩
    exact m.run o8 hi (fun _ h=>EM h A (Za s2 hu)) (⟨u,rfl⟩) fun _ _=> .inl
   .obtain⟨o,B,C,v,E⟩:=o9;have⟨u,A⟩:∃u:XJ,a.eval (.tmp 25)= .string u.val:=m.sl 8 (by omega) (ZF c8 hi);exact U8 B (Dc E (Y3v v A) (by rw[C];exact .inl (m.step 9 hi (by omega) (.of (bA _)) (⟨_,u,rfl,Y4 (base:=0) (e:=9) (size:=1) w #[.t #[97],.string u.val,.t #[99,32,100]] 3 (Xb _) (by unfold maxLen;omega) rfl⟩) ((m.gq 9 hi (by decide)).below (bA _)))))
   .exact m.run e4 hi (fun _=>Dg) ((m.ev 6 (by omega)).trans h6) fun _ _=> .inl
   .have s:a.eval (.tmp 27)= .q ((i:Int)+1):=m.sl 10 (by omega) (ZF L hi);exact m.run e5 hi (fun _ h=>EO h s (by rw[Yp];omega)) rfl fun _ _=> .inl
   .have⟨g,u,A,s2⟩:∃(g:Nat) (u:XJ),a.eval (.tmp 26)= .l g 3 3/\w.ownsRow 0 9 1 (.l g 3 3) 3 [.t #[97],.string u.val,.t #[99,32,100]]:=m.sl 9 (by omega) (ZF b5 hi);have F:a.eval (.tmp 28)= .q (i:Int):=m.sl 11 (by omega) (ZF M hi);exact m.run e6 hi (fun _ h=>EJ h A F (by omega)) (⟨g,u,rfl,s2⟩) fun _ _=> .inl
   .have⟨g,u,A,s2⟩:∃(g:Nat) (u:XJ),a.eval (.tmp 29)= .pointer (some ⟨g,i,none⟩)/\w.ownsRow 0 9 1 (.l g 3 3) 3 [.t #[97],.string u.val,.t #[99,32,100]]:=m.sl 12 (by omega) (ZF N hi);obtain⟨u2,hu⟩:∃u2:XJ,([.t #[97],.string u.val,.t #[99,32,100]]:List Value)[i]?=some (.string u2.val):=by
     have b8:i=0\/i=1\/i=2:=by omega
     rcases b8 with rfl|rfl|rfl
     .exact⟨⟨_,by exact YM rfl⟩,rfl⟩
     .exact⟨u,rfl⟩
     .exact⟨⟨_,by exact YM rfl⟩,rfl⟩
    exact m.run e7 hi (fun _ h=>EM h A (Za s2 hu)) (⟨u2,rfl⟩) fun _ _=> .inl
   .have⟨u,A⟩:∃u:XJ,a.eval (.tmp 30)= .string u.val:=m.sl 13 (by omega) (ZF O hi);exact m.run e8 hi (fun _ h=>Y3t h A) (⟨u,rfl⟩) fun _ _=> .inl
   .exact m.run e9 hi (fun _=>Dg) ((m.ev 0 (by omega)).trans h0) fun _ _=> .inl
   .exact m.run f0 hi (fun _=>Dg) ((m.ev 0 (by omega)).trans h0) fun _ _=> .inl
   .have s:a.eval (.tmp 33)= .p gb:=m.sl 16 (by omega) (ZF S hi);exact m.run f1 hi (fun _ h=>EN h s) rfl fun _ _=> .inl
   .have s:a.eval (.tmp 34)= .p gb:=m.sl 17 (by omega) (ZF U hi);exact m.run f2 hi (fun _ h=>EI h s) rfl fun _ _=> .inl
   .have s:a.eval (.tmp 35)= .p gb:=m.sl 18 (by omega) (ZF V hi);exact m.run f3 hi (fun _ h=>EL h s m.gn.c0) rfl fun _ _=> .inl
   .obtain⟨o,B,C,v,E⟩:=f4;have s:a.eval (.tmp 36)= .p rb:=m.sl 19 (by omega) (ZF W hi);refine U8 B (Kf E 22 (.tmp 36) (.const (.q 5)) _ _ v _ (.q 5) s rfl f22 func22 (by kernel_rfl) (by kernel_rfl) _ (W8 gb rb vb n m.gn (by have:=MJ kd l;omega) 5 (by omega) (by omega)) ?_);rintro r w1⟨z,hz,rfl,H,I⟩;rw[C];exact .inl (m.step 20 hi (by omega) I ⟨z,rfl⟩ (by rw[Tb kd (W4 hi)];exact H))
   .exact m.run f5 hi (fun _=>Dg) ((m.ev 1 (by omega)).trans h1) fun _ _=> .inl
   .have s:a.eval (.tmp 38)= .q ((d:Int)+1):=m.sl 21 (by omega) (ZF X hi);exact m.run f6 hi (fun _ h=>EO h s (by rw[Yp];omega)) rfl fun _ _=> .inl
   .obtain⟨o,B,C,v,E⟩:=f7;have A:a.eval (.tmp 32)= .p gb:=m.sl 15 (by omega) (ZF Z hi);have⟨z,s2⟩:∃z:Nat,a.eval (.tmp 37)= .q (z:Int):=m.sl 20 (by omega) (ZF a1 hi);have F:a.eval (.tmp 39)= .q (d:Int):=m.sl 22 (by omega) (ZF a2 hi);refine U8 B (Vp E 99 (.tmp 32) (.tmp 37) (.tmp 39) _ _ _ v _ _ _ A s2 F f99 func99 (by kernel_rfl) (by kernel_rfl) _ (Uk gb rb vb n (HE _ _ _ _ m.gn (by have:=Te kd l (W4 hi);omega) (by omega))) ?_);rintro r w1⟨l1,n1,p1,m1,H,I⟩;rw[C];exact .inl (m.step 23 hi (by omega) I ⟨l1,n1,p1,m1⟩ (by rw[Tc kd (W4 hi),←Nat.add_assoc];exact H))
   .obtain⟨o,B,C,v,E⟩:=f8;have⟨l1,A,s2,F⟩:∃l,NR w (a.eval (.tmp 40)) l/\0<l.length/\l.length<=kd:=m.sl 23 (by omega) (ZF a3 hi);obtain⟨g1,c1,J⟩:=A.form s2;rw[J]at A;exact U8 B (Dc E (EK v J) (by rw[C];exact .inl (m.step 24 hi (by omega) (.of (bA _)) (⟨l1,pr1 A s2,s2,F⟩) ((m.gq 24 hi (by decide)).below (bA _)))))
   .obtain⟨o,B,C,v,E⟩:=f9;have⟨u,A⟩:∃u:XJ,a.eval (.tmp 31)=ndV ⟨17,0,0,u.val,0⟩:=m.sl 14 (by omega) (ZF a4 hi);have⟨l1,s2,F,J⟩:∃l,PR w (a.eval (.tmp 41)) [l]/\0<l.length/\l.length<=kd:=m.sl 24 (by omega) (ZF a5 hi);refine U8 B (Kf E 66 (.tmp 31) (.tmp 41) _ _ v _ _ A rfl f66 func66 (by kernel_rfl) (by kernel_rfl) _ (Uq (ZW ⟨17,0,0,u.val,0⟩ [l1] _ _ kd s2 (by rw[fl1];omega) (by omega) (by simp))) ?_);rintro r w1⟨l2,n1,p1,m1,b1⟩;rw[C];exact .inl (m.step 25 hi (by omega) (.of b1) ⟨l2,n1,p1,m1⟩ ((m.gq 25 hi (by decide)).below b1))
   .obtain⟨o,B,C,v,E⟩:=g0;have⟨l1,A,s2,F⟩:∃l,NR w (a.eval (.tmp 42)) l/\0<l.length/\l.length<=kd+1:=m.sl 25 (by omega) (ZF a6 hi);obtain⟨g1,c1,J⟩:=A.form s2;rw[J]at A;exact U8 B (Dc E (EK v J) (by rw[C];exact .inl (m.step 26 hi (by omega) (.of (bA _)) (⟨_,_,l1,rfl,Y4 (base:=0) (e:=23) (size:=1) w #[_] 1 (Xb _) (by unfold maxLen;omega) rfl,A.below (bA _),s2,F⟩) ((m.gq 26 hi (by decide)).below (bA _)))))
   .obtain⟨o,B,C,v,E⟩:=g2;have s0:a.eval (.tmp 17)=pv:=m.sl 0 (by omega) (ZF b6 hi);have⟨g,u,l1,A,s2,F,J,s5⟩:∃(g:Nat) (u:Value) (l:List Nd),a.eval (.tmp 43)= .l g 1 1/\w.ownsRow 0 23 1 (.l g 1 1) 1 [u]/\NR w u l/\0<l.length/\l.length<=kd+1:=m.sl 26 (by omega) (ZF a7 hi);obtain⟨vs,d1,g4⟩:=m.pw;have e3:u.oneCell'=true:=by obtain⟨_,_,e⟩:=F.form J;rw[e];rfl
    have b7:=m.ty.size;refine U8 B (U5 E (.tmp 17) (.tmp 43) 119 v W0.heap.size 23 iP _ 1 24 underlying119 hP d5 d4 d3 rfl (by decide) pv ls.length vs s0 d1 ⟨g,0,none⟩ 1 1 [u] A rfl (JO s2 rfl) (by intro u' e2;obtain rfl:=V1.1 e2;exact e3) (by unfold maxLen;omega) (by omega) b7 ?_);intro v5 w5 ra g5 rc rd;obtain⟨d8,b0⟩:=Xfe d1 g4 F J ra g5;rw[C];refine .inr (.inl ⟨(Dj ..).trans m.sz,by rw[Jm (by omega)];exact m.n28,fun j hj=>(m.dn.step hi).all (Y2w d2) (GU (W4 hi)) (27-j) j (by omega),?_⟩);refine⟨(Dj ..).trans m.asz,m.adf,fun t h1 h2=>by rw[Ph,Di,X6 (by omega)];exact m.fr t h1 (by omega),l1,?_⟩;rw[MX (by rw[m.asz];omega)];exact⟨d8,J,s5,b0.gn (m.gn.mono (by have:=MJ kd l;omega)) e0,b0.tyM m.ty (X5 _)⟩
   .have:=ZF a8 hi;rw[m.n27]at this;cases this
  .have d0:y=28:=by
    have:=W4 hi;rcases V5 y 28 with h|h
    .rw[b3 y (by omega)]at this;cases this
    .omega
   subst d0;obtain⟨o,B,C,v,E⟩:=g3;refine U8 B (Dc E (Y3s v) ?_);rw[C];refine .inr (.inr ⟨(Dj ..).trans b1,fun j hj=>?_,⟨(Dj ..).trans K.asz,K.adf,fun t h1 h2=>?_,?_⟩⟩)
   .by_cases e:j=28
    .rw[e];exact GU b2
    .exact Px (b3 j (by omega))
   .rw[Ph,Di,X6 (by omega)];exact K.fr t h1 h2
   .rw[MX (by rw[K.asz];omega)];exact K.o
  .exfalso;have:=W4 hi;rw[b2 y (by omega)]at this;cases this
 .intro l a w hI hr;rcases hI with m|⟨b1,b2,b3,K⟩|⟨b1,b2,K⟩
  .have:=Cw hr (by rw[m.sz,a9]) (A2 c9) 27 (by omega);rw[m.n27]at this;cases this
  .have:=Cw hr (by rw[b1,a9]) (A2 c9) 28 (by omega);rw[b2]at this;cases this
  .exact hQ a w K
 .rw[a9];decide
 .rw[a9];refine⟨rfl,b7,rfl,fun _ _ _=>rfl,rfl,rfl,fun j o _ hl=>?_,fun j hj hl=>?_,e1,d9,d7⟩
  .have hf:=QS.1 hl;obtain⟨_,hf⟩:=hf;rw[Array.getElem_replicate]at hf;cases hf
  .have hf:=QS.1 hl;obtain⟨_,hf⟩:=hf;rw[Array.getElem_replicate]at hf;cases hf
