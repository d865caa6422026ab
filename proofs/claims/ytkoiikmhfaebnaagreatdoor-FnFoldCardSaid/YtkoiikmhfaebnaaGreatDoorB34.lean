import Derived.Test.YtkoiikmhfaebnaaGreatDoorB33
set_option maxHeartbeats 4000000
namespace Go.Proofs.YtkoiikmhfaebnaaGreatDoor
open Tryz Go.RowKit
section
variable {o:Oper} {a:Act} {w:World}
theorem GD[LB]{x:Operand}(c:o.op= .move x):(execOp a.eval o).run prog w= .ok (.value (a.eval x)) w:=by
 unfold execOp;rw[c];rfl
theorem Y6v[LB]{x:Operand}(c:o.op= .assign x):(execOp a.eval o).run prog w= .ok (.value (a.eval x)) w:=by
 unfold execOp;rw[c];rfl
theorem Ha[LB]{x:Operand}{p:Addr}(c:o.op= .nilCheck x)(g:a.eval x= .pointer (some p)):(execOp a.eval o).run prog w= .ok (.value (.pointer (some p))) w:=by
 unfold execOp;rw[c];simp only[g];rfl
theorem H5[LB]{x:Operand}{b:Nat}(c:o.op= .fieldAddr 150 x 0)(g:a.eval x= .pointer (some ⟨b,0,none⟩)):(execOp a.eval o).run prog w= .ok (.value (.pointer (some ⟨b,0,none⟩))) w:=by
 unfold execOp;rw[c];simp only[g];go_simp
theorem H8[LB]{x:Operand}{p:Addr}{v:Value}(c:o.op= .load 32 x)(g:a.eval x= .pointer (some p))(j:w.cell? p=some v):(execOp a.eval o).run prog w= .ok (.value v) w:=by
 unfold execOp;rw[c];simp only[g];go_simp
theorem H9[LB]{x:Operand}{p:Addr}{v:Value}(c:o.op= .load 9 x)(g:a.eval x= .pointer (some p))(j:w.cell? p=some v):(execOp a.eval o).run prog w= .ok (.value v) w:=by
 unfold execOp;rw[c];simp only[g];go_simp
theorem H6[LB]{x y:Operand}{g n c z:Nat}(j:o.op= .indexAddr 61 x y)(m:a.eval x= .slice (some ⟨g,0,none⟩) n c)(q:a.eval y= .int .i64 (z:Int))(s:z<n):(execOp a.eval o).run prog w= .ok (.value (.pointer (some ⟨g,z,none⟩))) w:=by
 have r:(z:Int)<(n:Int):=by omega
 unfold execOp;rw[j];simp only[m,q];go_simp
theorem Hb[LB]{x:Operand}{z:Int}(c:o.op= .binOp .sub 3 x (.const (.int .i64 1)) 3)(j:a.eval x= .int .i64 (z+1))(m:IntKind.i64.wrap z=z):(execOp a.eval o).run prog w= .ok (.value (.int .i64 z)) w:=by
 have g:a.eval (.const (.int .i64 1))= .int .i64 1:=rfl;unfold execOp;rw[c];simp only[j,g];go_simp
theorem Y6w[LB]{x:Operand}{u:ByteArray}(c:o.op= .build 48 #[(0,.const (.int .i64 17)),(3,x)])(j:a.eval x= .string u):(execOp a.eval o).run prog w= .ok (.value (ndV ⟨17,0,0,u,0⟩)) w:=by
 have g:a.eval (.const (.int .i64 17))= .int .i64 17:=rfl;unfold execOp ndV;rw[c];simp only[KP,Xu,Yc,j,g];go_simp
theorem Y6x[LB]{c g:ByteArray}(j:o.op= .buildSlice 61 2 #[(0,.const (.string c)),(1,.const (.string g))]):(execOp a.eval o).run prog w= .ok (.value (.slice (some ⟨w.heap.size,0,none⟩) 2 2)) (w.alloc (.cells #[.string c,.string g] 9)):=by
 have m:a.eval (.const (.string c))= .string c:=rfl;have q:a.eval (.const (.string g))= .string g:=rfl;unfold execOp;rw[j];simp only[KP,Xu,Yc,m,q];go_simp
theorem Y6y[LB]{x:Operand}{c u g:ByteArray}(j:o.op= .buildSlice 61 3 #[(0,.const (.string c)),(1,x),(2,.const (.string g))])(r:a.eval x= .string u):(execOp a.eval o).run prog w= .ok (.value (.slice (some ⟨w.heap.size,0,none⟩) 3 3)) (w.alloc (.cells #[.string c,.string u,.string g] 9)):=by
 have m:a.eval (.const (.string c))= .string c:=rfl;have q:a.eval (.const (.string g))= .string g:=rfl;unfold execOp;rw[j];simp only[KP,Xu,Yc,m,q,r];go_simp
theorem H7[LB]{x:Operand}{p:Option Addr}{n c:Nat}(g:o.op= .buildSlice 138 1 #[(0,x)])(j:a.eval x= .slice p n c):(execOp a.eval o).run prog w= .ok (.value (.slice (some ⟨w.heap.size,0,none⟩) 1 1)) (w.alloc (.cells #[.slice p n c] 23)):=by
 unfold execOp;rw[g];simp only[KP,Xu,Yc,j];go_simp
end
theorem Y0x[LB]{B:Nat}{W j:World}{v v' u:Value}{l:List Nd}{ls:List (List Nd)}{q:List Value}(s:W.ownsRow B 23 1 v ls.length q)(A:∀i (h:i<ls.length),∃u,q[i]?=some u/\NR W u ls[i]/\0<ls[i].length)(F:NR W u l)(D:0<l.length)(H:j.ownsRow B 23 1 v' (ls.length+1) (q++[u]))(m:W.grownBy j v.ownBlock):PW B j v' (ls++[l])/\Pf B W j:=by
 have g:Pf B W j:=⟨m.os,m.tape,m.output,m.size,fun b E r=>by
  refine m.block b E (fun e=>?_);have J:=s.lt b e.symm;have C:=Q5 s e.symm;rcases r with r|r
  .omega
  .exact r C⟩
 have y:q.length=ls.length:=by have:=s.1;omega
 refine⟨⟨q++[u],by rw[Xo];exact H,fun i hi=>?_⟩,g⟩;by_cases z:i<ls.length
 .obtain⟨I,a,b,c⟩:=A i z;rw[Vg z];exact⟨I,by rw[QY (by omega)];exact a,g.nr b,c⟩
 .have t:i=ls.length:=by simp only[Xo,Ya,ZN]at hi;omega
  subst t;have e:(ls++[l])[ls.length]'hi=l:=by simp
  rw[e];exact⟨u,by rw[K6 (by omega),y];simp,g.nr F,D⟩
theorem MB[LB]:¬XS (some 9):=by unfold XS;simp
def RS(gb rb kd d i:Nat)(pv:Value):Nat->Value->World->Prop
 | 0,x,_=>x=pv
 | 1,x,w=>∃g,x= .slice (some ⟨g,0,none⟩) 2 2/\w.ownsRow 0 9 1 (.slice (some ⟨g,0,none⟩) 2 2) 2 [.string ⟨#[98]⟩,.string ⟨#[95]⟩]
 | 2,x,_=>x= .pointer (some ⟨gb,0,none⟩)
 | 3,x,_=>x= .pointer (some ⟨gb,0,none⟩)
 | 4,x,_=>x= .pointer (some ⟨gb,0,none⟩)
 | 5,x,_=>x= .pointer (some ⟨rb,0,none⟩)
 | 6,x,_=>∃z:Nat,z<2/\x= .int .i64 (z:Int)
 | 7,x,w=>∃g z:Nat,z<2/\x= .pointer (some ⟨g,z,none⟩)/\w.ownsRow 0 9 1 (.slice (some ⟨g,0,none⟩) 2 2) 2 [.string ⟨#[98]⟩,.string ⟨#[95]⟩]
 | 8,x,_=>∃u:XC,x= .string u.val
 | 9,x,w=>∃(g:Nat) (u:XC),x= .slice (some ⟨g,0,none⟩) 3 3/\w.ownsRow 0 9 1 (.slice (some ⟨g,0,none⟩) 3 3) 3 [.string ⟨#[97]⟩,.string u.val,.string ⟨#[99,32,100]⟩]
 | 10,x,_=>x= .int .i64 ((i:Int)+1)
 | 11,x,_=>x= .int .i64 (i:Int)
 | 12,x,w=>∃(g:Nat) (u:XC),x= .pointer (some ⟨g,i,none⟩)/\w.ownsRow 0 9 1 (.slice (some ⟨g,0,none⟩) 3 3) 3 [.string ⟨#[97]⟩,.string u.val,.string ⟨#[99,32,100]⟩]
 | 13,x,_=>∃u:XC,x= .string u.val
 | 14,x,_=>∃u:XC,x=ndV ⟨17,0,0,u.val,0⟩
 | 15,x,_=>x= .pointer (some ⟨gb,0,none⟩)
 | 16,x,_=>x= .pointer (some ⟨gb,0,none⟩)
 | 17,x,_=>x= .pointer (some ⟨gb,0,none⟩)
 | 18,x,_=>x= .pointer (some ⟨gb,0,none⟩)
 | 19,x,_=>x= .pointer (some ⟨rb,0,none⟩)
 | 20,x,_=>∃z:Nat,x= .int .i64 (z:Int)
 | 21,x,_=>x= .int .i64 ((d:Int)+1)
 | 22,x,_=>x= .int .i64 (d:Int)
 | 23,x,w=>∃l,NR w x l/\0<l.length/\l.length<=kd
 | 24,x,w=>∃l,PR w x [l]/\0<l.length/\l.length<=kd
 | 25,x,w=>∃l,NR w x l/\0<l.length/\l.length<=kd+1
 | 26,x,w=>∃(g:Nat) (u:Value) (l:List Nd),x= .slice (some ⟨g,0,none⟩) 1 1/\w.ownsRow 0 23 1 (.slice (some ⟨g,0,none⟩) 1 1) 1 [u]/\NR w u l/\0<l.length/\l.length<=kd+1
 | _,_,_=>False
theorem RS.ty[LB]{gb rb kd d i:Nat}{pv:Value}{w w':World}(q:Ty w w'):∀(j:Nat) (x:Value),RS gb rb kd d i pv j x w->RS gb rb kd d i pv j x w'
 | 0,_,h=>by exact h
 | 1,_,h=>by obtain⟨g,c,m⟩:=h;exact⟨g,c,YL m q MB⟩
 | 2,_,h=>by exact h
 | 3,_,h=>by exact h
 | 4,_,h=>by exact h
 | 5,_,h=>by exact h
 | 6,_,h=>by exact h
 | 7,_,h=>by obtain⟨g,z,r,c,m⟩:=h;exact⟨g,z,r,c,YL m q MB⟩
 | 8,_,h=>by exact h
 | 9,_,h=>by obtain⟨g,u,c,m⟩:=h;exact⟨g,u,c,YL m q MB⟩
 | 10,_,h=>by exact h
 | 11,_,h=>by exact h
 | 12,_,h=>by obtain⟨g,u,c,m⟩:=h;exact⟨g,u,c,YL m q MB⟩
 | 13,_,h=>by exact h
 | 14,_,h=>by exact h
 | 15,_,h=>by exact h
 | 16,_,h=>by exact h
 | 17,_,h=>by exact h
 | 18,_,h=>by exact h
 | 19,_,h=>by exact h
 | 20,_,h=>by exact h
 | 21,_,h=>by exact h
 | 22,_,h=>by exact h
 | 23,_,h=>by obtain⟨l,c,m⟩:=h;exact⟨l,c.ty q,m⟩
 | 24,_,h=>by obtain⟨l,c,m⟩:=h;exact⟨l,c.ty q,m⟩
 | 25,_,h=>by obtain⟨l,c,m⟩:=h;exact⟨l,c.ty q,m⟩
 | 26,_,h=>by obtain⟨g,u,l,c,m,s,t⟩:=h;exact⟨g,u,l,c,YL m q MA,s.ty q,t⟩
def bq(kd:Nat)(l:Array Bool):Nat:=(if l[6]?=some true then 1 else 0)+(if l[20]?=some true then 1 else 0)+(if l[23]?=some true then kd else 0)
theorem Py[LB](kd:Nat)(l:Array Bool):bq kd l<=2+kd:=by unfold bq;split<;>split<;>split<;>omega
theorem X1l[LB](kd:Nat)(l:Array Bool)(h:l[23]?=some false):bq kd l<=2:=by
 unfold bq;rw[h,X2 (show ¬(some false=some true) by decide)];split<;>split<;>omega
theorem X1m[LB](kd:Nat)(l:Array Bool){i:Nat}(j:i≠6)(c:i≠20)(g:i≠23):bq kd (l.setIfInBounds i true)=bq kd l:=by
 unfold bq;rw[Jk j,Jk c,Jk g]
theorem X1k[LB](kd:Nat){l:Array Bool}(h:l[6]?=some false):bq kd (l.setIfInBounds 6 true)=bq kd l+1:=by
 unfold bq;rw[L6 h,Jk (by decide),Jk (by decide),h,X3 rfl,X2 (show ¬(some false=some true) by decide)];omega
theorem X1i[LB](kd:Nat){l:Array Bool}(h:l[20]?=some false):bq kd (l.setIfInBounds 20 true)=bq kd l+1:=by
 unfold bq;rw[L6 h,Jk (by decide),Jk (by decide),h,X3 rfl,X2 (show ¬(some false=some true) by decide)];omega
theorem X1j[LB](kd:Nat){l:Array Bool}(h:l[23]?=some false):bq kd (l.setIfInBounds 23 true)=bq kd l+kd:=by
 unfold bq;rw[L6 h,Jk (by decide),Jk (by decide),h,X3 rfl,X2 (show ¬(some false=some true) by decide)];omega
theorem Db[LB]{g:Region.Mode}{ops:Array Oper}{l:Array Bool}{i:Nat}(h:i∈Region.ready g ops l):l[i]?=some false:=by
 obtain⟨_,_,c,_⟩:=Gd h;exact c
theorem RW[LB](a:Act)(t:Nat)(v:Value):(a.put (some t) v).tmps=a.tmps.setIfInBounds t v:=rfl
section
variable (gb rb:Nat) (vb:Value) (n:Nat) (ops:Array Oper) (a0:Act) (W0:World) (qq k kd d i:Nat) (pv:Value) (ls:List (List Nd))
structure VW [LB] (l:Array Bool) (a:Act) (w:World):Prop where
 sz:l.size=29
 asz:a.tmps.size=48
 adf:a.defers=a0.defers
 fr:∀t,t<48->(t<17\/44<t)->a.tmps[t]?=a0.tmps[t]?
 n27:l[27]?=some false
 n28:l[28]?=some false
 dn:Down .any ops l
 sl:∀j,j<27->l[j]?=some true->RS gb rb kd d i pv j (a.eval (.tmp (17+j))) w
 ty:Ty W0 w
 pw:PW W0.heap.size w pv ls
 gn:Gn gb rb vb n (qq+bq kd l) k w
structure P9 [LB] (a:Act) (x:Value) (w:World):Prop where
 asz:a.tmps.size=48
 adf:a.defers=a0.defers
 fr:∀t,t<48->(t<17/\t≠5\/44<t)->a.tmps[t]?=a0.tmps[t]?
 o:∃l,PW W0.heap.size w x (ls++[l])/\0<l.length/\l.length<=kd+1/\Gn gb rb vb n (qq+(2+kd)) k w/\Ty W0 w
end
section
variable {gb rb:Nat} {vb:Value} {n:Nat} {ops:Array Oper} {a0:Act} {W0:World} {qq k kd d i:Nat} {pv:Value} {ls:List (List Nd)} {l:Array Bool} {a:Act} {w:World}
theorem VW.ev[LB](h:VW gb rb vb n ops a0 W0 qq k kd d i pv ls l a w)(t:Nat)(c:t<17):a.eval (.tmp t)=a0.eval (.tmp t):=by
 show a.tmps.getD t undef=a0.tmps.getD t undef;rw[GF,GF,h.fr t (by omega) (.inl c)]
theorem VW.gq[LB](h:VW gb rb vb n ops a0 W0 qq k kd d i pv ls l a w)(j:Nat)(_hi:j∈Region.ready .any ops l)(c:j≠6/\j≠20/\j≠23):Gn gb rb vb n (qq+bq kd (l.setIfInBounds j true)) k w:=by
 rw[X1m kd l c.1 c.2.1 c.2.2];exact h.gn
theorem VW.step[LB](h:VW gb rb vb n ops a0 W0 qq k kd d i pv ls l a w)(j:Nat)(hi:j∈Region.ready .any ops l)(z:j<27){v:Value}{w':World}(c:Ty w w')(y:RS gb rb kd d i pv j v w')(s:Gn gb rb vb n (qq+bq kd (l.setIfInBounds j true)) k w'):VW gb rb vb n ops a0 W0 qq k kd d i pv ls (l.setIfInBounds j true) (a.put (some (17+j)) v) w':=by
 refine⟨(GH ..).trans h.sz,(GH ..).trans h.asz,h.adf,fun t q r=>?_,by rw[Jk (by omega)];exact h.n27,by rw[Jk (by omega)];exact h.n28,h.dn.step hi,fun m u g=>?_,h.ty.trans c,h.pw.ty c,s⟩
 .rw[RW,GG,X2 (by omega)];exact h.fr t q r
 .by_cases e:j=m
  .subst e;rw[PQ (by rw[h.asz];omega)];exact y
  .rw[Jk e]at g;rw[X4u (by omega)];exact(h.sl m u g).ty c
end
theorem Y1d[LB]{gb rb:Nat}{vb:Value}{n:Nat}{ops:Array Oper}{a0:Act}{W0:World}{qq k kd d i:Nat}{pv:Value}{ls:List (List Nd)}{Q:Exit->Act->World->Prop}(o0:Zo ops 0 17 (Op.move (Operand.tmp 5)))(o1:Zo ops 1 18 (Op.buildSlice 61 2 #[(0,Operand.const (Value.string ⟨#[98]⟩)),(1,Operand.const (Value.string ⟨#[95]⟩))]))(o2:Zo ops 2 19 (Op.move (Operand.tmp 0)))(o3:Zo ops 3 20 (Op.nilCheck (Operand.tmp 19)))(o4:Zo ops 4 21 (Op.fieldAddr 150 (Operand.tmp 20) 0))(o5:Zo ops 5 22 (Op.load 32 (Operand.tmp 21)))(o6:Zo ops 6 23 (Op.call {callee:=Callee.value (Operand.func 23),args:=#[Operand.tmp 22,Operand.const (Value.int IntKind.i64 2)],argTypes:=#[32,3]}))(o7:Zo ops 7 24 (Op.indexAddr 61 (Operand.tmp 18) (Operand.tmp 23)))(o8:Zo ops 8 25 (Op.load 9 (Operand.tmp 24)))(o9:Zo ops 9 26 (Op.buildSlice 61 3 #[(0,Operand.const (Value.string ⟨#[97]⟩)),(1,Operand.tmp 25),(2,Operand.const (Value.string ⟨#[99,32,100]⟩))]))(e7:Zo ops 10 27 (Op.move (Operand.tmp 6)))(e8:Zo ops 11 28 (Op.binOp BinOp.sub 3 (Operand.tmp 27) (Operand.const (Value.int IntKind.i64 1)) 3))(e9:Zo ops 12 29 (Op.indexAddr 61 (Operand.tmp 26) (Operand.tmp 28)))(f0:Zo ops 13 30 (Op.load 9 (Operand.tmp 29)))(f1:Zo ops 14 31 (Op.build 48 #[(0,Operand.const (Value.int IntKind.i64 17)),(3,Operand.tmp 30)]))(f2:Zo ops 15 32 (Op.move (Operand.tmp 0)))(f3:Zo ops 16 33 (Op.move (Operand.tmp 0)))(f4:Zo ops 17 34 (Op.nilCheck (Operand.tmp 33)))(f5:Zo ops 18 35 (Op.fieldAddr 150 (Operand.tmp 34) 0))(f6:Zo ops 19 36 (Op.load 32 (Operand.tmp 35)))(f7:Zo ops 20 37 (Op.call {callee:=Callee.value (Operand.func 23),args:=#[Operand.tmp 36,Operand.const (Value.int IntKind.i64 5)],argTypes:=#[32,3]}))(f8:Zo ops 21 38 (Op.move (Operand.tmp 1)))(f9:Zo ops 22 39 (Op.binOp BinOp.sub 3 (Operand.tmp 38) (Operand.const (Value.int IntKind.i64 1)) 3))(g0:Zo ops 23 40 (Op.call {callee:=Callee.value (Operand.func 147),args:=#[Operand.tmp 32,Operand.tmp 37,Operand.tmp 39],argTypes:=#[146,3,3]}))(g2:Zo ops 24 41 (Op.buildSlice 138 1 #[(0,Operand.tmp 40)]))(g3:Zo ops 25 42 (Op.call {callee:=Callee.value (Operand.func 80),args:=#[Operand.tmp 31,Operand.tmp 41],argTypes:=#[48,138]}))(g4:Zo ops 26 43 (Op.buildSlice 138 1 #[(0,Operand.tmp 42)]))(g5:Zo ops 27 44 (Op.call {callee:=Callee.builtin Builtin.append,args:=#[Operand.tmp 17,Operand.tmp 43],argTypes:=#[138,138]}))(g6:Zo ops 28 5 (Op.assign (Operand.tmp 44)))(a6:ops.size=29)(d2:Bm ops=true)(d5:upB .any ops 27=true)(b6:onB .any ops 3 2=true)(b7:onB .any ops 4 3=true)(b8:onB .any ops 5 4=true)(b9:onB .any ops 6 5=true)(c8:onB .any ops 7 1=true)(c9:onB .any ops 7 6=true)(d0:onB .any ops 8 7=true)(d1:onB .any ops 9 8=true)(I:onB .any ops 11 10=true)(a8:onB .any ops 12 9=true)(J:onB .any ops 12 11=true)(K:onB .any ops 13 12=true)(L:onB .any ops 14 13=true)(M:onB .any ops 17 16=true)(N:onB .any ops 18 17=true)(P:onB .any ops 19 18=true)(S:onB .any ops 20 19=true)(V:onB .any ops 22 21=true)(W:onB .any ops 23 15=true)(X:onB .any ops 23 20=true)(Y:onB .any ops 23 22=true)(Z:onB .any ops 24 23=true)(a1:onB .any ops 25 14=true)(a2:onB .any ops 25 24=true)(a3:onB .any ops 26 25=true)(a9:onB .any ops 27 0=true)(a4:onB .any ops 27 26=true)(a5:onB .any ops 28 27=true)(HE:EAt gb rb vb n d kd)(h3:kd<=1000000)(h8:qq+2+kd<=700000000)(hk:k+d<=900)(g9:i<3)(h4:ls.length<=3)(e3:rb<W0.heap.size)(h0:a0.eval (.tmp 0)= .pointer (some ⟨gb,0,none⟩))(h1:a0.eval (.tmp 1)= .int .i64 ((d:Int)+1))(h5:a0.eval (.tmp 5)=pv)(h6:a0.eval (.tmp 6)= .int .i64 ((i:Int)+1))(hQ:∀a w,P9 gb rb vb n a0 W0 qq k kd ls a (a.eval (.tmp 5)) w->Q .normal a w){w:World}(b0:a0.tmps.size=48)(e4:Ty W0 w)(e2:PW W0.heap.size w pv ls)(e0:Gn gb rb vb n qq k w):wpAny prog .any ops Q ops.size (Array.replicate ops.size false) a0 w:=by
 obtain⟨iP,hP,d8,d7,d6⟩:=Yk Ga;refine Y6t (fun l a w=>VW gb rb vb n ops a0 W0 qq k kd d i pv ls l a w\/(l.size=29/\l[28]?=some false/\(∀j,j<=27->l[j]?=some true)/\P9 gb rb vb n a0 W0 qq k kd ls a (a.eval (.tmp 44)) w)\/(l.size=29/\(∀j,j<=28->l[j]?=some true)/\P9 gb rb vb n a0 W0 qq k kd ls a (a.eval (.tmp 5)) w)) ?_ ?_ _ _ _ _ ?_ (.inl ?_)
 .intro l a w hI A hi;have h7:A<29:=by
   obtain⟨o,q,_⟩:=Gd hi;have:=(Kh.1 q).1;omega
  rcases hI with m|⟨b1,b2,b3,H⟩|⟨b1,b2,H⟩
  .have d9:A=0\/A=1\/A=2\/A=3\/A=4\/A=5\/A=6\/A=7\/A=8\/A=9\/A=10\/A=11\/A=12\/A=13\/A=14\/A=15\/A=16\/A=17\/A=18\/A=19\/A=20\/A=21\/A=22\/A=23\/A=24\/A=25\/A=26\/A=27\/A=28:=by omega
   rcases d9 with rfl|rfl|rfl|rfl|rfl|rfl|rfl|rfl|rfl|rfl|rfl|rfl|rfl|rfl|rfl|rfl|rfl|rfl|rfl|rfl|rfl|rfl|rfl|rfl|rfl|rfl|rfl|rfl|rfl
   .obtain⟨o,q,v,c,y⟩:=o0;exact Zt q (Ke y (GD c) (by rw[v];exact .inl (m.step 0 hi (by omega) (.refl _) ((m.ev 5 (by omega)).trans h5) (m.gq 0 hi (by decide)))))
   .obtain⟨o,q,v,c,y⟩:=o1;exact Zt q (Ke y (Y6x c) (by rw[v];exact .inl (m.step 1 hi (by omega) (.of (bA _)) (⟨_,rfl,XV (base:=0) (e:=9) (size:=1) w #[.string ⟨#[98]⟩,.string ⟨#[95]⟩] 2 (X6 _) (by unfold maxLen;omega) rfl⟩) ((m.gq 1 hi (by decide)).below (bA _)))))
   .obtain⟨o,q,v,c,y⟩:=o2;exact Zt q (Ke y (GD c) (by rw[v];exact .inl (m.step 2 hi (by omega) (.refl _) ((m.ev 0 (by omega)).trans h0) (m.gq 2 hi (by decide)))))
   .obtain⟨o,q,v,c,y⟩:=o3;have s:a.eval (.tmp 19)= .pointer (some ⟨gb,0,none⟩):=m.sl 2 (by omega) (Zx b6 hi);exact Zt q (Ke y (Ha c s) (by rw[v];exact .inl (m.step 3 hi (by omega) (.refl _) (rfl) (m.gq 3 hi (by decide)))))
   .obtain⟨o,q,v,c,y⟩:=o4;have s:a.eval (.tmp 20)= .pointer (some ⟨gb,0,none⟩):=m.sl 3 (by omega) (Zx b7 hi);exact Zt q (Ke y (H5 c s) (by rw[v];exact .inl (m.step 4 hi (by omega) (.refl _) (rfl) (m.gq 4 hi (by decide)))))
   .obtain⟨o,q,v,c,y⟩:=o5;have s:a.eval (.tmp 21)= .pointer (some ⟨gb,0,none⟩):=m.sl 4 (by omega) (Zx b8 hi);exact Zt q (Ke y (H8 c s m.gn.c0) (by rw[v];exact .inl (m.step 5 hi (by omega) (.refl _) (rfl) (m.gq 5 hi (by decide)))))
   .obtain⟨o,q,v,c,y⟩:=o6;have s:a.eval (.tmp 22)= .pointer (some ⟨rb,0,none⟩):=m.sl 5 (by omega) (Zx b9 hi);refine Zt q (KL y 23 (.tmp 22) (.const (.int .i64 2)) _ _ c _ (.int .i64 2) s rfl f23 func23 (by kernel_rfl) (by kernel_rfl) _ (Dh gb rb vb n m.gn (by have:=Py kd l;omega) 2 (by omega) (by omega)) ?_);rintro r w1⟨z,hz,rfl,D,E⟩;rw[v];exact .inl (m.step 6 hi (by omega) E ⟨z,by omega,rfl⟩ (by rw[X1k kd (Db hi)];exact D))
   .obtain⟨o,q,v,c,y⟩:=o7;have⟨g,B,s2⟩:∃g,a.eval (.tmp 18)= .slice (some ⟨g,0,none⟩) 2 2/\w.ownsRow 0 9 1 (.slice (some ⟨g,0,none⟩) 2 2) 2 [.string ⟨#[98]⟩,.string ⟨#[95]⟩]:=m.sl 1 (by omega) (Zx c8 hi);have⟨z,hz,C⟩:∃z:Nat,z<2/\a.eval (.tmp 23)= .int .i64 (z:Int):=m.sl 6 (by omega) (Zx c9 hi);exact Zt q (Ke y (H6 c B C hz) (by rw[v];exact .inl (m.step 7 hi (by omega) (.refl _) (⟨g,z,hz,rfl,s2⟩) (m.gq 7 hi (by decide)))))
   .obtain⟨o,q,v,c,y⟩:=o8;have⟨g,z,hz,B,s2⟩:∃g z:Nat,z<2/\a.eval (.tmp 24)= .pointer (some ⟨g,z,none⟩)/\w.ownsRow 0 9 1 (.slice (some ⟨g,0,none⟩) 2 2) 2 [.string ⟨#[98]⟩,.string ⟨#[95]⟩]:=m.sl 7 (by omega) (Zx d0 hi);obtain⟨u,hu⟩:∃u:XC,([.string ⟨#[98]⟩,.string ⟨#[95]⟩]:List Value)[z]?=some (.string u.val):=by
     have b5:z=0\/z=1:=by omega
     rcases b5 with rfl|rfl<;>exact⟨⟨_,by exact YC rfl⟩,rfl⟩
    exact Zt q (Ke y (H9 c B (Kb s2 hu)) (by rw[v];exact .inl (m.step 8 hi (by omega) (.refl _) (⟨u,rfl⟩) (m.gq 8 hi (by decide)))))
   .obtain⟨o,q,v,c,y⟩:=o9;have⟨u,B⟩:∃u:XC,a.eval (.tmp 25)= .string u.val:=m.sl 8 (by omega) (Zx d1 hi);exact Zt q (Ke y (Y6y c B) (by rw[v];exact .inl (m.step 9 hi (by omega) (.of (bA _)) (⟨_,u,rfl,XV (base:=0) (e:=9) (size:=1) w #[.string ⟨#[97]⟩,.string u.val,.string ⟨#[99,32,100]⟩] 3 (X6 _) (by unfold maxLen;omega) rfl⟩) ((m.gq 9 hi (by decide)).below (bA _)))))
   .obtain⟨o,q,v,c,y⟩:=e7;exact Zt q (Ke y (GD c) (by rw[v];exact .inl (m.step 10 hi (by omega) (.refl _) ((m.ev 6 (by omega)).trans h6) (m.gq 10 hi (by decide)))))
   .obtain⟨o,q,v,c,y⟩:=e8;have s:a.eval (.tmp 27)= .int .i64 ((i:Int)+1):=m.sl 10 (by omega) (Zx I hi);exact Zt q (Ke y (Hb c s (by rw[Yt];omega)) (by rw[v];exact .inl (m.step 11 hi (by omega) (.refl _) (rfl) (m.gq 11 hi (by decide)))))
   .obtain⟨o,q,v,c,y⟩:=e9;have⟨g,u,B,s2⟩:∃(g:Nat) (u:XC),a.eval (.tmp 26)= .slice (some ⟨g,0,none⟩) 3 3/\w.ownsRow 0 9 1 (.slice (some ⟨g,0,none⟩) 3 3) 3 [.string ⟨#[97]⟩,.string u.val,.string ⟨#[99,32,100]⟩]:=m.sl 9 (by omega) (Zx a8 hi);have C:a.eval (.tmp 28)= .int .i64 (i:Int):=m.sl 11 (by omega) (Zx J hi);exact Zt q (Ke y (H6 c B C (by omega)) (by rw[v];exact .inl (m.step 12 hi (by omega) (.refl _) (⟨g,u,rfl,s2⟩) (m.gq 12 hi (by decide)))))
   .obtain⟨o,q,v,c,y⟩:=f0;have⟨g,u,B,s2⟩:∃(g:Nat) (u:XC),a.eval (.tmp 29)= .pointer (some ⟨g,i,none⟩)/\w.ownsRow 0 9 1 (.slice (some ⟨g,0,none⟩) 3 3) 3 [.string ⟨#[97]⟩,.string u.val,.string ⟨#[99,32,100]⟩]:=m.sl 12 (by omega) (Zx K hi);obtain⟨u2,hu⟩:∃u2:XC,([.string ⟨#[97]⟩,.string u.val,.string ⟨#[99,32,100]⟩]:List Value)[i]?=some (.string u2.val):=by
     have b5:i=0\/i=1\/i=2:=by omega
     rcases b5 with rfl|rfl|rfl
     .exact⟨⟨_,by exact YC rfl⟩,rfl⟩
     .exact⟨u,rfl⟩
     .exact⟨⟨_,by exact YC rfl⟩,rfl⟩
    exact Zt q (Ke y (H9 c B (Kb s2 hu)) (by rw[v];exact .inl (m.step 13 hi (by omega) (.refl _) (⟨u2,rfl⟩) (m.gq 13 hi (by decide)))))
   .obtain⟨o,q,v,c,y⟩:=f1;have⟨u,B⟩:∃u:XC,a.eval (.tmp 30)= .string u.val:=m.sl 13 (by omega) (Zx L hi);exact Zt q (Ke y (Y6w c B) (by rw[v];exact .inl (m.step 14 hi (by omega) (.refl _) (⟨u,rfl⟩) (m.gq 14 hi (by decide)))))
   .obtain⟨o,q,v,c,y⟩:=f2;exact Zt q (Ke y (GD c) (by rw[v];exact .inl (m.step 15 hi (by omega) (.refl _) ((m.ev 0 (by omega)).trans h0) (m.gq 15 hi (by decide)))))
   .obtain⟨o,q,v,c,y⟩:=f3;exact Zt q (Ke y (GD c) (by rw[v];exact .inl (m.step 16 hi (by omega) (.refl _) ((m.ev 0 (by omega)).trans h0) (m.gq 16 hi (by decide)))))
   .obtain⟨o,q,v,c,y⟩:=f4;have s:a.eval (.tmp 33)= .pointer (some ⟨gb,0,none⟩):=m.sl 16 (by omega) (Zx M hi);exact Zt q (Ke y (Ha c s) (by rw[v];exact .inl (m.step 17 hi (by omega) (.refl _) (rfl) (m.gq 17 hi (by decide)))))
   .obtain⟨o,q,v,c,y⟩:=f5;have s:a.eval (.tmp 34)= .pointer (some ⟨gb,0,none⟩):=m.sl 17 (by omega) (Zx N hi);exact Zt q (Ke y (H5 c s) (by rw[v];exact .inl (m.step 18 hi (by omega) (.refl _) (rfl) (m.gq 18 hi (by decide)))))
   .obtain⟨o,q,v,c,y⟩:=f6;have s:a.eval (.tmp 35)= .pointer (some ⟨gb,0,none⟩):=m.sl 18 (by omega) (Zx P hi);exact Zt q (Ke y (H8 c s m.gn.c0) (by rw[v];exact .inl (m.step 19 hi (by omega) (.refl _) (rfl) (m.gq 19 hi (by decide)))))
   .obtain⟨o,q,v,c,y⟩:=f7;have s:a.eval (.tmp 36)= .pointer (some ⟨rb,0,none⟩):=m.sl 19 (by omega) (Zx S hi);refine Zt q (KL y 23 (.tmp 36) (.const (.int .i64 5)) _ _ c _ (.int .i64 5) s rfl f23 func23 (by kernel_rfl) (by kernel_rfl) _ (Dh gb rb vb n m.gn (by have:=Py kd l;omega) 5 (by omega) (by omega)) ?_);rintro r w1⟨z,hz,rfl,D,E⟩;rw[v];exact .inl (m.step 20 hi (by omega) E ⟨z,rfl⟩ (by rw[X1i kd (Db hi)];exact D))
   .obtain⟨o,q,v,c,y⟩:=f8;exact Zt q (Ke y (GD c) (by rw[v];exact .inl (m.step 21 hi (by omega) (.refl _) ((m.ev 1 (by omega)).trans h1) (m.gq 21 hi (by decide)))))
   .obtain⟨o,q,v,c,y⟩:=f9;have s:a.eval (.tmp 38)= .int .i64 ((d:Int)+1):=m.sl 21 (by omega) (Zx V hi);exact Zt q (Ke y (Hb c s (by rw[Yt];omega)) (by rw[v];exact .inl (m.step 22 hi (by omega) (.refl _) (rfl) (m.gq 22 hi (by decide)))))
   .obtain⟨o,q,v,c,y⟩:=g0;have B:a.eval (.tmp 32)= .pointer (some ⟨gb,0,none⟩):=m.sl 15 (by omega) (Zx W hi);have⟨z,s2⟩:∃z:Nat,a.eval (.tmp 37)= .int .i64 (z:Int):=m.sl 20 (by omega) (Zx X hi);have C:a.eval (.tmp 39)= .int .i64 (d:Int):=m.sl 22 (by omega) (Zx Y hi);refine Zt q (Wo y 147 (.tmp 32) (.tmp 37) (.tmp 39) _ _ _ c _ _ _ B s2 C f147 func147 (by kernel_rfl) (by kernel_rfl) _ (UU gb rb vb n (HE _ _ _ _ m.gn (by have:=X1l kd l (Db hi);omega) (by omega))) ?_);rintro r w1⟨l1,n1,p1,m1,D,E⟩;rw[v];exact .inl (m.step 23 hi (by omega) E ⟨l1,n1,p1,m1⟩ (by rw[X1j kd (Db hi),←Nat.add_assoc];exact D))
   .obtain⟨o,q,v,c,y⟩:=g2;have⟨l1,B,s2,C⟩:∃l,NR w (a.eval (.tmp 40)) l/\0<l.length/\l.length<=kd:=m.sl 23 (by omega) (Zx Z hi);obtain⟨g1,c1,F⟩:=B.form s2;rw[F]at B;exact Zt q (Ke y (H7 c F) (by rw[v];exact .inl (m.step 24 hi (by omega) (.of (bA _)) (⟨l1,pr1 B s2,s2,C⟩) ((m.gq 24 hi (by decide)).below (bA _)))))
   .obtain⟨o,q,v,c,y⟩:=g3;have⟨u,B⟩:∃u:XC,a.eval (.tmp 31)=ndV ⟨17,0,0,u.val,0⟩:=m.sl 14 (by omega) (Zx a1 hi);have⟨l1,s2,C,F⟩:∃l,PR w (a.eval (.tmp 41)) [l]/\0<l.length/\l.length<=kd:=m.sl 24 (by omega) (Zx a2 hi);refine Zt q (KL y 80 (.tmp 31) (.tmp 41) _ _ c _ _ B rfl f80 func80 (by kernel_rfl) (by kernel_rfl) _ (V1 (ZY ⟨17,0,0,u.val,0⟩ [l1] _ _ kd s2 (by rw[fl1];omega) (by omega) (by simp))) ?_);rintro r w1⟨l2,n1,p1,m1,b1⟩;rw[v];exact .inl (m.step 25 hi (by omega) (.of b1) ⟨l2,n1,p1,m1⟩ ((m.gq 25 hi (by decide)).below b1))
   .obtain⟨o,q,v,c,y⟩:=g4;have⟨l1,B,s2,C⟩:∃l,NR w (a.eval (.tmp 42)) l/\0<l.length/\l.length<=kd+1:=m.sl 25 (by omega) (Zx a3 hi);obtain⟨g1,c1,F⟩:=B.form s2;rw[F]at B;exact Zt q (Ke y (H7 c F) (by rw[v];exact .inl (m.step 26 hi (by omega) (.of (bA _)) (⟨_,_,l1,rfl,XV (base:=0) (e:=23) (size:=1) w #[_] 1 (X6 _) (by unfold maxLen;omega) rfl,B.below (bA _),s2,C⟩) ((m.gq 26 hi (by decide)).below (bA _)))))
   .obtain⟨o,q,v,c,y⟩:=g5;have s0:a.eval (.tmp 17)=pv:=m.sl 0 (by omega) (Zx a9 hi);have⟨g,u,l1,B,s2,C,F,s5⟩:∃(g:Nat) (u:Value) (l:List Nd),a.eval (.tmp 43)= .slice (some ⟨g,0,none⟩) 1 1/\w.ownsRow 0 23 1 (.slice (some ⟨g,0,none⟩) 1 1) 1 [u]/\NR w u l/\0<l.length/\l.length<=kd+1:=m.sl 26 (by omega) (Zx a4 hi);obtain⟨vs,d4,g7⟩:=m.pw;have e6:u.oneCell'=true:=by obtain⟨_,_,e⟩:=C.form F;rw[e];rfl
    have b0:=m.ty.size;refine Zt q (V7 y (.tmp 17) (.tmp 43) 138 c W0.heap.size 23 iP _ 1 24 underlying138 hP d8 d7 d6 rfl (by decide) pv ls.length vs s0 d4 ⟨g,0,none⟩ 1 1 [u] B rfl (JN s2 rfl) (by intro u' e5;obtain rfl:=QZ.1 e5;exact e6) (by unfold maxLen;omega) (by omega) b0 ?_);intro v5 w5 ra g8 rc rd;obtain⟨e1,a7⟩:=Y0x d4 g7 C F ra g8;rw[v];refine .inr (.inl ⟨(GH ..).trans m.sz,by rw[Jk (by omega)];exact m.n28,fun j hj=>(m.dn.step hi).all (Y5n d5) (L6 (Db hi)) (27-j) j (by omega),?_⟩);refine⟨(GH ..).trans m.asz,m.adf,fun t h1 h2=>by rw[RW,GG,X2 (by omega)];exact m.fr t h1 (by omega),l1,?_⟩;rw[PQ (by rw[m.asz];omega)];exact⟨e1,F,s5,a7.gn (m.gn.mono (by have:=Py kd l;omega)) e3,a7.tyM m.ty (X4 _)⟩
   .have:=Zx a5 hi;rw[m.n27]at this;cases this
  .have d3:A=28:=by
    have:=Db hi;rcases J0 A 28 with h|h
    .rw[b3 A (by omega)]at this;cases this
    .omega
   subst d3;obtain⟨o,q,v,c,y⟩:=g6;refine Zt q (Ke y (Y6v c) ?_);rw[v];refine .inr (.inr ⟨(GH ..).trans b1,fun j hj=>?_,⟨(GH ..).trans H.asz,H.adf,fun t h1 h2=>?_,?_⟩⟩)
   .by_cases e:j=28
    .rw[e];exact L6 b2
    .exact Sa (b3 j (by omega))
   .rw[RW,GG,X2 (by omega)];exact H.fr t h1 h2
   .rw[PQ (by rw[H.asz];omega)];exact H.o
  .exfalso;have:=Db hi;rw[b2 A (by omega)]at this;cases this
 .intro l a w hI hr;rcases hI with m|⟨b1,b2,b3,H⟩|⟨b1,b2,H⟩
  .have:=EI hr (by rw[m.sz,a6]) (Bn d2) 27 (by omega);rw[m.n27]at this;cases this
  .have:=EI hr (by rw[b1,a6]) (Bn d2) 28 (by omega);rw[b2]at this;cases this
  .exact hQ a w H
 .rw[a6];decide
 .rw[a6];refine⟨rfl,b0,rfl,fun _ _ _=>rfl,rfl,rfl,fun j o _ hl=>?_,fun j hj hl=>?_,e4,e2,e0⟩
  .have hf:=Kh.1 hl;obtain⟨_,hf⟩:=hf;rw[Array.getElem_replicate]at hf;cases hf
  .have hf:=Kh.1 hl;obtain⟨_,hf⟩:=hf;rw[Array.getElem_replicate]at hf;cases hf
theorem IU[LB]:¬XS (some 296):=by unfold XS;simp
theorem RA[LB]:¬XS (some 3):=by unfold XS;simp
structure FnK (gb rb B:Nat) (vf:Value) (m:Nat) (ys:List Value) (w:World):Prop where
 cell:w.cell? ⟨gb,2,none⟩=some vf
 row:w.ownsRow (rb+1) 296 4 vf m ys
 low:∀b,vf.ownBlock=some b->b<B
 fnc:∀i,i<m->∃(s:XC) (pv:Value) (ps:List Int) (f z:Int),ys[i*4]?=some (.string s)/\ys[i*4+1]?=some pv/\ys[i*4+2]?=some (.int .i64 f)/\ys[i*4+3]?=some (.int .i64 z)/\w.ownsRow 0 3 1 pv ps.length (ps.map (Value.int .i64))/\ps.length<=3/\0<=f/\f<=3/\∀b,pv.ownBlock=some b->b<B
theorem EO[LB]{w w':World}{base size:Nat}{e:TypeId}{v:Value}{n:Nat}{j:List Value}(h:w.ownsRow base e size v n j)(y:∀q,v.ownBlock=some q->w'.heap[q]?=w.heap[q]?):w'.ownsRow base e size v n j:=by
 refine⟨h.1,?_⟩;rcases h.2 with l|⟨d,a,c,g,r,t,u⟩
 .exact .inl l
 .exact .inr ⟨d,a,c,g,r,(y d (by rw[g];rfl)).trans t,u⟩
theorem FnK.XH[LB]{gb rb B:Nat}{vf:Value}{m:Nat}{ys:List Value}{w w':World}(h:FnK gb rb B vf m ys w)(A:w'.cell? ⟨gb,2,none⟩=w.cell? ⟨gb,2,none⟩)(g:∀b,b<B->b<w.heap.size->Xm w b=some 296\/Xm w b=some 3->w'.heap[b]?=w.heap[b]?):FnK gb rb B vf m ys w':=by
 refine⟨A.trans h.cell,EO h.row (fun q a=>g q (h.low q a) (h.row.lt q a).2 (.inl (Q5 h.row a))),h.low,fun i hi=>?_⟩;obtain⟨s,pv,ps,f,z,j,l,r,t,c,u,v,y,d⟩:=h.fnc i hi;exact⟨s,pv,ps,f,z,j,l,r,t,EO c (fun q a=>g q (d q a) (c.lt q a).2 (.inr (Q5 c a))),u,v,y,d⟩
theorem FnK.fn[LB]{gb rb B:Nat}{vf:Value}{m:Nat}{ys:List Value}{w:World}(h:FnK gb rb B vf m ys w)(u:m<=1000):∃v m ys,w.cell? ⟨gb,2,none⟩=some v/\w.ownsRow (rb+1) 296 4 v m ys/\m<=1000/\FnC w ys m:=
 ⟨vf,m,ys,h.cell,h.row,u,fun i hi=>by
  obtain⟨s,pv,ps,f,z,a,c,d,g,j,l,r,t,_⟩:=h.fnc i hi;exact⟨s,pv,ps,f,z,a,c,d,g,j,l,r,t⟩⟩
theorem Gn.other[LB]{gb rb:Nat}{vb:Value}{n q k:Nat}{w w':World}(h:Gn gb rb vb n q k w)(B:∀b,b<=rb->w'.heap[b]?=w.heap[b]?)(r:∀b,b<w.heap.size->Xm w b=some 150\/Xm w b=some 246->w'.heap[b]?=w.heap[b]?)(A:∃v m ys,w'.cell? ⟨gb,2,none⟩=some v/\w'.ownsRow (rb+1) 296 4 v m ys/\m<=1000/\FnC w' ys m):Gn gb rb vb n q k w':=by
 have g:=r gb h.lt (.inl h.ty);have d:∀j,w'.cell? ⟨gb,j,none⟩=w.cell? ⟨gb,j,none⟩:=fun j=>Xy (a:=⟨gb,j,none⟩) g;obtain⟨p,C,E⟩:=h.R;obtain⟨v,I,n1,n2,n3⟩:=h.nm;obtain⟨c,y,t⟩:=h.ct;obtain⟨z,H,l,u⟩:=h.sz;exact⟨⟨p,C,E.Uw B⟩,h.up,(Q6 g).trans h.ty,(d 0).trans h.c0,⟨v,I,(d 1).trans n1,KK n2 (fun q D F=>r q D (.inr F)),n3⟩,A,⟨c,y,(d 3).trans t⟩,⟨z,H,l,(d 4).trans u⟩,fun j=>(KU (a:=⟨gb,j,none⟩) g).trans (h.fr j),h.km⟩
section
variable (gb rb:Nat) (vb:Value) (n:Nat) (W0:World) (fb:Nat) (s:XC) (z:Int)
structure DS [LB] (vf:Value) (m:Nat) (ys:List Value) (q k:Nat) (free:Int) (pvv:Value) (ps:List Int) (pv:Value) (ls:List (List Nd)) (w:World):Prop where
 gn:Gn gb rb vb n q k w
 tf:Tf W0 w
 pw:PW W0.heap.size w pv ls
 box:w.heap[fb]?=some (.cells #[.string s,pvv,.int .i64 free,.int .i64 z] 296)
 Jv:w.ownsRow fb 3 1 pvv ps.length (ps.map (Value.int .i64))
 fk:FnK gb rb fb vf m ys w
 hm:m<=500
 lo:rb<W0.heap.size/\W0.heap.size<=fb
end
section
variable {gb rb:Nat} {vb:Value} {n:Nat} {W0:World} {fb:Nat} {s:XC} {z:Int} {vf:Value} {m:Nat} {ys:List Value} {q k:Nat} {free:Int} {pvv:Value} {ps:List Int} {pv:Value} {ls:List (List Nd)} {w w':World}
theorem CW[LB]{w:World}{b:Nat}{o:Obj}(h:w.heap[b]?=some o):b<w.heap.size:=by
 rcases J0 b w.heap.size with a|a
 .exact a
 .rw[U3 a]at h;cases h
theorem DS.flt[LB](h:DS gb rb vb n W0 fb s z vf m ys q k free pvv ps pv ls w):fb<w.heap.size:=CW h.box
theorem DS.fty[LB](h:DS gb rb vb n W0 fb s z vf m ys q k free pvv ps pv ls w):Xm w fb=some 296:=by unfold Xm;rw[h.box];rfl
theorem DS.ty[LB](h:DS gb rb vb n W0 fb s z vf m ys q k free pvv ps pv ls w)(a:Ty w w'){q' k':Nat}(g:Gn gb rb vb n q' k' w'):DS gb rb vb n W0 fb s z vf m ys q' k' free pvv ps pv ls w':=⟨g,h.tf.trans (Ty.tf a),h.pw.ty a,(a.block fb h.flt (by rw[h.fty];exact IU)).trans h.box,YL h.Jv a RA,h.fk.XH (a.two IU gb h.gn.lt h.gn.ty).2 (fun b _ d c=>a.block b d (by rcases c with e|e<;>rw[e];exact IU;exact RA)),h.hm,h.lo⟩
theorem DS.below[LB](h:DS gb rb vb n W0 fb s z vf m ys q k free pvv ps pv ls w)(a:BL w w'):DS gb rb vb n W0 fb s z vf m ys q k free pvv ps pv ls w':=h.ty (.of a) (h.gn.below a)
theorem DS.pf[LB](h:DS gb rb vb n W0 fb s z vf m ys q k free pvv ps pv ls w)(c:Pf W0.heap.size w w'){g:Value}{d:List (List Nd)}(r:PW W0.heap.size w' g d):DS gb rb vb n W0 fb s z vf m ys q k free pvv ps g d w':=⟨c.gn h.gn h.lo.1,c.tyM h.tf (X4 _),r,(c.block fb h.flt (.inr (by rw[h.fty];decide))).trans h.box,c.row h.Jv (by decide),h.fk.XH (Xy (a:=⟨gb,2,none⟩) (c.block gb h.gn.lt (.inr (by rw[h.gn.ty];decide)))) (fun b _ l j=>c.block b l (.inr (by rcases j with e|e<;>rw[e]<;>decide))),h.hm,h.lo⟩
theorem DS.cells[LB](h:DS gb rb vb n W0 fb s z vf m ys q k free pvv ps pv ls w):w.cell? ⟨fb,0,none⟩=some (.string s)/\w.cell? ⟨fb,1,none⟩=some pvv/\w.cell? ⟨fb,2,none⟩=some (.int .i64 free)/\w.cell? ⟨fb,3,none⟩=some (.int .i64 z)/\w.frozen? ⟨fb,1,none⟩=false/\w.frozen? ⟨fb,2,none⟩=false:=by
 refine⟨?_,?_,?_,?_,?_,?_⟩
 .rw[World.cell?,h.box];rfl
 .rw[World.cell?,h.box];rfl
 .rw[World.cell?,h.box];rfl
 .rw[World.cell?,h.box];rfl
 .rw[World.frozen?,h.box];simp
 .rw[World.frozen?,h.box];simp
theorem Bq[LB](gn:Gn gb rb vb n q k w)(tf:Tf W0 w)(pw:PW W0.heap.size w pv ls)(box:w.heap[fb]?=some (.cells #[.string s,pvv,.int .i64 free,.int .i64 z] 296))(r:FnK gb rb fb vf m ys w)(C:m<=500)(lo:rb<W0.heap.size/\W0.heap.size<=fb)(o:Nat)(v:Value){d:Int}{pvv':Value}{ps':List Int}(hbx:(#[.string s,pvv,.int .i64 free,.int .i64 z]:Array Value).setIfInBounds o v=#[.string s,pvv',.int .i64 d,.int .i64 z])(D:w.ownsRow fb 3 1 pvv' ps'.length (ps'.map (Value.int .i64))):DS gb rb vb n W0 fb s z vf m ys q k d pvv' ps' pv ls (w.setCell ⟨fb,o,none⟩ v):=by
 have fty:Xm w fb=some 296:=by unfold Xm;rw[box];rfl
 have l:∀b,b≠fb->(w.setCell ⟨fb,o,none⟩ v).heap[b]?=w.heap[b]?:=fun b t=>Y4 _ _ _ _ t;have y:gb≠fb:=fun e=>by have j:=gn.ty;rw[e,fty]at j;cases j
 have A:FnK gb rb fb vf m ys (w.setCell ⟨fb,o,none⟩ v):=r.XH (Xy (a:=⟨gb,2,none⟩) (l gb y)) (fun b t _ _=>l b (by omega));refine⟨gn.other (fun b t=>l b (by omega)) (fun b _ g=>l b (fun e=>by rw[e,fty]at g;rcases g with g|g<;>cases g)) (A.fn (by omega)),Uq tf lo.2,?_,?_,Kc D (by rw[fty];decide),A,C,lo⟩
 .obtain⟨E,j,B⟩:=pw;exact⟨E,Kc j (by rw[fty];decide),fun i hi=>by obtain⟨u,a,b,c⟩:=B i hi;exact⟨u,a,⟨Kc b.1 (by rw[fty];decide),b.2⟩,c⟩⟩
 .rw[Mo box,hbx]
theorem DS.Y1w[LB](h:DS gb rb vb n W0 fb s z vf m ys q k free pvv ps pv ls w)(a:Int):DS gb rb vb n W0 fb s z vf m ys q k a pvv ps pv ls (w.setCell ⟨fb,2,none⟩ (.int .i64 a)):=Bq h.gn h.tf h.pw h.box h.fk h.hm h.lo 2 _ rfl h.Jv
theorem DS.grown[LB](h:DS gb rb vb n W0 fb s z vf m ys q k free pvv ps pv ls w)(r:w.grownBy w' pvv.ownBlock){pvv':Value}{ps':List Int}(D:w'.ownsRow fb 3 1 pvv' ps'.length (ps'.map (Value.int .i64))):w'.heap[fb]?=w.heap[fb]?/\DS gb rb vb n W0 fb s z vf m ys q k free pvv' ps' pv ls (w'.setCell ⟨fb,1,none⟩ pvv'):=by
 have lo:=h.lo;have own:∀b,pvv.ownBlock=some b->fb<=b/\Xm w b=some 3:=fun b d=>⟨(h.Jv.lt b d).1,Q5 h.Jv d⟩;have g:∀b,b<w.heap.size->Xm w b≠some 3\/b<fb->w'.heap[b]?=w.heap[b]?:=fun b d v=>r.block b d (fun e=>by
  have:=own b e.symm;rcases v with v|v
  .exact v this.2
  .omega)
 have A:=g fb h.flt (.inl (by rw[h.fty];decide));refine⟨A,?_⟩;have y:=h.gn.lt;have B:FnK gb rb fb vf m ys w':=h.fk.XH (Xy (a:=⟨gb,2,none⟩) (g gb y (.inl (by rw[h.gn.ty];decide)))) (fun b d E _=>g b E (.inr d));have flt:=h.flt;have gn:Gn gb rb vb n q k w':=h.gn.other (fun b d=>g b (by omega) (.inr (by omega))) (fun b d t=>g b d (.inl (by rcases t with e|e<;>rw[e]<;>decide))) (B.fn (by have:=h.hm;omega))
 have tf:Tf W0 w':=⟨r.os.trans h.tf.os,r.tape.trans h.tf.tape,r.output.trans h.tf.output,XO h.tf.size r.size,fun b j l=>(g b (Xd j h.tf.size) (.inr (by omega))).trans (h.tf.block b j l),fun C=>absurd (.inr rfl) C,fun b j l=>(g b (Xd j h.tf.size) (.inr (by omega))).trans (h.tf.old b j l)⟩;have pw:PW W0.heap.size w' pv ls:=by
  obtain⟨F,j,l⟩:=h.pw;exact⟨F,KK j (fun b d t=>g b d (.inl (by rw[t];decide))),fun i hi=>by obtain⟨u,a,b,c⟩:=l i hi;exact⟨u,a,⟨KK b.1 (fun b d t=>g b d (.inl (by rw[t];decide))),b.2⟩,c⟩⟩
 exact Bq gn tf pw (A.trans h.box) B h.hm h.lo 1 pvv' rfl D
end
section
variable (gb rb:Nat) (vb:Value) (n:Nat) (W0:World) (fb:Nat) (s:XC) (z:Int)
structure DT [LB] (M q k:Nat) (free:Int) (pvv:Value) (ps:List Int) (pv:Value) (ls:List (List Nd)) (w:World):Prop where
 gn:Gn gb rb vb n q k w
 tf:Tf W0 w
 pw:PW W0.heap.size w pv ls
 box:w.heap[fb]?=some (.cells #[.string s,pvv,.int .i64 free,.int .i64 z] 296)
 Jv:w.ownsRow 0 3 1 pvv ps.length (ps.map (Value.int .i64))
 ne:∃p m c,m<=M/\w.cell? ⟨gb,2,none⟩=some (.slice p m c)/\(Value.slice p m c).ownBlock≠some fb
 lo:rb<W0.heap.size/\W0.heap.size<=fb
 okp:ps.length<=3/\0<=free/\free<=3
end
section
variable {gb rb:Nat} {vb:Value} {n:Nat} {W0:World} {fb:Nat} {s:XC} {z:Int} {M:Nat} {q k:Nat} {free:Int} {pvv:Value} {ps:List Int} {pv:Value} {ls:List (List Nd)} {w w':World}
theorem DS.dt[LB]{vf:Value}{m:Nat}{ys:List Value}(h:DS gb rb vb n W0 fb s z vf m ys q k free pvv ps pv ls w)(l:m<=M)(d:ps.length<=3)(g:0<=free)(j:free<=3):DT gb rb vb n W0 fb s z M q k free pvv ps pv ls w:=by
 obtain⟨p,c,a⟩:=XQ h.fk.row;refine⟨h.gn,h.tf,h.pw,h.box,QJ h.Jv (X6 _),⟨p,m,c,l,by rw[←a];exact h.fk.cell,fun e=>?_⟩,h.lo,d,g,j⟩;rw[←a]at e;have:=h.fk.low fb e;omega
theorem DT.flt[LB](h:DT gb rb vb n W0 fb s z M q k free pvv ps pv ls w):fb<w.heap.size:=CW h.box
theorem DT.fty[LB](h:DT gb rb vb n W0 fb s z M q k free pvv ps pv ls w):Xm w fb=some 296:=by unfold Xm;rw[h.box];rfl
theorem DT.ty[LB](h:DT gb rb vb n W0 fb s z M q k free pvv ps pv ls w)(a:Ty w w'){q' k':Nat}(l:Gn gb rb vb n q' k' w'):DT gb rb vb n W0 fb s z M q' k' free pvv ps pv ls w':=by
 obtain⟨p,m,c,d,g,j⟩:=h.ne;exact⟨l,h.tf.trans (Ty.tf a),h.pw.ty a,(a.block fb h.flt (by rw[h.fty];exact IU)).trans h.box,YL h.Jv a RA,⟨p,m,c,d,(a.two IU gb h.gn.lt h.gn.ty).2.trans g,j⟩,h.lo,h.okp⟩
theorem DT.below[LB](h:DT gb rb vb n W0 fb s z M q k free pvv ps pv ls w)(a:BL w w'):DT gb rb vb n W0 fb s z M q k free pvv ps pv ls w':=h.ty (.of a) (h.gn.below a)
theorem DT.pf[LB](h:DT gb rb vb n W0 fb s z M q k free pvv ps pv ls w)(d:Pf W0.heap.size w w'){j:Value}{g:List (List Nd)}(u:PW W0.heap.size w' j g):DT gb rb vb n W0 fb s z M q k free pvv ps j g w':=by
 obtain⟨p,m,c,l,r,t⟩:=h.ne;exact⟨d.gn h.gn h.lo.1,d.tyM h.tf (X4 _),u,(d.block fb h.flt (.inr (by rw[h.fty];decide))).trans h.box,d.row h.Jv (by decide),⟨p,m,c,l,(Xy (a:=⟨gb,2,none⟩) (d.block gb h.gn.lt (.inr (by rw[h.gn.ty];decide)))).trans r,t⟩,h.lo,h.okp⟩
theorem DT.mono[LB](h:DT gb rb vb n W0 fb s z M q k free pvv ps pv ls w){a:Nat}(l:M<=a):DT gb rb vb n W0 fb s z a q k free pvv ps pv ls w:=by
 obtain⟨p,m,c,j,d,g⟩:=h.ne;exact⟨h.gn,h.tf,h.pw,h.box,h.Jv,⟨p,m,c,by omega,d,g⟩,h.lo,h.okp⟩
theorem DT.cells[LB](h:DT gb rb vb n W0 fb s z M q k free pvv ps pv ls w):w.cell? ⟨fb,0,none⟩=some (.string s)/\w.cell? ⟨fb,1,none⟩=some pvv/\w.cell? ⟨fb,2,none⟩=some (.int .i64 free)/\w.cell? ⟨fb,3,none⟩=some (.int .i64 z):=by
 refine⟨?_,?_,?_,?_⟩
 .rw[World.cell?,h.box];rfl
 .rw[World.cell?,h.box];rfl
 .rw[World.cell?,h.box];rfl
 .rw[World.cell?,h.box];rfl
theorem DT.push[LB](h:DT gb rb vb n W0 fb s z M q k free pvv ps pv ls w)(hM:M<=900){v:Value}{m:Nat}{ys:List Value}(I:w.cell? ⟨gb,2,none⟩=some v)(j:w.ownsRow (rb+1) 296 4 v m ys)(L:FnC w ys m)(l:w.grownBy w' v.ownBlock){v':Value}(Z:w'.ownsRow (rb+1) 296 4 v' (m+1) (ys++[.string s,pvv,.int .i64 free,.int .i64 z]))(V:v'.ownBlock=v.ownBlock\/v'.ownBlock=some w.heap.size):w'.heap[gb]?=w.heap[gb]?/\DT gb rb vb n W0 fb s z (M+1) q k free pvv ps pv ls (w'.setCell ⟨gb,2,none⟩ v'):=by
 obtain⟨p,F,c,H,X,Y⟩:=h.ne;obtain rfl:v= .slice p F c:=by rw[X]at I;exact(YD I).symm
 obtain⟨_,_,hf⟩:=XQ j;obtain rfl:F=m:=by injection hf
 have own:∀b,(Value.slice p F c).ownBlock=some b->Xm w b=some 296/\b≠fb:=fun b d=>⟨Q5 j d,fun e=>Y (by rw[←e];exact d)⟩;have y:∀b,b<w.heap.size->Xm w b≠some 296\/b=fb->w'.heap[b]?=w.heap[b]?:=fun b d g=>l.block b d (fun e=>by
  have:=own b e.symm;rcases g with g|g
  .exact g this.1
  .exact this.2 g)
 have K:=y gb h.gn.lt (.inl (by rw[h.gn.ty];decide));have S:Xm w' gb=some 150:=(Q6 K).trans h.gn.ty;refine⟨K,?_⟩;have flt:=h.flt;have N:fb≠gb:=fun e=>by have H:=h.gn.ty;rw[←e,h.fty]at H;cases H
 have J:∀b,b≠gb->(w'.setCell ⟨gb,2,none⟩ v').heap[b]?=w'.heap[b]?:=fun b d=>Y4 _ _ _ _ d;have E:w'.ownsRow 0 3 1 pvv ps.length (ps.map (Value.int .i64)):=KK h.Jv (fun b d r=>y b d (.inl (by rw[r];decide)));have D:FnC w' (ys++[.string s,pvv,.int .i64 free,.int .i64 z]) (F+1):=(L.XH (fun b d r=>y b d (.inl (by rw[r];decide)))).snoc j.1 s pvv ps free z E h.okp.1 h.okp.2.1 h.okp.2.2;have gn:=h.gn.Y0v I l Z D (by omega);obtain⟨p',c',C⟩:=XQ Z;have a0:=l.size;refine⟨gn,?_,?_,(J fb N).trans ((y fb flt (.inr rfl)).trans h.box),Kc E (by rw[S];decide),⟨p',F+1,c',by omega,by rw[←C];exact JM _ _ _ ((Xy (a:=⟨gb,2,none⟩) K).trans I),?_⟩,h.lo,h.okp⟩
 .refine⟨((X5 0 w').setCell (p:=⟨gb,2,none⟩) (X6 _) v').os.trans (l.os.trans h.tf.os),((X5 0 w').setCell (p:=⟨gb,2,none⟩) (X6 _) v').tape.trans (l.tape.trans h.tf.tape),((X5 0 w').setCell (p:=⟨gb,2,none⟩) (X6 _) v').output.trans (l.output.trans h.tf.output),XO h.tf.size (XO l.size ((X5 0 w').setCell (p:=⟨gb,2,none⟩) (X6 _) v').size),fun b A B=>?_,fun hn=>absurd (.inr rfl) hn,fun b A B=>((J b (by have:=h.gn.lo;have:=h.gn.up;omega)).trans ((l.block b (Xd A h.tf.size) (fun e=>by have H:=(j.lt b e.symm).1;have X:=h.gn.lo;omega)).trans (h.tf.old b A B)))⟩;have W:=h.tf.block b A B;have t0:Xm w b=Xm W0 b:=Q6 W;have n1:Xm w b≠some 296:=fun e=>B (by rw[←t0,e];exact .inr rfl);have n2:b≠gb:=fun e=>B (by rw[←t0,e,h.gn.ty];exact .inl (.inr (.inl rfl)));exact(J b n2).trans ((y b (Xd A h.tf.size) (.inl n1)).trans W)
 .obtain⟨vs,r1,r2⟩:=h.pw;have ng:∀t,t≠296->t≠150->∀b,b<w.heap.size->Xm w b=some t->(w'.setCell ⟨gb,2,none⟩ v').heap[b]?=w.heap[b]?:=fun t P Q b d r=>(J b (fun e=>by rw[e,h.gn.ty]at r;exact Q (YD r).symm)).trans (y b d (.inl (by rw[r];exact fun e=>P (YD e))));exact⟨vs,KK r1 (ng _ (by decide) (by decide)),fun i hi=>by obtain⟨u,a,b,c⟩:=r2 i hi;exact⟨u,a,⟨KK b.1 (ng _ (by decide) (by decide)),b.2⟩,c⟩⟩
 .rw[←C];rcases V with e|e<;>rw[e]
  .exact Y
  .intro e2;have:=YD e2;omega
end
