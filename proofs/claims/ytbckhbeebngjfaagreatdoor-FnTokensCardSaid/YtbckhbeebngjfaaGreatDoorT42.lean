/- Cq. -/
import Derived.Test.YtbckhbeebngjfaaGreatDoorT41
import Derived.Test.YtbckhbeebngjfaaGreatDoorT39
import Derived.Test.YtbckhbeebngjfaaGreatDoorT33
namespace Go.Proofs.YtbckhbeebngjfaaGreatDoor
open Go.RowKit
section
variable {o:Oper} {a:Act} {w:World}
theorem x_move [Inhabited Bs] {x:Operand} (hop:o.op = .move x):(execOp a.eval o).run Tryz.prog w = .ok (.value (a.eval x)) w:=by
 unfold execOp;rw [hop];rfl
theorem x_assign [Inhabited Bs] {x:Operand} (hop:o.op = .assign x):(execOp a.eval o).run Tryz.prog w = .ok (.value (a.eval x)) w:=by
 unfold execOp;rw [hop];rfl
theorem x_nil [Inhabited Bs] {x:Operand} {p:Addr} (hop:o.op = .nilCheck x) (hx:a.eval x = .pointer (some p)):(execOp a.eval o).run Tryz.prog w = .ok (.value (.pointer (some p))) w:=by
 unfold execOp;rw [hop];simp only [hx];rfl
theorem x_field [Inhabited Bs] {x:Operand} {b:Nat} (hop:o.op = .fieldAddr 103 x 0) (hx:a.eval x = .pointer (some ⟨b,0,none⟩)):(execOp a.eval o).run Tryz.prog w = .ok (.value (.pointer (some ⟨b,0,none⟩))) w:=by
 unfold execOp;rw [hop];simp only [hx]
 go_simp
theorem x_loadP [Inhabited Bs] {x:Operand} {p:Addr} {v:Value} (hop:o.op = .load 32 x) (hx:a.eval x = .pointer (some p)) (hc:w.cell? p=some v):(execOp a.eval o).run Tryz.prog w = .ok (.value v) w:=by
 unfold execOp;rw [hop];simp only [hx]
 go_simp
theorem x_loadS [Inhabited Bs] {x:Operand} {p:Addr} {v:Value} (hop:o.op = .load 9 x) (hx:a.eval x = .pointer (some p)) (hc:w.cell? p=some v):(execOp a.eval o).run Tryz.prog w = .ok (.value v) w:=by
 unfold execOp;rw [hop];simp only [hx]
 go_simp
theorem x_idx [Inhabited Bs] {x y:Operand} {g n c z:Nat} (hop:o.op = .indexAddr 46 x y) (hx:a.eval x = .slice (some ⟨g,0,none⟩) n c) (hy:a.eval y = .int .i64 (z:Int)) (hz:z < n):(execOp a.eval o).run Tryz.prog w = .ok (.value (.pointer (some ⟨g,z,none⟩))) w:=by
 have h1:(z:Int) < (n:Int):=by omega
 unfold execOp;rw [hop];simp only [hx,hy]
 go_simp
theorem x_sub [Inhabited Bs] {x:Operand} {z:Int} (hop:o.op = .binOp .sub 3 x (.const (.int .i64 1)) 3) (hx:a.eval x = .int .i64 (z+1)) (hz:IntKind.i64.wrap z=z):(execOp a.eval o).run Tryz.prog w = .ok (.value (.int .i64 z)) w:=by
 have h1:a.eval (.const (.int .i64 1)) = .int .i64 1:=rfl
 unfold execOp;rw [hop];simp only [hx,h1]
 go_simp
theorem x_build [Inhabited Bs] {x:Operand} {u:ByteArray} (hop:o.op = .build 82 #[(0,.const (.int .i64 17)),(3,x)]) (hx:a.eval x = .string u):(execOp a.eval o).run Tryz.prog w = .ok (.value (ndV ⟨17,0,0,u,0⟩)) w:=by
 have h1:a.eval (.const (.int .i64 17)) = .int .i64 17:=rfl
 unfold execOp ndV;rw [hop];simp only [List.map_toArray,List.map_cons,List.map_nil,hx,h1]
 go_simp
theorem x_lit2 [Inhabited Bs] {u1 u2:ByteArray} (hop:o.op = .buildSlice 46 2 #[(0,.const (.string u1)),(1,.const (.string u2))]):(execOp a.eval o).run Tryz.prog w = .ok (.value (.slice (some ⟨w.heap.size,0,none⟩) 2 2)) (w.alloc (.cells #[.string u1,.string u2] 9)):=by
 have h1:a.eval (.const (.string u1)) = .string u1:=rfl
 have h2:a.eval (.const (.string u2)) = .string u2:=rfl
 unfold execOp;rw [hop];simp only [List.map_toArray,List.map_cons,List.map_nil,h1,h2]
 go_simp
theorem x_lit3 [Inhabited Bs] {x:Operand} {u1 u u2:ByteArray} (hop:o.op = .buildSlice 46 3 #[(0,.const (.string u1)),(1,x),(2,.const (.string u2))]) (hx:a.eval x = .string u):(execOp a.eval o).run Tryz.prog w = .ok (.value (.slice (some ⟨w.heap.size,0,none⟩) 3 3)) (w.alloc (.cells #[.string u1,.string u,.string u2] 9)):=by
 have h1:a.eval (.const (.string u1)) = .string u1:=rfl
 have h2:a.eval (.const (.string u2)) = .string u2:=rfl
 unfold execOp;rw [hop];simp only [List.map_toArray,List.map_cons,List.map_nil,h1,h2,hx]
 go_simp
theorem x_lit1 [Inhabited Bs] {x:Operand} {p:Option Addr} {n c:Nat} (hop:o.op = .buildSlice 94 1 #[(0,x)]) (hx:a.eval x = .slice p n c):(execOp a.eval o).run Tryz.prog w = .ok (.value (.slice (some ⟨w.heap.size,0,none⟩) 1 1)) (w.alloc (.cells #[.slice p n c] 48)):=by
 unfold execOp;rw [hop];simp only [List.map_toArray,List.map_cons,List.map_nil,hx]
 go_simp
end
theorem pushedG [Inhabited Bs] {B:Nat} {W W':World} {v v' u:Value} {l:List Tr.Nd} {ls:List (List Tr.Nd)} {vs:List Value} (h1:W.ownsRow B 48 1 v ls.length vs) (h2:∀ i (h:i < ls.length),∃ u,vs[i]?=some u∧NR W u ls[i]∧0 < ls[i].length) (hu:NR W u l) (hl:0 < l.length) (hx:W'.ownsRow B 48 1 v' (ls.length+1) (vs++[u])) (hg:W.grownBy W' v.ownBlock):PW B W' v' (ls++[l])∧Pf B W W':=by
 have hpf:Pf B W W':=⟨hg.os,hg.tape,hg.output,hg.size,fun b hq hc=>by
  refine hg.block b hq (fun e=>?_)
  have h3:=h1.lt b e.symm
  have h4:=row_tyAt h1 e.symm
  rcases hc with hc | hc
  ·omega
  ·exact hc h4⟩
 have hvl:vs.length=ls.length:=by have:=h1.1;omega
 refine ⟨⟨vs++[u],by rw [List.length_append];exact hx,fun i hi=>?_⟩,hpf⟩
 by_cases hk:i < ls.length
 ·obtain ⟨u',a,b,c⟩:=h2 i hk
  rw [List.getElem_append_left hk]
  exact ⟨u',by rw [List.getElem?_append_left (by omega)];exact a,hpf.nr b,c⟩
 ·have hi':i=ls.length:=by simp only [List.length_append,List.length_cons,List.length_nil] at hi;omega
  subst hi'
  have e:(ls++[l])[ls.length]'hi=l:=by simp
  rw [e]
  exact ⟨u,by rw [List.getElem?_append_right (by omega),hvl];simp,hpf.nr hu,hl⟩
theorem ms_str [Inhabited Bs]:¬ Mine (some 9):=by unfold Mine;simp
def RS (gb rb kd d i:Nat) (pv:Value):Nat→Value→World→Prop
 | 0,x,_=>x=pv
 | 1,x,w=>∃ g,x = .slice (some ⟨g,0,none⟩) 2 2∧w.ownsRow 0 9 1 (.slice (some ⟨g,0,none⟩) 2 2) 2 [.string ⟨#[98]⟩,.string ⟨#[95]⟩]
 | 2,x,_=>x = .pointer (some ⟨gb,0,none⟩)
 | 3,x,_=>x = .pointer (some ⟨gb,0,none⟩)
 | 4,x,_=>x = .pointer (some ⟨gb,0,none⟩)
 | 5,x,_=>x = .pointer (some ⟨rb,0,none⟩)
 | 6,x,_=>∃ z:Nat,z < 2∧x = .int .i64 (z:Int)
 | 7,x,w=>∃ g z:Nat,z < 2∧x = .pointer (some ⟨g,z,none⟩)∧w.ownsRow 0 9 1 (.slice (some ⟨g,0,none⟩) 2 2) 2 [.string ⟨#[98]⟩,.string ⟨#[95]⟩]
 | 8,x,_=>∃ u:Short,x = .string u.val
 | 9,x,w=>∃ (g:Nat) (u:Short),x = .slice (some ⟨g,0,none⟩) 3 3∧w.ownsRow 0 9 1 (.slice (some ⟨g,0,none⟩) 3 3) 3 [.string ⟨#[97]⟩,.string u.val,.string ⟨#[99,32,100]⟩]
 | 10,x,_=>x = .int .i64 ((i:Int)+1)
 | 11,x,_=>x = .int .i64 (i:Int)
 | 12,x,w=>∃ (g:Nat) (u:Short),x = .pointer (some ⟨g,i,none⟩)∧w.ownsRow 0 9 1 (.slice (some ⟨g,0,none⟩) 3 3) 3 [.string ⟨#[97]⟩,.string u.val,.string ⟨#[99,32,100]⟩]
 | 13,x,_=>∃ u:Short,x = .string u.val
 | 14,x,_=>∃ u:Short,x=ndV ⟨17,0,0,u.val,0⟩
 | 15,x,_=>x = .pointer (some ⟨gb,0,none⟩)
 | 16,x,_=>x = .pointer (some ⟨gb,0,none⟩)
 | 17,x,_=>x = .pointer (some ⟨gb,0,none⟩)
 | 18,x,_=>x = .pointer (some ⟨gb,0,none⟩)
 | 19,x,_=>x = .pointer (some ⟨rb,0,none⟩)
 | 20,x,_=>∃ z:Nat,x = .int .i64 (z:Int)
 | 21,x,_=>x = .int .i64 ((d:Int)+1)
 | 22,x,_=>x = .int .i64 (d:Int)
 | 23,x,w=>∃ l,NR w x l∧0 < l.length∧l.length≤kd
 | 24,x,w=>∃ l,PR w x [l]∧0 < l.length∧l.length≤kd
 | 25,x,w=>∃ l,NR w x l∧0 < l.length∧l.length≤kd+1
 | 26,x,w=>∃ (g:Nat) (u:Value) (l:List Tr.Nd),x = .slice (some ⟨g,0,none⟩) 1 1∧w.ownsRow 0 48 1 (.slice (some ⟨g,0,none⟩) 1 1) 1 [u]∧NR w u l∧0 < l.length∧l.length≤kd+1
 | _,_,_=>False
theorem RS.ty [Inhabited Bs] {gb rb kd d i:Nat} {pv:Value} {w w':World} (ht:Ty w w'):∀ (j:Nat) (x:Value),RS gb rb kd d i pv j x w→RS gb rb kd d i pv j x w'
 | 0,_,h=>by exact h
 | 1,_,h=>by obtain ⟨g,h1,h2⟩:=h;exact ⟨g,h1,row_ty h2 ht ms_str⟩
 | 2,_,h=>by exact h
 | 3,_,h=>by exact h
 | 4,_,h=>by exact h
 | 5,_,h=>by exact h
 | 6,_,h=>by exact h
 | 7,_,h=>by obtain ⟨g,z,h0,h1,h2⟩:=h;exact ⟨g,z,h0,h1,row_ty h2 ht ms_str⟩
 | 8,_,h=>by exact h
 | 9,_,h=>by obtain ⟨g,u,h1,h2⟩:=h;exact ⟨g,u,h1,row_ty h2 ht ms_str⟩
 | 10,_,h=>by exact h
 | 11,_,h=>by exact h
 | 12,_,h=>by obtain ⟨g,u,h1,h2⟩:=h;exact ⟨g,u,h1,row_ty h2 ht ms_str⟩
 | 13,_,h=>by exact h
 | 14,_,h=>by exact h
 | 15,_,h=>by exact h
 | 16,_,h=>by exact h
 | 17,_,h=>by exact h
 | 18,_,h=>by exact h
 | 19,_,h=>by exact h
 | 20,_,h=>by exact h
 | 21,_,h=>by exact h
 | 22,_,h=>by exact h
 | 23,_,h=>by obtain ⟨l,h1,h2⟩:=h;exact ⟨l,h1.ty ht,h2⟩
 | 24,_,h=>by obtain ⟨l,h1,h2⟩:=h;exact ⟨l,h1.ty ht,h2⟩
 | 25,_,h=>by obtain ⟨l,h1,h2⟩:=h;exact ⟨l,h1.ty ht,h2⟩
 | 26,_,h=>by obtain ⟨g,u,l,h1,h2,h3,h4⟩:=h;exact ⟨g,u,l,h1,row_ty h2 ht mine_nodes,h3.ty ht,h4⟩
def bq (kd:Nat) (l:Array Bool):Nat:=(if l[6]?=some true then 1 else 0)+(if l[20]?=some true then 1 else 0)+(if l[23]?=some true then kd else 0)
theorem bq_le [Inhabited Bs] (kd:Nat) (l:Array Bool):bq kd l≤2+kd:=by unfold bq;split <;> split <;> split <;> omega
theorem bq_le2 [Inhabited Bs] (kd:Nat) (l:Array Bool) (h:l[23]?=some false):bq kd l≤2:=by
 unfold bq
 rw [h,if_neg (show ¬ (some false=some true) by decide)]
 split <;> split <;> omega
theorem bq_o [Inhabited Bs] (kd:Nat) (l:Array Bool) {i:Nat} (h6:i≠6) (h20:i≠20) (h23:i≠23):bq kd (l.setIfInBounds i true)=bq kd l:=by
 unfold bq
 rw [set_other h6,set_other h20,set_other h23]
theorem bq_6 [Inhabited Bs] (kd:Nat) {l:Array Bool} (h:l[6]?=some false):bq kd (l.setIfInBounds 6 true)=bq kd l+1:=by
 unfold bq
 rw [set_here h,set_other (by decide),set_other (by decide),h,if_pos rfl,if_neg (show ¬ (some false=some true) by decide)]
 omega
theorem bq_20 [Inhabited Bs] (kd:Nat) {l:Array Bool} (h:l[20]?=some false):bq kd (l.setIfInBounds 20 true)=bq kd l+1:=by
 unfold bq
 rw [set_here h,set_other (by decide),set_other (by decide),h,if_pos rfl,if_neg (show ¬ (some false=some true) by decide)]
 omega
theorem bq_23 [Inhabited Bs] (kd:Nat) {l:Array Bool} (h:l[23]?=some false):bq kd (l.setIfInBounds 23 true)=bq kd l+kd:=by
 unfold bq
 rw [set_here h,set_other (by decide),set_other (by decide),h,if_pos rfl,if_neg (show ¬ (some false=some true) by decide)]
 omega
theorem mem_false [Inhabited Bs] {md:Region.Mode} {ops:Array Oper} {l:Array Bool} {i:Nat} (h:i∈Region.ready md ops l):l[i]?=some false:=by
 obtain ⟨_,_,h2,_⟩:=mem_readyI h
 exact h2
theorem put_tmps [Inhabited Bs] (a:Act) (t:Nat) (v:Value):(a.put (some t) v).tmps=a.tmps.setIfInBounds t v:=rfl
section
variable (gb rb:Nat) (vb:Value) (n:Nat) (ops:Array Oper) (a0:Act) (W0:World) (qq k kd d i:Nat) (pv:Value) (ls:List (List Tr.Nd))
structure RInv [Inhabited Bs] (l:Array Bool) (a:Act) (w:World):Prop where
 sz:l.size=29
 asz:a.tmps.size=48
 adf:a.defers=a0.defers
 fr:∀ t,t < 48→(t < 17∨44 < t)→a.tmps[t]?=a0.tmps[t]?
 n27:l[27]?=some false
 n28:l[28]?=some false
 dn:Down .any ops l
 sl:∀ j,j < 27→l[j]?=some true→RS gb rb kd d i pv j (a.eval (.tmp (17+j))) w
 ty:Ty W0 w
 pw:PW W0.heap.size w pv ls
 gn:Gn gb rb vb n (qq+bq kd l) k w
structure RFin [Inhabited Bs] (a:Act) (x:Value) (w:World):Prop where
 asz:a.tmps.size=48
 adf:a.defers=a0.defers
 fr:∀ t,t < 48→(t < 17∧t≠5∨44 < t)→a.tmps[t]?=a0.tmps[t]?
 out:∃ l,PW W0.heap.size w x (ls++[l])∧0 < l.length∧l.length≤kd+1∧Gn gb rb vb n (qq+(2+kd)) k w∧Ty W0 w
end
section
variable {gb rb:Nat} {vb:Value} {n:Nat} {ops:Array Oper} {a0:Act} {W0:World} {qq k kd d i:Nat} {pv:Value} {ls:List (List Tr.Nd)} {l:Array Bool} {a:Act} {w:World}
theorem RInv.ev [Inhabited Bs] (h:RInv gb rb vb n ops a0 W0 qq k kd d i pv ls l a w) (t:Nat) (ht:t < 17):a.eval (.tmp t)=a0.eval (.tmp t):=by
 show a.tmps.getD t undef=a0.tmps.getD t undef
 rw [Array.getD_eq_getD_getElem?,Array.getD_eq_getD_getElem?,h.fr t (by omega) (.inl ht)]
theorem RInv.gq [Inhabited Bs] (h:RInv gb rb vb n ops a0 W0 qq k kd d i pv ls l a w) (j:Nat) (_hi:j∈Region.ready .any ops l) (hj:j≠6∧j≠20∧j≠23):Gn gb rb vb n (qq+bq kd (l.setIfInBounds j true)) k w:=by
 rw [bq_o kd l hj.1 hj.2.1 hj.2.2]
 exact h.gn
theorem RInv.step [Inhabited Bs] (h:RInv gb rb vb n ops a0 W0 qq k kd d i pv ls l a w) (j:Nat) (hi:j∈Region.ready .any ops l) (hj:j < 27) {v:Value} {w':World} (ht:Ty w w') (hs:RS gb rb kd d i pv j v w') (hg:Gn gb rb vb n (qq+bq kd (l.setIfInBounds j true)) k w'):RInv gb rb vb n ops a0 W0 qq k kd d i pv ls (l.setIfInBounds j true) (a.put (some (17+j)) v) w':=by
 refine ⟨(Array.size_setIfInBounds ..).trans h.sz,(Array.size_setIfInBounds ..).trans h.asz,h.adf,fun t h1 h2=>?_,by rw [set_other (by omega)];exact h.n27,by rw [set_other (by omega)];exact h.n28,h.dn.step hi,fun m hm hl=>?_,h.ty.trans ht,h.pw.ty ht,hg⟩
 ·rw [put_tmps,Array.getElem?_setIfInBounds,if_neg (by omega)]
  exact h.fr t h1 h2
 ·by_cases e:j=m
  ·subst e
   rw [eval_same (by rw [h.asz];omega)]
   exact hs
  ·rw [set_other e] at hl
   rw [eval_other (by omega)]
   exact (h.sl m hm hl).ty ht
end
set_option maxHeartbeats 4000000 in
theorem rec_region [Inhabited Bs] {gb rb:Nat} {vb:Value} {n:Nat} {ops:Array Oper} {a0:Act} {W0:World} {qq k kd d i:Nat} {pv:Value} {ls:List (List Tr.Nd)} {Q:Exit→Act→World→Prop}
  (o0:IsOp ops 0 17 (Op.move (Operand.tmp 5)))
  (o1:IsOp ops 1 18 (Op.buildSlice 46 2 #[(0,Operand.const (Value.string ⟨#[98]⟩)),(1,Operand.const (Value.string ⟨#[95]⟩))]))
  (o2:IsOp ops 2 19 (Op.move (Operand.tmp 0)))
  (o3:IsOp ops 3 20 (Op.nilCheck (Operand.tmp 19)))
  (o4:IsOp ops 4 21 (Op.fieldAddr 103 (Operand.tmp 20) 0))
  (o5:IsOp ops 5 22 (Op.load 32 (Operand.tmp 21)))
  (o6:IsOp ops 6 23 (Op.call {callee:=Callee.value (Operand.func 8),args:=#[Operand.tmp 22,Operand.const (Value.int IntKind.i64 2)],argTypes:=#[32,3]}))
  (o7:IsOp ops 7 24 (Op.indexAddr 46 (Operand.tmp 18) (Operand.tmp 23)))
  (o8:IsOp ops 8 25 (Op.load 9 (Operand.tmp 24)))
  (o9:IsOp ops 9 26 (Op.buildSlice 46 3 #[(0,Operand.const (Value.string ⟨#[97]⟩)),(1,Operand.tmp 25),(2,Operand.const (Value.string ⟨#[99,32,100]⟩))]))
  (o10:IsOp ops 10 27 (Op.move (Operand.tmp 6)))
  (o11:IsOp ops 11 28 (Op.binOp BinOp.sub 3 (Operand.tmp 27) (Operand.const (Value.int IntKind.i64 1)) 3))
  (o12:IsOp ops 12 29 (Op.indexAddr 46 (Operand.tmp 26) (Operand.tmp 28)))
  (o13:IsOp ops 13 30 (Op.load 9 (Operand.tmp 29)))
  (o14:IsOp ops 14 31 (Op.build 82 #[(0,Operand.const (Value.int IntKind.i64 17)),(3,Operand.tmp 30)]))
  (o15:IsOp ops 15 32 (Op.move (Operand.tmp 0)))
  (o16:IsOp ops 16 33 (Op.move (Operand.tmp 0)))
  (o17:IsOp ops 17 34 (Op.nilCheck (Operand.tmp 33)))
  (o18:IsOp ops 18 35 (Op.fieldAddr 103 (Operand.tmp 34) 0))
  (o19:IsOp ops 19 36 (Op.load 32 (Operand.tmp 35)))
  (o20:IsOp ops 20 37 (Op.call {callee:=Callee.value (Operand.func 8),args:=#[Operand.tmp 36,Operand.const (Value.int IntKind.i64 5)],argTypes:=#[32,3]}))
  (o21:IsOp ops 21 38 (Op.move (Operand.tmp 1)))
  (o22:IsOp ops 22 39 (Op.binOp BinOp.sub 3 (Operand.tmp 38) (Operand.const (Value.int IntKind.i64 1)) 3))
  (o23:IsOp ops 23 40 (Op.call {callee:=Callee.value (Operand.func 83),args:=#[Operand.tmp 32,Operand.tmp 37,Operand.tmp 39],argTypes:=#[99,3,3]}))
  (o24:IsOp ops 24 41 (Op.buildSlice 94 1 #[(0,Operand.tmp 40)]))
  (o25:IsOp ops 25 42 (Op.call {callee:=Callee.value (Operand.func 61),args:=#[Operand.tmp 31,Operand.tmp 41],argTypes:=#[82,94]}))
  (o26:IsOp ops 26 43 (Op.buildSlice 94 1 #[(0,Operand.tmp 42)]))
  (o27:IsOp ops 27 44 (Op.call {callee:=Callee.builtin Builtin.append,args:=#[Operand.tmp 17,Operand.tmp 43],argTypes:=#[94,94]}))
  (o28:IsOp ops 28 5 (Op.assign (Operand.tmp 44)))
  (hos:ops.size=29) (hdp:depsB ops=true) (up27:upB .any ops 27=true)
  (e3_2:onB .any ops 3 2=true) (e4_3:onB .any ops 4 3=true) (e5_4:onB .any ops 5 4=true) (e6_5:onB .any ops 6 5=true) (e7_1:onB .any ops 7 1=true) (e7_6:onB .any ops 7 6=true) (e8_7:onB .any ops 8 7=true) (e9_8:onB .any ops 9 8=true) (e11_10:onB .any ops 11 10=true) (e12_9:onB .any ops 12 9=true) (e12_11:onB .any ops 12 11=true) (e13_12:onB .any ops 13 12=true) (e14_13:onB .any ops 14 13=true) (e17_16:onB .any ops 17 16=true) (e18_17:onB .any ops 18 17=true) (e19_18:onB .any ops 19 18=true) (e20_19:onB .any ops 20 19=true) (e22_21:onB .any ops 22 21=true) (e23_15:onB .any ops 23 15=true) (e23_20:onB .any ops 23 20=true) (e23_22:onB .any ops 23 22=true) (e24_23:onB .any ops 24 23=true) (e25_14:onB .any ops 25 14=true) (e25_24:onB .any ops 25 24=true) (e26_25:onB .any ops 26 25=true) (e27_0:onB .any ops 27 0=true) (e27_26:onB .any ops 27 26=true) (e28_27:onB .any ops 28 27=true)
  (HE:EAt gb rb vb n d kd) (hkd:kd≤1000000) (hqq:qq+2+kd≤700000000) (hk:k+d≤900) (hi3:i < 3) (hls:ls.length≤3) (hrw:rb < W0.heap.size)
  (h0:a0.eval (.tmp 0) = .pointer (some ⟨gb,0,none⟩)) (h1:a0.eval (.tmp 1) = .int .i64 ((d:Int)+1)) (h5:a0.eval (.tmp 5)=pv) (h6:a0.eval (.tmp 6) = .int .i64 ((i:Int)+1))
  (hQ:∀ a w,RFin gb rb vb n a0 W0 qq k kd ls a (a.eval (.tmp 5)) w→Q .normal a w)
  {w:World} (hsz:a0.tmps.size=48) (hty:Ty W0 w) (hpw:PW W0.heap.size w pv ls) (hgn:Gn gb rb vb n qq k w):wpAny Tryz.prog .any ops Q ops.size (Array.replicate ops.size false) a0 w:=by
 obtain ⟨iP,hP,hPz,hPs,hPb⟩:=info_parts Tryz.infoNdsC
 refine wpAny_inv (fun l a w=>RInv gb rb vb n ops a0 W0 qq k kd d i pv ls l a w∨(l.size=29∧l[28]?=some false∧(∀ j,j≤27→l[j]?=some true)∧RFin gb rb vb n a0 W0 qq k kd ls a (a.eval (.tmp 44)) w)∨(l.size=29∧(∀ j,j≤28→l[j]?=some true)∧RFin gb rb vb n a0 W0 qq k kd ls a (a.eval (.tmp 5)) w)) ?_ ?_ _ _ _ _ ?_ (.inl ?_)
 ·intro l a w hI i0 hi
  have hlt:i0 < 29:=by
   obtain ⟨o,ho,_⟩:=mem_readyI hi
   have:=(Array.getElem?_eq_some_iff.1 ho).1
   omega
  rcases hI with hA | ⟨b1,b2,b3,b4⟩ | ⟨b1,b2,b4⟩
  ·have hal:i0=0∨i0=1∨i0=2∨i0=3∨i0=4∨i0=5∨i0=6∨i0=7∨i0=8∨i0=9∨i0=10∨i0=11∨i0=12∨i0=13∨i0=14∨i0=15∨i0=16∨i0=17∨i0=18∨i0=19∨i0=20∨i0=21∨i0=22∨i0=23∨i0=24∨i0=25∨i0=26∨i0=27∨i0=28:=by omega
   rcases hal with rfl | rfl | rfl | rfl | rfl | rfl | rfl | rfl | rfl | rfl | rfl | rfl | rfl | rfl | rfl | rfl | rfl | rfl | rfl | rfl | rfl | rfl | rfl | rfl | rfl | rfl | rfl | rfl | rfl
   ·obtain ⟨o,ho,hd,hop,hg⟩:=o0
    exact wpOp_of ho (step_val hg (x_move hop) (by rw [hd];exact .inl (hA.step 0 hi (by omega) (.refl _) ((hA.ev 5 (by omega)).trans h5) (hA.gq 0 hi (by decide)))))
   ·obtain ⟨o,ho,hd,hop,hg⟩:=o1
    exact wpOp_of ho (step_val hg (x_lit2 hop) (by rw [hd];exact .inl (hA.step 1 hi (by omega) (.of (bA _)) (⟨_,rfl,World.ownsRow_lit (base:=0) (e:=9) (size:=1) w #[.string ⟨#[98]⟩,.string ⟨#[95]⟩] 2 (Nat.zero_le _) (by unfold maxLen;omega) rfl⟩) ((hA.gq 1 hi (by decide)).below (bA _)))))
   ·obtain ⟨o,ho,hd,hop,hg⟩:=o2
    exact wpOp_of ho (step_val hg (x_move hop) (by rw [hd];exact .inl (hA.step 2 hi (by omega) (.refl _) ((hA.ev 0 (by omega)).trans h0) (hA.gq 2 hi (by decide)))))
   ·obtain ⟨o,ho,hd,hop,hg⟩:=o3
    have s:a.eval (.tmp 19) = .pointer (some ⟨gb,0,none⟩):=hA.sl 2 (by omega) (onB_at e3_2 hi)
    exact wpOp_of ho (step_val hg (x_nil hop s) (by rw [hd];exact .inl (hA.step 3 hi (by omega) (.refl _) (rfl) (hA.gq 3 hi (by decide)))))
   ·obtain ⟨o,ho,hd,hop,hg⟩:=o4
    have s:a.eval (.tmp 20) = .pointer (some ⟨gb,0,none⟩):=hA.sl 3 (by omega) (onB_at e4_3 hi)
    exact wpOp_of ho (step_val hg (x_field hop s) (by rw [hd];exact .inl (hA.step 4 hi (by omega) (.refl _) (rfl) (hA.gq 4 hi (by decide)))))
   ·obtain ⟨o,ho,hd,hop,hg⟩:=o5
    have s:a.eval (.tmp 21) = .pointer (some ⟨gb,0,none⟩):=hA.sl 4 (by omega) (onB_at e5_4 hi)
    exact wpOp_of ho (step_val hg (x_loadP hop s hA.gn.c0) (by rw [hd];exact .inl (hA.step 5 hi (by omega) (.refl _) (rfl) (hA.gq 5 hi (by decide)))))
   ·obtain ⟨o,ho,hd,hop,hg⟩:=o6
    have s:a.eval (.tmp 22) = .pointer (some ⟨rb,0,none⟩):=hA.sl 5 (by omega) (onB_at e6_5 hi)
    refine wpOp_of ho (step_call2E hg 8 (.tmp 22) (.const (.int .i64 2)) _ _ hop _ (.int .i64 2) s rfl Tryz.f8 Tryz.func8 (by kernel_rfl) (by kernel_rfl) _ (pick_ex gb rb vb n hA.gn (by have:=bq_le kd l;omega) 2 (by omega) (by omega)) ?_)
    rintro r w1 ⟨z,hz,rfl,hg1,ht1⟩
    rw [hd]
    exact .inl (hA.step 6 hi (by omega) ht1 ⟨z,by omega,rfl⟩ (by rw [bq_6 kd (mem_false hi)];exact hg1))
   ·obtain ⟨o,ho,hd,hop,hg⟩:=o7
    have ⟨g,s1,s2⟩:∃ g,a.eval (.tmp 18) = .slice (some ⟨g,0,none⟩) 2 2∧w.ownsRow 0 9 1 (.slice (some ⟨g,0,none⟩) 2 2) 2 [.string ⟨#[98]⟩,.string ⟨#[95]⟩]:=hA.sl 1 (by omega) (onB_at e7_1 hi)
    have ⟨z,hz,s3⟩:∃ z:Nat,z < 2∧a.eval (.tmp 23) = .int .i64 (z:Int):=hA.sl 6 (by omega) (onB_at e7_6 hi)
    exact wpOp_of ho (step_val hg (x_idx hop s1 s3 hz) (by rw [hd];exact .inl (hA.step 7 hi (by omega) (.refl _) (⟨g,z,hz,rfl,s2⟩) (hA.gq 7 hi (by decide)))))
   ·obtain ⟨o,ho,hd,hop,hg⟩:=o8
    have ⟨g,z,hz,s1,s2⟩:∃ g z:Nat,z < 2∧a.eval (.tmp 24) = .pointer (some ⟨g,z,none⟩)∧w.ownsRow 0 9 1 (.slice (some ⟨g,0,none⟩) 2 2) 2 [.string ⟨#[98]⟩,.string ⟨#[95]⟩]:=hA.sl 7 (by omega) (onB_at e8_7 hi)
    obtain ⟨u,hu⟩:∃ u:Short,([.string ⟨#[98]⟩,.string ⟨#[95]⟩]:List Value)[z]?=some (.string u.val):=by
     have hz2:z=0∨z=1:=by omega
     rcases hz2 with rfl | rfl <;> exact ⟨⟨_,by exact Nat.le_of_ble_eq_true rfl⟩,rfl⟩
    exact wpOp_of ho (step_val hg (x_loadS hop s1 (row_cellsC s2 hu)) (by rw [hd];exact .inl (hA.step 8 hi (by omega) (.refl _) (⟨u,rfl⟩) (hA.gq 8 hi (by decide)))))
   ·obtain ⟨o,ho,hd,hop,hg⟩:=o9
    have ⟨u,s1⟩:∃ u:Short,a.eval (.tmp 25) = .string u.val:=hA.sl 8 (by omega) (onB_at e9_8 hi)
    exact wpOp_of ho (step_val hg (x_lit3 hop s1) (by rw [hd];exact .inl (hA.step 9 hi (by omega) (.of (bA _)) (⟨_,u,rfl,World.ownsRow_lit (base:=0) (e:=9) (size:=1) w #[.string ⟨#[97]⟩,.string u.val,.string ⟨#[99,32,100]⟩] 3 (Nat.zero_le _) (by unfold maxLen;omega) rfl⟩) ((hA.gq 9 hi (by decide)).below (bA _)))))
   ·obtain ⟨o,ho,hd,hop,hg⟩:=o10
    exact wpOp_of ho (step_val hg (x_move hop) (by rw [hd];exact .inl (hA.step 10 hi (by omega) (.refl _) ((hA.ev 6 (by omega)).trans h6) (hA.gq 10 hi (by decide)))))
   ·obtain ⟨o,ho,hd,hop,hg⟩:=o11
    have s:a.eval (.tmp 27) = .int .i64 ((i:Int)+1):=hA.sl 10 (by omega) (onB_at e11_10 hi)
    exact wpOp_of ho (step_val hg (x_sub hop s (by rw [IntKind.wrap_i64];omega)) (by rw [hd];exact .inl (hA.step 11 hi (by omega) (.refl _) (rfl) (hA.gq 11 hi (by decide)))))
   ·obtain ⟨o,ho,hd,hop,hg⟩:=o12
    have ⟨g,u,s1,s2⟩:∃ (g:Nat) (u:Short),a.eval (.tmp 26) = .slice (some ⟨g,0,none⟩) 3 3∧w.ownsRow 0 9 1 (.slice (some ⟨g,0,none⟩) 3 3) 3 [.string ⟨#[97]⟩,.string u.val,.string ⟨#[99,32,100]⟩]:=hA.sl 9 (by omega) (onB_at e12_9 hi)
    have s3:a.eval (.tmp 28) = .int .i64 (i:Int):=hA.sl 11 (by omega) (onB_at e12_11 hi)
    exact wpOp_of ho (step_val hg (x_idx hop s1 s3 (by omega)) (by rw [hd];exact .inl (hA.step 12 hi (by omega) (.refl _) (⟨g,u,rfl,s2⟩) (hA.gq 12 hi (by decide)))))
   ·obtain ⟨o,ho,hd,hop,hg⟩:=o13
    have ⟨g,u,s1,s2⟩:∃ (g:Nat) (u:Short),a.eval (.tmp 29) = .pointer (some ⟨g,i,none⟩)∧w.ownsRow 0 9 1 (.slice (some ⟨g,0,none⟩) 3 3) 3 [.string ⟨#[97]⟩,.string u.val,.string ⟨#[99,32,100]⟩]:=hA.sl 12 (by omega) (onB_at e13_12 hi)
    obtain ⟨u2,hu⟩:∃ u2:Short,([.string ⟨#[97]⟩,.string u.val,.string ⟨#[99,32,100]⟩]:List Value)[i]?=some (.string u2.val):=by
     have hz2:i=0∨i=1∨i=2:=by omega
     rcases hz2 with rfl | rfl | rfl
     ·exact ⟨⟨_,by exact Nat.le_of_ble_eq_true rfl⟩,rfl⟩
     ·exact ⟨u,rfl⟩
     ·exact ⟨⟨_,by exact Nat.le_of_ble_eq_true rfl⟩,rfl⟩
    exact wpOp_of ho (step_val hg (x_loadS hop s1 (row_cellsC s2 hu)) (by rw [hd];exact .inl (hA.step 13 hi (by omega) (.refl _) (⟨u2,rfl⟩) (hA.gq 13 hi (by decide)))))
   ·obtain ⟨o,ho,hd,hop,hg⟩:=o14
    have ⟨u,s1⟩:∃ u:Short,a.eval (.tmp 30) = .string u.val:=hA.sl 13 (by omega) (onB_at e14_13 hi)
    exact wpOp_of ho (step_val hg (x_build hop s1) (by rw [hd];exact .inl (hA.step 14 hi (by omega) (.refl _) (⟨u,rfl⟩) (hA.gq 14 hi (by decide)))))
   ·obtain ⟨o,ho,hd,hop,hg⟩:=o15
    exact wpOp_of ho (step_val hg (x_move hop) (by rw [hd];exact .inl (hA.step 15 hi (by omega) (.refl _) ((hA.ev 0 (by omega)).trans h0) (hA.gq 15 hi (by decide)))))
   ·obtain ⟨o,ho,hd,hop,hg⟩:=o16
    exact wpOp_of ho (step_val hg (x_move hop) (by rw [hd];exact .inl (hA.step 16 hi (by omega) (.refl _) ((hA.ev 0 (by omega)).trans h0) (hA.gq 16 hi (by decide)))))
   ·obtain ⟨o,ho,hd,hop,hg⟩:=o17
    have s:a.eval (.tmp 33) = .pointer (some ⟨gb,0,none⟩):=hA.sl 16 (by omega) (onB_at e17_16 hi)
    exact wpOp_of ho (step_val hg (x_nil hop s) (by rw [hd];exact .inl (hA.step 17 hi (by omega) (.refl _) (rfl) (hA.gq 17 hi (by decide)))))
   ·obtain ⟨o,ho,hd,hop,hg⟩:=o18
    have s:a.eval (.tmp 34) = .pointer (some ⟨gb,0,none⟩):=hA.sl 17 (by omega) (onB_at e18_17 hi)
    exact wpOp_of ho (step_val hg (x_field hop s) (by rw [hd];exact .inl (hA.step 18 hi (by omega) (.refl _) (rfl) (hA.gq 18 hi (by decide)))))
   ·obtain ⟨o,ho,hd,hop,hg⟩:=o19
    have s:a.eval (.tmp 35) = .pointer (some ⟨gb,0,none⟩):=hA.sl 18 (by omega) (onB_at e19_18 hi)
    exact wpOp_of ho (step_val hg (x_loadP hop s hA.gn.c0) (by rw [hd];exact .inl (hA.step 19 hi (by omega) (.refl _) (rfl) (hA.gq 19 hi (by decide)))))
   ·obtain ⟨o,ho,hd,hop,hg⟩:=o20
    have s:a.eval (.tmp 36) = .pointer (some ⟨rb,0,none⟩):=hA.sl 19 (by omega) (onB_at e20_19 hi)
    refine wpOp_of ho (step_call2E hg 8 (.tmp 36) (.const (.int .i64 5)) _ _ hop _ (.int .i64 5) s rfl Tryz.f8 Tryz.func8 (by kernel_rfl) (by kernel_rfl) _ (pick_ex gb rb vb n hA.gn (by have:=bq_le kd l;omega) 5 (by omega) (by omega)) ?_)
    rintro r w1 ⟨z,hz,rfl,hg1,ht1⟩
    rw [hd]
    exact .inl (hA.step 20 hi (by omega) ht1 ⟨z,rfl⟩ (by rw [bq_20 kd (mem_false hi)];exact hg1))
   ·obtain ⟨o,ho,hd,hop,hg⟩:=o21
    exact wpOp_of ho (step_val hg (x_move hop) (by rw [hd];exact .inl (hA.step 21 hi (by omega) (.refl _) ((hA.ev 1 (by omega)).trans h1) (hA.gq 21 hi (by decide)))))
   ·obtain ⟨o,ho,hd,hop,hg⟩:=o22
    have s:a.eval (.tmp 38) = .int .i64 ((d:Int)+1):=hA.sl 21 (by omega) (onB_at e22_21 hi)
    exact wpOp_of ho (step_val hg (x_sub hop s (by rw [IntKind.wrap_i64];omega)) (by rw [hd];exact .inl (hA.step 22 hi (by omega) (.refl _) (rfl) (hA.gq 22 hi (by decide)))))
   ·obtain ⟨o,ho,hd,hop,hg⟩:=o23
    have s1:a.eval (.tmp 32) = .pointer (some ⟨gb,0,none⟩):=hA.sl 15 (by omega) (onB_at e23_15 hi)
    have ⟨z,s2⟩:∃ z:Nat,a.eval (.tmp 37) = .int .i64 (z:Int):=hA.sl 20 (by omega) (onB_at e23_20 hi)
    have s3:a.eval (.tmp 39) = .int .i64 (d:Int):=hA.sl 22 (by omega) (onB_at e23_22 hi)
    refine wpOp_of ho (step_call3E hg 83 (.tmp 32) (.tmp 37) (.tmp 39) _ _ _ hop _ _ _ s1 s2 s3 Tryz.f83 Tryz.func83 (by kernel_rfl) (by kernel_rfl) _ (gmk_ex gb rb vb n (HE _ _ _ _ hA.gn (by have:=bq_le2 kd l (mem_false hi);omega) (by omega))) ?_)
    rintro r w1 ⟨l1,n1,p1,m1,hg1,ht1⟩
    rw [hd]
    exact .inl (hA.step 23 hi (by omega) ht1 ⟨l1,n1,p1,m1⟩ (by rw [bq_23 kd (mem_false hi),← Nat.add_assoc];exact hg1))
   ·obtain ⟨o,ho,hd,hop,hg⟩:=o24
    have ⟨l1,s1,s2,s3⟩:∃ l,NR w (a.eval (.tmp 40)) l∧0 < l.length∧l.length≤kd:=hA.sl 23 (by omega) (onB_at e24_23 hi)
    obtain ⟨g1,c1,s4⟩:=s1.form s2
    rw [s4] at s1
    exact wpOp_of ho (step_val hg (x_lit1 hop s4) (by rw [hd];exact .inl (hA.step 24 hi (by omega) (.of (bA _)) (⟨l1,pr1 s1 s2,s2,s3⟩) ((hA.gq 24 hi (by decide)).below (bA _)))))
   ·obtain ⟨o,ho,hd,hop,hg⟩:=o25
    have ⟨u,s1⟩:∃ u:Short,a.eval (.tmp 31)=ndV ⟨17,0,0,u.val,0⟩:=hA.sl 14 (by omega) (onB_at e25_14 hi)
    have ⟨l1,s2,s3,s4⟩:∃ l,PR w (a.eval (.tmp 41)) [l]∧0 < l.length∧l.length≤kd:=hA.sl 24 (by omega) (onB_at e25_24 hi)
    refine wpOp_of ho (step_call2E hg 61 (.tmp 31) (.tmp 41) _ _ hop _ _ s1 rfl Tryz.f61 Tryz.func61 (by kernel_rfl) (by kernel_rfl) _ (mk_ex (over_mk ⟨17,0,0,u.val,0⟩ [l1] _ _ kd s2 (by rw [fl1];omega) (by omega) (by simp))) ?_)
    rintro r w1 ⟨l2,n1,p1,m1,b1⟩
    rw [hd]
    exact .inl (hA.step 25 hi (by omega) (.of b1) ⟨l2,n1,p1,m1⟩ ((hA.gq 25 hi (by decide)).below b1))
   ·obtain ⟨o,ho,hd,hop,hg⟩:=o26
    have ⟨l1,s1,s2,s3⟩:∃ l,NR w (a.eval (.tmp 42)) l∧0 < l.length∧l.length≤kd+1:=hA.sl 25 (by omega) (onB_at e26_25 hi)
    obtain ⟨g1,c1,s4⟩:=s1.form s2
    rw [s4] at s1
    exact wpOp_of ho (step_val hg (x_lit1 hop s4) (by rw [hd];exact .inl (hA.step 26 hi (by omega) (.of (bA _)) (⟨_,_,l1,rfl,World.ownsRow_lit (base:=0) (e:=48) (size:=1) w #[_] 1 (Nat.zero_le _) (by unfold maxLen;omega) rfl,s1.below (bA _),s2,s3⟩) ((hA.gq 26 hi (by decide)).below (bA _)))))
   ·obtain ⟨o,ho,hd,hop,hg⟩:=o27
    have s0:a.eval (.tmp 17)=pv:=hA.sl 0 (by omega) (onB_at e27_0 hi)
    have ⟨g,u,l1,s1,s2,s3,s4,s5⟩:∃ (g:Nat) (u:Value) (l:List Tr.Nd),a.eval (.tmp 43) = .slice (some ⟨g,0,none⟩) 1 1∧w.ownsRow 0 48 1 (.slice (some ⟨g,0,none⟩) 1 1) 1 [u]∧NR w u l∧0 < l.length∧l.length≤kd+1:=hA.sl 26 (by omega) (onB_at e27_26 hi)
    obtain ⟨vs,pv1,pw1⟩:=hA.pw
    have hun:u.oneCell'=true:=by obtain ⟨_,_,e⟩:=s3.form s4;rw [e];rfl
    have hsz:=hA.ty.size
    refine wpOp_of ho (step_append_ownP hg (.tmp 17) (.tmp 43) 94 hop W0.heap.size 48 iP _ 1 24 Tryz.underlying94 hP hPz hPs hPb rfl (by decide) pv ls.length vs s0 pv1 ⟨g,0,none⟩ 1 1 [u] s1 rfl (World.ownsRow.cells s2 rfl) (by intro u' hu';obtain rfl:=List.mem_singleton.1 hu';exact hun) (by unfold maxLen;omega) (by omega) hsz ?_)
    intro v5 w5 ra rb_ rc rd
    obtain ⟨hp5,hpf5⟩:=pushedG pv1 pw1 s3 s4 ra rb_
    rw [hd]
    refine .inr (.inl ⟨(Array.size_setIfInBounds ..).trans hA.sz,by rw [set_other (by omega)];exact hA.n28,fun j hj=>(hA.dn.step hi).all (upB_at up27) (set_here (mem_false hi)) (27 - j) j (by omega),?_⟩)
    refine ⟨(Array.size_setIfInBounds ..).trans hA.asz,hA.adf,fun t h1 h2=>by rw [put_tmps,Array.getElem?_setIfInBounds,if_neg (by omega)];exact hA.fr t h1 (by omega),l1,?_⟩
    rw [eval_same (by rw [hA.asz];omega)]
    exact ⟨hp5,s4,s5,hpf5.gn (hA.gn.mono (by have:=bq_le kd l;omega)) hrw,hpf5.tyM hA.ty (Nat.le_refl _)⟩
   ·have:=onB_at e28_27 hi
    rw [hA.n27] at this
    cases this
  ·have hi28:i0=28:=by
    have:=mem_false hi
    rcases Nat.lt_or_ge i0 28 with h | h
    ·rw [b3 i0 (by omega)] at this;cases this
    ·omega
   subst hi28
   obtain ⟨o,ho,hd,hop,hg⟩:=o28
   refine wpOp_of ho (step_val hg (x_assign hop) ?_)
   rw [hd]
   refine .inr (.inr ⟨(Array.size_setIfInBounds ..).trans b1,fun j hj=>?_,⟨(Array.size_setIfInBounds ..).trans b4.asz,b4.adf,fun t h1 h2=>?_,?_⟩⟩)
   ·by_cases e:j=28
    ·rw [e];exact set_here b2
    ·exact set_keep (b3 j (by omega))
   ·rw [put_tmps,Array.getElem?_setIfInBounds,if_neg (by omega)]
    exact b4.fr t h1 h2
   ·rw [eval_same (by rw [b4.asz];omega)]
    exact b4.out
  ·exfalso
   have:=mem_false hi
   rw [b2 i0 (by omega)] at this
   cases this
 ·intro l a w hI hr
  rcases hI with hA | ⟨b1,b2,b3,b4⟩ | ⟨b1,b2,b4⟩
  ·have:=ready_full hr (by rw [hA.sz,hos]) (depsB_at hdp) 27 (by omega)
   rw [hA.n27] at this
   cases this
  ·have:=ready_full hr (by rw [b1,hos]) (depsB_at hdp) 28 (by omega)
   rw [b2] at this
   cases this
  ·exact hQ a w b4
 ·rw [hos]
  decide
 ·rw [hos]
  refine ⟨rfl,hsz,rfl,fun _ _ _=>rfl,rfl,rfl,fun j o _ hl=>?_,fun j hj hl=>?_,hty,hpw,hgn⟩
  ·have hf:=Array.getElem?_eq_some_iff.1 hl
   obtain ⟨_,hf⟩:=hf
   rw [Array.getElem_replicate] at hf
   cases hf
  ·have hf:=Array.getElem?_eq_some_iff.1 hl
   obtain ⟨_,hf⟩:=hf
   rw [Array.getElem_replicate] at hf
   cases hf
end Go.Proofs.YtbckhbeebngjfaaGreatDoor
