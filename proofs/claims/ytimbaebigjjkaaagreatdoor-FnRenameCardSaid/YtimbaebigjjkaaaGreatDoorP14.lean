/- Vb, Vh, Vi, Hl, Hq. -/
import Derived.Test.YtimbaebigjjkaaaGreatDoorP01
import Derived.Test.YtimbaebigjjkaaaGreatDoorP12
import Derived.Test.YtimbaebigjjkaaaGreatDoorP13
import Derived.Test.YtimbaebigjjkaaaGreatDoorP06
import Derived.Test.YtimbaebigjjkaaaGreatDoorP07
import Derived.Test.YtimbaebigjjkaaaGreatDoorP09
import Derived.Test.YtimbaebigjjkaaaGreatDoorP10
import Derived.Test.YtimbaebigjjkaaaGreatDoorP11
namespace Go.Proofs.YtimbaebigjjkaaaGreatDoor
open Go.RowKit
set_option maxRecDepth 100000 in
set_option maxHeartbeats 1000000 in
theorem plain_2 (op n m:Int) (s:ByteArray) (w:World):Calls Tryz.prog 53 #[.agg #[.int .i64 2,.int .i64 op,.int .i64 n,.string s,.int .i64 m]] w fun e w'=>e = .returned (.bool (X9 ⟨2,op,n,s,m⟩))∧Below w.heap.size w w':=by
 have q:Xn 2 16 21=false:=by decide
 go_enter Tryz.func53,Tryz.ntmps53
 go_wp2_with (first | (go_at_call 22;refine (YI _ _ _ _).mono ?_;rintro e w' ⟨rfl,rfl⟩) | (go_at_call 79;refine (ZZ _ _).mono ?_;rintro e w' ⟨rfl,rfl⟩) | (go_at_call 23;refine (YU _ _).mono ?_;rintro e w1 ⟨rfl,hb1⟩))
 all_goals
  go_ret
  refine ⟨X8 ?_,?_⟩
  ·first
   | (simp [X9,XA, *];done)
   | (simp [X9,XA, *];omega)
   | (exfalso;simp_all)
  ·first
   | exact bA _
   | exact (bA _).trans (hb1.mono (by simp))
set_option maxRecDepth 100000 in
set_option maxHeartbeats 1000000 in
theorem plain_3 (op n m:Int) (s:ByteArray) (w:World):Calls Tryz.prog 53 #[.agg #[.int .i64 3,.int .i64 op,.int .i64 n,.string s,.int .i64 m]] w fun e w'=>e = .returned (.bool (X9 ⟨3,op,n,s,m⟩))∧Below w.heap.size w w':=by
 have q:Xn 3 16 21=false:=by decide
 go_enter Tryz.func53,Tryz.ntmps53
 go_wp2_with (first | (go_at_call 22;refine (YI _ _ _ _).mono ?_;rintro e w' ⟨rfl,rfl⟩) | (go_at_call 79;refine (ZZ _ _).mono ?_;rintro e w' ⟨rfl,rfl⟩) | (go_at_call 23;refine (YU _ _).mono ?_;rintro e w1 ⟨rfl,hb1⟩))
 all_goals
  go_ret
  refine ⟨X8 ?_,?_⟩
  ·first
   | (simp [X9,XA, *];done)
   | (simp [X9,XA, *];omega)
   | (exfalso;simp_all)
  ·first
   | exact bA _
   | exact (bA _).trans (hb1.mono (by simp))
set_option maxRecDepth 100000 in
set_option maxHeartbeats 1000000 in
theorem plain_4 (op n m:Int) (s:ByteArray) (w:World):Calls Tryz.prog 53 #[.agg #[.int .i64 4,.int .i64 op,.int .i64 n,.string s,.int .i64 m]] w fun e w'=>e = .returned (.bool (X9 ⟨4,op,n,s,m⟩))∧Below w.heap.size w w':=by
 go_enter Tryz.func53,Tryz.ntmps53
 go_wp2_with (first | (go_at_call 22;refine (YI _ _ _ _).mono ?_;rintro e w' ⟨rfl,rfl⟩) | (go_at_call 79;refine (ZZ _ _).mono ?_;rintro e w' ⟨rfl,rfl⟩) | (go_at_call 23;refine (YU _ _).mono ?_;rintro e w1 ⟨rfl,hb1⟩))
 all_goals
  go_ret
  refine ⟨X8 ?_,?_⟩
  ·first
   | (simp [X9,XA, *];done)
   | (simp [X9,XA, *];omega)
   | (exfalso;simp_all)
  ·first
   | exact bA _
   | exact (bA _).trans (hb1.mono (by simp))
set_option maxRecDepth 100000 in
set_option maxHeartbeats 1000000 in
theorem plain_5 (op n m:Int) (s:ByteArray) (w:World):Calls Tryz.prog 53 #[.agg #[.int .i64 5,.int .i64 op,.int .i64 n,.string s,.int .i64 m]] w fun e w'=>e = .returned (.bool (X9 ⟨5,op,n,s,m⟩))∧Below w.heap.size w w':=by
 go_enter Tryz.func53,Tryz.ntmps53
 go_wp2_with (first | (go_at_call 22;refine (YI _ _ _ _).mono ?_;rintro e w' ⟨rfl,rfl⟩) | (go_at_call 79;refine (ZZ _ _).mono ?_;rintro e w' ⟨rfl,rfl⟩) | (go_at_call 23;refine (YU _ _).mono ?_;rintro e w1 ⟨rfl,hb1⟩))
 all_goals
  go_ret
  refine ⟨X8 ?_,?_⟩
  ·first
   | (simp [X9,XA, *];done)
   | (simp [X9,XA, *];omega)
   | (exfalso;simp_all)
  ·first
   | exact bA _
   | exact (bA _).trans (hb1.mono (by simp))
set_option maxRecDepth 100000 in
set_option maxHeartbeats 1000000 in
theorem plain_11 (op n m:Int) (s:ByteArray) (w:World):Calls Tryz.prog 53 #[.agg #[.int .i64 11,.int .i64 op,.int .i64 n,.string s,.int .i64 m]] w fun e w'=>e = .returned (.bool (X9 ⟨11,op,n,s,m⟩))∧Below w.heap.size w w':=by
 go_enter Tryz.func53,Tryz.ntmps53
 go_wp2_with (first | (go_at_call 22;refine (YI _ _ _ _).mono ?_;rintro e w' ⟨rfl,rfl⟩) | (go_at_call 79;refine (ZZ _ _).mono ?_;rintro e w' ⟨rfl,rfl⟩) | (go_at_call 23;refine (YU _ _).mono ?_;rintro e w1 ⟨rfl,hb1⟩))
 all_goals
  go_ret
  refine ⟨X8 ?_,?_⟩
  ·first
   | (simp [X9,XA, *];done)
   | (simp [X9,XA, *];omega)
   | (exfalso;simp_all)
  ·first
   | exact bA _
   | exact (bA _).trans (hb1.mono (by simp))
set_option maxRecDepth 100000 in
set_option maxHeartbeats 1000000 in
theorem plain_14 (op n m:Int) (s:ByteArray) (w:World):Calls Tryz.prog 53 #[.agg #[.int .i64 14,.int .i64 op,.int .i64 n,.string s,.int .i64 m]] w fun e w'=>e = .returned (.bool (X9 ⟨14,op,n,s,m⟩))∧Below w.heap.size w w':=by
 go_enter Tryz.func53,Tryz.ntmps53
 go_wp2_with (first | (go_at_call 22;refine (YI _ _ _ _).mono ?_;rintro e w' ⟨rfl,rfl⟩) | (go_at_call 79;refine (ZZ _ _).mono ?_;rintro e w' ⟨rfl,rfl⟩) | (go_at_call 23;refine (YU _ _).mono ?_;rintro e w1 ⟨rfl,hb1⟩))
 all_goals
  go_ret
  refine ⟨X8 ?_,?_⟩
  ·first
   | (simp [X9,XA, *];done)
   | (simp [X9,XA, *];omega)
   | (exfalso;simp_all)
  ·first
   | exact bA _
   | exact (bA _).trans (hb1.mono (by simp))
set_option maxRecDepth 100000 in
set_option maxHeartbeats 1000000 in
theorem plain_6 (op n m:Int) (s:ByteArray) (w:World):Calls Tryz.prog 53 #[.agg #[.int .i64 6,.int .i64 op,.int .i64 n,.string s,.int .i64 m]] w fun e w'=>e = .returned (.bool (X9 ⟨6,op,n,s,m⟩))∧Below w.heap.size w w':=by
 have q:Xn 6 16 21=false:=by decide
 go_enter Tryz.func53,Tryz.ntmps53
 go_wp2_with (first | (go_at_call 22;refine (YI _ _ _ _).mono ?_;rintro e w' ⟨rfl,rfl⟩) | (go_at_call 79;refine (ZZ _ _).mono ?_;rintro e w' ⟨rfl,rfl⟩) | (go_at_call 23;refine (YU _ _).mono ?_;rintro e w1 ⟨rfl,hb1⟩))
 all_goals
  go_ret
  refine ⟨X8 ?_,?_⟩
  ·first
   | (simp [X9,XA, *];done)
   | (simp [X9,XA, *];omega)
   | (exfalso;simp_all)
  ·first
   | exact bA _
   | exact (bA _).trans (hb1.mono (by simp))
set_option maxRecDepth 100000 in
set_option maxHeartbeats 1000000 in
theorem plain_7 (op n m:Int) (s:ByteArray) (w:World):Calls Tryz.prog 53 #[.agg #[.int .i64 7,.int .i64 op,.int .i64 n,.string s,.int .i64 m]] w fun e w'=>e = .returned (.bool (X9 ⟨7,op,n,s,m⟩))∧Below w.heap.size w w':=by
 have q:Xn 7 16 21=false:=by decide
 go_enter Tryz.func53,Tryz.ntmps53
 go_wp2_with (first | (go_at_call 22;refine (YI _ _ _ _).mono ?_;rintro e w' ⟨rfl,rfl⟩) | (go_at_call 79;refine (ZZ _ _).mono ?_;rintro e w' ⟨rfl,rfl⟩) | (go_at_call 23;refine (YU _ _).mono ?_;rintro e w1 ⟨rfl,hb1⟩))
 all_goals
  go_ret
  refine ⟨X8 ?_,?_⟩
  ·first
   | (simp [X9,XA, *];done)
   | (simp [X9,XA, *];omega)
   | (exfalso;simp_all)
  ·first
   | exact bA _
   | exact (bA _).trans (hb1.mono (by simp))
set_option maxRecDepth 100000 in
set_option maxHeartbeats 1000000 in
theorem plain_17 (op n m:Int) (s:ByteArray) (w:World):Calls Tryz.prog 53 #[.agg #[.int .i64 17,.int .i64 op,.int .i64 n,.string s,.int .i64 m]] w fun e w'=>e = .returned (.bool (X9 ⟨17,op,n,s,m⟩))∧Below w.heap.size w w':=by
 have q:Xn 17 16 21=true:=by decide
 go_enter Tryz.func53,Tryz.ntmps53
 go_wp2_with (first | (go_at_call 22;refine (YI _ _ _ _).mono ?_;rintro e w' ⟨rfl,rfl⟩) | (go_at_call 79;refine (ZZ _ _).mono ?_;rintro e w' ⟨rfl,rfl⟩) | (go_at_call 23;refine (YU _ _).mono ?_;rintro e w1 ⟨rfl,hb1⟩))
 all_goals
  go_ret
  refine ⟨X8 ?_,?_⟩
  ·first
   | (simp [X9,XA, *];done)
   | (simp [X9,XA, *];omega)
   | (exfalso;simp_all)
  ·first
   | exact bA _
   | exact (bA _).trans (hb1.mono (by simp))
set_option maxRecDepth 100000 in
set_option maxHeartbeats 1000000 in
theorem plain_23 (op n m:Int) (s:ByteArray) (w:World):Calls Tryz.prog 53 #[.agg #[.int .i64 23,.int .i64 op,.int .i64 n,.string s,.int .i64 m]] w fun e w'=>e = .returned (.bool (X9 ⟨23,op,n,s,m⟩))∧Below w.heap.size w w':=by
 have q:Xn 23 16 21=false:=by decide
 go_enter Tryz.func53,Tryz.ntmps53
 go_wp2_with (first | (go_at_call 22;refine (YI _ _ _ _).mono ?_;rintro e w' ⟨rfl,rfl⟩) | (go_at_call 79;refine (ZZ _ _).mono ?_;rintro e w' ⟨rfl,rfl⟩) | (go_at_call 23;refine (YU _ _).mono ?_;rintro e w1 ⟨rfl,hb1⟩))
 all_goals
  go_ret
  refine ⟨X8 ?_,?_⟩
  ·first
   | (simp [X9,XA, *];done)
   | (simp [X9,XA, *];omega)
   | (exfalso;simp_all)
  ·first
   | exact bA _
   | exact (bA _).trans (hb1.mono (by simp))
set_option maxRecDepth 100000 in
set_option maxHeartbeats 1000000 in
theorem plain_in (k op n m:Int) (s:ByteArray) (w:World) (hk1:Xn k 16 21=true) (hk2:k≠17):Calls Tryz.prog 53 #[.agg #[.int .i64 k,.int .i64 op,.int .i64 n,.string s,.int .i64 m]] w fun e w'=>e = .returned (.bool (X9 ⟨k,op,n,s,m⟩))∧Below w.heap.size w w':=by
 obtain ⟨q1,q2⟩:=Zh hk1
 have n2:k≠2:=by omega
 have n3:k≠3:=by omega
 have n4:k≠4:=by omega
 have n6:k≠6:=by omega
 have n7:k≠7:=by omega
 have n23:k≠23:=by omega
 by_cases h2:op=0
 all_goals
  go_enter Tryz.func53,Tryz.ntmps53
  go_wp2_with (first | (go_at_call 22;refine (YI _ _ _ _).mono ?_;rintro e w' ⟨rfl,rfl⟩) | (go_at_call 79;refine (ZZ _ _).mono ?_;rintro e w' ⟨rfl,rfl⟩) | (go_at_call 23;refine (YU _ _).mono ?_;rintro e w1 ⟨rfl,hb1⟩))
 all_goals
  go_ret
  refine ⟨X8 ?_,?_⟩
  ·first
   | (simp [X9,XA, *];done)
   | (simp [X9,XA, *];omega)
   | (exfalso;simp_all)
  ·first
   | exact bA _
   | exact (bA _).trans (hb1.mono (by simp))
set_option maxRecDepth 100000 in
set_option maxHeartbeats 1000000 in
theorem plain_out (k op n m:Int) (s:ByteArray) (w:World) (hk1:Xn k 16 21=false) (hk:k≠2∧k≠3∧k≠4∧k≠5∧k≠11∧k≠14∧k≠6∧k≠7∧k≠17∧k≠23):Calls Tryz.prog 53 #[.agg #[.int .i64 k,.int .i64 op,.int .i64 n,.string s,.int .i64 m]] w fun e w'=>e = .returned (.bool (X9 ⟨k,op,n,s,m⟩))∧Below w.heap.size w w':=by
 obtain ⟨hk2,hk3,hk4,hk5,hk11,hk14,hk6,hk7,hk17,hk23⟩:=hk
 by_cases h2:op=0
 all_goals
  go_enter Tryz.func53,Tryz.ntmps53
  go_wp2_with (first | (go_at_call 22;refine (YI _ _ _ _).mono ?_;rintro e w' ⟨rfl,rfl⟩) | (go_at_call 79;refine (ZZ _ _).mono ?_;rintro e w' ⟨rfl,rfl⟩) | (go_at_call 23;refine (YU _ _).mono ?_;rintro e w1 ⟨rfl,hb1⟩))
 all_goals
  go_ret
  refine ⟨X8 ?_,?_⟩
  ·first
   | (simp [X9,XA, *];done)
   | (simp [X9,XA, *];omega)
   | (exfalso;simp_all)
  ·first
   | exact bA _
   | exact (bA _).trans (hb1.mono (by simp))
theorem plain_any (k op n m:Int) (s:ByteArray) (w:World):Calls Tryz.prog 53 #[.agg #[.int .i64 k,.int .i64 op,.int .i64 n,.string s,.int .i64 m]] w fun e w'=>e = .returned (.bool (X9 ⟨k,op,n,s,m⟩))∧Below w.heap.size w w':=by
 rcases Tr.kinds k with rfl | rfl | rfl | rfl | rfl | rfl | rfl | rfl | rfl | rfl | ⟨hk1,hk2⟩ | ⟨_,hk1,hk⟩
 ·exact plain_2 op n m s w
 ·exact plain_3 op n m s w
 ·exact plain_4 op n m s w
 ·exact plain_5 op n m s w
 ·exact plain_11 op n m s w
 ·exact plain_14 op n m s w
 ·exact plain_6 op n m s w
 ·exact plain_7 op n m s w
 ·exact plain_17 op n m s w
 ·exact plain_23 op n m s w
 ·exact plain_in k op n m s w hk1 hk2
 ·exact plain_out k op n m s w hk1 hk
theorem kidsOk_any (kind:Int) (ns:List Tr.Nd) (ls:List Nat) (tg tc g c:Nat) (w:World) (hl:ls.length≤1048576) (ht:NodesAt w tg ns) (hi:IntsAt w g 0 ls) (hin:∀ x∈ls,x < ns.length) (hcap:ls.length≤c) :
  Calls Tryz.prog 54 #[.agg #[.slice (some ⟨tg,0,none⟩) ns.length tc],.int .i64 kind,.slice (some ⟨g,0,none⟩) ls.length c] w fun e w'=>e = .returned (.bool (Xm ns kind ls))∧Below w.heap.size w w':=by
 by_cases h0:kind < 1∨24 < kind
 ·exact kidsOk_other kind ns ls tg tc g c w hl ht hi hin h0
 by_cases h9:kind=9
 ·exact kidsOk_9 kind ns ls tg tc g c w hl ht hi hin h9
 by_cases h12:kind=12
 ·exact kidsOk_12 kind ns ls tg tc g c w hl ht hi hin h12 hcap
 by_cases h15:kind=15∨kind=20
 ·exact kidsOk_fn kind ns ls tg tc g c w hl ht hi hin h15
 by_cases h23:kind=23
 ·exact kidsOk_23 kind ns ls tg tc g c w hl ht hi hin h23
 by_cases h24:kind=24
 ·exact kidsOk_24 kind ns ls tg tc g c w hl ht hi hin h24
 exact kidsOk_simple kind ns ls tg tc g c w hl ht hi hin (by omega)
theorem Tr.krun_lt (ns:List Tr.Nd) (i:Nat) (op:List Nat) (h:∀ x∈op,x < i):∀ j ks,(Xw ns i op).1[j]?=some ks→∀ x∈ks,x < i+j:=by
 induction ns generalizing i op with
 | nil=>intro j ks hj;simp [Xw] at hj
 | cons d r ih =>
  intro j ks hj x hx
  by_cases hk:d.kids < 0∨(op.length:Int) < d.kids
  ·simp [Xw,hk] at hj
  ·have e:(Xw (d :: r) i op).1=op.drop (op.length - d.kids.toNat) :: (Xw r (i+1) (op.take (op.length - d.kids.toNat)++[i])).1:=by
    rw [Xw,if_neg hk]
   have hop:∀ x∈op.take (op.length - d.kids.toNat)++[i],x < i+1:=by
    intro y hy
    rcases List.mem_append.1 hy with hy | hy
    ·have:=h y (List.mem_of_mem_take hy);omega
    ·have:y=i:=by simpa using hy
     omega
   rw [e] at hj
   cases j with
   | zero =>
    rw [List.getElem?_cons_zero] at hj
    cases hj
    exact h x (List.mem_of_mem_drop hx)
   | succ j =>
    rw [List.getElem?_cons_succ] at hj
    have:=ih (i+1) _ hop j ks hj x hx
    omega
theorem K5 (ns:List Tr.Nd) (j:Nat) (hj:j < (Xf ns).length):∀ x∈(Xf ns)[j],x < j:=by
 intro x hx
 have:=Tr.krun_lt ns 0 [] (fun x h=>by cases h) j _ (List.getElem?_eq_getElem hj) x hx
 omega
theorem Tr.krun_short (ns:List Tr.Nd) (i:Nat) (op:List Nat):∀ j ks,(Xw ns i op).1[j]?=some ks→ks.length≤op.length+j:=by
 induction ns generalizing i op with
 | nil=>intro j ks hj;simp [Xw] at hj
 | cons d r ih =>
  intro j ks hj
  by_cases hk:d.kids < 0∨(op.length:Int) < d.kids
  ·simp [Xw,hk] at hj
  ·have e:(Xw (d :: r) i op).1=op.drop (op.length - d.kids.toNat) :: (Xw r (i+1) (op.take (op.length - d.kids.toNat)++[i])).1:=by
    rw [Xw,if_neg hk]
   rw [e] at hj
   cases j with
   | zero =>
    rw [List.getElem?_cons_zero] at hj
    cases hj
    simp
   | succ j =>
    rw [List.getElem?_cons_succ] at hj
    have:=ih (i+1) _ j ks hj
    simp at this
    omega
theorem Jn (ns:List Tr.Nd) (j:Nat) (hj:j < (Xf ns).length):((Xf ns)[j]).length≤j:=by
 have:=Tr.krun_short ns 0 [] j _ (List.getElem?_eq_getElem hj)
 simpa using this
theorem Tr.krun_len (ns:List Tr.Nd) (i:Nat) (op:List Nat):(Xw ns i op).1.length≤ns.length∧((Xw ns i op).2≠none→(Xw ns i op).1.length=ns.length):=by
 induction ns generalizing i op with
 | nil=>simp [Xw]
 | cons d r ih =>
  by_cases hk:d.kids < 0∨(op.length:Int) < d.kids
  ·simp [Xw,hk]
  ·have:=ih (i+1) (op.take (op.length - d.kids.toNat)++[i])
   simp only [Xw,if_neg hk,List.length_cons]
   exact ⟨by omega,fun h=>by have:=this.2 h;omega⟩
theorem Zs {ns:List Tr.Nd} (h:XY ns=true):(Xf ns).length=ns.length:=by
 refine (Tr.krun_len ns 0 []).2 fun e=>?_
 unfold XY at h
 rw [e] at h
 cases h
def KB (w:World):Type:={x:World // Below w.heap.size w x}
def KB.w {w:World} (q:KB w):World:=q.1
theorem KB.below {w:World} (q:KB w):Below w.heap.size w q.w:=q.2
theorem KG {P:Program} {f:FuncId} {args:Array Value} {r:Value} {w:World} (h:∀ w1,Below w.heap.size w w1→Calls P f args w1 fun e w'=>e = .returned r∧Below w1.heap.size w1 w') (q:KB w) :
  Calls P f args q.w fun e w''=>e = .returned r∧∃ q':KB w,w''=q'.w :=
 (h q.w q.2).mono fun _ w2 hw=>⟨hw.1,⟨⟨w2,q.2.trans (hw.2.mono q.2.size)⟩,rfl⟩⟩
theorem row_below {w w1:World} {base:Nat} {e:TypeId} {size:Nat} {v:Value} {n:Nat} {xs:List Value} (h:w.ownsRow base e size v n xs) (hb:Below w.heap.size w w1):w1.ownsRow base e size v n xs:=by
 have hg:w.grownBy w1 none:=⟨hb.os,hb.tape,hb.output,hb.size,fun k hk _=>hb.block k hk⟩
 refine h.kept hg ?_
 cases hv:v.ownBlock with
 | none=>exact .inl rfl
 | some k=>exact .inr (by simp)
def Y6 (hs:List Nat):List Nat→Nat→Nat
 | [],h=>h
 | x :: r,h=>Y6 hs r (if h < hs[x]?.getD 0+1 then hs[x]?.getD 0+1 else h)
def Zz (ns:List Tr.Nd):List (Tr.Nd × List Nat)→List Nat→Bool
 | [],_=>true
 | (d,k) :: r,hs=>!decide (50 < Y6 hs k 0) && X9 d && Xm ns d.kind k && Zz ns r (hs++[Y6 hs k 0])
def YP (ns:List Tr.Nd):Int:=match ns.getLast? with
 | some d=>d.kind
 | none=>0
def XS (ns:List Tr.Nd):Bool:=Xn ns.length 1 5000 && (YP ns == 24) && XY ns && Zz ns (ns.zip (Xf ns)) []
theorem Tr.hmax_at (hs ls:List Nat) (j h:Nat) (hj:j < ls.length) (hx:ls[j] < hs.length):Y6 hs (ls.drop j) h=Y6 hs (ls.drop (j+1)) (if h < hs[ls[j]]+1 then hs[ls[j]]+1 else h):=by
 rw [List.drop_eq_getElem_cons hj,Y6];simp [hx]
theorem Tr.vgo_at (ns:List Tr.Nd) (ks:List (List Nat)) (i:Nat) (hs:List Nat) (h1:i < ns.length) (h2:i < ks.length) :
  Zz ns ((ns.zip ks).drop i) hs=(!decide (50 < Y6 hs ks[i] 0) && X9 ns[i] && Xm ns ns[i].kind ks[i] && Zz ns ((ns.zip ks).drop (i+1)) (hs++[Y6 hs ks[i] 0])):=by
 rw [List.drop_eq_getElem_cons (by simp;omega),List.getElem_zip];rfl
set_option maxRecDepth 100000 in
set_option maxHeartbeats 4000000 in
theorem valid_any (ns:List Tr.Nd) (tg tc:Nat) (w:World) (hn:ns.length≤1048576) (ht:NodesAt w tg ns) :
  Calls Tryz.prog 30 #[.agg #[.slice (some ⟨tg,0,none⟩) ns.length tc]] w fun e w'=>e = .returned (.bool (XS ns))∧Below w.heap.size w w':=by
 obtain ⟨iI,hI,hIz,hIs,hIb⟩:=info_parts Tryz.infoInt
 have r1:Below w.heap.size w (w.alloc (.cells #[.slice (some ⟨tg,0,none⟩) ns.length tc] 25)):=bA _
 have HT:=X1 ht
 cases hin:Xn ns.length 1 5000
 ·have HD:Hid (XS ns=false):=X1 (by simp [XS,hin])
  clear ht
  go_enter Tryz.func30,Tryz.ntmps30
  go_wp2_with (go_at_call 22;refine (YI _ _ _ _).mono ?_;rintro e w' ⟨rfl,rfl⟩)
  go_ret
  exact ⟨X8 HD.o.symm,r1⟩
 ·obtain ⟨hn1,hn2⟩:=Zh hin
  obtain ⟨m,hm⟩:∃ m,ns.length=m+1:=⟨ns.length - 1,by omega⟩
  obtain ⟨a0,_⟩:=ht.2 m (by omega)
  have HLK:=X1 (show YP ns=(ns[m]'(by omega)).kind by
   have e:ns.getLast?=some (ns[m]'(by omega)):=by rw [List.getLast?_eq_getElem?,show ns.length - 1=m from by omega,List.getElem?_eq_getElem (by omega)]
   unfold YP;rw [e])
  rw [hm] at r1
  have a1:=(r1.cell (p:=⟨tg,m*5,none⟩) ht.1).trans a0
  clear ht a0
  generalize (ns[m]'(by omega)).kind=lk at *
  have hin2:Xn ((m:Int)+1) 1 5000=true:=by rw [← hin,hm];rfl
  cases hk:(lk != 24)
  ·have a9:Hid (YP ns=24):=X1 (by simp at hk;rw [HLK.o,hk])
   have HB0:=X1 r1
   cases hkg:XY ns
   ·have HD:Hid (XS ns=false):=X1 (by simp [XS,hkg])
    go_enter Tryz.func30,Tryz.ntmps30
    go_wp2_with (first | (go_at_call 22;refine (YI _ _ _ _).mono ?_;rintro e w' ⟨rfl,rfl⟩) | (go_at_call 52;rw [← hm];refine (kids_any ns tg tc _ hn (by have:=HT.o.below HB0.o;rwa [← hm] at this)).mono ?_;rintro e w1 ⟨g4,c4,vs,rfl,A,c,j⟩;rw [hm,World.size_alloc] at j A c))
    go_ret
    exact ⟨X8 HD.o.symm,r1.trans (j.mono (Nat.le_succ _))⟩
   ·have hkl:=Zs hkg
    have HD:Hid (XS ns=Zz ns (ns.zip (Xf ns)) []):=X1 (by simp [XS,hkg,a9.o,hin])
    have HKL:=X1 (K5 ns)
    have HKN:=X1 hkl
    go_enter Tryz.func30,Tryz.ntmps30
    go_wp2_with (first | (go_at_call 22;refine (YI _ _ _ _).mono ?_;rintro e w' ⟨rfl,rfl⟩) | (go_at_call 52;rw [← hm];refine (kids_any ns tg tc _ hn (by have:=HT.o.below HB0.o;rwa [← hm] at this)).mono ?_;rintro e w1 ⟨g4,c4,vs,rfl,A,c,j⟩;rw [hm,World.size_alloc] at j A c))
    have HB1:Hid (Below w.heap.size w w1):=X1 (r1.trans (j.mono (Nat.le_succ _)))
    have z:=X1 A
    have HRW:=X1 c
    have a7:w1.cell? ⟨w.heap.size,0,none⟩=some (.slice (some ⟨tg,0,none⟩) (m+1) tc):=(j.cell (p:=⟨w.heap.size,0,none⟩) (Nat.lt_succ_self _)).trans (by simp)
    have H:w.heap.size < w1.heap.size:=Nat.lt_of_lt_of_le (by simp) j.size
    have HBX:=X1 a7
    clear c A j a7 a1
    go_wp2
    go_loopw [6,7] (fun v6 t wr=>∃ (i:Nat) (hs:List Nat) (g6 c6:Nat),i≤m+1∧t = .int .i64 i∧v6 = .slice (some ⟨g6,0,none⟩) i c6∧hs.length=i∧wr.ownsRow w1.heap.size 3 1 (.slice (some ⟨g6,0,none⟩) i c6) i (hs.map vint)∧Below w1.heap.size w1 wr∧(∀ x∈hs,x≤50) ∧
      Zz ns (ns.zip (Xf ns)) []=Zz ns ((ns.zip (Xf ns)).drop i) hs) (fun _ t _=>m+1 - (intOf t).toNat)
    case atStart =>
     refine ⟨0,[],w1.heap.size,0,Nat.zero_le _,rfl,rfl,rfl,?_,?_,(fun x h=>by cases h),rfl⟩
     ·exact World.ownsRow_lit (base:=w1.heap.size) (e:=3) (size:=1) w1 #[] 0 (Nat.le_refl _) (Nat.zero_le _) rfl
     ·exact bA _
    case round =>
     obtain ⟨i,hs,g6,c6,him,rfl,rfl,hhl,J,hB,h50,he⟩:=hrel
     have HE:=X1 he
     have H50:=X1 h50
     clear he h50
     by_cases hlt:i < m+1
     ·have E:i < (Xf ns).length:=by have:=HKN.o;omega
      obtain ⟨gi,ci,hv,_,_,_,f,hci⟩:=HRW.o.2 i E
      have HKT:=X1 (HKL.o i E)
      have a8:=Jn ns i E
      have c4i:=(hB.cell (p:=⟨g4,i,none⟩) (Z2 z.o).2.2).trans ((z.o.cellAt i (by omega)).trans hv)
      have HI2:=X1 (f.below hB)
      have HV:=X1 (Tr.vgo_at ns (Xf ns) i hs (by omega) E)
      have HC4:=X1 ((z.o.cellAt i (by omega)).trans hv)
      have HIW:=X1 f
      clear hv f
      generalize (Xf ns)[i]=ls at *
      obtain ⟨_,hg6b,hg6⟩:=Z2 J
      go_wp2
      go_loop [8,9] (fun a b=>∃ k h:Nat,k≤ls.length∧b = .int .i64 k∧a = .int .i64 h∧h≤51∧Y6 hs (ls.drop k) h=Y6 hs ls 0) (fun _ b=>ls.length - (intOf b).toNat)
      case atStart=>exact ⟨0,0,Nat.zero_le _,rfl,rfl,by omega,by rw [List.drop_zero]⟩
      case round =>
       obtain ⟨k,h,hk,rfl,rfl,hh,hm2⟩:=hrel
       have HM:=X1 hm2
       clear hm2
       by_cases hkl2:k < ls.length
       ·have b0:=HI2.o.2 k hkl2
        rw [Nat.zero_add] at b0
        have hx:ls[k] < hs.length:=by have:=HKT.o ls[k] (List.getElem_mem _);omega
        have b1:wr.cell? ⟨g6,ls[k],none⟩=some (.int .i64 hs[ls[k]]):=by rw [J.cellAt ls[k] (by omega)];simp [hx,vint]
        have HN:=X1 (Tr.hmax_at hs ls k h hkl2 hx)
        have hy:=H50.o hs[ls[k]] (List.getElem_mem _)
        generalize hs[ls[k]]=y at *
        generalize ls[k]=x at *
        by_cases hc:(h:Int) < (y:Int)+1
        ·go_wp2
         go_round
         case rel=>exact ⟨k+1,y+1,by omega,by go_num,by go_num,by omega,by rw [← HM.o,HN.o,if_pos (by omega)]⟩
         case measure=>simp [intOf];omega
        ·go_wp2
         go_round
         case rel=>exact ⟨k+1,h,by omega,by go_num,rfl,by omega,by rw [← HM.o,HN.o,if_neg (by omega)]⟩
         case measure=>simp [intOf];omega
       ·have HH:=X1 (show Y6 hs ls 0=h by rw [← HM.o,List.drop_of_length_le (by omega)];rfl)
        have hw1:=hB.size
        go_wp2_with (at_builtin;refine wpList_append_own_at _ rfl _ _ 31 rfl w1.heap.size 3 iI (.int .i64 0) 1 8 Tryz.underlying31 hI hIz hIs hIb rfl (by decide) (.slice (some ⟨g6,0,none⟩) i c6) i (hs.map vint) rfl (J.alloc _) ⟨wr.heap.size,0,none⟩ 1 1 [.int .i64 h] rfl rfl (ZV _ _ _) (by simp [Value.oneCell']) (by unfold maxLen;omega) (by omega) (by simp;omega) ?_)
        intro v7 w2 a4 a2 a3 a5
        obtain ⟨g7,c7,rfl,hg7⟩:=Jc a4 a3 (by simpa [Value.ownBlock] using a5)
        have v:Below w1.heap.size w1 w2:=(hB.alloc hw1 _).grown a2 (by simp;omega) (fun q e=>by simp [Value.ownBlock] at e;omega)
        clear a2 a3 a5 c4i
        have C:Below w.heap.size w w2:=HB1.o.trans (v.mono (Nat.le_of_lt H))
        have F:=HT.o.below C
        obtain ⟨n0,n1,n2,n3,n4⟩:=F.2 i (by omega)
        have x0:=(v.cell (p:=⟨w.heap.size,0,none⟩) H).trans HBX.o
        have x1:=(v.cell (p:=⟨g4,i,none⟩) (Z2 z.o).2.2).trans HC4.o
        have I:=v.size
        have B:=F.1
        have b2:g4 < w2.heap.size:=Nat.lt_of_lt_of_le (Z2 z.o).2.2 I
        have f0:=fun q:KB w2=>(q.below.cell (p:=⟨w.heap.size,0,none⟩) (Nat.lt_of_lt_of_le H I)).trans x0
        have f1:=fun q:KB w2=>(q.below.cell (p:=⟨g4,i,none⟩) b2).trans x1
        have f2:=fun q:KB w2=>(q.below.cell (p:=⟨tg,i*5,none⟩) B).trans n0
        have f3:=fun q:KB w2=>(q.below.cell (p:=⟨tg,i*5+1,none⟩) B).trans n1
        have f4:=fun q:KB w2=>(q.below.cell (p:=⟨tg,i*5+2,none⟩) B).trans n2
        have f5:=fun q:KB w2=>(q.below.cell (p:=⟨tg,i*5+3,none⟩) B).trans n3
        have f6:=fun q:KB w2=>(q.below.cell (p:=⟨tg,i*5+4,none⟩) B).trans n4
        have hP:=fun w' (_:Below w2.heap.size w2 w')=>plain_any (ns[i]'(by omega)).kind (ns[i]'(by omega)).op (ns[i]'(by omega)).n (ns[i]'(by omega)).kids (ns[i]'(by omega)).text w'
        have hKK:=fun w' (hb:Below w2.heap.size w2 w')=>kidsOk_any (ns[i]'(by omega)).kind ns ls tg tc gi ci w' (by omega) (F.below hb) ((HIW.o.below v).below hb) (fun x hx=>by have:=HKT.o x hx;omega) hci
        have g:Hid (XS ns=(!decide (50 < h) && X9 (ns[i]'(by omega)) && Xm ns (ns[i]'(by omega)).kind ls && Zz ns ((ns.zip (Xf ns)).drop (i+1)) (hs++[h]))):=X1 (by rw [HD.o,HE.o,HV.o,HH.o])
        clear n0 n1 n2 n3 n4 x0 x1 F HV HE
        generalize (ns[i]'(by omega))=d at *
        rw [hm] at hKK
        have HP:=X1 hP
        have HK:=X1 hKK
        clear hP hKK
        haveI hne:Nonempty (KB w2):=⟨⟨_,Below.refl _ _⟩⟩
        by_cases h51:50 < h
        ·go_wp2
         have s:(50:Int) < (h:Int):=by omega
         refine Yq (KB.w (w:=w2)) (by kernel_rfl) (by kernel_rfl) ⟨⟨_,below_drewN (Below.refl _ _) _⟩,rfl⟩ ?_
         repeat (go_big_quiet_step (fail))
         refine wpQuiet_nil ?_
         rintro _ ⟨q,rfl⟩
         have l:=q.below
         go_wp2
         go_ret
         refine ⟨X8 ?_,C.trans (l.mono (by omega))⟩
         rw [g.o];simp [h51]
        ·cases hp:X9 d
         ·have r:=HP.o
          simp only [show X9 ⟨d.kind,d.op,d.n,d.text,d.kids⟩=false from hp] at r
          have D:=X1 r
          clear r
          go_wp2
          have s:¬ ((50:Int) < (h:Int)):=by omega
          refine Yq (KB.w (w:=w2)) (by kernel_rfl) (by kernel_rfl) ⟨⟨_,below_drewN (Below.refl _ _) _⟩,rfl⟩ ?_
          repeat (go_big_quiet_step ((go_at_call 53;exact KG D.o _)))
          refine wpQuiet_nil ?_
          rintro _ ⟨q,rfl⟩
          have l:=q.below
          go_wp2
          go_ret
          refine ⟨X8 ?_,C.trans (l.mono (by omega))⟩
          rw [g.o,hp];simp
         ·have r:=HP.o
          simp only [show X9 ⟨d.kind,d.op,d.n,d.text,d.kids⟩=true from hp] at r
          have D:=X1 r
          clear r
          cases hko:Xm ns d.kind ls
          ·have u:=HK.o
           simp only [hko] at u
           have K:=X1 u
           clear u
           go_wp2
           have s:¬ ((50:Int) < (h:Int)):=by omega
           refine Yq (KB.w (w:=w2)) (by kernel_rfl) (by kernel_rfl) ⟨⟨_,below_drewN (Below.refl _ _) _⟩,rfl⟩ ?_
           repeat (go_big_quiet_step (first | (go_at_call 53;exact KG D.o _) | (go_at_call 54;exact KG K.o _)))
           refine wpQuiet_nil ?_
           rintro _ ⟨q,rfl⟩
           have l:=q.below
           go_wp2
           go_ret
           refine ⟨X8 ?_,C.trans (l.mono (by omega))⟩
           rw [g.o,hko];simp
          ·have u:=HK.o
           simp only [hko] at u
           have K:=X1 u
           clear u
           go_wp2
           have s:¬ ((50:Int) < (h:Int)):=by omega
           refine Yq (KB.w (w:=w2)) (by kernel_rfl) (by kernel_rfl) ⟨⟨_,below_drewN (Below.refl _ _) _⟩,rfl⟩ ?_
           repeat (go_big_quiet_step (first | (go_at_call 53;exact KG D.o _) | (go_at_call 54;exact KG K.o _)))
           refine wpQuiet_nil ?_
           rintro _ ⟨q,rfl⟩
           have l:=q.below
           have a6:=row_below a4 l
           go_wp2
           go_roundw
           case rel =>
            refine ⟨i+1,hs++[h],g7,c7,by omega,by go_num,rfl,by simp;omega,?_,v.trans (l.mono I),?_,?_⟩
            ·rw [List.map_append];exact a6
            ·intro x hx
             rcases List.mem_append.1 hx with hx | hx
             ·exact H50.o x hx
             ·have:x=h:=by simpa using hx
              omega
            ·rw [← HD.o,g.o,hp,hko,decide_eq_false (by omega)];rfl
           case measure=>simp [intOf];omega
     ·go_wp2
      go_ret
      refine ⟨X8 ?_,HB1.o.trans (hB.mono (Nat.le_of_lt H))⟩
      rw [HD.o,HE.o,List.drop_of_length_le (by simp;omega)];rfl
  ·have HD:Hid (XS ns=false):=X1 (by simp at hk;simp [XS,HLK.o,hk])
   go_enter Tryz.func30,Tryz.ntmps30
   go_wp2_with (go_at_call 22;refine (YI _ _ _ _).mono ?_;rintro e w' ⟨rfl,rfl⟩)
   go_ret
   exact ⟨X8 HD.o.symm,r1⟩
theorem DK.tokNext {b tg tc:Nat} {ts:List Sc.T} {sz:Nat} {v:Value} {s:Pr.Dk} {w:World} (h:DK b tg tc ts sz v s w) (hp:s.p+1 < ts.length):w.cell? ⟨tg,(s.p+1)*4,none⟩=some (.int .i64 (X3 ts sz (X7 s)).kind)∧w.cell? ⟨tg,(s.p+1)*4+1,none⟩=some (.string ⟨(X3 ts sz (X7 s)).text.toArray⟩):=by
 have e:X3 ts sz (X7 s)=ts[s.p+1]:=by unfold X3;rw [Pr.adv_p,List.getElem?_eq_getElem hp];rfl
 rw [e];exact ⟨(h.ks _ hp).1,(h.ks _ hp).2.1⟩
def NmPost (w:World) (r:Bool) (e:Ending) (w':World):Prop:=e = .returned (.bool r)∧Below w.heap.size w w'
set_option maxRecDepth 100000 in
set_option maxHeartbeats 2000000 in
theorem named_4 {b tg tc:Nat} {ts:List Sc.T} {sz:Nat} {v:Value} {s:Pr.Dk} {w:World} (h:DK b tg tc ts sz v s w) (hk:((X3 ts sz s).kind:Int)=1) (hp:s.p+1 < ts.length) (hk5:((X3 ts sz (X7 s)).kind:Int)=5) :
  Calls Tryz.prog 127 #[.pointer (some ⟨b,0,none⟩)] w (NmPost w ((X3 ts sz (X7 s)).text == [61])):=by
 haveI hne:Nonempty (KB w):=⟨⟨_,Below.refl _ _⟩⟩
 have hm:=h.most
 have hle:=h.le
 have hz01:(0:Int)≤(s.p:Int)+1:=by omega
 have hpi:(s.p:Int)+1 < ts.length:=by omega
 have HT:Hid (∀ w1,Below w.heap.size w w1→Calls Tryz.prog 91 #[.pointer (some ⟨b,0,none⟩)] w1 fun e w'=>e = .returned (.agg #[.int .i64 1,.string ⟨(X3 ts sz s).text.toArray⟩,.int .i64 (X3 ts sz s).n,.int .i64 (X3 ts sz s).place])∧Below w1.heap.size w1 w'):=X1 (fun w1 hb=>by
  have:=Zv (h.below hb)
  unfold Yf at this
  rw [hk] at this;exact this)
 have hf0:=KK 1 (X3 ts sz s).n (X3 ts sz s).place ⟨(X3 ts sz s).text.toArray⟩
 have d0:∀ q:KB w,q.w.cell? ⟨b,0,none⟩=some (.slice (some ⟨tg,0,none⟩) ts.length tc):=fun q=>(h.below q.below).c0
 have d2:∀ q:KB w,q.w.cell? ⟨b,2,none⟩=some (.int .i64 s.p):=fun q=>(h.below q.below).c2
 have x0:∀ q:KB w,q.w.cell? ⟨tg,(s.p+1)*4,none⟩=some (.int .i64 5):=fun q=>by have:=((h.below q.below).tokNext (sz:=sz) hp).1;rw [hk5] at this;exact this
 have x1:∀ q:KB w,q.w.cell? ⟨tg,(s.p+1)*4+1,none⟩=some (.string ⟨(X3 ts sz (X7 s)).text.toArray⟩):=fun q=>((h.below q.below).tokNext (sz:=sz) hp).2
 clear h
 go_enter Tryz.func127,Tryz.ntmps127
 go_wp2_with fail
 refine Yq (KB.w (w:=w)) (by kernel_rfl) (by kernel_rfl) ⟨⟨_,below_drewN (Below.refl _ _) _⟩,rfl⟩ ?_
 repeat (go_big_quiet_step ((go_at_call 91;exact KG HT.o _)))
 refine wpQuiet_nil ?_
 rintro _ ⟨q,rfl⟩
 have hBq:=q.below
 go_wp2
 go_ret
 refine ⟨?_,hBq⟩
 first | rfl | simp [Lib.toList_data]
set_option maxRecDepth 100000 in
set_option maxHeartbeats 2000000 in
theorem named_3 {b tg tc:Nat} {ts:List Sc.T} {sz:Nat} {v:Value} {s:Pr.Dk} {w:World} (h:DK b tg tc ts sz v s w) (hk:((X3 ts sz s).kind:Int)=1) (hp:s.p+1 < ts.length) (hk5:¬ ((X3 ts sz (X7 s)).kind:Int)=5) :
  Calls Tryz.prog 127 #[.pointer (some ⟨b,0,none⟩)] w (NmPost w false):=by
 haveI hne:Nonempty (KB w):=⟨⟨_,Below.refl _ _⟩⟩
 have hm:=h.most
 have hle:=h.le
 have hk5d:decide (((X3 ts sz (X7 s)).kind:Int)=5)=false:=by simpa using hk5
 have hk5b:(((X3 ts sz (X7 s)).kind:Int) == 5)=false:=by simpa using hk5
 have hz01:(0:Int)≤(s.p:Int)+1:=by omega
 have hpi:(s.p:Int)+1 < ts.length:=by omega
 have HT:Hid (∀ w1,Below w.heap.size w w1→Calls Tryz.prog 91 #[.pointer (some ⟨b,0,none⟩)] w1 fun e w'=>e = .returned (.agg #[.int .i64 1,.string ⟨(X3 ts sz s).text.toArray⟩,.int .i64 (X3 ts sz s).n,.int .i64 (X3 ts sz s).place])∧Below w1.heap.size w1 w'):=X1 (fun w1 hb=>by
  have:=Zv (h.below hb)
  unfold Yf at this
  rw [hk] at this;exact this)
 have hf0:=KK 1 (X3 ts sz s).n (X3 ts sz s).place ⟨(X3 ts sz s).text.toArray⟩
 have d0:∀ q:KB w,q.w.cell? ⟨b,0,none⟩=some (.slice (some ⟨tg,0,none⟩) ts.length tc):=fun q=>(h.below q.below).c0
 have d2:∀ q:KB w,q.w.cell? ⟨b,2,none⟩=some (.int .i64 s.p):=fun q=>(h.below q.below).c2
 have x0:∀ q:KB w,q.w.cell? ⟨tg,(s.p+1)*4,none⟩=some (.int .i64 ((X3 ts sz (X7 s)).kind:Nat)):=fun q=>by have:=((h.below q.below).tokNext (sz:=sz) hp).1;exact this
 have x1:∀ q:KB w,q.w.cell? ⟨tg,(s.p+1)*4+1,none⟩=some (.string ⟨(X3 ts sz (X7 s)).text.toArray⟩):=fun q=>((h.below q.below).tokNext (sz:=sz) hp).2
 clear h
 go_enter Tryz.func127,Tryz.ntmps127
 go_wp2_with fail
 refine Yq (KB.w (w:=w)) (by kernel_rfl) (by kernel_rfl) ⟨⟨_,below_drewN (Below.refl _ _) _⟩,rfl⟩ ?_
 repeat (go_big_quiet_step ((go_at_call 91;exact KG HT.o _)))
 refine wpQuiet_nil ?_
 rintro _ ⟨q,rfl⟩
 have hBq:=q.below
 go_wp2
 go_ret
 refine ⟨?_,hBq⟩
 first | rfl | simp [Lib.toList_data]
set_option maxRecDepth 100000 in
set_option maxHeartbeats 2000000 in
theorem named_2 {b tg tc:Nat} {ts:List Sc.T} {sz:Nat} {v:Value} {s:Pr.Dk} {w:World} (h:DK b tg tc ts sz v s w) (hk:((X3 ts sz s).kind:Int)=1) (hp:¬ s.p+1 < ts.length) :
  Calls Tryz.prog 127 #[.pointer (some ⟨b,0,none⟩)] w (NmPost w false):=by
 haveI hne:Nonempty (KB w):=⟨⟨_,Below.refl _ _⟩⟩
 have hm:=h.most
 have hle:=h.le
 have hpi:¬ (s.p:Int)+1 < ts.length:=by omega
 have hpd:decide ((s.p:Int)+1 < ts.length)=false:=by simpa using hpi
 have HT:Hid (∀ w1,Below w.heap.size w w1→Calls Tryz.prog 91 #[.pointer (some ⟨b,0,none⟩)] w1 fun e w'=>e = .returned (.agg #[.int .i64 1,.string ⟨(X3 ts sz s).text.toArray⟩,.int .i64 (X3 ts sz s).n,.int .i64 (X3 ts sz s).place])∧Below w1.heap.size w1 w'):=X1 (fun w1 hb=>by
  have:=Zv (h.below hb)
  unfold Yf at this
  rw [hk] at this;exact this)
 have hf0:=KK 1 (X3 ts sz s).n (X3 ts sz s).place ⟨(X3 ts sz s).text.toArray⟩
 have d0:∀ q:KB w,q.w.cell? ⟨b,0,none⟩=some (.slice (some ⟨tg,0,none⟩) ts.length tc):=fun q=>(h.below q.below).c0
 have d2:∀ q:KB w,q.w.cell? ⟨b,2,none⟩=some (.int .i64 s.p):=fun q=>(h.below q.below).c2
 clear h
 go_enter Tryz.func127,Tryz.ntmps127
 go_wp2_with fail
 refine Yq (KB.w (w:=w)) (by kernel_rfl) (by kernel_rfl) ⟨⟨_,below_drewN (Below.refl _ _) _⟩,rfl⟩ ?_
 repeat (go_big_quiet_step ((go_at_call 91;exact KG HT.o _)))
 refine wpQuiet_nil ?_
 rintro _ ⟨q,rfl⟩
 have hBq:=q.below
 go_wp2
 go_ret
 refine ⟨?_,hBq⟩
 first | rfl | simp [Lib.toList_data]
set_option maxRecDepth 100000 in
set_option maxHeartbeats 2000000 in
theorem named_1 {b tg tc:Nat} {ts:List Sc.T} {sz:Nat} {v:Value} {s:Pr.Dk} {w:World} (h:DK b tg tc ts sz v s w) (hk:¬ ((X3 ts sz s).kind:Int)=1) :
  Calls Tryz.prog 127 #[.pointer (some ⟨b,0,none⟩)] w (NmPost w false):=by
 haveI hne:Nonempty (KB w):=⟨⟨_,Below.refl _ _⟩⟩
 have hm:=h.most
 have hle:=h.le
 have hkd:decide (((X3 ts sz s).kind:Int)=1)=false:=by simpa using hk
 have hkb:(((X3 ts sz s).kind:Int) == 1)=false:=by simpa using hk
 have HT:Hid (∀ w1,Below w.heap.size w w1→Calls Tryz.prog 91 #[.pointer (some ⟨b,0,none⟩)] w1 fun e w'=>e = .returned (.agg #[.int .i64 ((X3 ts sz s).kind:Nat),.string ⟨(X3 ts sz s).text.toArray⟩,.int .i64 (X3 ts sz s).n,.int .i64 (X3 ts sz s).place])∧Below w1.heap.size w1 w'):=X1 (fun w1 hb=>by
  have:=Zv (h.below hb)
  unfold Yf at this
  exact this)
 have hf0:=KK ((X3 ts sz s).kind:Nat) (X3 ts sz s).n (X3 ts sz s).place ⟨(X3 ts sz s).text.toArray⟩
 clear h
 go_enter Tryz.func127,Tryz.ntmps127
 go_wp2_with fail
 refine Yq (KB.w (w:=w)) (by kernel_rfl) (by kernel_rfl) ⟨⟨_,below_drewN (Below.refl _ _) _⟩,rfl⟩ ?_
 repeat (go_big_quiet_step ((go_at_call 91;exact KG HT.o _)))
 refine wpQuiet_nil ?_
 rintro _ ⟨q,rfl⟩
 have hBq:=q.below
 go_wp2
 go_ret
 refine ⟨?_,hBq⟩
 first | rfl | simp [Lib.toList_data]
theorem named_any {b tg tc:Nat} {ts:List Sc.T} {sz:Nat} {v:Value} {s:Pr.Dk} {w:World} (h:DK b tg tc ts sz v s w) :
  Calls Tryz.prog 127 #[.pointer (some ⟨b,0,none⟩)] w (NmPost w (Ym ts sz s)):=by
 by_cases k1:(X3 ts sz s).kind=1
 ·by_cases hp:s.p+1 < ts.length
  ·by_cases k5:(X3 ts sz (X7 s)).kind=5
   ·have e:Ym ts sz s=((X3 ts sz (X7 s)).text == [61]):=by unfold Ym;simp [k1,hp,k5]
    rw [e];exact named_4 h (by omega) hp (by omega)
   ·have e:Ym ts sz s=false:=by unfold Ym;simp [k5]
    rw [e];exact named_3 h (by omega) hp (by omega)
  ·have e:Ym ts sz s=false:=by unfold Ym;simp [hp]
   rw [e];exact named_2 h (by omega) hp
 ·have e:Ym ts sz s=false:=by unfold Ym;simp [k1]
  rw [e];exact named_1 h (by omega)
theorem Pr.SOi.cast {b tg tc:Nat} {ts:List Sc.T} {sz:Nat} {i j:Int} {r:Nat} {s:Pr.Dk} (h:Pr.SOi b tg tc ts sz i r s) (e:i=j):Pr.SOi b tg tc ts sz j r s:=e ▸ h
def Qf (b tg tc:Nat) (ts:List Sc.T) (sz:Nat):Prop:=∀ s:Pr.Dk,(∀ q:Pr.Dk,s.p≤q.p→q.p≤ts.length→Pr.SE b tg tc ts sz q)→Pr.SL b tg tc ts sz s
def Pr.All (b tg tc:Nat) (ts:List Sc.T) (sz:Nat) (s:Pr.Dk):Prop:=Pr.SE b tg tc ts sz s∧∀ r:Nat,1≤r→r≤7→Pr.SOi b tg tc ts sz r r s
theorem Pr.all_at {b tg tc:Nat} {ts:List Sc.T} {sz:Nat} (hnm:Qt b tg tc ts sz) (hls:Qf b tg tc ts sz) (s:Pr.Dk) (ih:∀ q:Pr.Dk,s.p < q.p→q.p≤ts.length→Pr.All b tg tc ts sz q):Pr.All b tg tc ts sz s:=by
 have iE:∀ q:Pr.Dk,s.p < q.p→q.p≤ts.length→Pr.SE b tg tc ts sz q:=fun q h k=>(ih q h k).1
 have iP:∀ q:Pr.Dk,s.p < q.p→q.p≤ts.length→Pr.SP b tg tc ts sz q:=fun q h _=>params_says fun q' h' k'=>iE q' (Nat.lt_of_lt_of_le h h') k'
 have iA:∀ q:Pr.Dk,s.p < q.p→q.p≤ts.length→Pr.SA b tg tc ts sz q:=fun q h _=>args_says hnm fun q' h' k'=>iE q' (Nat.lt_of_lt_of_le h h') k'
 have iR:∀ q:Pr.Dk,s.p < q.p→q.p≤ts.length→Pr.SR b tg tc ts sz q:=fun q h _=>record_says fun q' h' k'=>iE q' (Nat.lt_of_lt_of_le h h') k'
 have iL:∀ q:Pr.Dk,s.p < q.p→q.p≤ts.length→Pr.SL b tg tc ts sz q:=fun q h _=>hls q fun q' h' k'=>iE q' (Nat.lt_of_lt_of_le h h') k'
 have sI:Pr.SI b tg tc ts sz s:=single_says iE iL iR
 have sT:Pr.ST b tg tc ts sz s:=post_says sI iE iA
 have o:∀ r:Nat,1≤r→r≤7→Pr.SOi b tg tc ts sz r r s:=by
  cases hb:s.bad
  ·have o7:Pr.SOi b tg tc ts sz 7 7 s:=ops_at7 hb (fun q h k=>(ih q h k).2 7 (by omega) (by omega)) sT
   have st:∀ r:Nat,1≤r→r≤6→r≠3→Pr.SOi b tg tc ts sz ((r+1:Nat):Int) (r+1) s→Pr.SOi b tg tc ts sz r r s:=fun r h1 h6 h3 h =>
    ops_at r h6 h3 hb (fun q hq k=>((ih q hq k).2 (r+1) (by omega) (by omega)).cast (by omega)) (h.cast (by omega))
   have o6:=st 6 (by omega) (by omega) (by omega) o7
   have o5:=st 5 (by omega) (by omega) (by omega) o6
   have o4:=st 4 (by omega) (by omega) (by omega) o5
   have o3:Pr.SOi b tg tc ts sz 3 3 s:=ops_at3 hb (fun q h k=>(ih q h k).2 3 (by omega) (by omega)) o4
   have o2:=st 2 (by omega) (by omega) (by omega) o3
   have o1:=st 1 (by omega) (by omega) (by omega) o2
   intro r h1 h7
   have hc:r=1∨r=2∨r=3∨r=4∨r=5∨r=6∨r=7:=by omega
   rcases hc with rfl | rfl | rfl | rfl | rfl | rfl | rfl
   ·exact o1
   ·exact o2
   ·exact o3
   ·exact o4
   ·exact o5
   ·exact o6
   ·exact o7
  ·exact fun r _ _=>ops_bad r hb
 exact ⟨e_says iE iP (o 1 (by omega) (by omega)),o⟩
theorem Pr.all_says {b tg tc:Nat} {ts:List Sc.T} {sz:Nat} (hnm:Qt b tg tc ts sz) (hls:Qf b tg tc ts sz):∀ (n:Nat) (s:Pr.Dk),s.p≤ts.length→ts.length - s.p≤n→Pr.All b tg tc ts sz s:=by
 intro n
 induction n with
 | zero=>intro s h hn;exact Pr.all_at hnm hls s fun q h1 h2=>by omega
 | succ n ih=>intro s h hn;exact Pr.all_at hnm hls s fun q h1 h2=>ih q h2 (by omega)
theorem Pr.statement_all {b tg tc:Nat} {ts:List Sc.T} {sz:Nat} (hnm:Qt b tg tc ts sz) (hls:Qf b tg tc ts sz) (s:Pr.Dk):Pr.SS b tg tc ts sz s :=
 statement_says (fun q _ h=>(Pr.all_says hnm hls _ q h (Nat.le_refl _)).1) (fun _ _ _=>params_says fun q' _ h'=>(Pr.all_says hnm hls _ q' h' (Nat.le_refl _)).1)
theorem Pr.named_yes (b tg tc:Nat) (ts:List Sc.T) (sz:Nat):Qt b tg tc ts sz:=fun _ _ _ h=>named_any h
theorem Pr.list_yes (b tg tc:Nat) (ts:List Sc.T) (sz:Nat):Qf b tg tc ts sz:=fun s ih=>by
 cases h:Xa ts sz s [93]
 ·exact list_says h ih
 ·exact list_nil h
theorem Pr.statement_any (b tg tc:Nat) (ts:List Sc.T) (sz:Nat) (s:Pr.Dk):Pr.SS b tg tc ts sz s:=Pr.statement_all (Pr.named_yes b tg tc ts sz) (Pr.list_yes b tg tc ts sz) s
end Go.Proofs.YtimbaebigjjkaaaGreatDoor
