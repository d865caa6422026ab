/- Foq, Fv2, Jd. -/
import Derived.Test.YthbojbbmpcmoaaaGreatDoorZ13
import Derived.Test.YthbojbbmpcmoaaaGreatDoorZ16
import Derived.Lib.Bytealg
import Derived.Laws.Externs
import Derived.Test.YthbojbbmpcmoaaaGreatDoorZ01
import Derived.Maps.OwnSet
import Derived.Lib.IndexAny
import Derived.Lib.IndexLaws
import Derived.Shelf.Small.Strs
namespace Go.Proofs.YthbojbbmpcmoaaaGreatDoor
open Go.RowKit
def Fd.dv (k n:Int) (t:ByteArray):Value:=if k=1 then .iface 315 (.agg #[]) else if k=2 then .iface 92 (.bool (n == 1)) else if k=3 then .iface 115 (.int .i64 n) else if k=4 then .iface 100 (.string t) else .nilIface
set_option maxRecDepth 100000 in
set_option maxHeartbeats 1000000 in
theorem constantOf_any (k o n c:Int) (t:ByteArray) (w:World) :
  Calls Tryz.prog 257 #[.agg #[.int .i64 k,.int .i64 o,.int .i64 n,.string t,.int .i64 c]] w fun e w'=>e = .returned (.tuple #[Fd.dv k n t,.bool (decide (1≤k∧k≤4))])∧Below w.heap.size w w':=by
 have fin:∀ v b,Fd.dv k n t=v→decide (1≤k∧k≤4)=b→Ending.returned (.tuple #[v,.bool b])=Ending.returned (.tuple #[Fd.dv k n t,.bool (decide (1≤k∧k≤4))]):=fun v b h1 h2=>by rw [h1,h2]
 have HF:=hide fin
 have HB:Hid (Below w.heap.size w (w.alloc (.cells #[.int .i64 k,.int .i64 o,.int .i64 n,.string t,.int .i64 c] 64))):=hide (bA _)
 clear fin
 by_cases h1:k=1
 ·have t1:(k == 1)=true:=by simpa using h1
  have HV:Hid (Fd.dv k n t = .iface 315 (.agg #[])):=hide (by unfold Fd.dv;rw [if_pos h1])
  have HD:Hid (decide (1≤k∧k≤4)=true):=hide (decide_eq_true (by omega))
  clear h1
  go_enter Tryz.func257,Tryz.ntmps257
  go_wp2
  refine bodyPost_ret (v:= .tuple #[.iface 315 (.agg #[]),.bool true]) (by simp [results,Tryz.results257,go_sem]) rfl ⟨HF.out _ _ HV.out HD.out,HB.out⟩
 ·have t1:(k == 1)=false:=by simpa using h1
  by_cases h2:k=2
  ·have t2:(k == 2)=true:=by simpa using h2
   have HV:Hid (Fd.dv k n t = .iface 92 (.bool (n == 1))):=hide (by unfold Fd.dv;rw [if_neg h1,if_pos h2])
   have HD:Hid (decide (1≤k∧k≤4)=true):=hide (decide_eq_true (by omega))
   clear h1 h2
   go_enter Tryz.func257,Tryz.ntmps257
   go_wp2
   refine bodyPost_ret (v:= .tuple #[.iface 92 (.bool (n == 1)),.bool true]) (by simp [results,Tryz.results257,go_sem]) rfl ⟨HF.out _ _ HV.out HD.out,HB.out⟩
  ·have t2:(k == 2)=false:=by simpa using h2
   by_cases h3:k=3
   ·have t3:(k == 3)=true:=by simpa using h3
    have HV:Hid (Fd.dv k n t = .iface 115 (.int .i64 n)):=hide (by unfold Fd.dv;rw [if_neg h1,if_neg h2,if_pos h3])
    have HD:Hid (decide (1≤k∧k≤4)=true):=hide (decide_eq_true (by omega))
    clear h1 h2 h3
    go_enter Tryz.func257,Tryz.ntmps257
    go_wp2
    refine bodyPost_ret (v:= .tuple #[.iface 115 (.int .i64 n),.bool true]) (by simp [results,Tryz.results257,go_sem]) rfl ⟨HF.out _ _ HV.out HD.out,HB.out⟩
   ·have t3:(k == 3)=false:=by simpa using h3
    by_cases h4:k=4
    ·have t4:(k == 4)=true:=by simpa using h4
     have HV:Hid (Fd.dv k n t = .iface 100 (.string t)):=hide (by unfold Fd.dv;rw [if_neg h1,if_neg h2,if_neg h3,if_pos h4])
     have HD:Hid (decide (1≤k∧k≤4)=true):=hide (decide_eq_true (by omega))
     clear h1 h2 h3 h4
     go_enter Tryz.func257,Tryz.ntmps257
     go_wp2
     refine bodyPost_ret (v:= .tuple #[.iface 100 (.string t),.bool true]) (by simp [results,Tryz.results257,go_sem]) rfl ⟨HF.out _ _ HV.out HD.out,HB.out⟩
    ·have t4:(k == 4)=false:=by simpa using h4
     have HV:Hid (Fd.dv k n t = .nilIface):=hide (by unfold Fd.dv;rw [if_neg h1,if_neg h2,if_neg h3,if_neg h4])
     have HD:Hid (decide (1≤k∧k≤4)=false):=hide (decide_eq_false (by omega))
     clear h1 h2 h3 h4
     go_enter Tryz.func257,Tryz.ntmps257
     go_wp2
     refine bodyPost_ret (v:= .tuple #[.nilIface,.bool false]) (by simp [results,Tryz.results257,go_sem]) rfl ⟨HF.out _ _ HV.out HD.out,HB.out⟩
end Go.Proofs.YthbojbbmpcmoaaaGreatDoor
namespace Go.Proofs.YthbojbbmpcmoaaaGreatDoor.Vl
open Go.RowKit T.atoms T.ok T.high T.good T.allPlain DatAt T.ord
theorem compare_cmp:∀ a b:List UInt8,Lib.compareBytes a b=cmpB (Go.Op.bytesLess a b) (a == b)
 | [],[]=>rfl
 | [],_ :: _=>rfl
 | _ :: _,[]=>rfl
 | x :: a,y :: b=>by
  have ih:=compare_cmp a b
  simp only [Lib.compareBytes,Go.Op.bytesLess,List.cons_beq_cons]
  have h3:x < y∨x=y∨y < x:=by
   rcases Nat.lt_trichotomy x.toNat y.toNat with h | h | h
   ·exact .inl (UInt8.lt_iff_toNat_lt.2 h)
   ·exact .inr (.inl (UInt8.toNat_inj.1 h))
   ·exact .inr (.inr (UInt8.lt_iff_toNat_lt.2 h))
  rcases h3 with h | h | h
  ·have h2:¬ x=y:=fun e=>by subst e;exact UInt8.lt_irrefl _ h
   simp [h,h2,cmpB]
  ·subst h
   have h1:¬ x < x:=UInt8.lt_irrefl _
   simpa [h1] using ih
  ·have h1:¬ x < y:=UInt8.lt_asymm h
   have h2:¬ x=y:=fun e=>by subst e;exact UInt8.lt_irrefl _ h
   simp [h,h1,h2,cmpB]
theorem cmpS_compare (a b:ByteArray):Lib.compareBytes a.data.toList b.data.toList=cmpS a b:=by
 rw [compare_cmp];unfold cmpS slt;rw [Lib.toList_data,Lib.toList_data]
set_option maxRecDepth 100000 in
set_option maxHeartbeats 1000000 in
theorem cmpString_any (a b:ByteArray) (w:World):Calls Tryz.prog 205 #[.string a,.string b] w fun e w'=>e = .returned (.int .i64 (cmpS a b))∧w'=w:=by
 rw [← cmpS_compare]
 go_enter Tryz.func205,Tryz.ntmps205
 go_wp2
 rw [run_callFunc_extern Tryz.func219 (by kernel_rfl) (by kernel_rfl) (by kernel_rfl) (e:=Extern.BytealgCompare.compare) (by kernel_rfl),Lib.run_compareString]
 simp only [Result.andThen]
 rw [Oper.upon_value]
 go_wp2
 go_ret
 exact ⟨rfl,rfl⟩
set_option maxHeartbeats 1000000 in
theorem strCompare_any (a b:ByteArray) (w:World):Calls Tryz.prog 176 #[.string a,.string b] w fun e w'=>e = .returned (.int .i64 (cmpS a b))∧w'=w:=by
 go_enter Tryz.func176,Tryz.ntmps176
 go_wp2_with (go_at_call 205;refine (cmpString_any _ _ _).mono ?_;rintro e w' ⟨rfl,rfl⟩)
 go_ret
 exact ⟨rfl,rfl⟩
set_option maxHeartbeats 400000 in
theorem nanInt (a:Int) (w:World):Calls Tryz.prog 189 #[.int .i64 a] w fun e w'=>e = .returned (.bool false)∧w'=w:=by
 go_enter Tryz.func189,Tryz.ntmps189
 go_wp2
 go_ret
 exact ⟨rfl,rfl⟩
set_option maxHeartbeats 400000 in
theorem cmpInt_any (a b:Int) (w:World):Calls Tryz.prog 154 #[.int .i64 a,.int .i64 b] w fun e w'=>e = .returned (.int .i64 (cmpI a b))∧w'=w:=by
 have h3:a < b∨a=b∨b < a:=by omega
 rcases h3 with h | h | h
 ·have hr:cmpI a b = -1:=by unfold cmpI cmpB;simp;omega
  rw [hr]
  go_enter Tryz.func154,Tryz.ntmps154
  go_wp2_with (go_at_call 189;refine (nanInt _ _).mono ?_;rintro e w' ⟨rfl,rfl⟩)
  go_ret
  exact ⟨rfl,rfl⟩
 ·subst h
  have hr:cmpI a a=0:=by unfold cmpI cmpB;simp
  rw [hr]
  go_enter Tryz.func154,Tryz.ntmps154
  go_wp2_with (go_at_call 189;refine (nanInt _ _).mono ?_;rintro e w' ⟨rfl,rfl⟩)
  go_ret
  exact ⟨rfl,rfl⟩
 ·have hr:cmpI a b=1:=by unfold cmpI cmpB;simp;omega
  have h':¬ a < b:=by omega
  rw [hr]
  go_enter Tryz.func154,Tryz.ntmps154
  go_wp2_with (go_at_call 189;refine (nanInt _ _).mono ?_;rintro e w' ⟨rfl,rfl⟩)
  go_ret
  exact ⟨rfl,rfl⟩
set_option maxHeartbeats 400000 in
theorem nanInt64 (a:Int) (w:World):Calls Tryz.prog 190 #[.int .i64 a] w fun e w'=>e = .returned (.bool false)∧w'=w:=by
 go_enter Tryz.func190,Tryz.ntmps190
 go_wp2
 go_ret
 exact ⟨rfl,rfl⟩
set_option maxHeartbeats 400000 in
theorem cmpInt64_any (a b:Int) (w:World):Calls Tryz.prog 155 #[.int .i64 a,.int .i64 b] w fun e w'=>e = .returned (.int .i64 (cmpI a b))∧w'=w:=by
 have h3:a < b∨a=b∨b < a:=by omega
 rcases h3 with h | h | h
 ·have hr:cmpI a b = -1:=by unfold cmpI cmpB;simp;omega
  rw [hr]
  go_enter Tryz.func155,Tryz.ntmps155
  go_wp2_with (go_at_call 190;refine (nanInt64 _ _).mono ?_;rintro e w' ⟨rfl,rfl⟩)
  go_ret
  exact ⟨rfl,rfl⟩
 ·subst h
  have hr:cmpI a a=0:=by unfold cmpI cmpB;simp
  rw [hr]
  go_enter Tryz.func155,Tryz.ntmps155
  go_wp2_with (go_at_call 190;refine (nanInt64 _ _).mono ?_;rintro e w' ⟨rfl,rfl⟩)
  go_ret
  exact ⟨rfl,rfl⟩
 ·have hr:cmpI a b=1:=by unfold cmpI cmpB;simp;omega
  have h':¬ a < b:=by omega
  rw [hr]
  go_enter Tryz.func155,Tryz.ntmps155
  go_wp2_with (go_at_call 190;refine (nanInt64 _ _).mono ?_;rintro e w' ⟨rfl,rfl⟩)
  go_ret
  exact ⟨rfl,rfl⟩
set_option maxHeartbeats 400000 in
theorem nanIntD (a:Int) (w:World):Calls Tryz.prog 191 #[.int .i64 a] w fun e w'=>e = .returned (.bool false)∧w'=w:=by
 go_enter Tryz.func191,Tryz.ntmps191
 go_wp2
 go_ret
 exact ⟨rfl,rfl⟩
set_option maxHeartbeats 400000 in
theorem cmpIntD_any (a b:Int) (w:World):Calls Tryz.prog 157 #[.int .i64 a,.int .i64 b] w fun e w'=>e = .returned (.int .i64 (cmpI a b))∧w'=w:=by
 have h3:a < b∨a=b∨b < a:=by omega
 rcases h3 with h | h | h
 ·have hr:cmpI a b = -1:=by unfold cmpI cmpB;simp;omega
  rw [hr]
  go_enter Tryz.func157,Tryz.ntmps157
  go_wp2_with (go_at_call 191;refine (nanIntD _ _).mono ?_;rintro e w' ⟨rfl,rfl⟩)
  go_ret
  exact ⟨rfl,rfl⟩
 ·subst h
  have hr:cmpI a a=0:=by unfold cmpI cmpB;simp
  rw [hr]
  go_enter Tryz.func157,Tryz.ntmps157
  go_wp2_with (go_at_call 191;refine (nanIntD _ _).mono ?_;rintro e w' ⟨rfl,rfl⟩)
  go_ret
  exact ⟨rfl,rfl⟩
 ·have hr:cmpI a b=1:=by unfold cmpI cmpB;simp;omega
  have h':¬ a < b:=by omega
  rw [hr]
  go_enter Tryz.func157,Tryz.ntmps157
  go_wp2_with (go_at_call 191;refine (nanIntD _ _).mono ?_;rintro e w' ⟨rfl,rfl⟩)
  go_ret
  exact ⟨rfl,rfl⟩
set_option maxHeartbeats 400000 in
theorem nanT (a:ByteArray) (w:World):Calls Tryz.prog 192 #[.string a] w fun e w'=>e = .returned (.bool false)∧w'=w:=by
 go_enter Tryz.func192,Tryz.ntmps192
 go_wp2
 go_ret
 exact ⟨ret_bool (by simp),rfl⟩
set_option maxHeartbeats 400000 in
theorem cmpT_any (a b:ByteArray) (w:World):Calls Tryz.prog 158 #[.string a,.string b] w fun e w'=>e = .returned (.int .i64 (cmpS a b))∧w'=w:=by
 have ht:=less_total a.toList b.toList
 have HR:Hid (cmpS a b=cmpB (Go.Op.bytesLess a.toList b.toList) (a.toList == b.toList)):=hide rfl
 cases hl:Go.Op.bytesLess a.toList b.toList
 all_goals cases he:(a.toList == b.toList)
 all_goals
  rw [hl,he] at HR ht
  first
  | (exfalso;have e:a.toList=b.toList:=by simpa using he
     rw [e] at hl ht;rw [hl] at ht;simp at ht;done)
  | (have HX:=hide ht
     clear ht
     go_enter Tryz.func158,Tryz.ntmps158
     go_wp2_with (go_at_call 192;refine (nanT _ _).mono ?_;rintro e w' ⟨rfl,rfl⟩)
     go_ret
     exact ⟨ret_int HR.out.symm,rfl⟩)
set_option maxHeartbeats 400000 in
theorem bit_any (b:Bool) (w:World):Calls Tryz.prog 156 #[.bool b] w fun e w'=>e = .returned (.int .i64 (if b then 1 else 0))∧w'=w:=by
 cases b
 all_goals
  go_enter Tryz.func156,Tryz.ntmps156
  go_wp2
  go_ret
  exact ⟨rfl,rfl⟩
def Kinds (v:Value) (k:Int):Prop:=∃ f r,(∀ w,(callMethod v "loop.example/kilnclay/impl.kind" #[]).run Tryz.prog w = .ok (.enter f #[r]) w)∧∀ w,Calls Tryz.prog f #[r] w fun e w'=>e = .returned (.int .i64 k)∧Below w.heap.size w w'
theorem kd_none (w:World):(callMethod (.iface 315 (.agg #[])) "loop.example/kilnclay/impl.kind" #[]).run Tryz.prog w = .ok (.enter 297 #[.agg #[]]) w:=by kernel_rfl
set_option maxHeartbeats 400000 in
theorem kind_none (w:World):Calls Tryz.prog 297 #[.agg #[]] w fun e w'=>e = .returned (.int .i64 1)∧Below w.heap.size w w':=by
 go_enter Tryz.func297,Tryz.ntmps297
 go_wp2
 go_ret
 exact ⟨rfl,bA _⟩
theorem kd_bool (b:Bool) (w:World):(callMethod (.iface 92 (.bool b)) "loop.example/kilnclay/impl.kind" #[]).run Tryz.prog w = .ok (.enter 239 #[.bool b]) w:=by kernel_rfl
set_option maxHeartbeats 400000 in
theorem kind_bool (b:Bool) (w:World):Calls Tryz.prog 239 #[.bool b] w fun e w'=>e = .returned (.int .i64 2)∧Below w.heap.size w w':=by
 go_enter Tryz.func239,Tryz.ntmps239
 go_wp2
 go_ret
 exact ⟨rfl,Below.refl _ _⟩
theorem kd_int (n:Int) (w:World):(callMethod (.iface 115 (.int .i64 n)) "loop.example/kilnclay/impl.kind" #[]).run Tryz.prog w = .ok (.enter 246 #[.int .i64 n]) w:=by kernel_rfl
set_option maxHeartbeats 400000 in
theorem kind_int (n:Int) (w:World):Calls Tryz.prog 246 #[.int .i64 n] w fun e w'=>e = .returned (.int .i64 3)∧Below w.heap.size w w':=by
 go_enter Tryz.func246,Tryz.ntmps246
 go_wp2
 go_ret
 exact ⟨rfl,Below.refl _ _⟩
theorem kd_text (x:ByteArray) (w:World):(callMethod (.iface 100 (.string x)) "loop.example/kilnclay/impl.kind" #[]).run Tryz.prog w = .ok (.enter 241 #[.string x]) w:=by kernel_rfl
set_option maxHeartbeats 400000 in
theorem kind_text (x:ByteArray) (w:World):Calls Tryz.prog 241 #[.string x] w fun e w'=>e = .returned (.int .i64 4)∧Below w.heap.size w w':=by
 go_enter Tryz.func241,Tryz.ntmps241
 go_wp2
 go_ret
 exact ⟨rfl,Below.refl _ _⟩
theorem kd_list (p:Option Addr) (n c:Nat) (a d:Int) (w:World):(callMethod (.iface 107 (.agg #[.slice p n c,.int .i64 a,.int .i64 d])) "loop.example/kilnclay/impl.kind" #[]).run Tryz.prog w = .ok (.enter 244 #[.agg #[.slice p n c,.int .i64 a,.int .i64 d]]) w:=by kernel_rfl
set_option maxHeartbeats 400000 in
theorem kind_list (p:Option Addr) (n c:Nat) (a d:Int) (w:World):Calls Tryz.prog 244 #[.agg #[.slice p n c,.int .i64 a,.int .i64 d]] w fun e w'=>e = .returned (.int .i64 5)∧Below w.heap.size w w':=by
 go_enter Tryz.func244,Tryz.ntmps244
 go_wp2
 go_ret
 exact ⟨rfl,bA _⟩
theorem kd_rec (p:Option Addr) (n c:Nat) (a d:Int) (w:World):(callMethod (.iface 112 (.agg #[.slice p n c,.int .i64 a,.int .i64 d])) "loop.example/kilnclay/impl.kind" #[]).run Tryz.prog w = .ok (.enter 245 #[.agg #[.slice p n c,.int .i64 a,.int .i64 d]]) w:=by kernel_rfl
set_option maxHeartbeats 400000 in
theorem kind_rec (p:Option Addr) (n c:Nat) (a d:Int) (w:World):Calls Tryz.prog 245 #[.agg #[.slice p n c,.int .i64 a,.int .i64 d]] w fun e w'=>e = .returned (.int .i64 6)∧Below w.heap.size w w':=by
 go_enter Tryz.func245,Tryz.ntmps245
 go_wp2
 go_ret
 exact ⟨rfl,bA _⟩
theorem kinds_of {w:World} {x:Nat} {t:T} {v:Value} (h:DatAt w x t v):Kinds v t.kind:=by
 cases t with
 | mk k n s ks =>
  unfold DatAt at h
  show Kinds v k
  rcases h with ⟨rfl,rfl⟩ | ⟨rfl,rfl⟩ | ⟨rfl,rfl⟩ | ⟨rfl,rfl⟩ | ⟨rfl,p,c,vs,rfl,_⟩ | ⟨rfl,p,c,m,vs,_,rfl,_⟩
  ·exact ⟨_,_,kd_none,kind_none⟩
  ·exact ⟨_,_,kd_bool _,kind_bool _⟩
  ·exact ⟨_,_,kd_int _,kind_int _⟩
  ·exact ⟨_,_,kd_text _,kind_text _⟩
  ·exact ⟨_,_,kd_list _ _ _ _ _,kind_list _ _ _ _ _⟩
  ·exact ⟨_,_,kd_rec _ _ _ _ _,kind_rec _ _ _ _ _⟩
theorem wpList_kind {ops:Array Oper} {Q:Exit→Act→World→Prop} {a:Act} {w:World} {rest:List Oper} {o:Oper}
  (hg:o.guard=none) (x:Operand) (hop:o.op=Op.call {callee:=Callee.invoke x "loop.example/kilnclay/impl.kind",args:=#[],argTypes:=#[]})
  (v:Value) (k:Int) (hx:a.eval x=v) (hv:Kinds v k) (hK:∀ w',Below w.heap.size w w'→wpList Tryz.prog ops Q rest (a.put o.dst (.int .i64 k)) w'):wpList Tryz.prog ops Q (o :: rest) a w:=by
 refine wpList_step (fun K hKK=>?_)
 have hw:Region.wanted o (yielded ops a.tmps)=true:=by simp [Region.wanted,hg]
 rw [if_pos hw]
 obtain ⟨f,r,hm,hC⟩:=hv
 unfold Oper.wp
 simp only [execOp,hop,resolve,invoke,List.map_toArray,List.map_nil,hx,Sem.run_bind,Sem.run_pure,Result.andThen_ok]
 simp [hm]
 refine (hC w).mono fun e w2 h=>?_
 obtain ⟨rfl,h2⟩:=h
 exact hKK _ _ (hK _ h2)
end Go.Proofs.YthbojbbmpcmoaaaGreatDoor.Vl
namespace Go.Proofs.YthbojbbmpcmoaaaGreatDoor
open Go.RowKit
structure Tr.Gr where
 nd:Tr.Nd
 high:Nat
def Tr.over:List Tr.Gr→Nat→Nat
 | [],h=>h
 | x :: r,h=>Tr.over r (if h < x.high+1 then x.high+1 else h)
def Tr.count (k n:Int):Bool :=
 if k=1∨k=2∨k=3∨k=4∨k=5 then decide (0≤n∧n≤0)
 else if k=6∨k=11∨k=17∨k=18∨k=21∨k=22 then decide (1≤n∧n≤1)
 else if k=7∨k=10∨k=14 then decide (2≤n∧n≤2)
 else if k=13 then decide (3≤n∧n≤3)
 else if k=16 then decide (2≤n∧n≤3)
 else if k=19 then decide (0≤n∧n≤1)
 else if k=8∨k=9∨k=24 then decide (0≤n∧n≤200)
 else if k=23 then decide (1≤n∧n≤200)
 else if k=12∨k=15∨k=20 then decide (1≤n∧n≤9)
 else decide (0≤n∧n≤ -1)
def Tr.between (a b:Int) (l:List Tr.Gr):Bool:=l.all fun g=>decide (a≤g.nd.kind) && decide (g.nd.kind≤b)
def Tr.differ (l:List Tr.Gr):Bool:=decide ((l.map fun g=>g.nd.text).Nodup)
def Tr.plainN (l:List Tr.Gr):Nat:=1+((l.drop 1).takeWhile fun g=>g.nd.kind != 18).length
def Tr.fits (k:Int) (l:List Tr.Gr):Bool :=
 if k=9 then Tr.between 17 17 l && Tr.differ l
 else if k=12 then Tr.between 1 16 (l.take (Tr.plainN l)) && Tr.between 18 18 (l.drop (Tr.plainN l)) && Tr.differ (l.drop (Tr.plainN l))
 else if k=15∨k=20 then Tr.between 19 19 (l.take (l.length - 1)) && Tr.between 1 16 (l.drop (l.length - 1))
 else if k=23 then Tr.between 5 5 l
 else if k=24 then Tr.between 20 23 l
 else Tr.between 1 16 l
def Tr.nodeOk (x:Tr.Nd) (l:List Tr.Gr):Bool:=Tr.plain x && Tr.count x.kind x.kids && Tr.fits x.kind l
def Tr.irun:List Tr.Nd→List Tr.Gr→Option (List Tr.Gr)
 | [],op=>some op
 | x :: r,op=>if x.kids < 0∨(op.length:Int) < x.kids then none else
   if Tr.nodeOk x (op.drop (op.length - x.kids.toNat))=true then Tr.irun r (op.take (op.length - x.kids.toNat)++[⟨x,Tr.over (op.drop (op.length - x.kids.toNat)) 0⟩]) else none
def Tr.iend:Option (List Tr.Gr)→Bool
 | some [g]=>(g.nd.kind == 24) && decide (g.high≤50)
 | _=>false
def Tr.ivalid (ns:List Tr.Nd):Bool:=decide (ns.length≤5000) && Tr.iend (Tr.irun ns [])
def GrAt (w:World) (g o:Nat) (l:List Tr.Gr):Prop:=g < w.heap.size∧∀ j (h:j < l.length),w.cell? ⟨g,o+j*6,none⟩=some (.int .i64 l[j].nd.kind)∧w.cell? ⟨g,o+j*6+1,none⟩=some (.int .i64 l[j].nd.op)∧w.cell? ⟨g,o+j*6+2,none⟩=some (.int .i64 l[j].nd.n)∧w.cell? ⟨g,o+j*6+3,none⟩=some (.string l[j].nd.text)∧w.cell? ⟨g,o+j*6+4,none⟩=some (.int .i64 l[j].nd.kids)∧w.cell? ⟨g,o+j*6+5,none⟩=some (.int .i64 l[j].high)
theorem GrAt.below {w w':World} {g o:Nat} {l:List Tr.Gr} (h:GrAt w g o l) (hb:Below w.heap.size w w'):GrAt w' g o l:=by
 refine ⟨Nat.lt_of_lt_of_le h.1 hb.size,fun i hi=>?_⟩
 obtain ⟨a,b,c,d,e,f⟩:=h.2 i hi
 exact ⟨(hb.cell (p:=⟨g,o+i*6,none⟩) h.1).trans a,(hb.cell (p:=⟨g,o+i*6+1,none⟩) h.1).trans b,(hb.cell (p:=⟨g,o+i*6+2,none⟩) h.1).trans c,(hb.cell (p:=⟨g,o+i*6+3,none⟩) h.1).trans d,(hb.cell (p:=⟨g,o+i*6+4,none⟩) h.1).trans e,(hb.cell (p:=⟨g,o+i*6+5,none⟩) h.1).trans f⟩
theorem GrAt.drop {w:World} {g o:Nat} {l:List Tr.Gr} (h:GrAt w g o l) (k:Nat):GrAt w g (o+k*6) (l.drop k):=by
 refine ⟨h.1,fun j hj=>?_⟩
 have:=h.2 (k+j) (by simp at hj;omega)
 rw [List.getElem_drop]
 rw [show o+k*6+j*6=o+(k+j)*6 from by omega]
 exact this
theorem GrAt.take {w:World} {g o:Nat} {l:List Tr.Gr} (h:GrAt w g o l) (k:Nat):GrAt w g o (l.take k):=by
 refine ⟨h.1,fun j hj=>?_⟩
 have:=h.2 j (by simp at hj;omega)
 rw [List.getElem_take]
 exact this
def GrV (w:World) (v:Value) (l:List Tr.Gr):Prop:=(∃ p c,v = .slice p 0 c∧l=[])∨∃ g o c,v = .slice (some ⟨g,o,none⟩) l.length c∧l.length≤c∧GrAt w g o l
theorem GrV.below {w w':World} {v:Value} {l:List Tr.Gr} (h:GrV w v l) (hb:Below w.heap.size w w'):GrV w' v l:=by
 rcases h with h | ⟨g,o,c,h1,h3,h2⟩
 ·exact .inl h
 ·exact .inr ⟨g,o,c,h1,h3,h2.below hb⟩
theorem GrAt.dropV {w:World} {g o c p n:Nat} {l:List Tr.Gr} (h:GrAt w g o l) (hp:p≤l.length) (hc:l.length≤c) (hn:n=l.length - p):GrV w (.slice (if c=p then some ⟨g,o,none⟩ else some ⟨g,o+p*6,none⟩) n (c - p)) (l.drop p):=by
 subst hn
 by_cases e:c=p
 ·rw [if_pos e]
  have:l.length - p=0:=by omega
  exact .inl ⟨_,_,by rw [this],List.drop_of_length_le (by omega)⟩
 ·rw [if_neg e]
  exact .inr ⟨g,_,_,by rw [List.length_drop],by rw [List.length_drop];omega,h.drop p⟩
theorem GrAt.dropQ {w:World} {g o c p n:Nat} {l:List Tr.Gr} (h:GrAt w g o l) (hp:p≤l.length) (hc:l.length≤c) (hn:n=l.length - p):∀ q,q=some ⟨g,o+p*6,none⟩∨c=p→GrV w (.slice q n (c - p)) (l.drop p):=by
 intro q hq
 subst hn
 by_cases e:c=p
 ·have:l.length - p=0:=by omega
  exact .inl ⟨_,_,by rw [this],List.drop_of_length_le (by omega)⟩
 ·obtain rfl:=hq.resolve_right e
  exact .inr ⟨g,_,_,by rw [List.length_drop],by rw [List.length_drop];omega,h.drop p⟩
theorem GrAt.takeV {w:World} {g o c p:Nat} {l:List Tr.Gr} (h:GrAt w g o l) (hp:p≤l.length) (hc:l.length≤c):GrV w (.slice (some ⟨g,o,none⟩) p c) (l.take p) :=
 .inr ⟨g,o,c,by rw [List.length_take,Nat.min_eq_left hp],by rw [List.length_take,Nat.min_eq_left hp];omega,h.take p⟩
end Go.Proofs.YthbojbbmpcmoaaaGreatDoor
