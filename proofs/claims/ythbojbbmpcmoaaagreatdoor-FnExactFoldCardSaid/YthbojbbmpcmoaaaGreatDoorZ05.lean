/- Vb, Fo1. -/
import Derived.Test.YthbojbbmpcmoaaaGreatDoorZ01
namespace Go.Proofs.YthbojbbmpcmoaaaGreatDoor
open Go.RowKit
set_option maxRecDepth 100000 in
set_option maxHeartbeats 1000000 in
theorem plain_2 (op n m:Int) (s:ByteArray) (w:World):Calls Tryz.prog 129 #[.agg #[.int .i64 2,.int .i64 op,.int .i64 n,.string s,.int .i64 m]] w fun e w'=>e = .returned (.bool (Tr.plain ⟨2,op,n,s,m⟩))∧Below w.heap.size w w':=by
 have q:Tr.inr 2 16 21=false:=by decide
 go_enter Tryz.func129,Tryz.ntmps129
 go_wp2_with (first | (go_at_call 85;refine (in_any _ _ _ _).mono ?_;rintro e w' ⟨rfl,rfl⟩) | (go_at_call 177;refine (pkg_any _ _).mono ?_;rintro e w' ⟨rfl,rfl⟩) | (go_at_call 178;refine (nameOk_any _ _).mono ?_;rintro e w1 ⟨rfl,hb1⟩))
 all_goals
  go_ret
  refine ⟨ret_bool ?_,?_⟩
  ·first
   | (simp [Tr.plain,Tr.textK, *];done)
   | (simp [Tr.plain,Tr.textK, *];omega)
   | (exfalso;simp_all)
  ·first
   | exact bA _
   | exact (bA _).trans (hb1.mono (by simp))
set_option maxRecDepth 100000 in
set_option maxHeartbeats 1000000 in
theorem plain_3 (op n m:Int) (s:ByteArray) (w:World):Calls Tryz.prog 129 #[.agg #[.int .i64 3,.int .i64 op,.int .i64 n,.string s,.int .i64 m]] w fun e w'=>e = .returned (.bool (Tr.plain ⟨3,op,n,s,m⟩))∧Below w.heap.size w w':=by
 have q:Tr.inr 3 16 21=false:=by decide
 go_enter Tryz.func129,Tryz.ntmps129
 go_wp2_with (first | (go_at_call 85;refine (in_any _ _ _ _).mono ?_;rintro e w' ⟨rfl,rfl⟩) | (go_at_call 177;refine (pkg_any _ _).mono ?_;rintro e w' ⟨rfl,rfl⟩) | (go_at_call 178;refine (nameOk_any _ _).mono ?_;rintro e w1 ⟨rfl,hb1⟩))
 all_goals
  go_ret
  refine ⟨ret_bool ?_,?_⟩
  ·first
   | (simp [Tr.plain,Tr.textK, *];done)
   | (simp [Tr.plain,Tr.textK, *];omega)
   | (exfalso;simp_all)
  ·first
   | exact bA _
   | exact (bA _).trans (hb1.mono (by simp))
set_option maxRecDepth 100000 in
set_option maxHeartbeats 1000000 in
theorem plain_4 (op n m:Int) (s:ByteArray) (w:World):Calls Tryz.prog 129 #[.agg #[.int .i64 4,.int .i64 op,.int .i64 n,.string s,.int .i64 m]] w fun e w'=>e = .returned (.bool (Tr.plain ⟨4,op,n,s,m⟩))∧Below w.heap.size w w':=by
 go_enter Tryz.func129,Tryz.ntmps129
 go_wp2_with (first | (go_at_call 85;refine (in_any _ _ _ _).mono ?_;rintro e w' ⟨rfl,rfl⟩) | (go_at_call 177;refine (pkg_any _ _).mono ?_;rintro e w' ⟨rfl,rfl⟩) | (go_at_call 178;refine (nameOk_any _ _).mono ?_;rintro e w1 ⟨rfl,hb1⟩))
 all_goals
  go_ret
  refine ⟨ret_bool ?_,?_⟩
  ·first
   | (simp [Tr.plain,Tr.textK, *];done)
   | (simp [Tr.plain,Tr.textK, *];omega)
   | (exfalso;simp_all)
  ·first
   | exact bA _
   | exact (bA _).trans (hb1.mono (by simp))
set_option maxRecDepth 100000 in
set_option maxHeartbeats 1000000 in
theorem plain_5 (op n m:Int) (s:ByteArray) (w:World):Calls Tryz.prog 129 #[.agg #[.int .i64 5,.int .i64 op,.int .i64 n,.string s,.int .i64 m]] w fun e w'=>e = .returned (.bool (Tr.plain ⟨5,op,n,s,m⟩))∧Below w.heap.size w w':=by
 go_enter Tryz.func129,Tryz.ntmps129
 go_wp2_with (first | (go_at_call 85;refine (in_any _ _ _ _).mono ?_;rintro e w' ⟨rfl,rfl⟩) | (go_at_call 177;refine (pkg_any _ _).mono ?_;rintro e w' ⟨rfl,rfl⟩) | (go_at_call 178;refine (nameOk_any _ _).mono ?_;rintro e w1 ⟨rfl,hb1⟩))
 all_goals
  go_ret
  refine ⟨ret_bool ?_,?_⟩
  ·first
   | (simp [Tr.plain,Tr.textK, *];done)
   | (simp [Tr.plain,Tr.textK, *];omega)
   | (exfalso;simp_all)
  ·first
   | exact bA _
   | exact (bA _).trans (hb1.mono (by simp))
set_option maxRecDepth 100000 in
set_option maxHeartbeats 1000000 in
theorem plain_11 (op n m:Int) (s:ByteArray) (w:World):Calls Tryz.prog 129 #[.agg #[.int .i64 11,.int .i64 op,.int .i64 n,.string s,.int .i64 m]] w fun e w'=>e = .returned (.bool (Tr.plain ⟨11,op,n,s,m⟩))∧Below w.heap.size w w':=by
 go_enter Tryz.func129,Tryz.ntmps129
 go_wp2_with (first | (go_at_call 85;refine (in_any _ _ _ _).mono ?_;rintro e w' ⟨rfl,rfl⟩) | (go_at_call 177;refine (pkg_any _ _).mono ?_;rintro e w' ⟨rfl,rfl⟩) | (go_at_call 178;refine (nameOk_any _ _).mono ?_;rintro e w1 ⟨rfl,hb1⟩))
 all_goals
  go_ret
  refine ⟨ret_bool ?_,?_⟩
  ·first
   | (simp [Tr.plain,Tr.textK, *];done)
   | (simp [Tr.plain,Tr.textK, *];omega)
   | (exfalso;simp_all)
  ·first
   | exact bA _
   | exact (bA _).trans (hb1.mono (by simp))
set_option maxRecDepth 100000 in
set_option maxHeartbeats 1000000 in
theorem plain_14 (op n m:Int) (s:ByteArray) (w:World):Calls Tryz.prog 129 #[.agg #[.int .i64 14,.int .i64 op,.int .i64 n,.string s,.int .i64 m]] w fun e w'=>e = .returned (.bool (Tr.plain ⟨14,op,n,s,m⟩))∧Below w.heap.size w w':=by
 go_enter Tryz.func129,Tryz.ntmps129
 go_wp2_with (first | (go_at_call 85;refine (in_any _ _ _ _).mono ?_;rintro e w' ⟨rfl,rfl⟩) | (go_at_call 177;refine (pkg_any _ _).mono ?_;rintro e w' ⟨rfl,rfl⟩) | (go_at_call 178;refine (nameOk_any _ _).mono ?_;rintro e w1 ⟨rfl,hb1⟩))
 all_goals
  go_ret
  refine ⟨ret_bool ?_,?_⟩
  ·first
   | (simp [Tr.plain,Tr.textK, *];done)
   | (simp [Tr.plain,Tr.textK, *];omega)
   | (exfalso;simp_all)
  ·first
   | exact bA _
   | exact (bA _).trans (hb1.mono (by simp))
set_option maxRecDepth 100000 in
set_option maxHeartbeats 1000000 in
theorem plain_6 (op n m:Int) (s:ByteArray) (w:World):Calls Tryz.prog 129 #[.agg #[.int .i64 6,.int .i64 op,.int .i64 n,.string s,.int .i64 m]] w fun e w'=>e = .returned (.bool (Tr.plain ⟨6,op,n,s,m⟩))∧Below w.heap.size w w':=by
 have q:Tr.inr 6 16 21=false:=by decide
 go_enter Tryz.func129,Tryz.ntmps129
 go_wp2_with (first | (go_at_call 85;refine (in_any _ _ _ _).mono ?_;rintro e w' ⟨rfl,rfl⟩) | (go_at_call 177;refine (pkg_any _ _).mono ?_;rintro e w' ⟨rfl,rfl⟩) | (go_at_call 178;refine (nameOk_any _ _).mono ?_;rintro e w1 ⟨rfl,hb1⟩))
 all_goals
  go_ret
  refine ⟨ret_bool ?_,?_⟩
  ·first
   | (simp [Tr.plain,Tr.textK, *];done)
   | (simp [Tr.plain,Tr.textK, *];omega)
   | (exfalso;simp_all)
  ·first
   | exact bA _
   | exact (bA _).trans (hb1.mono (by simp))
set_option maxRecDepth 100000 in
set_option maxHeartbeats 1000000 in
theorem plain_7 (op n m:Int) (s:ByteArray) (w:World):Calls Tryz.prog 129 #[.agg #[.int .i64 7,.int .i64 op,.int .i64 n,.string s,.int .i64 m]] w fun e w'=>e = .returned (.bool (Tr.plain ⟨7,op,n,s,m⟩))∧Below w.heap.size w w':=by
 have q:Tr.inr 7 16 21=false:=by decide
 go_enter Tryz.func129,Tryz.ntmps129
 go_wp2_with (first | (go_at_call 85;refine (in_any _ _ _ _).mono ?_;rintro e w' ⟨rfl,rfl⟩) | (go_at_call 177;refine (pkg_any _ _).mono ?_;rintro e w' ⟨rfl,rfl⟩) | (go_at_call 178;refine (nameOk_any _ _).mono ?_;rintro e w1 ⟨rfl,hb1⟩))
 all_goals
  go_ret
  refine ⟨ret_bool ?_,?_⟩
  ·first
   | (simp [Tr.plain,Tr.textK, *];done)
   | (simp [Tr.plain,Tr.textK, *];omega)
   | (exfalso;simp_all)
  ·first
   | exact bA _
   | exact (bA _).trans (hb1.mono (by simp))
set_option maxRecDepth 100000 in
set_option maxHeartbeats 1000000 in
theorem plain_17 (op n m:Int) (s:ByteArray) (w:World):Calls Tryz.prog 129 #[.agg #[.int .i64 17,.int .i64 op,.int .i64 n,.string s,.int .i64 m]] w fun e w'=>e = .returned (.bool (Tr.plain ⟨17,op,n,s,m⟩))∧Below w.heap.size w w':=by
 have q:Tr.inr 17 16 21=true:=by decide
 go_enter Tryz.func129,Tryz.ntmps129
 go_wp2_with (first | (go_at_call 85;refine (in_any _ _ _ _).mono ?_;rintro e w' ⟨rfl,rfl⟩) | (go_at_call 177;refine (pkg_any _ _).mono ?_;rintro e w' ⟨rfl,rfl⟩) | (go_at_call 178;refine (nameOk_any _ _).mono ?_;rintro e w1 ⟨rfl,hb1⟩))
 all_goals
  go_ret
  refine ⟨ret_bool ?_,?_⟩
  ·first
   | (simp [Tr.plain,Tr.textK, *];done)
   | (simp [Tr.plain,Tr.textK, *];omega)
   | (exfalso;simp_all)
  ·first
   | exact bA _
   | exact (bA _).trans (hb1.mono (by simp))
set_option maxRecDepth 100000 in
set_option maxHeartbeats 1000000 in
theorem plain_23 (op n m:Int) (s:ByteArray) (w:World):Calls Tryz.prog 129 #[.agg #[.int .i64 23,.int .i64 op,.int .i64 n,.string s,.int .i64 m]] w fun e w'=>e = .returned (.bool (Tr.plain ⟨23,op,n,s,m⟩))∧Below w.heap.size w w':=by
 have q:Tr.inr 23 16 21=false:=by decide
 go_enter Tryz.func129,Tryz.ntmps129
 go_wp2_with (first | (go_at_call 85;refine (in_any _ _ _ _).mono ?_;rintro e w' ⟨rfl,rfl⟩) | (go_at_call 177;refine (pkg_any _ _).mono ?_;rintro e w' ⟨rfl,rfl⟩) | (go_at_call 178;refine (nameOk_any _ _).mono ?_;rintro e w1 ⟨rfl,hb1⟩))
 all_goals
  go_ret
  refine ⟨ret_bool ?_,?_⟩
  ·first
   | (simp [Tr.plain,Tr.textK, *];done)
   | (simp [Tr.plain,Tr.textK, *];omega)
   | (exfalso;simp_all)
  ·first
   | exact bA _
   | exact (bA _).trans (hb1.mono (by simp))
set_option maxRecDepth 100000 in
set_option maxHeartbeats 1000000 in
theorem plain_in (k op n m:Int) (s:ByteArray) (w:World) (hk1:Tr.inr k 16 21=true) (hk2:k≠17):Calls Tryz.prog 129 #[.agg #[.int .i64 k,.int .i64 op,.int .i64 n,.string s,.int .i64 m]] w fun e w'=>e = .returned (.bool (Tr.plain ⟨k,op,n,s,m⟩))∧Below w.heap.size w w':=by
 obtain ⟨q1,q2⟩:=Tr.inr_true hk1
 have n2:k≠2:=by omega
 have n3:k≠3:=by omega
 have n4:k≠4:=by omega
 have n6:k≠6:=by omega
 have n7:k≠7:=by omega
 have n23:k≠23:=by omega
 by_cases h2:op=0
 all_goals
  go_enter Tryz.func129,Tryz.ntmps129
  go_wp2_with (first | (go_at_call 85;refine (in_any _ _ _ _).mono ?_;rintro e w' ⟨rfl,rfl⟩) | (go_at_call 177;refine (pkg_any _ _).mono ?_;rintro e w' ⟨rfl,rfl⟩) | (go_at_call 178;refine (nameOk_any _ _).mono ?_;rintro e w1 ⟨rfl,hb1⟩))
 all_goals
  go_ret
  refine ⟨ret_bool ?_,?_⟩
  ·first
   | (simp [Tr.plain,Tr.textK, *];done)
   | (simp [Tr.plain,Tr.textK, *];omega)
   | (exfalso;simp_all)
  ·first
   | exact bA _
   | exact (bA _).trans (hb1.mono (by simp))
set_option maxRecDepth 100000 in
set_option maxHeartbeats 1000000 in
theorem plain_out (k op n m:Int) (s:ByteArray) (w:World) (hk1:Tr.inr k 16 21=false) (hk:k≠2∧k≠3∧k≠4∧k≠5∧k≠11∧k≠14∧k≠6∧k≠7∧k≠17∧k≠23):Calls Tryz.prog 129 #[.agg #[.int .i64 k,.int .i64 op,.int .i64 n,.string s,.int .i64 m]] w fun e w'=>e = .returned (.bool (Tr.plain ⟨k,op,n,s,m⟩))∧Below w.heap.size w w':=by
 obtain ⟨hk2,hk3,hk4,hk5,hk11,hk14,hk6,hk7,hk17,hk23⟩:=hk
 by_cases h2:op=0
 all_goals
  go_enter Tryz.func129,Tryz.ntmps129
  go_wp2_with (first | (go_at_call 85;refine (in_any _ _ _ _).mono ?_;rintro e w' ⟨rfl,rfl⟩) | (go_at_call 177;refine (pkg_any _ _).mono ?_;rintro e w' ⟨rfl,rfl⟩) | (go_at_call 178;refine (nameOk_any _ _).mono ?_;rintro e w1 ⟨rfl,hb1⟩))
 all_goals
  go_ret
  refine ⟨ret_bool ?_,?_⟩
  ·first
   | (simp [Tr.plain,Tr.textK, *];done)
   | (simp [Tr.plain,Tr.textK, *];omega)
   | (exfalso;simp_all)
  ·first
   | exact bA _
   | exact (bA _).trans (hb1.mono (by simp))
theorem plain_any (k op n m:Int) (s:ByteArray) (w:World):Calls Tryz.prog 129 #[.agg #[.int .i64 k,.int .i64 op,.int .i64 n,.string s,.int .i64 m]] w fun e w'=>e = .returned (.bool (Tr.plain ⟨k,op,n,s,m⟩))∧Below w.heap.size w w':=by
 rcases Tr.kinds k with rfl | rfl | rfl | rfl | rfl | rfl | rfl | rfl | rfl | rfl | ⟨hk1,hk2⟩ | ⟨_,hk1,hk⟩
 ·exact plain_2 op n m s w
 ·exact plain_3 op n m s w
 ·exact plain_4 op n m s w
 ·exact plain_5 op n m s w
 ·exact plain_11 op n m s w
 ·exact plain_14 op n m s w
 ·exact plain_6 op n m s w
 ·exact plain_7 op n m s w
 ·exact plain_17 op n m s w
 ·exact plain_23 op n m s w
 ·exact plain_in k op n m s w hk1 hk2
 ·exact plain_out k op n m s w hk1 hk
end Go.Proofs.YthbojbbmpcmoaaaGreatDoor
namespace Go.Proofs.YthbojbbmpcmoaaaGreatDoor
structure Fd where
 mk ::
 (x':Tr.Nd)
 (p' b':Int)
 (ks':List Fd)
namespace Fd
def x:Fd→Tr.Nd | .mk x _ _ _=>x
def p:Fd→Int | .mk _ p _ _=>p
def b:Fd→Int | .mk _ _ b _=>b
def ks:Fd→List Fd | .mk _ _ _ ks=>ks
def size:Fd→Nat
 | .mk _ _ _ ks=>1+sizeL ks
 where
 sizeL:List Fd→Nat
 | []=>0
 | t :: r=>t.size+sizeL r
abbrev sizeL:=size.sizeL
theorem size_mk (x:Tr.Nd) (p b:Int) (ks:List Fd):(Fd.mk x p b ks).size=1+sizeL ks:=by simp [size]
theorem sizeL_nil:sizeL []=0:=by simp [size.sizeL]
theorem sizeL_cons (t:Fd) (r:List Fd):sizeL (t :: r)=t.size+sizeL r:=by simp [size.sizeL]
theorem size_pos (t:Fd):0 < t.size:=by cases t;rw [size_mk];omega
theorem size_mem {t:Fd} {l:List Fd} (h:t∈l):t.size≤sizeL l:=by
 induction l with
 | nil=>cases h
 | cons a r ih =>
  rw [sizeL_cons]
  rcases List.mem_cons.1 h with rfl | h
  ·omega
  ·have:=ih h;omega
def upd (e:ByteArray→Int) (t:ByteArray) (m:Int):ByteArray→Int:=fun s=>if s=t then m else e s
def more (U:Int→Prop) (m:Int):Int→Prop:=fun z=>U z∨z=m
def Ok:(ByteArray→Int)→(Int→Prop)→Fd→Prop
 | e,U,.mk x p b ks =>
  if x.kind=5 then b=e x.text∧ks=[]
  else if x.kind=14∨x.kind=16 then ¬ U p∧okA e U (upd e x.text p) (more U p) ks
  else if x.kind=15 then okP e U ks
  else x.kind < 20∧okL e U ks
 where
 okL:(ByteArray→Int)→(Int→Prop)→List Fd→Prop
 | _,_,[]=>True
 | e,U,t :: r=>Ok e U t∧okL e U r
 okA:(ByteArray→Int)→(Int→Prop)→(ByteArray→Int)→(Int→Prop)→List Fd→Prop
 | _,_,_,_,[]=>True
 | e,U,e',U',t :: r=>Ok e U t∧okL e' U' r
 okP:(ByteArray→Int)→(Int→Prop)→List Fd→Prop
 | _,_,[]=>True
 | e,U,t :: r=>Ok e U t∧(r≠[]→t.x.kind=19∧¬ U t.p)∧okP (upd e t.x.text t.p) (more U t.p) r
def repl (m:Int) (c:Tr.Nd):Fd→Fd
 | .mk x p b ks=>if x.kind=5∧b=m then .mk c (-1) (-1) [] else .mk x p b (replL m c ks)
 where
 replL (m:Int) (c:Tr.Nd):List Fd→List Fd
 | []=>[]
 | t :: r=>repl m c t :: replL m c r
def fill (t:ByteArray) (c:Tr.Nd):Fd→Fd
 | .mk x p b ks =>
  if x.kind=5∧x.text=t then .mk c (-1) (-1) []
  else if x.kind=14∨x.kind=16 then (if x.text=t then .mk x p b (fillA t c ks) else .mk x p b (fillL t c ks))
  else if x.kind=15 then .mk x p b (fillP t c ks)
  else .mk x p b (fillL t c ks)
 where
 fillL (t:ByteArray) (c:Tr.Nd):List Fd→List Fd
 | []=>[]
 | y :: r=>fill t c y :: fillL t c r
 fillA (t:ByteArray) (c:Tr.Nd):List Fd→List Fd
 | []=>[]
 | y :: r=>fill t c y :: r
 fillP (t:ByteArray) (c:Tr.Nd):List Fd→List Fd
 | []=>[]
 | y :: r=>fill t c y :: (if y.x.text=t then r else fillP t c r)
theorem ok_mk (e:ByteArray→Int) (U:Int→Prop) (x:Tr.Nd) (p b:Int) (ks:List Fd):Ok e U (.mk x p b ks)=(if x.kind=5 then b=e x.text∧ks=[]
  else if x.kind=14∨x.kind=16 then ¬ U p∧Ok.okA e U (upd e x.text p) (more U p) ks
  else if x.kind=15 then Ok.okP e U ks
  else x.kind < 20∧Ok.okL e U ks):=by rw [Ok]
theorem okL_iff (e:ByteArray→Int) (U:Int→Prop) (l:List Fd):Ok.okL e U l↔∀ t∈l,Ok e U t:=by
 induction l with
 | nil=>simp [Ok.okL]
 | cons t r ih=>simp [Ok.okL,ih]
theorem okA_cons (e:ByteArray→Int) (U:Int→Prop) (e':ByteArray→Int) (U':Int→Prop) (t:Fd) (r:List Fd):Ok.okA e U e' U' (t :: r)↔Ok e U t∧∀ y∈r,Ok e' U' y:=by
 rw [Ok.okA,okL_iff]
theorem okA_nil (e:ByteArray→Int) (U:Int→Prop) (e':ByteArray→Int) (U':Int→Prop):Ok.okA e U e' U' []:=by simp [Ok.okA]
theorem okP_nil (e:ByteArray→Int) (U:Int→Prop):Ok.okP e U []:=by simp [Ok.okP]
theorem okP_cons (e:ByteArray→Int) (U:Int→Prop) (t:Fd) (r:List Fd):Ok.okP e U (t :: r)↔Ok e U t∧(r≠[]→t.x.kind=19∧¬ U t.p)∧Ok.okP (upd e t.x.text t.p) (more U t.p) r:=by rw [Ok.okP]
theorem repl_mk (m:Int) (c:Tr.Nd) (x:Tr.Nd) (p b:Int) (ks:List Fd):repl m c (.mk x p b ks)=if x.kind=5∧b=m then .mk c (-1) (-1) [] else .mk x p b (ks.map (repl m c)):=by
 have h:∀ l,repl.replL m c l=l.map (repl m c):=by
  intro l
  induction l with
  | nil=>simp [repl.replL]
  | cons t r ih=>simp [repl.replL,ih]
 rw [repl,h]
theorem fillL_map (t:ByteArray) (c:Tr.Nd) (l:List Fd):fill.fillL t c l=l.map (fill t c):=by
 induction l with
 | nil=>simp [fill.fillL]
 | cons y r ih=>simp [fill.fillL,ih]
theorem fill_mk (t:ByteArray) (c:Tr.Nd) (x:Tr.Nd) (p b:Int) (ks:List Fd):fill t c (.mk x p b ks)=(if x.kind=5∧x.text=t then .mk c (-1) (-1) []
  else if x.kind=14∨x.kind=16 then (if x.text=t then .mk x p b (fill.fillA t c ks) else .mk x p b (ks.map (fill t c)))
  else if x.kind=15 then .mk x p b (fill.fillP t c ks)
  else .mk x p b (ks.map (fill t c))):=by rw [fill,fillL_map]
theorem fillA_cons (t:ByteArray) (c:Tr.Nd) (y:Fd) (r:List Fd):fill.fillA t c (y :: r)=fill t c y :: r:=by simp [fill.fillA]
theorem fillA_nil (t:ByteArray) (c:Tr.Nd):fill.fillA t c []=[]:=by simp [fill.fillA]
theorem fillP_cons (t:ByteArray) (c:Tr.Nd) (y:Fd) (r:List Fd):fill.fillP t c (y :: r)=fill t c y :: (if y.x.text=t then r else fill.fillP t c r):=by rw [fill.fillP]
theorem fillP_nil (t:ByteArray) (c:Tr.Nd):fill.fillP t c []=[]:=by simp [fill.fillP]
theorem upd_at (e:ByteArray→Int) (t:ByteArray) (m:Int):upd e t m t=m:=by simp [upd]
theorem upd_ne (e:ByteArray→Int) {t s:ByteArray} (m:Int) (h:s≠t):upd e t m s=e s:=by simp [upd,h]
theorem upd_hid {e:ByteArray→Int} {t:ByteArray} {m z:Int} (h:∀ s,e s≠m) (hz:z≠m):∀ s,upd e t z s≠m:=by
 intro s
 by_cases hs:s=t
 ·subst hs;rw [upd_at];exact hz
 ·rw [upd_ne e z hs];exact h s
theorem repl_hid (m:Int) (c:Tr.Nd):∀ (n:Nat) (y:Fd),y.size≤n→∀ (e:ByteArray→Int) (U:Int→Prop),Ok e U y→(∀ s,e s≠m)→U m→repl m c y=y:=by
 intro n
 induction n with
 | zero=>intro y hy;have:=size_pos y;omega
 | succ n ih =>
  intro y hy e U ho hh hU
  obtain ⟨x,p,b,ks⟩:=y
  rw [size_mk] at hy
  have hs:∀ t∈ks,t.size≤n:=fun t ht=>by have:=size_mem ht;omega
  rw [repl_mk]
  rw [ok_mk] at ho
  by_cases h5:x.kind=5
  ·rw [if_pos h5] at ho
   obtain ⟨hb,hk⟩:=ho
   rw [if_neg (by rintro ⟨_,h⟩;exact hh _ (hb.symm.trans h)),hk]
   rfl
  ·rw [if_neg (fun h=>h5 h.1)]
   rw [if_neg h5] at ho
   have key:ks.map (repl m c)=ks:=by
    by_cases h14:x.kind=14∨x.kind=16
    ·rw [if_pos h14] at ho
     obtain ⟨hp,ha⟩:=ho
     have hpm:p≠m:=fun h=>hp (h ▸ hU)
     cases ks with
     | nil=>rfl
     | cons t r =>
      obtain ⟨h1,h2⟩:=(okA_cons _ _ _ _ _ _).1 ha
      rw [List.map_cons,ih t (hs t (by simp)) e U h1 hh hU]
      congr 1
      refine (List.map_congr_left fun y hy=>?_).trans (List.map_id _)
      exact ih y (hs y (by simp [hy])) _ _ (h2 y hy) (upd_hid hh hpm) (.inl hU)
    ·rw [if_neg h14] at ho
     by_cases h15:x.kind=15
     ·rw [if_pos h15] at ho
      clear hy h14 h15 h5
      induction ks generalizing e U with
      | nil=>rfl
      | cons t r ihr =>
       obtain ⟨h1,h2,h3⟩:=(okP_cons _ _ _ _).1 ho
       rw [List.map_cons,ih t (hs t (by simp)) e U h1 hh hU]
       congr 1
       by_cases hr:r=[]
       ·subst hr;rfl
       ·have hpm:t.p≠m:=fun h=>(h2 hr).2 (h ▸ hU)
        exact ihr _ _ (upd_hid hh hpm) (.inl hU) h3 (fun y hy=>hs y (by simp [hy]))
     ·rw [if_neg h15] at ho
      have hl:=(okL_iff _ _ _).1 ho.2
      exact (List.map_congr_left fun y hy=>ih y (hs y hy) e U (hl y hy) hh hU).trans (List.map_id _)
   rw [key]
theorem upd_vis {e:ByteArray→Int} {t t':ByteArray} {m z:Int} (h:∀ s,e s=m↔s=t) (hz:z≠m) (hn:t'≠t):∀ s,upd e t' z s=m↔s=t:=by
 intro s
 by_cases hs:s=t'
 ·subst hs;rw [upd_at];exact ⟨fun h=>absurd h hz,fun h=>absurd h hn⟩
 ·rw [upd_ne e z hs];exact h s
theorem upd_gone {e:ByteArray→Int} {t:ByteArray} {m z:Int} (h:∀ s,e s=m↔s=t) (hz:z≠m):∀ s,upd e t z s≠m:=by
 intro s
 by_cases hs:s=t
 ·subst hs;rw [upd_at];exact hz
 ·rw [upd_ne e z hs];exact fun h2=>hs ((h s).1 h2)
theorem fill_eq (m:Int) (t:ByteArray) (c:Tr.Nd):∀ (n:Nat) (y:Fd),y.size≤n→∀ (e:ByteArray→Int) (U:Int→Prop),Ok e U y→(∀ s,e s=m↔s=t)→U m→fill t c y=repl m c y:=by
 intro n
 induction n with
 | zero=>intro y hy;have:=size_pos y;omega
 | succ n ih =>
  intro y hy e U ho hh hU
  obtain ⟨x,p,b,ks⟩:=y
  rw [size_mk] at hy
  have hs:∀ t∈ks,t.size≤n:=fun t ht=>by have:=size_mem ht;omega
  rw [repl_mk,fill_mk]
  rw [ok_mk] at ho
  by_cases h5:x.kind=5
  ·rw [if_pos h5] at ho
   obtain ⟨hb,hk⟩:=ho
   have hiff:b=m↔x.text=t:=by rw [hb];exact hh _
   by_cases hx:x.text=t
   ·rw [if_pos ⟨h5,hx⟩,if_pos ⟨h5,hiff.2 hx⟩]
   ·have n1:¬ (x.kind=5∧x.text=t):=fun h=>hx h.2
    have n2:¬ (x.kind=5∧b=m):=fun h=>hx (hiff.1 h.2)
    have n3:¬ (x.kind=14∨x.kind=16):=by omega
    have n4:¬ x.kind=15:=by omega
    rw [if_neg n1,if_neg n2,if_neg n3,if_neg n4,hk]
    rfl
  ·have n1:¬ (x.kind=5∧x.text=t):=fun h=>h5 h.1
   have n2:¬ (x.kind=5∧b=m):=fun h=>h5 h.1
   rw [if_neg n1,if_neg n2]
   rw [if_neg h5] at ho
   by_cases h14:x.kind=14∨x.kind=16
   ·rw [if_pos h14] at ho ⊢
    obtain ⟨hp,ha⟩:=ho
    have hpm:p≠m:=fun h=>hp (h ▸ hU)
    cases ks with
    | nil=>simp [fillA_nil]
    | cons y r =>
     obtain ⟨h1,h2⟩:=(okA_cons _ _ _ _ _ _).1 ha
     have e1:=ih y (hs y (by simp)) e U h1 hh hU
     by_cases hx:x.text=t
     ·subst hx
      rw [if_pos rfl,fillA_cons,List.map_cons,e1]
      have:r.map (repl m c)=r:=(List.map_congr_left fun z hz=>repl_hid m c n z (hs z (by simp [hz])) _ _ (h2 z hz) (upd_gone hh hpm) (.inl hU)).trans (List.map_id _)
      rw [this]
     ·rw [if_neg hx,List.map_cons,List.map_cons,e1]
      rw [List.map_congr_left fun z hz=>ih z (hs z (by simp [hz])) _ _ (h2 z hz) (upd_vis hh hpm hx) (.inl hU)]
   ·rw [if_neg h14] at ho ⊢
    by_cases h15:x.kind=15
    ·rw [if_pos h15] at ho ⊢
     congr 1
     clear hy h14 h15 h5
     induction ks generalizing e U with
     | nil=>simp [fillP_nil]
     | cons y r ihr =>
      obtain ⟨h1,h2,h3⟩:=(okP_cons _ _ _ _).1 ho
      rw [List.map_cons,fillP_cons,ih y (hs y (by simp)) e U h1 hh hU]
      congr 1
      by_cases hr:r=[]
      ·subst hr;simp [fillP_nil]
      ·have hpm:y.p≠m:=fun h=>(h2 hr).2 (h ▸ hU)
       by_cases hx:y.x.text=t
       ·rw [if_pos hx]
        subst hx
        have hg:=upd_gone hh hpm
        have hs':∀ z∈r,z.size≤n:=fun z hz=>hs z (by simp [hz])
        have hU':more U y.p m:= .inl hU
        clear ihr hr h2 hh ho
        generalize upd e y.x.text y.p=e' at *
        generalize more U y.p=U' at *
        clear hs
        induction r generalizing e' U' with
        | nil=>rfl
        | cons z r ihz =>
         obtain ⟨g1,g2,g3⟩:=(okP_cons _ _ _ _).1 h3
         rw [List.map_cons,repl_hid m c n z (hs' z (by simp)) _ _ g1 hg hU']
         congr 1
         by_cases hr:r=[]
         ·subst hr;rfl
         ·have hzm:z.p≠m:=fun h=>(g2 hr).2 (h ▸ hU')
          first | exact ihz (fun y hy=>hs' y (by simp [hy])) _ (upd_hid hg hzm) _ g3 (.inl hU') | exact ihz (fun y hy=>hs' y (by simp [hy])) _ _ g3 (upd_hid hg hzm) (.inl hU') | exact ihz (fun y hy=>hs' y (by simp [hy])) _ (upd_hid hg hzm) _ (.inl hU') g3
       ·rw [if_neg hx]
        exact ihr _ _ (upd_vis hh hpm hx) (.inl hU) h3 (fun z hz=>hs z (by simp [hz]))
    ·rw [if_neg h15] at ho ⊢
     have hl:=(okL_iff _ _ _).1 ho.2
     rw [List.map_congr_left fun z hz=>ih z (hs z hz) e U (hl z hz) hh hU]
end Fd
end Go.Proofs.YthbojbbmpcmoaaaGreatDoor
