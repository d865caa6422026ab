/- Je, Jg, Jh, Ji. -/
import Derived.Test.YtimbaebigjjkaaaGreatDoorP40
import Derived.Test.YtimbaebigjjkaaaGreatDoorP13
import Derived.Deep.RegionLaw
namespace Go.Proofs.YtimbaebigjjkaaaGreatDoor
open Go.RowKit
theorem Ka {w w1:World} {o:Obj} (h:Below (w.alloc o).heap.size (w.alloc o) w1) (i:Nat) (v:Value):Below w.heap.size w (w1.setCell ⟨w.heap.size,i,none⟩ v) :=
 ((bA _).trans (h.mono (by simp))).setCell (by exact Nat.le_refl _) v
theorem box5 {w w1:World} {a b c d e:Value} {t:TypeId} (h:Below (w.alloc (.cells #[a,b,c,d,e] t)).heap.size (w.alloc (.cells #[a,b,c,d,e] t)) w1):w1.cell? ⟨w.heap.size,0,none⟩=some a∧w1.cell? ⟨w.heap.size,1,none⟩=some b∧w1.cell? ⟨w.heap.size,2,none⟩=some c∧w1.cell? ⟨w.heap.size,3,none⟩=some d∧w1.cell? ⟨w.heap.size,4,none⟩=some e∧w1.frozen? ⟨w.heap.size,3,none⟩=false:=by
 have hb:w1.heap[w.heap.size]?=some (.cells #[a,b,c,d,e] t):=(h.block w.heap.size (by simp)).trans (Xi w _)
 have hf:w1.frozen? ⟨w.heap.size,3,none⟩=(w.alloc (.cells #[a,b,c,d,e] t)).frozen? ⟨w.heap.size,3,none⟩:=h.frozen (p:=⟨w.heap.size,3,none⟩) (by simp)
 refine ⟨?_,?_,?_,?_,?_,?_⟩
 all_goals first | (rw [World.cell?,hb];rfl) | (rw [hf];simp)
theorem Tr.plain_f2 (op n m:Int) (s:ByteArray):X9 ⟨2,op,n,s,m⟩=((n == 0 || n == 1) && (op == 0) && s.toList.isEmpty):=by
 rw [Bool.eq_iff_iff];simp [X9,XA,Xn];grind
theorem Tr.plain_f3 (op n m:Int) (s:ByteArray):X9 ⟨3,op,n,s,m⟩=(decide (0≤n) && (op == 0) && s.toList.isEmpty):=by
 rw [Bool.eq_iff_iff];simp [X9,XA,Xn];grind
theorem Tr.plain_f6 (op n m:Int) (s:ByteArray):X9 ⟨6,op,n,s,m⟩=((op == 1 || op == 2) && (n == 0) && s.toList.isEmpty):=by
 rw [Bool.eq_iff_iff];simp [X9,XA,Xn];grind
theorem Tr.plain_f7 (op n m:Int) (s:ByteArray):X9 ⟨7,op,n,s,m⟩=(decide (1≤op) && decide (op≤14) && (n == 0) && s.toList.isEmpty):=by
 rw [Bool.eq_iff_iff];simp [X9,XA,Xn];grind
theorem Tr.plain_f4 (op n m:Int) (s:ByteArray):X9 ⟨4,op,n,s,m⟩=(decide ((s.size:Int)≤1000) && (op == 0) && (n == 0)):=by
 rw [Bool.eq_iff_iff];simp [X9,XA,Xn];grind
theorem Tr.plain_f17 (op n m:Int) (s:ByteArray):X9 ⟨17,op,n,s,m⟩=(decide ((s.size:Int)≤1000) && (op == 0) && (n == 0)):=by
 rw [Bool.eq_iff_iff];simp [X9,XA,Xn];grind
theorem Tr.plain_f23 (op n m:Int) (s:ByteArray):X9 ⟨23,op,n,s,m⟩=(ZW s && (op == 0) && (n == 0)):=by
 rw [Bool.eq_iff_iff];simp [X9,XA,Xn];grind
theorem Tr.plain_f5 (op n m:Int) (s:ByteArray):X9 ⟨5,op,n,s,m⟩=(XZ s && (op == 0) && (n == 0)):=by
 rw [Bool.eq_iff_iff];simp [X9,XA,Xn];grind
theorem Tr.plain_f11 (op n m:Int) (s:ByteArray):X9 ⟨11,op,n,s,m⟩=(XZ s && (op == 0) && (n == 0)):=by
 rw [Bool.eq_iff_iff];simp [X9,XA,Xn];grind
theorem Tr.plain_f14 (op n m:Int) (s:ByteArray):X9 ⟨14,op,n,s,m⟩=(XZ s && (op == 0) && (n == 0)):=by
 rw [Bool.eq_iff_iff];simp [X9,XA,Xn];grind
theorem Tr.plain_f16 (op n m:Int) (s:ByteArray):X9 ⟨16,op,n,s,m⟩=(XZ s && (op == 0) && (n == 0)):=by
 rw [Bool.eq_iff_iff];simp [X9,XA,Xn];grind
theorem Tr.plain_f18 (op n m:Int) (s:ByteArray):X9 ⟨18,op,n,s,m⟩=(XZ s && (op == 0) && (n == 0)):=by
 rw [Bool.eq_iff_iff];simp [X9,XA,Xn];grind
theorem Tr.plain_f19 (op n m:Int) (s:ByteArray):X9 ⟨19,op,n,s,m⟩=(XZ s && (op == 0) && (n == 0)):=by
 rw [Bool.eq_iff_iff];simp [X9,XA,Xn];grind
theorem Tr.plain_f20 (op n m:Int) (s:ByteArray):X9 ⟨20,op,n,s,m⟩=(XZ s && (op == 0) && (n == 0)):=by
 rw [Bool.eq_iff_iff];simp [X9,XA,Xn];grind
theorem Tr.plain_f21 (op n m:Int) (s:ByteArray):X9 ⟨21,op,n,s,m⟩=(XZ s && (op == 0) && (n == 0)):=by
 rw [Bool.eq_iff_iff];simp [X9,XA,Xn];grind
theorem Tr.plain_fo (k op n m:Int) (s:ByteArray) (h:XA k=false) (h2:k≠2) (h3:k≠3) (h6:k≠6) (h7:k≠7) (h4:k≠4) (h17:k≠17) (h23:k≠23):X9 ⟨k,op,n,s,m⟩=((op == 0) && (n == 0) && s.toList.isEmpty):=by
 rw [Bool.eq_iff_iff];simp [X9,h,h2,h3,h6,h7,h4,h17,h23];grind
set_option maxRecDepth 100000 in
set_option maxHeartbeats 1000000 in
theorem uses_2 (op n m:Int) (s:ByteArray) (b:Nat) (w:World) (_hs:s.size≤1048576) (hm:w.ownsMap (H:=Unit) Tryz.prog 9 unitElem b 17 Sc.wordMap) :
  Calls Tryz.prog 46 #[.agg #[.int .i64 2,.int .i64 op,.int .i64 n,.string s,.int .i64 m],.map (some b)] w fun e w'=>e = .returned (.bool (X9 ⟨2,op,n,s,m⟩))∧Below w.heap.size w w':=by
 have HM:=X1 hm
 have HF:=X1 (Tr.plain_f2 op n m s)
 clear hm
 go_enter Tryz.func46,Tryz.ntmps46
 go_wp2
 all_goals
  go_ret
  refine ⟨X8 ?_,bA _⟩
  rw [HF.o]
  first | (simp [*];done) | (simp_all;done) | (simp_all;intros;omega)
set_option maxRecDepth 100000 in
set_option maxHeartbeats 1000000 in
theorem uses_3 (op n m:Int) (s:ByteArray) (b:Nat) (w:World) (_hs:s.size≤1048576) (hm:w.ownsMap (H:=Unit) Tryz.prog 9 unitElem b 17 Sc.wordMap) :
  Calls Tryz.prog 46 #[.agg #[.int .i64 3,.int .i64 op,.int .i64 n,.string s,.int .i64 m],.map (some b)] w fun e w'=>e = .returned (.bool (X9 ⟨3,op,n,s,m⟩))∧Below w.heap.size w w':=by
 have HM:=X1 hm
 have HF:=X1 (Tr.plain_f3 op n m s)
 clear hm
 go_enter Tryz.func46,Tryz.ntmps46
 go_wp2
 all_goals
  go_ret
  refine ⟨X8 ?_,bA _⟩
  rw [HF.o]
  first | (simp [*];done) | (simp_all;done) | (simp_all;intros;omega)
set_option maxRecDepth 100000 in
set_option maxHeartbeats 1000000 in
theorem uses_6 (op n m:Int) (s:ByteArray) (b:Nat) (w:World) (_hs:s.size≤1048576) (hm:w.ownsMap (H:=Unit) Tryz.prog 9 unitElem b 17 Sc.wordMap) :
  Calls Tryz.prog 46 #[.agg #[.int .i64 6,.int .i64 op,.int .i64 n,.string s,.int .i64 m],.map (some b)] w fun e w'=>e = .returned (.bool (X9 ⟨6,op,n,s,m⟩))∧Below w.heap.size w w':=by
 have HM:=X1 hm
 have HF:=X1 (Tr.plain_f6 op n m s)
 clear hm
 go_enter Tryz.func46,Tryz.ntmps46
 go_wp2
 all_goals
  go_ret
  refine ⟨X8 ?_,bA _⟩
  rw [HF.o]
  first | (simp [*];done) | (simp_all;done) | (simp_all;intros;omega)
set_option maxRecDepth 100000 in
set_option maxHeartbeats 1000000 in
theorem uses_7 (op n m:Int) (s:ByteArray) (b:Nat) (w:World) (_hs:s.size≤1048576) (hm:w.ownsMap (H:=Unit) Tryz.prog 9 unitElem b 17 Sc.wordMap) :
  Calls Tryz.prog 46 #[.agg #[.int .i64 7,.int .i64 op,.int .i64 n,.string s,.int .i64 m],.map (some b)] w fun e w'=>e = .returned (.bool (X9 ⟨7,op,n,s,m⟩))∧Below w.heap.size w w':=by
 have HM:=X1 hm
 have HF:=X1 (Tr.plain_f7 op n m s)
 clear hm
 go_enter Tryz.func46,Tryz.ntmps46
 go_wp2
 all_goals
  go_ret
  refine ⟨X8 ?_,bA _⟩
  rw [HF.o]
  first | (simp [*];done) | (simp_all;done) | (simp_all;intros;omega)
set_option maxRecDepth 100000 in
set_option maxHeartbeats 1000000 in
theorem uses_4 (op n m:Int) (s:ByteArray) (b:Nat) (w:World) (_hs:s.size≤1048576) (hm:w.ownsMap (H:=Unit) Tryz.prog 9 unitElem b 17 Sc.wordMap) :
  Calls Tryz.prog 46 #[.agg #[.int .i64 4,.int .i64 op,.int .i64 n,.string s,.int .i64 m],.map (some b)] w fun e w'=>e = .returned (.bool (X9 ⟨4,op,n,s,m⟩))∧Below w.heap.size w w':=by
 have HM:=X1 hm
 have HF:=X1 (Tr.plain_f4 op n m s)
 clear hm
 go_enter Tryz.func46,Tryz.ntmps46
 go_wp2
 all_goals
  go_ret
  refine ⟨X8 ?_,bA _⟩
  rw [HF.o]
  first | (simp [*];done) | (simp_all;done) | (simp_all;intros;omega)
set_option maxRecDepth 100000 in
set_option maxHeartbeats 1000000 in
theorem uses_17 (op n m:Int) (s:ByteArray) (b:Nat) (w:World) (_hs:s.size≤1048576) (hm:w.ownsMap (H:=Unit) Tryz.prog 9 unitElem b 17 Sc.wordMap) :
  Calls Tryz.prog 46 #[.agg #[.int .i64 17,.int .i64 op,.int .i64 n,.string s,.int .i64 m],.map (some b)] w fun e w'=>e = .returned (.bool (X9 ⟨17,op,n,s,m⟩))∧Below w.heap.size w w':=by
 have HM:=X1 hm
 have HF:=X1 (Tr.plain_f17 op n m s)
 clear hm
 go_enter Tryz.func46,Tryz.ntmps46
 go_wp2
 all_goals
  go_ret
  refine ⟨X8 ?_,bA _⟩
  rw [HF.o]
  first | (simp [*];done) | (simp_all;done) | (simp_all;intros;omega)
set_option maxRecDepth 100000 in
set_option maxHeartbeats 1000000 in
theorem uses_23 (op n m:Int) (s:ByteArray) (b:Nat) (w:World) (hs:s.size≤1048576) (hm:w.ownsMap (H:=Unit) Tryz.prog 9 unitElem b 17 Sc.wordMap) :
  Calls Tryz.prog 46 #[.agg #[.int .i64 23,.int .i64 op,.int .i64 n,.string s,.int .i64 m],.map (some b)] w fun e w'=>e = .returned (.bool (X9 ⟨23,op,n,s,m⟩))∧Below w.heap.size w w':=by
 have HM:=X1 hm
 have HF:=X1 (Tr.plain_f23 op n m s)
 clear hm
 go_enter Tryz.func46,Tryz.ntmps46
 go_wp2_with (go_at_call 70;refine (isPkg_any _ _ hs).mono ?_;rintro e w' ⟨rfl,rfl⟩)
 all_goals
  go_ret
  refine ⟨X8 ?_,bA _⟩
  rw [HF.o]
  first | (simp [*];done) | (simp_all;done) | (simp_all;intros;omega)
set_option maxRecDepth 100000 in
set_option maxHeartbeats 1000000 in
theorem uses_5 (op n m:Int) (s:ByteArray) (b:Nat) (w:World) (hs:s.size≤1048576) (hm:w.ownsMap (H:=Unit) Tryz.prog 9 unitElem b 17 Sc.wordMap) :
  Calls Tryz.prog 46 #[.agg #[.int .i64 5,.int .i64 op,.int .i64 n,.string s,.int .i64 m],.map (some b)] w fun e w'=>e = .returned (.bool (X9 ⟨5,op,n,s,m⟩))∧Below w.heap.size w w':=by
 have HM:=X1 hm
 have HF:=X1 (Tr.plain_f5 op n m s)
 clear hm
 go_enter Tryz.func46,Tryz.ntmps46
 go_wp2_with (go_at_call 39;refine (isName_any s b _ hs (HM.o.alloc _)).mono ?_;rintro e w1 ⟨rfl,a⟩;obtain ⟨x0,x1,x2,x3,x4,x5⟩:=box5 a;have hz1:w.heap.size < w1.heap.size:=Nat.lt_of_lt_of_le (by simp) a.size)
 all_goals
  go_ret
  refine ⟨X8 ?_,Ka a _ _⟩
  rw [HF.o]
  first | (simp [*];done) | (simp_all;done) | (simp_all;intros;omega)
set_option maxRecDepth 100000 in
set_option maxHeartbeats 1000000 in
theorem uses_11 (op n m:Int) (s:ByteArray) (b:Nat) (w:World) (hs:s.size≤1048576) (hm:w.ownsMap (H:=Unit) Tryz.prog 9 unitElem b 17 Sc.wordMap) :
  Calls Tryz.prog 46 #[.agg #[.int .i64 11,.int .i64 op,.int .i64 n,.string s,.int .i64 m],.map (some b)] w fun e w'=>e = .returned (.bool (X9 ⟨11,op,n,s,m⟩))∧Below w.heap.size w w':=by
 have HM:=X1 hm
 have HF:=X1 (Tr.plain_f11 op n m s)
 clear hm
 go_enter Tryz.func46,Tryz.ntmps46
 go_wp2_with (go_at_call 39;refine (isName_any s b _ hs (HM.o.alloc _)).mono ?_;rintro e w1 ⟨rfl,a⟩;obtain ⟨x0,x1,x2,x3,x4,x5⟩:=box5 a;have hz1:w.heap.size < w1.heap.size:=Nat.lt_of_lt_of_le (by simp) a.size)
 all_goals
  go_ret
  refine ⟨X8 ?_,Ka a _ _⟩
  rw [HF.o]
  first | (simp [*];done) | (simp_all;done) | (simp_all;intros;omega)
set_option maxRecDepth 100000 in
set_option maxHeartbeats 1000000 in
theorem uses_14 (op n m:Int) (s:ByteArray) (b:Nat) (w:World) (hs:s.size≤1048576) (hm:w.ownsMap (H:=Unit) Tryz.prog 9 unitElem b 17 Sc.wordMap) :
  Calls Tryz.prog 46 #[.agg #[.int .i64 14,.int .i64 op,.int .i64 n,.string s,.int .i64 m],.map (some b)] w fun e w'=>e = .returned (.bool (X9 ⟨14,op,n,s,m⟩))∧Below w.heap.size w w':=by
 have HM:=X1 hm
 have HF:=X1 (Tr.plain_f14 op n m s)
 clear hm
 go_enter Tryz.func46,Tryz.ntmps46
 go_wp2_with (go_at_call 39;refine (isName_any s b _ hs (HM.o.alloc _)).mono ?_;rintro e w1 ⟨rfl,a⟩;obtain ⟨x0,x1,x2,x3,x4,x5⟩:=box5 a;have hz1:w.heap.size < w1.heap.size:=Nat.lt_of_lt_of_le (by simp) a.size)
 all_goals
  go_ret
  refine ⟨X8 ?_,Ka a _ _⟩
  rw [HF.o]
  first | (simp [*];done) | (simp_all;done) | (simp_all;intros;omega)
set_option maxRecDepth 100000 in
set_option maxHeartbeats 1000000 in
theorem uses_16 (op n m:Int) (s:ByteArray) (b:Nat) (w:World) (hs:s.size≤1048576) (hm:w.ownsMap (H:=Unit) Tryz.prog 9 unitElem b 17 Sc.wordMap) :
  Calls Tryz.prog 46 #[.agg #[.int .i64 16,.int .i64 op,.int .i64 n,.string s,.int .i64 m],.map (some b)] w fun e w'=>e = .returned (.bool (X9 ⟨16,op,n,s,m⟩))∧Below w.heap.size w w':=by
 have HM:=X1 hm
 have HF:=X1 (Tr.plain_f16 op n m s)
 clear hm
 go_enter Tryz.func46,Tryz.ntmps46
 go_wp2_with (go_at_call 39;refine (isName_any s b _ hs (HM.o.alloc _)).mono ?_;rintro e w1 ⟨rfl,a⟩;obtain ⟨x0,x1,x2,x3,x4,x5⟩:=box5 a;have hz1:w.heap.size < w1.heap.size:=Nat.lt_of_lt_of_le (by simp) a.size)
 all_goals
  go_ret
  refine ⟨X8 ?_,Ka a _ _⟩
  rw [HF.o]
  first | (simp [*];done) | (simp_all;done) | (simp_all;intros;omega)
set_option maxRecDepth 100000 in
set_option maxHeartbeats 1000000 in
theorem uses_18 (op n m:Int) (s:ByteArray) (b:Nat) (w:World) (hs:s.size≤1048576) (hm:w.ownsMap (H:=Unit) Tryz.prog 9 unitElem b 17 Sc.wordMap) :
  Calls Tryz.prog 46 #[.agg #[.int .i64 18,.int .i64 op,.int .i64 n,.string s,.int .i64 m],.map (some b)] w fun e w'=>e = .returned (.bool (X9 ⟨18,op,n,s,m⟩))∧Below w.heap.size w w':=by
 have HM:=X1 hm
 have HF:=X1 (Tr.plain_f18 op n m s)
 clear hm
 go_enter Tryz.func46,Tryz.ntmps46
 go_wp2_with (go_at_call 39;refine (isName_any s b _ hs (HM.o.alloc _)).mono ?_;rintro e w1 ⟨rfl,a⟩;obtain ⟨x0,x1,x2,x3,x4,x5⟩:=box5 a;have hz1:w.heap.size < w1.heap.size:=Nat.lt_of_lt_of_le (by simp) a.size)
 all_goals
  go_ret
  refine ⟨X8 ?_,Ka a _ _⟩
  rw [HF.o]
  first | (simp [*];done) | (simp_all;done) | (simp_all;intros;omega)
set_option maxRecDepth 100000 in
set_option maxHeartbeats 1000000 in
theorem uses_19 (op n m:Int) (s:ByteArray) (b:Nat) (w:World) (hs:s.size≤1048576) (hm:w.ownsMap (H:=Unit) Tryz.prog 9 unitElem b 17 Sc.wordMap) :
  Calls Tryz.prog 46 #[.agg #[.int .i64 19,.int .i64 op,.int .i64 n,.string s,.int .i64 m],.map (some b)] w fun e w'=>e = .returned (.bool (X9 ⟨19,op,n,s,m⟩))∧Below w.heap.size w w':=by
 have HM:=X1 hm
 have HF:=X1 (Tr.plain_f19 op n m s)
 clear hm
 go_enter Tryz.func46,Tryz.ntmps46
 go_wp2_with (go_at_call 39;refine (isName_any s b _ hs (HM.o.alloc _)).mono ?_;rintro e w1 ⟨rfl,a⟩;obtain ⟨x0,x1,x2,x3,x4,x5⟩:=box5 a;have hz1:w.heap.size < w1.heap.size:=Nat.lt_of_lt_of_le (by simp) a.size)
 all_goals
  go_ret
  refine ⟨X8 ?_,Ka a _ _⟩
  rw [HF.o]
  first | (simp [*];done) | (simp_all;done) | (simp_all;intros;omega)
set_option maxRecDepth 100000 in
set_option maxHeartbeats 1000000 in
theorem uses_20 (op n m:Int) (s:ByteArray) (b:Nat) (w:World) (hs:s.size≤1048576) (hm:w.ownsMap (H:=Unit) Tryz.prog 9 unitElem b 17 Sc.wordMap) :
  Calls Tryz.prog 46 #[.agg #[.int .i64 20,.int .i64 op,.int .i64 n,.string s,.int .i64 m],.map (some b)] w fun e w'=>e = .returned (.bool (X9 ⟨20,op,n,s,m⟩))∧Below w.heap.size w w':=by
 have HM:=X1 hm
 have HF:=X1 (Tr.plain_f20 op n m s)
 clear hm
 go_enter Tryz.func46,Tryz.ntmps46
 go_wp2_with (go_at_call 39;refine (isName_any s b _ hs (HM.o.alloc _)).mono ?_;rintro e w1 ⟨rfl,a⟩;obtain ⟨x0,x1,x2,x3,x4,x5⟩:=box5 a;have hz1:w.heap.size < w1.heap.size:=Nat.lt_of_lt_of_le (by simp) a.size)
 all_goals
  go_ret
  refine ⟨X8 ?_,Ka a _ _⟩
  rw [HF.o]
  first | (simp [*];done) | (simp_all;done) | (simp_all;intros;omega)
set_option maxRecDepth 100000 in
set_option maxHeartbeats 1000000 in
theorem uses_21 (op n m:Int) (s:ByteArray) (b:Nat) (w:World) (hs:s.size≤1048576) (hm:w.ownsMap (H:=Unit) Tryz.prog 9 unitElem b 17 Sc.wordMap) :
  Calls Tryz.prog 46 #[.agg #[.int .i64 21,.int .i64 op,.int .i64 n,.string s,.int .i64 m],.map (some b)] w fun e w'=>e = .returned (.bool (X9 ⟨21,op,n,s,m⟩))∧Below w.heap.size w w':=by
 have HM:=X1 hm
 have HF:=X1 (Tr.plain_f21 op n m s)
 clear hm
 go_enter Tryz.func46,Tryz.ntmps46
 go_wp2_with (go_at_call 39;refine (isName_any s b _ hs (HM.o.alloc _)).mono ?_;rintro e w1 ⟨rfl,a⟩;obtain ⟨x0,x1,x2,x3,x4,x5⟩:=box5 a;have hz1:w.heap.size < w1.heap.size:=Nat.lt_of_lt_of_le (by simp) a.size)
 all_goals
  go_ret
  refine ⟨X8 ?_,Ka a _ _⟩
  rw [HF.o]
  first | (simp [*];done) | (simp_all;done) | (simp_all;intros;omega)
set_option maxRecDepth 100000 in
set_option maxHeartbeats 1000000 in
theorem uses_other (k op n m:Int) (s:ByteArray) (b:Nat) (w:World) (h:XA k=false) (h2:k≠2) (h3:k≠3) (h6:k≠6) (h7:k≠7) :
  Calls Tryz.prog 46 #[.agg #[.int .i64 k,.int .i64 op,.int .i64 n,.string s,.int .i64 m],.map (some b)] w fun e w'=>e = .returned (.bool (X9 ⟨k,op,n,s,m⟩))∧Below w.heap.size w w':=by
 have hk:k≠4∧k≠5∧k≠11∧k≠14∧k≠16∧k≠17∧k≠18∧k≠19∧k≠20∧k≠21∧k≠23:=by
  simp [XA,Xn] at h;omega
 have HF:=X1 (Tr.plain_fo k op n m s h h2 h3 h6 h7 hk.1 hk.2.2.2.2.2.1 hk.2.2.2.2.2.2.2.2.2.2)
 have q2:(k == 2)=false:=by simp;omega
 have q3:(k == 3)=false:=by simp;omega
 have q6:(k == 6)=false:=by simp;omega
 have q7:(k == 7)=false:=by simp;omega
 have q4:(k == 4)=false:=by simp;omega
 have q17:(k == 17)=false:=by simp;omega
 have q23:(k == 23)=false:=by simp;omega
 have q5:(k == 5)=false:=by simp;omega
 have q11:(k == 11)=false:=by simp;omega
 have q14:(k == 14)=false:=by simp;omega
 have q16:(k == 16)=false:=by simp;omega
 have q18:(k == 18)=false:=by simp;omega
 have q19:(k == 19)=false:=by simp;omega
 have q20:(k == 20)=false:=by simp;omega
 have q21:(k == 21)=false:=by simp;omega
 clear h h2 h3 h6 h7 hk
 go_enter Tryz.func46,Tryz.ntmps46
 go_wp2
 all_goals
  go_ret
  refine ⟨X8 ?_,bA _⟩
  rw [HF.o]
  first | (simp [*];done) | (simp_all;done) | (simp_all;intros;omega)
theorem uses_any (k op n m:Int) (s:ByteArray) (b:Nat) (w:World) (hs:s.size≤1048576) (hm:w.ownsMap (H:=Unit) Tryz.prog 9 unitElem b 17 Sc.wordMap) :
  Calls Tryz.prog 46 #[.agg #[.int .i64 k,.int .i64 op,.int .i64 n,.string s,.int .i64 m],.map (some b)] w fun e w'=>e = .returned (.bool (X9 ⟨k,op,n,s,m⟩))∧Below w.heap.size w w':=by
 by_cases h2:k=2
 ·subst h2;exact uses_2 op n m s b w hs hm
 by_cases h3:k=3
 ·subst h3;exact uses_3 op n m s b w hs hm
 by_cases h6:k=6
 ·subst h6;exact uses_6 op n m s b w hs hm
 by_cases h7:k=7
 ·subst h7;exact uses_7 op n m s b w hs hm
 by_cases h4:k=4
 ·subst h4;exact uses_4 op n m s b w hs hm
 by_cases h17:k=17
 ·subst h17;exact uses_17 op n m s b w hs hm
 by_cases h23:k=23
 ·subst h23;exact uses_23 op n m s b w hs hm
 by_cases h5:k=5
 ·subst h5;exact uses_5 op n m s b w hs hm
 by_cases h11:k=11
 ·subst h11;exact uses_11 op n m s b w hs hm
 by_cases h14:k=14
 ·subst h14;exact uses_14 op n m s b w hs hm
 by_cases h16:k=16
 ·subst h16;exact uses_16 op n m s b w hs hm
 by_cases h18:k=18
 ·subst h18;exact uses_18 op n m s b w hs hm
 by_cases h19:k=19
 ·subst h19;exact uses_19 op n m s b w hs hm
 by_cases h20:k=20
 ·subst h20;exact uses_20 op n m s b w hs hm
 by_cases h21:k=21
 ·subst h21;exact uses_21 op n m s b w hs hm
 exact uses_other k op n m s b w (by simp [XA,Xn];omega) h2 h3 h6 h7
set_option maxRecDepth 100000 in
set_option maxHeartbeats 4000000 in
theorem count_any (k op n m:Int) (s:ByteArray) (w:World) :
  Calls Tryz.prog 47 #[.agg #[.int .i64 k,.int .i64 op,.int .i64 n,.string s,.int .i64 m]] w fun e w'=>e = .returned (.bool (Z4 k m))∧Below w.heap.size w w':=by
 by_cases hk:1≤k∧k≤24
 ·obtain ⟨j,hj1,hj2,rfl⟩:∃ j:Nat,1≤j∧j≤24∧k=j:=⟨k.toNat,by omega,by omega,by omega⟩
  clear hk
  have hj:j=1∨j=2∨j=3∨j=4∨j=5∨j=6∨j=7∨j=8∨j=9∨j=10∨j=11∨j=12∨j=13∨j=14∨j=15∨j=16∨j=17∨j=18∨j=19∨j=20∨j=21∨j=22∨j=23∨j=24:=by omega
  clear hj1 hj2
  rcases hj with rfl | rfl | rfl | rfl | rfl | rfl | rfl | rfl | rfl | rfl | rfl | rfl | rfl | rfl | rfl | rfl | rfl | rfl | rfl | rfl | rfl | rfl | rfl | rfl
  all_goals
   go_enter Tryz.func47,Tryz.ntmps47
   go_wp2
   all_goals
    go_ret
    refine ⟨X8 ?_,bA _⟩
    simp only [Z4]
    first
    | (simp [*];done)
    | (rw [Bool.eq_iff_iff];simp;omega)
    | (simp;omega)
 ·have HC:=X1 (show Z4 k m=false by
   unfold Z4
   repeat rw [if_neg (by omega)]
   rw [decide_eq_false_iff_not];omega)
  have q1:(k == 1)=false:=by simp;omega
  have q2:(k == 2)=false:=by simp;omega
  have q3:(k == 3)=false:=by simp;omega
  have q4:(k == 4)=false:=by simp;omega
  have q5:(k == 5)=false:=by simp;omega
  have q6:(k == 6)=false:=by simp;omega
  have q7:(k == 7)=false:=by simp;omega
  have q8:(k == 8)=false:=by simp;omega
  have q9:(k == 9)=false:=by simp;omega
  have q10:(k == 10)=false:=by simp;omega
  have q11:(k == 11)=false:=by simp;omega
  have q12:(k == 12)=false:=by simp;omega
  have q13:(k == 13)=false:=by simp;omega
  have q14:(k == 14)=false:=by simp;omega
  have q15:(k == 15)=false:=by simp;omega
  have q16:(k == 16)=false:=by simp;omega
  have q17:(k == 17)=false:=by simp;omega
  have q18:(k == 18)=false:=by simp;omega
  have q19:(k == 19)=false:=by simp;omega
  have q20:(k == 20)=false:=by simp;omega
  have q21:(k == 21)=false:=by simp;omega
  have q22:(k == 22)=false:=by simp;omega
  have q23:(k == 23)=false:=by simp;omega
  have q24:(k == 24)=false:=by simp;omega
  clear hk
  by_cases hm:0≤m
  all_goals
   go_enter Tryz.func47,Tryz.ntmps47
   go_wp2
   all_goals
    go_ret
    refine ⟨X8 ?_,bA _⟩
    rw [HC.o] <;> first | rfl | (simp;done) | (simp;omega)
theorem Yn {w w1:World} {o:Obj} (h:Below (w.alloc o).heap.size (w.alloc o) w1):Below w.heap.size w w1:=(bA _).trans (h.mono (by simp))
theorem QC (l:List Tr.Gr):Ys 12 l=(Xt 1 16 (l.take (Yw l)) && Xt 18 18 (l.drop (Yw l)) && YW (l.drop (Yw l))):=rfl
theorem Tr.fits_fn (k:Int) (l:List Tr.Gr) (h:k=15∨k=20):Ys k l=(Xt 19 19 (l.take (l.length - 1)) && Xt 1 16 (l.drop (l.length - 1))):=by
 rcases h with rfl | rfl <;> rfl
theorem Tr.fits_o (k:Int) (l:List Tr.Gr) (h9:k≠9) (h12:k≠12) (h15:k≠15) (h20:k≠20) (h23:k≠23) (h24:k≠24):Ys k l=Xt 1 16 l:=by
 unfold Ys
 rw [if_neg h9,if_neg h12,if_neg (by omega),if_neg h23,if_neg h24]
set_option maxRecDepth 100000 in
set_option maxHeartbeats 1000000 in
theorem kidsFit_12 (op n m:Int) (s:ByteArray) (l:List Tr.Gr) (g o c:Nat) (w:World) (hl:l.length≤1048576) (h1:1≤l.length) (hcap:l.length≤c) (hh:∀ x∈l,x.nd.text.size≤1048576) (ht:GrAt w g o l) :
  Calls Tryz.prog 48 #[.agg #[.int .i64 12,.int .i64 op,.int .i64 n,.string s,.int .i64 m],.slice (some ⟨g,o,none⟩) l.length c] w fun e w'=>e = .returned (.bool (Ys 12 l))∧Below w.heap.size w w':=by
 have HT:=X1 (ht.below (bA (.cells #[.int .i64 12,.int .i64 op,.int .i64 n,.string s,.int .i64 m] 35)))
 have HH:=X1 hh
 clear hh ht
 go_enter Tryz.func48,Tryz.ntmps48
 go_wp2
 go_loop [5] (fun t=>∃ p:Nat,1≤p∧p≤l.length∧t = .int .i64 p∧Yw l=p+((l.drop p).takeWhile fun g=>g.nd.kind != 18).length) (fun t=>l.length - (intOf t).toNat)
 case atStart=>exact ⟨1,Nat.le_refl _,h1,rfl,rfl⟩
 case round =>
  obtain ⟨p,hp1,hp,rfl,he⟩:=hrel
  have HE:=X1 he
  clear he
  have d:=X1 (HT.o.takeV hp hcap)
  have f:=X1 (HT.o.dropQ (n:=l.length - p) hp hcap rfl)
  have q:(l.take p).length≤1048576:=by rw [List.length_take];omega
  have k:(l.drop p).length≤1048576:=by rw [List.length_drop];omega
  have HHD:Hid (∀ x∈l.drop p,x.nd.text.size≤1048576):=X1 fun x hx=>HH.o x (List.mem_of_mem_drop hx)
  have hpl:((l.length - p:Nat):Int)=(l.length:Int) - p:=by omega
  by_cases hlt:p < l.length
  ·obtain ⟨c0,c1,c2,c3,c4,c5⟩:=HT.o.2 p hlt
   have HD:=X1 (List.drop_eq_getElem_cons hlt)
   cases hk:(l[p].nd.kind != 18)
   ·have HP:=X1 (show Yw l=p by rw [HE.o,HD.o,List.takeWhile_cons,hk];simp)
    generalize l[p].nd.kind=kp at *
    clear HE HD
    cases hA:Xt 1 16 (l.take p)
    ·go_wp2_with fail
     refine (YF (l.take p) _ 1 16 _ q d.o).mono ?_
     rintro e w1 ⟨rfl,a⟩
     go_wp2
     go_ret
     exact ⟨X8 (by rw [QC,HP.o,hA];rfl),Yn a⟩
    ·cases hB:Xt 18 18 (l.drop p)
     ·go_wp2_with fail
      refine (YF (l.take p) _ 1 16 _ q d.o).mono ?_
      rintro e w1 ⟨rfl,a⟩
      go_wp2_with fail
      refine (YF (l.drop p) _ 18 18 _ k ((f.o _ (.inl rfl)).below a)).mono ?_
      rintro e w2 ⟨rfl,b⟩
      go_wp2
      go_ret
      exact ⟨X8 (by rw [QC,HP.o,hA,hB];rfl),(Yn a).trans (b.mono (Yn a).size)⟩
     ·go_wp2_with fail
      refine (YF (l.take p) _ 1 16 _ q d.o).mono ?_
      rintro e w1 ⟨rfl,a⟩
      go_wp2_with fail
      refine (YF (l.drop p) _ 18 18 _ k ((f.o _ (.inl rfl)).below a)).mono ?_
      rintro e w2 ⟨rfl,b⟩
      go_wp2_with fail
      refine (texts_any (l.drop p) _ _ k HHD.o (((f.o _ (.inl rfl)).below a).below b)).mono ?_
      rintro e w3 ⟨rfl,i⟩
      go_wp2
      go_ret
      have q2:=(Yn a).trans (b.mono (Yn a).size)
      exact ⟨X8 (by rw [QC,HP.o,hA,hB];rfl),q2.trans (i.mono q2.size)⟩
   ·have HP:=X1 (show Yw l=(p+1)+((l.drop (p+1)).takeWhile fun g=>g.nd.kind != 18).length by rw [HE.o,HD.o,List.takeWhile_cons,hk];simp;omega)
    generalize l[p].nd.kind=kp at *
    clear HE HD d f
    go_wp2
    go_round
    case rel=>exact ⟨p+1,by omega,by omega,by go_num,HP.o⟩
    case measure=>simp [intOf];omega
  ·have HP:=X1 (show Yw l=p by rw [HE.o,List.drop_of_length_le (by omega)];rfl)
   clear HE f HHD
   obtain rfl:p=l.length:=by omega
   have HF:Hid (Ys 12 l=Xt 1 16 l):=X1 (by
    rw [QC,HP.o,List.take_length,List.drop_length]
    rw [show Xt 18 18 []=true from rfl,show YW []=true from rfl];simp)
   have j:Hid (GrV (w.alloc (.cells #[.int .i64 12,.int .i64 op,.int .i64 n,.string s,.int .i64 m] 35)) (.slice (some ⟨g,o,none⟩) l.length c) l):=X1 (by have:=d.o;rwa [List.take_length] at this)
   clear d HP hpl q k
   by_cases hcp:c=l.length
   ·subst hcp
    cases hA:Xt 1 16 l
    ·go_wp2_with fail
     refine (YF l _ 1 16 _ hl j.o).mono ?_
     rintro e w1 ⟨rfl,a⟩
     go_wp2
     go_ret
     exact ⟨X8 (by rw [HF.o,hA]),Yn a⟩
    ·go_wp2_with fail
     refine (YF l _ 1 16 _ hl j.o).mono ?_
     rintro e w1 ⟨rfl,a⟩
     go_wp2_with fail
     refine (kinds_nil _ _ 18 18 _).mono ?_
     rintro e w2 ⟨rfl,b⟩
     go_wp2_with fail
     refine (texts_nil _ _ _).mono ?_
     rintro e w3 ⟨rfl,i⟩
     go_wp2
     go_ret
     have q2:=(Yn a).trans (b.mono (Yn a).size)
     exact ⟨X8 (by rw [HF.o,hA]),q2.trans (i.mono q2.size)⟩
   ·cases hA:Xt 1 16 l
    ·go_wp2_with fail
     refine (YF l _ 1 16 _ hl j.o).mono ?_
     rintro e w1 ⟨rfl,a⟩
     go_wp2
     go_ret
     exact ⟨X8 (by rw [HF.o,hA]),Yn a⟩
    ·go_wp2_with fail
     refine (YF l _ 1 16 _ hl j.o).mono ?_
     rintro e w1 ⟨rfl,a⟩
     go_wp2_with fail
     refine (kinds_nil _ _ 18 18 _).mono ?_
     rintro e w2 ⟨rfl,b⟩
     go_wp2_with fail
     refine (texts_nil _ _ _).mono ?_
     rintro e w3 ⟨rfl,i⟩
     go_wp2
     go_ret
     have q2:=(Yn a).trans (b.mono (Yn a).size)
     exact ⟨X8 (by rw [HF.o,hA]),q2.trans (i.mono q2.size)⟩
set_option maxRecDepth 100000 in
set_option maxHeartbeats 1000000 in
theorem kidsFit_fn (k op n m:Int) (s:ByteArray) (l:List Tr.Gr) (g o c:Nat) (w:World) (hk:k=15∨k=20) (hl:l.length≤1048576) (h1:1≤l.length) (hcap:l.length≤c) (ht:GrAt w g o l) :
  Calls Tryz.prog 48 #[.agg #[.int .i64 k,.int .i64 op,.int .i64 n,.string s,.int .i64 m],.slice (some ⟨g,o,none⟩) l.length c] w fun e w'=>e = .returned (.bool (Ys k l))∧Below w.heap.size w w':=by
 have HF:=X1 (Tr.fits_fn k l hk)
 have HT:=X1 (ht.below (bA (.cells #[.int .i64 k,.int .i64 op,.int .i64 n,.string s,.int .i64 m] 35)))
 obtain ⟨p,hp⟩:∃ p,l.length=p+1:=⟨l.length - 1,by omega⟩
 have HTV:=X1 (HT.o.takeV (c:=c) (p:=p) (by omega) hcap)
 have HDV:=X1 (HT.o.dropQ (c:=c) (n:=1) (p:=p) (by omega) hcap (by omega))
 have hlT:(l.take p).length≤1048576:=by rw [List.length_take];omega
 have hlD:(l.drop p).length≤1048576:=by rw [List.length_drop];omega
 rw [hp,Nat.add_sub_cancel] at HF
 clear ht HT
 rcases hk with rfl | rfl
 all_goals
  cases hA:Xt 19 19 (l.take p)
  ·go_enter Tryz.func48,Tryz.ntmps48
   go_wp2_with fail
   refine (YF (l.take p) _ 19 19 _ hlT HTV.o).mono ?_
   rintro e w1 ⟨rfl,a⟩
   go_wp2
   go_ret
   exact ⟨X8 (by rw [HF.o,hA];rfl),Yn a⟩
  ·go_enter Tryz.func48,Tryz.ntmps48
   go_wp2_with fail
   refine (YF (l.take p) _ 19 19 _ hlT HTV.o).mono ?_
   rintro e w1 ⟨rfl,a⟩
   go_wp2_with fail
   refine (YF (l.drop p) _ 1 16 _ hlD ((HDV.o _ (.inl rfl)).below a)).mono ?_
   rintro e w2 ⟨rfl,hb2⟩
   go_wp2
   go_ret
   exact ⟨X8 (by rw [HF.o,hA];rfl),(Yn a).trans (hb2.mono (Yn a).size)⟩
set_option maxRecDepth 100000 in
set_option maxHeartbeats 1000000 in
theorem kidsFit_9 (op n m:Int) (s:ByteArray) (l:List Tr.Gr) (v:Value) (w:World) (hl:l.length≤1048576) (hh:∀ x∈l,x.nd.text.size≤1048576) (ht:GrV w v l) :
  Calls Tryz.prog 48 #[.agg #[.int .i64 9,.int .i64 op,.int .i64 n,.string s,.int .i64 m],v] w fun e w'=>e = .returned (.bool (Ys 9 l))∧Below w.heap.size w w':=by
 have HT:=X1 (ht.below (bA (.cells #[.int .i64 9,.int .i64 op,.int .i64 n,.string s,.int .i64 m] 35)))
 have HH:=X1 hh
 clear hh ht
 cases hA:Xt 17 17 l
 ·go_enter Tryz.func48,Tryz.ntmps48
  go_wp2_with fail
  refine (YF l _ 17 17 _ hl HT.o).mono ?_
  rintro e w1 ⟨rfl,a⟩
  go_wp2
  go_ret
  exact ⟨X8 (by rw [show Ys 9 l=(Xt 17 17 l && YW l) from rfl,hA];rfl),Yn a⟩
 ·go_enter Tryz.func48,Tryz.ntmps48
  go_wp2_with fail
  refine (YF l _ 17 17 _ hl HT.o).mono ?_
  rintro e w1 ⟨rfl,a⟩
  go_wp2_with fail
  refine (texts_any l _ _ hl HH.o (HT.o.below a)).mono ?_
  rintro e w2 ⟨rfl,hb2⟩
  go_wp2
  go_ret
  exact ⟨X8 (by rw [show Ys 9 l=(Xt 17 17 l && YW l) from rfl,hA];rfl),(Yn a).trans (hb2.mono (Yn a).size)⟩
set_option maxRecDepth 100000 in
set_option maxHeartbeats 1000000 in
theorem kidsFit_o (k op n m:Int) (s:ByteArray) (l:List Tr.Gr) (v:Value) (w:World) (hl:l.length≤1048576) (ht:GrV w v l) (h9:k≠9) (h12:k≠12) (h15:k≠15) (h20:k≠20) :
  Calls Tryz.prog 48 #[.agg #[.int .i64 k,.int .i64 op,.int .i64 n,.string s,.int .i64 m],v] w fun e w'=>e = .returned (.bool (Ys k l))∧Below w.heap.size w w':=by
 have HT:=X1 (ht.below (bA (.cells #[.int .i64 k,.int .i64 op,.int .i64 n,.string s,.int .i64 m] 35)))
 clear ht
 by_cases h23:k=23
 ·subst h23
  go_enter Tryz.func48,Tryz.ntmps48
  go_wp2_with fail
  refine (YF l _ 5 5 _ hl HT.o).mono ?_
  rintro e w1 ⟨rfl,a⟩
  go_wp2
  go_ret
  exact ⟨rfl,Yn a⟩
 ·by_cases h24:k=24
  ·subst h24
   go_enter Tryz.func48,Tryz.ntmps48
   go_wp2_with fail
   refine (YF l _ 20 23 _ hl HT.o).mono ?_
   rintro e w1 ⟨rfl,a⟩
   go_wp2
   go_ret
   exact ⟨rfl,Yn a⟩
  ·have HF:=X1 (Tr.fits_o k l h9 h12 h15 h20 h23 h24)
   have q9:(k == 9)=false:=by simp;omega
   have q12:(k == 12)=false:=by simp;omega
   have q15:(k == 15)=false:=by simp;omega
   have q20:(k == 20)=false:=by simp;omega
   have q23:(k == 23)=false:=by simp;omega
   have q24:(k == 24)=false:=by simp;omega
   go_enter Tryz.func48,Tryz.ntmps48
   go_wp2_with fail
   refine (YF l _ 1 16 _ hl HT.o).mono ?_
   rintro e w1 ⟨rfl,a⟩
   go_wp2
   go_ret
   exact ⟨X8 HF.o.symm,Yn a⟩
theorem QO (k op n m:Int) (s:ByteArray) (l:List Tr.Gr) (v:Value) (w:World) (hl:l.length≤1048576) (h1:k=12∨k=15∨k=20→1≤l.length) (hh:∀ x∈l,x.nd.text.size≤1048576) (ht:GrV w v l) :
  Calls Tryz.prog 48 #[.agg #[.int .i64 k,.int .i64 op,.int .i64 n,.string s,.int .i64 m],v] w fun e w'=>e = .returned (.bool (Ys k l))∧Below w.heap.size w w':=by
 by_cases h9:k=9
 ·subst h9;exact kidsFit_9 op n m s l v w hl hh ht
 by_cases hx:k=12∨k=15∨k=20
 ·have a:=h1 hx
  rcases ht with ⟨p,c,_,rfl⟩ | ⟨g,o,c,rfl,hc,hg⟩
  ·simp at a
  ·by_cases h12:k=12
   ·subst h12;exact kidsFit_12 op n m s l g o c w hl a hc hh hg
   ·exact kidsFit_fn k op n m s l g o c w (by omega) hl a hc hg
 ·exact kidsFit_o k op n m s l v w hl ht h9 (by omega) (by omega) (by omega)
def Tr.Gr.cells (x:Tr.Gr):List Value:=[.int .i64 x.nd.kind,.int .i64 x.nd.op,.int .i64 x.nd.n,.string x.nd.text,.int .i64 x.nd.kids,.int .i64 x.high]
def XC (l:List Tr.Gr):List Value:=l.flatMap Tr.Gr.cells
theorem QH (l:List Tr.Gr) (m:Nat):(XC l).take (m*6)=XC (l.take m):=by
 induction l generalizing m with
 | nil=>simp [XC]
 | cons x r ih =>
  cases m with
  | zero=>simp [XC]
  | succ m =>
   rw [show XC (x :: r)=x.cells++XC r from rfl,List.take_succ_cons,show XC (x :: r.take m)=x.cells++XC (r.take m) from rfl,← ih m,List.take_append,show x.cells.length=6 from rfl,List.take_of_length_le (by rw [show x.cells.length=6 from rfl];omega)]
   congr 2;omega
theorem Tr.grCells_at (l:List Tr.Gr) (i:Nat) (h:i < l.length):(XC l)[i*6]?=some (.int .i64 l[i].nd.kind)∧(XC l)[i*6+1]?=some (.int .i64 l[i].nd.op)∧(XC l)[i*6+2]?=some (.int .i64 l[i].nd.n)∧(XC l)[i*6+3]?=some (.string l[i].nd.text)∧(XC l)[i*6+4]?=some (.int .i64 l[i].nd.kids)∧(XC l)[i*6+5]?=some (.int .i64 l[i].high):=by
 induction l generalizing i with
 | nil=>simp at h
 | cons x r ih =>
  rw [show XC (x :: r)=x.cells++XC r from rfl]
  match i,h with
  | 0,_=>simp [Tr.Gr.cells]
  | i+1,h =>
   have:=ih i (by simpa using h)
   have hl:x.cells.length=6:=rfl
   refine ⟨?_,?_,?_,?_,?_,?_⟩
   all_goals rw [List.getElem?_append_right (by omega),hl]
   ·rw [show (i+1)*6 - 6=i*6 from by omega];exact this.1
   ·rw [show (i+1)*6+1 - 6=i*6+1 from by omega];exact this.2.1
   ·rw [show (i+1)*6+2 - 6=i*6+2 from by omega];exact this.2.2.1
   ·rw [show (i+1)*6+3 - 6=i*6+3 from by omega];exact this.2.2.2.1
   ·rw [show (i+1)*6+4 - 6=i*6+4 from by omega];exact this.2.2.2.2.1
   ·rw [show (i+1)*6+5 - 6=i*6+5 from by omega];exact this.2.2.2.2.2
theorem gr_of_row {w:World} {base:Nat} {e:TypeId} {g cap:Nat} {l:List Tr.Gr} (h:w.ownsRow base e 6 (.slice (some ⟨g,0,none⟩) l.length cap) l.length (XC l)):GrAt w g 0 l:=by
 refine ⟨(Z2 h).2.2,fun i hi=>?_⟩
 obtain ⟨p0,p1,p2,p3,p4,p5⟩:=Tr.grCells_at l i hi
 simp only [Nat.zero_add]
 exact ⟨(h.cellAt (i*6) (by omega)).trans p0,(h.cellAt (i*6+1) (by omega)).trans p1,(h.cellAt (i*6+2) (by omega)).trans p2,(h.cellAt (i*6+3) (by omega)).trans p3,(h.cellAt (i*6+4) (by omega)).trans p4,(h.cellAt (i*6+5) (by omega)).trans p5⟩
theorem row_takeS {w:World} {base size:Nat} {e:TypeId} {g n cap:Nat} {xs:List Value} (h:w.ownsRow base e size (.slice (some ⟨g,0,none⟩) n cap) n xs) (m:Nat) (hm:m≤n):w.ownsRow base e size (.slice (some ⟨g,0,none⟩) m cap) m (xs.take (m * size)):=by
 obtain ⟨h1,h2⟩:=h
 have hms:m * size≤n * size:=Nat.mul_le_mul_right _ hm
 refine ⟨by rw [List.length_take,h1];omega,.inr ?_⟩
 rcases h2 with ⟨h2,_⟩ | ⟨g',cap',cur,hv,hb,hg,hn,hc,hs,ht⟩
 ·cases h2
 ·cases hv
  refine ⟨g,cap,cur,rfl,hb,hg,by omega,hc,hs,?_⟩
  rw [← ht,List.take_take,Nat.min_eq_left hms]
theorem Ko {w w1:World} {base:Nat} {e:TypeId} {size:Nat} {v:Value} {n:Nat} {xs:List Value} (h:w.ownsRow base e size v n xs) (hb:Below w.heap.size w w1):w1.ownsRow base e size v n xs:=by
 have hg:w.grownBy w1 none:=⟨hb.os,hb.tape,hb.output,hb.size,fun k hk _=>hb.block k hk⟩
 refine h.kept hg ?_
 cases hv:v.ownBlock with
 | none=>exact .inl rfl
 | some k=>exact .inr (by simp)
theorem map_below {w w1:World} {P:Program} {k b n:Nat} {D:DataW Unit} (h:w.ownsMap P k unitElem b n D) (hb:Below w.heap.size w w1):w1.ownsMap P k unitElem b n D:=by
 obtain ⟨es,a0,h1,h2⟩:=h
 have hlt:b < w.heap.size:=(Array.getElem?_eq_some_iff.1 h1).1
 exact ⟨es,a0,(hb.block b hlt).trans h1,h2⟩
theorem Kj {P:Program} {ops:Array Oper} {o:Oper} {a:Act} {w:World} {K:Act→World→Prop} {Q:Exit→Act→World→Prop} {E:Prop}
  (hg:o.guard=none) (f:FuncId) (x:Operand) (t:TypeId) (hop:o.op=Op.call {callee:=Callee.value (Operand.func f),args:=#[x],argTypes:=#[t]})
  (v r:Value) (hx:a.eval x=v) (fn:Func) (hfn:P.funcs[f]?=some fn) (hne:(fn.name == "runtime.NumGoroutine")=false) (hbd:fn.body.isNone=false) (R:World→Prop) (hC:Calls P f #[v] w fun e w'=>e = .returned r∧R w') (hK:∀ w',R w'→K (a.put o.dst r) w') :
  if Region.wanted o (yielded ops a.tmps)=true then Oper.wp P o a w K Q else E:=by
 have hw:Region.wanted o (yielded ops a.tmps)=true:=by simp [Region.wanted,hg]
 rw [if_pos hw]
 have h1:(callFunc f #[v]).run P w = .ok (.enter f #[v]) w:=by
  simp only [callFunc,Sem.run_bind,run_program,Result.andThen_ok,hfn,hne,hbd];rfl
 unfold Oper.wp
 simp only [execOp,hop,resolve,invoke,List.map_toArray,List.map_cons,List.map_nil,hx,Deferred.ofValue,Sem.run_bind]
 rw [show a.eval (Operand.func f)=Value.func (Fn.func f) #[] #[] from rfl]
 simp only [Sem.run_pure,Result.andThen_ok]
 simp [h1]
 refine hC.mono fun e w2 h=>?_
 obtain ⟨rfl,h2⟩:=h
 exact hK _ h2
theorem Kl {P:Program} {ops:Array Oper} {o:Oper} {a:Act} {w:World} {K:Act→World→Prop} {Q:Exit→Act→World→Prop} {E:Prop}
  (hgd:o.guard=none) (s x:Operand) (t:TypeId) (ho:o.op = .call {callee:= .builtin .append,args:=#[s,x],argTypes:=#[t,t]})
  (base:Nat) (e:TypeId) (i:TypeInfo) (z:Value) (size bytes:Nat) (ht:P.underlying t=some (.slice e)) (hi:P.info? e=some i) (hz:i.zero=some z)
  (hsize:i.size=size) (hby:i.bytes=bytes) (hzs:z.cells.size=size) (hsz:0 < size)
  (v:Value) (n:Nat) (xs:List Value) (hs:a.eval s=v) (hown:w.ownsRow base e size v n xs)
  (ad:Addr) (m c:Nat) (news:List Value) (hx:a.eval x = .slice (some ad) m c) (hl:news.length=m * size) (hnews:∀ j u,news[j]?=some u→w.cell? (ad.add j)=some u) (h1:∀ u∈news,u.oneCell'=true)
  (h63:n+m≤maxLen) (hbytes:(n+m) * bytes≤140737488355328) (hbase:base≤w.heap.size)
  (hK:∀ v' w',w'.ownsRow base e size v' (n+m) (xs++news)→w.grownBy w' v.ownBlock→(v' = .slice none 0 0↔v = .slice none 0 0∧m=0)→(v'.ownBlock=v.ownBlock∨v'.ownBlock=some w.heap.size)→K (a.put o.dst v') w') :
  if Region.wanted o (yielded ops a.tmps)=true then Oper.wp P o a w K Q else E:=by
 have hw:Region.wanted o (yielded ops a.tmps)=true:=by simp [Region.wanted,hgd]
 rw [if_pos hw]
 obtain ⟨v',w',hr,h2,h3,h4,h5⟩:=run_append_own_at (P:=P) w base t o.type e i z size bytes ht hi hz hsize hby hzs hsz v n xs hown ad m c news hl hnews h1 h63 hbytes hbase
 unfold Oper.wp execOp
 simp only [ho,resolve,invoke,builtin,Sem.run_bind,Sem.run_pure,Result.andThen_ok,List.map_toArray,List.map_cons,List.map_nil,hs,hx,hr]
 exact hK _ _ h2 h3 h4 h5
end Go.Proofs.YtimbaebigjjkaaaGreatDoor
