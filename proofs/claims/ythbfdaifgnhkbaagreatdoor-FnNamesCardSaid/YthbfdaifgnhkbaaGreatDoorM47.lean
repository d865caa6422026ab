/- Je, Jg, Jh. -/
import Derived.Test.YthbfdaifgnhkbaaGreatDoorM46
namespace Go.Proofs.YthbfdaifgnhkbaaGreatDoor
open Go.RowKit
theorem ZN {w w1:World} {o:Obj} (h:Below (w.alloc o).heap.size (w.alloc o) w1) (i:Nat) (v:Value):Below w.heap.size w (w1.setCell ⟨w.heap.size,i,none⟩ v) :=
 ((bA _).trans (h.mono (by simp))).setCell (by exact Nat.le_refl _) v
theorem box5 {w w1:World} {a b c d e:Value} {t:TypeId} (h:Below (w.alloc (.cells #[a,b,c,d,e] t)).heap.size (w.alloc (.cells #[a,b,c,d,e] t)) w1):w1.cell? ⟨w.heap.size,0,none⟩=some a∧w1.cell? ⟨w.heap.size,1,none⟩=some b∧w1.cell? ⟨w.heap.size,2,none⟩=some c∧w1.cell? ⟨w.heap.size,3,none⟩=some d∧w1.cell? ⟨w.heap.size,4,none⟩=some e∧w1.frozen? ⟨w.heap.size,3,none⟩=false:=by
 have hb:w1.heap[w.heap.size]?=some (.cells #[a,b,c,d,e] t):=(h.block w.heap.size (by simp)).trans (Xf w _)
 have hf:w1.frozen? ⟨w.heap.size,3,none⟩=(w.alloc (.cells #[a,b,c,d,e] t)).frozen? ⟨w.heap.size,3,none⟩:=h.frozen (p:=⟨w.heap.size,3,none⟩) (by simp)
 refine ⟨?_,?_,?_,?_,?_,?_⟩
 all_goals first | (rw [World.cell?,hb];rfl) | (rw [hf];simp)
theorem Tr.plain_f2 (op n m:Int) (s:ByteArray):Xb ⟨2,op,n,s,m⟩=((n == 0 || n == 1) && (op == 0) && s.toList.isEmpty):=by
 rw [Bool.eq_iff_iff];simp [Xb,Xw,Xj];grind
theorem Tr.plain_f3 (op n m:Int) (s:ByteArray):Xb ⟨3,op,n,s,m⟩=(decide (0≤n) && (op == 0) && s.toList.isEmpty):=by
 rw [Bool.eq_iff_iff];simp [Xb,Xw,Xj];grind
theorem Tr.plain_f6 (op n m:Int) (s:ByteArray):Xb ⟨6,op,n,s,m⟩=((op == 1 || op == 2) && (n == 0) && s.toList.isEmpty):=by
 rw [Bool.eq_iff_iff];simp [Xb,Xw,Xj];grind
theorem Tr.plain_f7 (op n m:Int) (s:ByteArray):Xb ⟨7,op,n,s,m⟩=(decide (1≤op) && decide (op≤14) && (n == 0) && s.toList.isEmpty):=by
 rw [Bool.eq_iff_iff];simp [Xb,Xw,Xj];grind
theorem Tr.plain_f4 (op n m:Int) (s:ByteArray):Xb ⟨4,op,n,s,m⟩=(decide ((s.size:Int)≤1000) && (op == 0) && (n == 0)):=by
 rw [Bool.eq_iff_iff];simp [Xb,Xw,Xj];grind
theorem Tr.plain_f17 (op n m:Int) (s:ByteArray):Xb ⟨17,op,n,s,m⟩=(decide ((s.size:Int)≤1000) && (op == 0) && (n == 0)):=by
 rw [Bool.eq_iff_iff];simp [Xb,Xw,Xj];grind
theorem Tr.plain_f23 (op n m:Int) (s:ByteArray):Xb ⟨23,op,n,s,m⟩=(ZA s && (op == 0) && (n == 0)):=by
 rw [Bool.eq_iff_iff];simp [Xb,Xw,Xj];grind
theorem Tr.plain_f5 (op n m:Int) (s:ByteArray):Xb ⟨5,op,n,s,m⟩=(Yc s && (op == 0) && (n == 0)):=by
 rw [Bool.eq_iff_iff];simp [Xb,Xw,Xj];grind
theorem Tr.plain_f11 (op n m:Int) (s:ByteArray):Xb ⟨11,op,n,s,m⟩=(Yc s && (op == 0) && (n == 0)):=by
 rw [Bool.eq_iff_iff];simp [Xb,Xw,Xj];grind
theorem Tr.plain_f14 (op n m:Int) (s:ByteArray):Xb ⟨14,op,n,s,m⟩=(Yc s && (op == 0) && (n == 0)):=by
 rw [Bool.eq_iff_iff];simp [Xb,Xw,Xj];grind
theorem Tr.plain_f16 (op n m:Int) (s:ByteArray):Xb ⟨16,op,n,s,m⟩=(Yc s && (op == 0) && (n == 0)):=by
 rw [Bool.eq_iff_iff];simp [Xb,Xw,Xj];grind
theorem Tr.plain_f18 (op n m:Int) (s:ByteArray):Xb ⟨18,op,n,s,m⟩=(Yc s && (op == 0) && (n == 0)):=by
 rw [Bool.eq_iff_iff];simp [Xb,Xw,Xj];grind
theorem Tr.plain_f19 (op n m:Int) (s:ByteArray):Xb ⟨19,op,n,s,m⟩=(Yc s && (op == 0) && (n == 0)):=by
 rw [Bool.eq_iff_iff];simp [Xb,Xw,Xj];grind
theorem Tr.plain_f20 (op n m:Int) (s:ByteArray):Xb ⟨20,op,n,s,m⟩=(Yc s && (op == 0) && (n == 0)):=by
 rw [Bool.eq_iff_iff];simp [Xb,Xw,Xj];grind
theorem Tr.plain_f21 (op n m:Int) (s:ByteArray):Xb ⟨21,op,n,s,m⟩=(Yc s && (op == 0) && (n == 0)):=by
 rw [Bool.eq_iff_iff];simp [Xb,Xw,Xj];grind
theorem Tr.plain_fo (k op n m:Int) (s:ByteArray) (h:Xw k=false) (h2:k≠2) (h3:k≠3) (h6:k≠6) (h7:k≠7) (h4:k≠4) (h17:k≠17) (h23:k≠23):Xb ⟨k,op,n,s,m⟩=((op == 0) && (n == 0) && s.toList.isEmpty):=by
 rw [Bool.eq_iff_iff];simp [Xb,h,h2,h3,h6,h7,h4,h17,h23];grind
set_option maxRecDepth 100000 in
set_option maxHeartbeats 1000000 in
theorem uses_2 (op n m:Int) (s:ByteArray) (b:Nat) (w:World) (_hs:s.size≤1048576) (hm:w.ownsMap (H:=Unit) Tryz.prog 9 unitElem b 17 Sc.wordMap) :
  Calls Tryz.prog 22 #[.agg #[.int .i64 2,.int .i64 op,.int .i64 n,.string s,.int .i64 m],.map (some b)] w fun e w'=>e = .returned (.bool (Xb ⟨2,op,n,s,m⟩))∧Below w.heap.size w w':=by
 have HM:=X1 hm
 have HF:=X1 (Tr.plain_f2 op n m s)
 clear hm
 go_enter Tryz.func22,Tryz.ntmps22
 go_wp2
 all_goals
  go_ret
  refine ⟨X7 ?_,bA _⟩
  rw [HF.out]
  first | (simp [*];done) | (simp_all;done) | (simp_all;intros;omega)
set_option maxRecDepth 100000 in
set_option maxHeartbeats 1000000 in
theorem uses_3 (op n m:Int) (s:ByteArray) (b:Nat) (w:World) (_hs:s.size≤1048576) (hm:w.ownsMap (H:=Unit) Tryz.prog 9 unitElem b 17 Sc.wordMap) :
  Calls Tryz.prog 22 #[.agg #[.int .i64 3,.int .i64 op,.int .i64 n,.string s,.int .i64 m],.map (some b)] w fun e w'=>e = .returned (.bool (Xb ⟨3,op,n,s,m⟩))∧Below w.heap.size w w':=by
 have HM:=X1 hm
 have HF:=X1 (Tr.plain_f3 op n m s)
 clear hm
 go_enter Tryz.func22,Tryz.ntmps22
 go_wp2
 all_goals
  go_ret
  refine ⟨X7 ?_,bA _⟩
  rw [HF.out]
  first | (simp [*];done) | (simp_all;done) | (simp_all;intros;omega)
set_option maxRecDepth 100000 in
set_option maxHeartbeats 1000000 in
theorem uses_6 (op n m:Int) (s:ByteArray) (b:Nat) (w:World) (_hs:s.size≤1048576) (hm:w.ownsMap (H:=Unit) Tryz.prog 9 unitElem b 17 Sc.wordMap) :
  Calls Tryz.prog 22 #[.agg #[.int .i64 6,.int .i64 op,.int .i64 n,.string s,.int .i64 m],.map (some b)] w fun e w'=>e = .returned (.bool (Xb ⟨6,op,n,s,m⟩))∧Below w.heap.size w w':=by
 have HM:=X1 hm
 have HF:=X1 (Tr.plain_f6 op n m s)
 clear hm
 go_enter Tryz.func22,Tryz.ntmps22
 go_wp2
 all_goals
  go_ret
  refine ⟨X7 ?_,bA _⟩
  rw [HF.out]
  first | (simp [*];done) | (simp_all;done) | (simp_all;intros;omega)
set_option maxRecDepth 100000 in
set_option maxHeartbeats 1000000 in
theorem uses_7 (op n m:Int) (s:ByteArray) (b:Nat) (w:World) (_hs:s.size≤1048576) (hm:w.ownsMap (H:=Unit) Tryz.prog 9 unitElem b 17 Sc.wordMap) :
  Calls Tryz.prog 22 #[.agg #[.int .i64 7,.int .i64 op,.int .i64 n,.string s,.int .i64 m],.map (some b)] w fun e w'=>e = .returned (.bool (Xb ⟨7,op,n,s,m⟩))∧Below w.heap.size w w':=by
 have HM:=X1 hm
 have HF:=X1 (Tr.plain_f7 op n m s)
 clear hm
 go_enter Tryz.func22,Tryz.ntmps22
 go_wp2
 all_goals
  go_ret
  refine ⟨X7 ?_,bA _⟩
  rw [HF.out]
  first | (simp [*];done) | (simp_all;done) | (simp_all;intros;omega)
set_option maxRecDepth 100000 in
set_option maxHeartbeats 1000000 in
theorem uses_4 (op n m:Int) (s:ByteArray) (b:Nat) (w:World) (_hs:s.size≤1048576) (hm:w.ownsMap (H:=Unit) Tryz.prog 9 unitElem b 17 Sc.wordMap) :
  Calls Tryz.prog 22 #[.agg #[.int .i64 4,.int .i64 op,.int .i64 n,.string s,.int .i64 m],.map (some b)] w fun e w'=>e = .returned (.bool (Xb ⟨4,op,n,s,m⟩))∧Below w.heap.size w w':=by
 have HM:=X1 hm
 have HF:=X1 (Tr.plain_f4 op n m s)
 clear hm
 go_enter Tryz.func22,Tryz.ntmps22
 go_wp2
 all_goals
  go_ret
  refine ⟨X7 ?_,bA _⟩
  rw [HF.out]
  first | (simp [*];done) | (simp_all;done) | (simp_all;intros;omega)
set_option maxRecDepth 100000 in
set_option maxHeartbeats 1000000 in
theorem uses_17 (op n m:Int) (s:ByteArray) (b:Nat) (w:World) (_hs:s.size≤1048576) (hm:w.ownsMap (H:=Unit) Tryz.prog 9 unitElem b 17 Sc.wordMap) :
  Calls Tryz.prog 22 #[.agg #[.int .i64 17,.int .i64 op,.int .i64 n,.string s,.int .i64 m],.map (some b)] w fun e w'=>e = .returned (.bool (Xb ⟨17,op,n,s,m⟩))∧Below w.heap.size w w':=by
 have HM:=X1 hm
 have HF:=X1 (Tr.plain_f17 op n m s)
 clear hm
 go_enter Tryz.func22,Tryz.ntmps22
 go_wp2
 all_goals
  go_ret
  refine ⟨X7 ?_,bA _⟩
  rw [HF.out]
  first | (simp [*];done) | (simp_all;done) | (simp_all;intros;omega)
set_option maxRecDepth 100000 in
set_option maxHeartbeats 1000000 in
theorem uses_23 (op n m:Int) (s:ByteArray) (b:Nat) (w:World) (hs:s.size≤1048576) (hm:w.ownsMap (H:=Unit) Tryz.prog 9 unitElem b 17 Sc.wordMap) :
  Calls Tryz.prog 22 #[.agg #[.int .i64 23,.int .i64 op,.int .i64 n,.string s,.int .i64 m],.map (some b)] w fun e w'=>e = .returned (.bool (Xb ⟨23,op,n,s,m⟩))∧Below w.heap.size w w':=by
 have HM:=X1 hm
 have HF:=X1 (Tr.plain_f23 op n m s)
 clear hm
 go_enter Tryz.func22,Tryz.ntmps22
 go_wp2_with (go_at_call 41;refine (isPkg_any _ _ hs).mono ?_;rintro e w' ⟨rfl,rfl⟩)
 all_goals
  go_ret
  refine ⟨X7 ?_,bA _⟩
  rw [HF.out]
  first | (simp [*];done) | (simp_all;done) | (simp_all;intros;omega)
set_option maxRecDepth 100000 in
set_option maxHeartbeats 1000000 in
theorem uses_5 (op n m:Int) (s:ByteArray) (b:Nat) (w:World) (hs:s.size≤1048576) (hm:w.ownsMap (H:=Unit) Tryz.prog 9 unitElem b 17 Sc.wordMap) :
  Calls Tryz.prog 22 #[.agg #[.int .i64 5,.int .i64 op,.int .i64 n,.string s,.int .i64 m],.map (some b)] w fun e w'=>e = .returned (.bool (Xb ⟨5,op,n,s,m⟩))∧Below w.heap.size w w':=by
 have HM:=X1 hm
 have HF:=X1 (Tr.plain_f5 op n m s)
 clear hm
 go_enter Tryz.func22,Tryz.ntmps22
 go_wp2_with (go_at_call 42;refine (isName_any s b _ hs (HM.out.alloc _)).mono ?_;rintro e w1 ⟨rfl,hb1⟩;obtain ⟨x0,x1,x2,x3,x4,x5⟩:=box5 hb1;have hz1:w.heap.size < w1.heap.size:=Nat.lt_of_lt_of_le (by simp) hb1.size)
 all_goals
  go_ret
  refine ⟨X7 ?_,ZN hb1 _ _⟩
  rw [HF.out]
  first | (simp [*];done) | (simp_all;done) | (simp_all;intros;omega)
set_option maxRecDepth 100000 in
set_option maxHeartbeats 1000000 in
theorem uses_11 (op n m:Int) (s:ByteArray) (b:Nat) (w:World) (hs:s.size≤1048576) (hm:w.ownsMap (H:=Unit) Tryz.prog 9 unitElem b 17 Sc.wordMap) :
  Calls Tryz.prog 22 #[.agg #[.int .i64 11,.int .i64 op,.int .i64 n,.string s,.int .i64 m],.map (some b)] w fun e w'=>e = .returned (.bool (Xb ⟨11,op,n,s,m⟩))∧Below w.heap.size w w':=by
 have HM:=X1 hm
 have HF:=X1 (Tr.plain_f11 op n m s)
 clear hm
 go_enter Tryz.func22,Tryz.ntmps22
 go_wp2_with (go_at_call 42;refine (isName_any s b _ hs (HM.out.alloc _)).mono ?_;rintro e w1 ⟨rfl,hb1⟩;obtain ⟨x0,x1,x2,x3,x4,x5⟩:=box5 hb1;have hz1:w.heap.size < w1.heap.size:=Nat.lt_of_lt_of_le (by simp) hb1.size)
 all_goals
  go_ret
  refine ⟨X7 ?_,ZN hb1 _ _⟩
  rw [HF.out]
  first | (simp [*];done) | (simp_all;done) | (simp_all;intros;omega)
set_option maxRecDepth 100000 in
set_option maxHeartbeats 1000000 in
theorem uses_14 (op n m:Int) (s:ByteArray) (b:Nat) (w:World) (hs:s.size≤1048576) (hm:w.ownsMap (H:=Unit) Tryz.prog 9 unitElem b 17 Sc.wordMap) :
  Calls Tryz.prog 22 #[.agg #[.int .i64 14,.int .i64 op,.int .i64 n,.string s,.int .i64 m],.map (some b)] w fun e w'=>e = .returned (.bool (Xb ⟨14,op,n,s,m⟩))∧Below w.heap.size w w':=by
 have HM:=X1 hm
 have HF:=X1 (Tr.plain_f14 op n m s)
 clear hm
 go_enter Tryz.func22,Tryz.ntmps22
 go_wp2_with (go_at_call 42;refine (isName_any s b _ hs (HM.out.alloc _)).mono ?_;rintro e w1 ⟨rfl,hb1⟩;obtain ⟨x0,x1,x2,x3,x4,x5⟩:=box5 hb1;have hz1:w.heap.size < w1.heap.size:=Nat.lt_of_lt_of_le (by simp) hb1.size)
 all_goals
  go_ret
  refine ⟨X7 ?_,ZN hb1 _ _⟩
  rw [HF.out]
  first | (simp [*];done) | (simp_all;done) | (simp_all;intros;omega)
set_option maxRecDepth 100000 in
set_option maxHeartbeats 1000000 in
theorem uses_16 (op n m:Int) (s:ByteArray) (b:Nat) (w:World) (hs:s.size≤1048576) (hm:w.ownsMap (H:=Unit) Tryz.prog 9 unitElem b 17 Sc.wordMap) :
  Calls Tryz.prog 22 #[.agg #[.int .i64 16,.int .i64 op,.int .i64 n,.string s,.int .i64 m],.map (some b)] w fun e w'=>e = .returned (.bool (Xb ⟨16,op,n,s,m⟩))∧Below w.heap.size w w':=by
 have HM:=X1 hm
 have HF:=X1 (Tr.plain_f16 op n m s)
 clear hm
 go_enter Tryz.func22,Tryz.ntmps22
 go_wp2_with (go_at_call 42;refine (isName_any s b _ hs (HM.out.alloc _)).mono ?_;rintro e w1 ⟨rfl,hb1⟩;obtain ⟨x0,x1,x2,x3,x4,x5⟩:=box5 hb1;have hz1:w.heap.size < w1.heap.size:=Nat.lt_of_lt_of_le (by simp) hb1.size)
 all_goals
  go_ret
  refine ⟨X7 ?_,ZN hb1 _ _⟩
  rw [HF.out]
  first | (simp [*];done) | (simp_all;done) | (simp_all;intros;omega)
set_option maxRecDepth 100000 in
set_option maxHeartbeats 1000000 in
theorem uses_18 (op n m:Int) (s:ByteArray) (b:Nat) (w:World) (hs:s.size≤1048576) (hm:w.ownsMap (H:=Unit) Tryz.prog 9 unitElem b 17 Sc.wordMap) :
  Calls Tryz.prog 22 #[.agg #[.int .i64 18,.int .i64 op,.int .i64 n,.string s,.int .i64 m],.map (some b)] w fun e w'=>e = .returned (.bool (Xb ⟨18,op,n,s,m⟩))∧Below w.heap.size w w':=by
 have HM:=X1 hm
 have HF:=X1 (Tr.plain_f18 op n m s)
 clear hm
 go_enter Tryz.func22,Tryz.ntmps22
 go_wp2_with (go_at_call 42;refine (isName_any s b _ hs (HM.out.alloc _)).mono ?_;rintro e w1 ⟨rfl,hb1⟩;obtain ⟨x0,x1,x2,x3,x4,x5⟩:=box5 hb1;have hz1:w.heap.size < w1.heap.size:=Nat.lt_of_lt_of_le (by simp) hb1.size)
 all_goals
  go_ret
  refine ⟨X7 ?_,ZN hb1 _ _⟩
  rw [HF.out]
  first | (simp [*];done) | (simp_all;done) | (simp_all;intros;omega)
set_option maxRecDepth 100000 in
set_option maxHeartbeats 1000000 in
theorem uses_19 (op n m:Int) (s:ByteArray) (b:Nat) (w:World) (hs:s.size≤1048576) (hm:w.ownsMap (H:=Unit) Tryz.prog 9 unitElem b 17 Sc.wordMap) :
  Calls Tryz.prog 22 #[.agg #[.int .i64 19,.int .i64 op,.int .i64 n,.string s,.int .i64 m],.map (some b)] w fun e w'=>e = .returned (.bool (Xb ⟨19,op,n,s,m⟩))∧Below w.heap.size w w':=by
 have HM:=X1 hm
 have HF:=X1 (Tr.plain_f19 op n m s)
 clear hm
 go_enter Tryz.func22,Tryz.ntmps22
 go_wp2_with (go_at_call 42;refine (isName_any s b _ hs (HM.out.alloc _)).mono ?_;rintro e w1 ⟨rfl,hb1⟩;obtain ⟨x0,x1,x2,x3,x4,x5⟩:=box5 hb1;have hz1:w.heap.size < w1.heap.size:=Nat.lt_of_lt_of_le (by simp) hb1.size)
 all_goals
  go_ret
  refine ⟨X7 ?_,ZN hb1 _ _⟩
  rw [HF.out]
  first | (simp [*];done) | (simp_all;done) | (simp_all;intros;omega)
set_option maxRecDepth 100000 in
set_option maxHeartbeats 1000000 in
theorem uses_20 (op n m:Int) (s:ByteArray) (b:Nat) (w:World) (hs:s.size≤1048576) (hm:w.ownsMap (H:=Unit) Tryz.prog 9 unitElem b 17 Sc.wordMap) :
  Calls Tryz.prog 22 #[.agg #[.int .i64 20,.int .i64 op,.int .i64 n,.string s,.int .i64 m],.map (some b)] w fun e w'=>e = .returned (.bool (Xb ⟨20,op,n,s,m⟩))∧Below w.heap.size w w':=by
 have HM:=X1 hm
 have HF:=X1 (Tr.plain_f20 op n m s)
 clear hm
 go_enter Tryz.func22,Tryz.ntmps22
 go_wp2_with (go_at_call 42;refine (isName_any s b _ hs (HM.out.alloc _)).mono ?_;rintro e w1 ⟨rfl,hb1⟩;obtain ⟨x0,x1,x2,x3,x4,x5⟩:=box5 hb1;have hz1:w.heap.size < w1.heap.size:=Nat.lt_of_lt_of_le (by simp) hb1.size)
 all_goals
  go_ret
  refine ⟨X7 ?_,ZN hb1 _ _⟩
  rw [HF.out]
  first | (simp [*];done) | (simp_all;done) | (simp_all;intros;omega)
set_option maxRecDepth 100000 in
set_option maxHeartbeats 1000000 in
theorem uses_21 (op n m:Int) (s:ByteArray) (b:Nat) (w:World) (hs:s.size≤1048576) (hm:w.ownsMap (H:=Unit) Tryz.prog 9 unitElem b 17 Sc.wordMap) :
  Calls Tryz.prog 22 #[.agg #[.int .i64 21,.int .i64 op,.int .i64 n,.string s,.int .i64 m],.map (some b)] w fun e w'=>e = .returned (.bool (Xb ⟨21,op,n,s,m⟩))∧Below w.heap.size w w':=by
 have HM:=X1 hm
 have HF:=X1 (Tr.plain_f21 op n m s)
 clear hm
 go_enter Tryz.func22,Tryz.ntmps22
 go_wp2_with (go_at_call 42;refine (isName_any s b _ hs (HM.out.alloc _)).mono ?_;rintro e w1 ⟨rfl,hb1⟩;obtain ⟨x0,x1,x2,x3,x4,x5⟩:=box5 hb1;have hz1:w.heap.size < w1.heap.size:=Nat.lt_of_lt_of_le (by simp) hb1.size)
 all_goals
  go_ret
  refine ⟨X7 ?_,ZN hb1 _ _⟩
  rw [HF.out]
  first | (simp [*];done) | (simp_all;done) | (simp_all;intros;omega)
set_option maxRecDepth 100000 in
set_option maxHeartbeats 1000000 in
theorem uses_other (k op n m:Int) (s:ByteArray) (b:Nat) (w:World) (h:Xw k=false) (h2:k≠2) (h3:k≠3) (h6:k≠6) (h7:k≠7) :
  Calls Tryz.prog 22 #[.agg #[.int .i64 k,.int .i64 op,.int .i64 n,.string s,.int .i64 m],.map (some b)] w fun e w'=>e = .returned (.bool (Xb ⟨k,op,n,s,m⟩))∧Below w.heap.size w w':=by
 have hk:k≠4∧k≠5∧k≠11∧k≠14∧k≠16∧k≠17∧k≠18∧k≠19∧k≠20∧k≠21∧k≠23:=by
  simp [Xw,Xj] at h;omega
 have HF:=X1 (Tr.plain_fo k op n m s h h2 h3 h6 h7 hk.1 hk.2.2.2.2.2.1 hk.2.2.2.2.2.2.2.2.2.2)
 have q2:(k == 2)=false:=by simp;omega
 have q3:(k == 3)=false:=by simp;omega
 have q6:(k == 6)=false:=by simp;omega
 have q7:(k == 7)=false:=by simp;omega
 have q4:(k == 4)=false:=by simp;omega
 have q17:(k == 17)=false:=by simp;omega
 have q23:(k == 23)=false:=by simp;omega
 have q5:(k == 5)=false:=by simp;omega
 have q11:(k == 11)=false:=by simp;omega
 have q14:(k == 14)=false:=by simp;omega
 have q16:(k == 16)=false:=by simp;omega
 have q18:(k == 18)=false:=by simp;omega
 have q19:(k == 19)=false:=by simp;omega
 have q20:(k == 20)=false:=by simp;omega
 have q21:(k == 21)=false:=by simp;omega
 clear h h2 h3 h6 h7 hk
 go_enter Tryz.func22,Tryz.ntmps22
 go_wp2
 all_goals
  go_ret
  refine ⟨X7 ?_,bA _⟩
  rw [HF.out]
  first | (simp [*];done) | (simp_all;done) | (simp_all;intros;omega)
theorem uses_any (k op n m:Int) (s:ByteArray) (b:Nat) (w:World) (hs:s.size≤1048576) (hm:w.ownsMap (H:=Unit) Tryz.prog 9 unitElem b 17 Sc.wordMap) :
  Calls Tryz.prog 22 #[.agg #[.int .i64 k,.int .i64 op,.int .i64 n,.string s,.int .i64 m],.map (some b)] w fun e w'=>e = .returned (.bool (Xb ⟨k,op,n,s,m⟩))∧Below w.heap.size w w':=by
 by_cases h2:k=2
 ·subst h2;exact uses_2 op n m s b w hs hm
 by_cases h3:k=3
 ·subst h3;exact uses_3 op n m s b w hs hm
 by_cases h6:k=6
 ·subst h6;exact uses_6 op n m s b w hs hm
 by_cases h7:k=7
 ·subst h7;exact uses_7 op n m s b w hs hm
 by_cases h4:k=4
 ·subst h4;exact uses_4 op n m s b w hs hm
 by_cases h17:k=17
 ·subst h17;exact uses_17 op n m s b w hs hm
 by_cases h23:k=23
 ·subst h23;exact uses_23 op n m s b w hs hm
 by_cases h5:k=5
 ·subst h5;exact uses_5 op n m s b w hs hm
 by_cases h11:k=11
 ·subst h11;exact uses_11 op n m s b w hs hm
 by_cases h14:k=14
 ·subst h14;exact uses_14 op n m s b w hs hm
 by_cases h16:k=16
 ·subst h16;exact uses_16 op n m s b w hs hm
 by_cases h18:k=18
 ·subst h18;exact uses_18 op n m s b w hs hm
 by_cases h19:k=19
 ·subst h19;exact uses_19 op n m s b w hs hm
 by_cases h20:k=20
 ·subst h20;exact uses_20 op n m s b w hs hm
 by_cases h21:k=21
 ·subst h21;exact uses_21 op n m s b w hs hm
 exact uses_other k op n m s b w (by simp [Xw,Xj];omega) h2 h3 h6 h7
set_option maxRecDepth 100000 in
set_option maxHeartbeats 4000000 in
theorem count_any (k op n m:Int) (s:ByteArray) (w:World) :
  Calls Tryz.prog 23 #[.agg #[.int .i64 k,.int .i64 op,.int .i64 n,.string s,.int .i64 m]] w fun e w'=>e = .returned (.bool (YI k m))∧Below w.heap.size w w':=by
 by_cases hk:1≤k∧k≤24
 ·obtain ⟨j,hj1,hj2,rfl⟩:∃ j:Nat,1≤j∧j≤24∧k=j:=⟨k.toNat,by omega,by omega,by omega⟩
  clear hk
  have hj:j=1∨j=2∨j=3∨j=4∨j=5∨j=6∨j=7∨j=8∨j=9∨j=10∨j=11∨j=12∨j=13∨j=14∨j=15∨j=16∨j=17∨j=18∨j=19∨j=20∨j=21∨j=22∨j=23∨j=24:=by omega
  clear hj1 hj2
  rcases hj with rfl | rfl | rfl | rfl | rfl | rfl | rfl | rfl | rfl | rfl | rfl | rfl | rfl | rfl | rfl | rfl | rfl | rfl | rfl | rfl | rfl | rfl | rfl | rfl
  all_goals
   go_enter Tryz.func23,Tryz.ntmps23
   go_wp2
   all_goals
    go_ret
    refine ⟨X7 ?_,bA _⟩
    simp only [YI]
    first
    | (simp [*];done)
    | (rw [Bool.eq_iff_iff];simp;omega)
    | (simp;omega)
 ·have HC:=X1 (show YI k m=false by
   unfold YI
   repeat rw [if_neg (by omega)]
   rw [decide_eq_false_iff_not];omega)
  have q1:(k == 1)=false:=by simp;omega
  have q2:(k == 2)=false:=by simp;omega
  have q3:(k == 3)=false:=by simp;omega
  have q4:(k == 4)=false:=by simp;omega
  have q5:(k == 5)=false:=by simp;omega
  have q6:(k == 6)=false:=by simp;omega
  have q7:(k == 7)=false:=by simp;omega
  have q8:(k == 8)=false:=by simp;omega
  have q9:(k == 9)=false:=by simp;omega
  have q10:(k == 10)=false:=by simp;omega
  have q11:(k == 11)=false:=by simp;omega
  have q12:(k == 12)=false:=by simp;omega
  have q13:(k == 13)=false:=by simp;omega
  have q14:(k == 14)=false:=by simp;omega
  have q15:(k == 15)=false:=by simp;omega
  have q16:(k == 16)=false:=by simp;omega
  have q17:(k == 17)=false:=by simp;omega
  have q18:(k == 18)=false:=by simp;omega
  have q19:(k == 19)=false:=by simp;omega
  have q20:(k == 20)=false:=by simp;omega
  have q21:(k == 21)=false:=by simp;omega
  have q22:(k == 22)=false:=by simp;omega
  have q23:(k == 23)=false:=by simp;omega
  have q24:(k == 24)=false:=by simp;omega
  clear hk
  by_cases hm:0≤m
  all_goals
   go_enter Tryz.func23,Tryz.ntmps23
   go_wp2
   all_goals
    go_ret
    refine ⟨X7 ?_,bA _⟩
    rw [HC.out] <;> first | rfl | (simp;done) | (simp;omega)
theorem Y9 {w w1:World} {o:Obj} (h:Below (w.alloc o).heap.size (w.alloc o) w1):Below w.heap.size w w1:=(bA _).trans (h.mono (by simp))
theorem KZ (l:List Tr.Gr):Yd 12 l=(Xm 1 16 (l.take (Yg l)) && Xm 18 18 (l.drop (Yg l)) && YC (l.drop (Yg l))):=rfl
theorem Tr.fits_fn (k:Int) (l:List Tr.Gr) (h:k=15∨k=20):Yd k l=(Xm 19 19 (l.take (l.length - 1)) && Xm 1 16 (l.drop (l.length - 1))):=by
 rcases h with rfl | rfl <;> rfl
theorem Tr.fits_o (k:Int) (l:List Tr.Gr) (h9:k≠9) (h12:k≠12) (h15:k≠15) (h20:k≠20) (h23:k≠23) (h24:k≠24):Yd k l=Xm 1 16 l:=by
 unfold Yd
 rw [if_neg h9,if_neg h12,if_neg (by omega),if_neg h23,if_neg h24]
set_option maxRecDepth 100000 in
set_option maxHeartbeats 1000000 in
theorem kidsFit_12 (op n m:Int) (s:ByteArray) (l:List Tr.Gr) (g o c:Nat) (w:World) (hl:l.length≤1048576) (h1:1≤l.length) (hcap:l.length≤c) (hh:∀ x∈l,x.nd.text.size≤1048576) (ht:GrAt w g o l) :
  Calls Tryz.prog 24 #[.agg #[.int .i64 12,.int .i64 op,.int .i64 n,.string s,.int .i64 m],.slice (some ⟨g,o,none⟩) l.length c] w fun e w'=>e = .returned (.bool (Yd 12 l))∧Below w.heap.size w w':=by
 have HT:=X1 (ht.below (bA (.cells #[.int .i64 12,.int .i64 op,.int .i64 n,.string s,.int .i64 m] 33)))
 have HH:=X1 hh
 clear hh ht
 go_enter Tryz.func24,Tryz.ntmps24
 go_wp2
 go_loop [5] (fun t=>∃ p:Nat,1≤p∧p≤l.length∧t = .int .i64 p∧Yg l=p+((l.drop p).takeWhile fun g=>g.nd.kind != 18).length) (fun t=>l.length - (intOf t).toNat)
 case atStart=>exact ⟨1,Nat.le_refl _,h1,rfl,rfl⟩
 case round =>
  obtain ⟨p,hp1,hp,rfl,he⟩:=hrel
  have HE:=X1 he
  clear he
  have HTV:=X1 (HT.out.takeV hp hcap)
  have HDV:=X1 (HT.out.dropQ (n:=l.length - p) hp hcap rfl)
  have hlT:(l.take p).length≤1048576:=by rw [List.length_take];omega
  have hlD:(l.drop p).length≤1048576:=by rw [List.length_drop];omega
  have HHD:Hid (∀ x∈l.drop p,x.nd.text.size≤1048576):=X1 fun x hx=>HH.out x (List.mem_of_mem_drop hx)
  have hpl:((l.length - p:Nat):Int)=(l.length:Int) - p:=by omega
  by_cases hlt:p < l.length
  ·obtain ⟨c0,c1,c2,c3,c4,c5⟩:=HT.out.2 p hlt
   have HD:=X1 (List.drop_eq_getElem_cons hlt)
   cases hk:(l[p].nd.kind != 18)
   ·have HP:=X1 (show Yg l=p by rw [HE.out,HD.out,List.takeWhile_cons,hk];simp)
    generalize l[p].nd.kind=kp at *
    clear HE HD
    cases hA:Xm 1 16 (l.take p)
    ·go_wp2_with fail
     refine (Yp (l.take p) _ 1 16 _ hlT HTV.out).mono ?_
     rintro e w1 ⟨rfl,hb1⟩
     go_wp2
     go_ret
     exact ⟨X7 (by rw [KZ,HP.out,hA];rfl),Y9 hb1⟩
    ·cases hB:Xm 18 18 (l.drop p)
     ·go_wp2_with fail
      refine (Yp (l.take p) _ 1 16 _ hlT HTV.out).mono ?_
      rintro e w1 ⟨rfl,hb1⟩
      go_wp2_with fail
      refine (Yp (l.drop p) _ 18 18 _ hlD ((HDV.out _ (.inl rfl)).below hb1)).mono ?_
      rintro e w2 ⟨rfl,hb2⟩
      go_wp2
      go_ret
      exact ⟨X7 (by rw [KZ,HP.out,hA,hB];rfl),(Y9 hb1).trans (hb2.mono (Y9 hb1).size)⟩
     ·go_wp2_with fail
      refine (Yp (l.take p) _ 1 16 _ hlT HTV.out).mono ?_
      rintro e w1 ⟨rfl,hb1⟩
      go_wp2_with fail
      refine (Yp (l.drop p) _ 18 18 _ hlD ((HDV.out _ (.inl rfl)).below hb1)).mono ?_
      rintro e w2 ⟨rfl,hb2⟩
      go_wp2_with fail
      refine (texts_any (l.drop p) _ _ hlD HHD.out (((HDV.out _ (.inl rfl)).below hb1).below hb2)).mono ?_
      rintro e w3 ⟨rfl,hb3⟩
      go_wp2
      go_ret
      have q2:=(Y9 hb1).trans (hb2.mono (Y9 hb1).size)
      exact ⟨X7 (by rw [KZ,HP.out,hA,hB];rfl),q2.trans (hb3.mono q2.size)⟩
   ·have HP:=X1 (show Yg l=(p+1)+((l.drop (p+1)).takeWhile fun g=>g.nd.kind != 18).length by rw [HE.out,HD.out,List.takeWhile_cons,hk];simp;omega)
    generalize l[p].nd.kind=kp at *
    clear HE HD HTV HDV
    go_wp2
    go_round
    case rel=>exact ⟨p+1,by omega,by omega,by go_num,HP.out⟩
    case measure=>simp [intOf];omega
  ·have HP:=X1 (show Yg l=p by rw [HE.out,List.drop_of_length_le (by omega)];rfl)
   clear HE HDV HHD
   obtain rfl:p=l.length:=by omega
   have HF:Hid (Yd 12 l=Xm 1 16 l):=X1 (by
    rw [KZ,HP.out,List.take_length,List.drop_length]
    rw [show Xm 18 18 []=true from rfl,show YC []=true from rfl];simp)
   have HLV:Hid (GrV (w.alloc (.cells #[.int .i64 12,.int .i64 op,.int .i64 n,.string s,.int .i64 m] 33)) (.slice (some ⟨g,o,none⟩) l.length c) l):=X1 (by have:=HTV.out;rwa [List.take_length] at this)
   clear HTV HP hpl hlT hlD
   by_cases hcp:c=l.length
   ·subst hcp
    cases hA:Xm 1 16 l
    ·go_wp2_with fail
     refine (Yp l _ 1 16 _ hl HLV.out).mono ?_
     rintro e w1 ⟨rfl,hb1⟩
     go_wp2
     go_ret
     exact ⟨X7 (by rw [HF.out,hA]),Y9 hb1⟩
    ·go_wp2_with fail
     refine (Yp l _ 1 16 _ hl HLV.out).mono ?_
     rintro e w1 ⟨rfl,hb1⟩
     go_wp2_with fail
     refine (kinds_nil _ _ 18 18 _).mono ?_
     rintro e w2 ⟨rfl,hb2⟩
     go_wp2_with fail
     refine (texts_nil _ _ _).mono ?_
     rintro e w3 ⟨rfl,hb3⟩
     go_wp2
     go_ret
     have q2:=(Y9 hb1).trans (hb2.mono (Y9 hb1).size)
     exact ⟨X7 (by rw [HF.out,hA]),q2.trans (hb3.mono q2.size)⟩
   ·cases hA:Xm 1 16 l
    ·go_wp2_with fail
     refine (Yp l _ 1 16 _ hl HLV.out).mono ?_
     rintro e w1 ⟨rfl,hb1⟩
     go_wp2
     go_ret
     exact ⟨X7 (by rw [HF.out,hA]),Y9 hb1⟩
    ·go_wp2_with fail
     refine (Yp l _ 1 16 _ hl HLV.out).mono ?_
     rintro e w1 ⟨rfl,hb1⟩
     go_wp2_with fail
     refine (kinds_nil _ _ 18 18 _).mono ?_
     rintro e w2 ⟨rfl,hb2⟩
     go_wp2_with fail
     refine (texts_nil _ _ _).mono ?_
     rintro e w3 ⟨rfl,hb3⟩
     go_wp2
     go_ret
     have q2:=(Y9 hb1).trans (hb2.mono (Y9 hb1).size)
     exact ⟨X7 (by rw [HF.out,hA]),q2.trans (hb3.mono q2.size)⟩
set_option maxRecDepth 100000 in
set_option maxHeartbeats 1000000 in
theorem kidsFit_fn (k op n m:Int) (s:ByteArray) (l:List Tr.Gr) (g o c:Nat) (w:World) (hk:k=15∨k=20) (hl:l.length≤1048576) (h1:1≤l.length) (hcap:l.length≤c) (ht:GrAt w g o l) :
  Calls Tryz.prog 24 #[.agg #[.int .i64 k,.int .i64 op,.int .i64 n,.string s,.int .i64 m],.slice (some ⟨g,o,none⟩) l.length c] w fun e w'=>e = .returned (.bool (Yd k l))∧Below w.heap.size w w':=by
 have HF:=X1 (Tr.fits_fn k l hk)
 have HT:=X1 (ht.below (bA (.cells #[.int .i64 k,.int .i64 op,.int .i64 n,.string s,.int .i64 m] 33)))
 obtain ⟨p,hp⟩:∃ p,l.length=p+1:=⟨l.length - 1,by omega⟩
 have HTV:=X1 (HT.out.takeV (c:=c) (p:=p) (by omega) hcap)
 have HDV:=X1 (HT.out.dropQ (c:=c) (n:=1) (p:=p) (by omega) hcap (by omega))
 have hlT:(l.take p).length≤1048576:=by rw [List.length_take];omega
 have hlD:(l.drop p).length≤1048576:=by rw [List.length_drop];omega
 rw [hp,Nat.add_sub_cancel] at HF
 clear ht HT
 rcases hk with rfl | rfl
 all_goals
  cases hA:Xm 19 19 (l.take p)
  ·go_enter Tryz.func24,Tryz.ntmps24
   go_wp2_with fail
   refine (Yp (l.take p) _ 19 19 _ hlT HTV.out).mono ?_
   rintro e w1 ⟨rfl,hb1⟩
   go_wp2
   go_ret
   exact ⟨X7 (by rw [HF.out,hA];rfl),Y9 hb1⟩
  ·go_enter Tryz.func24,Tryz.ntmps24
   go_wp2_with fail
   refine (Yp (l.take p) _ 19 19 _ hlT HTV.out).mono ?_
   rintro e w1 ⟨rfl,hb1⟩
   go_wp2_with fail
   refine (Yp (l.drop p) _ 1 16 _ hlD ((HDV.out _ (.inl rfl)).below hb1)).mono ?_
   rintro e w2 ⟨rfl,hb2⟩
   go_wp2
   go_ret
   exact ⟨X7 (by rw [HF.out,hA];rfl),(Y9 hb1).trans (hb2.mono (Y9 hb1).size)⟩
set_option maxRecDepth 100000 in
set_option maxHeartbeats 1000000 in
theorem kidsFit_9 (op n m:Int) (s:ByteArray) (l:List Tr.Gr) (v:Value) (w:World) (hl:l.length≤1048576) (hh:∀ x∈l,x.nd.text.size≤1048576) (ht:GrV w v l) :
  Calls Tryz.prog 24 #[.agg #[.int .i64 9,.int .i64 op,.int .i64 n,.string s,.int .i64 m],v] w fun e w'=>e = .returned (.bool (Yd 9 l))∧Below w.heap.size w w':=by
 have HT:=X1 (ht.below (bA (.cells #[.int .i64 9,.int .i64 op,.int .i64 n,.string s,.int .i64 m] 33)))
 have HH:=X1 hh
 clear hh ht
 cases hA:Xm 17 17 l
 ·go_enter Tryz.func24,Tryz.ntmps24
  go_wp2_with fail
  refine (Yp l _ 17 17 _ hl HT.out).mono ?_
  rintro e w1 ⟨rfl,hb1⟩
  go_wp2
  go_ret
  exact ⟨X7 (by rw [show Yd 9 l=(Xm 17 17 l && YC l) from rfl,hA];rfl),Y9 hb1⟩
 ·go_enter Tryz.func24,Tryz.ntmps24
  go_wp2_with fail
  refine (Yp l _ 17 17 _ hl HT.out).mono ?_
  rintro e w1 ⟨rfl,hb1⟩
  go_wp2_with fail
  refine (texts_any l _ _ hl HH.out (HT.out.below hb1)).mono ?_
  rintro e w2 ⟨rfl,hb2⟩
  go_wp2
  go_ret
  exact ⟨X7 (by rw [show Yd 9 l=(Xm 17 17 l && YC l) from rfl,hA];rfl),(Y9 hb1).trans (hb2.mono (Y9 hb1).size)⟩
set_option maxRecDepth 100000 in
set_option maxHeartbeats 1000000 in
theorem kidsFit_o (k op n m:Int) (s:ByteArray) (l:List Tr.Gr) (v:Value) (w:World) (hl:l.length≤1048576) (ht:GrV w v l) (h9:k≠9) (h12:k≠12) (h15:k≠15) (h20:k≠20) :
  Calls Tryz.prog 24 #[.agg #[.int .i64 k,.int .i64 op,.int .i64 n,.string s,.int .i64 m],v] w fun e w'=>e = .returned (.bool (Yd k l))∧Below w.heap.size w w':=by
 have HT:=X1 (ht.below (bA (.cells #[.int .i64 k,.int .i64 op,.int .i64 n,.string s,.int .i64 m] 33)))
 clear ht
 by_cases h23:k=23
 ·subst h23
  go_enter Tryz.func24,Tryz.ntmps24
  go_wp2_with fail
  refine (Yp l _ 5 5 _ hl HT.out).mono ?_
  rintro e w1 ⟨rfl,hb1⟩
  go_wp2
  go_ret
  exact ⟨rfl,Y9 hb1⟩
 ·by_cases h24:k=24
  ·subst h24
   go_enter Tryz.func24,Tryz.ntmps24
   go_wp2_with fail
   refine (Yp l _ 20 23 _ hl HT.out).mono ?_
   rintro e w1 ⟨rfl,hb1⟩
   go_wp2
   go_ret
   exact ⟨rfl,Y9 hb1⟩
  ·have HF:=X1 (Tr.fits_o k l h9 h12 h15 h20 h23 h24)
   have q9:(k == 9)=false:=by simp;omega
   have q12:(k == 12)=false:=by simp;omega
   have q15:(k == 15)=false:=by simp;omega
   have q20:(k == 20)=false:=by simp;omega
   have q23:(k == 23)=false:=by simp;omega
   have q24:(k == 24)=false:=by simp;omega
   go_enter Tryz.func24,Tryz.ntmps24
   go_wp2_with fail
   refine (Yp l _ 1 16 _ hl HT.out).mono ?_
   rintro e w1 ⟨rfl,hb1⟩
   go_wp2
   go_ret
   exact ⟨X7 HF.out.symm,Y9 hb1⟩
theorem Qj (k op n m:Int) (s:ByteArray) (l:List Tr.Gr) (v:Value) (w:World) (hl:l.length≤1048576) (h1:k=12∨k=15∨k=20→1≤l.length) (hh:∀ x∈l,x.nd.text.size≤1048576) (ht:GrV w v l) :
  Calls Tryz.prog 24 #[.agg #[.int .i64 k,.int .i64 op,.int .i64 n,.string s,.int .i64 m],v] w fun e w'=>e = .returned (.bool (Yd k l))∧Below w.heap.size w w':=by
 by_cases h9:k=9
 ·subst h9;exact kidsFit_9 op n m s l v w hl hh ht
 by_cases hx:k=12∨k=15∨k=20
 ·have hpos:=h1 hx
  rcases ht with ⟨p,c,_,rfl⟩ | ⟨g,o,c,rfl,hc,hg⟩
  ·simp at hpos
  ·by_cases h12:k=12
   ·subst h12;exact kidsFit_12 op n m s l g o c w hl hpos hc hh hg
   ·exact kidsFit_fn k op n m s l g o c w (by omega) hl hpos hc hg
 ·exact kidsFit_o k op n m s l v w hl ht h9 (by omega) (by omega) (by omega)
end Go.Proofs.YthbfdaifgnhkbaaGreatDoor
