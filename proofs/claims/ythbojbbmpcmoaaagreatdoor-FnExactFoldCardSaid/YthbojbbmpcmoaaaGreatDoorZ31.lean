/- Fot, Fox. -/
import Derived.Test.YthbojbbmpcmoaaaGreatDoorZ29
import Derived.Test.YthbojbbmpcmoaaaGreatDoorZ30
import Derived.Test.YthbojbbmpcmoaaaGreatDoorZ20
namespace Go.Proofs.YthbojbbmpcmoaaaGreatDoor
open Go.RowKit
def Fd.tn (x:Tr.Nd):Vl.T:= .mk x.kind x.n x.text []
def Fd.raw:Vl.Out→Option Tr.Nd
 | .inr t=>some (Fd.cn t.kind t.num t.text)
 | .inl _=>none
namespace Vl
def rgW:List UInt8:=[114,97,110,103,101]
def unOut (op:Int) (t:T):Out:=if op=1 then (if t.kind=2 then .inr (boolT (!(t.num == 1))) else .inl tyW) else if t.kind=3 then numOut (fit64 (0 - t.num)) rgW else .inl tyW
def binOut (op:Int) (t u:T):Out:=match opRs[(op - 1).toNat]? with
 | some R=>R t u
 | none => .inl tyW
end Vl
def Fd.O:FOp:=⟨fun op x=>Fd.okC (Fd.raw (Vl.unOut op (Fd.tn x))),fun op x y=>Fd.okC (Fd.raw (Vl.binOut op (Fd.tn x) (Fd.tn y)))⟩
def Fd.oc (o:Vl.Out):Prop:=∀ c,Fd.okC (Fd.raw o)=some c→Fd.CN c
theorem Fd.oc_word (l:List UInt8):Fd.oc (.inl l):=fun c h=>by cases h
theorem Fd.oc_bool (b:Bool):Fd.oc (.inr (Vl.boolT b)):=by
 intro c h
 have h:Fd.okC (some (Fd.cn 2 (if b then 1 else 0) ⟨#[]⟩))=some c:=h
 rw [Fd.okC_some,if_neg (by show ¬ ((2:Int)=3∧_);omega)] at h
 cases h
 refine ⟨⟨by show (1:Int)≤2;decide,by show (2:Int)≤4;decide⟩,rfl,?_,?_,fun _=>?_,fun h=>absurd rfl h,fun _=>rfl,by show (0:Nat)≤1000;decide⟩ <;> cases b <;> decide
theorem Fd.oc_int (z:Int) (hz:z < 9223372036854775808):Fd.oc (.inr (Vl.intT z)):=by
 intro c h
 have h:Fd.okC (some (Fd.cn 3 z ⟨#[]⟩))=some c:=h
 rw [Fd.okC_some] at h
 by_cases hn:z < 0
 ·rw [if_pos ⟨rfl,hn⟩] at h;cases h
 ·rw [if_neg (fun e=>hn e.2)] at h
  cases h
  exact ⟨⟨by show (1:Int)≤3;decide,by show (3:Int)≤4;decide⟩,rfl,by show (0:Int)≤z;omega,hz,fun h=>absurd h (by show ¬ (3:Int)=2;decide),fun _ h=>absurd rfl h,fun _=>rfl,by show (0:Nat)≤1000;decide⟩
theorem Fd.oc_text (s:ByteArray) (hs:s.size≤1000):Fd.oc (.inr (.mk 4 0 s [])):=by
 intro c h
 have h:Fd.okC (some (Fd.cn 4 0 s))=some c:=h
 rw [Fd.okC_some,if_neg (by show ¬ ((4:Int)=3∧_);omega)] at h
 cases h
 exact ⟨⟨by show (1:Int)≤4;decide,by show (4:Int)≤4;decide⟩,rfl,by show (0:Int)≤0;decide,by show (0:Int) < _;decide,fun h=>absurd h (by show ¬ (4:Int)=2;decide),fun _ _=>rfl,fun h=>absurd rfl h,hs⟩
theorem Fd.oc_num (r:Option Int) (l:List UInt8) (h:∀ z,r=some z→z < 9223372036854775808):Fd.oc (Vl.numOut r l):=by
 cases r with
 | none=>exact Fd.oc_word l
 | some z=>exact Fd.oc_int z (h z rfl)
theorem Fd.oc_either:∀ l:List Vl.Out,(∀ o∈l,Fd.oc o)→Fd.oc (Vl.eitherOut l)
 | [],_=>Fd.oc_word _
 | o :: r,h=>by
  rw [Vl.eitherOut]
  split
  ·exact Fd.oc_either r (fun o ho=>h o (by simp [ho]))
  ·exact h o (by simp)
theorem fit_lt {p z:Int} (h:Vl.fit64 p=some z):z < 9223372036854775808:=by
 unfold Vl.fit64 at h
 split at h
 ·cases h;omega
 ·cases h
theorem Fd.oc_ite {c:Prop} [Decidable c] {a b:Vl.Out} (ha:c→Fd.oc a) (hb:¬ c→Fd.oc b):Fd.oc (if c then a else b):=by
 by_cases h:c
 ·rw [if_pos h];exact ha h
 ·rw [if_neg h];exact hb h
theorem mends_no {a b:Int} (ha:0≤a) (hb:0≤b):Vl.mends a b=false:=by
 unfold Vl.mends
 rw [decide_eq_false (by omega),decide_eq_false (by omega)]
 simp
theorem Fd.oc_un (op:Int) (x:Tr.Nd):Fd.oc (Vl.unOut op (Fd.tn x)):=by
 unfold Vl.unOut
 refine Fd.oc_ite (fun _=>Fd.oc_ite (fun _=>Fd.oc_bool _) fun _=>Fd.oc_word _) fun _=>Fd.oc_ite (fun _=>Fd.oc_num _ _ fun z h=>fit_lt h) fun _=>Fd.oc_word _
theorem Fd.oc_bin (op:Int) (x y:Tr.Nd) (hx:Fd.CN x) (hy:Fd.CN y):Fd.oc (Vl.binOut op (Fd.tn x) (Fd.tn y)):=by
 unfold Vl.binOut
 have bb:∀ R:Vl.T→Vl.T→Vl.Out,(∀ t u,Fd.oc (R t u))→∀ t u,Fd.oc (Vl.twoBB R t u):=fun R h t u=>Fd.oc_ite (fun _=>h t u) fun _=>Fd.oc_word _
 have al:∀ hb t u,Fd.oc (Vl.alike hb t u):=fun hb t u=>by
  refine Fd.oc_either _ fun o ho=>?_
  simp only [List.map_cons,List.map_nil,List.mem_cons,List.not_mem_nil,or_false] at ho
  rcases ho with rfl | rfl | rfl | rfl
  ·exact Fd.oc_ite (fun _=>Fd.oc_bool _) fun _=>Fd.oc_word _
  ·exact Fd.oc_ite (fun _=>Fd.oc_bool _) fun _=>Fd.oc_word _
  ·exact Fd.oc_ite (fun _=>Fd.oc_bool _) fun _=>Fd.oc_word _
  ·exact Fd.oc_word _
 have ii:∀ R:Vl.T→Vl.T→Vl.Out,Fd.oc (R (Fd.tn x) (Fd.tn y))→Fd.oc (Vl.twoII R (Fd.tn x) (Fd.tn y)):=fun R h=>Fd.oc_ite (fun _=>h) fun _=>Fd.oc_word _
 cases h:Vl.opRs[(op - 1).toNat]? with
 | none=>exact Fd.oc_word _
 | some R =>
  have hm:=List.mem_of_getElem? h
  unfold Vl.opRs at hm
  simp only [List.mem_cons,List.not_mem_nil,or_false] at hm
  show Fd.oc (R (Fd.tn x) (Fd.tn y))
  have h0:=hx.n0
  have h1:=hx.n1
  have g0:=hy.n0
  have g1:=hy.n1
  rcases hm with rfl | rfl | rfl | rfl | rfl | rfl | rfl | rfl | rfl | rfl | rfl | rfl | rfl | rfl
  ·exact bb _ (fun t u=>Fd.oc_bool _) _ _
  ·exact bb _ (fun t u=>Fd.oc_bool _) _ _
  ·exact Fd.oc_bool _
  ·exact Fd.oc_bool _
  ·exact al _ _ _
  ·exact al _ _ _
  ·exact al _ _ _
  ·exact al _ _ _
  ·refine Fd.oc_either _ fun o ho=>?_
   simp only [List.map_cons,List.map_nil,List.mem_cons,List.not_mem_nil,or_false] at ho
   rcases ho with rfl | rfl | rfl
   ·exact Fd.oc_ite (fun _=>Fd.oc_bool _) fun _=>Fd.oc_word _
   ·exact Fd.oc_word _
   ·exact Fd.oc_word _
  ·refine Fd.oc_either _ fun o ho=>?_
   simp only [List.map_cons,List.map_nil,List.mem_cons,List.not_mem_nil,or_false] at ho
   rcases ho with rfl | rfl | rfl | rfl
   ·exact ii _ (Fd.oc_num _ _ fun z h=>fit_lt h)
   ·exact Fd.oc_ite (fun _=>Fd.oc_ite (fun h=>Fd.oc_text _ h) fun _=>Fd.oc_word _) fun _=>Fd.oc_word _
   ·exact Fd.oc_word _
   ·exact Fd.oc_word _
  ·exact ii _ (Fd.oc_num _ _ fun z h=>fit_lt h)
  ·exact ii _ (Fd.oc_num _ _ fun z h=>fit_lt h)
  ·refine ii _ (Fd.oc_ite (fun _=>Fd.oc_word _) fun hz=>Fd.oc_ite (fun _=>Fd.oc_word _) fun _=>Fd.oc_int _ ?_)
   show Vl.quoV x.n y.n < _
   unfold Vl.quoV
   rw [mends_no h0 g0,if_neg (by decide)]
   have hz:y.n≠0:=hz
   rw [Int.tdiv_eq_ediv_of_nonneg h0]
   have:=Int.ediv_le_self y.n h0
   omega
  ·refine ii _ (Fd.oc_ite (fun _=>Fd.oc_word _) fun hz=>Fd.oc_int _ ?_)
   show Vl.remV x.n y.n < _
   unfold Vl.remV
   rw [mends_no h0 g0,if_neg (by decide)]
   have hz:y.n≠0:=hz
   rw [Int.tmod_eq_emod_of_nonneg h0]
   have:=Int.emod_lt_of_pos x.n (show 0 < y.n by omega)
   omega
theorem Fd.fine_O:Fd.Fine Fd.O:=⟨fun op k c _ h=>Fd.oc_un op k c h,fun op k l c hk hl h=>Fd.oc_bin op k l hk hl c h⟩
def Fd.ok (o:Vl.Out):Prop:=∀ t,o = .inr t→1≤t.kind∧t.kind≤4
theorem Fd.ok_made (t:Vl.T) (h:1≤t.kind∧t.kind≤4):Fd.ok (.inr t):=by
 intro c e
 cases e
 exact h
theorem Fd.ok.isC {o:Vl.Out} (h:Fd.ok o) {c:Tr.Nd} (e:Fd.okC (Fd.raw o)=some c):Fd.isC c:=by
 cases o with
 | inl l=>cases e
 | inr t =>
  have e:Fd.okC (some (Fd.cn t.kind t.num t.text))=some c:=e
  rw [Fd.okC_some] at e
  split at e
  ·cases e
  ·cases e;exact h t rfl
theorem Fd.ok_word (l:List UInt8):Fd.ok (.inl l):=fun c h=>by cases h
theorem Fd.ok_ite {c:Prop} [Decidable c] {a b:Vl.Out} (ha:Fd.ok a) (hb:Fd.ok b):Fd.ok (if c then a else b):=by split <;> assumption
theorem Fd.ok_num (r:Option Int) (l:List UInt8):Fd.ok (Vl.numOut r l):=by
 cases r with
 | none=>exact Fd.ok_word l
 | some z=>exact Fd.ok_made _ ⟨by show (1:Int)≤3;decide,by show (3:Int)≤4;decide⟩
theorem Fd.ok_bool (b:Bool):Fd.ok (.inr (Vl.boolT b)):=Fd.ok_made _ ⟨by show (1:Int)≤2;decide,by show (2:Int)≤4;decide⟩
theorem Fd.ok_int (z:Int):Fd.ok (.inr (Vl.intT z)):=Fd.ok_made _ ⟨by show (1:Int)≤3;decide,by show (3:Int)≤4;decide⟩
theorem Fd.ok_cat (t u:Vl.T):Fd.ok (.inr (Vl.catT t u)):=Fd.ok_made _ ⟨by show (1:Int)≤4;decide,by show (4:Int)≤4;decide⟩
theorem Fd.ok_either:∀ l:List Vl.Out,(∀ o∈l,Fd.ok o)→Fd.ok (Vl.eitherOut l)
 | [],_=>Fd.ok_word _
 | o :: r,h=>by
  rw [Vl.eitherOut]
  split
  ·exact Fd.ok_either r (fun o ho=>h o (by simp [ho]))
  ·exact h o (by simp)
theorem Fd.ok_bin (op:Int) (t u:Vl.T):Fd.ok (Vl.binOut op t u):=by
 unfold Vl.binOut
 cases h:Vl.opRs[(op - 1).toNat]? with
 | none=>exact Fd.ok_word _
 | some R =>
  have hm:=List.mem_of_getElem? h
  unfold Vl.opRs at hm
  simp only [List.mem_cons,List.not_mem_nil,or_false] at hm
  show Fd.ok (R t u)
  rcases hm with rfl | rfl | rfl | rfl | rfl | rfl | rfl | rfl | rfl | rfl | rfl | rfl | rfl | rfl
  all_goals first
   | exact Fd.ok_bool _
   | exact Fd.ok_ite (Fd.ok_bool _) (Fd.ok_word _)
   | exact Fd.ok_ite (Fd.ok_num _ _) (Fd.ok_word _)
   | exact Fd.ok_ite (Fd.ok_ite (Fd.ok_word _) (Fd.ok_ite (Fd.ok_word _) (Fd.ok_int _))) (Fd.ok_word _)
   | exact Fd.ok_ite (Fd.ok_ite (Fd.ok_word _) (Fd.ok_int _)) (Fd.ok_word _)
   | (refine Fd.ok_either _ fun o ho=>?_
      simp only [List.map_cons,List.map_nil,List.mem_cons,List.not_mem_nil,or_false] at ho
      first
      | (rcases ho with rfl | rfl | rfl | rfl <;> first | exact Fd.ok_ite (Fd.ok_bool _) (Fd.ok_word _) | exact Fd.ok_word _ | exact Fd.ok_ite (Fd.ok_num _ _) (Fd.ok_word _) | exact Fd.ok_ite (Fd.ok_ite (Fd.ok_cat _ _) (Fd.ok_word _)) (Fd.ok_word _))
      | (rcases ho with rfl | rfl | rfl <;> first | exact Fd.ok_ite (Fd.ok_bool _) (Fd.ok_word _) | exact Fd.ok_word _))
theorem Fd.ok_un (op:Int) (t:Vl.T):Fd.ok (Vl.unOut op t):=by
 unfold Vl.unOut
 exact Fd.ok_ite (Fd.ok_ite (Fd.ok_bool _) (Fd.ok_word _)) (Fd.ok_ite (Fd.ok_num _ _) (Fd.ok_word _))
theorem Fd.cs_O:Fd.Cs Fd.O:=⟨fun op _ _ h=>(Fd.ok_un op _).isC h,fun op _ _ _ h=>(Fd.ok_bin op _ _).isC h⟩
set_option maxRecDepth 100000 in
set_option maxHeartbeats 1000000 in
theorem truth_any (b:Bool) (w:World):Calls Tryz.prog 264 #[.bool b] w fun e w'=>e = .returned (.agg #[.int .i64 2,.int .i64 0,.int .i64 (if b then 1 else 0),.string ⟨#[]⟩,.int .i64 0])∧Below w.heap.size w w':=by
 have HBT:=hide (fun w=>bit_any b w)
 generalize (if b=true then (1:Int) else 0)=z at *
 go_enter Tryz.func264,Tryz.ntmps264
 go_wp2_with fail
 refine (HBT.out _).mono ?_
 rintro e w1 ⟨rfl,rfl⟩
 go_wp2
 refine bodyPost_ret (v:= .agg #[.int .i64 2,.int .i64 0,.int .i64 z,.string ⟨#[]⟩,.int .i64 0]) (by simp [results,Tryz.results264,go_sem]) rfl ⟨rfl,?_⟩
 repeat (first | (refine Below.setCell ?_ (by show w.heap.size≤w.heap.size;omega) _) | (refine Below.alloc ?_ (by simp) _))
 exact Below.refl _ _
set_option maxRecDepth 100000 in
set_option maxHeartbeats 1000000 in
theorem number_pos (n:Int) (h:0≤n) (w:World):Calls Tryz.prog 260 #[.int .i64 n] w fun e w'=>e = .returned (Ip.pv (Fd.cn 3 n ⟨#[]⟩) (.slice none 0 0))∧Below w.heap.size w w':=by
 have t1:(n == -9223372036854775808)=false:=by simpa using (by omega:n≠ -9223372036854775808)
 have t2:¬ (n < 0):=by omega
 have HN:=hide (fun w=>newPart_any 3 0 n 0 ⟨#[]⟩ none 0 0 w)
 unfold Ip.pv at *
 go_enter Tryz.func260,Tryz.ntmps260
 go_wp2_with fail
 refine (HN.out _).mono ?_
 rintro e w1 ⟨rfl,hb⟩
 have HB:=hide hb
 clear hb
 go_wp2
 go_ret
 exact ⟨rfl,HB.out⟩
def NoC (w:World) (e:Ending) (w':World):Prop:=∃ (k o m:Int) (t:ByteArray) (c:Int) (p:Option Addr) (l cp:Nat),e = .returned (Ip.pv ⟨k,o,m,t,c⟩ (.slice p l cp))∧¬ (1≤k∧k≤4)∧Below w.heap.size w w'
set_option maxRecDepth 100000 in
set_option maxHeartbeats 1000000 in
theorem number_neg (n:Int) (h:n < 0) (h2:n≠ -9223372036854775808) (h3:-9223372036854775808≤n) (w:World):Calls Tryz.prog 260 #[.int .i64 n] w (NoC w):=by
 have t1:(n == -9223372036854775808)=false:=by simpa using h2
 have ew:IntKind.i64.wrap (-n) = -n:=by rw [IntKind.wrap_i64];omega
 have HP:=hide (fun w=>number_pos (-n) (by omega) w)
 have HN:=hide (fun p w=>newPart_any 6 2 0 0 ⟨#[]⟩ p 1 1 w)
 unfold Ip.pv at *
 go_enter Tryz.func260,Tryz.ntmps260
 go_wp2_with fail
 refine (HP.out _).mono ?_
 rintro e w1 ⟨rfl,hb⟩
 have HB:=hide hb
 clear hb
 go_wp2_with fail
 refine (HN.out _ _).mono ?_
 rintro e w2 ⟨rfl,hb⟩
 have HB2:=hide ((HB.out.alloc HB.out.size _).trans (hb.mono (by have:=HB.out.size;simp;omega)))
 clear hb
 go_wp2
 go_ret
 exact ⟨6,2,0,⟨#[]⟩,_,_,1,1,rfl,by omega,HB2.out⟩
set_option maxRecDepth 100000 in
set_option maxHeartbeats 1000000 in
theorem number_min (w:World):Calls Tryz.prog 260 #[.int .i64 (-9223372036854775808)] w (NoC w):=by
 have HP:=hide (fun w=>number_neg (-9223372036854775807) (by omega) (by omega) (by omega) w)
 have HP1:=hide (fun w=>number_pos 1 (by omega) w)
 have HN:=hide (fun p w=>newPart_any 7 11 0 0 ⟨#[]⟩ p 2 2 w)
 unfold NoC at HP
 unfold Ip.pv at *
 go_enter Tryz.func260,Tryz.ntmps260
 go_wp2_with fail
 refine (HP.out _).mono ?_
 rintro e w1 ⟨k,o,m,t,c,p,l,cp,rfl,_,hb⟩
 have HB:=hide hb
 clear hb
 go_wp2_with fail
 refine (HP1.out _).mono ?_
 rintro e w2 ⟨rfl,hb⟩
 have HB1:=hide (HB.out.trans (hb.mono HB.out.size))
 clear hb
 go_wp2_with fail
 refine (HN.out _ _).mono ?_
 rintro e w3 ⟨rfl,hb⟩
 have HB2:=hide ((HB1.out.alloc HB1.out.size _).trans (hb.mono (by have:=HB1.out.size;simp;omega)))
 clear hb
 go_wp2
 go_ret
 exact ⟨7,11,0,⟨#[]⟩,_,_,2,2,rfl,by omega,HB2.out⟩
namespace Vl
open T.atoms T.ok T.high T.good T.allPlain DatAt T.ord
theorem empty_of {s:ByteArray} (h:s.size=0):s=⟨#[]⟩:=by
 cases s with
 | mk d=>have:d.size=0:=h;rw [Array.size_eq_zero_iff] at this;rw [this]
theorem good_parts {k n:Int} {s:ByteArray} {ks:List T} (h:(T.mk k n s ks).good=true):(k=2∨k=3∨n=0)∧(k=4∨s=⟨#[]⟩)∧(k=5∨k=6∨ks=[]):=by
 rw [T.good_eq] at h
 simp only [Bool.and_eq_true] at h
 have h:=h.1.1
 unfold plain at h
 simp only [Bool.and_eq_true,T.kind,T.num,T.text,T.ks] at h
 obtain ⟨⟨⟨h1,h2⟩,h3⟩,-⟩:=h
 simp only [Bool.or_eq_true,beq_iff_eq] at h1 h2 h3
 refine ⟨by omega,?_,?_⟩
 ·rcases h2 with h | h
  ·exact .inl h
  ·exact .inr (empty_of h)
 ·rcases h3 with (h | h) | h
  ·exact .inl h
  ·exact .inr (.inl h)
  ·exact .inr (.inr (List.eq_nil_of_length_eq_zero h))
theorem leaf_parts {k n:Int} {s:ByteArray} {ks:List T} (hk:k=1∨k=2∨k=3∨k=4) (h:(T.mk k n s ks).good=true):(k=2∨k=3∨n=0)∧(k=4∨s=⟨#[]⟩)∧ks=[]:=by
 obtain ⟨h1,h2,h3⟩:=good_parts h
 refine ⟨h1,h2,?_⟩
 rcases h3 with h | h | h
 ·omega
 ·omega
 ·exact h
end Vl
def ExPost (t:Vl.T) (w:World) (e:Ending) (w':World):Prop:=match Fd.okC (Fd.raw (.inr t)) with
 | some c=>e = .returned (Ip.pv c (.slice none 0 0))∧Below w.heap.size w w'
 | none=>NoC w e w'
theorem okc_yes {t:Vl.T} (h:¬ (t.kind=3∧t.num < 0)):Fd.okC (Fd.raw (.inr t))=some (Fd.cn t.kind t.num t.text):=by
 show Fd.okC (some _)=_
 rw [Fd.okC_some]
 exact if_neg h
theorem okc_no {t:Vl.T} (h:t.kind=3∧t.num < 0):Fd.okC (Fd.raw (.inr t))=none:=by
 show Fd.okC (some _)=_
 rw [Fd.okC_some]
 exact if_pos h
set_option maxRecDepth 100000 in
set_option maxHeartbeats 2000000 in
theorem expr_any (t:Vl.T) (hk:1≤t.kind∧t.kind≤4) (hg:t.good=true) (h64:-9223372036854775808≤t.num) (x:Nat) (v:Value) (w w0:World) (hd:Vl.DatAt w0 x t v):Calls Tryz.prog 258 #[v] w (ExPost t w):=by
 have n1:=Vl.tan_b
 have n2:=Vl.tan_i
 have n3:=Vl.ta_text_no
 have n4:=Vl.tan_l
 have n5:=Vl.tan_r
 have y1:=Vl.tay_b
 have y2:=Vl.tay_i
 have y3:=Vl.ta_text_yes
 cases t with
 | mk k n s ks =>
 have hk:1≤k∧k≤4:=hk
 have h64:-9223372036854775808≤n:=h64
 have hlp:=Vl.leaf_parts (by omega) hg
 unfold ExPost
 unfold Vl.DatAt at hd
 rcases hd with ⟨rfl,rfl⟩ | ⟨rfl,rfl⟩ | ⟨rfl,rfl⟩ | ⟨rfl,rfl⟩ | ⟨rfl,_⟩ | ⟨rfl,_⟩
 ·obtain ⟨e1,e2,e3⟩:=hlp
  have e1:n=0:=by omega
  have e2:s=⟨#[]⟩:=e2.resolve_left (by decide)
  subst e1 e2 e3
  rw [okc_yes (t:= .mk 1 0 ⟨#[]⟩ []) (fun h=>absurd h.1 (by show ¬ (1:Int)=3;decide))]
  have HN:=hide (fun w=>newPart_any 1 0 0 0 ⟨#[]⟩ none 0 0 w)
  show Calls _ _ _ _ fun e w'=>e = .returned (Ip.pv (Fd.cn 1 0 ⟨#[]⟩) (.slice none 0 0))∧Below w.heap.size w w'
  unfold Ip.pv at *
  go_enter Tryz.func258,Tryz.ntmps258
  go_wp2_with fail
  refine (HN.out _).mono ?_
  rintro e w1 ⟨rfl,hb⟩
  have HB:=hide hb
  clear hb
  go_wp2
  go_ret
  exact ⟨rfl,HB.out⟩
 ·obtain ⟨_,e2,e3⟩:=hlp
  have e2:s=⟨#[]⟩:=e2.resolve_left (by decide)
  have hn:=Vl.good_num hg
  subst e2 e3
  rw [okc_yes (t:= .mk 2 n ⟨#[]⟩ []) (fun h=>absurd h.1 (by show ¬ (2:Int)=3;decide))]
  have HBT:=hide (fun w=>bit_any (n == 1) w)
  have hz:(if (n == 1)=true then (1:Int) else 0)=n:=by rcases hn with rfl | rfl <;> rfl
  rw [hz] at HBT
  have HN:=hide (fun w=>newPart_any 2 0 n 0 ⟨#[]⟩ none 0 0 w)
  show Calls _ _ _ _ fun e w'=>e = .returned (Ip.pv (Fd.cn 2 n ⟨#[]⟩) (.slice none 0 0))∧Below w.heap.size w w'
  clear hz hn hg
  generalize (n == 1)=bb at *
  unfold Ip.pv at *
  go_enter Tryz.func258,Tryz.ntmps258
  go_wp2_with fail
  refine (HBT.out _).mono ?_
  rintro e w0 ⟨rfl,rfl⟩
  go_wp2_with fail
  refine (HN.out _).mono ?_
  rintro e w1 ⟨rfl,hb⟩
  have HB:=hide hb
  clear hb
  go_wp2
  go_ret
  exact ⟨rfl,HB.out⟩
 ·obtain ⟨_,e2,e3⟩:=hlp
  have e2:s=⟨#[]⟩:=e2.resolve_left (by decide)
  subst e2 e3
  by_cases hneg:n < 0
  ·rw [okc_no (t:= .mk 3 n ⟨#[]⟩ []) ⟨rfl,hneg⟩]
   have HX:Hid (∀ w,Calls Tryz.prog 260 #[.int .i64 n] w (NoC w)):=hide (fun w=>by
    by_cases hm:n = -9223372036854775808
    ·subst hm;exact number_min w
    ·exact number_neg n hneg hm h64 w)
   unfold NoC at HX
   show Calls _ _ _ _ (NoC w)
   clear hneg h64 hg
   unfold Ip.pv at *
   go_enter Tryz.func258,Tryz.ntmps258
   go_wp2_with fail
   refine (HX.out _).mono ?_
   rintro e w1 ⟨k,o,m,t,c,p,l,cp,rfl,hnc,hb⟩
   have HB:=hide hb
   have HNC:=hide hnc
   clear hb hnc
   go_wp2
   go_ret
   exact ⟨k,o,m,t,c,p,l,cp,rfl,HNC.out,HB.out⟩
  ·rw [okc_yes (t:= .mk 3 n ⟨#[]⟩ []) (fun h=>hneg h.2)]
   have HX:=hide (fun w=>number_pos n (by omega) w)
   show Calls _ _ _ _ fun e w'=>e = .returned (Ip.pv (Fd.cn 3 n ⟨#[]⟩) (.slice none 0 0))∧Below w.heap.size w w'
   clear hneg h64 hg
   unfold Ip.pv at *
   go_enter Tryz.func258,Tryz.ntmps258
   go_wp2_with fail
   refine (HX.out _).mono ?_
   rintro e w1 ⟨rfl,hb⟩
   have HB:=hide hb
   clear hb
   go_wp2
   go_ret
   exact ⟨rfl,HB.out⟩
 ·obtain ⟨e1,_,e3⟩:=hlp
  have e1:n=0:=by omega
  subst e1 e3
  rw [okc_yes (t:= .mk 4 0 s []) (fun h=>absurd h.1 (by show ¬ (4:Int)=3;decide))]
  have HN:=hide (fun w=>newPart_any 4 0 0 0 s none 0 0 w)
  show Calls _ _ _ _ fun e w'=>e = .returned (Ip.pv (Fd.cn 4 0 s) (.slice none 0 0))∧Below w.heap.size w w'
  unfold Ip.pv at *
  go_enter Tryz.func258,Tryz.ntmps258
  go_wp2_with fail
  refine (HN.out _).mono ?_
  rintro e w1 ⟨rfl,hb⟩
  have HB:=hide hb
  clear hb
  go_wp2
  go_ret
  exact ⟨rfl,HB.out⟩
 ·omega
 ·omega
end Go.Proofs.YthbojbbmpcmoaaaGreatDoor
