/- Fv3, Fv4. -/
import Derived.Test.YthbojbbmpcmoaaaGreatDoorZ17
namespace Go.Proofs.YthbojbbmpcmoaaaGreatDoor.Vl
open Go.RowKit T.atoms T.ok T.high T.good T.allPlain DatAt T.ord
theorem zero_b (w:World):(zeroValue 92).run Tryz.prog w = .ok (.bool false) w:=by kernel_rfl
theorem tan_b (t:TypeId) (v:Value) (w:World) (h:¬ t=92):(Instr.typeAssert (.iface t v) 94 92 true).run Tryz.prog w = .ok (.tuple #[.bool false,.bool false]) w:=by
 unfold Instr.typeAssert
 simp only [Sem.run_bind,run_underlying Tryz.underlying92,Result.andThen_ok,if_neg h,if_true,zero_b]
 rfl
theorem zero_i (w:World):(zeroValue 115).run Tryz.prog w = .ok (.int .i64 0) w:=by kernel_rfl
theorem tan_i (t:TypeId) (v:Value) (w:World) (h:¬ t=115):(Instr.typeAssert (.iface t v) 94 115 true).run Tryz.prog w = .ok (.tuple #[.int .i64 0,.bool false]) w:=by
 unfold Instr.typeAssert
 simp only [Sem.run_bind,run_underlying Tryz.underlying115,Result.andThen_ok,if_neg h,if_true,zero_i]
 rfl
theorem zero_l (w:World):(zeroValue 107).run Tryz.prog w = .ok (.agg #[.slice none 0 0,.int .i64 0,.int .i64 0]) w:=by kernel_rfl
theorem tan_l (t:TypeId) (v:Value) (w:World) (h:¬ t=107):(Instr.typeAssert (.iface t v) 94 107 true).run Tryz.prog w = .ok (.tuple #[.agg #[.slice none 0 0,.int .i64 0,.int .i64 0],.bool false]) w:=by
 unfold Instr.typeAssert
 simp only [Sem.run_bind,run_underlying Tryz.underlying107,Result.andThen_ok,if_neg h,if_true,zero_l]
 rfl
theorem zero_r (w:World):(zeroValue 112).run Tryz.prog w = .ok (.agg #[.slice none 0 0,.int .i64 0,.int .i64 0]) w:=by kernel_rfl
theorem tan_r (t:TypeId) (v:Value) (w:World) (h:¬ t=112):(Instr.typeAssert (.iface t v) 94 112 true).run Tryz.prog w = .ok (.tuple #[.agg #[.slice none 0 0,.int .i64 0,.int .i64 0],.bool false]) w:=by
 unfold Instr.typeAssert
 simp only [Sem.run_bind,run_underlying Tryz.underlying112,Result.andThen_ok,if_neg h,if_true,zero_r]
 rfl
theorem tay_b (b:Bool) (w:World):(Instr.typeAssert (.iface 92 (.bool b)) 94 92 true).run Tryz.prog w = .ok (.tuple #[.bool b,.bool true]) w:=by kernel_rfl
theorem taf_b (b:Bool) (w:World):(Instr.typeAssert (.iface 92 (.bool b)) 94 92 false).run Tryz.prog w = .ok (.bool b) w:=by kernel_rfl
theorem tay_i (n:Int) (w:World):(Instr.typeAssert (.iface 115 (.int .i64 n)) 94 115 true).run Tryz.prog w = .ok (.tuple #[.int .i64 n,.bool true]) w:=by kernel_rfl
theorem taf_i (n:Int) (w:World):(Instr.typeAssert (.iface 115 (.int .i64 n)) 94 115 false).run Tryz.prog w = .ok (.int .i64 n) w:=by kernel_rfl
theorem tay_t (x:ByteArray) (w:World):(Instr.typeAssert (.iface 100 (.string x)) 94 100 true).run Tryz.prog w = .ok (.tuple #[.string x,.bool true]) w:=by kernel_rfl
theorem taf_t (x:ByteArray) (w:World):(Instr.typeAssert (.iface 100 (.string x)) 94 100 false).run Tryz.prog w = .ok (.string x) w:=by kernel_rfl
theorem tay_l (p:Option Addr) (n c:Nat) (a d:Int) (w:World):(Instr.typeAssert (.iface 107 (.agg #[.slice p n c,.int .i64 a,.int .i64 d])) 94 107 true).run Tryz.prog w = .ok (.tuple #[.agg #[.slice p n c,.int .i64 a,.int .i64 d],.bool true]) w:=by kernel_rfl
theorem taf_l (p:Option Addr) (n c:Nat) (a d:Int) (w:World):(Instr.typeAssert (.iface 107 (.agg #[.slice p n c,.int .i64 a,.int .i64 d])) 94 107 false).run Tryz.prog w = .ok (.agg #[.slice p n c,.int .i64 a,.int .i64 d]) w:=by kernel_rfl
theorem tay_r (p:Option Addr) (n c:Nat) (a d:Int) (w:World):(Instr.typeAssert (.iface 112 (.agg #[.slice p n c,.int .i64 a,.int .i64 d])) 94 112 true).run Tryz.prog w = .ok (.tuple #[.agg #[.slice p n c,.int .i64 a,.int .i64 d],.bool true]) w:=by kernel_rfl
theorem taf_r (p:Option Addr) (n c:Nat) (a d:Int) (w:World):(Instr.typeAssert (.iface 112 (.agg #[.slice p n c,.int .i64 a,.int .i64 d])) 94 112 false).run Tryz.prog w = .ok (.agg #[.slice p n c,.int .i64 a,.int .i64 d]) w:=by kernel_rfl
theorem fld_l (p:Option Addr) (n c:Nat) (a d:Int) (w:World):(Instr.field 107 (.agg #[.slice p n c,.int .i64 a,.int .i64 d]) 0).run Tryz.prog w = .ok (.slice p n c) w:=by kernel_rfl
theorem fld_r (p:Option Addr) (n c:Nat) (a d:Int) (w:World):(Instr.field 112 (.agg #[.slice p n c,.int .i64 a,.int .i64 d]) 0).run Tryz.prog w = .ok (.slice p n c) w:=by kernel_rfl
theorem cmpI_ne {k k':Int} (h:k≠k'):cmpI k k'≠0∧cmpI k k'=cmpB (decide (k < k')) false:=by
 unfold cmpI
 have:(k == k')=false:=by simpa using h
 rw [this]
 refine ⟨?_,rfl⟩
 unfold cmpB
 by_cases hl:k < k' <;> simp [hl]
theorem cmpI_same (k:Int):cmpI k k=0:=by unfold cmpI cmpB;simp
theorem good_num {n:Int} {s:ByteArray} {ks:List T} (h:(T.mk 2 n s ks).good=true):n=0∨n=1:=by
 rw [T.good] at h
 simp [plain] at h
 omega
theorem good_bare {n:Int} {s:ByteArray} {ks:List T} (h:(T.mk 1 n s ks).good=true):ks=[]:=by
 rw [T.good] at h
 simp [plain] at h
 exact h.1.1.2
set_option maxRecDepth 100000 in
set_option maxHeartbeats 2000000 in
theorem compare_any:∀ (N:Nat) (t t':T) (v v':Value) (x x':Nat) (w:World),t.count < N→t.kind≤4→t'.kind≤4→t.good=true→t'.good=true→DatAt w x t v→DatAt w x' t' v' →
  Calls Tryz.prog 104 #[v,v'] w fun e w'=>e = .returned (.int .i64 (t.ord t'))∧Below w.heap.size w w':=by
 intro N
 induction N with
 | zero=>intro t t' v v' x x' w h;omega
 | succ N ih =>
 intro t t' v v' x x' w hN hc hc' hg hg' hd hd'
 have IH:=hide ih
 have HK:=hide (kinds_of hd)
 have HK':=hide (kinds_of hd')
 have HO:=hide (T.ord_eq t t')
 have HD:=hide hd
 have HD':=hide hd'
 clear ih
 by_cases hk:t.kind=t'.kind
 ·have HG:=hide hg
  have HG':=hide hg'
  have HN:=hide hN
  cases t with
  | mk k n s ks =>
  cases t' with
  | mk k' n' s' ks' =>
  have hk:k=k':=hk
  subst hk
  have HK:Hid (Kinds v k):=HK
  have HK':Hid (Kinds v' k):=HK'
  have HO:Hid ((T.mk k n s ks).ord (.mk k n' s' ks')=if k=2∨k=3 then cmpI n n' else if k=4 then cmpS s s' else ordL ks ks'):=hide (by rw [HO.out];simp [T.kind,T.num,T.text,T.ks];rfl)
  have HC4:Hid (k≤4):=hide hc
  have HCI:=hide (cmpInt_any k k)
  rw [cmpI_same] at HCI
  have hdd:=HD.out
  have hdd':=HD'.out
  unfold DatAt at hdd hdd'
  clear hd hd' hg hg' hN hc hc' IH HD HD'
  have n1:=tan_b
  have n2:=tan_i
  have n3:=ta_text_no
  have n4:=tan_l
  have n5:=tan_r
  rcases hdd with ⟨rfl,rfl⟩ | ⟨rfl,rfl⟩ | ⟨rfl,rfl⟩ | ⟨rfl,rfl⟩ | ⟨rfl,p,c,vs,rfl,hpc,hdl,hrow⟩ | ⟨rfl,p,c,m,vs,hm,rfl,hpc,hdl,hrow⟩
  ·rcases hdd' with ⟨_,rfl⟩ | ⟨h,_⟩ | ⟨h,_⟩ | ⟨h,_⟩ | ⟨h,_⟩ | ⟨h,_⟩
   any_goals (exfalso;revert h;decide)
   have HR:Hid ((T.mk 1 n s ks).ord (.mk 1 n' s' ks')=0):=hide (by rw [HO.out,good_bare HG.out,good_bare HG'.out];rfl)
   go_enter Tryz.func104,Tryz.ntmps104
   go_wp2_with (show wpList _ _ _ ({dst:=_,op:=Op.call {callee:=Callee.invoke _ _,args:=_,argTypes:=_},type:=_,pos:=_,after:=_,guard:=_} :: _) _ _;first
    | (refine wpList_kind rfl (.tmp 11) rfl _ _ (by first | (simp [Act.eval];done) | simp [Act.eval,Act.put]) HK.out ?_;intro w1 hb1)
    | (refine wpList_kind rfl (.tmp 13) rfl _ _ (by first | (simp [Act.eval];done) | simp [Act.eval,Act.put]) HK'.out ?_;intro w2 hb2))
   refine (HCI.out _).mono ?_
   rintro e w3 ⟨rfl,rfl⟩
   have BK:=hb1.trans (hb2.mono hb1.size)
   go_wp2
   go_ret
   exact ⟨ret_int HR.out.symm,BK⟩
  ·rcases hdd' with ⟨h,_⟩ | ⟨_,rfl⟩ | ⟨h,_⟩ | ⟨h,_⟩ | ⟨h,_⟩ | ⟨h,_⟩
   any_goals (exfalso;revert h;decide)
   have HR:Hid ((T.mk 2 n s ks).ord (.mk 2 n' s' ks')=cmpI (if (n == 1) then 1 else 0) (if (n' == 1) then 1 else 0)):=hide (by
    rw [HO.out,if_pos (.inl rfl)]
    rcases good_num HG.out with rfl | rfl <;> rcases good_num HG'.out with rfl | rfl <;> rfl)
   generalize (n == 1)=b at *
   generalize (n' == 1)=b' at *
   cases b
   all_goals cases b'
   all_goals
    have y1:=tay_b
    have y2:=taf_b
    go_enter Tryz.func104,Tryz.ntmps104
    go_wp2_with (show wpList _ _ _ ({dst:=_,op:=Op.call {callee:=Callee.invoke _ _,args:=_,argTypes:=_},type:=_,pos:=_,after:=_,guard:=_} :: _) _ _;first
     | (refine wpList_kind rfl (.tmp 11) rfl _ _ (by first | (simp [Act.eval];done) | simp [Act.eval,Act.put]) HK.out ?_;intro w1 hb1)
     | (refine wpList_kind rfl (.tmp 13) rfl _ _ (by first | (simp [Act.eval];done) | simp [Act.eval,Act.put]) HK'.out ?_;intro w2 hb2))
    refine (HCI.out _).mono ?_
    rintro e w3 ⟨rfl,rfl⟩
    have BK:=hb1.trans (hb2.mono hb1.size)
    go_wp2
    go_quiet (first | (go_at_call 156;exact Calls.quiet_of_same (bit_any _ _)) | (go_at_call 155;exact Calls.quiet_of_same (cmpInt64_any _ _ _)))
    go_wp2
    go_ret
    exact ⟨ret_int HR.out.symm,below_drewN BK _⟩
  ·rcases hdd' with ⟨h,_⟩ | ⟨h,_⟩ | ⟨_,rfl⟩ | ⟨h,_⟩ | ⟨h,_⟩ | ⟨h,_⟩
   any_goals (exfalso;revert h;decide)
   have HR:Hid ((T.mk 3 n s ks).ord (.mk 3 n' s' ks')=cmpI n n'):=hide (by rw [HO.out,if_pos (.inr rfl)])
   have y1:=tay_i n
   have y2:=taf_i n'
   go_enter Tryz.func104,Tryz.ntmps104
   go_wp2_with (show wpList _ _ _ ({dst:=_,op:=Op.call {callee:=Callee.invoke _ _,args:=_,argTypes:=_},type:=_,pos:=_,after:=_,guard:=_} :: _) _ _;first
    | (refine wpList_kind rfl (.tmp 11) rfl _ _ (by first | (simp [Act.eval];done) | simp [Act.eval,Act.put]) HK.out ?_;intro w1 hb1)
    | (refine wpList_kind rfl (.tmp 13) rfl _ _ (by first | (simp [Act.eval];done) | simp [Act.eval,Act.put]) HK'.out ?_;intro w2 hb2))
   refine (HCI.out _).mono ?_
   rintro e w3 ⟨rfl,rfl⟩
   have BK:=hb1.trans (hb2.mono hb1.size)
   go_wp2_with (go_at_call 157;refine (cmpIntD_any _ _ _).mono ?_;rintro e w4 ⟨rfl,rfl⟩)
   go_ret
   exact ⟨ret_int HR.out.symm,BK⟩
  ·rcases hdd' with ⟨h,_⟩ | ⟨h,_⟩ | ⟨h,_⟩ | ⟨_,rfl⟩ | ⟨h,_⟩ | ⟨h,_⟩
   any_goals (exfalso;revert h;decide)
   have HR:Hid ((T.mk 4 n s ks).ord (.mk 4 n' s' ks')=cmpS s s'):=hide (by rw [HO.out,if_neg (by decide),if_pos rfl])
   have y1:=tay_t s
   have y2:=taf_t s'
   go_enter Tryz.func104,Tryz.ntmps104
   go_wp2_with (show wpList _ _ _ ({dst:=_,op:=Op.call {callee:=Callee.invoke _ _,args:=_,argTypes:=_},type:=_,pos:=_,after:=_,guard:=_} :: _) _ _;first
    | (refine wpList_kind rfl (.tmp 11) rfl _ _ (by first | (simp [Act.eval];done) | simp [Act.eval,Act.put]) HK.out ?_;intro w1 hb1)
    | (refine wpList_kind rfl (.tmp 13) rfl _ _ (by first | (simp [Act.eval];done) | simp [Act.eval,Act.put]) HK'.out ?_;intro w2 hb2))
   refine (HCI.out _).mono ?_
   rintro e w3 ⟨rfl,rfl⟩
   have BK:=hb1.trans (hb2.mono hb1.size)
   go_wp2_with (go_at_call 158;refine (cmpT_any _ _ _).mono ?_;rintro e w4 ⟨rfl,rfl⟩)
   go_ret
   exact ⟨ret_int HR.out.symm,BK⟩
  ·exact absurd HC4.out (by decide)
  ·exact absurd HC4.out (by decide)
 ·have HR:Hid (t.ord t'=cmpI t.kind t'.kind):=hide (by rw [HO.out,if_pos hk,(cmpI_ne hk).2])
  have hne:=(cmpI_ne hk).1
  have HCI:=hide (cmpInt_any t.kind t'.kind)
  obtain ⟨y,u,rfl⟩:=hd.isIface
  obtain ⟨y',u',rfl⟩:=hd'.isIface
  generalize t.kind=k at *
  generalize t'.kind=k' at *
  generalize cmpI k k'=cc at *
  clear hd hd' HD HD' HO
  go_enter Tryz.func104,Tryz.ntmps104
  go_wp2_with (show wpList _ _ _ ({dst:=_,op:=Op.call {callee:=Callee.invoke _ _,args:=_,argTypes:=_},type:=_,pos:=_,after:=_,guard:=_} :: _) _ _;first
   | (refine wpList_kind rfl (.tmp 11) rfl _ _ (by first | (simp [Act.eval];done) | simp [Act.eval,Act.put]) HK.out ?_;intro w1 hb1)
   | (refine wpList_kind rfl (.tmp 13) rfl _ _ (by first | (simp [Act.eval];done) | simp [Act.eval,Act.put]) HK'.out ?_;intro w2 hb2))
  refine (HCI.out _).mono ?_
  rintro e w3 ⟨rfl,rfl⟩
  go_wp2
  go_ret
  exact ⟨ret_int HR.out.symm,hb1.trans (hb2.mono hb1.size)⟩
end Go.Proofs.YthbojbbmpcmoaaaGreatDoor.Vl
namespace Go.Proofs.YthbojbbmpcmoaaaGreatDoor.Vl
open Go.RowKit T.atoms T.ok T.high T.good T.allPlain DatAt T.ord
def TupPost (K:Value→ByteArray→World→Prop) (e:Ending) (w':World):Prop:=∃ dv s,e = .returned (.tuple #[dv,.string s])∧K dv s w'
def DTy (y:TypeId):Prop:=y=315∨y=92∨y=115∨y=100∨y=107∨y=112
theorem tay_d (y:TypeId) (u:Value) (w:World) (h:DTy y):(Instr.typeAssert (.iface y u) 94 94 true).run Tryz.prog w = .ok (.tuple #[.iface y u,.bool true]) w:=by
 rcases h with rfl | rfl | rfl | rfl | rfl | rfl <;> kernel_rfl
theorem dty_of {w:World} {x:Nat} {t:T} {v:Value} (h:DatAt w x t v):∃ y u,v = .iface y u∧DTy y:=by
 cases t with
 | mk k n s ks =>
  rw [DatAt] at h
  rcases h with ⟨_,rfl⟩ | ⟨_,rfl⟩ | ⟨_,rfl⟩ | ⟨_,rfl⟩ | ⟨_,p,c,vs,rfl,_⟩ | ⟨_,p,c,m,vs,_,rfl,_⟩ <;> exact ⟨_,_,rfl,by unfold DTy;simp⟩
theorem run_store_func (P:Program) (w:World) (a:Addr) (fn:Fn) (x y:Array Value):(store a (.func fn x y)).run P w=stored P w a (.func fn x y) .plain:=run_store P w a _ _ rfl
def deedV (n:Int) (f b:Nat):Value:= .agg #[.int .i64 n,.func (.func f) #[] #[.pointer (some ⟨b,0,none⟩)]]
def Makes (w:World) (f:Nat) (fv:Value) (e:Ending) (w':World):Prop:=e = .returned (deedV 2 f w.heap.size)∧w'.cell? ⟨w.heap.size,0,none⟩=some fv∧Below w.heap.size w w'∧w.heap.size < w'.heap.size
set_option maxHeartbeats 400000 in
theorem twoBB_any (f:FuncId) (caps:Array Value) (w:World):Calls Tryz.prog 39 #[.func (.func f) #[] caps] w (Makes w 101 (.func (.func f) #[] caps)):=by
 have hsf:=run_store_func Tryz.prog
 go_enter Tryz.func39,Tryz.ntmps39
 go_wp2
 refine bodyPost_ret (v:=deedV 2 101 w.heap.size) (by simp [results,Tryz.results39,go_sem,deedV]) rfl ⟨rfl,?_,?_,by simp;omega⟩
 ·exact (((Below.refl (w.heap.size+1) (w.alloc (.cells #[.func (.func f) #[] caps] 95))).alloc (by simp) _).cell (p:=⟨w.heap.size,0,none⟩) (Nat.lt_succ_self _)).trans (by simp)
 ·exact (bA _).alloc (by simp) _
set_option maxRecDepth 100000 in
set_option maxHeartbeats 1000000 in
theorem twoBB_yes (f:FuncId) (xb:Bool) (zb:Bool) {cc:Nat} (g k:Nat) (K:Value→ByteArray→World→Prop) (w:World) (h0:w.cell? ⟨g,0,none⟩=some (.iface 92 (.bool xb))) (h1:w.cell? ⟨g,1,none⟩=some (.iface 92 (.bool zb))) (hk:w.cell? ⟨k,0,none⟩=some (.func (.func f) #[] #[])) (_hg:g < w.heap.size) (_hkl:k < w.heap.size) (hen:∀ args w,(callFunc f args).run Tryz.prog w = .ok (.enter f args) w) (HC:Hid (∀ W,Below w.heap.size w W→Calls Tryz.prog f #[.bool xb,.bool zb] W (TupPost K))) :
  Calls Tryz.prog 101 #[.slice (some ⟨g,0,none⟩) 2 cc,.pointer (some ⟨k,0,none⟩)] w (TupPost K):=by
 have y1:=tay_b xb
 have y2:=tay_b zb
 go_enter Tryz.func101,Tryz.ntmps101
 go_wp2_with fail
 refine (HC.out _ (Below.refl w.heap.size w)).mono ?_
 rintro e w' ⟨dv,s,rfl,hK⟩
 go_wp2
 go_ret2
 exact ⟨dv,s,rfl,hK⟩
set_option maxRecDepth 100000 in
set_option maxHeartbeats 1000000 in
theorem twoBB_yesc (f:FuncId) (q:Nat) (xb:Bool) (zb:Bool) {cc:Nat} (g k:Nat) (K:Value→ByteArray→World→Prop) (w:World) (h0:w.cell? ⟨g,0,none⟩=some (.iface 92 (.bool xb))) (h1:w.cell? ⟨g,1,none⟩=some (.iface 92 (.bool zb))) (hk:w.cell? ⟨k,0,none⟩=some (.func (.func f) #[] #[.pointer (some ⟨q,0,none⟩)])) (_hg:g < w.heap.size) (_hkl:k < w.heap.size) (hen:∀ args w,(callFunc f args).run Tryz.prog w = .ok (.enter f args) w) (HC:Hid (∀ W,Below w.heap.size w W→Calls Tryz.prog f #[.bool xb,.bool zb,.pointer (some ⟨q,0,none⟩)] W (TupPost K))) :
  Calls Tryz.prog 101 #[.slice (some ⟨g,0,none⟩) 2 cc,.pointer (some ⟨k,0,none⟩)] w (TupPost K):=by
 have y1:=tay_b xb
 have y2:=tay_b zb
 go_enter Tryz.func101,Tryz.ntmps101
 go_wp2_with fail
 refine (HC.out _ (Below.refl w.heap.size w)).mono ?_
 rintro e w' ⟨dv,s,rfl,hK⟩
 go_wp2
 go_ret2
 exact ⟨dv,s,rfl,hK⟩
set_option maxHeartbeats 1000000 in
theorem twoBB_no1 (y:TypeId) (u:Value) (hy:¬ y=92) {cc:Nat} (g k:Nat) (w:World) (h0:w.cell? ⟨g,0,none⟩=some (.iface y u)) :
  Calls Tryz.prog 101 #[.slice (some ⟨g,0,none⟩) 2 cc,.pointer (some ⟨k,0,none⟩)] w fun e w'=>e = .returned (.tuple #[.nilIface,.string ⟨#[116,121,112,101]⟩])∧Below w.heap.size w w':=by
 have y1:=fun w=>tan_b y u w hy
 go_enter Tryz.func101,Tryz.ntmps101
 go_wp2
 go_ret2
 first | exact ⟨rfl,Below.refl _ _⟩ | exact ⟨rfl,bA _⟩ | exact ⟨rfl,(bA _).alloc (by simp) _⟩
set_option maxHeartbeats 1000000 in
theorem twoBB_no2 (xb:Bool) (y:TypeId) (u:Value) (hy:¬ y=92) {cc:Nat} (g k:Nat) (w:World) (h0:w.cell? ⟨g,0,none⟩=some (.iface 92 (.bool xb))) (h1:w.cell? ⟨g,1,none⟩=some (.iface y u)) (_hg:g < w.heap.size) :
  Calls Tryz.prog 101 #[.slice (some ⟨g,0,none⟩) 2 cc,.pointer (some ⟨k,0,none⟩)] w fun e w'=>e = .returned (.tuple #[.nilIface,.string ⟨#[116,121,112,101]⟩])∧Below w.heap.size w w':=by
 have y1:=tay_b xb
 have y2:=fun w=>tan_b y u w hy
 go_enter Tryz.func101,Tryz.ntmps101
 go_wp2
 go_ret2
 first | exact ⟨rfl,Below.refl _ _⟩ | exact ⟨rfl,bA _⟩ | exact ⟨rfl,(bA _).alloc (by simp) _⟩
set_option maxHeartbeats 400000 in
theorem twoTT_any (f:FuncId) (caps:Array Value) (w:World):Calls Tryz.prog 51 #[.func (.func f) #[] caps] w (Makes w 110 (.func (.func f) #[] caps)):=by
 have hsf:=run_store_func Tryz.prog
 go_enter Tryz.func51,Tryz.ntmps51
 go_wp2
 refine bodyPost_ret (v:=deedV 2 110 w.heap.size) (by simp [results,Tryz.results51,go_sem,deedV]) rfl ⟨rfl,?_,?_,by simp;omega⟩
 ·exact (((Below.refl (w.heap.size+1) (w.alloc (.cells #[.func (.func f) #[] caps] 101))).alloc (by simp) _).cell (p:=⟨w.heap.size,0,none⟩) (Nat.lt_succ_self _)).trans (by simp)
 ·exact (bA _).alloc (by simp) _
set_option maxRecDepth 100000 in
set_option maxHeartbeats 1000000 in
theorem twoTT_yes (f:FuncId) (xs:ByteArray) (zs:ByteArray) {cc:Nat} (g k:Nat) (K:Value→ByteArray→World→Prop) (w:World) (h0:w.cell? ⟨g,0,none⟩=some (.iface 100 (.string xs))) (h1:w.cell? ⟨g,1,none⟩=some (.iface 100 (.string zs))) (hk:w.cell? ⟨k,0,none⟩=some (.func (.func f) #[] #[])) (_hg:g < w.heap.size) (_hkl:k < w.heap.size) (hen:∀ args w,(callFunc f args).run Tryz.prog w = .ok (.enter f args) w) (HC:Hid (∀ W,Below w.heap.size w W→Calls Tryz.prog f #[.string xs,.string zs] W (TupPost K))) :
  Calls Tryz.prog 110 #[.slice (some ⟨g,0,none⟩) 2 cc,.pointer (some ⟨k,0,none⟩)] w (TupPost K):=by
 have y1:=tay_t xs
 have y2:=tay_t zs
 go_enter Tryz.func110,Tryz.ntmps110
 go_wp2_with fail
 refine (HC.out _ (Below.refl w.heap.size w)).mono ?_
 rintro e w' ⟨dv,s,rfl,hK⟩
 go_wp2
 go_ret2
 exact ⟨dv,s,rfl,hK⟩
set_option maxRecDepth 100000 in
set_option maxHeartbeats 1000000 in
theorem twoTT_yesc (f:FuncId) (q:Nat) (xs:ByteArray) (zs:ByteArray) {cc:Nat} (g k:Nat) (K:Value→ByteArray→World→Prop) (w:World) (h0:w.cell? ⟨g,0,none⟩=some (.iface 100 (.string xs))) (h1:w.cell? ⟨g,1,none⟩=some (.iface 100 (.string zs))) (hk:w.cell? ⟨k,0,none⟩=some (.func (.func f) #[] #[.pointer (some ⟨q,0,none⟩)])) (_hg:g < w.heap.size) (_hkl:k < w.heap.size) (hen:∀ args w,(callFunc f args).run Tryz.prog w = .ok (.enter f args) w) (HC:Hid (∀ W,Below w.heap.size w W→Calls Tryz.prog f #[.string xs,.string zs,.pointer (some ⟨q,0,none⟩)] W (TupPost K))) :
  Calls Tryz.prog 110 #[.slice (some ⟨g,0,none⟩) 2 cc,.pointer (some ⟨k,0,none⟩)] w (TupPost K):=by
 have y1:=tay_t xs
 have y2:=tay_t zs
 go_enter Tryz.func110,Tryz.ntmps110
 go_wp2_with fail
 refine (HC.out _ (Below.refl w.heap.size w)).mono ?_
 rintro e w' ⟨dv,s,rfl,hK⟩
 go_wp2
 go_ret2
 exact ⟨dv,s,rfl,hK⟩
set_option maxHeartbeats 1000000 in
theorem twoTT_no1 (y:TypeId) (u:Value) (hy:¬ y=100) {cc:Nat} (g k:Nat) (w:World) (h0:w.cell? ⟨g,0,none⟩=some (.iface y u)) :
  Calls Tryz.prog 110 #[.slice (some ⟨g,0,none⟩) 2 cc,.pointer (some ⟨k,0,none⟩)] w fun e w'=>e = .returned (.tuple #[.nilIface,.string ⟨#[116,121,112,101]⟩])∧Below w.heap.size w w':=by
 have y1:=fun w=>ta_text_no y u w hy
 go_enter Tryz.func110,Tryz.ntmps110
 go_wp2
 go_ret2
 first | exact ⟨rfl,Below.refl _ _⟩ | exact ⟨rfl,bA _⟩ | exact ⟨rfl,(bA _).alloc (by simp) _⟩
set_option maxHeartbeats 1000000 in
theorem twoTT_no2 (xs:ByteArray) (y:TypeId) (u:Value) (hy:¬ y=100) {cc:Nat} (g k:Nat) (w:World) (h0:w.cell? ⟨g,0,none⟩=some (.iface 100 (.string xs))) (h1:w.cell? ⟨g,1,none⟩=some (.iface y u)) (_hg:g < w.heap.size) :
  Calls Tryz.prog 110 #[.slice (some ⟨g,0,none⟩) 2 cc,.pointer (some ⟨k,0,none⟩)] w fun e w'=>e = .returned (.tuple #[.nilIface,.string ⟨#[116,121,112,101]⟩])∧Below w.heap.size w w':=by
 have y1:=tay_t xs
 have y2:=fun w=>ta_text_no y u w hy
 go_enter Tryz.func110,Tryz.ntmps110
 go_wp2
 go_ret2
 first | exact ⟨rfl,Below.refl _ _⟩ | exact ⟨rfl,bA _⟩ | exact ⟨rfl,(bA _).alloc (by simp) _⟩
set_option maxHeartbeats 400000 in
theorem twoLD_any (f:FuncId) (caps:Array Value) (w:World):Calls Tryz.prog 53 #[.func (.func f) #[] caps] w (Makes w 112 (.func (.func f) #[] caps)):=by
 have hsf:=run_store_func Tryz.prog
 go_enter Tryz.func53,Tryz.ntmps53
 go_wp2
 refine bodyPost_ret (v:=deedV 2 112 w.heap.size) (by simp [results,Tryz.results53,go_sem,deedV]) rfl ⟨rfl,?_,?_,by simp;omega⟩
 ·exact (((Below.refl (w.heap.size+1) (w.alloc (.cells #[.func (.func f) #[] caps] 108))).alloc (by simp) _).cell (p:=⟨w.heap.size,0,none⟩) (Nat.lt_succ_self _)).trans (by simp)
 ·exact (bA _).alloc (by simp) _
set_option maxHeartbeats 1000000 in
theorem twoLD_no1 (y:TypeId) (u:Value) (hy:¬ y=107) {cc:Nat} (g k:Nat) (w:World) (h0:w.cell? ⟨g,0,none⟩=some (.iface y u)) :
  Calls Tryz.prog 112 #[.slice (some ⟨g,0,none⟩) 2 cc,.pointer (some ⟨k,0,none⟩)] w fun e w'=>e = .returned (.tuple #[.nilIface,.string ⟨#[116,121,112,101]⟩])∧Below w.heap.size w w':=by
 have y1:=fun w=>tan_l y u w hy
 go_enter Tryz.func112,Tryz.ntmps112
 go_wp2
 go_ret2
 first | exact ⟨rfl,Below.refl _ _⟩ | exact ⟨rfl,bA _⟩ | exact ⟨rfl,(bA _).alloc (by simp) _⟩
set_option maxHeartbeats 400000 in
theorem twoRT_any (f:FuncId) (caps:Array Value) (w:World):Calls Tryz.prog 55 #[.func (.func f) #[] caps] w (Makes w 114 (.func (.func f) #[] caps)):=by
 have hsf:=run_store_func Tryz.prog
 go_enter Tryz.func55,Tryz.ntmps55
 go_wp2
 refine bodyPost_ret (v:=deedV 2 114 w.heap.size) (by simp [results,Tryz.results55,go_sem,deedV]) rfl ⟨rfl,?_,?_,by simp;omega⟩
 ·exact (((Below.refl (w.heap.size+1) (w.alloc (.cells #[.func (.func f) #[] caps] 113))).alloc (by simp) _).cell (p:=⟨w.heap.size,0,none⟩) (Nat.lt_succ_self _)).trans (by simp)
 ·exact (bA _).alloc (by simp) _
set_option maxHeartbeats 1000000 in
theorem twoRT_no1 (y:TypeId) (u:Value) (hy:¬ y=112) {cc:Nat} (g k:Nat) (w:World) (h0:w.cell? ⟨g,0,none⟩=some (.iface y u)) :
  Calls Tryz.prog 114 #[.slice (some ⟨g,0,none⟩) 2 cc,.pointer (some ⟨k,0,none⟩)] w fun e w'=>e = .returned (.tuple #[.nilIface,.string ⟨#[116,121,112,101]⟩])∧Below w.heap.size w w':=by
 have y1:=fun w=>tan_r y u w hy
 go_enter Tryz.func114,Tryz.ntmps114
 go_wp2
 go_ret2
 first | exact ⟨rfl,Below.refl _ _⟩ | exact ⟨rfl,bA _⟩ | exact ⟨rfl,(bA _).alloc (by simp) _⟩
set_option maxHeartbeats 400000 in
theorem twoII_any (f:FuncId) (caps:Array Value) (w:World):Calls Tryz.prog 57 #[.func (.func f) #[] caps] w (Makes w 116 (.func (.func f) #[] caps)):=by
 have hsf:=run_store_func Tryz.prog
 go_enter Tryz.func57,Tryz.ntmps57
 go_wp2
 refine bodyPost_ret (v:=deedV 2 116 w.heap.size) (by simp [results,Tryz.results57,go_sem,deedV]) rfl ⟨rfl,?_,?_,by simp;omega⟩
 ·exact (((Below.refl (w.heap.size+1) (w.alloc (.cells #[.func (.func f) #[] caps] 116))).alloc (by simp) _).cell (p:=⟨w.heap.size,0,none⟩) (Nat.lt_succ_self _)).trans (by simp)
 ·exact (bA _).alloc (by simp) _
set_option maxRecDepth 100000 in
set_option maxHeartbeats 1000000 in
theorem twoII_yes (f:FuncId) (xn:Int) (zn:Int) {cc:Nat} (g k:Nat) (K:Value→ByteArray→World→Prop) (w:World) (h0:w.cell? ⟨g,0,none⟩=some (.iface 115 (.int .i64 xn))) (h1:w.cell? ⟨g,1,none⟩=some (.iface 115 (.int .i64 zn))) (hk:w.cell? ⟨k,0,none⟩=some (.func (.func f) #[] #[])) (_hg:g < w.heap.size) (_hkl:k < w.heap.size) (hen:∀ args w,(callFunc f args).run Tryz.prog w = .ok (.enter f args) w) (HC:Hid (∀ W,Below w.heap.size w W→Calls Tryz.prog f #[.int .i64 xn,.int .i64 zn] W (TupPost K))) :
  Calls Tryz.prog 116 #[.slice (some ⟨g,0,none⟩) 2 cc,.pointer (some ⟨k,0,none⟩)] w (TupPost K):=by
 have y1:=tay_i xn
 have y2:=tay_i zn
 go_enter Tryz.func116,Tryz.ntmps116
 go_wp2_with fail
 refine (HC.out _ (Below.refl w.heap.size w)).mono ?_
 rintro e w' ⟨dv,s,rfl,hK⟩
 go_wp2
 go_ret2
 exact ⟨dv,s,rfl,hK⟩
set_option maxRecDepth 100000 in
set_option maxHeartbeats 1000000 in
theorem twoII_yesc (f:FuncId) (q:Nat) (xn:Int) (zn:Int) {cc:Nat} (g k:Nat) (K:Value→ByteArray→World→Prop) (w:World) (h0:w.cell? ⟨g,0,none⟩=some (.iface 115 (.int .i64 xn))) (h1:w.cell? ⟨g,1,none⟩=some (.iface 115 (.int .i64 zn))) (hk:w.cell? ⟨k,0,none⟩=some (.func (.func f) #[] #[.pointer (some ⟨q,0,none⟩)])) (_hg:g < w.heap.size) (_hkl:k < w.heap.size) (hen:∀ args w,(callFunc f args).run Tryz.prog w = .ok (.enter f args) w) (HC:Hid (∀ W,Below w.heap.size w W→Calls Tryz.prog f #[.int .i64 xn,.int .i64 zn,.pointer (some ⟨q,0,none⟩)] W (TupPost K))) :
  Calls Tryz.prog 116 #[.slice (some ⟨g,0,none⟩) 2 cc,.pointer (some ⟨k,0,none⟩)] w (TupPost K):=by
 have y1:=tay_i xn
 have y2:=tay_i zn
 go_enter Tryz.func116,Tryz.ntmps116
 go_wp2_with fail
 refine (HC.out _ (Below.refl w.heap.size w)).mono ?_
 rintro e w' ⟨dv,s,rfl,hK⟩
 go_wp2
 go_ret2
 exact ⟨dv,s,rfl,hK⟩
set_option maxHeartbeats 1000000 in
theorem twoII_no1 (y:TypeId) (u:Value) (hy:¬ y=115) {cc:Nat} (g k:Nat) (w:World) (h0:w.cell? ⟨g,0,none⟩=some (.iface y u)) :
  Calls Tryz.prog 116 #[.slice (some ⟨g,0,none⟩) 2 cc,.pointer (some ⟨k,0,none⟩)] w fun e w'=>e = .returned (.tuple #[.nilIface,.string ⟨#[116,121,112,101]⟩])∧Below w.heap.size w w':=by
 have y1:=fun w=>tan_i y u w hy
 go_enter Tryz.func116,Tryz.ntmps116
 go_wp2
 go_ret2
 first | exact ⟨rfl,Below.refl _ _⟩ | exact ⟨rfl,bA _⟩ | exact ⟨rfl,(bA _).alloc (by simp) _⟩
set_option maxHeartbeats 1000000 in
theorem twoII_no2 (xn:Int) (y:TypeId) (u:Value) (hy:¬ y=115) {cc:Nat} (g k:Nat) (w:World) (h0:w.cell? ⟨g,0,none⟩=some (.iface 115 (.int .i64 xn))) (h1:w.cell? ⟨g,1,none⟩=some (.iface y u)) (_hg:g < w.heap.size) :
  Calls Tryz.prog 116 #[.slice (some ⟨g,0,none⟩) 2 cc,.pointer (some ⟨k,0,none⟩)] w fun e w'=>e = .returned (.tuple #[.nilIface,.string ⟨#[116,121,112,101]⟩])∧Below w.heap.size w w':=by
 have y1:=tay_i xn
 have y2:=fun w=>tan_i y u w hy
 go_enter Tryz.func116,Tryz.ntmps116
 go_wp2
 go_ret2
 first | exact ⟨rfl,Below.refl _ _⟩ | exact ⟨rfl,bA _⟩ | exact ⟨rfl,(bA _).alloc (by simp) _⟩
set_option maxHeartbeats 400000 in
theorem twoLL_any (f:FuncId) (caps:Array Value) (w:World):Calls Tryz.prog 60 #[.func (.func f) #[] caps] w (Makes w 119 (.func (.func f) #[] caps)):=by
 have hsf:=run_store_func Tryz.prog
 go_enter Tryz.func60,Tryz.ntmps60
 go_wp2
 refine bodyPost_ret (v:=deedV 2 119 w.heap.size) (by simp [results,Tryz.results60,go_sem,deedV]) rfl ⟨rfl,?_,?_,by simp;omega⟩
 ·exact (((Below.refl (w.heap.size+1) (w.alloc (.cells #[.func (.func f) #[] caps] 118))).alloc (by simp) _).cell (p:=⟨w.heap.size,0,none⟩) (Nat.lt_succ_self _)).trans (by simp)
 ·exact (bA _).alloc (by simp) _
set_option maxHeartbeats 1000000 in
theorem twoLL_no1 (y:TypeId) (u:Value) (hy:¬ y=107) {cc:Nat} (g k:Nat) (w:World) (h0:w.cell? ⟨g,0,none⟩=some (.iface y u)) :
  Calls Tryz.prog 119 #[.slice (some ⟨g,0,none⟩) 2 cc,.pointer (some ⟨k,0,none⟩)] w fun e w'=>e = .returned (.tuple #[.nilIface,.string ⟨#[116,121,112,101]⟩])∧Below w.heap.size w w':=by
 have y1:=fun w=>tan_l y u w hy
 go_enter Tryz.func119,Tryz.ntmps119
 go_wp2
 go_ret2
 first | exact ⟨rfl,Below.refl _ _⟩ | exact ⟨rfl,bA _⟩ | exact ⟨rfl,(bA _).alloc (by simp) _⟩
set_option maxHeartbeats 400000 in
theorem twoRR_any (f:FuncId) (caps:Array Value) (w:World):Calls Tryz.prog 62 #[.func (.func f) #[] caps] w (Makes w 122 (.func (.func f) #[] caps)):=by
 have hsf:=run_store_func Tryz.prog
 go_enter Tryz.func62,Tryz.ntmps62
 go_wp2
 refine bodyPost_ret (v:=deedV 2 122 w.heap.size) (by simp [results,Tryz.results62,go_sem,deedV]) rfl ⟨rfl,?_,?_,by simp;omega⟩
 ·exact (((Below.refl (w.heap.size+1) (w.alloc (.cells #[.func (.func f) #[] caps] 120))).alloc (by simp) _).cell (p:=⟨w.heap.size,0,none⟩) (Nat.lt_succ_self _)).trans (by simp)
 ·exact (bA _).alloc (by simp) _
set_option maxHeartbeats 1000000 in
theorem twoRR_no1 (y:TypeId) (u:Value) (hy:¬ y=112) {cc:Nat} (g k:Nat) (w:World) (h0:w.cell? ⟨g,0,none⟩=some (.iface y u)) :
  Calls Tryz.prog 122 #[.slice (some ⟨g,0,none⟩) 2 cc,.pointer (some ⟨k,0,none⟩)] w fun e w'=>e = .returned (.tuple #[.nilIface,.string ⟨#[116,121,112,101]⟩])∧Below w.heap.size w w':=by
 have y1:=fun w=>tan_r y u w hy
 go_enter Tryz.func122,Tryz.ntmps122
 go_wp2
 go_ret2
 first | exact ⟨rfl,Below.refl _ _⟩ | exact ⟨rfl,bA _⟩ | exact ⟨rfl,(bA _).alloc (by simp) _⟩
set_option maxHeartbeats 400000 in
theorem twoDD_any (f:FuncId) (caps:Array Value) (w:World):Calls Tryz.prog 102 #[.func (.func f) #[] caps] w (Makes w 153 (.func (.func f) #[] caps)):=by
 have hsf:=run_store_func Tryz.prog
 go_enter Tryz.func102,Tryz.ntmps102
 go_wp2
 refine bodyPost_ret (v:=deedV 2 153 w.heap.size) (by simp [results,Tryz.results102,go_sem,deedV]) rfl ⟨rfl,?_,?_,by simp;omega⟩
 ·exact (((Below.refl (w.heap.size+1) (w.alloc (.cells #[.func (.func f) #[] caps] 171))).alloc (by simp) _).cell (p:=⟨w.heap.size,0,none⟩) (Nat.lt_succ_self _)).trans (by simp)
 ·exact (bA _).alloc (by simp) _
set_option maxRecDepth 100000 in
set_option maxHeartbeats 1000000 in
theorem twoDD_yesc (f:FuncId) (q:Nat) (xy:TypeId) (xu:Value) (xh:DTy xy) (zy:TypeId) (zu:Value) (zh:DTy zy) {cc:Nat} (g k:Nat) (K:Value→ByteArray→World→Prop) (w:World) (h0:w.cell? ⟨g,0,none⟩=some (.iface xy xu)) (h1:w.cell? ⟨g,1,none⟩=some (.iface zy zu)) (hk:w.cell? ⟨k,0,none⟩=some (.func (.func f) #[] #[.pointer (some ⟨q,0,none⟩)])) (_hg:g < w.heap.size) (_hkl:k < w.heap.size) (hen:∀ args w,(callFunc f args).run Tryz.prog w = .ok (.enter f args) w) (HC:Hid (∀ W,Below w.heap.size w W→Calls Tryz.prog f #[.iface xy xu,.iface zy zu,.pointer (some ⟨q,0,none⟩)] W (TupPost K))) :
  Calls Tryz.prog 153 #[.slice (some ⟨g,0,none⟩) 2 cc,.pointer (some ⟨k,0,none⟩)] w (TupPost K):=by
 have y1:=fun w=>tay_d xy xu w xh
 have y2:=fun w=>tay_d zy zu w zh
 go_enter Tryz.func153,Tryz.ntmps153
 go_wp2_with fail
 refine (HC.out _ (Below.refl w.heap.size w)).mono ?_
 rintro e w' ⟨dv,s,rfl,hK⟩
 go_wp2
 go_ret2
 exact ⟨dv,s,rfl,hK⟩
end Go.Proofs.YthbojbbmpcmoaaaGreatDoor.Vl
