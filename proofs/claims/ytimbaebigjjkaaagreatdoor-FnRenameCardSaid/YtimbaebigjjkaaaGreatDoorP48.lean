/- Rb, Rc, Rd, Re. -/
import Derived.Test.YtimbaebigjjkaaaGreatDoorP47
import Derived.Test.YtimbaebigjjkaaaGreatDoorP46
import Derived.Test.YtimbaebigjjkaaaGreatDoorP41
import Derived.Deep.RegionHeld3
import Derived.Maps.RangeWalk
namespace Go.Proofs.YtimbaebigjjkaaaGreatDoor
open Go.RowKit
theorem eql_nil (a:Addr) (l c:Nat) (W:World):(binOp .eql 23 (.slice (some a) l c) (.slice none 0 0)).run Tryz.prog W = .ok (.bool false) W:=by
 simp only [binOp]
 simp [run_equal_slice_nil W 23 35 (some a) l c Tryz.underlying23]
set_option maxRecDepth 100000 in
set_option maxHeartbeats 400000 in
theorem clone_any (ns:List Tr.Nd) (tg tc:Nat) (w:World) (hn1:1≤ns.length) (hn:ns.length≤1048576) (ht:NodesAt w tg ns) :
  Calls Tryz.prog 19 #[.slice (some ⟨tg,0,none⟩) ns.length tc] w fun e w'=>∃ g c,e = .returned (.slice (some ⟨g,0,none⟩) ns.length c)∧w.heap.size≤g∧w'.ownsRow 0 35 5 (.slice (some ⟨g,0,none⟩) ns.length c) ns.length (X2 ns)∧Below w.heap.size w w':=by
 obtain ⟨iN,hN,hNz,hNs,hNb⟩:=info_parts Tryz.infoNd
 have HNW:Hid (∀ (o:Obj) (j:Nat) (u:Value),(X2 ns)[j]?=some u→(w.alloc o).cell? ((⟨tg,0,none⟩:Addr).add j)=some u):=X1 (by
  intro o j u hu
  have hj:j < ns.length*5:=by have:=(List.getElem?_eq_some_iff.1 hu).1;rwa [J1] at this
  obtain ⟨i,r,hr,hj2⟩:∃ i r,r < 5∧j=i*5+r:=⟨j / 5,j % 5,by omega,by omega⟩
  obtain ⟨p0,p1,p2,p3,p4⟩:=Jq ns i (by omega)
  obtain ⟨q0,q1,q2,q3,q4⟩:=(ht.below (bA o)).2 i (by omega)
  rw [ZS,Nat.zero_add]
  subst hj2
  match r,hr,hu with
  | 0,_,hu=>exact q0.trans (p0.symm.trans hu)
  | 1,_,hu=>exact q1.trans (p1.symm.trans hu)
  | 2,_,hu=>exact q2.trans (p2.symm.trans hu)
  | 3,_,hu=>exact q3.trans (p3.symm.trans hu)
  | 4,_,hu=>exact q4.trans (p4.symm.trans hu))
 have HO:Hid (∀ u∈X2 ns,u.oneCell'=true):=X1 (by
  intro u hu
  unfold X2 at hu
  obtain ⟨d,_,hd⟩:=List.mem_flatMap.1 hu
  exact Jf d u hd)
 have hnn:∀ W,(binOp .eql 23 (.slice (some ⟨tg,0,none⟩) ns.length tc) (.slice none 0 0)).run Tryz.prog W = .ok (.bool false) W:=eql_nil _ _ _
 clear ht
 go_enter Tryz.func19,Tryz.ntmps19
 go_wp2_with (at_builtin;refine wpList_append_own_at _ rfl _ _ 23 rfl w.heap.size 35 iN _ 5 48 Tryz.underlying23 hN hNz hNs hNb rfl (by decide) (.slice (some ⟨w.heap.size,0,none⟩) 0 0) 0 [] rfl (World.ownsRow_lit (base:=w.heap.size) w #[] 0 (Nat.le_refl _) (Nat.zero_le _) rfl) ⟨tg,0,none⟩ ns.length tc (X2 ns) rfl (J1 ns) (HNW.o _) HO.o (by unfold maxLen;omega) (by omega) (by simp) ?_)
 intro v w1 b a0 a1 a2
 obtain ⟨g,c,hv⟩:=JF b (by omega)
 subst hv
 have hb:Below w.heap.size w w1:=(bA _).grown a0 (by simp) (fun q e=>by simp [Value.ownBlock] at e;omega)
 have hg:=(b.lt g rfl).1
 clear a0 a1 a2
 go_wp2
 go_ret
 exact ⟨g,c,rfl,hg,ZE b (Nat.zero_le _),hb⟩
def Y4 (a:Int):List Int→Nat→List Nat
 | [],_=>[]
 | x :: r,i=>(if x=a then [i] else [])++Y4 a r (i+1)
theorem Tr.boundAt_snoc (a:Int) (l:List Int) (x:Int) (k:Nat):Y4 a (l++[x]) k=Y4 a l k++(if x=a then [k+l.length] else []):=by
 induction l generalizing k with
 | nil=>simp [Y4]
 | cons y r ih=>rw [List.cons_append,Y4,ih,Y4,List.append_assoc,List.length_cons,show k+1+r.length=k+(r.length+1) from by omega]
theorem QU (a:Int) (l:List Int) (k j:Nat):j∈Y4 a l k↔k≤j∧j < k+l.length∧l[j - k]?.getD 0=a∧(j - k) < l.length:=by
 induction l generalizing k with
 | nil=>simp [Y4]
 | cons x r ih =>
  rw [Y4,List.mem_append,ih,List.length_cons]
  constructor
  ·rintro (h | ⟨h1,h2,h3,h4⟩)
   ·split at h
    ·rename_i e
     have:j=k:=by simpa using h
     subst this
     exact ⟨Nat.le_refl _,by omega,by simp [e],by omega⟩
    ·cases h
   ·refine ⟨by omega,by omega,?_,by omega⟩
    rw [show j - k=(j - (k+1))+1 from by omega,List.getElem?_cons_succ];exact h3
  ·rintro ⟨h1,h2,h3,h4⟩
   by_cases e:j=k
   ·subst e
    left
    rw [Nat.sub_self,List.getElem?_cons_zero,Option.getD_some] at h3
    rw [if_pos h3];simp
   ·right
    rw [show j - k=(j - (k+1))+1 from by omega,List.getElem?_cons_succ] at h3
    exact ⟨by omega,by omega,h3,by omega⟩
set_option maxRecDepth 100000 in
set_option maxHeartbeats 1000000 in
theorem placesNaming_any (a:Nat) (b:List Int) (gs:Nat) (c:Nat) (w:World) (hb:b.length≤5000) (ha:a≤5000) (hgs:gs < w.heap.size) (hbs:∀ j (h:j < b.length),w.cell? ⟨gs,j,none⟩=some (.int .i64 b[j])) :
  Calls Tryz.prog 20 #[.int .i64 (a:Int),.slice (some ⟨gs,0,none⟩) b.length c] w fun e w'=>e = .returned (.map (some w.heap.size))∧w'.ownsMap (H:=Unit) Tryz.prog 3 unitElem w.heap.size (b.length+1) (Maps.setOf (.agg []) (Zc (a :: Y4 (a:Int) b 0)))∧Below w.heap.size w w':=by
 have hmm:=@run_makeMap Tryz.prog
 have hm0:=World.ownsMap_made (H:=Unit) w Tryz.prog 3 unitElem
 have hb0:Below w.heap.size w (w.alloc (.map #[] 0)):=bA _
 have HYA:Hid (keyOf Tryz.prog 3 (.int .i64 (a:Int))=some (.int .i64 (a:Int))):=X1 (Maps.keyOf_int_mk Tryz.underlying3 (wfI a (by omega)))
 have HM:=X1 hm0
 have HBS:=X1 hbs
 clear hm0 hbs
 go_enter Tryz.func20,Tryz.ntmps20
 go_wp2_with (show wpList _ _ _ ({dst:=_,op:=Op.insert _ _ _ _,type:=_,pos:=_,after:=_,guard:=_} :: _) _ _;go_must (refine wpList_insert_own _ rfl _ _ _ 48 rfl 3 46 lawI Tryz.underlying48 _ w.heap.size 0 _ rfl HM.o (by unfold maxLen;omega) _ _ _ rfl rfl HYA.o _ [] unitElem_mk ?_))
 intro w0 a1 d
 have hB0:Below w.heap.size w w0:=hb0.grown d (by simp) (fun k e=>by cases e;exact Nat.le_refl _)
 have hz0:w.heap.size < w0.heap.size:=by have:=d.size;simp at this;omega
 have HO0:=X1 a1
 clear a1 d
 go_wp2
 go_loopw [14] (fun t wr=>∃ i:Nat,i≤b.length∧t = .int .i64 i∧Below w.heap.size w wr∧w.heap.size < wr.heap.size∧wr.ownsMap (H:=Unit) Tryz.prog 3 unitElem w.heap.size (i+1) (Maps.setOf (.agg []) (Zc (a :: Y4 (a:Int) (b.take i) 0)))) (fun t _=>b.length - (intOf t).toNat)
 case atStart=>exact ⟨0,Nat.zero_le _,rfl,hB0,hz0,HO0.o⟩
 case round =>
  obtain ⟨i,hi,rfl,hB,hz,a3⟩:=hrel
  have HO:=X1 a3
  clear a3
  by_cases hlt:i < b.length
  ·have hc:=(hB.cell (p:=⟨gs,i,none⟩) hgs).trans (HBS.o i hlt)
   have HK:=X1 (show Y4 (a:Int) (b.take (i+1)) 0=Y4 (a:Int) (b.take i) 0++(if b[i]=(a:Int) then [i] else []) by
    rw [List.take_succ_eq_append_getElem hlt,Tr.boundAt_snoc,List.length_take,Nat.min_eq_left hi,Nat.zero_add])
   have HY:Hid (keyOf Tryz.prog 3 (.int .i64 (i:Int))=some (.int .i64 (i:Int))):=X1 (Maps.keyOf_int_mk Tryz.underlying3 (wfI i (by omega)))
   cases hq:(b[i] == (a:Int))
   ·have f:Hid (Y4 (a:Int) (b.take (i+1)) 0=Y4 (a:Int) (b.take i) 0):=X1 (by rw [HK.o,if_neg (by simpa using hq),List.append_nil])
    generalize b[i]=bi at *
    clear HK
    go_wp2
    go_roundw
    case rel=>exact ⟨i+1,by omega,by go_num,hB,hz,by rw [f.o];exact HO.o.mono (by omega)⟩
    case measure=>simp [intOf];omega
   ·have f:Hid (Maps.setOf (H:=Unit) (.agg []) (Zc (a :: Y4 (a:Int) (b.take (i+1)) 0))=(Maps.setOf (.agg []) (Zc (a :: Y4 (a:Int) (b.take i) 0))).put (.int .i64 (i:Int)) (.agg [])):=X1 (by
     rw [HK.o,if_pos (by simpa using hq),← Maps.setOf_snoc];congr 1;simp [Zc])
    generalize b[i]=bi at *
    clear HK
    go_wp2_with (at_mapUpdate;refine wpList_mapUpdate_own _ rfl _ _ _ 48 rfl 3 46 lawI Tryz.underlying48 _ w.heap.size (i+1) _ rfl HO.o (by unfold maxLen;omega) _ _ _ rfl rfl HY.o _ [] unitElem_mk ?_)
    intro w1 a2 a0
    have hB1:Below w.heap.size w w1:=hB.grown a0 (by omega) (fun k e=>by cases e;exact Nat.le_refl _)
    have hz1:w.heap.size < w1.heap.size:=by have:=a0.size;omega
    rw [← f.o] at a2
    go_wp2
    go_roundw
    case rel=>exact ⟨i+1,by omega,by go_num,hB1,hz1,a2⟩
    case measure=>simp [intOf];omega
  ·go_wp2
   go_ret
   obtain rfl:i=b.length:=by omega
   have:=HO.o
   rw [List.take_length] at this
   exact ⟨rfl,this,hB⟩
set_option maxHeartbeats 400000 in
theorem isNew1_any (d:Tr.Nd) (cb:Nat) (nm:ByteArray) (w:World) (hcb:w.cell? ⟨cb,0,none⟩=some (.string nm)) :
  Calls Tryz.prog 42 #[.agg #[.int .i64 d.kind,.int .i64 d.op,.int .i64 d.n,.string d.text,.int .i64 d.kids],.pointer (some ⟨cb,0,none⟩)] w fun e w'=>e = .returned (.bool (d.text.toList == nm.toList))∧Below w.heap.size w w':=by
 have hcl:=World.block_lt_of_cell? w ⟨cb,0,none⟩ hcb
 have hB:Below w.heap.size w (w.alloc (.cells #[.int .i64 d.kind,.int .i64 d.op,.int .i64 d.n,.string d.text,.int .i64 d.kids] 35)):=bA _
 have hc:=(hB.cell (p:=⟨cb,0,none⟩) hcl).trans hcb
 clear hcb
 go_enter Tryz.func42,Tryz.ntmps42
 go_wp2
 go_ret
 exact ⟨rfl,hB⟩
set_option maxRecDepth 100000 in
set_option maxHeartbeats 400000 in
theorem indexFunc_any (ns:List Tr.Nd) (tg tc cb:Nat) (nm:ByteArray) (w:World) (hn:ns.length≤1048576) (ht:NodesAt w tg ns) (hcb:w.cell? ⟨cb,0,none⟩=some (.string nm)) :
  Calls Tryz.prog 68 #[.slice (some ⟨tg,0,none⟩) ns.length tc,.func (.func 42) #[] #[.pointer (some ⟨cb,0,none⟩)]] w fun e w'=>∃ k:Int,e = .returned (.int .i64 k)∧(decide (0≤k)=ns.any (fun d=>decide (d.text=nm)))∧Below w.heap.size w w':=by
 have HT:=X1 ht
 have hcl:=World.block_lt_of_cell? w ⟨cb,0,none⟩ hcb
 have HCB:=X1 hcb
 clear ht hcb
 go_enter Tryz.func68,Tryz.ntmps68
 go_wp2
 go_loopw [8] (fun t wr=>∃ i:Nat,i≤ns.length∧t = .int .i64 i∧Below w.heap.size w wr∧(ns.take i).any (fun d=>decide (d.text=nm))=false) (fun t _=>ns.length - (intOf t).toNat)
 case atStart=>exact ⟨0,Nat.zero_le _,rfl,Below.refl _ _,rfl⟩
 case round =>
  obtain ⟨i,hi,rfl,hB,hno⟩:=hrel
  have HNO:=X1 hno
  clear hno
  by_cases hlt:i < ns.length
  ·obtain ⟨n0,n1,n2,n3,n4⟩:=(HT.o.below hB).2 i hlt
   have c:=X1 (isNew1_any ns[i] cb nm wr ((hB.cell (p:=⟨cb,0,none⟩) hcl).trans HCB.o))
   have f:=ba_eq ns[i].text nm
   have g:=X1 (show (ns.take (i+1)).any (fun d=>decide (d.text=nm))=((ns.take i).any (fun d=>decide (d.text=nm)) || decide (ns[i].text=nm)) by rw [List.take_succ_eq_append_getElem hlt,List.any_append];simp)
   have a:=X1 (fun h:ns[i].text=nm=>show ns.any (fun d=>decide (d.text=nm))=true from List.any_eq_true.2 ⟨_,List.getElem_mem hlt,decide_eq_true h⟩)
   generalize ns[i]=d at *
   cases hq:(d.text.toList == nm.toList)
   ·have hne:d.text≠nm:=fun e=>by rw [f.2 e] at hq;cases hq
    rw [hq] at c
    have a0:Hid ((ns.take (i+1)).any (fun d=>decide (d.text=nm))=false):=X1 (by rw [g.o,HNO.o,decide_eq_false hne];rfl)
    clear a g f
    go_wp2_with fail
    refine c.o.mono ?_
    rintro e w2 ⟨rfl,b⟩
    have j:=hB.trans (b.mono hB.size)
    clear b
    go_wp2
    go_roundw
    case rel=>exact ⟨i+1,by omega,by go_num,j,a0.o⟩
    case measure=>simp [intOf];omega
   ·have HA:=X1 (a.o (f.1 hq))
    rw [hq] at c
    clear a g f
    go_wp2_with fail
    refine c.o.mono ?_
    rintro e w2 ⟨rfl,b⟩
    have j:=hB.trans (b.mono hB.size)
    clear b
    go_wp2
    go_ret
    exact ⟨_,rfl,by rw [HA.o];exact decide_eq_true (by omega),j⟩
  ·go_wp2
   go_ret
   have:=HNO.o
   rw [List.take_of_length_le (by omega)] at this
   exact ⟨_,rfl,by rw [this];decide,hB⟩
set_option maxHeartbeats 400000 in
theorem containsFunc_any (ns:List Tr.Nd) (tg tc cb:Nat) (nm:ByteArray) (w:World) (hn:ns.length≤1048576) (ht:NodesAt w tg ns) (hcb:w.cell? ⟨cb,0,none⟩=some (.string nm)) :
  Calls Tryz.prog 41 #[.slice (some ⟨tg,0,none⟩) ns.length tc,.func (.func 42) #[] #[.pointer (some ⟨cb,0,none⟩)]] w fun e w'=>e = .returned (.bool (ns.any (fun d=>decide (d.text=nm))))∧Below w.heap.size w w':=by
 have HI:=X1 (indexFunc_any ns tg tc cb nm w hn ht hcb)
 clear ht hcb
 go_enter Tryz.func41,Tryz.ntmps41
 go_wp2_with fail
 refine HI.o.mono ?_
 rintro e w1 ⟨k,rfl,hk,hb⟩
 have HK:=X1 hk
 clear hk
 go_wp2
 all_goals
  go_ret
  refine ⟨X8 ?_,hb⟩
  rw [← HK.o]
  try simp
  try omega
theorem Tr.cget_built (x:ByteArray):(Z0 x [YX]).isSome=decide (x.data.toList∈Yd):=by
 rw [Zf,KX]
 by_cases h:x.data.toList∈Yd
 ·simp [h]
 ·simp [h,Z0]
set_option maxRecDepth 100000 in
set_option maxHeartbeats 1000000 in
theorem isNew_any (ns:List Tr.Nd) (tg tc:Nat) (nm:ByteArray) (w:World) (hn:ns.length≤1048576) (hnm:nm.size≤1048576) (hG:GlobB w) (ht:NodesAt w tg ns) :
  Calls Tryz.prog 18 #[.string nm,.slice (some ⟨tg,0,none⟩) ns.length tc] w fun e w'=>e = .returned (.bool (Z3 ns nm))∧Below w.heap.size w w':=by
 have r1:Below w.heap.size w (w.alloc (.cells #[.string nm] 9)):=bA _
 have j:(w.alloc (.cells #[.string nm] 9)).cell? ⟨w.heap.size,0,none⟩=some (.string nm):=by simp
 have HBS:Hid (∀ (W:World) (z:Nat),Below w.heap.size w W→W.heap.size=z→Calls Tryz.prog 37 #[] W fun e w'=>e = .returned (.pointer (some ⟨z+1,0,none⟩))∧Below z W w'∧Chain 0 0 w' w'.heap.size (some ⟨z+1,0,none⟩) [YX]):=X1 (by
  rintro W z hb rfl
  exact QQ 0 0 W (hG.below hb) (by have:=hG.1;have:=hb.size;omega) (by have:=hG.1;have:=hb.size;omega))
 have HSZ:Hid ((w.alloc (.cells #[.string nm] 9)).drew.heap.size=w.heap.size+1):=X1 (by show (w.alloc _).heap.size=_;simp)
 have a:=X1 (show Z3 ns nm=(XZ nm && !decide (nm.data.toList∈Yd) && !ns.any (fun d=>decide (d.text=nm))) from rfl)
 have HT:=X1 ht
 have HCG:=X1 (Tr.cget_built nm)
 clear ht hG
 go_enter Tryz.func18,Tryz.ntmps18
 go_upto_region 1 with fail
 go_cut [6] from 7 to 12 (fun v6 wx=>v6 = .bool (decide (nm.data.toList∈Yd))∧Below (w.heap.size+1) (w.alloc (.cells #[.string nm] 9)) wx)
 case first =>
  go_region_with (first
   | (go_at_call 37;refine (HBS.o _ (w.heap.size+1) r1.drew HSZ.o).mono ?_;rintro e w2 ⟨rfl,b,a0⟩;have hx2:w2.cell? ⟨w.heap.size,0,none⟩=some (.string nm):=(b.cell (p:=⟨w.heap.size,0,none⟩) (show w.heap.size < w.heap.size+1 by omega)).trans j)
   | (go_at_call 38;refine (find_any 0 0 w2.heap.size nm hnm [YX] (some ⟨w.heap.size+1+1,0,none⟩) w2 a0).mono ?_;rintro e w3 ⟨rfl,hw3⟩;rw [HCG.o]))
  all_goals
   go_wp2_with fail
   go_meet
   case rel=>exact ⟨rfl,undrew b⟩
 case rest =>
  obtain ⟨rfl,f⟩:=hcut
  have g:Below w.heap.size w wc:=r1.trans (f.mono (by omega))
  have hxc:=(f.cell (p:=⟨w.heap.size,0,none⟩) (show w.heap.size < w.heap.size+1 by omega)).trans j
  have hzc:w.heap.size < wc.heap.size:=by have:=f.size;simp at this;omega
  have HCF:=X1 (fun W (hb:Below w.heap.size w W) (h:W.cell? ⟨w.heap.size,0,none⟩=some (.string nm))=>containsFunc_any ns tg tc w.heap.size nm W hn (HT.o.below hb) h)
  clear f j HBS HCG
  cases hbt:decide (nm.data.toList∈Yd)
  ·rw [hbt] at a
   go_upto_region 2 with fail
   go_cut [19] from 13 to 19 (fun v19 wx=>v19 = .bool (!XZ nm)∧Below wc.heap.size wc wx)
   case first =>
    have HWS:Hid (∀ (W:World) (z:Nat),W.heap.size=z→Calls Tryz.prog 40 #[] W fun e w'=>e = .returned (.map (some z))∧w'.ownsMap (H:=Unit) Tryz.prog 9 unitElem z 17 Sc.wordMap∧Below z W w'):=X1 (by
     rintro W z rfl
     exact wordSet_any W)
    go_region_with (first
     | (go_at_call 40;refine (HWS.o wc.drew wc.heap.size rfl).mono ?_;rintro e w2 ⟨rfl,hm2,b⟩;have hx2:w2.cell? ⟨w.heap.size,0,none⟩=some (.string nm):=(b.cell (p:=⟨w.heap.size,0,none⟩) hzc).trans hxc)
     | (go_at_call 39;refine (isName_any nm wc.heap.size w2 hnm hm2).mono ?_;rintro e w3 ⟨rfl,hb3⟩))
    all_goals
     go_wp2_with fail
     go_meet
     case rel=>exact ⟨rfl,(undrew b).trans (hb3.mono b.size)⟩
   case rest =>
    obtain ⟨rfl,i⟩:=hcut
    have c:Below w.heap.size w wc:=g.trans (i.mono g.size)
    have hxd:=(i.cell (p:=⟨w.heap.size,0,none⟩) hzc).trans hxc
    clear i
    cases hnk:XZ nm
    ·rw [hnk] at a
     go_wp2
     go_ret
     exact ⟨X8 (by rw [a.o];rfl),c⟩
    ·rw [hnk] at a
     go_wp2_with fail
     refine (HCF.o _ c hxd).mono ?_
     rintro e w4 ⟨rfl,hb4⟩
     have hB4:=c.trans (hb4.mono c.size)
     clear hb4
     go_wp2
     go_ret
     exact ⟨X8 (by rw [a.o];simp),hB4⟩
  ·rw [hbt] at a
   go_wp2
   go_quiet (fail)
   go_wp2
   go_ret
   exact ⟨X8 (by rw [a.o];simp),below_drewN g _⟩
def Y8 (f:Nat→Bool) (nm:ByteArray):List Tr.Nd→Nat→List Tr.Nd
 | [],_=>[]
 | d :: r,i=>(if f i=true then {d with text:=nm} else d) :: Y8 f nm r (i+1)
theorem Tr.renBy_len (f:Nat→Bool) (nm:ByteArray) (l:List Tr.Nd) (i:Nat):(Y8 f nm l i).length=l.length:=by
 induction l generalizing i with
 | nil=>rfl
 | cons d r ih=>rw [Y8,List.length_cons,List.length_cons,ih]
theorem Tr.renBy_none (f:Nat→Bool) (nm:ByteArray) (l:List Tr.Nd) (i:Nat) (h:∀ j,i≤j→j < i+l.length→f j=false):Y8 f nm l i=l:=by
 induction l generalizing i with
 | nil=>rfl
 | cons d r ih =>
  rw [Y8,h i (Nat.le_refl _) (by simp),ih (i+1) (fun j h1 h2=>h j (by omega) (by simp;omega))];rfl
theorem Kg (f g:Nat→Bool) (nm:ByteArray) (l:List Tr.Nd) (i:Nat) (h:∀ j,i≤j→j < i+l.length→f j=g j):Y8 f nm l i=Y8 g nm l i:=by
 induction l generalizing i with
 | nil=>rfl
 | cons d r ih =>
  rw [Y8,Y8,h i (Nat.le_refl _) (by simp),ih (i+1) (fun j h1 h2=>h j (by omega) (by simp;omega))]
theorem Tr.renBy_set (f:Nat→Bool) (nm:ByteArray) (l:List Tr.Nd) (i k:Nat) (hk:k < l.length):(X2 (Y8 f nm l i)).set (k*5+3) (.string nm)=X2 (Y8 (fun j=>f j || decide (j=i+k)) nm l i):=by
 induction l generalizing i k with
 | nil=>simp at hk
 | cons d r ih =>
  rw [Y8,Y8]
  have hc:∀ (x:Tr.Nd) (t:List Tr.Nd),X2 (x :: t)=x.cells++X2 t:=fun _ _=>rfl
  rw [hc,hc]
  cases k with
  | zero =>
   have e1:Y8 (fun j=>f j || decide (j=i+0)) nm r (i+1)=Y8 f nm r (i+1):=Kg _ _ _ _ _ (fun j h1 h2=>by rw [decide_eq_false (by omega),Bool.or_false])
   rw [e1,Nat.zero_mul,Nat.zero_add]
   simp only [Nat.add_zero,decide_true,Bool.or_true,if_true]
   cases f i <;> rfl
  | succ k =>
   have e2:Y8 (fun j=>f j || decide (j=i+(k+1))) nm r (i+1)=Y8 (fun j=>f j || decide (j=i+1+k)) nm r (i+1):=Kg _ _ _ _ _ (fun j _ _=>by rw [show i+(k+1)=i+1+k from by omega])
   have hl:(if f i=true then {d with text:=nm} else d:Tr.Nd).cells.length=5:=rfl
   rw [List.set_append_right (h:=by omega),hl,show (k+1)*5+3 - 5=k*5+3 from by omega,ih (i+1) k (by simpa using hk),e2]
   rw [show (f i || decide (i=i+(k+1)))=f i from by rw [decide_eq_false (by omega),Bool.or_false]]
theorem Tr.renBy_go (a:Nat) (b:List Int) (nm:ByteArray) (ns:List Tr.Nd) (hb:b.length=ns.length):Y8 (fun j=>decide (j∈a :: Y4 (a:Int) b 0)) nm ns 0=Xp a b nm ns 0:=by
 have:∀ (l:List Tr.Nd) (i:Nat),i+l.length=ns.length→Y8 (fun j=>decide (j∈a :: Y4 (a:Int) b 0)) nm l i=Xp a b nm l i:=by
  intro l
  induction l with
  | nil=>intro i _;rfl
  | cons d r ih =>
   intro i hi
   rw [List.length_cons] at hi
   rw [Y8,Xp,ih (i+1) (by omega)]
   congr 1
   unfold Y2
   have:(decide (i∈a :: Y4 (a:Int) b 0)=true)↔(i=a∨b[i]?.getD 0=(a:Int)):=by
    rw [decide_eq_true_iff,List.mem_cons,QU]
    constructor
    ·rintro (h | ⟨_,_,h,_⟩)
     ·exact .inl h
     ·exact .inr (by simpa using h)
    ·rintro (h | h)
     ·exact .inl h
     ·exact .inr ⟨Nat.zero_le _,by omega,by simpa using h,by omega⟩
   by_cases h:i=a∨b[i]?.getD 0=(a:Int)
   ·rw [if_pos h,if_pos (this.2 h)]
   ·rw [if_neg h,if_neg (fun q=>h (this.1 q))]
 exact this ns 0 (by omega)
theorem JV (L:List Nat) (x:Int):Maps.has (Maps.setOf (H:=Unit) (.agg []) (Zc L)) (.int .i64 x)=true↔∃ k∈L,(k:Int)=x:=by
 rw [Maps.has_setOf _ _ _ (Tr.keysI_ok L),List.any_eq_true]
 simp only [List.mem_map,Zc]
 constructor
 ·rintro ⟨_,⟨k,hk,rfl⟩,hs⟩
  refine ⟨k,hk,?_⟩
  by_cases e:(k:Int)=x
  ·exact e
  ·rw [Maps.sameKey_ne (fun h=>e (by injection h))] at hs;cases hs
 ·rintro ⟨k,hk,rfl⟩
  exact ⟨_,⟨k,hk,rfl⟩,WideAt.sameKey_self trivial⟩
theorem KF (ns:List Tr.Nd) (i k:Nat):k∈XB ns i↔i≤k∧k < i+ns.length∧Za (X4 ns (k - i))=true:=by
 induction ns generalizing i with
 | nil=>simp [XB];omega
 | cons d r ih =>
  rw [XB,List.mem_append,ih,List.length_cons]
  constructor
  ·rintro (h | ⟨h1,h2,h3⟩)
   ·split at h
    ·rename_i e
     have:k=i:=by simpa using h
     subst this
     exact ⟨Nat.le_refl _,by omega,by rw [Nat.sub_self];exact e⟩
    ·cases h
   ·refine ⟨by omega,by omega,?_⟩
    rw [show k - i=(k - (i+1))+1 from by omega]
    exact h3
  ·rintro ⟨h1,h2,h3⟩
   by_cases e:k=i
   ·subst e
    left
    rw [Nat.sub_self] at h3
    rw [if_pos (show Za d.kind=true from h3)];simp
   ·right
    rw [show k - i=(k - (i+1))+1 from by omega] at h3
    exact ⟨by omega,by omega,h3⟩
theorem Tr.place_has (ns:List Tr.Nd) (at_:Int):Maps.has (Maps.setOf (H:=Unit) (.agg []) (Zc (XB ns 0))) (.int .i64 at_)=Y3 ns at_:=by
 rw [Bool.eq_iff_iff,JV]
 unfold Y3
 simp only [Bool.and_eq_true,decide_eq_true_eq]
 constructor
 ·rintro ⟨k,hk,rfl⟩
  rw [KF] at hk
  exact ⟨⟨by omega,by omega⟩,by rw [Int.toNat_natCast];simpa using hk.2.2⟩
 ·rintro ⟨⟨h1,h2⟩,h3⟩
  exact ⟨at_.toNat,(KF _ _ _).2 ⟨Nat.zero_le _,by omega,by simpa using h3⟩,by omega⟩
set_option maxRecDepth 100000 in
set_option maxHeartbeats 1000000 in
theorem irename_any (ns:List Tr.Nd) (tg tc:Nat) (at_:Int) (nm:ByteArray) (w:World) (hn:ns.length≤1048576) (hx:∀ x∈ns,x.text.size≤1048576) (hnm:nm.size≤1048576) (hwf:(Lit.int .i64 at_).wf=true) (hG:GlobB w) (ht:NodesAt w tg ns) :
  Calls Tryz.prog 5 #[.agg #[.slice (some ⟨tg,0,none⟩) ns.length tc],.int .i64 at_,.string nm] w fun e w'=>∃ v,e = .returned (.tuple #[.agg #[v],.int .i64 (Xq ns at_ nm).2])∧RowN w' w.heap.size v (Xq ns at_ nm).1∧Below w.heap.size w w':=by
 have r2:Below w.heap.size w ((w.alloc (.cells #[.slice (some ⟨tg,0,none⟩) ns.length tc] 25)).alloc (.cells #[.slice none 0 0] 25)):=(bA _).alloc (by simp) _
 obtain ⟨x0,x1,x2⟩:=two_box w (.slice (some ⟨tg,0,none⟩) ns.length tc)
 have HCK:=X1 (icheck_any ns tg tc _ hn hx (hG.below r2) (ht.below r2))
 have HT:=X1 ht
 have HG:=X1 hG
 have HX:=X1 hx
 have Q:=X1 (Qk (ns:=ns))
 have HX0:=X1 x0
 have HX1:=X1 x1
 have HX2:=X1 x2
 clear ht hG hx x0 x1 x2
 go_enter Tryz.func5,Tryz.ntmps5
 go_wp2_with fail
 refine HCK.o.mono ?_
 rintro e w1 ⟨rfl,u⟩
 rw [World.size_alloc,World.size_alloc] at u
 have M:=r2.trans (u.mono (by omega))
 have hz1:w.heap.size+1+1≤w1.heap.size:=by have:=u.size;simpa using this
 have y0:=(u.cell (p:=⟨w.heap.size,0,none⟩) (show w.heap.size < w.heap.size+1+1 by omega)).trans HX0.o
 have y1:=(u.cell (p:=⟨w.heap.size+1,0,none⟩) (show w.heap.size+1 < w.heap.size+1+1 by omega)).trans HX1.o
 have y2:=(u.frozen (p:=⟨w.heap.size+1,0,none⟩) (show w.heap.size+1 < w.heap.size+1+1 by omega)).trans HX2.o
 clear u HCK HX0 HX1 HX2
 cases hf:Xz ns
 ·have f:Hid (Xq ns at_ nm=([],1)):=X1 (by unfold Xq;rw [hf];rfl)
  have A:¬ ((Xk ns).1=0∧(Xk ns).2=0):=fun h=>by
   have:=Q.o.2 (Prod.ext h.1 h.2)
   rw [hf] at this;cases this
  clear Q hf
  by_cases h0:(Xk ns).1=0
  ·have h1:¬ ((Xk ns).2:Int)=0:=fun h=>A ⟨h0,by omega⟩
   clear A
   rw [h0]
   go_wp2
   all_goals
    refine bodyPost_ret (v:= .tuple #[.agg #[.slice none 0 0],.int .i64 1]) (by simp [results,Tryz.results5,go_sem,y1]) rfl ⟨_,by rw [f.o],by rw [f.o];exact .inl ⟨rfl,rfl⟩,?_⟩
    exact M.setCell (p:=⟨w.heap.size+1,0,none⟩) (by simp) _
  ·clear A
   go_wp2
   all_goals
    refine bodyPost_ret (v:= .tuple #[.agg #[.slice none 0 0],.int .i64 1]) (by simp [results,Tryz.results5,go_sem,y1]) rfl ⟨_,by rw [f.o],by rw [f.o];exact .inl ⟨rfl,rfl⟩,?_⟩
    exact M.setCell (p:=⟨w.heap.size+1,0,none⟩) (by simp) _
 ·have A:=Q.o.1 hf
  have h0:(Xk ns).1=0:=by rw [A]
  have h1:(Xk ns).2=0:=by rw [A]
  have hn1:=(Yx (YH hf)).1
  have hn5:=(Yx (YH hf)).2.1
  have m:=X1 (show Xq ns at_ nm=(if Y3 ns at_=false then ([],2) else if Z3 ns nm=false then ([],3) else (Xp at_.toNat (Xe ns) nm ns 0,0)) by unfold Xq;rw [hf];rfl)
  have K:=X1 (Tr.place_has ns at_)
  have V:=X1 (J2 hf)
  clear Q A
  rw [h0,h1]
  have HLP:=X1 (localPlaces_any ns tg tc w1 hn5 (HT.o.below M))
  have Y:Hid (keyOf Tryz.prog 3 (.int .i64 at_)=some (.int .i64 at_)):=X1 (Maps.keyOf_int_mk Tryz.underlying3 hwf)
  go_wp2_with fail
  refine HLP.o.mono ?_
  rintro e w2 ⟨rfl,a9,C⟩
  have hB2:=M.trans (C.mono M.size)
  have hz2:w.heap.size+1+1≤w2.heap.size:=Nat.le_trans hz1 C.size
  have z0:=(C.cell (p:=⟨w.heap.size,0,none⟩) (show w.heap.size < w1.heap.size by omega)).trans y0
  have z1:=(C.cell (p:=⟨w.heap.size+1,0,none⟩) (show w.heap.size+1 < w1.heap.size by omega)).trans y1
  have z2:=(C.frozen (p:=⟨w.heap.size+1,0,none⟩) (show w.heap.size+1 < w1.heap.size by omega)).trans y2
  have B:=X1 a9
  clear C y0 y1 y2 a9 HLP
  have q2:Below w2.heap.size w2 (w2.alloc (.cells #[] 46)):=bA _
  have a0:=(q2.cell (p:=⟨w.heap.size,0,none⟩) (show w.heap.size < w2.heap.size by omega)).trans z0
  have a1:=(q2.cell (p:=⟨w.heap.size+1,0,none⟩) (show w.heap.size+1 < w2.heap.size by omega)).trans z1
  have a2:=(q2.frozen (p:=⟨w.heap.size+1,0,none⟩) (show w.heap.size+1 < w2.heap.size by omega)).trans z2
  have l:=hB2.trans (q2.mono hB2.size)
  cases hpl:Y3 ns at_
  ·have f:Hid (Xq ns at_ nm=([],2)):=X1 (by rw [m.o,hpl];rfl)
   rw [hpl] at K
   have U:=K.o
   go_wp2_with (at_lookup;refine wpList_lookup_own_unit _ rfl _ _ 48 rfl 3 46 lawI Tryz.underlying48 (zeroUI _) w1.heap.size _ _ rfl B.o _ _ rfl Y.o ?_)
   try rw [U]
   go_wp2
   refine bodyPost_ret (v:= .tuple #[.agg #[.slice none 0 0],.int .i64 2]) (by simp [results,Tryz.results5,go_sem,a1]) rfl ⟨_,by rw [f.o],by rw [f.o];exact .inl ⟨rfl,rfl⟩,?_⟩
   exact l.setCell (p:=⟨w.heap.size+1,0,none⟩) (by simp) _
  ·rw [hpl] at K m
   have U:=K.o
   obtain ⟨a,ha⟩:∃ a:Nat,at_=a:=by
    unfold Y3 at hpl
    simp only [Bool.and_eq_true,decide_eq_true_eq] at hpl
    exact ⟨at_.toNat,by omega⟩
   have han:a < ns.length:=by
    unfold Y3 at hpl
    simp only [Bool.and_eq_true,decide_eq_true_eq] at hpl
    omega
   subst ha
   rw [Int.toNat_natCast] at m
   have J:=X1 (isNew_any ns tg tc nm _ hn hnm (HG.o.below l) (HT.o.below l))
   go_wp2_with (at_lookup;refine wpList_lookup_own_unit _ rfl _ _ 48 rfl 3 46 lawI Tryz.underlying48 (zeroUI _) w1.heap.size _ _ rfl B.o _ _ rfl Y.o ?_)
   try rw [U]
   clear B K U z0 z1 z2 Y
   cases hnk:Z3 ns nm
   ·have f:Hid (Xq ns (a:Int) nm=([],3)):=X1 (by rw [m.o,hnk];rfl)
    rw [hnk] at J
    go_wp2_with fail
    refine J.o.mono ?_
    rintro e w3 ⟨rfl,g⟩
    rw [World.size_alloc] at g
    have N:=l.trans (g.mono (by omega))
    have c1:=(g.cell (p:=⟨w.heap.size+1,0,none⟩) (show w.heap.size+1 < w2.heap.size+1 by omega)).trans a1
    have c2:=(g.frozen (p:=⟨w.heap.size+1,0,none⟩) (show w.heap.size+1 < w2.heap.size+1 by omega)).trans a2
    clear g
    go_wp2
    refine bodyPost_ret (v:= .tuple #[.agg #[.slice none 0 0],.int .i64 3]) (by simp [results,Tryz.results5,go_sem,c1]) rfl ⟨_,by rw [f.o],by rw [f.o];exact .inl ⟨rfl,rfl⟩,?_⟩
    exact N.setCell (p:=⟨w.heap.size+1,0,none⟩) (by simp) _
   ·have f:Hid (Xq ns (a:Int) nm=(Xp a (Xe ns) nm ns 0,0)):=X1 (by rw [m.o,hnk];rfl)
    rw [hnk] at J
    go_wp2_with fail
    refine J.o.mono ?_
    rintro e w3 ⟨rfl,g⟩
    rw [World.size_alloc] at g
    have N:=l.trans (g.mono (by omega))
    have hz3:w.heap.size+1+1≤w3.heap.size:=by have:=g.size;rw [World.size_alloc] at this;omega
    have c0:=(g.cell (p:=⟨w.heap.size,0,none⟩) (show w.heap.size < w2.heap.size+1 by omega)).trans a0
    have c1:=(g.cell (p:=⟨w.heap.size+1,0,none⟩) (show w.heap.size+1 < w2.heap.size+1 by omega)).trans a1
    have c2:=(g.frozen (p:=⟨w.heap.size+1,0,none⟩) (show w.heap.size+1 < w2.heap.size+1 by omega)).trans a2
    clear g a0 a1 a2 q2 J m
    go_wp2_with fail
    refine (clone_any ns tg tc w3 hn1 hn (HT.o.below N)).mono ?_
    rintro e w4 ⟨g4,c4,rfl,hg4,b7,E⟩
    have S:=N.trans (E.mono N.size)
    have hz4:=E.size
    have d0:=(E.cell (p:=⟨w.heap.size,0,none⟩) (show w.heap.size < w3.heap.size by omega)).trans c0
    have d1:=(E.cell (p:=⟨w.heap.size+1,0,none⟩) (show w.heap.size+1 < w3.heap.size by omega)).trans c1
    have d2:=(E.frozen (p:=⟨w.heap.size+1,0,none⟩) (show w.heap.size+1 < w3.heap.size by omega)).trans c2
    have HO4:=X1 b7
    have b4:=(b7.lt g4 rfl).2
    clear E c0 c1 c2 b7
    have HIB:=X1 (ibinds_any ns tg tc w4 hn HX.o (HG.o.below S) (HT.o.below S))
    go_wp2_with fail
    refine HIB.o.mono ?_
    rintro e w5 ⟨F,a6⟩
    rcases a6 with ⟨hff,-⟩ | ⟨-,-,g5,rfl,hg5,ho5⟩
    ·rw [hf] at hff;cases hff
    have hB5:=S.trans (F.mono S.size)
    have hz5:=F.size
    have e0:=(F.cell (p:=⟨w.heap.size+1,0,none⟩) (show w.heap.size+1 < w4.heap.size by omega)).trans d1
    have e2:=(F.frozen (p:=⟨w.heap.size+1,0,none⟩) (show w.heap.size+1 < w4.heap.size by omega)).trans d2
    have HO5:Hid (w5.ownsRow 0 35 5 (.slice (some ⟨g4,0,none⟩) ns.length c4) ns.length (X2 ns)):=X1 (Y5 HO4.o (F.block g4 b4))
    have b5:=(ho5.lt g5 rfl).2
    have HPN:=X1 (placesNaming_any a (Xe ns) g5 (Xe ns).length w5 (by rw [V.o];omega) (by omega) b5 (fun j hj=>by rw [ho5.cellAt j (by omega)];simp [hj,vi]))
    have HRB:=X1 (Tr.renBy_go a (Xe ns) nm ns V.o)
    clear F d0 d1 d2 ho5 HO4 HIB
    go_wp2_with fail
    refine HPN.o.mono ?_
    rintro e w6 ⟨rfl,a3,I⟩
    have Z:=hB5.trans (I.mono hB5.size)
    have hz6:=I.size
    have f1:=(I.cell (p:=⟨w.heap.size+1,0,none⟩) (show w.heap.size+1 < w5.heap.size by omega)).trans e0
    have f2:=(I.frozen (p:=⟨w.heap.size+1,0,none⟩) (show w.heap.size+1 < w5.heap.size by omega)).trans e2
    have HO6:Hid (w6.ownsRow 0 35 5 (.slice (some ⟨g4,0,none⟩) ns.length c4) ns.length (X2 ns)):=X1 (Y5 HO5.o (I.block g4 (by omega)))
    have B:=X1 a3
    have HHK:=X1 (fun x=>JV (a :: Y4 (a:Int) (Xe ns) 0) x)
    have HLT:Hid (∀ k∈a :: Y4 (a:Int) (Xe ns) 0,k < ns.length):=X1 (by
     intro k hk
     rcases List.mem_cons.1 hk with rfl | hk
     ·exact han
     ·have:=(QU _ _ _ _).1 hk;have:=V.o;omega)
    clear I e0 e2 a3 HO5 HPN
    generalize a :: Y4 (a:Int) (Xe ns) 0=L at *
    generalize hbb:Xe ns=b at *
    generalize hDD:Maps.setOf (H:=Unit) (.agg []) (Zc L)=D at *
    clear hDD
    go_wp2_with (at_range;refine wpList_range_own _ rfl _ 48 rfl 3 46 lawI Tryz.underlying48 _ w5.heap.size _ D rfl B.o ?_)
    intro w7 b0 O hs7
    have hB7:Below w.heap.size w w7:=Z.grown O Z.size (fun q e=>by cases e)
    have h1':=(World.cell?_of_block (O.block (w.heap.size+1) (by omega) (by simp))).trans f1
    have h2':=(World.frozen?_of_block (O.block (w.heap.size+1) (by omega) (by simp))).trans f2
    have HO7:Hid (w7.ownsRow 0 35 5 (.slice (some ⟨g4,0,none⟩) ns.length c4) ns.length (X2 ns)):=X1 (Y5 HO6.o (O.block g4 (by omega) (by simp)))
    have W:=X1 b0
    clear O f1 f2 HO6 B b0
    go_wp2
    have hg4m:g4 < w5.heap.size:=by omega
    have hr7:=W.o.lt
    have s:Hid (∀ left:Lit→Bool,(∀ kl,left kl=false)→Y8 (fun j=>Maps.has D (.int .i64 (j:Int)) && !left (.int .i64 (j:Int))) nm ns 0=Xp a b nm ns 0):=X1 (by
     intro left hl
     rw [← HRB.o]
     refine Kg _ _ _ _ _ (fun j _ _=>?_)
     rw [hl,Bool.not_false,Bool.and_true,Bool.eq_iff_iff,decide_eq_true_iff]
     rw [HHK.o]
     exact ⟨fun ⟨k,hk,e⟩=>(show k=j by omega) ▸ hk,fun h=>⟨j,h,rfl⟩⟩)
    have r:Hid (Y8 (fun j=>Maps.has D (.int .i64 (j:Int)) && !Maps.has D (.int .i64 (j:Int))) nm ns 0=ns):=X1 (Tr.renBy_none _ _ _ _ (fun j _ _=>by cases Maps.has D (.int .i64 (j:Int)) <;> rfl))
    go_loopw [11] (fun _ wr=>∃ (left:Lit→Bool) (cnt:Nat),wr.ranges Tryz.prog 3 unitElem w5.heap.size w6.heap.size (b.length+1) D left cnt∧(∀ kl,left kl=true→Maps.has D kl=true)∧Below w.heap.size w wr∧wr.cell? ⟨w.heap.size+1,0,none⟩=some (.slice none 0 0)∧wr.frozen? ⟨w.heap.size+1,0,none⟩=false ∧
     wr.ownsRow 0 35 5 (.slice (some ⟨g4,0,none⟩) ns.length c4) ns.length (X2 (Y8 (fun j=>Maps.has D (.int .i64 (j:Int)) && !left (.int .i64 (j:Int))) nm ns 0))) (fun _ wr=>wr.rangeLeft w5.heap.size w6.heap.size)
    case atStart=>exact ⟨_,_,W.o,fun _ h=>h,hB7,h1',h2',by rw [r.o];exact HO7.o⟩
    case round =>
     obtain ⟨left,cnt,b8,b3,hB,s1,s2,b2⟩:=hrel
     have i:=X1 b3
     have n:=X1 b2
     have t:=X1 b8
     have hrl:=b8.lt
     clear b3 b2 W HO7 b8
     go_wp2_with (at_next;refine wpList_next_ranges (α:=Int) (β:=Unit) _ rfl _ rfl 3 lawI unitElem (fun x => .int .i64 x) (fun _ => .agg #[]) (fun key kl h=>by obtain ⟨x,hx,_⟩:=Maps.keyOf_int_inv Tryz.underlying3 h;exact ⟨x,hx⟩) (fun v y h=>⟨(),(unitElem_inv h).1⟩) w5.heap.size w6.heap.size _ D left cnt rfl t.o ?_ ?_)
     ·intro hc0 hl0
      have HRW:Hid (RowN (wr.setCell ⟨w.heap.size+1,0,none⟩ (.slice (some ⟨g4,0,none⟩) ns.length c4)) w.heap.size (.slice (some ⟨g4,0,none⟩) ns.length c4) (Xp a b nm ns 0)):=X1 (by
       have hlr:(Xp a b nm ns 0).length=ns.length:=ZT _ _ _ _ _
       have hro:=n.o
       rw [s.o left hl0] at hro
       refine .inr ⟨g4,c4,by rw [hlr],by omega,?_⟩
       rw [hlr]
       exact Y5 hro (Below.heap_setCell _ _ _ _ (show g4≠w.heap.size+1 by omega)))
      clear n t i s r
      go_wp2
      refine bodyPost_ret (v:= .tuple #[.agg #[.slice (some ⟨g4,0,none⟩) ns.length c4],.int .i64 0]) (by simp [results,Tryz.results5,go_sem,s1]) rfl ⟨_,by rw [f.o],by rw [f.o];exact HRW.o,?_⟩
      exact hB.setCell (p:=⟨w.heap.size+1,0,none⟩) (by simp) _
     ·intro x c kl y w8 a5 a7 b6 hv hat b1 a8 P hs8 hen
      obtain ⟨x',hxx,hkl,_⟩:=Maps.keyOf_int_inv Tryz.underlying3 a7
      have hxe:x'=x:=by injection hxx with _ h;exact h.symm
      subst hxe
      subst hkl
      obtain ⟨k,hkL,hkx⟩:=(HHK.o x').1 (i.o _ b6)
      have hkn:=HLT.o k hkL
      subst hkx
      have d:w8.ownsRow 0 35 5 (.slice (some ⟨g4,0,none⟩) ns.length c4) ns.length (X2 (Y8 (fun j=>Maps.has D (.int .i64 (j:Int)) && !left (.int .i64 (j:Int))) nm ns 0)):=Y5 n.o (P.block g4 (by omega) (by simp;omega))
      have hlen:(Y8 (fun j=>Maps.has D (.int .i64 (j:Int)) && !left (.int .i64 (j:Int))) nm ns 0).length=ns.length:=Tr.renBy_len _ _ _ _
      obtain ⟨-,-,-,p3,-⟩:=Jq (Y8 (fun j=>Maps.has D (.int .i64 (j:Int)) && !left (.int .i64 (j:Int))) nm ns 0) k (by omega)
      have k3:=(d.cellAt (k*5+3) (by omega)).trans p3
      have f3:=d.frozenAt (k*5+3)
      have X:=X1 (d.stored (k*5+3) (.string nm)).1
      rw [Tr.renBy_set _ _ _ _ _ hkn] at X
      have HEQ:Hid (Y8 (fun j=>(Maps.has D (.int .i64 (j:Int)) && !left (.int .i64 (j:Int))) || decide (j=0+k)) nm ns 0=Y8 (fun j=>Maps.has D (.int .i64 (j:Int)) && !(left (.int .i64 (j:Int)) && !(Lit.int .i64 (j:Int)).sameKey (.int .i64 (k:Int)))) nm ns 0):=X1 (Kg _ _ _ _ _ (fun j _ _=>by
       by_cases e:j=k
       ·subst e
        rw [WideAt.sameKey_self (show WideAt.IsKeyLit (Lit.int .i64 (j:Int)) from trivial),i.o _ b6]
        simp
       ·rw [Maps.sameKey_ne (fun h=>e (by injection h with _ h;omega)),decide_eq_false (by omega)]
        simp))
      rw [HEQ.o] at X
      have hB8:Below w.heap.size w w8:=hB.grown P (by have:=hB.size;omega) (fun q e=>by cases e;have:=Z.size;omega)
      have s18:=(World.cell?_of_block (P.block (w.heap.size+1) (by omega) (by simp;omega))).trans s1
      have s28:=(World.frozen?_of_block (P.block (w.heap.size+1) (by omega) (by simp;omega))).trans s2
      have HS1:Hid ((w8.setCell ⟨g4,k*5+3,none⟩ (.string nm)).cell? ⟨w.heap.size+1,0,none⟩=some (.slice none 0 0)):=X1 ((World.cell?_of_block (a:=⟨w.heap.size+1,0,none⟩) (Below.heap_setCell _ _ _ _ (show w.heap.size+1≠g4 by omega))).trans s18)
      have HS2:Hid ((w8.setCell ⟨g4,k*5+3,none⟩ (.string nm)).frozen? ⟨w.heap.size+1,0,none⟩=false):=X1 ((World.frozen?_of_block (a:=⟨w.heap.size+1,0,none⟩) (Below.heap_setCell _ _ _ _ (show w.heap.size+1≠g4 by omega))).trans s28)
      have m:Hid ((w8.setCell ⟨g4,k*5+3,none⟩ (.string nm)).ranges Tryz.prog 3 unitElem w5.heap.size w6.heap.size (b.length+1) D (fun z=>left z && !z.sameKey (.int .i64 (k:Int))) a5):=X1 (b1.kept (row:=some g4) ⟨rfl,rfl,rfl,by rw [Qn];exact Nat.le_refl _,fun q _ hq=>Below.heap_setCell _ _ _ _ (fun e=>hq (by rw [e]))⟩ (by simp;omega) (by simp;omega))
      have a4:Hid (∀ kl,(left kl && !kl.sameKey (.int .i64 (k:Int)))=true→Maps.has D kl=true):=X1 (fun kl h=>i.o kl (by rw [Bool.and_eq_true] at h;exact h.1))
      have HME:Hid (a5 < cnt):=X1 a8
      clear n i s r d p3 b1 P a8 a7 b6 hv hat hxx HEQ s1 s2 s18 s28
      try simp only at hen
      go_wp2
      go_roundw
      case rel=>exact ⟨_,_,m.o,a4.o,hB8.setCell (p:=⟨g4,k*5+3,none⟩) (by show w.heap.size≤g4;omega) _,HS1.o,HS2.o,X.o⟩
      case measure=>rw [m.o.left_eq,t.o.left_eq];exact HME.o
end Go.Proofs.YtimbaebigjjkaaaGreatDoor
