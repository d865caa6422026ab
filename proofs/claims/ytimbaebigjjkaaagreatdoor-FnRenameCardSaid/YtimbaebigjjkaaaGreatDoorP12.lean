/- Vd, Vf, Vg. -/
import Derived.Test.YtimbaebigjjkaaaGreatDoorP11
namespace Go.Proofs.YtimbaebigjjkaaaGreatDoor
open Go.RowKit
def X4 (ns:List Tr.Nd) (x:Nat):Int:=match ns[x]? with
 | some d=>d.kind
 | none=>0
def Y7 (ns:List Tr.Nd) (x:Nat):Bool:=Xn (X4 ns x) 1 16
def XL (ns:List Tr.Nd):List Nat→Nat
 | []=>0
 | x :: r=>(if Y7 ns x=true then 1 else 0)+XL ns r
def XE (ns:List Tr.Nd):List Nat→Nat
 | []=>0
 | x :: r=>if Y7 ns x=true then 1+XE ns r else 0
def Xy (ns:List Tr.Nd) (p:Int→Bool):List Nat→Bool
 | []=>true
 | x :: r=>p (X4 ns x) && Xy ns p r
theorem XJ {ns:List Tr.Nd} {x:Nat} (h:x < ns.length):X4 ns x=ns[x].kind:=by simp [X4,h]
theorem K6 (ns:List Tr.Nd) (ls:List Nat) (j:Nat) (h:j < ls.length):XL ns (ls.drop j)=(if Y7 ns ls[j]=true then 1 else 0)+XL ns (ls.drop (j+1)):=by
 rw [List.drop_eq_getElem_cons h];rfl
theorem Kv (ns:List Tr.Nd) (p:Int→Bool) (ls:List Nat) (j:Nat) (h:j < ls.length):Xy ns p (ls.drop j)=(p (X4 ns ls[j]) && Xy ns p (ls.drop (j+1))):=by
 rw [List.drop_eq_getElem_cons h];rfl
theorem Zu (ns:List Tr.Nd) (ls:List Nat):XL ns ls≤ls.length:=by
 induction ls with
 | nil=>exact Nat.le_refl _
 | cons x r ih=>simp only [XL,List.length_cons];split <;> omega
def Xm (ns:List Tr.Nd) (k:Int) (ls:List Nat):Bool :=
 if k=1∨k=2∨k=3∨k=4∨k=5 then decide ((ls.length:Int)=0)
 else if k=6∨k=11∨k=17∨k=18∨k=21∨k=22 then decide ((ls.length:Int)=1∧(XL ns ls:Int)=1)
 else if k=7∨k=10∨k=14 then decide ((ls.length:Int)=2∧(XL ns ls:Int)=2)
 else if k=13 then decide ((ls.length:Int)=3∧(XL ns ls:Int)=3)
 else if k=16 then decide ((2≤(ls.length:Int)∧(ls.length:Int)≤3)∧(XL ns ls:Int)=ls.length)
 else if k=19 then decide ((ls.length:Int)≤1∧(XL ns ls:Int)=ls.length)
 else if k=8 then decide ((XL ns ls:Int)=ls.length∧(ls.length:Int)≤200)
 else if k=9 then Xy ns (fun x=>x == 17) ls && decide ((ls.length:Int)≤200) && Z6 ns ls
 else if k=12 then Xy ns (fun x=>x == 18) (ls.drop (XE ns ls)) && decide (1≤(XE ns ls:Int)) && decide ((ls.length:Int) - 1≤8) && Z6 ns (ls.drop (XE ns ls))
 else if k=15∨k=20 then Xy ns (fun x=>x == 19) ls.dropLast && (ls.getLast?.map (Y7 ns) == some true) && decide ((ls.length:Int) - 1≤8)
 else if k=23 then Xy ns (fun x=>x == 5) ls && Xn ls.length 1 200
 else if k=24 then Xy ns (fun x=>Xn x 20 23) ls && decide ((ls.length:Int)≤200)
 else false
set_option maxRecDepth 100000 in
set_option maxHeartbeats 4000000 in
theorem kidsOk_simple (kind:Int) (ns:List Tr.Nd) (ls:List Nat) (tg tc g c:Nat) (w:World) (hl:ls.length≤1048576) (ht:NodesAt w tg ns) (hi:IntsAt w g 0 ls) (hin:∀ x∈ls,x < ns.length) (hkind:kind=1∨kind=2∨kind=3∨kind=4∨kind=5∨kind=6∨kind=11∨kind=17∨kind=18∨kind=21∨kind=22∨kind=7∨kind=10∨kind=14∨kind=13∨kind=16∨kind=19∨kind=8) :
  Calls Tryz.prog 54 #[.agg #[.slice (some ⟨tg,0,none⟩) ns.length tc],.int .i64 kind,.slice (some ⟨g,0,none⟩) ls.length c] w fun e w'=>e = .returned (.bool (Xm ns kind ls))∧Below w.heap.size w w':=by
 have r1:Below w.heap.size w (w.alloc (.cells #[.slice (some ⟨tg,0,none⟩) ns.length tc] 25)):=bA _
 have HT:=X1 ht
 have HI:=X1 hi
 have HIN:=X1 hin
 have HK:=X1 hkind
 have hel:=Zu ns ls
 clear ht hi hin hkind
 go_enter Tryz.func54,Tryz.ntmps54
 go_wp2
 go_loopw [8,10] (fun s t wr=>∃ (j es:Nat),j≤ls.length∧t = .int .i64 j∧s = .int .i64 es∧es+XL ns (ls.drop j)=XL ns ls∧Below w.heap.size w wr∧w.heap.size < wr.heap.size∧wr.cell? ⟨w.heap.size,0,none⟩=some (.slice (some ⟨tg,0,none⟩) ns.length tc)) (fun _ t _=>ls.length - (intOf t).toNat)
 case atStart=>exact ⟨0,0,Nat.zero_le _,rfl,rfl,by simp,r1,by simp,by simp⟩
 case round =>
  obtain ⟨j,es,hj,rfl,rfl,he,hB,a2,a⟩:=hrel
  have HE:=X1 he
  clear he
  by_cases hlt:j < ls.length
  ·have hI:=HI.o.2 j hlt
   rw [Nat.zero_add] at hI
   have hx:ls[j] < ns.length:=HIN.o _ (List.getElem_mem _)
   obtain ⟨hN,_⟩:=HT.o.2 ls[j] hx
   have HS:=X1 (K6 ns ls j hlt)
   have HQ:=X1 (show Y7 ns ls[j]=Xn ns[ls[j]].kind 1 16 by unfold Y7;rw [XJ hx])
   have a0:=(hB.cell (p:=⟨g,j,none⟩) HI.o.1).trans hI
   have a1:=(hB.cell (p:=⟨tg,ls[j]*5,none⟩) HT.o.1).trans hN
   generalize ns[ls[j]].kind=kj at *
   generalize ls[j]=xj at *
   clear hI hN
   have hes:es≤ls.length:=by have:=HE.o;omega
   cases hq:Xn kj 1 16
   all_goals
    go_wp2
    go_quiet ((go_at_call 80;exact Calls.quiet_of_same (Jk _ _)))
    rw [hq]
    go_wp2
    go_roundw
    case rel =>
     have e1:=HE.o
     rw [HS.o,HQ.o,hq] at e1
     first | rw [if_pos rfl] at e1 | rw [if_neg (by decide)] at e1
     first
     | exact ⟨j+1,es+1,by omega,by go_num,by go_num,by omega,below_drewN hB _,a2,a⟩
     | exact ⟨j+1,es,by omega,by go_num,rfl,by omega,below_drewN hB _,a2,a⟩
    case measure=>simp [intOf];omega
  ·have hes:es=XL ns ls:=by have e1:=HE.o;rw [List.drop_of_length_le (by omega)] at e1;simpa [XL] using e1
   subst hes
   obtain rfl:j=ls.length:=by omega
   clear HE hj
   rcases HK.o with rfl | rfl | rfl | rfl | rfl | rfl | rfl | rfl | rfl | rfl | rfl | rfl | rfl | rfl | rfl | rfl | rfl | rfl
   all_goals
    go_wp2_with (go_at_call 22;refine (YI _ _ _ _).mono ?_;rintro e w' ⟨rfl,rfl⟩)
   all_goals
    go_ret
    refine ⟨X8 ?_,hB⟩
    clear HT HI HIN HK hB a r1
    rw [Bool.eq_iff_iff]
    first
    | (simp [Xm];done)
    | (simp [Xm];omega)
    | (rename_i h;simp [Xn] at h;simp [Xm];omega)
def JX (ns:List Tr.Nd) (ls:List Nat):Bool:=Xy ns (fun x=>x == 19) ls.dropLast && (ls.getLast?.map (Y7 ns) == some true) && decide ((ls.length:Int) - 1≤8)
theorem Tr.kidsOk_15 (ns:List Tr.Nd) (ls:List Nat):Xm ns 15 ls=JX ns ls:=by unfold Xm;rfl
theorem Tr.kidsOk_20 (ns:List Tr.Nd) (ls:List Nat):Xm ns 20 ls=JX ns ls:=by unfold Xm;rfl
theorem Tr.kidsOk_12 (ns:List Tr.Nd) (ls:List Nat):Xm ns 12 ls=(Xy ns (fun x=>x == 18) (ls.drop (XE ns ls)) && decide (1≤(XE ns ls:Int)) && decide ((ls.length:Int) - 1≤8) && Z6 ns (ls.drop (XE ns ls))):=by unfold Xm;rfl
theorem Tr.firsts_at (ns:List Tr.Nd) (ls:List Nat) (j:Nat) (h:j < ls.length):XE ns (ls.drop j)=if Y7 ns ls[j]=true then 1+XE ns (ls.drop (j+1)) else 0:=by
 rw [List.drop_eq_getElem_cons h];rfl
theorem Tr.drop_last (ls:List Nat) (j:Nat) (h:j+1 < ls.length):ls.dropLast[j]'(by simp;omega)=ls[j]:=by simp
set_option maxRecDepth 100000 in
set_option maxHeartbeats 4000000 in
theorem kidsOk_fn (kind:Int) (ns:List Tr.Nd) (ls:List Nat) (tg tc g c:Nat) (w:World) (hl:ls.length≤1048576) (ht:NodesAt w tg ns) (hi:IntsAt w g 0 ls) (hin:∀ x∈ls,x < ns.length) (hkind:kind=15∨kind=20) :
  Calls Tryz.prog 54 #[.agg #[.slice (some ⟨tg,0,none⟩) ns.length tc],.int .i64 kind,.slice (some ⟨g,0,none⟩) ls.length c] w fun e w'=>e = .returned (.bool (Xm ns kind ls))∧Below w.heap.size w w':=by
 have r1:Below w.heap.size w (w.alloc (.cells #[.slice (some ⟨tg,0,none⟩) ns.length tc] 25)):=bA _
 have HT:=X1 ht
 have HI:=X1 hi
 have d:=X1 hin
 have HK:=X1 hkind
 have hel:=Zu ns ls
 clear ht hi hin hkind
 go_enter Tryz.func54,Tryz.ntmps54
 go_wp2
 go_loopw [8,10] (fun s t wr=>∃ (j es:Nat),j≤ls.length∧t = .int .i64 j∧s = .int .i64 es∧es+XL ns (ls.drop j)=XL ns ls∧Below w.heap.size w wr∧w.heap.size < wr.heap.size∧wr.cell? ⟨w.heap.size,0,none⟩=some (.slice (some ⟨tg,0,none⟩) ns.length tc)) (fun _ t _=>ls.length - (intOf t).toNat)
 case atStart=>exact ⟨0,0,Nat.zero_le _,rfl,rfl,by simp,r1,by simp,by simp⟩
 case round =>
  obtain ⟨j,es,hj,rfl,rfl,he,hB,a,b⟩:=hrel
  have HE:=X1 he
  clear he
  by_cases hlt:j < ls.length
  ·have hI:=HI.o.2 j hlt
   rw [Nat.zero_add] at hI
   have hx:ls[j] < ns.length:=d.o _ (List.getElem_mem _)
   obtain ⟨hN,_⟩:=HT.o.2 ls[j] hx
   have HS:=X1 (K6 ns ls j hlt)
   have HQ:=X1 (show Y7 ns ls[j]=Xn ns[ls[j]].kind 1 16 by unfold Y7;rw [XJ hx])
   have a0:=(hB.cell (p:=⟨g,j,none⟩) HI.o.1).trans hI
   have a1:=(hB.cell (p:=⟨tg,ls[j]*5,none⟩) HT.o.1).trans hN
   generalize ns[ls[j]].kind=kj at *
   generalize ls[j]=xj at *
   clear hI hN
   have hes:es≤ls.length:=by have:=HE.o;omega
   cases hq:Xn kj 1 16
   all_goals
    go_wp2
    go_quiet ((go_at_call 80;exact Calls.quiet_of_same (Jk _ _)))
    rw [hq]
    go_wp2
    go_roundw
    case rel =>
     have e1:=HE.o
     rw [HS.o,HQ.o,hq] at e1
     first | rw [if_pos rfl] at e1 | rw [if_neg (by decide)] at e1
     first
     | exact ⟨j+1,es+1,by omega,by go_num,by go_num,by omega,below_drewN hB _,a,b⟩
     | exact ⟨j+1,es,by omega,by go_num,rfl,by omega,below_drewN hB _,a,b⟩
    case measure=>simp [intOf];omega
  ·have hes:es=XL ns ls:=by have e1:=HE.o;rw [List.drop_of_length_le (by omega)] at e1;simpa [XL] using e1
   subst hes
   obtain rfl:j=ls.length:=by omega
   clear HE hj
   have HD:Hid (Xm ns kind ls=JX ns ls):=X1 (by rcases HK.o with rfl | rfl;exact Tr.kidsOk_15 ns ls;exact Tr.kidsOk_20 ns ls)
   have h15:kind=15∨kind=20:=HK.o
   rcases h15 with rfl | rfl
   all_goals
    go_wp2
    go_loopw [13] (fun t wr=>∃ j:Nat,j≤ls.length∧t = .int .i64 j∧Xy ns (fun x=>x == 19) ls.dropLast=Xy ns (fun x=>x == 19) (ls.dropLast.drop j)∧Below w.heap.size w wr∧w.heap.size < wr.heap.size∧wr.cell? ⟨w.heap.size,0,none⟩=some (.slice (some ⟨tg,0,none⟩) ns.length tc)) (fun t _=>ls.length - (intOf t).toNat)
    case atStart=>exact ⟨0,Nat.zero_le _,rfl,by rw [List.drop_zero],hB,a,b⟩
    case round =>
     obtain ⟨j,hj,rfl,he,hB,a,b⟩:=hrel
     have HE:=X1 he
     clear he
     by_cases hlt:j+1 < ls.length
     ·have hI:=HI.o.2 j (by omega)
      rw [Nat.zero_add] at hI
      have hx:ls[j] < ns.length:=d.o _ (List.getElem_mem _)
      obtain ⟨hN,_⟩:=HT.o.2 ls[j] hx
      have HS:=X1 (Kv ns (fun x=>x == 19) ls.dropLast j (by simp;omega))
      have HDL:=X1 (Tr.drop_last ls j hlt)
      have HQ:=X1 (XJ hx)
      have a0:=(hB.cell (p:=⟨g,j,none⟩) HI.o.1).trans hI
      have a1:=(hB.cell (p:=⟨tg,ls[j]*5,none⟩) HT.o.1).trans hN
      generalize ns[ls[j]].kind=kj at *
      generalize ls[j]=xj at *
      clear hI hN
      cases hq:(kj != 19)
      all_goals
       go_wp2
       go_quiet (fail)
       try rw [hq]
       go_wp2
       first
       | (go_ret
          refine ⟨X8 ?_,below_drewN hB _⟩
          rw [HD.o,JX,HE.o,HS.o,HDL.o,HQ.o]
          simp at hq
          simp [hq]
          done)
       | (go_roundw
          case rel =>
           refine ⟨j+1,by omega,by go_num,?_,below_drewN hB _,a,b⟩
           rw [HE.o,HS.o,HDL.o,HQ.o]
           simp at hq
           simp [hq]
           done
          case measure=>simp [intOf];omega)
     ·have HE2:=X1 (show Xy ns (fun x=>x == 19) ls.dropLast=true by rw [HE.o,List.drop_of_length_le (by simp;omega)];rfl)
      clear HE
      by_cases h0:ls.length=0
      ·go_wp2
       go_quiet (fail)
       go_wp2
       go_ret
       refine ⟨X8 ?_,below_drewN hB _⟩
       have:ls=[]:=List.eq_nil_of_length_eq_zero h0
       rw [HD.o,this];rfl
      ·have hI:=HI.o.2 (ls.length - 1) (by omega)
       rw [Nat.zero_add] at hI
       have hx:ls[ls.length - 1] < ns.length:=d.o _ (List.getElem_mem _)
       obtain ⟨hN,_⟩:=HT.o.2 ls[ls.length - 1] hx
       have HL:=X1 (show ls.getLast?=some (ls[ls.length - 1]'(by omega)) by rw [List.getLast?_eq_getElem?];simp)
       have HQ:=X1 (show Y7 ns (ls[ls.length - 1]'(by omega))=Xn ns[ls[ls.length - 1]].kind 1 16 by unfold Y7;rw [XJ hx])
       have a0:=(hB.cell (p:=⟨g,ls.length - 1,none⟩) HI.o.1).trans hI
       have a1:=(hB.cell (p:=⟨tg,ls[ls.length - 1]*5,none⟩) HT.o.1).trans hN
       generalize ns[ls[ls.length - 1]].kind=kj at *
       generalize ls[ls.length - 1]'(by omega)=xj at *
       clear hI hN
       obtain ⟨m,hm⟩:∃ m,ls.length=m+1:=⟨ls.length - 1,by omega⟩
       rw [hm,Nat.add_sub_cancel] at a0
       have hm1:(1:Int)≤(m:Int)+1:=by omega
       cases hq:Xn kj 1 16
       all_goals by_cases h8:(m:Int)≤8
       all_goals
        have hE:=fun w=>Jk kj w
        simp only [hq] at hE
        have HEE:=X1 hE
        clear hE
        go_wp2
        go_quiet ((go_at_call 80;exact Calls.quiet_of_same (HEE.o _)))
        go_wp2
        go_ret
        refine ⟨X8 ?_,below_drewN hB _⟩
        rw [HD.o,JX,HE2.o,HL.o,Option.map_some,HQ.o,hq,hm]
        simp
        try omega
def KW (w:World) (v:Value):Type:={x:World // Below w.heap.size w x∧w.heap.size < x.heap.size∧x.cell? ⟨w.heap.size,0,none⟩=some v}
def KW.w {w:World} {v:Value} (q:KW w v):World:=q.1
theorem KW.box {w:World} {v:Value} (q:KW w v):q.w.cell? ⟨w.heap.size,0,none⟩=some v:=q.2.2.2
theorem KW.below {w:World} {v:Value} (q:KW w v):Below w.heap.size w q.w:=q.2.1
theorem Yq {P:Program} {α:Type} (c:α→World) {id:Nat} {Q:Exit→Act→World→Prop} {a:Act} {w:World} {l:List Oper} (hm:P.follows .mixedOrders=true) (hB:Region.lexB .any l.toArray=true) (h0:∃ q,w.drewN 1=c q)
  (h:wpQuiet P l.toArray (fun w'=>∃ q,w'=c q) (fun a'=>∀ w',(∃ q,w'=c q)→Q .normal a' w') l a):(Code.region id l.toArray true).wp P Q a w :=
 wp_region_quiet (C:=fun w'=>∃ q,w'=c q) hm hB h0 (by simpa using h)
theorem kw_call {P:Program} {f:FuncId} {args:Array Value} {r v:Value} {w:World} (h:∀ w1,Below w.heap.size w w1→Calls P f args w1 fun e w'=>e = .returned r∧Below w1.heap.size w1 w') (q:KW w v) :
  Calls P f args q.w fun e w''=>e = .returned r∧∃ q':KW w v,w''=q'.w :=
 (h q.w q.2.1).mono fun _ w2 hw=>⟨hw.1,⟨⟨w2,q.2.1.trans (hw.2.mono q.2.1.size),Nat.lt_of_lt_of_le q.2.2.1 hw.2.size,(hw.2.cell (p:=⟨w.heap.size,0,none⟩) q.2.2.1).trans q.2.2.2⟩,rfl⟩⟩
set_option maxRecDepth 100000 in
set_option maxHeartbeats 4000000 in
theorem kidsOk_12 (kind:Int) (ns:List Tr.Nd) (ls:List Nat) (tg tc g c:Nat) (w:World) (hl:ls.length≤1048576) (ht:NodesAt w tg ns) (hi:IntsAt w g 0 ls) (hin:∀ x∈ls,x < ns.length) (hkind:kind=12) (hcap:ls.length≤c) :
  Calls Tryz.prog 54 #[.agg #[.slice (some ⟨tg,0,none⟩) ns.length tc],.int .i64 kind,.slice (some ⟨g,0,none⟩) ls.length c] w fun e w'=>e = .returned (.bool (Xm ns kind ls))∧Below w.heap.size w w':=by
 have r1:Below w.heap.size w (w.alloc (.cells #[.slice (some ⟨tg,0,none⟩) ns.length tc] 25)):=bA _
 have HT:=X1 ht
 have HI:=X1 hi
 have m:=X1 hin
 have HK:=X1 hkind
 have hel:=Zu ns ls
 clear ht hi hin hkind
 go_enter Tryz.func54,Tryz.ntmps54
 go_wp2
 go_loopw [8,10] (fun s t wr=>∃ (j es:Nat),j≤ls.length∧t = .int .i64 j∧s = .int .i64 es∧es+XL ns (ls.drop j)=XL ns ls∧Below w.heap.size w wr∧w.heap.size < wr.heap.size∧wr.cell? ⟨w.heap.size,0,none⟩=some (.slice (some ⟨tg,0,none⟩) ns.length tc)) (fun _ t _=>ls.length - (intOf t).toNat)
 case atStart=>exact ⟨0,0,Nat.zero_le _,rfl,rfl,by simp,r1,by simp,by simp⟩
 case round =>
  obtain ⟨j,es,hj,rfl,rfl,he,hB,a,b⟩:=hrel
  have HE:=X1 he
  clear he
  by_cases hlt:j < ls.length
  ·have hI:=HI.o.2 j hlt
   rw [Nat.zero_add] at hI
   have hx:ls[j] < ns.length:=m.o _ (List.getElem_mem _)
   obtain ⟨hN,_⟩:=HT.o.2 ls[j] hx
   have HS:=X1 (K6 ns ls j hlt)
   have HQ:=X1 (show Y7 ns ls[j]=Xn ns[ls[j]].kind 1 16 by unfold Y7;rw [XJ hx])
   have a0:=(hB.cell (p:=⟨g,j,none⟩) HI.o.1).trans hI
   have a1:=(hB.cell (p:=⟨tg,ls[j]*5,none⟩) HT.o.1).trans hN
   generalize ns[ls[j]].kind=kj at *
   generalize ls[j]=xj at *
   clear hI hN
   have hes:es≤ls.length:=by have:=HE.o;omega
   cases hq:Xn kj 1 16
   all_goals
    go_wp2
    go_quiet ((go_at_call 80;exact Calls.quiet_of_same (Jk _ _)))
    rw [hq]
    go_wp2
    go_roundw
    case rel =>
     have e1:=HE.o
     rw [HS.o,HQ.o,hq] at e1
     first | rw [if_pos rfl] at e1 | rw [if_neg (by decide)] at e1
     first
     | exact ⟨j+1,es+1,by omega,by go_num,by go_num,by omega,below_drewN hB _,a,b⟩
     | exact ⟨j+1,es,by omega,by go_num,rfl,by omega,below_drewN hB _,a,b⟩
    case measure=>simp [intOf];omega
  ·have hes:es=XL ns ls:=by have e1:=HE.o;rw [List.drop_of_length_le (by omega)] at e1;simpa [XL] using e1
   subst hes
   obtain rfl:j=ls.length:=by omega
   clear HE hj
   obtain rfl:=HK.o
   have HD:=X1 (Tr.kidsOk_12 ns ls)
   go_wp2
   go_loopw [9] (fun t wr=>∃ f:Nat,f≤ls.length∧t = .int .i64 f∧f+XE ns (ls.drop f)=XE ns ls∧Below w.heap.size w wr∧w.heap.size < wr.heap.size∧wr.cell? ⟨w.heap.size,0,none⟩=some (.slice (some ⟨tg,0,none⟩) ns.length tc)) (fun t _=>ls.length - (intOf t).toNat)
   case atStart=>exact ⟨0,Nat.zero_le _,rfl,by simp,hB,a,b⟩
   case round =>
    obtain ⟨f,hf,rfl,he,hB,a,b⟩:=hrel
    have HE:=X1 he
    clear he
    by_cases hlt:f < ls.length
    ·have hI:=HI.o.2 f hlt
     rw [Nat.zero_add] at hI
     have hx:ls[f] < ns.length:=m.o _ (List.getElem_mem _)
     obtain ⟨hN,_⟩:=HT.o.2 ls[f] hx
     have HS:=X1 (Tr.firsts_at ns ls f hlt)
     have HQ:=X1 (show Y7 ns ls[f]=Xn ns[ls[f]].kind 1 16 by unfold Y7;rw [XJ hx])
     have a0:=(hB.cell (p:=⟨g,f,none⟩) HI.o.1).trans hI
     have a1:=(hB.cell (p:=⟨tg,ls[f]*5,none⟩) HT.o.1).trans hN
     generalize ns[ls[f]].kind=kf at *
     generalize ls[f]=xf at *
     clear hI hN
     cases hq:Xn kf 1 16
     ·have hE:=fun w=>Jk kf w
      simp only [hq] at hE
      have y:=X1 hE
      clear hE
      have HF:Hid (XE ns ls=f):=X1 (by have e1:=HE.o;rw [HS.o,HQ.o,hq,if_neg (by decide)] at e1;omega)
      go_wp2
      go_quiet ((go_at_call 80;exact Calls.quiet_of_same (y.o _)))
      go_wp2
      clear a0 a1 HS HQ y HE
      go_loopw [12] (fun t wr2=>∃ j:Nat,f≤j∧j≤ls.length∧t = .int .i64 j∧Xy ns (fun x=>x == 18) (ls.drop f)=Xy ns (fun x=>x == 18) (ls.drop j)∧Below w.heap.size w wr2∧w.heap.size < wr2.heap.size∧wr2.cell? ⟨w.heap.size,0,none⟩=some (.slice (some ⟨tg,0,none⟩) ns.length tc)) (fun t _=>ls.length - (intOf t).toNat)
      case atStart=>exact ⟨f,Nat.le_refl _,hf,rfl,rfl,below_drewN hB _,a,b⟩
      case round =>
       obtain ⟨j,hfj,hj,rfl,n,hB,a,b⟩:=hrel
       have i:=X1 n
       clear n
       by_cases hjl:j < ls.length
       ·have hI:=HI.o.2 j hjl
        rw [Nat.zero_add] at hI
        have hx:ls[j] < ns.length:=m.o _ (List.getElem_mem _)
        obtain ⟨hN,_⟩:=HT.o.2 ls[j] hx
        have HS:=X1 (Kv ns (fun x=>x == 18) ls j hjl)
        have HQ:=X1 (XJ hx)
        have a0:=(hB.cell (p:=⟨g,j,none⟩) HI.o.1).trans hI
        have a1:=(hB.cell (p:=⟨tg,ls[j]*5,none⟩) HT.o.1).trans hN
        generalize ns[ls[j]].kind=kj at *
        generalize ls[j]=xj at *
        clear hI hN
        cases hq:(kj != 18)
        all_goals
         go_wp2
         go_quiet (fail)
         go_wp2
         first
         | (go_ret
            refine ⟨X8 ?_,below_drewN hB _⟩
            rw [HD.o,HF.o,i.o,HS.o,HQ.o]
            simp at hq
            simp [hq]
            done)
         | (go_roundw
            case rel =>
             refine ⟨j+1,by omega,by omega,by go_num,?_,below_drewN hB _,a,b⟩
             rw [i.o,HS.o,HQ.o]
             simp at hq
             simp [hq]
             done
            case measure=>simp [intOf];omega)
       ·have z:=X1 (show Xy ns (fun x=>x == 18) (ls.drop f)=true by rw [i.o,List.drop_of_length_le (by omega)];rfl)
        clear i
        by_cases h1:(1:Int)≤f
        ·by_cases h8:(ls.length:Int) - 1≤8
         ·by_cases hcf:c=f
          ·exfalso;omega
          ·have d:=fun w1 (hb:Below w.heap.size w w1)=>Je ns (ls.drop f) tg tc g f (c - f) w1 (by simp;omega) (HT.o.below hb) (by have:=(HI.o.below hb).drop f;rwa [Nat.zero_add] at this) (fun x h=>m.o x (List.mem_of_mem_drop h))
           rw [List.length_drop] at d
           have u:=X1 d
           clear d
           go_wp2
           have k:(1:Int)≤(f:Int):=by omega
           have l:(ls.length:Int) - 1≤8:=by omega
           refine Yq (KW.w (w:=w) (v:= .slice (some ⟨tg,0,none⟩) ns.length tc)) (by kernel_rfl) (by kernel_rfl) ⟨⟨_,below_drewN hB _,a,b⟩,rfl⟩ ?_
           have hbx:=fun q:KW w (.slice (some ⟨tg,0,none⟩) ns.length tc)=>q.box
           haveI hne:Nonempty (KW w (.slice (some ⟨tg,0,none⟩) ns.length tc)):=⟨⟨_,hB,a,b⟩⟩
           repeat (go_big_quiet_step ((go_at_call 81;exact kw_call u.o _)))
           refine wpQuiet_nil ?_
           rintro _ ⟨q,rfl⟩
           have r:=q.below
           go_wp2
           go_ret
           refine ⟨X8 ?_,r⟩
           rw [HD.o,HF.o,z.o]
           simp [k,l]
         ·go_wp2
          have k:(1:Int)≤(f:Int):=by omega
          have l:¬ ((ls.length:Int) - 1≤8):=by omega
          go_quiet (fail)
          go_wp2
          go_ret
          refine ⟨X8 ?_,below_drewN hB _⟩
          rw [HD.o,HF.o,decide_eq_false (p:=(ls.length:Int) - 1≤8) (by omega)];simp
        ·go_wp2
         have k:¬ ((1:Int)≤(f:Int)):=by omega
         go_quiet (fail)
         go_wp2
         go_ret
         refine ⟨X8 ?_,below_drewN hB _⟩
         rw [HD.o,HF.o,decide_eq_false (p:=(1:Int)≤f) (by omega)];simp
     ·have hE:=fun w=>Jk kf w
      simp only [hq] at hE
      have y:=X1 hE
      clear hE
      go_wp2
      go_quiet ((go_at_call 80;exact Calls.quiet_of_same (y.o _)))
      go_wp2
      go_roundw
      case rel =>
       refine ⟨f+1,by omega,by go_num,?_,below_drewN hB _,a,b⟩
       have e1:=HE.o
       rw [HS.o,HQ.o,hq,if_pos rfl] at e1
       omega
      case measure=>simp [intOf];omega
    ·have HF:Hid (XE ns ls=f):=X1 (by have e1:=HE.o;rw [List.drop_of_length_le (by omega)] at e1;simpa [XE] using e1.symm)
     go_wp2
     go_quiet (fail)
     go_wp2
     clear HE
     go_loopw [12] (fun t wr2=>∃ j:Nat,f≤j∧j≤ls.length∧t = .int .i64 j∧Xy ns (fun x=>x == 18) (ls.drop f)=Xy ns (fun x=>x == 18) (ls.drop j)∧Below w.heap.size w wr2∧w.heap.size < wr2.heap.size∧wr2.cell? ⟨w.heap.size,0,none⟩=some (.slice (some ⟨tg,0,none⟩) ns.length tc)) (fun t _=>ls.length - (intOf t).toNat)
     case atStart=>exact ⟨f,Nat.le_refl _,hf,rfl,rfl,below_drewN hB _,a,b⟩
     case round =>
      obtain ⟨j,hfj,hj,rfl,n,hB,a,b⟩:=hrel
      have i:=X1 n
      clear n
      by_cases hjl:j < ls.length
      ·have hI:=HI.o.2 j hjl
       rw [Nat.zero_add] at hI
       have hx:ls[j] < ns.length:=m.o _ (List.getElem_mem _)
       obtain ⟨hN,_⟩:=HT.o.2 ls[j] hx
       have HS:=X1 (Kv ns (fun x=>x == 18) ls j hjl)
       have HQ:=X1 (XJ hx)
       have a0:=(hB.cell (p:=⟨g,j,none⟩) HI.o.1).trans hI
       have a1:=(hB.cell (p:=⟨tg,ls[j]*5,none⟩) HT.o.1).trans hN
       generalize ns[ls[j]].kind=kj at *
       generalize ls[j]=xj at *
       clear hI hN
       cases hq:(kj != 18)
       all_goals
        go_wp2
        go_quiet (fail)
        go_wp2
        first
        | (go_ret
           refine ⟨X8 ?_,below_drewN hB _⟩
           rw [HD.o,HF.o,i.o,HS.o,HQ.o]
           simp at hq
           simp [hq]
           done)
        | (go_roundw
           case rel =>
            refine ⟨j+1,by omega,by omega,by go_num,?_,below_drewN hB _,a,b⟩
            rw [i.o,HS.o,HQ.o]
            simp at hq
            simp [hq]
            done
           case measure=>simp [intOf];omega)
      ·have z:=X1 (show Xy ns (fun x=>x == 18) (ls.drop f)=true by rw [i.o,List.drop_of_length_le (by omega)];rfl)
       clear i
       by_cases h1:(1:Int)≤f
       ·by_cases h8:(ls.length:Int) - 1≤8
        ·by_cases hcf:c=f
         ·have hlf:ls.length=f:=by omega
          have hdl:ls.drop f=[]:=List.drop_of_length_le (by omega)
          have d:=fun w1 (hb:Below w.heap.size w w1)=>Je ns [] tg tc g 0 0 w1 (Nat.zero_le _) (HT.o.below hb) ⟨(HI.o.below hb).1,fun j h=>absurd h (Nat.not_lt_zero _)⟩ (fun x h=>by cases h)
          have u:=X1 d
          have HDL:=X1 hdl
          clear d hdl
          have h8f:(f:Int) - 1≤8:=by omega
          go_wp2
          have k:(1:Int)≤(f:Int):=by omega
          have l:(ls.length:Int) - 1≤8:=by omega
          refine Yq (KW.w (w:=w) (v:= .slice (some ⟨tg,0,none⟩) ns.length tc)) (by kernel_rfl) (by kernel_rfl) ⟨⟨_,below_drewN hB _,a,b⟩,rfl⟩ ?_
          have hbx:=fun q:KW w (.slice (some ⟨tg,0,none⟩) ns.length tc)=>q.box
          haveI hne:Nonempty (KW w (.slice (some ⟨tg,0,none⟩) ns.length tc)):=⟨⟨_,hB,a,b⟩⟩
          repeat (go_big_quiet_step ((go_at_call 81;exact kw_call u.o _)))
          refine wpQuiet_nil ?_
          rintro _ ⟨q,rfl⟩
          have r:=q.below
          go_wp2
          go_ret
          refine ⟨X8 ?_,r⟩
          rw [HD.o,HF.o,z.o,HDL.o,hlf]
          simp [k,h8f]
         ·have d:=fun w1 (hb:Below w.heap.size w w1)=>Je ns (ls.drop f) tg tc g f (c - f) w1 (by simp;omega) (HT.o.below hb) (by have:=(HI.o.below hb).drop f;rwa [Nat.zero_add] at this) (fun x h=>m.o x (List.mem_of_mem_drop h))
          rw [List.length_drop] at d
          have u:=X1 d
          clear d
          go_wp2
          have k:(1:Int)≤(f:Int):=by omega
          have l:(ls.length:Int) - 1≤8:=by omega
          refine Yq (KW.w (w:=w) (v:= .slice (some ⟨tg,0,none⟩) ns.length tc)) (by kernel_rfl) (by kernel_rfl) ⟨⟨_,below_drewN hB _,a,b⟩,rfl⟩ ?_
          have hbx:=fun q:KW w (.slice (some ⟨tg,0,none⟩) ns.length tc)=>q.box
          haveI hne:Nonempty (KW w (.slice (some ⟨tg,0,none⟩) ns.length tc)):=⟨⟨_,hB,a,b⟩⟩
          repeat (go_big_quiet_step ((go_at_call 81;exact kw_call u.o _)))
          refine wpQuiet_nil ?_
          rintro _ ⟨q,rfl⟩
          have r:=q.below
          go_wp2
          go_ret
          refine ⟨X8 ?_,r⟩
          rw [HD.o,HF.o,z.o]
          simp [k,l]
        ·go_wp2
         have k:(1:Int)≤(f:Int):=by omega
         have l:¬ ((ls.length:Int) - 1≤8):=by omega
         go_quiet (fail)
         go_wp2
         go_ret
         refine ⟨X8 ?_,below_drewN hB _⟩
         rw [HD.o,HF.o,decide_eq_false (p:=(ls.length:Int) - 1≤8) (by omega)];simp
       ·go_wp2
        have k:¬ ((1:Int)≤(f:Int)):=by omega
        go_quiet (fail)
        go_wp2
        go_ret
        refine ⟨X8 ?_,below_drewN hB _⟩
        rw [HD.o,HF.o,decide_eq_false (p:=(1:Int)≤f) (by omega)];simp
end Go.Proofs.YtimbaebigjjkaaaGreatDoor
