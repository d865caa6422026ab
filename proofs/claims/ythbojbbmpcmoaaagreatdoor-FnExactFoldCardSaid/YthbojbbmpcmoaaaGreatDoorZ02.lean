/- Vc, Vd, Vf. -/
import Derived.Test.YthbojbbmpcmoaaaGreatDoorZ01
namespace Go.Proofs.YthbojbbmpcmoaaaGreatDoor
open Go.RowKit
def Tr.apart (ns:List Tr.Nd) (ls:List Nat):Bool:=decide (∀ i (h:i < ls.length) k (h':k < i),(ns[ls[k]]?.map (·.text))≠(ns[ls[i]]?.map (·.text)))
theorem Tr.apart_true {ns:List Tr.Nd} {ls:List Nat} (h:∀ i (h:i < ls.length) k (h':k < i),(ns[ls[k]]?.map (·.text))≠(ns[ls[i]]?.map (·.text))):Tr.apart ns ls=true:=by
 unfold Tr.apart;exact decide_eq_true h
theorem Tr.apart_false {ns:List Tr.Nd} {ls:List Nat} {i k:Nat} (hi:i < ls.length) (hk:k < i) (h:(ns[ls[k]]?.map (·.text))=(ns[ls[i]]?.map (·.text))):Tr.apart ns ls=false:=by
 unfold Tr.apart;exact decide_eq_false fun q=>q i hi k hk h
set_option maxRecDepth 100000 in
set_option maxHeartbeats 1000000 in
theorem apart_any (ns:List Tr.Nd) (ls:List Nat) (tg tc g o c:Nat) (w:World) (hl:ls.length≤1048576) (ht:NodesAt w tg ns) (hi:IntsAt w g o ls) (hin:∀ x∈ls,x < ns.length) :
  Calls Tryz.prog 180 #[.agg #[.slice (some ⟨tg,0,none⟩) ns.length tc],.slice (some ⟨g,o,none⟩) ls.length c] w fun e w'=>e = .returned (.bool (Tr.apart ns ls))∧Below w.heap.size w w':=by
 have r1:Below w.heap.size w (w.alloc (.cells #[.slice (some ⟨tg,0,none⟩) ns.length tc] 28)):=bA _
 have HT:=hide ht
 have HI:=hide hi
 have HIN:=hide hin
 clear ht hi hin
 go_enter Tryz.func180,Tryz.ntmps180
 go_wp2
 go_loopw [5] (fun t wr=>∃ i:Nat,i≤ls.length∧t = .int .i64 i∧Below w.heap.size w wr∧w.heap.size < wr.heap.size∧wr.cell? ⟨w.heap.size,0,none⟩=some (.slice (some ⟨tg,0,none⟩) ns.length tc)∧(∀ j (h:j < ls.length) k (h':k < j),j < i→(ns[ls[k]]?.map (·.text))≠(ns[ls[j]]?.map (·.text)))) (fun t _=>ls.length - (intOf t).toNat)
 case atStart=>exact ⟨0,Nat.zero_le _,rfl,r1,by simp,by simp,fun j _ k _ h=>by omega⟩
 case round =>
  obtain ⟨i,hil,rfl,hB,hlt0,hc0,he⟩:=hrel
  have HE:=hide he
  clear he
  by_cases hlt:i < ls.length
  ·have hI:=HI.out.2 i hlt
   have hx:ls[i] < ns.length:=HIN.out _ (List.getElem_mem _)
   obtain ⟨_,_,_,hN,_⟩:=HT.out.2 ls[i] hx
   have hxi:=hide (show ns[ls[i]]?.map (·.text)=some ns[ls[i]].text by simp [hx])
   go_wp2
   go_loopw [6] (fun t wr=>∃ k:Nat,k≤i∧t = .int .i64 k∧Below w.heap.size w wr∧w.heap.size < wr.heap.size∧wr.cell? ⟨w.heap.size,0,none⟩=some (.slice (some ⟨tg,0,none⟩) ns.length tc)∧(∀ j (h:j < ls.length),j < k→(ns[ls[j]]?.map (·.text))≠(ns[ls[i]]?.map (·.text)))) (fun t _=>i - (intOf t).toNat)
   case atStart=>exact ⟨0,Nat.zero_le _,rfl,hB,hlt0,hc0,fun j _ h=>by omega⟩
   case round =>
    obtain ⟨k,hk,rfl,hB2,hlt2,hc2,he2⟩:=hrel
    have HE2:=hide he2
    clear he2
    by_cases hki:k < i
    ·have hkl:k < ls.length:=by omega
     have hK:=HI.out.2 k hkl
     have hy:ls[k] < ns.length:=HIN.out _ (List.getElem_mem _)
     obtain ⟨_,_,_,hM,_⟩:=HT.out.2 ls[k] hy
     have hyi:=hide (show ns[ls[k]]?.map (·.text)=some ns[ls[k]].text by simp [hy])
     have a0:=(hB2.cell (p:=⟨g,o+i,none⟩) HI.out.1).trans hI
     have a1:=(hB2.cell (p:=⟨g,o+k,none⟩) HI.out.1).trans hK
     have a2:=(hB2.cell (p:=⟨tg,ls[i]*5+3,none⟩) HT.out.1).trans hN
     have a3:=(hB2.cell (p:=⟨tg,ls[k]*5+3,none⟩) HT.out.1).trans hM
     have HXX:=hide (show (ns[ls[k]]?.map (·.text)=ns[ls[i]]?.map (·.text))↔(ns[ls[k]].text=ns[ls[i]].text) by rw [hxi.out,hyi.out];simp)
     generalize ns[ls[k]].text=tk at *
     generalize ns[ls[i]].text=ti at *
     generalize hlk:ls[k]=xk at *
     generalize hli:ls[i]=xi at *
     clear hxi hyi hI hK hN hM
     have HLK:=hide hlk
     have HLI:=hide hli
     clear hlk hli
     cases hq:(tk.toList == ti.toList)
     ·go_wp2
      go_quiet (fail)
      go_wp2
      go_roundw
      case rel =>
       refine ⟨k+1,by omega,by go_num,below_drewN hB2 _,hlt2,hc2,?_⟩
       intro j hj hjk
       by_cases e:j=k
       ·subst e
        rw [HLK.out]
        intro h
        have:=HXX.out.1 h
        rw [this] at hq;simp at hq
       ·exact HE2.out j hj (by omega)
      case measure=>simp [intOf];omega
     ·go_wp2
      go_quiet (fail)
      go_wp2
      go_ret
      refine ⟨ret_bool ?_,below_drewN hB2 _⟩
      refine (Tr.apart_false hlt hki ?_).symm
      rw [HLK.out,HLI.out]
      refine HXX.out.2 ?_
      have e2:tk.toList=ti.toList:=by simpa using hq
      rw [Lib.toList_data,Lib.toList_data] at e2
      exact ByteArray.ext (Array.toList_inj.1 e2)
    ·go_wp2
     go_roundw
     case rel =>
      refine ⟨i+1,by omega,by go_num,hB2,hlt2,hc2,?_⟩
      intro j hj k' hk' hji
      by_cases e:j=i
      ·subst e;exact HE2.out k' (by omega) (by omega)
      ·exact HE.out j hj k' hk' (by omega)
     case measure=>simp [intOf];omega
  ·go_wp2
   go_ret
   refine ⟨ret_bool ?_,hB⟩
   exact (Tr.apart_true fun j hj k hk=>HE.out j hj k hk (by omega)).symm
def Tr.kindOf (ns:List Tr.Nd) (x:Nat):Int:=match ns[x]? with
 | some d=>d.kind
 | none=>0
def Tr.isE (ns:List Tr.Nd) (x:Nat):Bool:=Tr.inr (Tr.kindOf ns x) 1 16
def Tr.esOf (ns:List Tr.Nd):List Nat→Nat
 | []=>0
 | x :: r=>(if Tr.isE ns x=true then 1 else 0)+Tr.esOf ns r
def Tr.firsts (ns:List Tr.Nd):List Nat→Nat
 | []=>0
 | x :: r=>if Tr.isE ns x=true then 1+Tr.firsts ns r else 0
def Tr.allK (ns:List Tr.Nd) (p:Int→Bool):List Nat→Bool
 | []=>true
 | x :: r=>p (Tr.kindOf ns x) && Tr.allK ns p r
theorem Tr.kindOf_at {ns:List Tr.Nd} {x:Nat} (h:x < ns.length):Tr.kindOf ns x=ns[x].kind:=by simp [Tr.kindOf,h]
theorem Tr.esOf_at (ns:List Tr.Nd) (ls:List Nat) (j:Nat) (h:j < ls.length):Tr.esOf ns (ls.drop j)=(if Tr.isE ns ls[j]=true then 1 else 0)+Tr.esOf ns (ls.drop (j+1)):=by
 rw [List.drop_eq_getElem_cons h];rfl
theorem Tr.allK_at (ns:List Tr.Nd) (p:Int→Bool) (ls:List Nat) (j:Nat) (h:j < ls.length):Tr.allK ns p (ls.drop j)=(p (Tr.kindOf ns ls[j]) && Tr.allK ns p (ls.drop (j+1))):=by
 rw [List.drop_eq_getElem_cons h];rfl
theorem Tr.esOf_le (ns:List Tr.Nd) (ls:List Nat):Tr.esOf ns ls≤ls.length:=by
 induction ls with
 | nil=>exact Nat.le_refl _
 | cons x r ih=>simp only [Tr.esOf,List.length_cons];split <;> omega
def Tr.kidsOk (ns:List Tr.Nd) (k:Int) (ls:List Nat):Bool :=
 if k=1∨k=2∨k=3∨k=4∨k=5 then decide ((ls.length:Int)=0)
 else if k=6∨k=11∨k=17∨k=18∨k=21∨k=22 then decide ((ls.length:Int)=1∧(Tr.esOf ns ls:Int)=1)
 else if k=7∨k=10∨k=14 then decide ((ls.length:Int)=2∧(Tr.esOf ns ls:Int)=2)
 else if k=13 then decide ((ls.length:Int)=3∧(Tr.esOf ns ls:Int)=3)
 else if k=16 then decide ((2≤(ls.length:Int)∧(ls.length:Int)≤3)∧(Tr.esOf ns ls:Int)=ls.length)
 else if k=19 then decide ((ls.length:Int)≤1∧(Tr.esOf ns ls:Int)=ls.length)
 else if k=8 then decide ((Tr.esOf ns ls:Int)=ls.length∧(ls.length:Int)≤200)
 else if k=9 then Tr.allK ns (fun x=>x == 17) ls && decide ((ls.length:Int)≤200) && Tr.apart ns ls
 else if k=12 then Tr.allK ns (fun x=>x == 18) (ls.drop (Tr.firsts ns ls)) && decide (1≤(Tr.firsts ns ls:Int)) && decide ((ls.length:Int) - 1≤8) && Tr.apart ns (ls.drop (Tr.firsts ns ls))
 else if k=15∨k=20 then Tr.allK ns (fun x=>x == 19) ls.dropLast && (ls.getLast?.map (Tr.isE ns) == some true) && decide ((ls.length:Int) - 1≤8)
 else if k=23 then Tr.allK ns (fun x=>x == 5) ls && Tr.inr ls.length 1 200
 else if k=24 then Tr.allK ns (fun x=>Tr.inr x 20 23) ls && decide ((ls.length:Int)≤200)
 else false
set_option maxRecDepth 100000 in
set_option maxHeartbeats 4000000 in
theorem kidsOk_simple (kind:Int) (ns:List Tr.Nd) (ls:List Nat) (tg tc g c:Nat) (w:World) (hl:ls.length≤1048576) (ht:NodesAt w tg ns) (hi:IntsAt w g 0 ls) (hin:∀ x∈ls,x < ns.length) (hkind:kind=1∨kind=2∨kind=3∨kind=4∨kind=5∨kind=6∨kind=11∨kind=17∨kind=18∨kind=21∨kind=22∨kind=7∨kind=10∨kind=14∨kind=13∨kind=16∨kind=19∨kind=8) :
  Calls Tryz.prog 130 #[.agg #[.slice (some ⟨tg,0,none⟩) ns.length tc],.int .i64 kind,.slice (some ⟨g,0,none⟩) ls.length c] w fun e w'=>e = .returned (.bool (Tr.kidsOk ns kind ls))∧Below w.heap.size w w':=by
 have r1:Below w.heap.size w (w.alloc (.cells #[.slice (some ⟨tg,0,none⟩) ns.length tc] 28)):=bA _
 have HT:=hide ht
 have HI:=hide hi
 have HIN:=hide hin
 have HK:=hide hkind
 have hel:=Tr.esOf_le ns ls
 clear ht hi hin hkind
 go_enter Tryz.func130,Tryz.ntmps130
 go_wp2
 go_loopw [8,10] (fun s t wr=>∃ (j es:Nat),j≤ls.length∧t = .int .i64 j∧s = .int .i64 es∧es+Tr.esOf ns (ls.drop j)=Tr.esOf ns ls∧Below w.heap.size w wr∧w.heap.size < wr.heap.size∧wr.cell? ⟨w.heap.size,0,none⟩=some (.slice (some ⟨tg,0,none⟩) ns.length tc)) (fun _ t _=>ls.length - (intOf t).toNat)
 case atStart=>exact ⟨0,0,Nat.zero_le _,rfl,rfl,by simp,r1,by simp,by simp⟩
 case round =>
  obtain ⟨j,es,hj,rfl,rfl,he,hB,hlt0,hc0⟩:=hrel
  have HE:=hide he
  clear he
  by_cases hlt:j < ls.length
  ·have hI:=HI.out.2 j hlt
   rw [Nat.zero_add] at hI
   have hx:ls[j] < ns.length:=HIN.out _ (List.getElem_mem _)
   obtain ⟨hN,_⟩:=HT.out.2 ls[j] hx
   have HS:=hide (Tr.esOf_at ns ls j hlt)
   have HQ:=hide (show Tr.isE ns ls[j]=Tr.inr ns[ls[j]].kind 1 16 by unfold Tr.isE;rw [Tr.kindOf_at hx])
   have a0:=(hB.cell (p:=⟨g,j,none⟩) HI.out.1).trans hI
   have a1:=(hB.cell (p:=⟨tg,ls[j]*5,none⟩) HT.out.1).trans hN
   generalize ns[ls[j]].kind=kj at *
   generalize ls[j]=xj at *
   clear hI hN
   have hes:es≤ls.length:=by have:=HE.out;omega
   cases hq:Tr.inr kj 1 16
   all_goals
    go_wp2
    go_quiet ((go_at_call 179;exact Calls.quiet_of_same (e_any _ _)))
    rw [hq]
    go_wp2
    go_roundw
    case rel =>
     have e1:=HE.out
     rw [HS.out,HQ.out,hq] at e1
     first | rw [if_pos rfl] at e1 | rw [if_neg (by decide)] at e1
     first
     | exact ⟨j+1,es+1,by omega,by go_num,by go_num,by omega,below_drewN hB _,hlt0,hc0⟩
     | exact ⟨j+1,es,by omega,by go_num,rfl,by omega,below_drewN hB _,hlt0,hc0⟩
    case measure=>simp [intOf];omega
  ·have hes:es=Tr.esOf ns ls:=by have e1:=HE.out;rw [List.drop_of_length_le (by omega)] at e1;simpa [Tr.esOf] using e1
   subst hes
   obtain rfl:j=ls.length:=by omega
   clear HE hj
   rcases HK.out with rfl | rfl | rfl | rfl | rfl | rfl | rfl | rfl | rfl | rfl | rfl | rfl | rfl | rfl | rfl | rfl | rfl | rfl
   all_goals
    go_wp2_with (go_at_call 85;refine (in_any _ _ _ _).mono ?_;rintro e w' ⟨rfl,rfl⟩)
   all_goals
    go_ret
    refine ⟨ret_bool ?_,hB⟩
    clear HT HI HIN HK hB hc0 r1
    rw [Bool.eq_iff_iff]
    first
    | (simp [Tr.kidsOk];done)
    | (simp [Tr.kidsOk];omega)
    | (rename_i h;simp [Tr.inr] at h;simp [Tr.kidsOk];omega)
def Tr.fnOk (ns:List Tr.Nd) (ls:List Nat):Bool:=Tr.allK ns (fun x=>x == 19) ls.dropLast && (ls.getLast?.map (Tr.isE ns) == some true) && decide ((ls.length:Int) - 1≤8)
theorem Tr.kidsOk_15 (ns:List Tr.Nd) (ls:List Nat):Tr.kidsOk ns 15 ls=Tr.fnOk ns ls:=by unfold Tr.kidsOk;rfl
theorem Tr.kidsOk_20 (ns:List Tr.Nd) (ls:List Nat):Tr.kidsOk ns 20 ls=Tr.fnOk ns ls:=by unfold Tr.kidsOk;rfl
theorem Tr.kidsOk_12 (ns:List Tr.Nd) (ls:List Nat):Tr.kidsOk ns 12 ls=(Tr.allK ns (fun x=>x == 18) (ls.drop (Tr.firsts ns ls)) && decide (1≤(Tr.firsts ns ls:Int)) && decide ((ls.length:Int) - 1≤8) && Tr.apart ns (ls.drop (Tr.firsts ns ls))):=by unfold Tr.kidsOk;rfl
theorem Tr.firsts_at (ns:List Tr.Nd) (ls:List Nat) (j:Nat) (h:j < ls.length):Tr.firsts ns (ls.drop j)=if Tr.isE ns ls[j]=true then 1+Tr.firsts ns (ls.drop (j+1)) else 0:=by
 rw [List.drop_eq_getElem_cons h];rfl
theorem Tr.drop_last (ls:List Nat) (j:Nat) (h:j+1 < ls.length):ls.dropLast[j]'(by simp;omega)=ls[j]:=by simp
set_option maxRecDepth 100000 in
set_option maxHeartbeats 4000000 in
theorem kidsOk_fn (kind:Int) (ns:List Tr.Nd) (ls:List Nat) (tg tc g c:Nat) (w:World) (hl:ls.length≤1048576) (ht:NodesAt w tg ns) (hi:IntsAt w g 0 ls) (hin:∀ x∈ls,x < ns.length) (hkind:kind=15∨kind=20) :
  Calls Tryz.prog 130 #[.agg #[.slice (some ⟨tg,0,none⟩) ns.length tc],.int .i64 kind,.slice (some ⟨g,0,none⟩) ls.length c] w fun e w'=>e = .returned (.bool (Tr.kidsOk ns kind ls))∧Below w.heap.size w w':=by
 have r1:Below w.heap.size w (w.alloc (.cells #[.slice (some ⟨tg,0,none⟩) ns.length tc] 28)):=bA _
 have HT:=hide ht
 have HI:=hide hi
 have HIN:=hide hin
 have HK:=hide hkind
 have hel:=Tr.esOf_le ns ls
 clear ht hi hin hkind
 go_enter Tryz.func130,Tryz.ntmps130
 go_wp2
 go_loopw [8,10] (fun s t wr=>∃ (j es:Nat),j≤ls.length∧t = .int .i64 j∧s = .int .i64 es∧es+Tr.esOf ns (ls.drop j)=Tr.esOf ns ls∧Below w.heap.size w wr∧w.heap.size < wr.heap.size∧wr.cell? ⟨w.heap.size,0,none⟩=some (.slice (some ⟨tg,0,none⟩) ns.length tc)) (fun _ t _=>ls.length - (intOf t).toNat)
 case atStart=>exact ⟨0,0,Nat.zero_le _,rfl,rfl,by simp,r1,by simp,by simp⟩
 case round =>
  obtain ⟨j,es,hj,rfl,rfl,he,hB,hlt0,hc0⟩:=hrel
  have HE:=hide he
  clear he
  by_cases hlt:j < ls.length
  ·have hI:=HI.out.2 j hlt
   rw [Nat.zero_add] at hI
   have hx:ls[j] < ns.length:=HIN.out _ (List.getElem_mem _)
   obtain ⟨hN,_⟩:=HT.out.2 ls[j] hx
   have HS:=hide (Tr.esOf_at ns ls j hlt)
   have HQ:=hide (show Tr.isE ns ls[j]=Tr.inr ns[ls[j]].kind 1 16 by unfold Tr.isE;rw [Tr.kindOf_at hx])
   have a0:=(hB.cell (p:=⟨g,j,none⟩) HI.out.1).trans hI
   have a1:=(hB.cell (p:=⟨tg,ls[j]*5,none⟩) HT.out.1).trans hN
   generalize ns[ls[j]].kind=kj at *
   generalize ls[j]=xj at *
   clear hI hN
   have hes:es≤ls.length:=by have:=HE.out;omega
   cases hq:Tr.inr kj 1 16
   all_goals
    go_wp2
    go_quiet ((go_at_call 179;exact Calls.quiet_of_same (e_any _ _)))
    rw [hq]
    go_wp2
    go_roundw
    case rel =>
     have e1:=HE.out
     rw [HS.out,HQ.out,hq] at e1
     first | rw [if_pos rfl] at e1 | rw [if_neg (by decide)] at e1
     first
     | exact ⟨j+1,es+1,by omega,by go_num,by go_num,by omega,below_drewN hB _,hlt0,hc0⟩
     | exact ⟨j+1,es,by omega,by go_num,rfl,by omega,below_drewN hB _,hlt0,hc0⟩
    case measure=>simp [intOf];omega
  ·have hes:es=Tr.esOf ns ls:=by have e1:=HE.out;rw [List.drop_of_length_le (by omega)] at e1;simpa [Tr.esOf] using e1
   subst hes
   obtain rfl:j=ls.length:=by omega
   clear HE hj
   have HD:Hid (Tr.kidsOk ns kind ls=Tr.fnOk ns ls):=hide (by rcases HK.out with rfl | rfl;exact Tr.kidsOk_15 ns ls;exact Tr.kidsOk_20 ns ls)
   have h15:kind=15∨kind=20:=HK.out
   rcases h15 with rfl | rfl
   all_goals
    go_wp2
    go_loopw [13] (fun t wr=>∃ j:Nat,j≤ls.length∧t = .int .i64 j∧Tr.allK ns (fun x=>x == 19) ls.dropLast=Tr.allK ns (fun x=>x == 19) (ls.dropLast.drop j)∧Below w.heap.size w wr∧w.heap.size < wr.heap.size∧wr.cell? ⟨w.heap.size,0,none⟩=some (.slice (some ⟨tg,0,none⟩) ns.length tc)) (fun t _=>ls.length - (intOf t).toNat)
    case atStart=>exact ⟨0,Nat.zero_le _,rfl,by rw [List.drop_zero],hB,hlt0,hc0⟩
    case round =>
     obtain ⟨j,hj,rfl,he,hB,hlt0,hc0⟩:=hrel
     have HE:=hide he
     clear he
     by_cases hlt:j+1 < ls.length
     ·have hI:=HI.out.2 j (by omega)
      rw [Nat.zero_add] at hI
      have hx:ls[j] < ns.length:=HIN.out _ (List.getElem_mem _)
      obtain ⟨hN,_⟩:=HT.out.2 ls[j] hx
      have HS:=hide (Tr.allK_at ns (fun x=>x == 19) ls.dropLast j (by simp;omega))
      have HDL:=hide (Tr.drop_last ls j hlt)
      have HQ:=hide (Tr.kindOf_at hx)
      have a0:=(hB.cell (p:=⟨g,j,none⟩) HI.out.1).trans hI
      have a1:=(hB.cell (p:=⟨tg,ls[j]*5,none⟩) HT.out.1).trans hN
      generalize ns[ls[j]].kind=kj at *
      generalize ls[j]=xj at *
      clear hI hN
      cases hq:(kj != 19)
      all_goals
       go_wp2
       go_quiet (fail)
       try rw [hq]
       go_wp2
       first
       | (go_ret
          refine ⟨ret_bool ?_,below_drewN hB _⟩
          rw [HD.out,Tr.fnOk,HE.out,HS.out,HDL.out,HQ.out]
          simp at hq
          simp [hq]
          done)
       | (go_roundw
          case rel =>
           refine ⟨j+1,by omega,by go_num,?_,below_drewN hB _,hlt0,hc0⟩
           rw [HE.out,HS.out,HDL.out,HQ.out]
           simp at hq
           simp [hq]
           done
          case measure=>simp [intOf];omega)
     ·have HE2:=hide (show Tr.allK ns (fun x=>x == 19) ls.dropLast=true by rw [HE.out,List.drop_of_length_le (by simp;omega)];rfl)
      clear HE
      by_cases h0:ls.length=0
      ·go_wp2
       go_quiet (fail)
       go_wp2
       go_ret
       refine ⟨ret_bool ?_,below_drewN hB _⟩
       have:ls=[]:=List.eq_nil_of_length_eq_zero h0
       rw [HD.out,this];rfl
      ·have hI:=HI.out.2 (ls.length - 1) (by omega)
       rw [Nat.zero_add] at hI
       have hx:ls[ls.length - 1] < ns.length:=HIN.out _ (List.getElem_mem _)
       obtain ⟨hN,_⟩:=HT.out.2 ls[ls.length - 1] hx
       have HL:=hide (show ls.getLast?=some (ls[ls.length - 1]'(by omega)) by rw [List.getLast?_eq_getElem?];simp)
       have HQ:=hide (show Tr.isE ns (ls[ls.length - 1]'(by omega))=Tr.inr ns[ls[ls.length - 1]].kind 1 16 by unfold Tr.isE;rw [Tr.kindOf_at hx])
       have a0:=(hB.cell (p:=⟨g,ls.length - 1,none⟩) HI.out.1).trans hI
       have a1:=(hB.cell (p:=⟨tg,ls[ls.length - 1]*5,none⟩) HT.out.1).trans hN
       generalize ns[ls[ls.length - 1]].kind=kj at *
       generalize ls[ls.length - 1]'(by omega)=xj at *
       clear hI hN
       obtain ⟨m,hm⟩:∃ m,ls.length=m+1:=⟨ls.length - 1,by omega⟩
       rw [hm,Nat.add_sub_cancel] at a0
       have hm1:(1:Int)≤(m:Int)+1:=by omega
       cases hq:Tr.inr kj 1 16
       all_goals by_cases h8:(m:Int)≤8
       all_goals
        have hE:=fun w=>e_any kj w
        simp only [hq] at hE
        have HEE:=hide hE
        clear hE
        go_wp2
        go_quiet ((go_at_call 179;exact Calls.quiet_of_same (HEE.out _)))
        go_wp2
        go_ret
        refine ⟨ret_bool ?_,below_drewN hB _⟩
        rw [HD.out,Tr.fnOk,HE2.out,HL.out,Option.map_some,HQ.out,hq,hm]
        simp
        try omega
end Go.Proofs.YthbojbbmpcmoaaaGreatDoor
