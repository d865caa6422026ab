/- Nb, Nc, Ne. -/
import Derived.Test.YtimbaebigjjkaaaGreatDoorP36
import Derived.Maps.OwnSet
import Derived.Deep.RegionLaw
namespace Go.Proofs.YtimbaebigjjkaaaGreatDoor
open Go.RowKit
def SpAt (w:World) (mb:Nat) (sc:Tr.Sp):Prop:=∃ D,w.ownsMap (H:=Unit) Tryz.prog 9 (plainElem Tryz.prog 3) mb sc.length D ∧
 ∀ x:ByteArray,Maps.has D (.string x.data.toList)=(Yz x sc).isSome∧∀ v,Yz x sc=some v→D.atKey (.string x.data.toList) (.lit (.int .i64 0)) = .lit (.int .i64 v)
theorem SpAt.lt {w:World} {mb:Nat} {sc:Tr.Sp} (h:SpAt w mb sc):mb < w.heap.size:=by
 obtain ⟨D,h,_⟩:=h;exact h.lt
theorem SpAt.same {w w':World} {mb:Nat} {sc:Tr.Sp} (h:SpAt w mb sc) (hb:w'.heap[mb]?=w.heap[mb]?):SpAt w' mb sc:=by
 obtain ⟨D,⟨es,a0,h1,h2⟩,h3⟩:=h
 exact ⟨D,⟨es,a0,hb.trans h1,h2⟩,h3⟩
theorem SpAt.made (w:World):SpAt (w.alloc (.map #[] 0)) w.heap.size []:=⟨_,World.ownsMap_made w _ _ _,fun _=>⟨rfl,fun v h=>by cases h⟩⟩
def Chain (cg bg:Nat) (w:World):Nat→Option Addr→List Tr.Sp→Prop
 | _,p,[]=>p=none
 | B,p,sc :: r=>∃ sb mb q,p=some ⟨sb,0,none⟩∧sb < B∧mb < sb∧sb≠cg∧sb≠bg∧mb≠cg∧mb≠bg∧w.cell? ⟨sb,0,none⟩=some (.map (some mb))∧w.cell? ⟨sb,1,none⟩=some (.pointer q)∧SpAt w mb sc∧Chain cg bg w mb q r
theorem Chain.kept {cg bg:Nat} {w w':World}:∀ {ch:List Tr.Sp} {p:Option Addr} {B B':Nat},B≤B'→(∀ b,b < B→b≠cg→b≠bg→w'.heap[b]?=w.heap[b]?)→Chain cg bg w B p ch→Chain cg bg w' B' p ch
 | [],_,_,_,_,_,h=>h
 | _ :: _,_,_,_,hB,hk,⟨sb,mb,q,hp,h1,h4,h2,h3,h5,h6,c0,c1,hs,hr⟩ =>
  ⟨sb,mb,q,hp,by omega,h4,h2,h3,h5,h6,(World.cell?_of_block (a:=⟨sb,0,none⟩) (hk sb h1 h2 h3)).trans c0,(World.cell?_of_block (a:=⟨sb,1,none⟩) (hk sb h1 h2 h3)).trans c1,hs.same (hk mb (by omega) h5 h6),Chain.kept (Nat.le_refl _) (fun b hb=>hk b (by omega)) hr⟩
def ptrM:Value→Nat
 | .pointer (some a)=>a.block+1
 | _=>0
theorem Chain.measure {cg bg:Nat} {w:World} {B:Nat} {p:Option Addr} {ch:List Tr.Sp} (h:Chain cg bg w B p ch):ptrM (.pointer p)≤B:=by
 cases ch with
 | nil=>rw [show p=none from h];exact Nat.zero_le _
 | cons sc r=>obtain ⟨sb,mb,q,rfl,h1,_⟩:=h;exact h1
def PlV (cg bg:Nat) (w:World) (v:Value) (ls:List Nat):Prop:=(∃ p c,v = .slice p 0 c∧ls=[])∨(∃ g o c,v = .slice (some ⟨g,o,none⟩) ls.length c∧g≠cg∧g≠bg∧ls.length≤c∧IntsAt w g o ls)
theorem PlV.kept {cg bg:Nat} {w w':World} {v:Value} {ls:List Nat} (h:PlV cg bg w v ls) (hk:Kp cg bg w w'):PlV cg bg w' v ls:=by
 rcases h with h | ⟨g,o,c,h1,h2,h3,hc,h4⟩
 ·exact .inl h
 ·exact .inr ⟨g,o,c,h1,h2,h3,hc,Nat.lt_of_lt_of_le h4.1 hk.size,fun j hj=>(hk.cell (p:=⟨g,o+j,none⟩) h4.1 h2 h3).trans (h4.2 j hj)⟩
structure Ix (ns:List Tr.Nd) (ks:List (List Nat)) (wb tg tc kg kc cg bg:Nat) (w:World):Prop where
 wb1:wb≠cg
 wb2:wb≠bg
 tg1:tg≠cg
 tg2:tg≠bg
 kg1:kg≠cg
 kg2:kg≠bg
 wlt:wb < w.heap.size
 klt:kg < w.heap.size
 f0:w.cell? ⟨wb,0,none⟩=some (.slice (some ⟨tg,0,none⟩) ns.length tc)
 f1:w.cell? ⟨wb,1,none⟩=some (.slice (some ⟨kg,0,none⟩) ns.length kc)
 f2:w.cell? ⟨wb,2,none⟩=some (.slice (some ⟨bg,0,none⟩) ns.length ns.length)
 f3:w.cell? ⟨wb,3,none⟩=some (.slice (some ⟨cg,0,none⟩) ns.length ns.length)
 nodes:NodesAt w tg ns
 texts:∀ x∈ns,x.text.size≤1048576
 len:ks.length=ns.length
 kids:∀ k (h:k < ks.length),∃ v,w.cell? ⟨kg,k,none⟩=some v∧PlV cg bg w v ks[k]
theorem Ix.kept {ns:List Tr.Nd} {ks:List (List Nat)} {wb tg tc kg kc cg bg:Nat} {w w':World} (h:Ix ns ks wb tg tc kg kc cg bg w) (hk:Kp cg bg w w'):Ix ns ks wb tg tc kg kc cg bg w':=by
 refine ⟨h.wb1,h.wb2,h.tg1,h.tg2,h.kg1,h.kg2,Nat.lt_of_lt_of_le h.wlt hk.size,Nat.lt_of_lt_of_le h.klt hk.size,?_,?_,?_,?_,?_,h.texts,h.len,?_⟩
 ·exact (hk.cell (p:=⟨wb,0,none⟩) h.wlt h.wb1 h.wb2).trans h.f0
 ·exact (hk.cell (p:=⟨wb,1,none⟩) h.wlt h.wb1 h.wb2).trans h.f1
 ·exact (hk.cell (p:=⟨wb,2,none⟩) h.wlt h.wb1 h.wb2).trans h.f2
 ·exact (hk.cell (p:=⟨wb,3,none⟩) h.wlt h.wb1 h.wb2).trans h.f3
 ·refine ⟨Nat.lt_of_lt_of_le h.nodes.1 hk.size,fun i hi=>?_⟩
  obtain ⟨a,b,c,d,e⟩:=h.nodes.2 i hi
  exact ⟨(hk.cell (p:=⟨tg,i*5,none⟩) h.nodes.1 h.tg1 h.tg2).trans a,(hk.cell (p:=⟨tg,i*5+1,none⟩) h.nodes.1 h.tg1 h.tg2).trans b,(hk.cell (p:=⟨tg,i*5+2,none⟩) h.nodes.1 h.tg1 h.tg2).trans c,(hk.cell (p:=⟨tg,i*5+3,none⟩) h.nodes.1 h.tg1 h.tg2).trans d,(hk.cell (p:=⟨tg,i*5+4,none⟩) h.nodes.1 h.tg1 h.tg2).trans e⟩
 ·intro k hkl
  obtain ⟨v,a,b⟩:=h.kids k hkl
  exact ⟨v,(hk.cell (p:=⟨kg,k,none⟩) h.klt h.kg1 h.kg2).trans a,b.kept hk⟩
theorem lawT:Maps.Keyed Tryz.prog 9:=Maps.string_keyed Tryz.underlying9
theorem zeroI (w:World):(zeroValue 3).run Tryz.prog w = .ok (.int .i64 0) w:=by kernel_rfl
set_option maxRecDepth 100000 in
set_option maxHeartbeats 1000000 in
theorem blame_any (ns:List Tr.Nd) (ks:List (List Nat)) (wb tg tc kg kc cg bg k:Nat) (c:Int) (s:Tr.St) (w:World) (hk:k < ns.length) (hF:Ix ns ks wb tg tc kg kc cg bg w) (hD:Dy ns.length cg bg s w) :
  Calls Tryz.prog 97 #[.pointer (some ⟨wb,0,none⟩),.int .i64 k,.int .i64 c] w fun e w'=>e = .returned (.tuple #[])∧Kp cg bg w w'∧Dy ns.length cg bg (Xg k c s) w':=by
 have h2:=hF.f3
 obtain ⟨hc,hf⟩:=hD.cellC k hk
 have HD:=X1 hD
 have HS:=X1 (show Xg k c s=if s.codes[k]?.getD 0=0∨c < s.codes[k]?.getD 0 then {s with codes:=s.codes.set k c} else s from rfl)
 clear hF hD
 generalize s.codes[k]?.getD 0=z at *
 cases hz:(z == 0)
 ·by_cases hlt:c < z
  ·have a:Hid (Xg k c s={s with codes:=s.codes.set k c}):=X1 (by rw [HS.o,if_pos (.inr hlt)])
   go_enter Tryz.func97,Tryz.ntmps97
   go_wp2
   (first | go_end0 | refine bodyPost_ret (results_none rfl _ _ _) rfl ?_)
   exact ⟨rfl,(Kp.refl _ _ _).setCell _ _ (.inl rfl),by rw [a.o];exact HD.o.setC k c⟩
  ·have a:Hid (Xg k c s=s):=X1 (by rw [HS.o,if_neg (by rintro (h | h);simp [h] at hz;exact hlt h)])
   go_enter Tryz.func97,Tryz.ntmps97
   go_wp2
   (first | go_end0 | refine bodyPost_ret (results_none rfl _ _ _) rfl ?_)
   exact ⟨rfl,Kp.refl _ _ _,by rw [a.o];exact HD.o⟩
 ·have a:Hid (Xg k c s={s with codes:=s.codes.set k c}):=X1 (by rw [HS.o,if_pos (.inl (by simpa using hz))])
  go_enter Tryz.func97,Tryz.ntmps97
  go_wp2
  (first | go_end0 | refine bodyPost_ret (results_none rfl _ _ _) rfl ?_)
  exact ⟨rfl,(Kp.refl _ _ _).setCell _ _ (.inl rfl),by rw [a.o];exact HD.o.setC k c⟩
set_option maxHeartbeats 400000 in
theorem KQ (p:Option Addr) (w:World) :
  Calls Tryz.prog 74 #[.pointer p] w fun e w'=>e = .returned (.pointer (some ⟨w.heap.size+1,0,none⟩))∧w'=(w.alloc (.map #[] 0)).alloc (.cells #[.map (some w.heap.size),.pointer p] 120):=by
 have hmm:=@run_makeMap Tryz.prog
 go_enter Tryz.func74,Tryz.ntmps74
 go_wp2
 go_ret
 exact ⟨by simp,rfl⟩
set_option maxRecDepth 100000 in
set_option maxHeartbeats 1000000 in
theorem find_any (cg bg B:Nat) (x:ByteArray) (hx:x.size≤1048576) (ch:List Tr.Sp) (p:Option Addr) (w:World) (hch:Chain cg bg w B p ch) :
  Calls Tryz.prog 38 #[.pointer p,.string x] w fun e w'=>e = .returned (.tuple #[.int .i64 ((Z0 x ch).getD 0),.bool (Z0 x ch).isSome])∧w'=w:=by
 have HC:=X1 hch
 have HY:Hid (keyOf Tryz.prog 9 (.string x)=some (.string x.data.toList)):=X1 (WideMaps.keyOf_string_mk Tryz.underlying9 (by unfold maxLen;omega))
 clear hch
 go_enter Tryz.func38,Tryz.ntmps38
 go_wp2
 go_loopw [0] (fun v wr=>∃ (q:Option Addr) (r:List Tr.Sp) (B':Nat),v = .pointer q∧wr=w∧Chain cg bg w B' q r∧Z0 x ch=Z0 x r) (fun v _=>ptrM v)
 case atStart=>exact ⟨p,ch,B,rfl,rfl,HC.o,rfl⟩
 case round =>
  obtain ⟨q0,r,B',rfl,rfl,hr,he⟩:=hrel
  have HE:=X1 he
  clear he HC
  cases r with
  | nil =>
   obtain rfl:=(show q0=none from hr)
   go_wp2
   go_ret2
   rw [HE.o]
   exact ⟨rfl,rfl⟩
  | cons sc r =>
   obtain ⟨sb,mb,q,rfl,h1,h4,h2,h3,h5,h6,c0,c1,⟨D,a0,hD⟩,hr⟩:=hr
   have HR:=X1 hr
   have HO:=X1 a0
   obtain ⟨a,hd2⟩:=hD x
   have HD2:=X1 hd2
   have HG:=X1 (Zf x sc r)
   clear hr a0 hD hd2
   cases hg:Yz x sc with
   | none =>
    rw [hg] at a HG
    simp only [Option.isSome] at a
    go_wp2_with (at_lookup;refine wpList_lookup_own_ok_int _ rfl _ _ 118 rfl 9 3 .i64 lawT Tryz.underlying118 Tryz.underlying3 (zeroI _) mb _ D rfl HO.o _ _ rfl HY.o ?_)
    intro c b hwc
    try rw [a]
    go_wp2
    go_roundw
    case rel=>exact ⟨q,r,mb,by trivial,by trivial,HR.o,by rw [HE.o,HG.o];rfl⟩
    case measure=>have:=HR.o.measure;simp [ptrM] at *;omega
   | some v =>
    have HAT:=X1 (HD2.o v hg)
    rw [hg] at a HG
    simp only [Option.isSome] at a
    go_wp2_with (at_lookup;refine wpList_lookup_own_ok_int _ rfl _ _ 118 rfl 9 3 .i64 lawT Tryz.underlying118 Tryz.underlying3 (zeroI _) mb _ D rfl HO.o _ _ rfl HY.o ?_)
    intro c b hwc
    try rw [a]
    have hcv:c=v:=by rw [HAT.o] at b;simpa using b.symm
    subst hcv
    go_wp2
    go_ret2
    rw [HE.o,HG.o]
    exact ⟨rfl,rfl⟩
set_option maxRecDepth 100000 in
set_option maxHeartbeats 1000000 in
theorem iuse_any (ns:List Tr.Nd) (ks:List (List Nat)) (wb tg tc kg kc cg bg k B:Nat) (ch:List Tr.Sp) (p:Option Addr) (s:Tr.St) (w:World) (hk:k < ns.length) (hF:Ix ns ks wb tg tc kg kc cg bg w) (hD:Dy ns.length cg bg s w) (hC:Chain cg bg w B p ch) :
  Calls Tryz.prog 73 #[.pointer (some ⟨wb,0,none⟩),.int .i64 k,.pointer p] w fun e w'=>e = .returned (.tuple #[])∧Kp cg bg w w'∧Dy ns.length cg bg (QA ns k ch s) w':=by
 obtain ⟨_,_,_,hN,_⟩:=hF.nodes.2 k hk
 have h0:=hF.f0
 have h2:=hF.f2
 obtain ⟨hcb,hfb⟩:=hD.cellB k hk
 have HF:=X1 hF
 have HD:=X1 hD
 have HU:=X1 (show QA ns k ch s=(match Z0 ns[k].text ch with
  | some v=>{s with binds:=s.binds.set k v}
  | none=>Xg k 9 s) by unfold QA;rw [ZC hk];rfl)
 have HFI:=X1 (find_any cg bg B ns[k].text (hF.texts _ (List.getElem_mem hk)) ch p w hC)
 clear hF hD hC
 generalize ns[k].text=x at *
 cases hg:Z0 x ch with
 | none =>
  have a:=HFI.o
  rw [hg] at a HU
  replace a:=X1 a
  go_enter Tryz.func73,Tryz.ntmps73
  go_wp2_with fail
  refine a.o.mono ?_
  rintro e w1 ⟨rfl,rfl⟩
  go_wp2_with fail
  refine (blame_any ns ks wb tg tc kg kc cg bg k 9 s _ hk HF.o HD.o).mono ?_
  rintro e w2 ⟨rfl,hk2,hd2⟩
  go_wp2
  (first | go_end0 | refine bodyPost_ret (results_none rfl _ _ _) rfl ?_)
  exact ⟨rfl,hk2,by rw [HU.o];exact hd2⟩
 | some v =>
  have a:=HFI.o
  rw [hg] at a HU
  replace a:=X1 a
  go_enter Tryz.func73,Tryz.ntmps73
  go_wp2_with fail
  refine a.o.mono ?_
  rintro e w1 ⟨rfl,rfl⟩
  go_wp2
  (first | go_end0 | refine bodyPost_ret (results_none rfl _ _ _) rfl ?_)
  exact ⟨rfl,(Kp.refl _ _ _).setCell _ _ (.inr rfl),by rw [HU.o];exact HD.o.setB k v⟩
structure Ku (cg bg mb:Nat) (w w':World):Prop where
 os:w'.os=w.os
 tape:w'.tape=w.tape
 output:w'.output=w.output
 size:w.heap.size≤w'.heap.size
 block:∀ b,b < w.heap.size→b≠cg→b≠bg→b≠mb→w'.heap[b]?=w.heap[b]?
theorem Ku.of_kp {cg bg mb:Nat} {w w':World} (h:Kp cg bg w w'):Ku cg bg mb w w':=⟨h.os,h.tape,h.output,h.size,fun b hb h1 h2 _=>h.block b hb h1 h2⟩
theorem Ku.of_grown {cg bg mb:Nat} {w w':World} (h:w.grownBy w' (some mb)):Ku cg bg mb w w':=⟨h.os,h.tape,h.output,h.size,fun b hb _ _ h3=>h.block b hb (fun e=>h3 (Option.some.inj e))⟩
theorem Ku.kp {cg bg mb:Nat} {w w' w'':World} (h:Kp cg bg w w') (h':Ku cg bg mb w' w'') (hm:w.heap.size≤mb):Kp cg bg w w'' :=
 ⟨h'.os.trans h.os,h'.tape.trans h.tape,h'.output.trans h.output,Nat.le_trans h.size h'.size,fun b hb h1 h2=>(h'.block b (Nat.lt_of_lt_of_le hb h.size) h1 h2 (by omega)).trans (h.block b hb h1 h2)⟩
theorem Ku.cell {cg bg mb:Nat} {w w':World} (h:Ku cg bg mb w w') {p:Addr} (hp:p.block < w.heap.size) (h1:p.block≠cg) (h2:p.block≠bg) (h3:p.block≠mb):w'.cell? p=w.cell? p:=World.cell?_of_block (h.block p.block hp h1 h2 h3)
theorem SpAt.put {w':World} {mb:Nat} {sc:Tr.Sp} {D:DataW Unit} {x:ByteArray} {v:Int} (hD:∀ x:ByteArray,Maps.has D (.string x.data.toList)=(Yz x sc).isSome∧∀ v,Yz x sc=some v→D.atKey (.string x.data.toList) (.lit (.int .i64 0)) = .lit (.int .i64 v))
  (hm:Maps.IsMap D) (h:w'.ownsMap (H:=Unit) Tryz.prog 9 (plainElem Tryz.prog 3) mb (sc.length+1) (D.put (.string x.data.toList) (.lit (.int .i64 v)))):SpAt w' mb ((x,v) :: sc):=by
 refine ⟨_,h,fun y=>?_⟩
 by_cases e:x=y
 ·subst e
  rw [Yz,if_pos rfl]
  have hk:WideAt.IsKeyLit (Lit.string x.data.toList):=trivial
  exact ⟨Maps.has_put_same hm hk _,fun u hu=>by rw [Maps.atKey_put_same hm hk];cases hu;rfl⟩
 ·have hne:Lit.string y.data.toList≠Lit.string x.data.toList:=fun h=>e (ByteArray.ext (Array.toList_inj.1 (by injection h with h;exact h.symm)))
  rw [Yz,if_neg e]
  exact ⟨by rw [Maps.has_put_other hne];exact (hD y).1,fun u hu=>by rw [Maps.atKey_put_other hne];exact (hD y).2 u hu⟩
theorem wf_nat (k:Nat) (h:k≤1048576):(Lit.int .i64 (k:Int)).wf=true:=by
 have h1:IntKind.i64.min = -9223372036854775808:=by decide
 have h2:IntKind.i64.max=9223372036854775807:=by decide
 simp [Lit.wf,h1,h2]
 omega
set_option maxRecDepth 100000 in
set_option maxHeartbeats 1000000 in
theorem Qq (ns:List Tr.Nd) (ks:List (List Nat)) (wb tg tc kg kc cg bg k sb mb:Nat) (sc:Tr.Sp) (s:Tr.St) (w:World) (hn:ns.length≤5000) (hk:k < ns.length) (hF:Ix ns ks wb tg tc kg kc cg bg w) (hD:Dy ns.length cg bg s w)
  (hs0:w.cell? ⟨sb,0,none⟩=some (.map (some mb))) (hm:SpAt w mb sc) (hm1:mb≠cg) (hm2:mb≠bg) (hl:sc.length≤100000000) :
  Calls Tryz.prog 75 #[.pointer (some ⟨wb,0,none⟩),.int .i64 k,.pointer (some ⟨sb,0,none⟩)] w fun e w'=>e = .returned (.tuple #[])∧Ku cg bg mb w w'∧Dy ns.length cg bg (Y0 ns k (sc,s)).2 w'∧SpAt w' mb (Y0 ns k (sc,s)).1:=by
 obtain ⟨_,_,_,hN,_⟩:=hF.nodes.2 k hk
 have h0:=hF.f0
 have hx:=hF.texts _ (List.getElem_mem hk)
 have HF:=X1 hF
 have HD:=X1 hD
 have HM:=X1 hm
 have HU:=X1 (show Y0 ns k (sc,s)=(match Yz ns[k].text sc with
  | some _=>(sc,Xg k 8 s)
  | none=>((ns[k].text,(k:Int)) :: sc,s)) by unfold Y0;rw [ZC hk];rfl)
 obtain ⟨D,a0,i⟩:=hm
 have HO:=X1 a0
 have HDD:=X1 i
 clear hF hD a0
 generalize ns[k].text=x at *
 obtain ⟨g,j⟩:=i x
 have HY:Hid (keyOf Tryz.prog 9 (.string x)=some (.string x.data.toList)):=X1 (WideMaps.keyOf_string_mk Tryz.underlying9 (by unfold maxLen;omega))
 have HPE:Hid (plainElem (H:=Unit) Tryz.prog 3 (.int .i64 (k:Int))=some (.lit (.int .i64 (k:Int)),[])):=X1 (plainElem_int Tryz.underlying3 (wf_nat k (by omega)))
 clear i j
 cases hg:Yz x sc with
 | none =>
  rw [hg] at g HU
  simp only [Option.isSome] at g
  go_enter Tryz.func75,Tryz.ntmps75
  go_wp2_with (at_lookup;refine wpList_lookup_own_ok_int _ rfl _ _ 118 rfl 9 3 .i64 lawT Tryz.underlying118 Tryz.underlying3 (zeroI _) mb _ D rfl HO.o _ _ rfl HY.o ?_)
  intro c hat hwc
  try rw [g]
  go_wp2_with (at_mapUpdate;refine wpList_mapUpdate_own _ rfl _ _ _ 118 rfl 9 3 lawT Tryz.underlying118 _ mb _ D rfl HO.o (by unfold maxLen;omega) _ _ _ rfl rfl HY.o _ [] HPE.o ?_)
  intro w1 a1 d
  go_wp2
  (first | go_end0 | refine bodyPost_ret (results_none rfl _ _ _) rfl ?_)
  refine ⟨rfl,Ku.of_grown d,?_,?_⟩
  ·rw [HU.o]
   exact ⟨HD.o.ne,Y5 HD.o.c (d.block cg (HD.o.c.lt cg rfl).2 (fun e=>hm1 (Option.some.inj e).symm)),Y5 HD.o.b (d.block bg (HD.o.b.lt bg rfl).2 (fun e=>hm2 (Option.some.inj e).symm))⟩
  ·rw [HU.o]
   exact SpAt.put HDD.o HO.o.isMap a1
 | some v =>
  rw [hg] at g HU
  simp only [Option.isSome] at g
  go_enter Tryz.func75,Tryz.ntmps75
  go_wp2_with (at_lookup;refine wpList_lookup_own_ok_int _ rfl _ _ 118 rfl 9 3 .i64 lawT Tryz.underlying118 Tryz.underlying3 (zeroI _) mb _ D rfl HO.o _ _ rfl HY.o ?_)
  intro c hat hwc
  try rw [g]
  go_wp2_with fail
  refine (blame_any ns ks wb tg tc kg kc cg bg k 8 s _ hk HF.o HD.o).mono ?_
  rintro e w2 ⟨rfl,hk2,j⟩
  go_wp2
  (first | go_end0 | refine bodyPost_ret (results_none rfl _ _ _) rfl ?_)
  refine ⟨rfl,Ku.of_kp hk2,?_,?_⟩
  ·rw [HU.o];exact j
  ·rw [HU.o];exact HM.o.same (hk2.block mb HM.o.lt hm1 hm2)
def WkOk (ns:List Tr.Nd) (ks:List (List Nat)) (wb tg tc kg kc cg bg f:Nat) (G:Nat→List Tr.Sp→Tr.St→Tr.St):Prop :=
 ∀ (k:Nat) (p:Option Addr) (ch:List Tr.Sp) (s:Tr.St) (w:World),k < f→k < ns.length→Ix ns ks wb tg tc kg kc cg bg w→Dy ns.length cg bg s w→Chain cg bg w w.heap.size p ch →
  Calls Tryz.prog 51 #[.pointer (some ⟨wb,0,none⟩),.int .i64 k,.pointer p] w fun e w'=>e = .returned (.tuple #[])∧Kp cg bg w w'∧Dy ns.length cg bg (G k ch s) w'
theorem Tr.all_at (G:Nat→List Tr.Sp→Tr.St→Tr.St) (ls:List Nat) (i:Nat) (ch:List Tr.Sp) (s:Tr.St) (h:i < ls.length):Zb G (ls.take (i+1)) ch s=G ls[i] ch (Zb G (ls.take i) ch s):=by
 unfold Zb
 rw [List.take_succ_eq_append_getElem h,List.foldl_append];rfl
set_option maxHeartbeats 400000 in
theorem all_nil (q p:Value) (a:Option Addr) (c:Nat) (w:World) :
  Calls Tryz.prog 76 #[q,.slice a 0 c,p] w fun e w'=>e = .returned (.tuple #[])∧w'=w:=by
 go_enter Tryz.func76,Tryz.ntmps76
 go_wp2
 go_loopw [10] (fun t wr=>t = .int .i64 0∧wr=w) (fun _ _=>0)
 case atStart=>exact ⟨rfl,rfl⟩
 case round =>
  obtain ⟨rfl,rfl⟩:=hrel
  go_wp2
  (first | go_end0 | refine bodyPost_ret (results_none rfl _ _ _) rfl ?_)
  exact ⟨rfl,rfl⟩
set_option maxRecDepth 100000 in
set_option maxHeartbeats 1000000 in
theorem all_some (ns:List Tr.Nd) (ks:List (List Nat)) (wb tg tc kg kc cg bg f:Nat) (G:Nat→List Tr.Sp→Tr.St→Tr.St) (hG:WkOk ns ks wb tg tc kg kc cg bg f G) (ls:List Nat) (g o c:Nat) (ch:List Tr.Sp) (p:Option Addr) (s:Tr.St) (w:World)
  (hls:∀ x∈ls,x < f∧x < ns.length) (hl:ls.length≤100000000) (hF:Ix ns ks wb tg tc kg kc cg bg w) (hD:Dy ns.length cg bg s w) (hC:Chain cg bg w w.heap.size p ch) (hg1:g≠cg) (hg2:g≠bg) (hI:IntsAt w g o ls) :
  Calls Tryz.prog 76 #[.pointer (some ⟨wb,0,none⟩),.slice (some ⟨g,o,none⟩) ls.length c,.pointer p] w fun e w'=>e = .returned (.tuple #[])∧Kp cg bg w w'∧Dy ns.length cg bg (Zb G ls ch s) w':=by
 have HG:=X1 hG
 have HF:=X1 hF
 have HD:=X1 hD
 have HC:=X1 hC
 have HI:=X1 hI
 have HLS:=X1 hls
 clear hG hF hD hC hI hls
 go_enter Tryz.func76,Tryz.ntmps76
 go_wp2
 go_loopw [10] (fun t wr=>∃ i:Nat,i≤ls.length∧t = .int .i64 i∧Kp cg bg w wr∧Dy ns.length cg bg (Zb G (ls.take i) ch s) wr) (fun t _=>ls.length - (intOf t).toNat)
 case atStart=>exact ⟨0,Nat.zero_le _,rfl,Kp.refl _ _ _,HD.o⟩
 case round =>
  obtain ⟨i,hi,rfl,hK,hDr⟩:=hrel
  have HDr:=X1 hDr
  clear hDr
  by_cases hlt:i < ls.length
  ·have hx:=(hK.cell (p:=⟨g,o+i,none⟩) HI.o.1 hg1 hg2).trans (HI.o.2 i hlt)
   have HS:=X1 (Tr.all_at G ls i ch s hlt)
   have hxl:=HLS.o _ (List.getElem_mem hlt)
   have HGO:=X1 (HG.o ls[i] p ch _ wr hxl.1 hxl.2 (HF.o.kept hK) HDr.o (Chain.kept hK.size (fun b hb h1 h2=>hK.block b hb h1 h2) HC.o))
   generalize ls[i]=y at *
   go_wp2_with fail
   refine HGO.o.mono ?_
   rintro e w2 ⟨rfl,hk2,hd2⟩
   go_wp2
   go_roundw
   case rel=>exact ⟨i+1,by omega,by go_num,hK.trans hk2,by rw [HS.o];exact hd2⟩
   case measure=>simp [intOf];omega
  ·go_wp2
   (first | go_end0 | refine bodyPost_ret (results_none rfl _ _ _) rfl ?_)
   have e:ls.take i=ls:=List.take_of_length_le (by omega)
   exact ⟨rfl,hK,by have:=HDr.o;rwa [e] at this⟩
theorem JL (ns:List Tr.Nd) (ks:List (List Nat)) (wb tg tc kg kc cg bg f:Nat) (G:Nat→List Tr.Sp→Tr.St→Tr.St) (hG:WkOk ns ks wb tg tc kg kc cg bg f G) (ls:List Nat) (v:Value) (ch:List Tr.Sp) (p:Option Addr) (s:Tr.St) (w:World)
  (hls:∀ x∈ls,x < f∧x < ns.length) (hl:ls.length≤100000000) (hF:Ix ns ks wb tg tc kg kc cg bg w) (hD:Dy ns.length cg bg s w) (hC:Chain cg bg w w.heap.size p ch) (hI:PlV cg bg w v ls) :
  Calls Tryz.prog 76 #[.pointer (some ⟨wb,0,none⟩),v,.pointer p] w fun e w'=>e = .returned (.tuple #[])∧Kp cg bg w w'∧Dy ns.length cg bg (Zb G ls ch s) w':=by
 rcases hI with ⟨a,c,rfl,rfl⟩ | ⟨g,o,c,rfl,h1,h2,_,h3⟩
 ·refine (all_nil _ _ _ _ _).mono ?_
  rintro e w' ⟨rfl,rfl⟩
  exact ⟨rfl,Kp.refl _ _ _,hD⟩
 ·exact all_some ns ks wb tg tc kg kc cg bg f G hG ls g o c ch p s w hls hl hF hD hC h1 h2 h3
abbrev scO (w:World) (p:Option Addr):Obj:= .cells #[.map (some w.heap.size),.pointer p] 120
theorem sc_new (w:World) (p:Option Addr):((w.alloc (.map #[] 0)).alloc (scO w p)).cell? ⟨w.heap.size+1,0,none⟩=some (.map (some w.heap.size))∧((w.alloc (.map #[] 0)).alloc (scO w p)).cell? ⟨w.heap.size+1,1,none⟩=some (.pointer p) ∧
  SpAt ((w.alloc (.map #[] 0)).alloc (scO w p)) w.heap.size []∧Below w.heap.size w ((w.alloc (.map #[] 0)).alloc (scO w p))∧((w.alloc (.map #[] 0)).alloc (scO w p)).heap.size=w.heap.size+1+1:=by
 have h:=Xi (w.alloc (.map #[] 0)) (scO w p)
 rw [World.size_alloc] at h
 refine ⟨by rw [World.cell?,h];rfl,by rw [World.cell?,h];rfl,?_,(bA _).alloc (by simp) _,by simp⟩
 have hb:=(Below.refl (w.heap.size+1) (w.alloc (.map #[] 0))).alloc (by simp) (scO w p)
 exact (SpAt.made w).same (hb.block _ (Nat.lt_succ_self _))
theorem Chain.inner {cg bg:Nat} {w wr:World} {p:Option Addr} {ch:List Tr.Sp} {sc:Tr.Sp} (h:Chain cg bg w w.heap.size p ch) (hK:Kp cg bg w wr) (c0:wr.cell? ⟨w.heap.size+1,0,none⟩=some (.map (some w.heap.size))) (c1:wr.cell? ⟨w.heap.size+1,1,none⟩=some (.pointer p))
  (hs:SpAt wr w.heap.size sc) (hz:w.heap.size+1 < wr.heap.size) (h1:cg < w.heap.size) (h2:bg < w.heap.size):Chain cg bg wr wr.heap.size (some ⟨w.heap.size+1,0,none⟩) (sc :: ch) :=
 ⟨w.heap.size+1,w.heap.size,p,rfl,hz,Nat.lt_succ_self _,by omega,by omega,by omega,by omega,c0,c1,hs,Chain.kept (Nat.le_refl _) (fun b hb=>hK.block b hb) h⟩
theorem Tr.ifn_at (G:Nat→List Tr.Sp→Tr.St→Tr.St) (ns:List Tr.Nd) (ks:List (List Nat)) (ls:List Nat) (i:Nat) (sc:Tr.Sp) (ch:List Tr.Sp) (df:Bool) (s:Tr.St) (h:i+1 < ls.length) :
  Kt G ns ks (ls.drop i) sc ch df s=Kt G ns ks (ls.drop (i+1)) (K1 G ns ks ls[i] sc ch df s).1 ch (df || !decide ((X5 ks ls[i]).length=0)) (K1 G ns ks ls[i] sc ch df s).2:=by
 rw [List.drop_eq_getElem_cons (show i < ls.length by omega),List.drop_eq_getElem_cons h];rfl
theorem Tr.ifn_last (G:Nat→List Tr.Sp→Tr.St→Tr.St) (ns:List Tr.Nd) (ks:List (List Nat)) (ls:List Nat) (i:Nat) (sc:Tr.Sp) (ch:List Tr.Sp) (df:Bool) (s:Tr.St) (h:i+1=ls.length) :
  Kt G ns ks (ls.drop i) sc ch df s=G (ls[i]'(by omega)) (sc :: ch) s:=by
 rw [List.drop_eq_getElem_cons (show i < ls.length by omega),List.drop_of_length_le (by omega)];rfl
theorem Jo (ns:List Tr.Nd) (k:Nat) (e:Tr.Sp × Tr.St):(Y0 ns k e).1.length≤e.1.length+1:=by
 unfold Y0;split <;> simp
set_option maxRecDepth 100000 in
set_option maxHeartbeats 1000000 in
theorem ifn_any (ns:List Tr.Nd) (ks:List (List Nat)) (wb tg tc kg kc cg bg f:Nat) (G:Nat→List Tr.Sp→Tr.St→Tr.St) (hG:WkOk ns ks wb tg tc kg kc cg bg f G) (hn:ns.length≤5000) (ls:List Nat) (g o c:Nat) (ch:List Tr.Sp) (p:Option Addr) (s:Tr.St) (w:World)
  (hls:∀ x∈ls,x < f∧x < ns.length) (hl:ls.length≤5000) (hl1:1≤ls.length) (hkid:∀ k (h:k < ks.length),∀ x∈ks[k],x < k) (hkl:∀ k (h:k < ks.length),(ks[k]).length≤5000)
  (hF:Ix ns ks wb tg tc kg kc cg bg w) (hD:Dy ns.length cg bg s w) (hC:Chain cg bg w w.heap.size p ch) (hg1:g≠cg) (hg2:g≠bg) (hcap:ls.length≤c) (hI:IntsAt w g o ls) :
  Calls Tryz.prog 77 #[.pointer (some ⟨wb,0,none⟩),.slice (some ⟨g,o,none⟩) ls.length c,.pointer p] w fun e w'=>e = .returned (.tuple #[])∧Kp cg bg w w'∧Dy ns.length cg bg (Kt G ns ks ls [] ch false s) w':=by
 have hcl:=(hD.c.lt cg rfl).2
 have hbl:=(hD.b.lt bg rfl).2
 have HG:=X1 hG
 have HF:=X1 hF
 have HD:=X1 hD
 have HC:=X1 hC
 have HI:=X1 hI
 have HLS:=X1 hls
 have HKD:=X1 hkid
 have HKL:=X1 hkl
 obtain ⟨n0,n1,n2,n3,n4⟩:=sc_new w p
 have HN0:=X1 n0
 have HN1:=X1 n1
 have HN2:=X1 n2
 have H:=X1 n3
 have HN4:=X1 n4
 obtain ⟨m,hm⟩:∃ m,ls.length=m+1:=⟨ls.length - 1,by omega⟩
 clear hG hF hD hC hI hls hkid hkl n0 n1 n2 n3 n4
 go_enter Tryz.func77,Tryz.ntmps77
 go_wp2_with fail
 refine (KQ p w).mono ?_
 rintro e w1 ⟨rfl,hw1⟩
 have HW1:=X1 hw1
 rw [← HW1.o] at HN0 HN1 HN2 H HN4
 clear hw1
 go_wp2
 go_loopw [8,21] (fun v8 t wr=>∃ (i:Nat) (sc:Tr.Sp) (df:Bool) (si:Tr.St),i≤m∧t = .int .i64 i∧v8 = .bool df∧sc.length≤i∧Kp cg bg w wr∧w.heap.size+1 < wr.heap.size∧wr.cell? ⟨w.heap.size+1,0,none⟩=some (.map (some w.heap.size))∧wr.cell? ⟨w.heap.size+1,1,none⟩=some (.pointer p)∧SpAt wr w.heap.size sc ∧
   Dy ns.length cg bg si wr∧Kt G ns ks ls [] ch false s=Kt G ns ks (ls.drop i) sc ch df si) (fun _ t _=>m - (intOf t).toNat)
 case atStart=>exact ⟨0,[],false,s,Nat.zero_le _,rfl,rfl,Nat.le_refl _,Kp.of_below H.o,by rw [HN4.o];omega,HN0.o,HN1.o,HN2.o,HD.o.below H.o,rfl⟩
 case round =>
  obtain ⟨i,sc,df,si,hi,rfl,rfl,hsl,hK,hz,c0,c1,hsp,hDr,he⟩:=hrel
  have HE:=X1 he
  have HDr:=X1 hDr
  have HSP:=X1 hsp
  have HC0:=X1 c0
  have HC1:=X1 c1
  clear he hDr hsp c0 c1
  have n:=X1 (HF.o.kept hK)
  have HCH:=X1 (HC.o.inner hK HC0.o HC1.o HSP.o hz hcl hbl)
  have hx:=(hK.cell (p:=⟨g,o+i,none⟩) HI.o.1 hg1 hg2).trans (HI.o.2 i (by omega))
  have z:=HLS.o _ (List.getElem_mem (by omega:i < ls.length))
  by_cases hlt:i < m
  ·have HS:=X1 (Tr.ifn_at G ns ks ls i sc ch df si (by omega))
   have f1:=n.o.f1
   have F:ls[i] < ks.length:=by rw [n.o.len];exact z.2
   obtain ⟨v2,hkc,J⟩:=n.o.kids ls[i] F
   have HKO:Hid (X5 ks ls[i]=ks[ls[i]]):=X1 (by simp [X5,F])
   have hkd:=HKD.o ls[i] F
   have hkl:=HKL.o ls[i] F
   rw [HKO.o] at HS
   have HAL:=X1 (JL ns ks wb tg tc kg kc cg bg f G HG.o ks[ls[i]] v2 (sc :: ch) _ si wr (fun x hx=>by have:=hkd x hx;omega) (by omega) n.o HDr.o HCH.o J)
   obtain ⟨a2,c2,hv2⟩:∃ a c,v2 = .slice a (ks[ls[i]]).length c:=by
    rcases J with ⟨a,c,h,h'⟩ | ⟨g',o',c,h,_⟩
    ·exact ⟨a,c,by rw [h',h];rfl⟩
    ·exact ⟨_,c,h⟩
   subst hv2
   clear hkd J
   generalize ks[ls[i]]=kp at *
   generalize ls[i]=y at *
   have C:Hid (K1 G ns ks y sc ch df si=((Y0 ns y (sc,Zb G kp (sc :: ch) si)).1,if df=true∧kp.length=0 then Xg y 10 (Y0 ns y (sc,Zb G kp (sc :: ch) si)).2 else (Y0 ns y (sc,Zb G kp (sc :: ch) si)).2)):=X1 (by unfold K1;rw [HKO.o])
   have hkpl:(kp.length:Int)≤5000:=by omega
   have B:=X1 (Jo ns y (sc,Zb G kp (sc :: ch) si))
   go_wp2_with fail
   refine HAL.o.mono ?_
   rintro e w2 ⟨rfl,l,E⟩
   have I:=(l.cell (p:=⟨w.heap.size+1,0,none⟩) hz (show w.heap.size+1≠cg by omega) (show w.heap.size+1≠bg by omega)).trans HC0.o
   have c1':=(l.cell (p:=⟨w.heap.size+1,1,none⟩) hz (show w.heap.size+1≠cg by omega) (show w.heap.size+1≠bg by omega)).trans HC1.o
   have K:=Nat.lt_of_lt_of_le hz l.size
   have HEN:=X1 (Qq ns ks wb tg tc kg kc cg bg y (w.heap.size+1) w.heap.size sc _ w2 hn z.2 (n.o.kept l) E I (HSP.o.same (l.block _ (by omega) (by omega) (by omega))) (by omega) (by omega) (by omega))
   clear E
   go_wp2_with fail
   refine HEN.o.mono ?_
   rintro e w3 ⟨rfl,v,hd3,hs3⟩
   have a0:=(v.cell (p:=⟨w.heap.size+1,0,none⟩) K (show w.heap.size+1≠cg by omega) (show w.heap.size+1≠bg by omega) (show w.heap.size+1≠w.heap.size by omega)).trans I
   have a1:=(v.cell (p:=⟨w.heap.size+1,1,none⟩) K (show w.heap.size+1≠cg by omega) (show w.heap.size+1≠bg by omega) (show w.heap.size+1≠w.heap.size by omega)).trans c1'
   have r:=Ku.kp (hK.trans l) v (Nat.le_refl _)
   have q:=Nat.lt_of_lt_of_le K v.size
   have d:=X1 a0
   have j:=X1 a1
   have A:=X1 hd3
   have D:=X1 hs3
   clear I c1' a0 a1 hd3 hs3 v HEN HAL
   cases df <;> (by_cases hk0:kp.length=0)
   ·go_wp2
    go_roundw
    case rel=>exact ⟨i+1,_,_,_,by omega,by go_num,rfl,by have:=B.o;omega,r,q,d.o,j.o,D.o,A.o,by rw [HE.o,HS.o,C.o];simp [hk0]⟩
    case measure=>simp [intOf];omega
   ·have a5:(0:Int) < kp.length:=by omega
    go_wp2
    go_roundw
    case rel=>exact ⟨i+1,_,_,_,by omega,by go_num,rfl,by have:=B.o;omega,r,q,d.o,j.o,D.o,A.o,by rw [HE.o,HS.o,C.o];simp [hk0,Nat.pos_of_ne_zero hk0]⟩
    case measure=>simp [intOf];omega
   ·go_wp2_with fail
    refine (blame_any ns ks wb tg tc kg kc cg bg y 10 _ _ z.2 (HF.o.kept r) A.o).mono ?_
    rintro e w4 ⟨rfl,u,hd4⟩
    have c04:=(u.cell (p:=⟨w.heap.size+1,0,none⟩) q (show w.heap.size+1≠cg by omega) (show w.heap.size+1≠bg by omega)).trans d.o
    have c14:=(u.cell (p:=⟨w.heap.size+1,1,none⟩) q (show w.heap.size+1≠cg by omega) (show w.heap.size+1≠bg by omega)).trans j.o
    have a3:=X1 c04
    have a4:=X1 c14
    have HD4:=X1 hd4
    clear c04 c14 hd4
    go_wp2
    go_roundw
    case rel=>exact ⟨i+1,_,_,_,by omega,by go_num,rfl,by have:=B.o;omega,r.trans u,Nat.lt_of_lt_of_le q u.size,a3.o,a4.o,D.o.same (u.block _ (by omega) (by omega) (by omega)),HD4.o,by rw [HE.o,HS.o,C.o];simp [hk0]⟩
    case measure=>simp [intOf];omega
   ·have a5:(0:Int) < kp.length:=by omega
    have hne:((kp.length:Int) == 0)=false:=by rw [beq_eq_false_iff_ne];omega
    go_wp2
    go_roundw
    case rel=>exact ⟨i+1,_,_,_,by omega,by go_num,rfl,by have:=B.o;omega,r,q,d.o,j.o,D.o,A.o,by rw [HE.o,HS.o,C.o];simp [hk0]⟩
    case measure=>simp [intOf];omega
  ·obtain rfl:i=m:=by omega
   have HS:=X1 (Tr.ifn_last G ns ks ls i sc ch df si (by omega))
   have HGO:=X1 (HG.o ls[i] _ (sc :: ch) si wr z.1 z.2 n.o HDr.o HCH.o)
   generalize ls[i]=y at *
   go_wp2_with fail
   refine HGO.o.mono ?_
   rintro e w2 ⟨rfl,l,E⟩
   go_wp2
   (first | go_end0 | refine bodyPost_ret (results_none rfl _ _ _) rfl ?_)
   exact ⟨rfl,hK.trans l,by rw [HE.o,HS.o];exact E⟩
end Go.Proofs.YtimbaebigjjkaaaGreatDoor
