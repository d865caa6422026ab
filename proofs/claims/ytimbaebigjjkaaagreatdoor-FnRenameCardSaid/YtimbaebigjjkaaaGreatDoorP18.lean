/- Cb, Cz. -/
import Derived.Test.YtimbaebigjjkaaaGreatDoorP02
import Derived.Test.YtimbaebigjjkaaaGreatDoorP05
import Derived.Deep.RegionLaw
namespace Go.Proofs.YtimbaebigjjkaaaGreatDoor
open Go.RowKit
theorem Tryz.infoNdsC:(Tryz.prog.info? 23).map (fun i=>(i.zero,i.size,i.bytes))=some (some (.slice none 0 0),1,24):=by kernel_rfl
theorem Qw [LB]:¬ Mine (some 23):=by unfold Mine;simp
def PR (w:World) (v:Value) (ls:List (List Tr.Nd)):Prop:=∃ vs:List Value,w.ownsRow 0 23 1 v ls.length vs∧∀ i (h:i < ls.length),∃ u,vs[i]?=some u∧NR w u ls[i]∧0 < ls[i].length
theorem mineF_nodes [LB]:¬ MineF (some 23):=by unfold MineF Mine;simp
theorem PR.ty [LB] {w w':World} {v:Value} {ls:List (List Tr.Nd)} (h:PR w v ls) (hb:Ty w w'):PR w' v ls:=by
 obtain ⟨vs,h1,h2⟩:=h
 exact ⟨vs,XO h1 hb Qw,fun i hi=>by obtain ⟨u,a,b,c⟩:=h2 i hi;exact ⟨u,a,b.ty hb,c⟩⟩
theorem NR.below [LB] {w w':World} {v:Value} {l:List Tr.Nd} (h:NR w v l) (hb:Below w.heap.size w w'):NR w' v l:=h.ty (.of hb)
theorem PR.below [LB] {w w':World} {v:Value} {ls:List (List Tr.Nd)} (h:PR w v ls) (hb:Below w.heap.size w w'):PR w' v ls:=h.ty (.of hb)
theorem NR.form [LB] {w:World} {v:Value} {l:List Tr.Nd} (h:NR w v l) (hl:0 < l.length):∃ g c,v = .slice (some ⟨g,0,none⟩) l.length c:=by
 rcases h.1.2 with ⟨_,h0⟩ | ⟨g,c,_,h2,_⟩
 ·omega
 ·exact ⟨g,c,h2⟩
theorem sh_flat [LB] {w:World} {ls:List (List Tr.Nd)} {vs:List Value} (h:∀ i (h:i < ls.length),∃ u,vs[i]?=some u∧NR w u ls[i]∧0 < ls[i].length):Sh ls.flatten:=fun x hx=>by
 obtain ⟨l,hl,hxl⟩:=List.mem_flatten.1 hx
 obtain ⟨i,hi,rfl⟩:=List.getElem_of_mem hl
 obtain ⟨u,_,hn,_⟩:=h i hi
 exact hn.2 x hxl
theorem sh_one [LB] {d:Tr.Nd} (h:d.text.size≤1000000):Sh [d]:=fun x hx=>by
 obtain rfl:=List.mem_singleton.1 hx
 exact h
theorem sh_app [LB] {a b:List Tr.Nd} (ha:Sh a) (hb:Sh b):Sh (a++b):=fun x hx=>(List.mem_append.1 hx).elim (ha x) (hb x)
theorem flat_take [LB] {ls:List (List Tr.Nd)} {i:Nat} (h:i < ls.length):(ls.take (i+1)).flatten=(ls.take i).flatten++ls[i]:=by
 rw [List.take_succ_eq_append_getElem h,List.flatten_append];simp
theorem flat_len [LB] {ls:List (List Tr.Nd)} {i:Nat} (h:i < ls.length):(ls.take i).flatten.length+ls[i].length≤ls.flatten.length:=by
 have e:ls.flatten=(ls.take (i+1)).flatten++(ls.drop (i+1)).flatten:=by rw [← List.flatten_append,List.take_append_drop]
 rw [e,flat_take h,List.length_append,List.length_append];omega
theorem Zr [LB] (a b:List Tr.Nd):X2 (a++b)=X2 a++X2 b:=by unfold X2;rw [List.flatMap_append]
theorem K4 [LB] (l:List Tr.Nd):∀ u∈X2 l,u.oneCell'=true:=by
 intro u hu
 obtain ⟨d,_,hd⟩:=List.mem_flatMap.mp hu
 exact Tr.nd_oneP d u hd
theorem XK [LB] (W:World) (cs:List Value) (t:TypeId) (q:Nat) (hq:q=W.heap.size):∀ (j:Nat) (u:Value),cs[j]?=some u→(W.alloc (.cells cs.toArray t)).cell? ((⟨q,0,none⟩:Addr).add j)=some u:=Jy W cs t q hq
theorem ZN [LB] {w:World} {base base' size:Nat} {e:TypeId} {v:Value} {n:Nat} {xs:List Value} (h:w.ownsRow base e size v n xs) (hb:base'≤base):w.ownsRow base' e size v n xs:=by
 refine ⟨h.1,?_⟩
 rcases h.2 with h1 | ⟨g',cap',cur,hv,h2,h3⟩
 ·exact .inl h1
 ·exact .inr ⟨g',cap',cur,hv,Nat.le_trans hb h2,h3⟩
def ndV (d:Tr.Nd):Value:= .agg #[.int .i64 d.kind,.int .i64 d.op,.int .i64 d.n,.string d.text,.int .i64 d.kids]
set_option maxRecDepth 100000 in
set_option maxHeartbeats 4000000 in
theorem over_any [LB] (d:Tr.Nd) (ls:List (List Tr.Nd)) (v:Value) (w:World) (h:PR w v ls) (hf:ls.flatten.length≤100000000) (hl:ls.length≤1000000) (hsd:d.text.size≤1000000:=by first | exact Short.le _ | exact Nat.le_of_ble_eq_true rfl | assumption) :
  Calls Tryz.prog 64 #[ndV d,v] w fun e w'=>∃ v',e = .returned v'∧NR w' v' (ls.flatten++[{d with kids:=ls.length}])∧Below w.heap.size w w':=by
 obtain ⟨iN,hN,hNz,hNs,hNb⟩:=info_parts Tryz.infoNdP
 obtain ⟨dk,r,dn,dt,dc⟩:=d
 unfold ndV
 obtain ⟨fl,z⟩:∃ fl,ls.flatten=fl:=⟨_,rfl⟩
 rw [z] at hf ⊢
 have HSH:Hid (Sh (fl++[⟨dk,r,dn,dt,ls.length⟩])):=X1 (by rw [← z];obtain ⟨vs,_,h2⟩:=h;exact sh_app (sh_flat h2) (sh_one hsd))
 have HFL:=X1 z
 clear z hsd
 obtain ⟨vs,h1,h2⟩:=h
 obtain ⟨vp,vc,rfl⟩:=Xc h1
 have C:=X1 h1
 have HV2:=X1 h2
 have HF:=X1 hf
 clear h1 h2 hf
 have B0:Hid (Below w.heap.size w ((w.alloc (.cells #[.int .i64 dk,.int .i64 r,.int .i64 dn,.string dt,.int .i64 dc] 35)).alloc (.cells #[] 35))):=X1 ((bA _).alloc (by simp) _)
 have X0:Hid (((w.alloc (.cells #[.int .i64 dk,.int .i64 r,.int .i64 dn,.string dt,.int .i64 dc] 35)).alloc (.cells #[] 35)).heap[w.heap.size]?=some (.cells #[.int .i64 dk,.int .i64 r,.int .i64 dn,.string dt,.int .i64 dc] 35)):=X1 (by
  rw [(bA _).block _ (by simp)];exact Xi _ _)
 have R0:Hid (((w.alloc (.cells #[.int .i64 dk,.int .i64 r,.int .i64 dn,.string dt,.int .i64 dc] 35)).alloc (.cells #[] 35)).ownsRow (w.heap.size+1) 35 5 (.slice (some ⟨w.heap.size+1,0,none⟩) 0 0) 0 []):=X1 (by
  have:=World.ownsRow_lit (base:=w.heap.size+1) (e:=35) (size:=5) (w.alloc (.cells #[.int .i64 dk,.int .i64 r,.int .i64 dn,.string dt,.int .i64 dc] 35)) #[] 0 (by simp) (Nat.zero_le _) rfl
  simpa using this)
 go_enter Tryz.func64,Tryz.ntmps64
 go_wp2_with fail
 go_loopw [5,6] (fun s t wr=>∃ (i:Nat) (k:List Tr.Nd),i≤ls.length∧t = .int .i64 i∧k=(ls.take i).flatten∧wr.ownsRow (w.heap.size+1) 35 5 s k.length (X2 k)∧Below w.heap.size w wr∧wr.heap[w.heap.size]?=some (.cells #[.int .i64 dk,.int .i64 r,.int .i64 dn,.string dt,.int .i64 dc] 35)) (fun _ t _=>ls.length - (intOf t).toNat)
 case atStart=>exact ⟨0,[],Nat.zero_le _,rfl,rfl,R0.o,B0.o,X0.o⟩
 case round =>
  obtain ⟨i,k,hi,rfl,a0,hR,hB,hX⟩:=hrel
  have HA:=X1 a0
  clear a0
  have hxl:w.heap.size < wr.heap.size:=World.block_lt_of_cell? wr ⟨w.heap.size,0,none⟩ (u:= .int .i64 dk) (by rw [World.cell?,hX];rfl)
  obtain ⟨sp,sc,hs⟩:=Xc hR
  subst hs
  have HR:=X1 hR
  have HB:=X1 hB
  have HX:=X1 hX
  clear hR hB hX
  by_cases hlt:i < ls.length
  ·obtain ⟨u,hu,hn,a1⟩:=HV2.o i hlt
   obtain ⟨gi,ci,hu2⟩:=hn.form a1
   subst hu2
   have hln:k.length+ls[i].length≤100000000:=by rw [HA.o];exact Nat.le_trans (flat_len hlt) (by rw [HFL.o];exact HF.o)
   have HFT:=X1 (flat_take hlt)
   rw [← HA.o] at HFT
   have hn':=hn.below (HB.o.mono (Nat.le_refl _))
   have hcl:∀ (j:Nat) (x:Value),(X2 ls[i])[j]?=some x→wr.cell? ((⟨gi,0,none⟩:Addr).add j)=some x:=World.ownsRow.cells hn'.1 rfl
   have hnl:(X2 ls[i]).length=ls[i].length*5:=hn'.1.1
   obtain ⟨vg,hvp⟩:∃ g,vp=some ⟨g,0,none⟩:=by
    rcases C.o.2 with ⟨_,h0⟩ | ⟨g,c,_,h2,_⟩
    ·omega
    ·cases h2;exact ⟨g,rfl⟩
   subst hvp
   have hci:wr.cell? ⟨vg,i,none⟩=some (.slice (some ⟨gi,0,none⟩) ls[i].length ci):=(HB.o.cell (p:=⟨vg,i,none⟩) ((C.o.lt vg rfl).2)).trans (by have:=C.o.cells rfl i _ hu;rwa [Xl,Nat.zero_add] at this)
   generalize ls[i]=li at *
   go_wp2_with (at_builtin;refine wpList_append_own_at _ rfl _ _ 23 rfl (w.heap.size+1) 35 iN _ 5 48 Tryz.underlying23 hN hNz hNs hNb rfl (by decide) _ k.length (X2 k) rfl HR.o ⟨gi,0,none⟩ li.length ci (X2 li) rfl hnl hcl (K4 li) (by unfold maxLen;omega) (by omega) (by omega) ?_)
   intro v10 w5 f b m y
   have A:=X1 (HB.o.grown b HB.o.size (fun q e=>by have:=(HR.o.lt q e).1;omega))
   have HX5:=X1 ((b.block w.heap.size hxl (fun e=>by have:=(HR.o.lt _ e.symm).1;omega)).trans HX.o)
   obtain ⟨sp5,sc5,D⟩:=Xc f
   subst D
   have B:=X1 f
   clear f b m y
   go_wp2
   go_roundw
   case rel=>exact ⟨i+1,_,hlt,by go_num,HFT.o.symm,by rw [List.length_append,Zr];exact B.o,A.o,HX5.o⟩
   case measure=>simp [intOf];omega
  ·have hie:i=ls.length:=by omega
   subst hie
   have hlen:=HF.o
   obtain rfl:k=fl:=by rw [HA.o,List.take_length];exact HFL.o
   have x0:wr.cell? ⟨w.heap.size,0,none⟩=some (.int .i64 dk):=by rw [World.cell?,HX.o];rfl
   have x1:wr.cell? ⟨w.heap.size,1,none⟩=some (.int .i64 r):=by rw [World.cell?,HX.o];rfl
   have x2:wr.cell? ⟨w.heap.size,2,none⟩=some (.int .i64 dn):=by rw [World.cell?,HX.o];rfl
   have x3:wr.cell? ⟨w.heap.size,3,none⟩=some (.string dt):=by rw [World.cell?,HX.o];rfl
   have x4:wr.cell? ⟨w.heap.size,4,none⟩=some (.int .i64 dc):=by rw [World.cell?,HX.o];rfl
   have f4:wr.frozen? ⟨w.heap.size,4,none⟩=false:=by rw [World.frozen?,HX.o];simp
   have HS:Hid ((wr.setCell ⟨w.heap.size,4,none⟩ (.int .i64 ls.length)).ownsRow (w.heap.size+1) 35 5 (.slice sp k.length sc) k.length (X2 k)):=X1 (ownsRow_setCell_below HR.o (show w.heap.size < w.heap.size+1 by omega) _)
   have HBS:Hid (Below w.heap.size w (wr.setCell ⟨w.heap.size,4,none⟩ (.int .i64 ls.length))):=X1 (HB.o.setCell (p:=⟨w.heap.size,4,none⟩) (Nat.le_refl _) _)
   have HSZ:Hid ((wr.setCell ⟨w.heap.size,4,none⟩ (.int .i64 ls.length)).heap.size=wr.heap.size):=X1 (by simp)
   go_wp2_with (at_builtin;refine wpList_append_own_at _ rfl _ _ 23 rfl (w.heap.size+1) 35 iN _ 5 48 Tryz.underlying23 hN hNz hNs hNb rfl (by decide) _ k.length (X2 k) rfl (HS.o.alloc _) ⟨wr.heap.size,0,none⟩ 1 1 [.int .i64 dk,.int .i64 r,.int .i64 dn,.string dt,.int .i64 ls.length] rfl rfl (XK _ [_,_,_,_,_] _ _ HSZ.o.symm) (by simp [Value.oneCell']) (by unfold maxLen;omega) (by omega) (by simp;omega) ?_)
   intro v10 w5 f b m y
   obtain ⟨sp5,sc5,D⟩:=Xc f
   subst D
   have A:=X1 ((HBS.o.alloc HBS.o.size (.cells #[.int .i64 dk,.int .i64 r,.int .i64 dn,.string dt,.int .i64 ls.length] 35)).grown b (by simp;omega) (fun q e=>by have:=(HS.o.lt q e).1;omega))
   have B:=X1 f
   clear f b m y
   go_wp2
   go_ret
   refine ⟨_,rfl,?_,A.o⟩
   refine ⟨?_,HSH.o⟩
   rw [List.length_append,Zr]
   exact ZN B.o (Nat.zero_le _)
def Mk (w:World) (n:Nat) (e:Ending) (w':World):Prop:=∃ v' l,e = .returned v'∧NR w' v' l∧0 < l.length∧l.length≤n∧Below w.heap.size w w'
theorem XF [LB] (d:Tr.Nd) (ls:List (List Tr.Nd)) (v:Value) (w:World) (m:Nat) (h:PR w v ls) (hf:ls.flatten.length≤m) (hm:m≤100000000) (hl:ls.length≤1000000) (hsd:d.text.size≤1000000:=by first | exact Short.le _ | exact Nat.le_of_ble_eq_true rfl | assumption) :
  Calls Tryz.prog 64 #[ndV d,v] w fun e w'=>Mk w (m+1) e w' :=
 (over_any d ls v w h (Nat.le_trans hf hm) hl hsd).mono fun _ _ ⟨v',h1,h2,h3⟩=>⟨v',_,h1,h2,by simp,by simp only [List.length_append,List.length_cons,List.length_nil];omega,h3⟩
theorem Qg [LB] (w:World) (d:Tr.Nd) (hsd:d.text.size≤1000000:=by first | exact Short.le _ | exact Nat.le_of_ble_eq_true rfl | assumption):NR (w.alloc (.cells #[.int .i64 d.kind,.int .i64 d.op,.int .i64 d.n,.string d.text,.int .i64 d.kids] 35)) (.slice (some ⟨w.heap.size,0,none⟩) 1 1) [d]:=by
 have:=World.ownsRow_lit (base:=0) (e:=35) (size:=5) w #[.int .i64 d.kind,.int .i64 d.op,.int .i64 d.n,.string d.text,.int .i64 d.kids] 1 (Nat.zero_le _) (by unfold maxLen;omega) rfl
 exact ⟨this,sh_one hsd⟩
theorem fl1 [LB] (a:List Tr.Nd):[a].flatten.length=a.length:=by simp
theorem fl2 [LB] (a b:List Tr.Nd):[a,b].flatten.length=a.length+b.length:=by simp
theorem fl3 [LB] (a b c:List Tr.Nd):[a,b,c].flatten.length=a.length+b.length+c.length:=by simp [Nat.add_assoc]
theorem pr_new [LB] (w:World) (vs:List Value) (ls:List (List Tr.Nd)) (hl:vs.length=ls.length) (hn:ls.length≤1000) (h:∀ i (hi:i < ls.length),∃ u,vs[i]?=some u∧NR w u ls[i]∧0 < ls[i].length):PR (w.alloc (.cells vs.toArray 23)) (.slice (some ⟨w.heap.size,0,none⟩) ls.length ls.length) ls:=by
 have:=World.ownsRow_lit (base:=0) (e:=23) (size:=1) w vs.toArray ls.length (Nat.zero_le _) (by unfold maxLen;omega) (by simp [hl])
 refine ⟨vs,this,fun i hi=>?_⟩
 obtain ⟨u,a,b,c⟩:=h i hi
 exact ⟨u,a,b.below (bA _),c⟩
theorem pr1 [LB] {w:World} {v1:Value} {l1:List Tr.Nd} (h1:NR w v1 l1) (k1:0 < l1.length):PR (w.alloc (.cells #[v1] 23)) (.slice (some ⟨w.heap.size,0,none⟩) 1 1) [l1] :=
 pr_new w [v1] [l1] rfl (by simp) (fun i hi=>by
  match i,hi with
  | 0,_=>exact ⟨_,rfl,h1,k1⟩)
theorem pr2 [LB] {w:World} {v1 v2:Value} {l1 l2:List Tr.Nd} (h1:NR w v1 l1) (h2:NR w v2 l2) (k1:0 < l1.length) (k2:0 < l2.length):PR (w.alloc (.cells #[v1,v2] 23)) (.slice (some ⟨w.heap.size,0,none⟩) 2 2) [l1,l2] :=
 pr_new w [v1,v2] [l1,l2] rfl (by simp) (fun i hi=>by
  match i,hi with
  | 0,_=>exact ⟨_,rfl,h1,k1⟩
  | 1,_=>exact ⟨_,rfl,h2,k2⟩)
theorem pr3 [LB] {w:World} {v1 v2 v3:Value} {l1 l2 l3:List Tr.Nd} (h1:NR w v1 l1) (h2:NR w v2 l2) (h3:NR w v3 l3) (k1:0 < l1.length) (k2:0 < l2.length) (k3:0 < l3.length):PR (w.alloc (.cells #[v1,v2,v3] 23)) (.slice (some ⟨w.heap.size,0,none⟩) 3 3) [l1,l2,l3] :=
 pr_new w [v1,v2,v3] [l1,l2,l3] rfl (by simp) (fun i hi=>by
  match i,hi with
  | 0,_=>exact ⟨_,rfl,h1,k1⟩
  | 1,_=>exact ⟨_,rfl,h2,k2⟩
  | 2,_=>exact ⟨_,rfl,h3,k3⟩)
theorem mk_one [LB] (w:World) (d:Tr.Nd) (hsd:d.text.size≤1000000:=by first | exact Short.le _ | exact Nat.le_of_ble_eq_true rfl | assumption):Mk w 1 (.returned (.slice (some ⟨w.heap.size,0,none⟩) 1 1)) (w.alloc (.cells #[.int .i64 d.kind,.int .i64 d.op,.int .i64 d.n,.string d.text,.int .i64 d.kids] 35)) :=
 ⟨_,_,rfl,Qg w d hsd,by simp,by simp,bA _⟩
set_option maxHeartbeats 400000 in
theorem ZJ [LB] (s:ByteArray) (w:World) (hss:s.size≤1000000:=by first | exact Short.le _ | exact Nat.le_of_ble_eq_true rfl | assumption):Calls Tryz.prog 113 #[.string s] w fun e w'=>Mk w 1 e w':=by
 go_enter Tryz.func113,Tryz.ntmps113
 go_wp2
 go_ret
 exact mk_one w ⟨4,0,0,s,0⟩ hss
set_option maxHeartbeats 400000 in
theorem Jb [LB] (s:ByteArray) (w:World) (hss:s.size≤1000000:=by first | exact Short.le _ | exact Nat.le_of_ble_eq_true rfl | assumption):Calls Tryz.prog 115 #[.string s] w fun e w'=>Mk w 1 e w':=by
 go_enter Tryz.func115,Tryz.ntmps115
 go_wp2
 go_ret
 exact mk_one w ⟨5,0,0,s,0⟩ hss
set_option maxHeartbeats 400000 in
theorem ZF [LB] (z:Int) (w:World):Calls Tryz.prog 63 #[.int .i64 z] w fun e w'=>Mk w 1 e w':=by
 go_enter Tryz.func63,Tryz.ntmps63
 go_wp2
 go_ret
 exact mk_one w ⟨3,0,z,⟨#[]⟩,0⟩
set_option maxHeartbeats 1000000 in
theorem KC [LB] (op:Int) (va vb:Value) (la lb:List Tr.Nd) (m:Nat) (w:World) (ha:NR w va la) (hb:NR w vb lb) (ka:0 < la.length) (kb:0 < lb.length) (hm:la.length+lb.length≤m) (hm2:m≤100000000) :
  Calls Tryz.prog 117 #[.int .i64 op,va,vb] w fun e w'=>Mk w (m+1) e w':=by
 have HP:=X1 (XF ⟨7,op,0,⟨#[]⟩,0⟩ [la,lb] _ _ m (pr2 ha hb ka kb) (by simpa using hm) hm2 (by simp))
 unfold ndV at HP
 obtain ⟨ga,ca,hva⟩:=ha.form ka
 obtain ⟨gb,cb,hvb⟩:=hb.form kb
 subst hva hvb
 clear ha hb
 go_enter Tryz.func117,Tryz.ntmps117
 go_wp2_with fail
 refine HP.o.mono ?_
 rintro e w1 ⟨v',l,rfl,h1,h2,h3,h4⟩
 go_wp2
 go_ret
 exact ⟨_,_,rfl,h1,h2,h3,(((Below.refl w.heap.size w).alloc (Nat.le_refl _) _).trans (h4.mono (by simp)))⟩
theorem pr_cons [LB] {w:World} {ls:List (List Tr.Nd)} {l1:List Tr.Nd} {v1 v:Value} {xs:List Value} (hx:w.ownsRow 0 23 1 v (ls.length+1) (v1 :: xs)) (h1:NR w v1 l1) (k1:0 < l1.length) (h:∀ i (hi:i < ls.length),∃ u,xs[i]?=some u∧NR w u ls[i]∧0 < ls[i].length):PR w v (l1 :: ls) :=
 ⟨v1 :: xs,hx,fun i hi=>by
  match i,hi with
  | 0,_=>exact ⟨_,rfl,h1,k1⟩
  | i+1,hi=>exact h i (by simpa using hi)⟩
set_option maxRecDepth 100000 in
set_option maxHeartbeats 1000000 in
theorem YM [LB] (s:ByteArray) (ls:List (List Tr.Nd)) (v:Value) (w:World) (m:Nat) (h:PR w v ls) (hf:ls.flatten.length≤m) (hm:m≤10000000) (hl:ls.length≤1000) (hpos:0 < ls.length) (hss:s.size≤1000000:=by first | exact Short.le _ | exact Nat.le_of_ble_eq_true rfl | assumption) :
  Calls Tryz.prog 116 #[.string s,v] w fun e w'=>Mk w (m+2) e w':=by
 obtain ⟨iN,hN,hNz,hNs,hNb⟩:=info_parts Tryz.infoNdsC
 have H:=X1 h
 obtain ⟨vs,h1,h2⟩:=h
 obtain ⟨vg,vc,hv⟩:∃ g c,v = .slice (some ⟨g,0,none⟩) ls.length c:=by
  rcases h1.2 with ⟨_,h0⟩ | ⟨g,c,_,h2,_⟩
  ·omega
  ·exact ⟨g,c,h2⟩
 subst hv
 have HNM:=X1 (Jb s w)
 have k:=X1 h1
 have HV2:=X1 h2
 clear h1 h2
 go_enter Tryz.func116,Tryz.ntmps116
 go_wp2_with fail
 refine HNM.o.mono ?_
 rintro e w1 ⟨v1,l1,rfl,n1,n2,n3,b1⟩
 have b2:=b1.alloc b1.size (.cells #[v1] 23)
 have a0:(w1.alloc (.cells #[v1] 23)).ownsRow w.heap.size 23 1 (.slice (some ⟨w1.heap.size,0,none⟩) 1 1) 1 [v1]:=World.ownsRow_lit (base:=w.heap.size) (e:=23) (size:=1) w1 #[v1] 1 b1.size (by unfold maxLen;omega) rfl
 have hcl:∀ (j:Nat) (x:Value),vs[j]?=some x→(w1.alloc (.cells #[v1] 23)).cell? ((⟨vg,0,none⟩:Addr).add j)=some x:=fun j x hx=>by
  have:=k.o.cells rfl j x hx
  rw [Xl] at this ⊢
  exact (b2.cell (p:=⟨vg,0+j,none⟩) (k.o.lt vg rfl).2).trans this
 have a2:∀ u∈vs,u.oneCell'=true:=fun u hu=>by
  obtain ⟨j,hj⟩:=List.getElem?_of_mem hu
  obtain ⟨u',a,b,c⟩:=HV2.o j (by have:=k.o.1;rcases Nat.lt_or_ge j ls.length with h | h;exact h;rw [List.getElem?_eq_none (by omega)] at hj;cases hj)
  rw [a] at hj
  obtain ⟨g,c',hc'⟩:=b.form c
  rw [← Option.some.inj hj,hc']
  rfl
 obtain ⟨g1,c1,hv1⟩:=n1.form n2
 subst hv1
 have hvl:=k.o.1
 go_wp2_with (at_builtin;refine wpList_append_own_at _ rfl _ _ 106 rfl w.heap.size 23 iN _ 1 24 Tryz.underlying106 hN hNz hNs hNb rfl (by decide) _ 1 [_] rfl a0 ⟨vg,0,none⟩ ls.length vc vs rfl hvl hcl a2 (by unfold maxLen;omega) (by omega) b2.size ?_)
 intro v10 w5 f d a1 a4
 have b5:=b2.grown d b2.size (fun q e=>by cases e;exact b1.size)
 have a3:Below w1.heap.size w1 w5:=((Below.refl w1.heap.size w1).alloc (Nat.le_refl _) (.cells #[.slice (some ⟨g1,0,none⟩) l1.length c1] 23)).grown d (by simp) (fun q e=>by cases e;exact Nat.le_refl _)
 obtain ⟨sp5,sc5,hs5⟩:=Xc f
 subst hs5
 have HPR:Hid (PR w5 (.slice sp5 (1+ls.length) sc5) (l1 :: ls)):=X1 (by
  refine pr_cons (by rw [Nat.add_comm ls.length 1];exact ZN f (Nat.zero_le _)) (n1.below a3) n2 (fun i hi=>?_)
  obtain ⟨u,a,b,c⟩:=HV2.o i hi
  exact ⟨u,a,b.below b5,c⟩)
 have HO:=X1 (XF ⟨12,0,0,⟨#[]⟩,0⟩ (l1 :: ls) _ w5 (m+1) HPR.o (by simp only [List.flatten_cons,List.length_append];omega) (by omega) (by simp only [List.length_cons];omega))
 unfold ndV at HO
 have HB5:=X1 b5
 clear f d a1 a4 b5 b2 a3 hcl a2 a0
 go_wp2_with fail
 refine HO.o.mono ?_
 rintro e w6 ⟨v',l,rfl,h1,h2,h3,h4⟩
 go_wp2
 go_ret
 exact ⟨_,_,rfl,h1,h2,h3,HB5.o.trans (h4.mono HB5.o.size)⟩
theorem step_call1C [LB] {P:Program} {ops:Array Oper} {o:Oper} {a:Act} {w:World} {K:Act→World→Prop} {Q:Exit→Act→World→Prop} {E:Prop}
  (hg:o.guard=none) (f:FuncId) (x:Operand) (t:TypeId) (hop:o.op=Op.call {callee:=Callee.value (Operand.func f),args:=#[x],argTypes:=#[t]})
  (v r:Value) (hx:a.eval x=v) (fn:Func) (hfn:P.funcs[f]?=some fn) (hne:(fn.name == "runtime.NumGoroutine")=false) (hbd:fn.body.isNone=false) (R:World→Prop) (hC:Calls P f #[v] w fun e w'=>e = .returned r∧R w') (hK:∀ w',R w'→K (a.put o.dst r) w') :
  if Region.wanted o (yielded ops a.tmps)=true then Oper.wp P o a w K Q else E:=by
 have hw:Region.wanted o (yielded ops a.tmps)=true:=by simp [Region.wanted,hg]
 rw [if_pos hw]
 have h1:(callFunc f #[v]).run P w = .ok (.enter f #[v]) w:=by
  simp only [callFunc,Sem.run_bind,run_program,Result.andThen_ok,hfn,hne,hbd];rfl
 unfold Oper.wp
 simp only [execOp,hop,resolve,invoke,List.map_toArray,List.map_cons,List.map_nil,hx,Deferred.ofValue,Sem.run_bind]
 rw [show a.eval (Operand.func f)=Value.func (Fn.func f) #[] #[] from rfl]
 simp only [Sem.run_pure,Result.andThen_ok]
 simp [h1]
 refine hC.mono fun e w2 h=>?_
 obtain ⟨rfl,h2⟩:=h
 exact hK _ h2
def Tr.dgC (n:Nat):UInt8:=UInt8.ofNat (48+n % 10)
def YB (n:Nat):List UInt8:=if _h:n < 10 then [Tr.dgC n] else YB (n / 10)++[Tr.dgC n]
theorem Zi [LB] (n:Nat):(YB n).length≤n / 10+1:=by
 induction n using Nat.strongRecOn with
 | ind n ih =>
  rw [YB]
  by_cases h:n < 10
  ·rw [dif_pos h];simp
  ·rw [dif_neg h]
   have:=ih (n / 10) (by omega)
   simp only [List.length_append,List.length_cons,List.length_nil]
   omega
theorem cell_byteC [LB] (W:World) (x:Int):(W.alloc (.cells #[.int .u8 x] 5)).cell? ⟨W.heap.size,0,none⟩=some (.int .u8 x):=by simp
theorem str_snocC [LB] (o:List UInt8) (c:UInt8):(⟨o.toArray⟩:ByteArray)++⟨#[c]⟩=⟨(o++[c]).toArray⟩:=by
 rw [← Lib.mk_data (⟨o.toArray⟩++⟨#[c]⟩)]
 congr 1
theorem QR [LB] {B:Nat} {a w:World} (h:Below B a.drew w):Below B a w:=⟨h.os,h.tape,h.output,h.size,h.block⟩
theorem Ja [LB] (W:World) (g:Nat) (j:Nat) (x:Int) (hx:x=48+(j:Int) % 10) (h:W.cell? ⟨g,0,none⟩=some (.int .u8 x)):(convert 22 9 (.slice (some ⟨g,0,none⟩) 1 1)).run Tryz.prog W = .ok (.string ⟨#[Tr.dgC j]⟩) W:=by
 have:=run_convert_bytes_arg (P:=Tryz.prog) W 22 5 Tryz.underlying22 Tryz.underlying5 g 0 1 1 [x] rfl (fun i hi=>by
  obtain rfl:i=0:=by omega
  simpa using h) 9 Tryz.underlying9
 rw [this]
 subst hx
 have e:(48+(j:Int) % 10).toNat=48+j % 10:=by omega
 simp [strOfNums,e,Tr.dgC]
set_option maxRecDepth 100000 in
set_option maxHeartbeats 1000000 in
theorem ZU [LB] (n:Nat):∀ (w:World),n≤9223372036854775807→Calls Tryz.prog 62 #[.int .i64 n] w fun e w'=>e = .returned (.string ⟨(YB n).toArray⟩)∧Below w.heap.size w w':=by
 induction n using Nat.strongRecOn with
 | ind n ih =>
  intro w hn
  by_cases h:n < 10
  ·have h':((n:Int) < 10):=by omega
   have hcv:=Ja (w.alloc (.cells #[.int .u8 (48+(n:Int))] 5)) w.heap.size n (48+(n:Int)) (by omega) (by simp)
   have HD:=X1 (show YB n=[Tr.dgC n] by rw [YB,dif_pos h])
   go_enter Tryz.func62,Tryz.ntmps62
   go_wp2
   go_ret
   exact ⟨by rw [HD.o];rfl,bA _⟩
  ·have h':¬ ((n:Int) < 10):=by omega
   have HD:=X1 (show YB n=YB (n / 10)++[Tr.dgC n] by rw [YB,dif_neg h])
   have HI:=X1 (fun w'=>ih (n / 10) (by omega) w' (by omega))
   clear ih
   have ht:(n:Int).tmod 10=(n:Int) % 10:=Int.tmod_eq_emod_of_nonneg (by omega)
   have hq:IntKind.i64.wrap ((n:Int) / 10)=(n:Int) / 10:=by rw [IntKind.wrap_i64];omega
   have hr:IntKind.i64.wrap (48+(n:Int) % 10)=48+(n:Int) % 10:=by rw [IntKind.wrap_i64];omega
   have hu:IntKind.u8.wrap (48+(n:Int) % 10)=48+(n:Int) % 10:=by rw [IntKind.wrap_u8];omega
   have b:(w.alloc (.cells #[.int .u8 (48+(n:Int) % 10)] 5)).drew.cell? ⟨w.heap.size,0,none⟩=some (.int .u8 (48+(n:Int) % 10)):=cell_byteC w _
   have hlen:¬ 9223372036854775807 < (YB (n / 10)).length+1:=by have:=Zi (n / 10);omega
   have hcvD:=Ja (w.alloc (.cells #[.int .u8 (48+(n:Int) % 10)] 5)).drew w.heap.size n _ rfl b
   have HCL:=X1 b
   clear b
   go_enter Tryz.func62,Tryz.ntmps62
   go_wp2_with fail
   go_region_law (first
    | (refine step_call1C rfl 62 (.tmp 11) 2 rfl (.int .i64 (n / 10:Nat)) (.string ⟨(YB (n / 10)).toArray⟩) (by simp [Act.eval,Act.put]) Tryz.f62 Tryz.func62 (by kernel_rfl) (by kernel_rfl) _ (HI.o w.drew) ?_;intro w5 a;have hcvA:=Ja (w5.alloc (.cells #[.int .u8 (48+(n:Int) % 10)] 5)) w5.heap.size n _ rfl (by simp))
    | (refine step_call1C rfl 62 (.tmp 11) 2 rfl (.int .i64 (n / 10:Nat)) (.string ⟨(YB (n / 10)).toArray⟩) (by first | (simp [Act.eval];done) | simp [Act.eval,Act.put]) Tryz.f62 Tryz.func62 (by kernel_rfl) (by kernel_rfl) _ (HI.o (w.alloc (.cells #[.int .u8 (48+(n:Int) % 10)] 5)).drew) ?_;intro w5 a;have hcvB:=Ja w5 w.heap.size n (48+(n:Int) % 10) rfl ((a.cell (p:=⟨w.heap.size,0,none⟩) (by show w.heap.size < (w.alloc (.cells #[.int .u8 (48+(n:Int) % 10)] 5)).heap.size;simp)).trans HCL.o)))
   all_goals
    go_wp2
    go_ret
    refine ⟨by rw [HD.o,← str_snocC];rfl,?_⟩
    first
     | exact (QR a).alloc a.size _
     | exact ((Below.refl _ w).alloc (Nat.le_refl _) _).trans ((QR a).mono (by simp))
end Go.Proofs.YtimbaebigjjkaaaGreatDoor
