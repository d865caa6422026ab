/- Tkc, Cb, Cz. -/
import Derived.Test.YtbckhbeebngjfaaGreatDoorT27
import Derived.Test.YtbckhbeebngjfaaGreatDoorT21
import Derived.Test.YtbckhbeebngjfaaGreatDoorT06
import Derived.Deep.RegionLaw
namespace Go.Proofs.YtbckhbeebngjfaaGreatDoor
open Go.RowKit
set_option maxRecDepth 100000 in
set_option maxHeartbeats 1000000 in
theorem validT_nil (w:World):Calls Tryz.prog 34 #[.agg #[.slice none 0 0]] w fun e w'=>e = .returned (.bool false)∧Below w.heap.size w w':=by
 have r1:Below w.heap.size w (w.alloc (.cells #[.slice none 0 0] 50)):=bA _
 have hin:Tr.inr 0 1 5000=false:=by decide
 go_enter Tryz.func34,Tryz.ntmps34
 go_wp2_with (go_at_call 50;refine (in_any _ _ _ _).mono ?_;rintro e w' ⟨rfl,rfl⟩)
 go_ret
 exact ⟨rfl,r1⟩
set_option maxRecDepth 100000 in
set_option maxHeartbeats 1000000 in
theorem NR.casesT {w:World} {v:Value} {l:List Tr.Nd} (h:NR w v l):(v = .slice none 0 0∧l=[])∨∃ g c,v = .slice (some ⟨g,0,none⟩) l.length c∧NodesAt w g l:=by
 have h1:=h.1
 rcases h1.2 with ⟨hv,h0⟩ | ⟨g,c,cur,hv,_⟩
 ·exact .inl ⟨hv,List.length_eq_zero_iff.1 h0⟩
 ·subst hv;exact .inr ⟨g,c,rfl,nodesAt_row h1⟩
set_option maxRecDepth 100000 in
set_option maxHeartbeats 4000000 in
theorem print_nil (w:World):Calls Tryz.prog 16 #[.agg #[.slice none 0 0]] w fun e w'=>e = .returned (.string ⟨#[]⟩)∧Below w.heap.size w w':=by
 have HV:=hide (validT_nil (w.alloc (.cells #[.slice none 0 0] 50)))
 go_enter Tryz.func16,Tryz.ntmps16
 go_wp2_with fail
 refine HV.out.mono ?_
 rintro e w1 ⟨rfl,b1⟩
 go_wp2
 go_ret
 exact ⟨rfl,(bA _).trans (b1.mono (by simp))⟩
set_option maxRecDepth 100000 in
set_option maxHeartbeats 4000000 in
theorem print_some (ns:List Tr.Nd) (tg tc:Nat) (w:World) (hn:ns.length≤1048576) (ht:NodesAt w tg ns) :
  Calls Tryz.prog 16 #[.agg #[.slice (some ⟨tg,0,none⟩) ns.length tc]] w fun e w'=>∃ s:ByteArray,e = .returned (.string s)∧s.size≤8000∧Below w.heap.size w w':=by
 have r1:Below w.heap.size w (w.alloc (.cells #[.slice (some ⟨tg,0,none⟩) ns.length tc] 50)):=bA _
 have HV:=hide (valid_any ns tg tc _ hn (ht.below r1))
 have HT:=hide ht
 clear ht
 cases hv:Tr.valid ns
 ·rw [hv] at HV
  go_enter Tryz.func16,Tryz.ntmps16
  go_wp2_with fail
  refine HV.out.mono ?_
  rintro e w1 ⟨rfl,b1⟩
  go_wp2
  go_ret
  exact ⟨_,rfl,Nat.zero_le _,r1.trans (b1.mono r1.size)⟩
 ·rw [hv] at HV
  have hin:1≤ns.length∧ns.length≤5000:=by
   have h:=hv
   unfold Tr.valid at h
   simp only [Bool.and_eq_true] at h
   have:=Tr.inr_true h.1.1.1
   omega
  have HV2:=hide hv
  have c0:(w.alloc (.cells #[.slice (some ⟨tg,0,none⟩) ns.length tc] 50)).cell? ⟨w.heap.size,0,none⟩=some (.slice (some ⟨tg,0,none⟩) ns.length tc):=by simp
  clear hv
  go_enter Tryz.func16,Tryz.ntmps16
  go_wp2_with fail
  refine HV.out.mono ?_
  rintro e w1 ⟨rfl,b1⟩
  have t0:=(b1.cell (p:=⟨w.heap.size,0,none⟩) (by simp)).trans c0
  have B1:=r1.trans (b1.mono r1.size)
  have hs1:w.heap.size < w1.heap.size:=by have:=b1.size;simp at this;omega
  have HK:=hide (kids_any ns tg tc w1 hn (HT.out.below B1))
  clear b1 c0 HV
  go_wp2_with fail
  refine HK.out.mono ?_
  rintro e w2 ⟨g4,c4,vs,rfl,hown,hrows,b2⟩
  have t1:=(b2.cell (p:=⟨w.heap.size,0,none⟩) hs1).trans t0
  have B2:=B1.trans (b2.mono B1.size)
  have hs2:w.heap.size < w2.heap.size:=by have:=b2.size;omega
  have r3:Below w2.heap.size w2 (w2.alloc (.cells #[.slice (some ⟨tg,0,none⟩) ns.length tc,.slice (some ⟨g4,0,none⟩) (Tr.kids ns).length c4] 70)):=bA _
  have HINK:Hid (Ink (w2.alloc (.cells #[.slice (some ⟨tg,0,none⟩) ns.length tc,.slice (some ⟨g4,0,none⟩) (Tr.kids ns).length c4] 70)) w2.heap.size tg tc g4 c4 ns (Tr.kids ns)):=hide (by
   have hgl:=(hown.lt g4 rfl).2
   refine ⟨by simp,by simp,by simp,(HT.out.below B2).below r3,by simp;omega,fun k hk=>?_⟩
   obtain ⟨g,c,a,_,_,_,d,e⟩:=hrows.2 k hk
   refine ⟨g,c,?_,d.below r3,e⟩
   exact (r3.cell (p:=⟨g4,k,none⟩) hgl).trans ((hown.cellAt k (by omega)).trans a))
  obtain ⟨S,hS,hSS⟩:=ink_root HINK.out HV2.out
  have t2:=(r3.cell (p:=⟨w.heap.size,0,none⟩) hs2).trans t1
  have HS:=hide (hSS _ (Below.refl _ _))
  have B3:=B2.trans (r3.mono B2.size)
  have el:IntKind.i64.wrap ((ns.length:Int) - 1)=((ns.length - 1:Nat):Int):=by rw [IntKind.wrap_i64];omega
  clear hSS HINK hown hrows b2 HK r3 t0
  go_wp2_with fail
  refine HS.out.mono ?_
  rintro e w4 ⟨rfl,b4⟩
  have B4:=B3.trans (b4.mono B3.size)
  clear b4 HS t1 t2
  by_cases h8:(8000:Int) < (S.size:Int)
  ·go_wp2
   go_ret
   exact ⟨_,rfl,Nat.zero_le _,B4⟩
  ·go_wp2
   go_ret
   exact ⟨_,rfl,by omega,B4⟩
theorem print_any (v:Value) (l:List Tr.Nd) (w:World) (h:NR w v l) (hl:l.length≤1048576):Calls Tryz.prog 16 #[.agg #[v]] w fun e w'=>∃ s:ByteArray,e = .returned (.string s)∧s.size≤8000∧Below w.heap.size w w':=by
 rcases h.casesT with ⟨rfl,_⟩ | ⟨g,c,rfl,hn⟩
 ·exact (print_nil w).mono fun e w' ⟨a,b⟩=>⟨_,a,Nat.zero_le _,b⟩
 ·exact print_some l g c w hl hn
theorem Tryz.infoNdsC:(Tryz.prog.info? 48).map (fun i=>(i.zero,i.size,i.bytes))=some (some (.slice none 0 0),1,24):=by kernel_rfl
theorem mine_nodes [Inhabited Bs]:¬ Mine (some 48):=by unfold Mine;simp
def PR (w:World) (v:Value) (ls:List (List Tr.Nd)):Prop:=∃ vs:List Value,w.ownsRow 0 48 1 v ls.length vs∧∀ i (h:i < ls.length),∃ u,vs[i]?=some u∧NR w u ls[i]∧0 < ls[i].length
theorem mineF_nodes [Inhabited Bs]:¬ MineF (some 48):=by unfold MineF Mine;simp
theorem PR.tf [Inhabited Bs] {w w':World} {v:Value} {ls:List (List Tr.Nd)} (h:PR w v ls) (hb:Tf w w'):PR w' v ls:=by
 obtain ⟨vs,h1,h2⟩:=h
 exact ⟨vs,row_ty h1 hb mineF_nodes,fun i hi=>by obtain ⟨u,a,b,c⟩:=h2 i hi;exact ⟨u,a,b.tf hb,c⟩⟩
theorem PR.ty [Inhabited Bs] {w w':World} {v:Value} {ls:List (List Tr.Nd)} (h:PR w v ls) (hb:Ty w w'):PR w' v ls:=by
 obtain ⟨vs,h1,h2⟩:=h
 exact ⟨vs,row_ty h1 hb mine_nodes,fun i hi=>by obtain ⟨u,a,b,c⟩:=h2 i hi;exact ⟨u,a,b.ty hb,c⟩⟩
theorem NR.below [Inhabited Bs] {w w':World} {v:Value} {l:List Tr.Nd} (h:NR w v l) (hb:Below w.heap.size w w'):NR w' v l:=h.ty (.of hb)
theorem PR.below [Inhabited Bs] {w w':World} {v:Value} {ls:List (List Tr.Nd)} (h:PR w v ls) (hb:Below w.heap.size w w'):PR w' v ls:=h.ty (.of hb)
theorem NR.form [Inhabited Bs] {w:World} {v:Value} {l:List Tr.Nd} (h:NR w v l) (hl:0 < l.length):∃ g c,v = .slice (some ⟨g,0,none⟩) l.length c:=by
 rcases h.1.2 with ⟨_,h0⟩ | ⟨g,c,_,h2,_⟩
 ·omega
 ·exact ⟨g,c,h2⟩
theorem sh_flat [Inhabited Bs] {w:World} {ls:List (List Tr.Nd)} {vs:List Value} (h:∀ i (h:i < ls.length),∃ u,vs[i]?=some u∧NR w u ls[i]∧0 < ls[i].length):Sh ls.flatten:=fun x hx=>by
 obtain ⟨l,hl,hxl⟩:=List.mem_flatten.1 hx
 obtain ⟨i,hi,rfl⟩:=List.getElem_of_mem hl
 obtain ⟨u,_,hn,_⟩:=h i hi
 exact hn.2 x hxl
theorem sh_one [Inhabited Bs] {d:Tr.Nd} (h:d.text.size≤1000000):Sh [d]:=fun x hx=>by
 obtain rfl:=List.mem_singleton.1 hx
 exact h
theorem sh_app [Inhabited Bs] {a b:List Tr.Nd} (ha:Sh a) (hb:Sh b):Sh (a++b):=fun x hx=>(List.mem_append.1 hx).elim (ha x) (hb x)
theorem flat_take [Inhabited Bs] {ls:List (List Tr.Nd)} {i:Nat} (h:i < ls.length):(ls.take (i+1)).flatten=(ls.take i).flatten++ls[i]:=by
 rw [List.take_succ_eq_append_getElem h,List.flatten_append];simp
theorem flat_len [Inhabited Bs] {ls:List (List Tr.Nd)} {i:Nat} (h:i < ls.length):(ls.take i).flatten.length+ls[i].length≤ls.flatten.length:=by
 have e:ls.flatten=(ls.take (i+1)).flatten++(ls.drop (i+1)).flatten:=by rw [← List.flatten_append,List.take_append_drop]
 rw [e,flat_take h,List.length_append,List.length_append];omega
theorem cellsOf_app [Inhabited Bs] (a b:List Tr.Nd):Tr.cellsOf (a++b)=Tr.cellsOf a++Tr.cellsOf b:=by unfold Tr.cellsOf;rw [List.flatMap_append]
theorem cells_oneC [Inhabited Bs] (l:List Tr.Nd):∀ u∈Tr.cellsOf l,u.oneCell'=true:=by
 intro u hu
 obtain ⟨d,_,hd⟩:=List.mem_flatMap.mp hu
 exact Tr.nd_oneP d u hd
theorem cells_litC [Inhabited Bs] (W:World) (cs:List Value) (t:TypeId) (q:Nat) (hq:q=W.heap.size):∀ (j:Nat) (u:Value),cs[j]?=some u→(W.alloc (.cells cs.toArray t)).cell? ((⟨q,0,none⟩:Addr).add j)=some u:=cells_litP W cs t q hq
theorem rowLeC [Inhabited Bs] {w:World} {base base' size:Nat} {e:TypeId} {v:Value} {n:Nat} {xs:List Value} (h:w.ownsRow base e size v n xs) (hb:base'≤base):w.ownsRow base' e size v n xs:=by
 refine ⟨h.1,?_⟩
 rcases h.2 with h1 | ⟨g',cap',cur,hv,h2,h3⟩
 ·exact .inl h1
 ·exact .inr ⟨g',cap',cur,hv,Nat.le_trans hb h2,h3⟩
def ndV (d:Tr.Nd):Value:= .agg #[.int .i64 d.kind,.int .i64 d.op,.int .i64 d.n,.string d.text,.int .i64 d.kids]
set_option maxRecDepth 100000 in
set_option maxHeartbeats 4000000 in
theorem over_any [Inhabited Bs] (d:Tr.Nd) (ls:List (List Tr.Nd)) (v:Value) (w:World) (h:PR w v ls) (hf:ls.flatten.length≤100000000) (hl:ls.length≤1000000) (hsd:d.text.size≤1000000:=by first | exact Short.le _ | exact Nat.le_of_ble_eq_true rfl | assumption) :
  Calls Tryz.prog 61 #[ndV d,v] w fun e w'=>∃ v',e = .returned v'∧NR w' v' (ls.flatten++[{d with kids:=ls.length}])∧Below w.heap.size w w':=by
 obtain ⟨iN,hN,hNz,hNs,hNb⟩:=info_parts Tryz.infoNdP
 obtain ⟨dk,dop,dn,dt,dc⟩:=d
 unfold ndV
 obtain ⟨fl,hfl⟩:∃ fl,ls.flatten=fl:=⟨_,rfl⟩
 rw [hfl] at hf ⊢
 have HSH:Hid (Sh (fl++[⟨dk,dop,dn,dt,ls.length⟩])):=hide (by rw [← hfl];obtain ⟨vs,_,h2⟩:=h;exact sh_app (sh_flat h2) (sh_one hsd))
 have HFL:=hide hfl
 clear hfl hsd
 obtain ⟨vs,h1,h2⟩:=h
 obtain ⟨vp,vc,rfl⟩:=row_formP h1
 have HV1:=hide h1
 have HV2:=hide h2
 have HF:=hide hf
 clear h1 h2 hf
 have B0:Hid (Below w.heap.size w ((w.alloc (.cells #[.int .i64 dk,.int .i64 dop,.int .i64 dn,.string dt,.int .i64 dc] 82)).alloc (.cells #[] 82))):=hide ((bA _).alloc (by simp) _)
 have X0:Hid (((w.alloc (.cells #[.int .i64 dk,.int .i64 dop,.int .i64 dn,.string dt,.int .i64 dc] 82)).alloc (.cells #[] 82)).heap[w.heap.size]?=some (.cells #[.int .i64 dk,.int .i64 dop,.int .i64 dn,.string dt,.int .i64 dc] 82)):=hide (by
  rw [(bA _).block _ (by simp)];exact heap_alloc_new' _ _)
 have R0:Hid (((w.alloc (.cells #[.int .i64 dk,.int .i64 dop,.int .i64 dn,.string dt,.int .i64 dc] 82)).alloc (.cells #[] 82)).ownsRow (w.heap.size+1) 82 5 (.slice (some ⟨w.heap.size+1,0,none⟩) 0 0) 0 []):=hide (by
  have:=World.ownsRow_lit (base:=w.heap.size+1) (e:=82) (size:=5) (w.alloc (.cells #[.int .i64 dk,.int .i64 dop,.int .i64 dn,.string dt,.int .i64 dc] 82)) #[] 0 (by simp) (Nat.zero_le _) rfl
  simpa using this)
 go_enter Tryz.func61,Tryz.ntmps61
 go_wp2_with fail
 go_loopw [5,6] (fun s t wr=>∃ (i:Nat) (acc:List Tr.Nd),i≤ls.length∧t = .int .i64 i∧acc=(ls.take i).flatten∧wr.ownsRow (w.heap.size+1) 82 5 s acc.length (Tr.cellsOf acc)∧Below w.heap.size w wr∧wr.heap[w.heap.size]?=some (.cells #[.int .i64 dk,.int .i64 dop,.int .i64 dn,.string dt,.int .i64 dc] 82)) (fun _ t _=>ls.length - (intOf t).toNat)
 case atStart=>exact ⟨0,[],Nat.zero_le _,rfl,rfl,R0.out,B0.out,X0.out⟩
 case round =>
  obtain ⟨i,acc,hi,rfl,hacc,hR,hB,hX⟩:=hrel
  have HA:=hide hacc
  clear hacc
  have hxl:w.heap.size < wr.heap.size:=World.block_lt_of_cell? wr ⟨w.heap.size,0,none⟩ (u:= .int .i64 dk) (by rw [World.cell?,hX];rfl)
  obtain ⟨sp,sc,hs⟩:=row_formP hR
  subst hs
  have HR:=hide hR
  have HB:=hide hB
  have HX:=hide hX
  clear hR hB hX
  by_cases hlt:i < ls.length
  ·obtain ⟨u,hu,hn,hpos⟩:=HV2.out i hlt
   obtain ⟨gi,ci,hu2⟩:=hn.form hpos
   subst hu2
   have hln:acc.length+ls[i].length≤100000000:=by rw [HA.out];exact Nat.le_trans (flat_len hlt) (by rw [HFL.out];exact HF.out)
   have HFT:=hide (flat_take hlt)
   rw [← HA.out] at HFT
   have hn':=hn.below (HB.out.mono (Nat.le_refl _))
   have hcl:∀ (j:Nat) (x:Value),(Tr.cellsOf ls[i])[j]?=some x→wr.cell? ((⟨gi,0,none⟩:Addr).add j)=some x:=World.ownsRow.cells hn'.1 rfl
   have hnl:(Tr.cellsOf ls[i]).length=ls[i].length*5:=hn'.1.1
   obtain ⟨vg,hvp⟩:∃ g,vp=some ⟨g,0,none⟩:=by
    rcases HV1.out.2 with ⟨_,h0⟩ | ⟨g,c,_,h2,_⟩
    ·omega
    ·cases h2;exact ⟨g,rfl⟩
   subst hvp
   have hci:wr.cell? ⟨vg,i,none⟩=some (.slice (some ⟨gi,0,none⟩) ls[i].length ci):=(HB.out.cell (p:=⟨vg,i,none⟩) ((HV1.out.lt vg rfl).2)).trans (by have:=HV1.out.cells rfl i _ hu;rwa [add_plainP,Nat.zero_add] at this)
   generalize ls[i]=li at *
   go_wp2_with (at_builtin;refine wpList_append_own_at _ rfl _ _ 48 rfl (w.heap.size+1) 82 iN _ 5 48 Tryz.underlying48 hN hNz hNs hNb rfl (by decide) _ acc.length (Tr.cellsOf acc) rfl HR.out ⟨gi,0,none⟩ li.length ci (Tr.cellsOf li) rfl hnl hcl (cells_oneC li) (by unfold maxLen;omega) (by omega) (by omega) ?_)
   intro v10 w5 hown5 hgrow5 hnil5 hat5
   have HB5:=hide (HB.out.grown hgrow5 HB.out.size (fun q e=>by have:=(HR.out.lt q e).1;omega))
   have HX5:=hide ((hgrow5.block w.heap.size hxl (fun e=>by have:=(HR.out.lt _ e.symm).1;omega)).trans HX.out)
   obtain ⟨sp5,sc5,hs5⟩:=row_formP hown5
   subst hs5
   have HR5:=hide hown5
   clear hown5 hgrow5 hnil5 hat5
   go_wp2
   go_roundw
   case rel=>exact ⟨i+1,_,hlt,by go_num,HFT.out.symm,by rw [List.length_append,cellsOf_app];exact HR5.out,HB5.out,HX5.out⟩
   case measure=>simp [intOf];omega
  ·have hie:i=ls.length:=by omega
   subst hie
   have hlen:=HF.out
   obtain rfl:acc=fl:=by rw [HA.out,List.take_length];exact HFL.out
   have x0:wr.cell? ⟨w.heap.size,0,none⟩=some (.int .i64 dk):=by rw [World.cell?,HX.out];rfl
   have x1:wr.cell? ⟨w.heap.size,1,none⟩=some (.int .i64 dop):=by rw [World.cell?,HX.out];rfl
   have x2:wr.cell? ⟨w.heap.size,2,none⟩=some (.int .i64 dn):=by rw [World.cell?,HX.out];rfl
   have x3:wr.cell? ⟨w.heap.size,3,none⟩=some (.string dt):=by rw [World.cell?,HX.out];rfl
   have x4:wr.cell? ⟨w.heap.size,4,none⟩=some (.int .i64 dc):=by rw [World.cell?,HX.out];rfl
   have f4:wr.frozen? ⟨w.heap.size,4,none⟩=false:=by rw [World.frozen?,HX.out];simp
   have HS:Hid ((wr.setCell ⟨w.heap.size,4,none⟩ (.int .i64 ls.length)).ownsRow (w.heap.size+1) 82 5 (.slice sp acc.length sc) acc.length (Tr.cellsOf acc)):=hide (ownsRow_setCell_below HR.out (show w.heap.size < w.heap.size+1 by omega) _)
   have HBS:Hid (Below w.heap.size w (wr.setCell ⟨w.heap.size,4,none⟩ (.int .i64 ls.length))):=hide (HB.out.setCell (p:=⟨w.heap.size,4,none⟩) (Nat.le_refl _) _)
   have HSZ:Hid ((wr.setCell ⟨w.heap.size,4,none⟩ (.int .i64 ls.length)).heap.size=wr.heap.size):=hide (by simp)
   go_wp2_with (at_builtin;refine wpList_append_own_at _ rfl _ _ 48 rfl (w.heap.size+1) 82 iN _ 5 48 Tryz.underlying48 hN hNz hNs hNb rfl (by decide) _ acc.length (Tr.cellsOf acc) rfl (HS.out.alloc _) ⟨wr.heap.size,0,none⟩ 1 1 [.int .i64 dk,.int .i64 dop,.int .i64 dn,.string dt,.int .i64 ls.length] rfl rfl (cells_litC _ [_,_,_,_,_] _ _ HSZ.out.symm) (by simp [Value.oneCell']) (by unfold maxLen;omega) (by omega) (by simp;omega) ?_)
   intro v10 w5 hown5 hgrow5 hnil5 hat5
   obtain ⟨sp5,sc5,hs5⟩:=row_formP hown5
   subst hs5
   have HB5:=hide ((HBS.out.alloc HBS.out.size (.cells #[.int .i64 dk,.int .i64 dop,.int .i64 dn,.string dt,.int .i64 ls.length] 82)).grown hgrow5 (by simp;omega) (fun q e=>by have:=(HS.out.lt q e).1;omega))
   have HR5:=hide hown5
   clear hown5 hgrow5 hnil5 hat5
   go_wp2
   go_ret
   refine ⟨_,rfl,?_,HB5.out⟩
   refine ⟨?_,HSH.out⟩
   rw [List.length_append,cellsOf_app]
   exact rowLeC HR5.out (Nat.zero_le _)
def Mk (w:World) (n:Nat) (e:Ending) (w':World):Prop:=∃ v' l,e = .returned v'∧NR w' v' l∧0 < l.length∧l.length≤n∧Below w.heap.size w w'
theorem over_mk [Inhabited Bs] (d:Tr.Nd) (ls:List (List Tr.Nd)) (v:Value) (w:World) (m:Nat) (h:PR w v ls) (hf:ls.flatten.length≤m) (hm:m≤100000000) (hl:ls.length≤1000000) (hsd:d.text.size≤1000000:=by first | exact Short.le _ | exact Nat.le_of_ble_eq_true rfl | assumption) :
  Calls Tryz.prog 61 #[ndV d,v] w fun e w'=>Mk w (m+1) e w' :=
 (over_any d ls v w h (Nat.le_trans hf hm) hl hsd).mono fun _ _ ⟨v',h1,h2,h3⟩=>⟨v',_,h1,h2,by simp,by simp only [List.length_append,List.length_cons,List.length_nil];omega,h3⟩
theorem nr_new [Inhabited Bs] (w:World) (d:Tr.Nd) (hsd:d.text.size≤1000000:=by first | exact Short.le _ | exact Nat.le_of_ble_eq_true rfl | assumption):NR (w.alloc (.cells #[.int .i64 d.kind,.int .i64 d.op,.int .i64 d.n,.string d.text,.int .i64 d.kids] 82)) (.slice (some ⟨w.heap.size,0,none⟩) 1 1) [d]:=by
 have:=World.ownsRow_lit (base:=0) (e:=82) (size:=5) w #[.int .i64 d.kind,.int .i64 d.op,.int .i64 d.n,.string d.text,.int .i64 d.kids] 1 (Nat.zero_le _) (by unfold maxLen;omega) rfl
 exact ⟨this,sh_one hsd⟩
theorem fl1 [Inhabited Bs] (a:List Tr.Nd):[a].flatten.length=a.length:=by simp
theorem fl2 [Inhabited Bs] (a b:List Tr.Nd):[a,b].flatten.length=a.length+b.length:=by simp
theorem fl3 [Inhabited Bs] (a b c:List Tr.Nd):[a,b,c].flatten.length=a.length+b.length+c.length:=by simp [Nat.add_assoc]
theorem pr_new [Inhabited Bs] (w:World) (vs:List Value) (ls:List (List Tr.Nd)) (hl:vs.length=ls.length) (hn:ls.length≤1000) (h:∀ i (hi:i < ls.length),∃ u,vs[i]?=some u∧NR w u ls[i]∧0 < ls[i].length):PR (w.alloc (.cells vs.toArray 48)) (.slice (some ⟨w.heap.size,0,none⟩) ls.length ls.length) ls:=by
 have:=World.ownsRow_lit (base:=0) (e:=48) (size:=1) w vs.toArray ls.length (Nat.zero_le _) (by unfold maxLen;omega) (by simp [hl])
 refine ⟨vs,this,fun i hi=>?_⟩
 obtain ⟨u,a,b,c⟩:=h i hi
 exact ⟨u,a,b.below (bA _),c⟩
theorem pr1 [Inhabited Bs] {w:World} {v1:Value} {l1:List Tr.Nd} (h1:NR w v1 l1) (k1:0 < l1.length):PR (w.alloc (.cells #[v1] 48)) (.slice (some ⟨w.heap.size,0,none⟩) 1 1) [l1] :=
 pr_new w [v1] [l1] rfl (by simp) (fun i hi=>by
  match i,hi with
  | 0,_=>exact ⟨_,rfl,h1,k1⟩)
theorem pr2 [Inhabited Bs] {w:World} {v1 v2:Value} {l1 l2:List Tr.Nd} (h1:NR w v1 l1) (h2:NR w v2 l2) (k1:0 < l1.length) (k2:0 < l2.length):PR (w.alloc (.cells #[v1,v2] 48)) (.slice (some ⟨w.heap.size,0,none⟩) 2 2) [l1,l2] :=
 pr_new w [v1,v2] [l1,l2] rfl (by simp) (fun i hi=>by
  match i,hi with
  | 0,_=>exact ⟨_,rfl,h1,k1⟩
  | 1,_=>exact ⟨_,rfl,h2,k2⟩)
theorem pr3 [Inhabited Bs] {w:World} {v1 v2 v3:Value} {l1 l2 l3:List Tr.Nd} (h1:NR w v1 l1) (h2:NR w v2 l2) (h3:NR w v3 l3) (k1:0 < l1.length) (k2:0 < l2.length) (k3:0 < l3.length):PR (w.alloc (.cells #[v1,v2,v3] 48)) (.slice (some ⟨w.heap.size,0,none⟩) 3 3) [l1,l2,l3] :=
 pr_new w [v1,v2,v3] [l1,l2,l3] rfl (by simp) (fun i hi=>by
  match i,hi with
  | 0,_=>exact ⟨_,rfl,h1,k1⟩
  | 1,_=>exact ⟨_,rfl,h2,k2⟩
  | 2,_=>exact ⟨_,rfl,h3,k3⟩)
theorem mk_one [Inhabited Bs] (w:World) (d:Tr.Nd) (hsd:d.text.size≤1000000:=by first | exact Short.le _ | exact Nat.le_of_ble_eq_true rfl | assumption):Mk w 1 (.returned (.slice (some ⟨w.heap.size,0,none⟩) 1 1)) (w.alloc (.cells #[.int .i64 d.kind,.int .i64 d.op,.int .i64 d.n,.string d.text,.int .i64 d.kids] 82)) :=
 ⟨_,_,rfl,nr_new w d hsd,by simp,by simp,bA _⟩
set_option maxHeartbeats 400000 in
theorem textN_any [Inhabited Bs] (s:ByteArray) (w:World) (hss:s.size≤1000000:=by first | exact Short.le _ | exact Nat.le_of_ble_eq_true rfl | assumption):Calls Tryz.prog 104 #[.string s] w fun e w'=>Mk w 1 e w':=by
 go_enter Tryz.func104,Tryz.ntmps104
 go_wp2
 go_ret
 exact mk_one w ⟨4,0,0,s,0⟩ hss
set_option maxHeartbeats 400000 in
theorem nameN_any [Inhabited Bs] (s:ByteArray) (w:World) (hss:s.size≤1000000:=by first | exact Short.le _ | exact Nat.le_of_ble_eq_true rfl | assumption):Calls Tryz.prog 105 #[.string s] w fun e w'=>Mk w 1 e w':=by
 go_enter Tryz.func105,Tryz.ntmps105
 go_wp2
 go_ret
 exact mk_one w ⟨5,0,0,s,0⟩ hss
set_option maxHeartbeats 400000 in
theorem intN_any [Inhabited Bs] (z:Int) (w:World):Calls Tryz.prog 60 #[.int .i64 z] w fun e w'=>Mk w 1 e w':=by
 go_enter Tryz.func60,Tryz.ntmps60
 go_wp2
 go_ret
 exact mk_one w ⟨3,0,z,⟨#[]⟩,0⟩
set_option maxHeartbeats 1000000 in
theorem binN_any [Inhabited Bs] (op:Int) (va vb:Value) (la lb:List Tr.Nd) (m:Nat) (w:World) (ha:NR w va la) (hb:NR w vb lb) (ka:0 < la.length) (kb:0 < lb.length) (hm:la.length+lb.length≤m) (hm2:m≤100000000) :
  Calls Tryz.prog 107 #[.int .i64 op,va,vb] w fun e w'=>Mk w (m+1) e w':=by
 have HP:=hide (over_mk ⟨7,op,0,⟨#[]⟩,0⟩ [la,lb] _ _ m (pr2 ha hb ka kb) (by simpa using hm) hm2 (by simp))
 unfold ndV at HP
 obtain ⟨ga,ca,hva⟩:=ha.form ka
 obtain ⟨gb,cb,hvb⟩:=hb.form kb
 subst hva hvb
 clear ha hb
 go_enter Tryz.func107,Tryz.ntmps107
 go_wp2_with fail
 refine HP.out.mono ?_
 rintro e w1 ⟨v',l,rfl,h1,h2,h3,h4⟩
 go_wp2
 go_ret
 exact ⟨_,_,rfl,h1,h2,h3,(((Below.refl w.heap.size w).alloc (Nat.le_refl _) _).trans (h4.mono (by simp)))⟩
theorem pr_cons [Inhabited Bs] {w:World} {ls:List (List Tr.Nd)} {l1:List Tr.Nd} {v1 v:Value} {xs:List Value} (hx:w.ownsRow 0 48 1 v (ls.length+1) (v1 :: xs)) (h1:NR w v1 l1) (k1:0 < l1.length) (h:∀ i (hi:i < ls.length),∃ u,xs[i]?=some u∧NR w u ls[i]∧0 < ls[i].length):PR w v (l1 :: ls) :=
 ⟨v1 :: xs,hx,fun i hi=>by
  match i,hi with
  | 0,_=>exact ⟨_,rfl,h1,k1⟩
  | i+1,hi=>exact h i (by simpa using hi)⟩
set_option maxRecDepth 100000 in
set_option maxHeartbeats 1000000 in
theorem callN_any [Inhabited Bs] (s:ByteArray) (ls:List (List Tr.Nd)) (v:Value) (w:World) (m:Nat) (h:PR w v ls) (hf:ls.flatten.length≤m) (hm:m≤10000000) (hl:ls.length≤1000) (hpos:0 < ls.length) (hss:s.size≤1000000:=by first | exact Short.le _ | exact Nat.le_of_ble_eq_true rfl | assumption) :
  Calls Tryz.prog 106 #[.string s,v] w fun e w'=>Mk w (m+2) e w':=by
 obtain ⟨iN,hN,hNz,hNs,hNb⟩:=info_parts Tryz.infoNdsC
 have H:=hide h
 obtain ⟨vs,h1,h2⟩:=h
 obtain ⟨vg,vc,hv⟩:∃ g c,v = .slice (some ⟨g,0,none⟩) ls.length c:=by
  rcases h1.2 with ⟨_,h0⟩ | ⟨g,c,_,h2,_⟩
  ·omega
  ·exact ⟨g,c,h2⟩
 subst hv
 have HNM:=hide (nameN_any s w)
 have HV1:=hide h1
 have HV2:=hide h2
 clear h1 h2
 go_enter Tryz.func106,Tryz.ntmps106
 go_wp2_with fail
 refine HNM.out.mono ?_
 rintro e w1 ⟨v1,l1,rfl,n1,n2,n3,b1⟩
 have b2:=b1.alloc b1.size (.cells #[v1] 48)
 have hrow1:(w1.alloc (.cells #[v1] 48)).ownsRow w.heap.size 48 1 (.slice (some ⟨w1.heap.size,0,none⟩) 1 1) 1 [v1]:=World.ownsRow_lit (base:=w.heap.size) (e:=48) (size:=1) w1 #[v1] 1 b1.size (by unfold maxLen;omega) rfl
 have hcl:∀ (j:Nat) (x:Value),vs[j]?=some x→(w1.alloc (.cells #[v1] 48)).cell? ((⟨vg,0,none⟩:Addr).add j)=some x:=fun j x hx=>by
  have:=HV1.out.cells rfl j x hx
  rw [add_plainP] at this ⊢
  exact (b2.cell (p:=⟨vg,0+j,none⟩) (HV1.out.lt vg rfl).2).trans this
 have hone:∀ u∈vs,u.oneCell'=true:=fun u hu=>by
  obtain ⟨j,hj⟩:=List.getElem?_of_mem hu
  obtain ⟨u',a,b,c⟩:=HV2.out j (by have:=HV1.out.1;rcases Nat.lt_or_ge j ls.length with h | h;exact h;rw [List.getElem?_eq_none (by omega)] at hj;cases hj)
  rw [a] at hj
  obtain ⟨g,c',hc'⟩:=b.form c
  rw [← Option.some.inj hj,hc']
  rfl
 obtain ⟨g1,c1,hv1⟩:=n1.form n2
 subst hv1
 have hvl:=HV1.out.1
 go_wp2_with (at_builtin;refine wpList_append_own_at _ rfl _ _ 94 rfl w.heap.size 48 iN _ 1 24 Tryz.underlying94 hN hNz hNs hNb rfl (by decide) _ 1 [_] rfl hrow1 ⟨vg,0,none⟩ ls.length vc vs rfl hvl hcl hone (by unfold maxLen;omega) (by omega) b2.size ?_)
 intro v10 w5 hown5 hgrow5 hnil5 hat5
 have b5:=b2.grown hgrow5 b2.size (fun q e=>by cases e;exact b1.size)
 have hsub:Below w1.heap.size w1 w5:=((Below.refl w1.heap.size w1).alloc (Nat.le_refl _) (.cells #[.slice (some ⟨g1,0,none⟩) l1.length c1] 48)).grown hgrow5 (by simp) (fun q e=>by cases e;exact Nat.le_refl _)
 obtain ⟨sp5,sc5,hs5⟩:=row_formP hown5
 subst hs5
 have HPR:Hid (PR w5 (.slice sp5 (1+ls.length) sc5) (l1 :: ls)):=hide (by
  refine pr_cons (by rw [Nat.add_comm ls.length 1];exact rowLeC hown5 (Nat.zero_le _)) (n1.below hsub) n2 (fun i hi=>?_)
  obtain ⟨u,a,b,c⟩:=HV2.out i hi
  exact ⟨u,a,b.below b5,c⟩)
 have HO:=hide (over_mk ⟨12,0,0,⟨#[]⟩,0⟩ (l1 :: ls) _ w5 (m+1) HPR.out (by simp only [List.flatten_cons,List.length_append];omega) (by omega) (by simp only [List.length_cons];omega))
 unfold ndV at HO
 have HB5:=hide b5
 clear hown5 hgrow5 hnil5 hat5 b5 b2 hsub hcl hone hrow1
 go_wp2_with fail
 refine HO.out.mono ?_
 rintro e w6 ⟨v',l,rfl,h1,h2,h3,h4⟩
 go_wp2
 go_ret
 exact ⟨_,_,rfl,h1,h2,h3,HB5.out.trans (h4.mono HB5.out.size)⟩
theorem step_call1C [Inhabited Bs] {P:Program} {ops:Array Oper} {o:Oper} {a:Act} {w:World} {K:Act→World→Prop} {Q:Exit→Act→World→Prop} {E:Prop}
  (hg:o.guard=none) (f:FuncId) (x:Operand) (t:TypeId) (hop:o.op=Op.call {callee:=Callee.value (Operand.func f),args:=#[x],argTypes:=#[t]})
  (v r:Value) (hx:a.eval x=v) (fn:Func) (hfn:P.funcs[f]?=some fn) (hne:(fn.name == "runtime.NumGoroutine")=false) (hbd:fn.body.isNone=false) (R:World→Prop) (hC:Calls P f #[v] w fun e w'=>e = .returned r∧R w') (hK:∀ w',R w'→K (a.put o.dst r) w') :
  if Region.wanted o (yielded ops a.tmps)=true then Oper.wp P o a w K Q else E:=by
 have hw:Region.wanted o (yielded ops a.tmps)=true:=by simp [Region.wanted,hg]
 rw [if_pos hw]
 have h1:(callFunc f #[v]).run P w = .ok (.enter f #[v]) w:=by
  simp only [callFunc,Sem.run_bind,run_program,Result.andThen_ok,hfn,hne,hbd];rfl
 unfold Oper.wp
 simp only [execOp,hop,resolve,invoke,List.map_toArray,List.map_cons,List.map_nil,hx,Deferred.ofValue,Sem.run_bind]
 rw [show a.eval (Operand.func f)=Value.func (Fn.func f) #[] #[] from rfl]
 simp only [Sem.run_pure,Result.andThen_ok]
 simp [h1]
 refine hC.mono fun e w2 h=>?_
 obtain ⟨rfl,h2⟩:=h
 exact hK _ h2
def Tr.dgC (n:Nat):UInt8:=UInt8.ofNat (48+n % 10)
def Tr.decC (n:Nat):List UInt8:=if _h:n < 10 then [Tr.dgC n] else Tr.decC (n / 10)++[Tr.dgC n]
theorem Tr.decC_len [Inhabited Bs] (n:Nat):(Tr.decC n).length≤n / 10+1:=by
 induction n using Nat.strongRecOn with
 | ind n ih =>
  rw [Tr.decC]
  by_cases h:n < 10
  ·rw [dif_pos h];simp
  ·rw [dif_neg h]
   have:=ih (n / 10) (by omega)
   simp only [List.length_append,List.length_cons,List.length_nil]
   omega
theorem cell_byteC [Inhabited Bs] (W:World) (x:Int):(W.alloc (.cells #[.int .u8 x] 5)).cell? ⟨W.heap.size,0,none⟩=some (.int .u8 x):=by simp
theorem str_snocC [Inhabited Bs] (o:List UInt8) (c:UInt8):(⟨o.toArray⟩:ByteArray)++⟨#[c]⟩=⟨(o++[c]).toArray⟩:=by
 rw [← Lib.mk_data (⟨o.toArray⟩++⟨#[c]⟩)]
 congr 1
theorem below_of_drewC [Inhabited Bs] {B:Nat} {a w:World} (h:Below B a.drew w):Below B a w:=⟨h.os,h.tape,h.output,h.size,h.block⟩
theorem one_byteC [Inhabited Bs] (W:World) (g:Nat) (j:Nat) (x:Int) (hx:x=48+(j:Int) % 10) (h:W.cell? ⟨g,0,none⟩=some (.int .u8 x)):(convert 22 9 (.slice (some ⟨g,0,none⟩) 1 1)).run Tryz.prog W = .ok (.string ⟨#[Tr.dgC j]⟩) W:=by
 have:=run_convert_bytes_arg (P:=Tryz.prog) W 22 5 Tryz.underlying22 Tryz.underlying5 g 0 1 1 [x] rfl (fun i hi=>by
  obtain rfl:i=0:=by omega
  simpa using h) 9 Tryz.underlying9
 rw [this]
 subst hx
 have e:(48+(j:Int) % 10).toNat=48+j % 10:=by omega
 simp [strOfNums,e,Tr.dgC]
set_option maxRecDepth 100000 in
set_option maxHeartbeats 1000000 in
theorem decC_any [Inhabited Bs] (n:Nat):∀ (w:World),n≤9223372036854775807→Calls Tryz.prog 20 #[.int .i64 n] w fun e w'=>e = .returned (.string ⟨(Tr.decC n).toArray⟩)∧Below w.heap.size w w':=by
 induction n using Nat.strongRecOn with
 | ind n ih =>
  intro w hn
  by_cases h:n < 10
  ·have h':((n:Int) < 10):=by omega
   have hcv:=one_byteC (w.alloc (.cells #[.int .u8 (48+(n:Int))] 5)) w.heap.size n (48+(n:Int)) (by omega) (by simp)
   have HD:=hide (show Tr.decC n=[Tr.dgC n] by rw [Tr.decC,dif_pos h])
   go_enter Tryz.func20,Tryz.ntmps20
   go_wp2
   go_ret
   exact ⟨by rw [HD.out];rfl,bA _⟩
  ·have h':¬ ((n:Int) < 10):=by omega
   have HD:=hide (show Tr.decC n=Tr.decC (n / 10)++[Tr.dgC n] by rw [Tr.decC,dif_neg h])
   have HI:=hide (fun w'=>ih (n / 10) (by omega) w' (by omega))
   clear ih
   have ht:(n:Int).tmod 10=(n:Int) % 10:=Int.tmod_eq_emod_of_nonneg (by omega)
   have hq:IntKind.i64.wrap ((n:Int) / 10)=(n:Int) / 10:=by rw [IntKind.wrap_i64];omega
   have hr:IntKind.i64.wrap (48+(n:Int) % 10)=48+(n:Int) % 10:=by rw [IntKind.wrap_i64];omega
   have hu:IntKind.u8.wrap (48+(n:Int) % 10)=48+(n:Int) % 10:=by rw [IntKind.wrap_u8];omega
   have hcl:(w.alloc (.cells #[.int .u8 (48+(n:Int) % 10)] 5)).drew.cell? ⟨w.heap.size,0,none⟩=some (.int .u8 (48+(n:Int) % 10)):=cell_byteC w _
   have hlen:¬ 9223372036854775807 < (Tr.decC (n / 10)).length+1:=by have:=Tr.decC_len (n / 10);omega
   have hcvD:=one_byteC (w.alloc (.cells #[.int .u8 (48+(n:Int) % 10)] 5)).drew w.heap.size n _ rfl hcl
   have HCL:=hide hcl
   clear hcl
   go_enter Tryz.func20,Tryz.ntmps20
   go_wp2_with fail
   go_region_law (first
    | (refine step_call1C rfl 20 (.tmp 11) 2 rfl (.int .i64 (n / 10:Nat)) (.string ⟨(Tr.decC (n / 10)).toArray⟩) (by simp [Act.eval,Act.put]) Tryz.f20 Tryz.func20 (by kernel_rfl) (by kernel_rfl) _ (HI.out w.drew) ?_;intro w5 hb5;have hcvA:=one_byteC (w5.alloc (.cells #[.int .u8 (48+(n:Int) % 10)] 5)) w5.heap.size n _ rfl (by simp))
    | (refine step_call1C rfl 20 (.tmp 11) 2 rfl (.int .i64 (n / 10:Nat)) (.string ⟨(Tr.decC (n / 10)).toArray⟩) (by first | (simp [Act.eval];done) | simp [Act.eval,Act.put]) Tryz.f20 Tryz.func20 (by kernel_rfl) (by kernel_rfl) _ (HI.out (w.alloc (.cells #[.int .u8 (48+(n:Int) % 10)] 5)).drew) ?_;intro w5 hb5;have hcvB:=one_byteC w5 w.heap.size n (48+(n:Int) % 10) rfl ((hb5.cell (p:=⟨w.heap.size,0,none⟩) (by show w.heap.size < (w.alloc (.cells #[.int .u8 (48+(n:Int) % 10)] 5)).heap.size;simp)).trans HCL.out)))
   all_goals
    go_wp2
    go_ret
    refine ⟨by rw [HD.out,← str_snocC];rfl,?_⟩
    first
     | exact (below_of_drewC hb5).alloc hb5.size _
     | exact ((Below.refl _ w).alloc (Nat.le_refl _) _).trans ((below_of_drewC hb5).mono (by simp))
end Go.Proofs.YtbckhbeebngjfaaGreatDoor
