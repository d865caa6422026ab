/- Foy, Fvu, Foz. -/
import Derived.Test.YthbojbbmpcmoaaaGreatDoorZ31
import Derived.Test.YthbojbbmpcmoaaaGreatDoorZ32
import Derived.Test.YthbojbbmpcmoaaaGreatDoorZ29
namespace Go.Proofs.YthbojbbmpcmoaaaGreatDoor
open Go.RowKit
theorem infoDaF:(Tryz.prog.info? 94).map (fun i=>(i.zero,i.size,i.bytes))=some (some .nilIface,1,16):=by kernel_rfl
def Fd.dn (x:Tr.Nd):Value:=Fd.dv x.kind x.n x.text
theorem Fd.dn_iface {x:Tr.Nd} (h:Fd.isC x):∃ y u,Fd.dn x = .iface y u:=by
 unfold Fd.isC at h
 unfold Fd.dn Fd.dv
 by_cases h1:x.kind=1
 ·rw [if_pos h1];exact ⟨_,_,rfl⟩
 ·by_cases h2:x.kind=2
  ·rw [if_neg h1,if_pos h2];exact ⟨_,_,rfl⟩
  ·by_cases h3:x.kind=3
   ·rw [if_neg h1,if_neg h2,if_pos h3];exact ⟨_,_,rfl⟩
   ·rw [if_neg h1,if_neg h2,if_neg h3,if_pos (by omega)];exact ⟨_,_,rfl⟩
theorem Fd.dn_dat {x:Tr.Nd} (h:Fd.isC x) (w:World) (b:Nat):Vl.DatAt w b (Fd.tn x) (Fd.dn x):=by
 unfold Fd.isC at h
 unfold Fd.dn Fd.dv Fd.tn Vl.DatAt
 by_cases h1:x.kind=1
 ·rw [if_pos h1];exact .inl ⟨h1,rfl⟩
 ·by_cases h2:x.kind=2
  ·rw [if_neg h1,if_pos h2];exact .inr (.inl ⟨h2,rfl⟩)
  ·by_cases h3:x.kind=3
   ·rw [if_neg h1,if_neg h2,if_pos h3];exact .inr (.inr (.inl ⟨h3,rfl⟩))
   ·rw [if_neg h1,if_neg h2,if_neg h3,if_pos (by omega)];exact .inr (.inr (.inr (.inl ⟨by omega,rfl⟩)))
def Fd.dns (ks:List Fd):List Value:=ks.map fun k=>Fd.dn k.x
def Fd.doneOf (x:Tr.Nd) (p b:Int) (ks:List Fd) (o:Vl.Out):Fd:=if ∀ k∈ks,Fd.isC k.x then Fd.back (.mk x p b ks) (Fd.okC (Fd.raw o)) else .mk x p b ks
abbrev deedF (a:Int) (f b:Nat):Value:= .agg #[.int .i64 a,.func (.func f) #[] #[.pointer (some ⟨b,0,none⟩)]]
theorem cell_oneF (w:World) (v:Value) (t:TypeId) (j:Nat) (u:Value) (h:([v]:List Value)[j]?=some u):(w.alloc (.cells #[v] t)).cell? ((⟨w.heap.size,0,none⟩:Addr).add j)=some u:=Vl.cell_one w v t j u h
set_option maxRecDepth 100000 in
set_option maxHeartbeats 4000000 in
theorem done_any (x:Tr.Nd) (p b:Int) (ks:List Fd) (h0:0 < ks.length) (hl:ks.length≤1000000) (B:Nat→Prop) (u fv:Value) (a:Int) (f bb:Nat) (out:Vl.Out) (w:World) (hB:∀ q,B q→q < w.heap.size) (h:Fd.Pt B w (.mk x p b ks) u)
  (hen:∀ args w,(callFunc f args).run Tryz.prog w = .ok (.enter f args) w) (hlf:Fd.ok out) (hfi:(∀ k∈ks,Fd.isC k.x)→out.fine) (h64:(∀ k∈ks,Fd.isC k.x)→∀ t,out = .inr t→ -9223372036854775808≤t.num)
  (hdo:(∀ k∈ks,Fd.isC k.x)→∀ W,Below w.heap.size w W→∀ g cc,g < W.heap.size→(∀ i z,(Fd.dns ks)[i]?=some z→W.cell? ⟨g,i,none⟩=some z)→Calls Tryz.prog f #[.slice (some ⟨g,0,none⟩) ks.length cc,.pointer (some ⟨bb,0,none⟩)] W (Vl.TupPost (Vl.DoK W out))) :
  Calls Tryz.prog 238 #[fv,deedF a f bb,u] w (FillPost B w (Fd.doneOf x p b ks out)):=by
 obtain ⟨iN,hN,hNz,hNs,hNb⟩:=info_parts infoDaF
 obtain ⟨sl,xs,hu,h2,h3,h4⟩:=(Fd.pt_mk _ _ _ _ _ _ _).1 h
 obtain ⟨sp,sc,hsl⟩:=row_posF h2 h0
 subst hsl
 have HP:=hide h
 have HRW:=hide h2
 have HK:=hide h4
 have HB:=hide hB
 have HDO:=hide hdo
 have hgl:=hB sp (h3 sp rfl)
 have HNO:Hid (∀ (w':World),Below w.heap.size w w'→(∃ k∈ks,¬ Fd.isC k.x)→FillPost B w (Fd.doneOf x p b ks out) (.returned u) w'):=hide (fun w' hb hk=>by
  unfold Fd.doneOf
  rw [if_neg (fun h=>by obtain ⟨k,h1,h2⟩:=hk;exact h2 (h k h1))]
  exact ⟨u,rfl,Fd.Pt.go HP.out (fun q e => .inl e) (fun q e=>hb.block q (HB.out q e)),hb⟩)
 have HSAME:Hid (∀ (w':World),Below w.heap.size w w'→(∀ k∈ks,Fd.isC k.x)→Fd.okC (Fd.raw out)=none→FillPost B w (Fd.doneOf x p b ks out) (.returned u) w'):=hide (fun w' hb hk ho=>by
  unfold Fd.doneOf
  rw [if_pos hk,ho]
  exact ⟨u,rfl,Fd.Pt.go HP.out (fun q e => .inl e) (fun q e=>hb.block q (HB.out q e)),hb⟩)
 have HMADE:Hid (∀ (w':World) (c:Tr.Nd),Below w.heap.size w w'→(∀ k∈ks,Fd.isC k.x)→Fd.okC (Fd.raw out)=some c→c.kids=0→FillPost B w (Fd.doneOf x p b ks out) (.returned (Ip.pv c (.slice none 0 0))) w'):=hide (fun w' c hb hk ho hc=>by
  unfold Fd.doneOf
  rw [if_pos hk,ho]
  refine ⟨_,rfl,(Fd.pt_mk _ _ _ _ _ _ _).2 ⟨.slice none 0 0,[],?_,World.ownsRow_nil _ _ _ _,(fun q e=>by cases e),(Fd.ptL_nil _ _).2 rfl⟩,hb⟩
  obtain ⟨k,o,m,t,c0⟩:=c
  have hc:c0=0:=hc
  subst hc
  rfl)
 obtain ⟨k,o,m,tx,c0⟩:=x
 have hmk:=meth_kids k o m (ks.length:Int) tx (.slice (some ⟨sp,0,none⟩) ks.length sc)
 have HKD:=hide (fun w=>ikids_at k o m (ks.length:Int) tx (.slice (some ⟨sp,0,none⟩) ks.length sc) ⟨_,_,_,rfl⟩ w)
 have hxl:=Fd.ptL_len h4
 subst hu
 unfold Fd.nk Ip.pv at HNO HSAME ⊢
 have b0:Below w.heap.size w (w.alloc (.cells #[.int .i64 a,.func (.func f) #[] #[.pointer (some ⟨bb,0,none⟩)]] 90)):=bA _
 have HB0:=hide b0
 have HX0:=hide (heap_alloc_new' w (.cells #[.int .i64 a,.func (.func f) #[] #[.pointer (some ⟨bb,0,none⟩)]] 90))
 have HXZ:Hid (w.heap.size < (w.alloc (.cells #[.int .i64 a,.func (.func f) #[] #[.pointer (some ⟨bb,0,none⟩)]] 90)).heap.size):=hide (by simp)
 clear h h2 h3 h4 hB hdo b0 hxl HP
 go_enter Tryz.func238,Tryz.ntmps238
 go_wp2_with fail
 refine (HKD.out _).mono ?_
 rintro e w1 ⟨rfl,hb1⟩
 have HB1:=hide (HB0.out.trans (hb1.mono HB0.out.size))
 have HX1:=hide ((hb1.block w.heap.size HXZ.out).trans HX0.out)
 have hz1:=Nat.lt_of_lt_of_le HXZ.out hb1.size
 clear hb1 HB0 HX0 HXZ HKD
 go_wp2_with fail
 go_loopw [7,18] (fun av iv wr=>∃ i:Nat,i≤ks.length∧iv = .int .i64 (i:Int)∧Below w.heap.size w wr∧w.heap.size < wr.heap.size∧wr.heap[w.heap.size]?=some (.cells #[.int .i64 a,.func (.func f) #[] #[.pointer (some ⟨bb,0,none⟩)]] 90)∧wr.ownsRow (w.heap.size+1) 94 1 av i (Fd.dns (ks.take i))∧∀ y∈ks.take i,Fd.isC y.x) (fun _ iv _=>ks.length - (intOf iv).toNat)
 case atStart=>exact ⟨0,Nat.zero_le _,rfl,HB1.out,hz1,HX1.out,by simpa [Fd.dns] using World.ownsRow_nil _ _ _ _,fun y hy=>by simp at hy⟩
 case round =>
  obtain ⟨i,hi,rfl,hBr,hzr,hxr,hrow,hall⟩:=hrel
  have HBR:=hide hBr
  have HXR:=hide hxr
  have HR:=hide hrow
  have HALL:=hide hall
  clear hBr hxr hrow hall
  obtain ⟨avp,avc,hav⟩:=row_formF HR.out
  subst hav
  by_cases hlt:i < ks.length
  ·have hlti:(i:Int) < (ks.length:Int):=by omega
   obtain ⟨ai,hai,hta⟩:=Fd.ptL_get i HK.out hlt
   have ke0:w.cell? ⟨sp,i,none⟩=some ai:=row_cellF HRW.out hai
   obtain ⟨yi,hyi⟩:∃ yi,yi=ks[i]:=⟨_,rfl⟩
   rw [← hyi] at hta
   obtain ⟨⟨yk,yo,ym,yt,yc⟩,yp,yb,yks⟩:=yi
   obtain ⟨ysl,yxs,hua,yr,_⟩:=(Fd.pt_mk _ _ _ _ _ _ _).1 hta
   obtain ⟨ysp,ysc,hys⟩:=row_formF yr
   subst hys
   subst hua
   have ke:=(HBR.out.cell (p:=⟨sp,i,none⟩) hgl).trans ke0
   unfold Fd.nk Ip.pv at ke
   have hms:=meth_self yk yo ym (yks.length:Int) yt (.slice ysp yks.length ysc)
   have Q:=hide (iself_at yk yo ym (yks.length:Int) yt (.slice ysp yks.length ysc) ⟨_,_,_,rfl⟩ wr)
   have HC:=hide (fun w=>constantOf_any yk yo ym (yks.length:Int) yt w)
   have HYI:=hide hyi
   clear hta yr ke0 hai hyi
   by_cases hC:1≤yk∧yk≤4
   ·have HIC:Hid (Fd.isC (⟨yk,yo,ym,yt,yc⟩:Tr.Nd)):=hide hC
    obtain ⟨dt,du,hdv⟩:=Fd.dn_iface HIC.out
    have hdv:Fd.dv yk ym yt = .iface dt du:=hdv
    rw [decide_eq_true hC,hdv] at HC
    have HDV:=hide hdv
    clear hdv hC
    go_wp2_with fail
    refine Q.out.mono ?_
    rintro e w2 ⟨rfl,hb2⟩
    have HB2:=hide (HBR.out.trans (hb2.mono HBR.out.size))
    have HX2:=hide ((hb2.block w.heap.size hzr).trans HXR.out)
    have HR2:=hide (row_below HR.out hb2)
    have hz2:=hb2.size
    clear hb2 Q
    go_wp2_with fail
    refine (HC.out _).mono ?_
    rintro e w3 ⟨rfl,hb3⟩
    have HB3:=hide (HB2.out.trans (hb3.mono HB2.out.size))
    have HX3:=hide ((hb3.block w.heap.size (by omega)).trans HX2.out)
    have HR3:=hide (row_below HR2.out hb3)
    have hz3:=hb3.size
    clear hb3 HC HB2 HX2 HR2
    go_wp2_with (at_builtin;refine wpList_append_own_at _ rfl _ _ 103 rfl (w.heap.size+1) 94 iN _ 1 16 Tryz.underlying103 hN hNz hNs hNb rfl (by decide) _ _ _ rfl (HR3.out.alloc _) ⟨w3.heap.size,0,none⟩ 1 1 [.iface dt du] rfl rfl ?_ ?_ ?_ ?_ ?_ ?_)
    ·exact cell_oneF w3 (.iface dt du) _
    ·intro z hz;simp only [List.mem_cons,List.not_mem_nil,or_false] at hz;rw [hz];rfl
    ·unfold maxLen;omega
    ·omega
    ·simp;omega
    ·intro v6 w6 hown6 hgrow6 hnil6 hat6
     have B1:Below w.heap.size w (w3.alloc (.cells #[.iface dt du] 94)):=HB3.out.alloc HB3.out.size _
     have HB6:=hide (B1.grown hgrow6 (by simp;omega) (fun q e=>by have:=(HR3.out.lt q e).1;omega))
     have hz6:w3.heap.size+1≤w6.heap.size:=by have:=hgrow6.size;simpa using this
     have HX6:Hid (w6.heap[w.heap.size]?=some (.cells #[.int .i64 a,.func (.func f) #[] #[.pointer (some ⟨bb,0,none⟩)]] 90)):=hide (((hgrow6.block w.heap.size (by simp;omega) (fun e=>by have:=(HR3.out.lt _ e.symm).1;omega)).trans (((Below.refl w3.heap.size w3).alloc (Nat.le_refl _) _).block w.heap.size (by omega))).trans HX3.out)
     have hdl:Fd.dns (ks.take i)++[.iface dt du]=Fd.dns (ks.take (i+1)):=by
      unfold Fd.dns
      rw [List.take_succ_eq_append_getElem hlt,List.map_append,← HYI.out]
      show _=_++[Fd.dv yk ym yt]
      rw [HDV.out]
     rw [hdl] at hown6
     have HR6:=hide hown6
     have HAL6:Hid (∀ y∈ks.take (i+1),Fd.isC y.x):=hide (by
      intro y hy
      rw [List.take_succ_eq_append_getElem hlt,← HYI.out] at hy
      rcases List.mem_append.1 hy with hy | hy
      ·exact HALL.out y hy
      ·simp only [List.mem_cons,List.not_mem_nil,or_false] at hy
       rw [hy]
       exact HIC.out)
     clear hdl B1 hgrow6 hown6 hnil6 hat6
     go_wp2
     go_roundw
     case rel=>exact ⟨i+1,by omega,by go_num,HB6.out,by omega,HX6.out,HR6.out,HAL6.out⟩
     case measure=>simp [intOf];omega
   ·rw [decide_eq_false hC] at HC
    have HIN:Hid (∃ y∈ks,¬ Fd.isC y.x):=hide ⟨ks[i],List.getElem_mem _,by rw [← HYI.out];exact hC⟩
    generalize Fd.dv yk ym yt=dvv at HC
    clear hC
    go_wp2_with fail
    refine Q.out.mono ?_
    rintro e w2 ⟨rfl,hb2⟩
    have HB2:=hide (HBR.out.trans (hb2.mono HBR.out.size))
    clear hb2 Q
    go_wp2_with fail
    refine (HC.out _).mono ?_
    rintro e w3 ⟨rfl,hb3⟩
    have HB3:=hide (HB2.out.trans (hb3.mono HB2.out.size))
    clear hb3 HC HB2
    have HE:=hide (HNO.out w3 HB3.out HIN.out)
    go_wp2
    go_ret
    exact HE.out
  ·obtain rfl:i=ks.length:=by omega
   have hlti:¬ ((ks.length:Int) < (ks.length:Int)):=by omega
   have HALL2:Hid (∀ y∈ks,Fd.isC y.x):=hide (by have:=HALL.out;rwa [List.take_length] at this)
   obtain ⟨g,cc,hsl2⟩:=row_posF HR.out h0
   cases hsl2
   have hgl2:=(HR.out.lt g rfl).2
   have HCL:=hide (HDO.out HALL2.out wr HBR.out g avc hgl2 (fun j z hz=>by
    have h1:=HR.out
    rw [List.take_length] at h1
    exact row_cellF h1 hz))
   have kf:wr.cell? ⟨w.heap.size,1,none⟩=some (.func (.func f) #[] #[.pointer (some ⟨bb,0,none⟩)]):=by rw [World.cell?,HXR.out];rfl
   cases out with
   | inl l =>
    have hne:¬ l=[]:=hfi HALL2.out
    have hl0:(⟨l.toArray⟩:ByteArray).toList.isEmpty=false:=by
     rw [ByteArray.toList_eq]
     cases l with
     | nil=>exact absurd rfl hne
     | cons a r=>rfl
    go_wp2_with fail
    refine HCL.out.mono ?_
    rintro e w2 ⟨dv,s,rfl,hb2,rfl,rfl⟩
    have HE:=hide (HSAME.out w2 (HBR.out.trans (hb2.mono HBR.out.size)) HALL2.out rfl)
    clear hb2
    generalize hsl:(⟨l.toArray⟩:ByteArray)=sl at *
    clear hsl
    go_wp2
    go_ret
    exact HE.out
   | inr tt =>
    have htk:=hlf tt rfl
    have ht64:=h64 HALL2.out tt rfl
    go_wp2_with fail
    refine HCL.out.mono ?_
    rintro e w2 ⟨dv,s,rfl,hb2,rfl,hg,hcnt,z,hdat⟩
    have HB2:=hide (HBR.out.trans (hb2.mono HBR.out.size))
    have HX:=hide (fun w=>expr_any tt htk hg ht64 z dv w w2 hdat)
    obtain ⟨dt,du,hdi⟩:=hdat.isIface
    subst hdi
    have HTK:=hide htk
    clear hdat hb2 hg hcnt htk ht64 kf
    go_wp2_with fail
    refine (HX.out _).mono ?_
    intro e w3 hex
    unfold ExPost at hex
    cases hoc:Fd.okC (Fd.raw (.inr tt)) with
    | some c =>
     rw [hoc] at hex
     obtain ⟨rfl,hb3⟩:=hex
     have hcc:c=Fd.cn tt.kind tt.num tt.text:=by
      have h1:Fd.okC (some (Fd.cn tt.kind tt.num tt.text))=some c:=hoc
      rw [Fd.okC_some] at h1
      split at h1
      ·cases h1
      ·cases h1;rfl
     have HB3:=hide (HB2.out.trans (hb3.mono HB2.out.size))
     have HM:=hide (fun w' (hb:Below w.heap.size w w')=>HMADE.out w' c hb HALL2.out hoc (by rw [hcc];rfl))
     have HI:=hide (fun w=>isConst_any tt.kind 0 tt.num 0 tt.text none 0 0 w)
     rw [decide_eq_true HTK.out] at HI
     subst hcc
     clear hb3 hoc
     unfold Fd.cn Ip.pv at *
     generalize tt.kind=ck at *
     generalize tt.num=cnn at *
     generalize tt.text=ctx at *
     go_wp2_with fail
     refine (HI.out _).mono ?_
     rintro e w4 ⟨rfl,hb4⟩
     have HE:=hide (HM.out w4 (HB3.out.trans (hb4.mono HB3.out.size)))
     clear hb4
     go_wp2
     go_ret
     exact HE.out
    | none =>
     rw [hoc] at hex
     obtain ⟨ck,co,cm,ct,cc0,cp,cl,ccp,rfl,hnc,hb3⟩:=hex
     have HB3:=hide (HB2.out.trans (hb3.mono HB2.out.size))
     have HI:=hide (fun w=>isConst_any ck co cm cc0 ct cp cl ccp w)
     rw [decide_eq_false hnc] at HI
     have HS:=hide (fun w' (hb:Below w.heap.size w w')=>HSAME.out w' hb HALL2.out hoc)
     clear hb3 hoc hnc
     unfold Ip.pv at *
     go_wp2_with fail
     refine (HI.out _).mono ?_
     rintro e w4 ⟨rfl,hb4⟩
     have HE:=hide (HS.out w4 (HB3.out.trans (hb4.mono HB3.out.size)))
     clear hb4
     go_wp2
     go_ret
     exact HE.out
end Go.Proofs.YthbojbbmpcmoaaaGreatDoor
namespace Go.Proofs.YthbojbbmpcmoaaaGreatDoor.Vl
open Go.RowKit T.atoms T.ok T.high T.good T.allPlain DatAt T.ord
set_option maxHeartbeats 400000 in
theorem takesB_any (f:FuncId) (w:World):Calls Tryz.prog 68 #[.func (.func f) #[] #[]] w fun e w'=>e = .returned (.agg #[.int .i64 1,.func (.func 127) #[] #[.pointer (some ⟨w.heap.size,0,none⟩)]])∧w'.cell? ⟨w.heap.size,0,none⟩=some (.func (.func f) #[] #[])∧Below w.heap.size w w'∧w.heap.size < w'.heap.size:=by
 have hsf:=run_store_func Tryz.prog
 go_enter Tryz.func68,Tryz.ntmps68
 go_wp2
 refine bodyPost_ret (v:= .agg #[.int .i64 1,.func (.func 127) #[] #[.pointer (some ⟨w.heap.size,0,none⟩)]]) (by simp [results,Tryz.results68,go_sem]) rfl ⟨rfl,?_,?_,by simp;omega⟩
 ·exact (((Below.refl (w.heap.size+1) (w.alloc (.cells #[.func (.func f) #[] #[]] 122))).alloc (by simp) _).cell (p:=⟨w.heap.size,0,none⟩) (Nat.lt_succ_self _)).trans (by simp)
 ·exact (bA _).alloc (by simp) _
set_option maxHeartbeats 400000 in
theorem takesI_any (f:FuncId) (w:World):Calls Tryz.prog 70 #[.func (.func f) #[] #[]] w fun e w'=>e = .returned (.agg #[.int .i64 1,.func (.func 128) #[] #[.pointer (some ⟨w.heap.size,0,none⟩)]])∧w'.cell? ⟨w.heap.size,0,none⟩=some (.func (.func f) #[] #[])∧Below w.heap.size w w'∧w.heap.size < w'.heap.size:=by
 have hsf:=run_store_func Tryz.prog
 go_enter Tryz.func70,Tryz.ntmps70
 go_wp2
 refine bodyPost_ret (v:= .agg #[.int .i64 1,.func (.func 128) #[] #[.pointer (some ⟨w.heap.size,0,none⟩)]]) (by simp [results,Tryz.results70,go_sem]) rfl ⟨rfl,?_,?_,by simp;omega⟩
 ·exact (((Below.refl (w.heap.size+1) (w.alloc (.cells #[.func (.func f) #[] #[]] 125))).alloc (by simp) _).cell (p:=⟨w.heap.size,0,none⟩) (Nat.lt_succ_self _)).trans (by simp)
 ·exact (bA _).alloc (by simp) _
def unDeeds (b c:Nat):DataW Value:=((DataW.map []).put (.int .i64 1) (.held (deedV 1 127 b))).put (.int .i64 2) (.held (deedV 1 128 c))
set_option maxRecDepth 100000 in
set_option maxHeartbeats 1000000 in
theorem unTable_any (w:World):Calls Tryz.prog 21 #[] w fun e w'=>∃ b c,e = .returned (.map (some w.heap.size))∧w'.ownsMap Tryz.prog 3 anyElem w.heap.size 2 (unDeeds b c)∧w'.cell? ⟨b,0,none⟩=some (.func (.func 69) #[] #[])∧w'.cell? ⟨c,0,none⟩=some (.func (.func 71) #[] #[])∧Below w.heap.size w w':=by
 have hmm:=@run_makeMap Tryz.prog
 have HM:=hide (World.ownsMap_made (H:=Value) w Tryz.prog 3 anyElem)
 have r1:Below w.heap.size w (w.alloc (.map #[] 0)):=bA _
 go_enter Tryz.func21,Tryz.ntmps21
 go_wp2_with fail
 refine (takesB_any _ _).mono ?_
 rintro e w1 ⟨rfl,hc1,hb1,hz1⟩
 rw [World.size_alloc] at hc1 hb1 hz1
 have HM1:=hide (map_below HM.out (by rw [World.size_alloc];exact hb1))
 have HC1:=hide hc1
 have B1:=r1.trans (hb1.mono (Nat.le_succ _))
 clear hc1 hb1 HM
 go_wp2_with (show wpList _ _ _ ({dst:=_,op:=Op.insert _ _ _ _,type:=_,pos:=_,after:=_,guard:=_} :: _) _ _;go_must (refine wpList_insert_own _ rfl _ _ _ 50 rfl 3 90 lawI Tryz.underlying50 _ w.heap.size 0 _ rfl HM1.out (by unfold maxLen;omega) _ _ _ rfl rfl (keyI 1 (by decide)) _ [] rfl ?_))
 intro w2 hown2 hgrow2
 have hz2:w.heap.size+1 < w2.heap.size:=by have:=hgrow2.size;omega
 have B2:Below w.heap.size w w2:=B1.grown hgrow2 (by omega) (fun k e=>by cases e;exact Nat.le_refl _)
 have HC2:=hide ((World.cell?_of_block (a:=⟨w.heap.size+1,0,none⟩) (hgrow2.block (w.heap.size+1) (by omega) (by simp))).trans HC1.out)
 have HM2:=hide hown2
 clear hown2 hgrow2
 go_wp2_with fail
 refine (takesI_any _ _).mono ?_
 rintro e w3 ⟨rfl,hc3,hb3,hz3⟩
 have HM3:=hide (map_below HM2.out hb3)
 have HC3:=hide ((hb3.cell (p:=⟨w.heap.size+1,0,none⟩) hz2).trans HC2.out)
 have HD3:=hide hc3
 have B3:=B2.trans (hb3.mono B2.size)
 clear hc3 hb3
 go_wp2_with (show wpList _ _ _ ({dst:=_,op:=Op.insert _ _ _ _,type:=_,pos:=_,after:=_,guard:=_} :: _) _ _;go_must (refine wpList_insert_own _ rfl _ _ _ 50 rfl 3 90 lawI Tryz.underlying50 _ w.heap.size 1 _ rfl HM3.out (by unfold maxLen;omega) _ _ _ rfl rfl (keyI 2 (by decide)) _ [] rfl ?_))
 intro w4 hown4 hgrow4
 have B4:Below w.heap.size w w4:=B3.grown hgrow4 (by omega) (fun k e=>by cases e;exact Nat.le_refl _)
 have HC4:=hide ((World.cell?_of_block (a:=⟨w.heap.size+1,0,none⟩) (hgrow4.block (w.heap.size+1) (by omega) (by simp))).trans HC3.out)
 have HD4:=hide ((World.cell?_of_block (a:=⟨w2.heap.size,0,none⟩) (hgrow4.block w2.heap.size hz3 (by simp;omega))).trans HD3.out)
 have HM4:=hide hown4
 clear hown4 hgrow4
 go_wp2
 go_ret
 exact ⟨w.heap.size+1,w2.heap.size,rfl,HM4.out,HC4.out,HD4.out,B4⟩
def unDeed (op:Int) (b c:Nat):Value:=if op=1 then deedV 1 127 b else if op=2 then deedV 1 128 c else .agg #[.int .i64 0,.nilFunc]
theorem un_look (op:Int) (b c g:Nat) (w:World) (hw:(Lit.int .i64 op).wf=true) (h:w.ownsMap Tryz.prog 3 anyElem g 2 (unDeeds b c)):(Instr.lookup 50 (.map (some g)) (.int .i64 op) false).run Tryz.prog w = .ok (unDeed op b c) w:=by
 obtain ⟨v,ps,hrun,hv⟩:=h.lookup lawI Tryz.underlying50 (zero_deed w) (zd:= .held (.agg #[.int .i64 0,.nilFunc])) (zp:=[]) rfl (keyI op hw)
 rw [hrun]
 have e:DataW.held v=(unDeeds b c).atKey (.int .i64 op) (.held (.agg #[.int .i64 0,.nilFunc])):=by
  have:=congrArg (fun o=>o.map Prod.fst) hv
  simpa [anyElem] using this
 have e2:(unDeeds b c).atKey (.int .i64 op) (.held (.agg #[.int .i64 0,.nilFunc])) = .held (unDeed op b c):=by
  unfold unDeeds unDeed
  by_cases h1:op=1
  ·subst h1
   rw [if_pos rfl,Maps.atKey_put_other (by intro h;cases h),Maps.atKey_put_same Maps.isMap_empty (show WideAt.IsKeyLit (.int .i64 1) from trivial)]
  ·by_cases h2:op=2
   ·subst h2
    rw [if_neg h1,if_pos rfl,Maps.atKey_put_same (Maps.isMap_empty.put _ _) (show WideAt.IsKeyLit (.int .i64 2) from trivial)]
   ·rw [if_neg h1,if_neg h2,Maps.atKey_put_other (by intro h;cases h;exact h2 rfl),Maps.atKey_put_other (by intro h;cases h;exact h1 rfl)]
    rfl
 rw [e2] at e
 cases e
 rfl
def txt (l:List UInt8):ByteArray:=⟨l.toArray⟩
def wType:List UInt8:=[116,121,112,101]
def wRange:List UInt8:=[114,97,110,103,101]
set_option maxHeartbeats 400000 in
theorem notC_any (b:Bool) (w:World):Calls Tryz.prog 69 #[.bool b] w fun e w'=>e = .returned (.tuple #[.iface 92 (.bool !b),.string ⟨#[]⟩])∧w'=w:=by
 go_enter Tryz.func69,Tryz.ntmps69
 go_wp2
 go_ret2
 exact ⟨rfl,rfl⟩
def lessV (n:Int):Value:=if n = -9223372036854775808 then .tuple #[.nilIface,.string (txt wRange)] else .tuple #[.iface 115 (.int .i64 (-n)),.string ⟨#[]⟩]
set_option maxHeartbeats 400000 in
theorem subtract0_any (n:Int) (w:World) (h1:-9223372036854775808≤n) (h2:n≤9223372036854775807):Calls Tryz.prog 64 #[.int .i64 0,.int .i64 n] w fun e w'=>e = .returned (lessV n)∧w'=w:=by
 unfold lessV
 by_cases hm:n = -9223372036854775808
 ·subst hm
  rw [if_pos rfl]
  have hmn:wrap64 9223372036854775808 = -9223372036854775808:=by unfold wrap64;omega
  go_enter Tryz.func64,Tryz.ntmps64
  go_wp2
  go_ret2
  exact ⟨rfl,rfl⟩
 ·rw [if_neg hm]
  have hw:wrap64 (0 - n) = -n:=by unfold wrap64;omega
  have hw2:wrap64 (-n) = -n:=by unfold wrap64;omega
  by_cases h0:n < 0
  ·have hp:0 < -n:=by omega
   go_enter Tryz.func64,Tryz.ntmps64
   go_wp2
   go_ret2
   exact ⟨rfl,rfl⟩
  ·have hp:¬ 0 < -n:=by omega
   go_enter Tryz.func64,Tryz.ntmps64
   go_wp2
   go_ret2
   exact ⟨rfl,rfl⟩
set_option maxHeartbeats 400000 in
theorem negC_any (n:Int) (w:World) (h1:-9223372036854775808≤n) (h2:n≤9223372036854775807):Calls Tryz.prog 71 #[.int .i64 n] w fun e w'=>e = .returned (lessV n)∧w'=w:=by
 have HS:=hide (subtract0_any n)
 by_cases hm:n = -9223372036854775808
 ·subst hm
  have hv:lessV (-9223372036854775808) = .tuple #[.nilIface,.string (txt wRange)]:=by unfold lessV;rw [if_pos rfl]
  rw [hv] at HS
  rw [hv]
  clear hv
  go_enter Tryz.func71,Tryz.ntmps71
  go_wp2_with (go_at_call 64;refine (HS.out _ h1 h2).mono ?_;rintro e w' ⟨rfl,rfl⟩)
  go_ret2
  exact ⟨rfl,rfl⟩
 ·have hv:lessV n = .tuple #[.iface 115 (.int .i64 (-n)),.string ⟨#[]⟩]:=by unfold lessV;rw [if_neg hm]
  rw [hv] at HS
  rw [hv]
  clear hv
  go_enter Tryz.func71,Tryz.ntmps71
  go_wp2_with (go_at_call 64;refine (HS.out _ h1 h2).mono ?_;rintro e w' ⟨rfl,rfl⟩)
  go_ret2
  exact ⟨rfl,rfl⟩
set_option maxHeartbeats 1000000 in
theorem takesB1_yes (b:Bool) {cc:Nat} (g k:Nat) (w:World) (hc:w.cell? ⟨g,0,none⟩=some (.iface 92 (.bool b))) (hk:w.cell? ⟨k,0,none⟩=some (.func (.func 69) #[] #[])) :
  Calls Tryz.prog 127 #[.slice (some ⟨g,0,none⟩) 1 cc,.pointer (some ⟨k,0,none⟩)] w fun e w'=>e = .returned (.tuple #[.iface 92 (.bool !b),.string ⟨#[]⟩])∧w'=w:=by
 have y1:=tay_b b
 go_enter Tryz.func127,Tryz.ntmps127
 go_wp2_with (go_at_call 69;refine (notC_any _ _).mono ?_;rintro e w' ⟨rfl,rfl⟩)
 go_ret2
 exact ⟨rfl,rfl⟩
set_option maxHeartbeats 1000000 in
theorem takesB1_no (y:TypeId) (u:Value) (hy:¬ y=92) {cc:Nat} (g k:Nat) (w:World) (hc:w.cell? ⟨g,0,none⟩=some (.iface y u)) :
  Calls Tryz.prog 127 #[.slice (some ⟨g,0,none⟩) 1 cc,.pointer (some ⟨k,0,none⟩)] w fun e w'=>e = .returned (.tuple #[.nilIface,.string (txt wType)])∧w'=w:=by
 have y1:=fun w=>tan_b y u w hy
 go_enter Tryz.func127,Tryz.ntmps127
 go_wp2
 go_ret2
 exact ⟨rfl,rfl⟩
set_option maxHeartbeats 1000000 in
theorem takesI1_yes (n:Int) (h1:-9223372036854775808≤n) (h2:n≤9223372036854775807) {cc:Nat} (g k:Nat) (w:World) (hc:w.cell? ⟨g,0,none⟩=some (.iface 115 (.int .i64 n))) (hk:w.cell? ⟨k,0,none⟩=some (.func (.func 71) #[] #[])) :
  Calls Tryz.prog 128 #[.slice (some ⟨g,0,none⟩) 1 cc,.pointer (some ⟨k,0,none⟩)] w fun e w'=>e = .returned (lessV n)∧w'=w:=by
 have y1:=tay_i n
 have HC:=hide (fun w=>negC_any n w h1 h2)
 by_cases hm:n = -9223372036854775808
 ·subst hm
  have hv:lessV (-9223372036854775808) = .tuple #[.nilIface,.string (txt wRange)]:=by unfold lessV;rw [if_pos rfl]
  rw [hv] at HC
  rw [hv]
  clear hv h1 h2
  go_enter Tryz.func128,Tryz.ntmps128
  go_wp2_with (go_at_call 71;refine (HC.out _).mono ?_;rintro e w' ⟨rfl,rfl⟩)
  go_ret2
  exact ⟨rfl,rfl⟩
 ·have hv:lessV n = .tuple #[.iface 115 (.int .i64 (-n)),.string ⟨#[]⟩]:=by unfold lessV;rw [if_neg hm]
  rw [hv] at HC
  rw [hv]
  clear hv h1 h2 hm
  go_enter Tryz.func128,Tryz.ntmps128
  go_wp2_with (go_at_call 71;refine (HC.out _).mono ?_;rintro e w' ⟨rfl,rfl⟩)
  go_ret2
  exact ⟨rfl,rfl⟩
set_option maxHeartbeats 1000000 in
theorem takesI1_no (y:TypeId) (u:Value) (hy:¬ y=115) {cc:Nat} (g k:Nat) (w:World) (hc:w.cell? ⟨g,0,none⟩=some (.iface y u)) :
  Calls Tryz.prog 128 #[.slice (some ⟨g,0,none⟩) 1 cc,.pointer (some ⟨k,0,none⟩)] w fun e w'=>e = .returned (.tuple #[.nilIface,.string (txt wType)])∧w'=w:=by
 have y1:=fun w=>tan_i y u w hy
 go_enter Tryz.func128,Tryz.ntmps128
 go_wp2
 go_ret2
 exact ⟨rfl,rfl⟩
end Go.Proofs.YthbojbbmpcmoaaaGreatDoor.Vl
namespace Go.Proofs.YthbojbbmpcmoaaaGreatDoor
open Go.RowKit
namespace Vl
open T.atoms T.ok T.high T.good T.allPlain DatAt T.ord
theorem tup_same {W:World} {l:List UInt8} (e:Ending) (w':World) (h:e = .returned (.tuple #[.nilIface,.string ⟨l.toArray⟩])∧w'=W):TupPost (DoK W (.inl l)) e w':=by
 obtain ⟨rfl,rfl⟩:=h
 exact ⟨_,_,rfl,Below.refl _ _,rfl,rfl⟩
theorem unB_do (t:T) (W:World) (b g cc x:Nat) (v:Value) (hb:W.cell? ⟨b,0,none⟩=some (.func (.func 69) #[] #[])) (h0:W.cell? ⟨g,0,none⟩=some v) (hd:DatAt W x t v):Calls Tryz.prog 127 #[.slice (some ⟨g,0,none⟩) 1 cc,.pointer (some ⟨b,0,none⟩)] W (TupPost (DoK W (unOut 1 t))):=by
 unfold unOut
 rw [if_pos rfl]
 by_cases hk:t.kind=2
 ·obtain ⟨bv,rfl⟩:=(formB hd).1 hk
  rw [if_pos hk,← bool_of hd]
  exact (takesB1_yes bv g b W h0 hb).mono fun e w' h=>tup_bool e w' ⟨_,_,h.1,rfl,rfl,by rw [h.2];exact Below.refl _ _⟩
 ·obtain ⟨y,u,rfl,hy⟩:=(formB hd).2 hk
  rw [if_neg hk]
  exact (takesB1_no y u hy g b W h0).mono fun e w' h=>tup_same (l:=tyW) e w' h
theorem less_num (n:Int) (h:in64 n):lessV n=numV (fit64 (0 - n)) rgW:=by
 unfold lessV fit64
 unfold in64 at h
 by_cases hm:n = -9223372036854775808
 ·rw [if_pos hm,if_neg (by omega)];rfl
 ·rw [if_neg hm,if_pos (by omega)]
  show _=Value.tuple #[.iface _ (.int .i64 (0 - n)),_]
  rw [Int.zero_sub]
theorem unI_do (t:T) (hi:in64 t.num) (W:World) (b g cc x:Nat) (v:Value) (hb:W.cell? ⟨b,0,none⟩=some (.func (.func 71) #[] #[])) (h0:W.cell? ⟨g,0,none⟩=some v) (hd:DatAt W x t v):Calls Tryz.prog 128 #[.slice (some ⟨g,0,none⟩) 1 cc,.pointer (some ⟨b,0,none⟩)] W (TupPost (DoK W (unOut 2 t))):=by
 unfold unOut
 rw [if_neg (by decide)]
 by_cases hk:t.kind=3
 ·obtain ⟨n,rfl⟩:=(formI hd).1 hk
  rw [if_pos hk]
  have hn:=int_of hd
  subst hn
  have h2:=hi
  unfold in64 at h2
  exact (takesI1_yes t.num h2.1 h2.2 g b W h0 hb).mono fun e w' h=>tup_num e w' ⟨by rw [h.1,less_num _ hi],h.2⟩
 ·obtain ⟨y,u,rfl,hy⟩:=(formI hd).2 hk
  rw [if_neg hk]
  exact (takesI1_no y u hy g b W h0).mono fun e w' h=>tup_same (l:=tyW) e w' h
end Vl
structure Tb (w:World) (fb:Nat):Prop where
 lt:fb < w.heap.size
 gi:Vl.GI w
 ops:∃ w0 l,w.cell? ⟨fb,0,none⟩=some (.map (some w0.heap.size))∧Vl.Tab w0 Vl.opRs l w
 uns:∃ mu b c,w.cell? ⟨fb,1,none⟩=some (.map (some mu))∧w.ownsMap Tryz.prog 3 Vl.anyElem mu 2 (Vl.unDeeds b c)∧w.cell? ⟨b,0,none⟩=some (.func (.func 69) #[] #[])∧w.cell? ⟨c,0,none⟩=some (.func (.func 71) #[] #[])
theorem Tb.below {w w':World} {fb:Nat} (h:Tb w fb) (hb:Below w.heap.size w w'):Tb w' fb:=by
 obtain ⟨w0,l,h1,h2⟩:=h.ops
 obtain ⟨mu,b,c,g1,g2,g3,g4⟩:=h.uns
 exact ⟨Nat.lt_of_lt_of_le h.lt hb.size,h.gi.below hb,⟨w0,l,(hb.cell (p:=⟨fb,0,none⟩) h.lt).trans h1,h2.below hb⟩,⟨mu,b,c,(hb.cell (p:=⟨fb,1,none⟩) h.lt).trans g1,Vl.map_below g2 hb,(hb.cell (p:=⟨b,0,none⟩) (World.block_lt_of_cell? w ⟨b,0,none⟩ g3)).trans g3,(hb.cell (p:=⟨c,0,none⟩) (World.block_lt_of_cell? w ⟨c,0,none⟩ g4)).trans g4⟩⟩
abbrev nmAnew:String:= "loop.example/kilnclay/impl.anew"
def AnPost (B:Nat→Prop) (w:World) (y:Fd) (z:Value) (w':World):Prop:=Fd.Pt (fun q=>B q∨(w.heap.size≤q∧q < w'.heap.size)) w' y z∧Below w.heap.size w w'
def AnewAt (O:FOp) (fb f:Nat):Prop:=∀ (y:Fd),y.size≤f→f≤1000000→Fd.Good y→Fd.Rooted y→∀ (B:Nat→Prop) (u:Value) (w:World),(∀ q,B q→q < w.heap.size)→Tb w fb→Fd.Pt B w y u→Meth1 u nmAnew (pt fb) w (AnPost B w (Fd.fold O f y))
abbrev stO (ty:TypeId) (k o m c:Int) (t:ByteArray) (sl:Value):Obj:= .cells #[.int .i64 k,.int .i64 o,.int .i64 m,.string t,.int .i64 c,sl] ty
theorem stO_cells {W:World} {g:Nat} {ty:TypeId} {k o m c:Int} {t:ByteArray} {sl:Value} (h:W.heap[g]?=some (stO ty k o m c t sl)):W.cell? ⟨g,0,none⟩=some (.int .i64 k)∧W.cell? ⟨g,1,none⟩=some (.int .i64 o)∧W.cell? ⟨g,2,none⟩=some (.int .i64 m)∧W.cell? ⟨g,3,none⟩=some (.string t)∧W.cell? ⟨g,4,none⟩=some (.int .i64 c)∧W.cell? ⟨g,5,none⟩=some sl:=by
 refine ⟨?_,?_,?_,?_,?_,?_⟩ <;> (rw [World.cell?,h];rfl)
set_option maxRecDepth 100000 in
set_option maxHeartbeats 4000000 in
theorem stemAnew_any {O:FOp} {fb f:Nat} (IH:AnewAt O fb f) (hf:f≤1000000) (x:Tr.Nd) (p b:Int) (ks:List Fd) (hs:∀ t∈ks,t.size≤f) (hkl:ks.length≤f) (hG:∀ t∈ks,Fd.Good t) (hR:∀ t∈ks,Fd.Rooted t) (B:Nat→Prop) (sp:Option Addr) (sc:Nat) (xs:List Value) (w:World) (hB:∀ q,B q→q < w.heap.size) (hT:Tb w fb) (hrow:w.ownsRow 0 56 1 (.slice sp ks.length sc) ks.length xs) (hq:∀ q,(Value.slice sp ks.length sc).ownBlock=some q→B q) (hk:Fd.Pt.ptL B w ks xs) :
  Calls Tryz.prog 248 #[Ip.ag x.kind x.op x.n ks.length x.text (.slice sp ks.length sc),pt fb] w fun e w'=>∃ z,e = .returned z∧AnPost B w (.mk x p b (ks.map (Fd.fold O f))) z w':=by
 obtain ⟨iN,hN,hNz,hNs,hNb⟩:=info_parts infoPaF
 obtain ⟨k,o,m,tx,c0⟩:=x
 have HIH:=hide IH
 have HRW:=hide hrow
 have HK:=hide hk
 have HB:=hide hB
 have HT:=hide hT
 have HG:=hide hG
 have HRT:=hide hR
 have HS:=hide hs
 have hgl:∀ q,(Value.slice sp ks.length sc).ownBlock=some q→q < w.heap.size:=fun q e=>hB q (hq q e)
 have HGL:=hide hgl
 have b0:Below w.heap.size w (w.alloc (stO 191 k o m ks.length tx (.slice sp ks.length sc))):=bA _
 have HB0:=hide b0
 have HX0:=hide (heap_alloc_new' w (stO 191 k o m ks.length tx (.slice sp ks.length sc)))
 have hz0:Hid (w.heap.size < (w.alloc (stO 191 k o m ks.length tx (.slice sp ks.length sc))).heap.size):=hide (by simp)
 clear IH hrow hk hB hT hG hR hs b0 hgl hq
 go_enter Tryz.func248,Tryz.ntmps248
 go_wp2_with fail
 go_loopw [5,11] (fun av iv wr=>∃ i:Nat,i≤ks.length∧iv = .int .i64 (i:Int)∧Below w.heap.size w wr∧w.heap.size < wr.heap.size∧wr.heap[w.heap.size]?=some (stO 191 k o m ks.length tx (.slice sp ks.length sc))∧∃ zs,wr.ownsRow (w.heap.size+1) 56 1 av i zs∧Fd.Pt.ptL (fun q=>(B q∨(w.heap.size≤q∧q < wr.heap.size))∧av.ownBlock≠some q) wr ((ks.take i).map (Fd.fold O f)) zs) (fun _ iv _=>ks.length - (intOf iv).toNat)
 case atStart=>exact ⟨0,Nat.zero_le _,rfl,HB0.out,hz0.out,HX0.out,[],World.ownsRow_nil _ _ _ _,by simpa using (Fd.ptL_nil _ _).2 rfl⟩
 case round =>
  obtain ⟨i,hi,rfl,hBr,hzr,hxr,zs,hrow,hpl⟩:=hrel
  have HBR:=hide hBr
  have HXR:=hide hxr
  have HR:=hide hrow
  have HPL:=hide hpl
  clear hBr hxr hrow hpl
  obtain ⟨avp,avc,hav⟩:=row_formF HR.out
  subst hav
  by_cases hlt:i < ks.length
  ·have hlti:(i:Int) < (ks.length:Int):=by omega
   obtain ⟨g,cc,hsl⟩:=row_posF HRW.out (by omega)
   cases hsl
   obtain ⟨ai,hai,hta⟩:=Fd.ptL_get i HK.out hlt
   obtain ⟨ta,ua,hxi⟩:=hta.iface
   subst hxi
   have ke:wr.cell? ⟨g,i,none⟩=some (.iface ta ua):=(HBR.out.cell (p:=⟨g,i,none⟩) (HGL.out g rfl)).trans (row_cellF HRW.out hai)
   have hmem:ks[i]∈ks:=List.getElem_mem _
   have HM:=hide (HIH.out ks[i] (HS.out _ hmem) hf (HG.out _ hmem) (HRT.out _ hmem) B (.iface ta ua) wr (fun q e=>Nat.lt_of_lt_of_le (HB.out q e) HBR.out.size) (HT.out.below HBR.out) (Fd.Pt.go hta (fun _ e=>e) (fun q e=>HBR.out.block q (HB.out q e))))
   clear hta hai
   go_wp2_with (first
    | (show wpList _ _ _ ({dst:=_,op:=Op.call {callee:=Callee.invoke _ _,args:=_,argTypes:=_},type:=_,pos:=_,after:=_,guard:=_} :: _) _ _;refine wpList_meth1 rfl (.tmp 16) (.tmp 17) _ rfl _ _ _ (by first | (simp [Act.eval];done) | simp [Act.eval,Act.put]) (by first | (simp [Act.eval];done) | simp [Act.eval,Act.put]) HM.out ?_;rintro z5 w5 ⟨hp5,hb5⟩;obtain ⟨t5,u5,hv5⟩:=hp5.iface;subst hv5;have HR5:=hide (row_below HR.out hb5);have hz5:=hb5.size;have HB5:=hide hb5;clear hb5)
    | (at_builtin;refine wpList_append_own_at _ rfl _ _ 126 rfl (w.heap.size+1) 56 iN _ 1 16 Tryz.underlying126 hN hNz hNs hNb rfl (by decide) _ _ _ rfl (HR5.out.alloc _) ⟨w5.heap.size,0,none⟩ 1 1 [.iface t5 u5] rfl rfl ?_ ?_ ?_ ?_ ?_ ?_))
   ·exact cell_oneF w5 (.iface t5 u5) _
   ·intro z hz;simp only [List.mem_cons,List.not_mem_nil,or_false] at hz;rw [hz];rfl
   ·unfold maxLen;omega
   ·omega
   ·simp;omega
   ·intro v6 w6 hown6 hgrow6 hnil6 hat6
    have hb5:=HB5.out
    have HX5:=hide ((hb5.block w.heap.size hzr).trans HXR.out)
    have HP5:=hide hp5
    have HPL5:=hide (Fd.ptL_go (B':=fun q=>(B q∨(w.heap.size≤q∧q < w5.heap.size))∧(Value.slice avp i avc).ownBlock≠some q) (fun q e=>⟨e.1.elim .inl (fun e => .inr ⟨e.1,by omega⟩),e.2⟩) (fun q e=>hb5.block q (e.1.elim (fun e=>Nat.lt_of_lt_of_le (HB.out q e) HBR.out.size) (fun e=>e.2))) HPL.out)
    have HOLD:Hid (∀ q,(Value.slice avp i avc).ownBlock=some q→w.heap.size+1≤q∧q < wr.heap.size):=hide (fun q e=>HR.out.lt q e)
    replace HB5:=hide (HBR.out.trans (hb5.mono HBR.out.size))
    clear hp5 hb5 HM HPL
    have B1:Below w.heap.size w (w5.alloc (.cells #[.iface t5 u5] 56)):=HB5.out.alloc HB5.out.size _
    have HB6:=hide (B1.grown hgrow6 (by simp;omega) (fun q e=>by have:=(HOLD.out q e).1;omega))
    have hz6:w5.heap.size+1≤w6.heap.size:=by have:=hgrow6.size;simpa using this
    have hkeep:∀ q,q < w5.heap.size→(Value.slice avp i avc).ownBlock≠some q→w6.heap[q]?=w5.heap[q]?:=fun q h1 h2=>(hgrow6.block q (by simp;omega) (fun e=>h2 e.symm)).trans (((Below.refl w5.heap.size w5).alloc (Nat.le_refl _) _).block q h1)
    have HX6:=hide ((hkeep w.heap.size (by omega) (fun e=>by have:=(HOLD.out _ e).1;omega)).trans HX5.out)
    have hnew:∀ q,q < w5.heap.size→(Value.slice avp i avc).ownBlock≠some q→v6.ownBlock≠some q:=fun q h1 h2 e=>by
     rcases hat6 with e2 | e2
     ·exact h2 (e2 ▸ e)
     ·rw [e2] at e
      have:=Option.some.inj e
      first | omega | (rw [World.size_alloc] at this;omega)
    have hlq:∀ q,((B q∨(w.heap.size≤q∧q < w5.heap.size))∧(Value.slice avp i avc).ownBlock≠some q)→q < w5.heap.size:=fun q e=>e.1.elim (fun e=>Nat.lt_of_lt_of_le (HB.out q e) HB5.out.size) (fun e=>e.2)
    have hq1:Fd.Pt.ptL (fun q=>(B q∨(w.heap.size≤q∧q < w6.heap.size))∧v6.ownBlock≠some q) w6 ((ks.take i).map (Fd.fold O f)) zs:=Fd.ptL_go (fun q e=>⟨e.1.elim .inl (fun e => .inr ⟨e.1,by omega⟩),hnew q (hlq q e) e.2⟩) (fun q e=>hkeep q (hlq q e) e.2) HPL5.out
    have hno:∀ q,(B q∨(wr.heap.size≤q∧q < w5.heap.size))→q < w5.heap.size∧(Value.slice avp i avc).ownBlock≠some q:=fun q e=>e.elim (fun e=>⟨Nat.lt_of_lt_of_le (HB.out q e) HB5.out.size,fun e2=>by have:=(HOLD.out q e2).1;have:=HB.out q e;omega⟩) (fun e=>⟨e.2,fun e2=>by have:=(HOLD.out q e2).2;omega⟩)
    have hq2:Fd.Pt (fun q=>(B q∨(w.heap.size≤q∧q < w6.heap.size))∧v6.ownBlock≠some q) w6 (Fd.fold O f ks[i]) (.iface t5 u5):=Fd.Pt.go HP5.out (fun q e=>⟨e.elim .inl (fun e => .inr ⟨by have:=HBR.out.size;omega,by omega⟩),hnew q (hno q e).1 (hno q e).2⟩) (fun q e=>hkeep q (hno q e).1 (hno q e).2)
    have hq3:=Fd.ptL_snoc hq1 hq2
    have hmap:(ks.take i).map (Fd.fold O f)++[Fd.fold O f ks[i]]=(ks.take (i+1)).map (Fd.fold O f):=by rw [List.take_succ_eq_append_getElem hlt,List.map_append];rfl
    rw [hmap] at hq3
    have HQ3:=hide hq3
    have HR6:=hide hown6
    clear hq1 hq2 hq3 hmap hno hlq hnew hkeep B1 hgrow6 hown6 hnil6 hat6
    go_wp2
    go_roundw
    case rel=>exact ⟨i+1,by omega,by go_num,HB6.out,by omega,HX6.out,_,HR6.out,HQ3.out⟩
    case measure=>simp [intOf];omega
  ·obtain rfl:i=ks.length:=by omega
   have hlti:¬ ((ks.length:Int) < (ks.length:Int)):=by omega
   obtain ⟨b0,b1,b2,b3,b4,b5⟩:=stO_cells HXR.out
   have HN:=hide (fun w=>newPart_any k o m ks.length tx avp ks.length avc w)
   go_wp2_with fail
   refine (HN.out _).mono ?_
   rintro e w6 ⟨rfl,hb6⟩
   have HB6:=hide (HBR.out.trans (hb6.mono HBR.out.size))
   have hz6:=hb6.size
   have HR6:=hide (row_below HR.out hb6)
   have HP6:=hide (Fd.ptL_go (B':=fun q=>B q∨(w.heap.size≤q∧q < w6.heap.size)) (fun q e=>e.1.elim .inl (fun e => .inr ⟨e.1,by omega⟩)) (fun q e=>hb6.block q (e.1.elim (fun e=>Nat.lt_of_lt_of_le (HB.out q e) HBR.out.size) (fun e=>e.2))) HPL.out)
   have HOLD:Hid (∀ q,(Value.slice avp ks.length avc).ownBlock=some q→w.heap.size+1≤q∧q < wr.heap.size):=hide (fun q e=>HR.out.lt q e)
   unfold Ip.pv
   clear hb6
   go_wp2
   go_ret
   refine ⟨_,rfl,(Fd.pt_mk _ _ _ _ _ _ _).2 ⟨.slice avp ks.length avc,zs,by rw [List.length_map];rfl,by rw [List.length_map];exact row_ownF HR6.out (fun _ _=>Nat.zero_le _) (fun _ _=>rfl),fun q e => .inr ⟨by have:=(HOLD.out q e).1;omega,by have:=(HOLD.out q e).2;omega⟩,by have:=HP6.out;rwa [List.take_length] at this⟩,HB6.out⟩
end Go.Proofs.YthbojbbmpcmoaaaGreatDoor
