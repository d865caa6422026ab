/- Foj. -/
import Derived.Test.YthbojbbmpcmoaaaGreatDoorZ30
import Derived.Test.YthbojbbmpcmoaaaGreatDoorZ12
import Derived.Test.YthbojbbmpcmoaaaGreatDoorZ15
namespace Go.Proofs.YthbojbbmpcmoaaaGreatDoor
open Go.RowKit
def Fd.foldOf (O:FOp) (ns:List Tr.Nd):List Tr.Nd:=if Tr.fitsOf ns=true then Fd.give (Fd.fold O ns.length (Fd.take ns (Tr.kids ns) (Tr.bindsOf ns) ns.length (ns.length - 1))) else []
def FoldPost (O:FOp) (ns:List Tr.Nd) (w:World) (e:Ending) (w':World):Prop:=∃ v,e = .returned (.agg #[v])∧w'.ownsRow w.heap.size 64 5 v (Fd.foldOf O ns).length (Tr.cellsOf (Fd.foldOf O ns))∧Below w.heap.size w w'
theorem binds_len {ns:List Tr.Nd} (h:Tr.fitsOf ns=true):(Tr.bindsOf ns).length=ns.length:=((Tr.binds_ok ns).2.1 h).1
theorem Fd.kids_short {ns:List Tr.Nd} (hv:Tr.valid ns=true) (k:Nat):(Tr.kidsOf (Tr.kids ns) k).length≤5000:=by
 obtain ⟨_,_,_,h⟩:=Tr.valid_facts hv
 unfold Tr.kidsOf
 by_cases hk:k < (Tr.kids ns).length
 ·rw [List.getElem?_eq_getElem hk];exact (h k hk).1
 ·rw [List.getElem?_eq_none (by omega)];simp
theorem tkb_of {ns:List Tr.Nd} {ks:List (List Nat)} {B:List Int} {tg kg bg c m:Nat} {w:World} (h1:NodesAt w tg ns) (h2:KidsAt ks kg w) (h3:ks.length=ns.length) (h4:w.ownsRow m 3 1 (.slice (some ⟨bg,0,none⟩) ns.length c) ns.length (B.map vi)):TkB ns ks B tg kg bg w:=by
 have hl:B.length=ns.length:=by have:=h4.1;simpa using this
 refine ⟨h1,h2,h3,(h4.lt bg rfl).2,fun i hi=>?_⟩
 have hi2:i < B.length:=by omega
 rw [row_cellF h4 (j:=i) (u:=vi B[i]) (by rw [List.getElem?_map,List.getElem?_eq_getElem hi2];rfl)]
 unfold Tr.bOf vi
 rw [List.getElem?_eq_getElem hi2]
 rfl
set_option maxRecDepth 100000 in
set_option maxHeartbeats 4000000 in
theorem specFold_any {O:FOp} (HFA:∀ f,FoldAt O f) (ns:List Tr.Nd) (tg tc:Nat) (w:World) (hn:ns.length≤1048576) (ht:NodesAt w tg ns) (h64:∀ x∈ns,x.n < 9223372036854775808):Calls Tryz.prog 5 #[.agg #[.slice (some ⟨tg,0,none⟩) ns.length tc]] w fun e w'=>FoldPost O ns w e w':=by
 have b2:Below w.heap.size w ((w.alloc (.cells #[.slice (some ⟨tg,0,none⟩) ns.length tc] 28)).alloc (.cells #[.slice none 0 0] 28)):=(bA _).alloc (by simp) _
 have HFT:=hide (fits_any ns tg tc _ hn (ht.below b2))
 have HT:=hide (ht.below b2)
 have HB2:=hide b2
 have HX:Hid (((w.alloc (.cells #[.slice (some ⟨tg,0,none⟩) ns.length tc] 28)).alloc (.cells #[.slice none 0 0] 28)).heap[w.heap.size]?=some (.cells #[.slice (some ⟨tg,0,none⟩) ns.length tc] 28)∧((w.alloc (.cells #[.slice (some ⟨tg,0,none⟩) ns.length tc] 28)).alloc (.cells #[.slice none 0 0] 28)).heap[w.heap.size+1]?=some (.cells #[.slice none 0 0] 28)):=hide ⟨((bA (.cells #[.slice none 0 0] 28)).block w.heap.size (by simp)).trans (heap_alloc_new' w _),by have:=heap_alloc_new' (w.alloc (.cells #[.slice (some ⟨tg,0,none⟩) ns.length tc] 28)) (.cells #[.slice none 0 0] 28);rw [World.size_alloc] at this;exact this⟩
 have HZ:Hid (((w.alloc (.cells #[.slice (some ⟨tg,0,none⟩) ns.length tc] 28)).alloc (.cells #[.slice none 0 0] 28)).heap.size=w.heap.size+1+1):=hide (by simp)
 clear ht b2
 go_enter Tryz.func5,Tryz.ntmps5
 go_upto_region 1 with fail
 generalize hw2:(w.alloc (.cells #[.slice (some ⟨tg,0,none⟩) ns.length tc] 28)).alloc (.cells #[.slice none 0 0] 28)=w2 at *
 clear hw2
 have t0:w2.cell? ⟨w.heap.size,0,none⟩=some (.slice (some ⟨tg,0,none⟩) ns.length tc):=by rw [World.cell?,HX.out.1];rfl
 go_wp2_with fail
 refine HFT.out.mono ?_
 rintro e w3 ⟨rfl,hb3⟩
 have HB3:=hide hb3
 have x1:w3.cell? ⟨w.heap.size+1,0,none⟩=some (.slice none 0 0):=(hb3.cell (p:=⟨w.heap.size+1,0,none⟩) (show w.heap.size+1 < w2.heap.size by have:=HZ.out;omega)).trans (by rw [World.cell?,HX.out.2];rfl)
 have f1:w3.frozen? ⟨w.heap.size+1,0,none⟩=false:=(hb3.frozen (p:=⟨w.heap.size+1,0,none⟩) (show w.heap.size+1 < w2.heap.size by have:=HZ.out;omega)).trans (by rw [World.frozen?,HX.out.2];simp)
 have t3:=(hb3.cell (p:=⟨w.heap.size,0,none⟩) (show w.heap.size < w2.heap.size by have:=HZ.out;omega)).trans t0
 clear hb3 t0 HFT
 cases hf:Tr.fitsOf ns
 ·have hfb:((Tr.checkOf ns).1 == 0)=false:=hf
  have HE:Hid (Fd.foldOf O ns=[]):=hide (by unfold Fd.foldOf;rw [if_neg (by rw [hf];decide)])
  clear hf
  go_wp2
  refine bodyPost_ret (v:= .agg #[.slice none 0 0]) (by simp [results,Tryz.results5,go_sem,x1]) rfl ⟨_,rfl,?_,?_⟩
  ·rw [HE.out];exact World.ownsRow_nil _ _ _ _
  ·exact (HB2.out.trans (HB3.out.mono HB2.out.size)).setCell (p:=⟨w.heap.size+1,0,none⟩) (by show w.heap.size≤w.heap.size+1;omega) _
 ·have hfb:((Tr.checkOf ns).1 == 0)=true:=hf
  have hv:=Tr.fits_valid hf
  obtain ⟨hn1,hn5,hgood,_⟩:=Tr.valid_facts hv
  obtain ⟨hK,_,_,_⟩:=Tr.valid_kids hv
  have hkl:(Tr.kids ns).length=ns.length:=by
   unfold Tr.valid at hv
   simp only [Bool.and_eq_true] at hv
   exact (Tr.kids_len hv.1.2)
  have hbl:=binds_len hf
  obtain ⟨hFile,hGood,hSize⟩:=Fd.fits_tree hf h64
  have HE:Hid (Fd.foldOf O ns=Fd.give (Fd.fold O ns.length (Fd.take ns (Tr.kids ns) (Tr.bindsOf ns) ns.length (ns.length - 1)))):=hide (by unfold Fd.foldOf;rw [if_pos hf])
  have HGD:=hide hGood
  have HSZ:=hide hSize
  have HT3:=hide (HT.out.below HB3.out)
  have HKI:=hide (kids_any ns tg tc w3 hn HT3.out)
  have HKL:Hid (∀ k,(Tr.kidsOf (Tr.kids ns) k).length≤1000000):=hide (fun k=>by
   have hc:=Fd.kids_short hv k
   omega)
  have HLT:=hide hK.lt
  clear hv hgood hK hFile hGood hSize
  go_wp2_with fail
  refine HKI.out.mono ?_
  rintro e w4 ⟨g4,c4,vs,rfl,hown4,hrows4,hb4⟩
  have HB4:=hide hb4
  have hK4:KidsAt (Tr.kids ns) g4 w4:=⟨(hown4.lt g4 rfl).2,fun k h=>by
   obtain ⟨g,c,a1,_,_,_,a5,_⟩:=hrows4.2 k h
   exact ⟨g,c,row_cellF hown4 a1,a5⟩⟩
  have HK4:=hide hK4
  have HT4:=hide (HT3.out.below hb4)
  have t4:=(hb4.cell (p:=⟨w.heap.size,0,none⟩) (show w.heap.size < w3.heap.size by have:=HZ.out;have:=HB3.out.size;omega)).trans t3
  have HX4:Hid (w4.heap[w.heap.size+1]?=some (.cells #[.slice none 0 0] 28)):=hide ((hb4.block (w.heap.size+1) (by have:=HZ.out;have:=HB3.out.size;omega)).trans ((HB3.out.block (w.heap.size+1) (by have:=HZ.out;omega)).trans HX.out.2))
  have HBI:=hide (binds_any ns tg tc w4.drew hn (HT4.out.below (Below.refl _ _).drew))
  rw [hbl] at HBI
  rw [hkl]
  have hz4:w.heap.size+1+1≤w4.heap.size:=by have:=HZ.out;have:=HB3.out.size;have:=hb4.size;omega
  clear hown4 hrows4 hb4 hK4 t3 x1 f1 HKI HT3 HT
  have hni:(0:Int) < (ns.length:Int):=by omega
  have ewn:IntKind.i64.wrap ((ns.length:Int) - 1)=((ns.length - 1:Nat):Int):=by rw [IntKind.wrap_i64];omega
  go_wp2_with fail
  go_region_law (first
   | (refine step_callF rfl 16 [.tmp 17] _ rfl [.agg #[.slice (some ⟨tg,0,none⟩) ns.length tc]] (by first | (simp [Act.eval];done) | (simp [Act.eval,Act.put];done) | (simp [Act.eval,Act.put,ewn];done)) Tryz.f16 Tryz.func16 (by kernel_rfl) (by kernel_rfl) (fun r w5=>∃ g,r = .slice (some ⟨g,0,none⟩) ns.length ns.length∧w5.ownsRow 0 3 1 (.slice (some ⟨g,0,none⟩) ns.length ns.length) ns.length ((Tr.bindsOf ns).map vi)∧Below w4.heap.size w4 w5) (HBI.out.mono (fun _ _ ⟨g,q1,_,q2,q3⟩=>⟨_,q1,g,rfl,q2,drewF q3⟩)) ?_;rintro r w5 ⟨g5,rfl,hrow5,hb5⟩;have t5:=(hb5.cell (p:=⟨w.heap.size,0,none⟩) (show w.heap.size < w4.heap.size by omega)).trans t4)
   | (refine step_callF rfl 15 [.tmp 15,.tmp 16,.tmp 18,.tmp 22] _ rfl [.agg #[.slice (some ⟨tg,0,none⟩) ns.length tc],.slice (some ⟨g4,0,none⟩) ns.length c4,.slice (some ⟨g5,0,none⟩) ns.length ns.length,.int .i64 ((ns.length - 1:Nat):Int)] (by first | (simp [Act.eval];done) | (simp [Act.eval,Act.put];done) | (simp [Act.eval,Act.put,ewn];done)) Tryz.f15 Tryz.func15 (by kernel_rfl) (by kernel_rfl) (fun r w6=>∃ a6,r=pt a6∧Fd.Is w6 (Fd.take ns (Tr.kids ns) (Tr.bindsOf ns) ns.length (ns.length - 1)) a6∧Below w5.heap.size w5 w6) ((take_any ns (Tr.kids ns) (Tr.bindsOf ns) tg tc g4 c4 g5 ns.length HLT.out HKL.out ns.length (ns.length - 1) w5 (by omega) (by omega) (tkb_of (HT4.out.below hb5) (HK4.out.below hb5) hkl hrow5)).mono (fun _ _ ⟨a6,q1,q2,q3⟩=>⟨_,q1,a6,rfl,q2.go (fun _ e=>e.2) (fun _ _=>rfl),q3⟩)) ?_;rintro r w6 ⟨a6,rfl,hat6,hb6⟩)
   | (refine step_callF rfl 14 [.tmp 23] _ rfl [pt a6] (by first | (simp [Act.eval];done) | (simp [Act.eval,Act.put];done) | (simp [Act.eval,Act.put,ewn];done)) Tryz.f14 Tryz.func14 (by kernel_rfl) (by kernel_rfl) (fun r w7=>∃ a7,r=pt a7∧Fd.At (fun q=>w6.heap.size≤q∧q < w7.heap.size) w7 (Fd.fold O ns.length (Fd.take ns (Tr.kids ns) (Tr.bindsOf ns) ns.length (ns.length - 1))) a7∧Below w6.heap.size w6 w7) ((HFA ns.length _ (by rw [HSZ.out];omega) (by omega) HGD.out a6 w6 hat6).mono (fun _ _ ⟨a7,q1,q2,q3⟩=>⟨_,q1,a7,rfl,q2,q3⟩)) ?_;rintro r w7 ⟨a7,rfl,hat7,hb7⟩))
  all_goals
   have hbz:Below w4.heap.size w4 w7:=hb5.trans ((hb6.trans (hb7.mono hb6.size)).mono hb5.size)
   have HBZ:=hide hbz
   have HX7:=hide ((hbz.block (w.heap.size+1) (by omega)).trans HX4.out)
   have HAT7:=hide hat7
   have h67:w.heap.size+1+1≤w6.heap.size:=by have:=hb5.size;have:=hb6.size;omega
   have hz7:=hbz.size
   clear hat7 hat6 hrow5 hb5 hb6 hb7 hbz t4 t5
   have HGV:=hide (give_any w7.heap.size _ (Fd.fold O ns.length (Fd.take ns (Tr.kids ns) (Tr.bindsOf ns) ns.length (ns.length - 1))) (Nat.le_refl _) a7 (.slice (some ⟨w7.heap.size,0,none⟩) 0 0) [] (w7.alloc (.cells #[] 64)) (by have:=Fd.size_fold O ns.length (Fd.take ns (Tr.kids ns) (Tr.bindsOf ns) ns.length (ns.length - 1));rw [HSZ.out] at this;simp;omega) (HAT7.out.go (fun q e=>⟨by rw [World.size_alloc];omega,fun e2=>by
     have e3:w7.heap.size=q:=(by simpa [Value.ownBlock] using e2)
     omega⟩) (fun q e=>((Below.refl w7.heap.size w7).alloc (Nat.le_refl _) (.cells #[] 64)).block q e.2)) (World.ownsRow_lit (base:=w7.heap.size) (e:=64) (size:=5) w7 #[] 0 (Nat.le_refl _) (Nat.zero_le _) rfl) (by simp))
   rw [← HE.out,List.nil_append] at HGV
   go_wp2_with fail
   refine HGV.out.mono ?_
   rintro e w8 ⟨v8,rfl,hr8,hg8⟩
   obtain ⟨p8,c8,hv8⟩:=row_formF hr8
   subst hv8
   have hne:(Value.slice (some ⟨w7.heap.size,0,none⟩) 0 0).ownBlock≠some (w.heap.size+1):=fun e=>by
    have e3:w7.heap.size=w.heap.size+1:=(by simpa [Value.ownBlock] using e)
    omega
   have hx8:w8.heap[w.heap.size+1]?=some (.cells #[.slice none 0 0] 28):=(hg8.block (w.heap.size+1) (by rw [World.size_alloc];omega) hne).trans ((((Below.refl w7.heap.size w7).alloc (Nat.le_refl _) (.cells #[] 64)).block (w.heap.size+1) (by omega)).trans HX7.out)
   have x8:w8.cell? ⟨w.heap.size+1,0,none⟩=some (.slice none 0 0):=by rw [World.cell?,hx8];rfl
   have f8:w8.frozen? ⟨w.heap.size+1,0,none⟩=false:=by rw [World.frozen?,hx8];simp
   have hB4:Below w.heap.size w w4:=HB2.out.trans ((HB3.out.trans (HB4.out.mono HB3.out.size)).mono HB2.out.size)
   have hB7:Below w.heap.size w (w7.alloc (.cells #[] 64)):=(hB4.trans (HBZ.out.mono hB4.size)).alloc (by omega) _
   have hB8:Below w.heap.size w w8:=hB7.trans ((hg8.below (B:=w7.heap.size) (fun q e=>by
    have e3:w7.heap.size=q:=(by simpa [Value.ownBlock] using e)
    omega) (by rw [World.size_alloc];omega)).mono (by omega))
   have HB8:=hide hB8
   have HR8:=hide hr8
   clear hB4 hB7 hB8 hr8 hg8 hx8 hne
   go_wp2
   refine bodyPost_ret (v:= .agg #[.slice p8 (Fd.foldOf O ns).length c8]) (by simp [results,Tryz.results5,go_sem,x8]) rfl ⟨_,rfl,?_,?_⟩
   ·exact row_ownF HR8.out (fun q e=>by have:=(HR8.out.lt q e).1;omega) (fun q e=>heap_setOther (by have:=(HR8.out.lt q e).1;omega))
   ·exact HB8.out.setCell (p:=⟨w.heap.size+1,0,none⟩) (by show w.heap.size≤w.heap.size+1;omega) _
end Go.Proofs.YthbojbbmpcmoaaaGreatDoor
