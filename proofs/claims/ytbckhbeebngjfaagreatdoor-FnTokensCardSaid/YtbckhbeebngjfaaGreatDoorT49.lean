/- Gg, Tkm. -/
import Derived.Test.YtbckhbeebngjfaaGreatDoorT45
import Derived.Test.YtbckhbeebngjfaaGreatDoorT46
import Derived.Test.YtbckhbeebngjfaaGreatDoorT47
import Derived.Test.YtbckhbeebngjfaaGreatDoorT48
import Derived.Test.YtbckhbeebngjfaaGreatDoorT41
import Derived.Test.YtbckhbeebngjfaaGreatDoorT17
import Derived.Test.YtbckhbeebngjfaaGreatDoorT43
import Derived.Test.YtbckhbeebngjfaaGreatDoorT44
namespace Go.Proofs.YtbckhbeebngjfaaGreatDoor
open Go.RowKit
variable (rb:Nat) (vb:Value) (n:Nat)
set_option maxRecDepth 100000 in
set_option maxHeartbeats 16000000 in
theorem spoilN_any [Inhabited Bs]:SpoilAt rb vb n:=fun q v l w h hn hl hq=>by
 obtain ⟨iN,hNi,hNz,hNs,hNb⟩:=info_parts Tryz.infoNdP
 have hrw:=h.lt
 have HN:=hide hn
 have HR:=hide h
 rcases hn.1.2 with ⟨hv,h0⟩ | ⟨g,c,cur,hv,_⟩
 ·subst hv
  obtain rfl:l=[]:=List.length_eq_zero_iff.1 h0
  have HR0:Hid ((((w.alloc (.cells #[.slice none 0 0] 50)).alloc (.cells #[.slice none 0 0] 50)).alloc (.cells #[] 82)).ownsRow w.heap.size 82 5 (.slice (some ⟨w.heap.size+1+1,0,none⟩) 0 0) 0 []):=hide (by
   have hr:=World.ownsRow_lit (base:=w.heap.size) (e:=82) (size:=5) ((w.alloc (.cells #[.slice none 0 0] 50)).alloc (.cells #[.slice none 0 0] 50)) #[] 0 (by simp;omega) (Nat.zero_le _) rfl
   simpa using hr)
  have HS:=hide (SP.start (w5:=(((w.alloc (.cells #[.slice none 0 0] 50)).alloc (.cells #[.slice none 0 0] 50)).alloc (.cells #[] 82))) HR.out HN.out (World.grownBy.refl' _ _) HR0.out)
  clear h hn h0
  obtain ⟨_,t0,o0,ft,_⟩:=HS.out.cells
  rw [show (((w.alloc (.cells #[.slice none 0 0] 50)).alloc (.cells #[.slice none 0 0] 50)).alloc (.cells #[] 82)).heap.size=w.heap.size+1+1+1 by simp] at o0 HS
  go_enter Tryz.func40,Tryz.ntmps40
  go_upto_region 2 with (at_builtin;refine wpList_append_own_none rfl _ _ 48 rfl w.heap.size 82 iN 5 Tryz.underlying48 hNi _ 0 [] rfl HR0.out rfl ?_)
  generalize hw6:(((w.alloc (.cells #[.slice none 0 0] 50)).alloc (.cells #[.slice none 0 0] 50)).alloc (.cells #[] 82)).alloc (.cells #[.slice (some ⟨w.heap.size+1+1,0,none⟩) 0 0] 50)=w6 at *
  clear hw6 HR0
  have HE9:=hide (HS.out.ret (l':=[]) (v':= .slice (some ⟨w.heap.size+1+1,0,none⟩) 0 0) ⟨rowLeC HS.out.out (Nat.zero_le _),sh_nil⟩)
  go_wp2
  exact bodyPost_ret (v:= .agg #[.slice (some ⟨w.heap.size+1+1,0,none⟩) 0 0]) (by simp [results,Tryz.results40,go_sem,t0]) rfl ⟨_,_,rfl,HE9.out.1,Nat.zero_le _,HE9.out.2.1.mono (by omega),HE9.out.2.2⟩
 ·subst hv
  have hcl:∀ (j:Nat) (x:Value),(Tr.cellsOf l)[j]?=some x→(((w.alloc (.cells #[.slice (some ⟨g,0,none⟩) l.length c] 50)).alloc (.cells #[.slice none 0 0] 50)).alloc (.cells #[] 82)).cell? ((⟨g,0,none⟩:Addr).add j)=some x:=fun j x hx=>by
   have b3:Below w.heap.size w (((w.alloc (.cells #[.slice (some ⟨g,0,none⟩) l.length c] 50)).alloc (.cells #[.slice none 0 0] 50)).alloc (.cells #[] 82)):=((bA _).alloc (by simp) _).alloc (by simp;omega) _
   have h1:=World.ownsRow.cells hn.1 rfl j x hx
   rw [add_plainP] at h1 ⊢
   exact (b3.cell (p:=⟨g,0+j,none⟩) (hn.1.lt g rfl).2).trans h1
  have HCL:=hide hcl
  have HR0:Hid ((((w.alloc (.cells #[.slice (some ⟨g,0,none⟩) l.length c] 50)).alloc (.cells #[.slice none 0 0] 50)).alloc (.cells #[] 82)).ownsRow w.heap.size 82 5 (.slice (some ⟨w.heap.size+1+1,0,none⟩) 0 0) 0 []):=hide (by
   have hr:=World.ownsRow_lit (base:=w.heap.size) (e:=82) (size:=5) ((w.alloc (.cells #[.slice (some ⟨g,0,none⟩) l.length c] 50)).alloc (.cells #[.slice none 0 0] 50)) #[] 0 (by simp;omega) (Nat.zero_le _) rfl
   simpa using hr)
  have hsz3:w.heap.size≤(((w.alloc (.cells #[.slice (some ⟨g,0,none⟩) l.length c] 50)).alloc (.cells #[.slice none 0 0] 50)).alloc (.cells #[] 82)).heap.size:=by simp;omega
  clear h hn hcl
  go_enter Tryz.func40,Tryz.ntmps40
  go_wp2_with (at_builtin;refine wpList_append_own_at _ rfl _ _ 48 rfl w.heap.size 82 iN _ 5 48 Tryz.underlying48 hNi hNz hNs hNb rfl (by decide) _ 0 [] rfl HR0.out ⟨g,0,none⟩ l.length c (Tr.cellsOf l) rfl (cellsOf_len5 l) HCL.out (cells_oneC l) (by unfold maxLen;omega) (by omega) hsz3 ?_)
  intro ov w5 r1 r2 r3 r4
  have r1':w5.ownsRow w.heap.size 82 5 ov l.length (Tr.cellsOf l):=by simpa using r1
  have HS0:=hide (SP.start HR.out HN.out r2 r1')
  obtain ⟨op,oc,hov⟩:=row_formP r1'
  subst hov
  clear r1 r2 r3 r4 HCL HR0 hsz3
  go_upto_region 2 with fail
  generalize hw6:w5.alloc (.cells #[.slice op l.length oc] 50)=w6 at *
  generalize w5.heap.size=ob at *
  have o0:=HS0.out.cells.2.2.1
  by_cases hl0:l.length=0
  ·obtain rfl:=List.length_eq_zero_iff.1 hl0
   simp only [List.length_nil] at o0
   have HS0:Hid (SP rb vb n w (.slice (some ⟨g,0,none⟩) 0 c) [] w.heap.size (w.heap.size+1) ob q (.slice op 0 oc) [] w6):=HS0
   have HE9:=hide (HS0.out.ret (l':=[]) (v':= .slice op 0 oc) ⟨rowLeC HS0.out.out (Nat.zero_le _),HS0.out.sh⟩)
   obtain ⟨_,t0,_,ft,_⟩:=HS0.out.cells
   go_wp2
   exact bodyPost_ret (v:= .agg #[.slice op 0 oc]) (by simp [results,Tryz.results40,go_sem,t0]) rfl (by first | exact ⟨_,_,rfl,HE9.out.1,(Nat.zero_le _),HE9.out.2.1.mono (by omega),HE9.out.2.2⟩ | exact ⟨_,rfl,_,HE9.out.1,(Nat.zero_le _),HE9.out.2.1.mono (by omega),HE9.out.2.2⟩)
  ·have hl1:((l.length:Int) == 0)=false:=beq_eq_false_iff_ne.2 (by omega)
   have hlp:(0:Int) < (l.length:Int):=by omega
   obtain ⟨og,hop⟩:∃ og,op=some ⟨og,0,none⟩:=by
    rcases r1'.2 with ⟨_,h0⟩ | ⟨g',c',_,h2,_⟩
    ·exact absurd h0 hl0
    ·cases h2;exact ⟨_,rfl⟩
   subst hop
   clear r1' hw6
   go_wp2_with fail
   refine (Rq.pick HS0.out.r (by omega) 256 (by omega) (by omega)).mono ?_
   rintro e w7 ⟨z1,hz1,rfl,hr7,ht7⟩
   have HS1:=hide (HS0.out.ty ht7 hr7)
   clear hr7 ht7 HS0 o0
   go_wp2_with fail
   refine (Rq.pick HS1.out.r (by omega) 256 (by omega) (by omega)).mono ?_
   rintro e w8 ⟨z2,hz2,rfl,hr8,ht8⟩
   have HS2:=hide (HS1.out.ty ht8 hr8)
   clear hr8 ht8 HS1
   have hk:(z1*256+z2) % l.length < l.length:=Nat.mod_lt _ (by omega)
   have e0:IntKind.i64.wrap ((z1:Int)*256)=(z1:Int)*256:=by rw [IntKind.wrap_i64];omega
   have e3:IntKind.i64.wrap ((z1:Int)*256+(z2:Int))=(z1:Int)*256+(z2:Int):=by rw [IntKind.wrap_i64];omega
   have e1:((z1:Int)*256+(z2:Int)) % (l.length:Int)=(((z1*256+z2) % l.length:Nat):Int):=by simp
   have e2:((z1:Int)*256+(z2:Int)).tmod (l.length:Int)=(((z1*256+z2) % l.length:Nat):Int):=by rw [Int.tmod_eq_emod_of_nonneg (by omega)];exact e1
   generalize (z1*256+z2) % l.length=k at *
   have o2:=HS2.out.cells.2.2.1
   obtain ⟨q0,q1,q2,q3,q4,_⟩:=HS2.out.node hk
   have HX0:Hid (XN w w8.heap.size (.slice (some ⟨og,0,none⟩) l.length oc) l[k] (w8.alloc (.cells #[.int .i64 l[k].kind,.int .i64 l[k].op,.int .i64 l[k].n,.string l[k].text,.int .i64 l[k].kids] 82))):=hide ⟨heap_alloc_new' _ _,HS2.out.sh _ (List.getElem_mem hk),fun e=>by have:=(HS2.out.out.lt _ e).2;omega,HS2.out.tf.size⟩
   have HS3:=hide (HS2.out.below (bA (.cells #[.int .i64 l[k].kind,.int .i64 l[k].op,.int .i64 l[k].n,.string l[k].text,.int .i64 l[k].kids] 82)))
   have HSH:=hide HS2.out.sh
   go_upto_region 7 with fail
   generalize hw9:w8.alloc (.cells #[.int .i64 l[k].kind,.int .i64 l[k].op,.int .i64 l[k].n,.string l[k].text,.int .i64 l[k].kids] 82)=w9 at *
   generalize hxb:w8.heap.size=xb at *
   generalize l[k]=x0 at *
   clear hw9 HS2
   go_cut [39] from 38 to 200 (fun v39 wx=>∃ z:Nat,z < 10∧v39 = .int .i64 (z:Int)∧SP rb vb n w (.slice (some ⟨g,0,none⟩) l.length c) l w.heap.size (w.heap.size+1) ob (q+3) (.slice (some ⟨og,0,none⟩) l.length oc) l wx∧XN w xb (.slice (some ⟨og,0,none⟩) l.length oc) x0 wx)
   case first =>
    go_wp2_with fail
    refine (Rq.pick HS3.out.r (by omega) 10 (by omega) (by omega)).mono ?_
    rintro e w10 ⟨z,hz,rfl,hr10,ht10⟩
    have HS4:=hide (HS3.out.ty ht10 hr10)
    have HX4:=hide (HX0.out.ty ht10)
    clear hr10 ht10
    go_wp2_with fail
    go_meet
    case rel=>exact ⟨z,by omega,rfl,HS4.out,HX4.out⟩
   case rest =>
    obtain ⟨z,hz,rfl,hS4,hX4⟩:=hcut
    have HS4:=hide hS4
    have HX4:=hide hX4
    clear hS4 hX4 HS3 HX0 q0 q1 q2 q3 q4 o2 e0 e1 e2 e3
    rename ∀ (a:Act) (w:World),_→_=>hKK
    refine hKK _ _ ?_
    go_cut [9,10,11,12,13] from 39 to 200 (fun _ _ _ _ _ wx=>∃ x,SP rb vb n w (.slice (some ⟨g,0,none⟩) l.length c) l w.heap.size (w.heap.size+1) ob (q+6) (.slice (some ⟨og,0,none⟩) l.length oc) l wx∧XN w xb (.slice (some ⟨og,0,none⟩) l.length oc) x wx)
    case first =>
     have hzc:z=0∨z=1∨z=2∨z=3∨z=4∨z=5∨z=6∨z=7∨z=8∨z=9:=by omega
     rcases hzc with rfl | rfl | rfl | rfl | rfl | rfl | rfl | rfl | rfl | rfl
     ·exact sp_0 0 (by decide) rb vb n q l w g c ob og oc xb k x0 wc hl hq hl1 hlp hk hrw HSH HS4 HX4 _ _ (by unfold spJ;assumption) (by assumption) _ rfl
     ·exact sp_0 1 (by decide) rb vb n q l w g c ob og oc xb k x0 wc hl hq hl1 hlp hk hrw HSH HS4 HX4 _ _ (by unfold spJ;assumption) (by assumption) _ rfl
     ·exact sp_0 2 (by decide) rb vb n q l w g c ob og oc xb k x0 wc hl hq hl1 hlp hk hrw HSH HS4 HX4 _ _ (by unfold spJ;assumption) (by assumption) _ rfl
     ·exact sp_0 3 (by decide) rb vb n q l w g c ob og oc xb k x0 wc hl hq hl1 hlp hk hrw HSH HS4 HX4 _ _ (by unfold spJ;assumption) (by assumption) _ rfl
     ·exact sp_0 4 (by decide) rb vb n q l w g c ob og oc xb k x0 wc hl hq hl1 hlp hk hrw HSH HS4 HX4 _ _ (by unfold spJ;assumption) (by assumption) _ rfl
     ·exact sp_5 5 (by decide) rb vb n q l w g c ob og oc xb k x0 wc hl hq hl1 hlp hk hrw HSH HS4 HX4 _ _ (by unfold spJ;assumption) (by assumption) _ rfl
     ·exact sp_5 6 (by decide) rb vb n q l w g c ob og oc xb k x0 wc hl hq hl1 hlp hk hrw HSH HS4 HX4 _ _ (by unfold spJ;assumption) (by assumption) _ rfl
     ·exact sp_5 7 (by decide) rb vb n q l w g c ob og oc xb k x0 wc hl hq hl1 hlp hk hrw HSH HS4 HX4 _ _ (by unfold spJ;assumption) (by assumption) _ rfl
     ·exact sp_8 rb vb n q l w g c ob og oc xb k x0 wc hl hq hl1 hlp hk hrw HSH HS4 HX4 _ _ (by unfold spJ;assumption) (by assumption) _ rfl
     ·exact sp_9 rb vb n q l w g c ob og oc xb k x0 wc hl hq hl1 hlp hk hrw HSH HS4 HX4 _ _ (by unfold spJ;assumption) (by assumption) _ rfl
    case rest =>
     obtain ⟨x,hS,hX⟩:=hcut
     have HS5:=hide hS
     have HX5:=hide hX
     have o5:=hS.cells.2.2.1
     obtain ⟨q0,q1,q2,q3,q4,qf⟩:=hS.node hk
     have qf0:=qf (k*5)
     have qf1:=qf (k*5+1)
     have qf2:=qf (k*5+2)
     have qf3:=qf (k*5+3)
     have qf4:=qf (k*5+4)
     obtain ⟨y0,y1,y2,y3,y4,_⟩:=hX.cells
     have HS6:=hide (hS.put5 (k:=k) x hX.sh hk)
     have hll:(l.set k x).length=l.length:=by simp
     have HN6:Hid (NR _ (.slice (some ⟨og,0,none⟩) l.length oc) (l.set k x)):=hide ⟨rowLeC HS6.out.out (Nat.zero_le _),HS6.out.sh⟩
     have HE9:=hide (HS6.out.ret HN6.out)
     have o6:=HS6.out.cells.2.2.1
     have t0:=HS6.out.cells.2.1
     have ft:=HS6.out.cells.2.2.2.1
     clear hS hX qf HS4 HX4
     go_wp2
     exact bodyPost_ret (v:= .agg #[(.slice (some ⟨og,0,none⟩) l.length oc)]) (by simp [results,Tryz.results40,go_sem,t0]) rfl ⟨_,_,rfl,HE9.out.1,by omega,HE9.out.2.1.mono (by omega),HE9.out.2.2⟩
theorem drawParse_all [Inhabited Bs] (m:Nat) (v:Value) (w:World) (h:ByV w v m) (hB:lowB≤w.heap.size):Calls Tryz.prog 11 #[v] w fun e w'=>DSk w e w' :=
 drawParse_any (fun rb vb n q w h hq=>program_any rb vb n (fun gb d kd HE hk=>record_any gb rb vb n d kd HE hk) (fun gb h1 h3=>def_any gb rb vb n h1 h3) q w h hq) (fun rb vb n=>spoilN_any rb vb n) m v w h hB
theorem drawScan_below (m:Nat) (v:Value) (w:World) (h:ByV w v m):Calls Tryz.prog 4 #[v] w fun e w'=>DrewPost w e w':=by
 have key:∀ I:Inhabited Bs,@lowB I=w.heap.size→Calls Tryz.prog 4 #[v] w fun e w'=>DrewPost w e w':=fun I hI=>by
  refine (drawScan_any (fun v w m h hB=>drawParse_all m v w h hB) m v w h (by rw [hI];exact Nat.le_refl _) ?_).mono ?_
  ·intro g o c hv hm
   rcases h with ⟨q,c',rfl,h0⟩ | ⟨g',o',c',rfl,h1,h2,h3,h4⟩
   ·omega
   ·cases hv
    rw [hI];exact h3
  ·rintro e w' ⟨s,rfl,hs,ht⟩
   exact ⟨s,rfl,hs,⟨ht.os,ht.tape,ht.output,ht.size,fun b hb=>ht.old b hb (by rw [hI];exact hb)⟩⟩
 exact key ⟨(show Bs from w.heap.size)⟩ rfl
end Go.Proofs.YtbckhbeebngjfaaGreatDoor
