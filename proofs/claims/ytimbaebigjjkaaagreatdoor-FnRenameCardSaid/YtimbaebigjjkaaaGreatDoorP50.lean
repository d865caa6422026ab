/- Gg. -/
import Derived.Test.YtimbaebigjjkaaaGreatDoorP31
import Derived.Test.YtimbaebigjjkaaaGreatDoorP32
import Derived.Test.YtimbaebigjjkaaaGreatDoorP33
import Derived.Test.YtimbaebigjjkaaaGreatDoorP34
namespace Go.Proofs.YtimbaebigjjkaaaGreatDoor
open Go.RowKit
variable (rb:Nat) (vb:Value) (n:Nat)
set_option maxRecDepth 100000 in
set_option maxHeartbeats 16000000 in
theorem spoilN_any [LB]:SpoilAt rb vb n:=fun q v l w h hn hl hq=>by
 obtain ⟨iN,hNi,hNz,hNs,hNb⟩:=info_parts Tryz.infoNdP
 have hrw:=h.lt
 have HN:=X1 hn
 have HR:=X1 h
 rcases hn.1.2 with ⟨hv,h0⟩ | ⟨g,c,cur,hv,_⟩
 ·subst hv
  obtain rfl:l=[]:=List.length_eq_zero_iff.1 h0
  have HR0:Hid ((((w.alloc (.cells #[.slice none 0 0] 25)).alloc (.cells #[.slice none 0 0] 25)).alloc (.cells #[] 35)).ownsRow w.heap.size 35 5 (.slice (some ⟨w.heap.size+1+1,0,none⟩) 0 0) 0 []):=X1 (by
   have hr:=World.ownsRow_lit (base:=w.heap.size) (e:=35) (size:=5) ((w.alloc (.cells #[.slice none 0 0] 25)).alloc (.cells #[.slice none 0 0] 25)) #[] 0 (by simp;omega) (Nat.zero_le _) rfl
   simpa using hr)
  have HS:=X1 (SP.start (w5:=(((w.alloc (.cells #[.slice none 0 0] 25)).alloc (.cells #[.slice none 0 0] 25)).alloc (.cells #[] 35))) HR.o HN.o (World.grownBy.refl' _ _) HR0.o)
  clear h hn h0
  obtain ⟨_,t0,o0,ft,_⟩:=HS.o.cells
  rw [show (((w.alloc (.cells #[.slice none 0 0] 25)).alloc (.cells #[.slice none 0 0] 25)).alloc (.cells #[] 35)).heap.size=w.heap.size+1+1+1 by simp] at o0 HS
  go_enter Tryz.func35,Tryz.ntmps35
  go_upto_region 2 with (at_builtin;refine wpList_append_own_none rfl _ _ 23 rfl w.heap.size 35 iN 5 Tryz.underlying23 hNi _ 0 [] rfl HR0.o rfl ?_)
  generalize hw6:(((w.alloc (.cells #[.slice none 0 0] 25)).alloc (.cells #[.slice none 0 0] 25)).alloc (.cells #[] 35)).alloc (.cells #[.slice (some ⟨w.heap.size+1+1,0,none⟩) 0 0] 25)=w6 at *
  clear hw6 HR0
  have HE9:=X1 (HS.o.ret (l':=[]) (v':= .slice (some ⟨w.heap.size+1+1,0,none⟩) 0 0) ⟨ZN HS.o.o (Nat.zero_le _),sh_nil⟩)
  go_wp2
  exact bodyPost_ret (v:= .agg #[.slice (some ⟨w.heap.size+1+1,0,none⟩) 0 0]) (by simp [results,Tryz.results35,go_sem,t0]) rfl ⟨_,_,rfl,HE9.o.1,Nat.zero_le _,HE9.o.2.1.mono (by omega),HE9.o.2.2⟩
 ·subst hv
  have hcl:∀ (j:Nat) (x:Value),(X2 l)[j]?=some x→(((w.alloc (.cells #[.slice (some ⟨g,0,none⟩) l.length c] 25)).alloc (.cells #[.slice none 0 0] 25)).alloc (.cells #[] 35)).cell? ((⟨g,0,none⟩:Addr).add j)=some x:=fun j x hx=>by
   have b3:Below w.heap.size w (((w.alloc (.cells #[.slice (some ⟨g,0,none⟩) l.length c] 25)).alloc (.cells #[.slice none 0 0] 25)).alloc (.cells #[] 35)):=((bA _).alloc (by simp) _).alloc (by simp;omega) _
   have h1:=World.ownsRow.cells hn.1 rfl j x hx
   rw [Xl] at h1 ⊢
   exact (b3.cell (p:=⟨g,0+j,none⟩) (hn.1.lt g rfl).2).trans h1
  have HCL:=X1 hcl
  have HR0:Hid ((((w.alloc (.cells #[.slice (some ⟨g,0,none⟩) l.length c] 25)).alloc (.cells #[.slice none 0 0] 25)).alloc (.cells #[] 35)).ownsRow w.heap.size 35 5 (.slice (some ⟨w.heap.size+1+1,0,none⟩) 0 0) 0 []):=X1 (by
   have hr:=World.ownsRow_lit (base:=w.heap.size) (e:=35) (size:=5) ((w.alloc (.cells #[.slice (some ⟨g,0,none⟩) l.length c] 25)).alloc (.cells #[.slice none 0 0] 25)) #[] 0 (by simp;omega) (Nat.zero_le _) rfl
   simpa using hr)
  have hsz3:w.heap.size≤(((w.alloc (.cells #[.slice (some ⟨g,0,none⟩) l.length c] 25)).alloc (.cells #[.slice none 0 0] 25)).alloc (.cells #[] 35)).heap.size:=by simp;omega
  clear h hn hcl
  go_enter Tryz.func35,Tryz.ntmps35
  go_wp2_with (at_builtin;refine wpList_append_own_at _ rfl _ _ 23 rfl w.heap.size 35 iN _ 5 48 Tryz.underlying23 hNi hNz hNs hNb rfl (by decide) _ 0 [] rfl HR0.o ⟨g,0,none⟩ l.length c (X2 l) rfl (Kf l) HCL.o (K4 l) (by unfold maxLen;omega) (by omega) hsz3 ?_)
  intro ov w5 r1 r2 r3 r4
  have r1':w5.ownsRow w.heap.size 35 5 ov l.length (X2 l):=by simpa using r1
  have HS0:=X1 (SP.start HR.o HN.o r2 r1')
  obtain ⟨op,oc,hov⟩:=Xc r1'
  subst hov
  clear r1 r2 r3 r4 HCL HR0 hsz3
  go_upto_region 2 with fail
  generalize hw6:w5.alloc (.cells #[.slice op l.length oc] 25)=w6 at *
  generalize w5.heap.size=ob at *
  have o0:=HS0.o.cells.2.2.1
  by_cases hl0:l.length=0
  ·obtain rfl:=List.length_eq_zero_iff.1 hl0
   simp only [List.length_nil] at o0
   have HS0:Hid (SP rb vb n w (.slice (some ⟨g,0,none⟩) 0 c) [] w.heap.size (w.heap.size+1) ob q (.slice op 0 oc) [] w6):=HS0
   have HE9:=X1 (HS0.o.ret (l':=[]) (v':= .slice op 0 oc) ⟨ZN HS0.o.o (Nat.zero_le _),HS0.o.sh⟩)
   obtain ⟨_,t0,_,ft,_⟩:=HS0.o.cells
   go_wp2
   exact bodyPost_ret (v:= .agg #[.slice op 0 oc]) (by simp [results,Tryz.results35,go_sem,t0]) rfl (by first | exact ⟨_,_,rfl,HE9.o.1,(Nat.zero_le _),HE9.o.2.1.mono (by omega),HE9.o.2.2⟩ | exact ⟨_,rfl,_,HE9.o.1,(Nat.zero_le _),HE9.o.2.1.mono (by omega),HE9.o.2.2⟩)
  ·have hl1:((l.length:Int) == 0)=false:=beq_eq_false_iff_ne.2 (by omega)
   have hlp:(0:Int) < (l.length:Int):=by omega
   obtain ⟨og,hop⟩:∃ og,op=some ⟨og,0,none⟩:=by
    rcases r1'.2 with ⟨_,h0⟩ | ⟨g',c',_,h2,_⟩
    ·exact absurd h0 hl0
    ·cases h2;exact ⟨_,rfl⟩
   subst hop
   clear r1' hw6
   go_wp2_with fail
   refine (Rq.pick HS0.o.r (by omega) 256 (by omega) (by omega)).mono ?_
   rintro e w7 ⟨z1,hz1,rfl,hr7,ht7⟩
   have t:=X1 (HS0.o.ty ht7 hr7)
   clear hr7 ht7 HS0 o0
   go_wp2_with fail
   refine (Rq.pick t.o.r (by omega) 256 (by omega) (by omega)).mono ?_
   rintro e w8 ⟨z2,hz2,rfl,hr8,ht8⟩
   have i:=X1 (t.o.ty ht8 hr8)
   clear hr8 ht8 t
   have hk:(z1*256+z2) % l.length < l.length:=Nat.mod_lt _ (by omega)
   have e0:IntKind.i64.wrap ((z1:Int)*256)=(z1:Int)*256:=by rw [IntKind.wrap_i64];omega
   have e3:IntKind.i64.wrap ((z1:Int)*256+(z2:Int))=(z1:Int)*256+(z2:Int):=by rw [IntKind.wrap_i64];omega
   have e1:((z1:Int)*256+(z2:Int)) % (l.length:Int)=(((z1*256+z2) % l.length:Nat):Int):=by simp
   have e2:((z1:Int)*256+(z2:Int)).tmod (l.length:Int)=(((z1*256+z2) % l.length:Nat):Int):=by rw [Int.tmod_eq_emod_of_nonneg (by omega)];exact e1
   generalize (z1*256+z2) % l.length=k at *
   have o2:=i.o.cells.2.2.1
   obtain ⟨q0,q1,q2,q3,q4,_⟩:=i.o.node hk
   have HX0:Hid (XN w w8.heap.size (.slice (some ⟨og,0,none⟩) l.length oc) l[k] (w8.alloc (.cells #[.int .i64 l[k].kind,.int .i64 l[k].op,.int .i64 l[k].n,.string l[k].text,.int .i64 l[k].kids] 35))):=X1 ⟨Xi _ _,i.o.sh _ (List.getElem_mem hk),fun e=>by have:=(i.o.o.lt _ e).2;omega,i.o.tf.size⟩
   have u:=X1 (i.o.below (bA (.cells #[.int .i64 l[k].kind,.int .i64 l[k].op,.int .i64 l[k].n,.string l[k].text,.int .i64 l[k].kids] 35)))
   have f:=X1 i.o.sh
   go_upto_region 7 with fail
   generalize hw9:w8.alloc (.cells #[.int .i64 l[k].kind,.int .i64 l[k].op,.int .i64 l[k].n,.string l[k].text,.int .i64 l[k].kids] 35)=w9 at *
   generalize hxb:w8.heap.size=xb at *
   generalize l[k]=x0 at *
   clear hw9 i
   go_cut [39] from 38 to 200 (fun v39 wx=>∃ z:Nat,z < 10∧v39 = .int .i64 (z:Int)∧SP rb vb n w (.slice (some ⟨g,0,none⟩) l.length c) l w.heap.size (w.heap.size+1) ob (q+3) (.slice (some ⟨og,0,none⟩) l.length oc) l wx∧XN w xb (.slice (some ⟨og,0,none⟩) l.length oc) x0 wx)
   case first =>
    go_wp2_with fail
    refine (Rq.pick u.o.r (by omega) 10 (by omega) (by omega)).mono ?_
    rintro e w10 ⟨z,hz,rfl,a0,m⟩
    have b:=X1 (u.o.ty m a0)
    have d:=X1 (HX0.o.ty m)
    clear a0 m
    go_wp2_with fail
    go_meet
    case rel=>exact ⟨z,by omega,rfl,b.o,d.o⟩
   case rest =>
    obtain ⟨z,hz,rfl,hS4,hX4⟩:=hcut
    have b:=X1 hS4
    have d:=X1 hX4
    clear hS4 hX4 u HX0 q0 q1 q2 q3 q4 o2 e0 e1 e2 e3
    rename ∀ (a:Act) (w:World),_→_=>hKK
    refine hKK _ _ ?_
    go_cut [9,10,11,12,13] from 39 to 200 (fun _ _ _ _ _ wx=>∃ x,SP rb vb n w (.slice (some ⟨g,0,none⟩) l.length c) l w.heap.size (w.heap.size+1) ob (q+6) (.slice (some ⟨og,0,none⟩) l.length oc) l wx∧XN w xb (.slice (some ⟨og,0,none⟩) l.length oc) x wx)
    case first =>
     have hzc:z=0∨z=1∨z=2∨z=3∨z=4∨z=5∨z=6∨z=7∨z=8∨z=9:=by omega
     rcases hzc with rfl | rfl | rfl | rfl | rfl | rfl | rfl | rfl | rfl | rfl
     ·exact sp_0 0 (by decide) rb vb n q l w g c ob og oc xb k x0 wc hl hq hl1 hlp hk hrw f b d _ _ (by unfold spJ;assumption) (by assumption) _ rfl
     ·exact sp_0 1 (by decide) rb vb n q l w g c ob og oc xb k x0 wc hl hq hl1 hlp hk hrw f b d _ _ (by unfold spJ;assumption) (by assumption) _ rfl
     ·exact sp_0 2 (by decide) rb vb n q l w g c ob og oc xb k x0 wc hl hq hl1 hlp hk hrw f b d _ _ (by unfold spJ;assumption) (by assumption) _ rfl
     ·exact sp_0 3 (by decide) rb vb n q l w g c ob og oc xb k x0 wc hl hq hl1 hlp hk hrw f b d _ _ (by unfold spJ;assumption) (by assumption) _ rfl
     ·exact sp_0 4 (by decide) rb vb n q l w g c ob og oc xb k x0 wc hl hq hl1 hlp hk hrw f b d _ _ (by unfold spJ;assumption) (by assumption) _ rfl
     ·exact sp_5 5 (by decide) rb vb n q l w g c ob og oc xb k x0 wc hl hq hl1 hlp hk hrw f b d _ _ (by unfold spJ;assumption) (by assumption) _ rfl
     ·exact sp_5 6 (by decide) rb vb n q l w g c ob og oc xb k x0 wc hl hq hl1 hlp hk hrw f b d _ _ (by unfold spJ;assumption) (by assumption) _ rfl
     ·exact sp_5 7 (by decide) rb vb n q l w g c ob og oc xb k x0 wc hl hq hl1 hlp hk hrw f b d _ _ (by unfold spJ;assumption) (by assumption) _ rfl
     ·exact sp_8 rb vb n q l w g c ob og oc xb k x0 wc hl hq hl1 hlp hk hrw f b d _ _ (by unfold spJ;assumption) (by assumption) _ rfl
     ·exact sp_9 rb vb n q l w g c ob og oc xb k x0 wc hl hq hl1 hlp hk hrw f b d _ _ (by unfold spJ;assumption) (by assumption) _ rfl
    case rest =>
     obtain ⟨x,hS,hX⟩:=hcut
     have HS5:=X1 hS
     have HX5:=X1 hX
     have o5:=hS.cells.2.2.1
     obtain ⟨q0,q1,q2,q3,q4,qf⟩:=hS.node hk
     have qf0:=qf (k*5)
     have qf1:=qf (k*5+1)
     have qf2:=qf (k*5+2)
     have qf3:=qf (k*5+3)
     have qf4:=qf (k*5+4)
     obtain ⟨y0,y1,y2,y3,y4,_⟩:=hX.cells
     have s:=X1 (hS.put5 (k:=k) x hX.sh hk)
     have hll:(l.set k x).length=l.length:=by simp
     have HN6:Hid (NR _ (.slice (some ⟨og,0,none⟩) l.length oc) (l.set k x)):=X1 ⟨ZN s.o.o (Nat.zero_le _),s.o.sh⟩
     have HE9:=X1 (s.o.ret HN6.o)
     have o6:=s.o.cells.2.2.1
     have t0:=s.o.cells.2.1
     have ft:=s.o.cells.2.2.2.1
     clear hS hX qf b d
     go_wp2
     exact bodyPost_ret (v:= .agg #[(.slice (some ⟨og,0,none⟩) l.length oc)]) (by simp [results,Tryz.results35,go_sem,t0]) rfl ⟨_,_,rfl,HE9.o.1,by omega,HE9.o.2.1.mono (by omega),HE9.o.2.2⟩
end Go.Proofs.YtimbaebigjjkaaaGreatDoor
