/- Gg, Gh, Ka, Kb. -/
import Derived.Test.YthbfdaifgnhkbaaGreatDoorM35
import Derived.Test.YthbfdaifgnhkbaaGreatDoorM36
import Derived.Test.YthbfdaifgnhkbaaGreatDoorM37
import Derived.Test.YthbfdaifgnhkbaaGreatDoorM38
import Derived.Test.YthbfdaifgnhkbaaGreatDoorM39
import Derived.Test.YthbfdaifgnhkbaaGreatDoorM31
import Derived.Test.YthbfdaifgnhkbaaGreatDoorM33
import Derived.Test.YthbfdaifgnhkbaaGreatDoorM34
import Derived.Test.YthbfdaifgnhkbaaGreatDoorM26
import Derived.Deep.RegionLaw
namespace Go.Proofs.YthbfdaifgnhkbaaGreatDoor
open Go.RowKit
variable (rb:Nat) (vb:Value) (n:Nat)
set_option maxRecDepth 100000 in
set_option maxHeartbeats 16000000 in
theorem spoilN_any [Inhabited Bs]:SpoilAt rb vb n:=fun q v l w h hn hl hq=>by
 obtain ⟨iN,hNi,hNz,hNs,hNb⟩:=info_parts Tryz.infoNdP
 have hrw:=h.lt
 have HN:=X1 hn
 have HR:=X1 h
 rcases hn.1.2 with ⟨hv,h0⟩ | ⟨g,c,cur,hv,_⟩
 ·subst hv
  obtain rfl:l=[]:=List.length_eq_zero_iff.1 h0
  have HR0:Hid ((((w.alloc (.cells #[.slice none 0 0] 25)).alloc (.cells #[.slice none 0 0] 25)).alloc (.cells #[] 33)).ownsRow w.heap.size 33 5 (.slice (some ⟨w.heap.size+1+1,0,none⟩) 0 0) 0 []):=X1 (by
   have hr:=World.ownsRow_lit (base:=w.heap.size) (e:=33) (size:=5) ((w.alloc (.cells #[.slice none 0 0] 25)).alloc (.cells #[.slice none 0 0] 25)) #[] 0 (by simp;omega) (Nat.zero_le _) rfl
   simpa using hr)
  have HS:=X1 (SP.start (w5:=(((w.alloc (.cells #[.slice none 0 0] 25)).alloc (.cells #[.slice none 0 0] 25)).alloc (.cells #[] 33))) HR.out HN.out (World.grownBy.refl' _ _) HR0.out)
  clear h hn h0
  obtain ⟨_,t0,o0,ft,_⟩:=HS.out.cells
  rw [show (((w.alloc (.cells #[.slice none 0 0] 25)).alloc (.cells #[.slice none 0 0] 25)).alloc (.cells #[] 33)).heap.size=w.heap.size+1+1+1 by simp] at o0 HS
  go_enter Tryz.func20,Tryz.ntmps20
  go_upto_region 2 with (at_builtin;refine wpList_append_own_none rfl _ _ 23 rfl w.heap.size 33 iN 5 Tryz.underlying23 hNi _ 0 [] rfl HR0.out rfl ?_)
  generalize hw6:(((w.alloc (.cells #[.slice none 0 0] 25)).alloc (.cells #[.slice none 0 0] 25)).alloc (.cells #[] 33)).alloc (.cells #[.slice (some ⟨w.heap.size+1+1,0,none⟩) 0 0] 25)=w6 at *
  clear hw6 HR0
  have HE9:=X1 (HS.out.ret (l':=[]) (v':= .slice (some ⟨w.heap.size+1+1,0,none⟩) 0 0) ⟨Zs HS.out.out (Nat.zero_le _),sh_nil⟩)
  go_wp2
  exact bodyPost_ret (v:= .agg #[.slice (some ⟨w.heap.size+1+1,0,none⟩) 0 0]) (by simp [results,Tryz.results20,go_sem,t0]) rfl ⟨_,_,rfl,HE9.out.1,Nat.zero_le _,HE9.out.2.1.mono (by omega),HE9.out.2.2⟩
 ·subst hv
  have hcl:∀ (j:Nat) (x:Value),(X3 l)[j]?=some x→(((w.alloc (.cells #[.slice (some ⟨g,0,none⟩) l.length c] 25)).alloc (.cells #[.slice none 0 0] 25)).alloc (.cells #[] 33)).cell? ((⟨g,0,none⟩:Addr).add j)=some x:=fun j x hx=>by
   have b3:Below w.heap.size w (((w.alloc (.cells #[.slice (some ⟨g,0,none⟩) l.length c] 25)).alloc (.cells #[.slice none 0 0] 25)).alloc (.cells #[] 33)):=((bA _).alloc (by simp) _).alloc (by simp;omega) _
   have h1:=World.ownsRow.cells hn.1 rfl j x hx
   rw [Xh] at h1 ⊢
   exact (b3.cell (p:=⟨g,0+j,none⟩) (hn.1.lt g rfl).2).trans h1
  have HCL:=X1 hcl
  have HR0:Hid ((((w.alloc (.cells #[.slice (some ⟨g,0,none⟩) l.length c] 25)).alloc (.cells #[.slice none 0 0] 25)).alloc (.cells #[] 33)).ownsRow w.heap.size 33 5 (.slice (some ⟨w.heap.size+1+1,0,none⟩) 0 0) 0 []):=X1 (by
   have hr:=World.ownsRow_lit (base:=w.heap.size) (e:=33) (size:=5) ((w.alloc (.cells #[.slice (some ⟨g,0,none⟩) l.length c] 25)).alloc (.cells #[.slice none 0 0] 25)) #[] 0 (by simp;omega) (Nat.zero_le _) rfl
   simpa using hr)
  have hsz3:w.heap.size≤(((w.alloc (.cells #[.slice (some ⟨g,0,none⟩) l.length c] 25)).alloc (.cells #[.slice none 0 0] 25)).alloc (.cells #[] 33)).heap.size:=by simp;omega
  clear h hn hcl
  go_enter Tryz.func20,Tryz.ntmps20
  go_wp2_with (at_builtin;refine wpList_append_own_at _ rfl _ _ 23 rfl w.heap.size 33 iN _ 5 48 Tryz.underlying23 hNi hNz hNs hNb rfl (by decide) _ 0 [] rfl HR0.out ⟨g,0,none⟩ l.length c (X3 l) rfl (ZS l) HCL.out (ZJ l) (by unfold maxLen;omega) (by omega) hsz3 ?_)
  intro ov w5 r1 r2 r3 r4
  have r1':w5.ownsRow w.heap.size 33 5 ov l.length (X3 l):=by simpa using r1
  have HS0:=X1 (SP.start HR.out HN.out r2 r1')
  obtain ⟨op,oc,hov⟩:=Xc r1'
  subst hov
  clear r1 r2 r3 r4 HCL HR0 hsz3
  go_upto_region 2 with fail
  generalize hw6:w5.alloc (.cells #[.slice op l.length oc] 25)=w6 at *
  generalize w5.heap.size=ob at *
  have o0:=HS0.out.cells.2.2.1
  by_cases hl0:l.length=0
  ·obtain rfl:=List.length_eq_zero_iff.1 hl0
   simp only [List.length_nil] at o0
   have HS0:Hid (SP rb vb n w (.slice (some ⟨g,0,none⟩) 0 c) [] w.heap.size (w.heap.size+1) ob q (.slice op 0 oc) [] w6):=HS0
   have HE9:=X1 (HS0.out.ret (l':=[]) (v':= .slice op 0 oc) ⟨Zs HS0.out.out (Nat.zero_le _),HS0.out.sh⟩)
   obtain ⟨_,t0,_,ft,_⟩:=HS0.out.cells
   go_wp2
   exact bodyPost_ret (v:= .agg #[.slice op 0 oc]) (by simp [results,Tryz.results20,go_sem,t0]) rfl (by first | exact ⟨_,_,rfl,HE9.out.1,(Nat.zero_le _),HE9.out.2.1.mono (by omega),HE9.out.2.2⟩ | exact ⟨_,rfl,_,HE9.out.1,(Nat.zero_le _),HE9.out.2.1.mono (by omega),HE9.out.2.2⟩)
  ·have hl1:((l.length:Int) == 0)=false:=beq_eq_false_iff_ne.2 (by omega)
   have hlp:(0:Int) < (l.length:Int):=by omega
   obtain ⟨og,hop⟩:∃ og,op=some ⟨og,0,none⟩:=by
    rcases r1'.2 with ⟨_,h0⟩ | ⟨g',c',_,h2,_⟩
    ·exact absurd h0 hl0
    ·cases h2;exact ⟨_,rfl⟩
   subst hop
   clear r1' hw6
   go_wp2_with fail
   refine (Rq.pick HS0.out.r (by omega) 256 (by omega) (by omega)).mono ?_
   rintro e w7 ⟨z1,hz1,rfl,hr7,ht7⟩
   have HS1:=X1 (HS0.out.ty ht7 hr7)
   clear hr7 ht7 HS0 o0
   go_wp2_with fail
   refine (Rq.pick HS1.out.r (by omega) 256 (by omega) (by omega)).mono ?_
   rintro e w8 ⟨z2,hz2,rfl,hr8,ht8⟩
   have HS2:=X1 (HS1.out.ty ht8 hr8)
   clear hr8 ht8 HS1
   have hk:(z1*256+z2) % l.length < l.length:=Nat.mod_lt _ (by omega)
   have e0:IntKind.i64.wrap ((z1:Int)*256)=(z1:Int)*256:=by rw [IntKind.wrap_i64];omega
   have e3:IntKind.i64.wrap ((z1:Int)*256+(z2:Int))=(z1:Int)*256+(z2:Int):=by rw [IntKind.wrap_i64];omega
   have e1:((z1:Int)*256+(z2:Int)) % (l.length:Int)=(((z1*256+z2) % l.length:Nat):Int):=by simp
   have e2:((z1:Int)*256+(z2:Int)).tmod (l.length:Int)=(((z1*256+z2) % l.length:Nat):Int):=by rw [Int.tmod_eq_emod_of_nonneg (by omega)];exact e1
   generalize (z1*256+z2) % l.length=k at *
   have o2:=HS2.out.cells.2.2.1
   obtain ⟨q0,q1,q2,q3,q4,_⟩:=HS2.out.node hk
   have HX0:Hid (XN w w8.heap.size (.slice (some ⟨og,0,none⟩) l.length oc) l[k] (w8.alloc (.cells #[.int .i64 l[k].kind,.int .i64 l[k].op,.int .i64 l[k].n,.string l[k].text,.int .i64 l[k].kids] 33))):=X1 ⟨Xf _ _,HS2.out.sh _ (List.getElem_mem hk),fun e=>by have:=(HS2.out.out.lt _ e).2;omega,HS2.out.tf.size⟩
   have HS3:=X1 (HS2.out.below (bA (.cells #[.int .i64 l[k].kind,.int .i64 l[k].op,.int .i64 l[k].n,.string l[k].text,.int .i64 l[k].kids] 33)))
   have HSH:=X1 HS2.out.sh
   go_upto_region 7 with fail
   generalize hw9:w8.alloc (.cells #[.int .i64 l[k].kind,.int .i64 l[k].op,.int .i64 l[k].n,.string l[k].text,.int .i64 l[k].kids] 33)=w9 at *
   generalize hxb:w8.heap.size=xb at *
   generalize l[k]=x0 at *
   clear hw9 HS2
   go_cut [39] from 38 to 200 (fun v39 wx=>∃ z:Nat,z < 10∧v39 = .int .i64 (z:Int)∧SP rb vb n w (.slice (some ⟨g,0,none⟩) l.length c) l w.heap.size (w.heap.size+1) ob (q+3) (.slice (some ⟨og,0,none⟩) l.length oc) l wx∧XN w xb (.slice (some ⟨og,0,none⟩) l.length oc) x0 wx)
   case first =>
    go_wp2_with fail
    refine (Rq.pick HS3.out.r (by omega) 10 (by omega) (by omega)).mono ?_
    rintro e w10 ⟨z,hz,rfl,hr10,ht10⟩
    have HS4:=X1 (HS3.out.ty ht10 hr10)
    have HX4:=X1 (HX0.out.ty ht10)
    clear hr10 ht10
    go_wp2_with fail
    go_meet
    case rel=>exact ⟨z,by omega,rfl,HS4.out,HX4.out⟩
   case rest =>
    obtain ⟨z,hz,rfl,hS4,hX4⟩:=hcut
    have HS4:=X1 hS4
    have HX4:=X1 hX4
    clear hS4 hX4 HS3 HX0 q0 q1 q2 q3 q4 o2 e0 e1 e2 e3
    rename ∀ (a:Act) (w:World),_→_=>hKK
    refine hKK _ _ ?_
    go_cut [9,10,11,12,13] from 39 to 200 (fun _ _ _ _ _ wx=>∃ x,SP rb vb n w (.slice (some ⟨g,0,none⟩) l.length c) l w.heap.size (w.heap.size+1) ob (q+6) (.slice (some ⟨og,0,none⟩) l.length oc) l wx∧XN w xb (.slice (some ⟨og,0,none⟩) l.length oc) x wx)
    case first =>
     have hzc:z=0∨z=1∨z=2∨z=3∨z=4∨z=5∨z=6∨z=7∨z=8∨z=9:=by omega
     rcases hzc with rfl | rfl | rfl | rfl | rfl | rfl | rfl | rfl | rfl | rfl
     ·exact sp_0 rb vb n q l w g c ob og oc xb k x0 wc hl hq hl1 hlp hk hrw HSH HS4 HX4 _ _ (by assumption) (by assumption) _ rfl
     ·exact sp_1 rb vb n q l w g c ob og oc xb k x0 wc hl hq hl1 hlp hk hrw HSH HS4 HX4 _ _ (by assumption) (by assumption) _ rfl
     ·exact sp_2 rb vb n q l w g c ob og oc xb k x0 wc hl hq hl1 hlp hk hrw HSH HS4 HX4 _ _ (by assumption) (by assumption) _ rfl
     ·exact sp_3 rb vb n q l w g c ob og oc xb k x0 wc hl hq hl1 hlp hk hrw HSH HS4 HX4 _ _ (by assumption) (by assumption) _ rfl
     ·exact sp_4 rb vb n q l w g c ob og oc xb k x0 wc hl hq hl1 hlp hk hrw HSH HS4 HX4 _ _ (by assumption) (by assumption) _ rfl
     ·exact sp_5 5 (by decide) rb vb n q l w g c ob og oc xb k x0 wc hl hq hl1 hlp hk hrw HSH HS4 HX4 _ _ (by assumption) (by assumption) _ rfl
     ·exact sp_5 6 (by decide) rb vb n q l w g c ob og oc xb k x0 wc hl hq hl1 hlp hk hrw HSH HS4 HX4 _ _ (by assumption) (by assumption) _ rfl
     ·exact sp_5 7 (by decide) rb vb n q l w g c ob og oc xb k x0 wc hl hq hl1 hlp hk hrw HSH HS4 HX4 _ _ (by assumption) (by assumption) _ rfl
     ·exact sp_8 rb vb n q l w g c ob og oc xb k x0 wc hl hq hl1 hlp hk hrw HSH HS4 HX4 _ _ (by assumption) (by assumption) _ rfl
     ·exact sp_9 rb vb n q l w g c ob og oc xb k x0 wc hl hq hl1 hlp hk hrw HSH HS4 HX4 _ _ (by assumption) (by assumption) _ rfl
    case rest =>
     obtain ⟨x,hS,hX⟩:=hcut
     have HS5:=X1 hS
     have HX5:=X1 hX
     have o5:=hS.cells.2.2.1
     obtain ⟨q0,q1,q2,q3,q4,qf⟩:=hS.node hk
     have qf0:=qf (k*5)
     have qf1:=qf (k*5+1)
     have qf2:=qf (k*5+2)
     have qf3:=qf (k*5+3)
     have qf4:=qf (k*5+4)
     obtain ⟨y0,y1,y2,y3,y4,_⟩:=hX.cells
     have HS6:=X1 (hS.put5 (k:=k) x hX.sh hk)
     have hll:(l.set k x).length=l.length:=by simp
     have HN6:Hid (NR _ (.slice (some ⟨og,0,none⟩) l.length oc) (l.set k x)):=X1 ⟨Zs HS6.out.out (Nat.zero_le _),HS6.out.sh⟩
     have HE9:=X1 (HS6.out.ret HN6.out)
     have o6:=HS6.out.cells.2.2.1
     have t0:=HS6.out.cells.2.1
     have ft:=HS6.out.cells.2.2.2.1
     clear hS hX qf HS4 HX4
     go_wp2
     exact bodyPost_ret (v:= .agg #[(.slice (some ⟨og,0,none⟩) l.length oc)]) (by simp [results,Tryz.results20,go_sem,t0]) rfl ⟨_,_,rfl,HE9.out.1,by omega,HE9.out.2.1.mono (by omega),HE9.out.2.2⟩
theorem drawCheck_all [Inhabited Bs] (m:Nat) (v:Value) (w:World) (h:ByV w v m) (hB:lowB≤w.heap.size):Calls Tryz.prog 4 #[v] w fun e w'=>DTk w e w' :=
 drawCheck_any (fun rb vb n q w h hq=>program_any rb vb n (fun gb d kd HE hk=>record_any gb rb vb n d kd HE hk) (fun gb h1 h3=>def_any gb rb vb n h1 h3) q w h hq) (fun rb vb n=>spoilN_any rb vb n) m v w h hB
theorem drawCheck_below (m:Nat) (v:Value) (w:World) (h:ByV w v m):Calls Tryz.prog 4 #[v] w fun e w'=>∃ v l,e = .returned (.agg #[v])∧NR w' v l∧l.length≤300000∧Below w.heap.size w w':=by
 have key:∀ I:Inhabited Bs,@lowB I=w.heap.size→Calls Tryz.prog 4 #[v] w fun e w'=>∃ v l,e = .returned (.agg #[v])∧NR w' v l∧l.length≤300000∧Below w.heap.size w w':=fun I hI=>by
  refine (drawCheck_all m v w h (by rw [hI];exact Nat.le_refl _)).mono ?_
  rintro e w' ⟨v',l,rfl,hn,hl,ht⟩
  exact ⟨v',l,rfl,hn,hl,⟨ht.os,ht.tape,ht.output,ht.size,fun b hb=>ht.old b hb (by rw [hI];exact hb)⟩⟩
 exact key ⟨(show Bs from w.heap.size)⟩ rfl
abbrev Tr.Kn:=ByteArray × Nat
structure Tr.St where
 codes:List Int
 binds:List Int
def Xd (k:Nat) (c:Int) (s:Tr.St):Tr.St:=if s.codes[k]?.getD 0=0∨c < s.codes[k]?.getD 0 then {s with codes:=s.codes.set k c} else s
def Xi (ns:List Tr.Nd) (k:Nat):ByteArray:=(ns[k]?.map (·.text)).getD ⟨#[]⟩
def XX (x:ByteArray):List Tr.Kn→Option Nat
 | []=>none
 | p :: r=>match XX x r with
  | some a=>some a
  | none=>if p.1=x then some p.2 else none
def YD:List (List UInt8):=[[98,101,103,105,110,115],[99,117,116],[102,97,105,108],[102,105,108,101,115],[105,110,116],[106,111,105,110],[107,101,121,115],[108,101,110],[114,97,110,103,101],[114,101,99,111,114,100],[115,111,114,116,101,100],[115,112,108,105,116],[116,101,120,116],[117,110,105,113,117,101],[119,105,116,104,111,117,116]]
def ZD (ns:List Tr.Nd) (k:Nat) (kn:List Tr.Kn) (s:Tr.St):Tr.St:=match XX (Xi ns k) kn with
 | some a=>{s with binds:=s.binds.set k a}
 | none=>if (Xi ns k).data.toList∈YD then {s with binds:=s.binds.set k (-2)} else Xd k 9 s
def X8 (ks:List (List Nat)) (k:Nat):List Nat:=ks[k]?.getD []
def Yk (ns:List Tr.Nd) (p:Nat) (seen:List Nat) (s:Tr.St):Tr.St:=seen.foldl (fun s x=>if Xi ns x=Xi ns p then Xd p 8 s else s) s
def Z8 (G:Nat→List Tr.Kn→Tr.St→Tr.St) (ns:List Tr.Nd) (ks:List (List Nat)) (p:Nat) (seen:List Nat) (kn:List Tr.Kn) (df:Bool) (s:Tr.St):Tr.St:=match X8 ks p with
 | []=>if df=true then Xd p 10 (Yk ns p seen s) else Yk ns p seen s
 | c :: _=>G c kn (Yk ns p seen s)
def YV (G:Nat→List Tr.Kn→Tr.St→Tr.St) (ns:List Tr.Nd) (ks:List (List Nat)):List Nat→List Nat→List Tr.Kn→Bool→Tr.St→Tr.St
 | [],_,_,_,s=>s
 | [x],_,kn,_,s=>G x kn s
 | p :: q :: r,seen,kn,df,s =>
  YV G ns ks (q :: r) (seen++[p]) (kn++[(Xi ns p,p)]) (df || !decide ((X8 ks p).length=0)) (Z8 G ns ks p seen kn df s)
def QD (G:Nat→List Tr.Kn→Tr.St→Tr.St) (kn more:List Tr.Kn) (s:Tr.St):List Nat→Tr.St
 | []=>s
 | x :: r=>r.foldl (fun s y=>G y more s) (G x kn s)
def XK (ns:List Tr.Nd) (ks:List (List Nat)):Nat→Nat→List Tr.Kn→Tr.St→Tr.St
 | 0,_,_,s=>s
 | f+1,k,kn,s =>
  if X6 ns k=5 then ZD ns k kn s
  else if X6 ns k=23 then s
  else if X6 ns k=15∨X6 ns k=20 then YV (XK ns ks f) ns ks (X8 ks k) [] kn false s
  else if X6 ns k=14∨X6 ns k=16 then QD (XK ns ks f) kn (kn++[(Xi ns k,k)]) s (X8 ks k)
  else (X8 ks k).foldl (fun s y=>XK ns ks f y kn s) s
structure Kp (cg bg:Nat) (w w':World):Prop where
 os:w'.os=w.os
 tape:w'.tape=w.tape
 output:w'.output=w.output
 size:w.heap.size≤w'.heap.size
 block:∀ b,b < w.heap.size→b≠cg→b≠bg→w'.heap[b]?=w.heap[b]?
theorem Kp.refl (cg bg:Nat) (w:World):Kp cg bg w w:=⟨rfl,rfl,rfl,Nat.le_refl _,fun _ _ _ _=>rfl⟩
theorem Kp.trans {cg bg:Nat} {w w' w'':World} (h:Kp cg bg w w') (h':Kp cg bg w' w''):Kp cg bg w w'' :=
 ⟨h'.os.trans h.os,h'.tape.trans h.tape,h'.output.trans h.output,Nat.le_trans h.size h'.size,fun b hb h1 h2=>(h'.block b (Nat.lt_of_lt_of_le hb h.size) h1 h2).trans (h.block b hb h1 h2)⟩
theorem Kp.of_below {cg bg:Nat} {w w':World} (h:Below w.heap.size w w'):Kp cg bg w w':=⟨h.os,h.tape,h.output,h.size,fun b hb _ _=>h.block b hb⟩
theorem Kp.below {cg bg:Nat} {w w' w'':World} (h:Kp cg bg w w') (h':Below w'.heap.size w' w''):Kp cg bg w w'':=h.trans (.of_below h')
theorem Kp.alloc {cg bg:Nat} {w w':World} (h:Kp cg bg w w') (o:Obj):Kp cg bg w (w'.alloc o):=h.below (bA o)
theorem Kp.drew {cg bg:Nat} {w w':World} (h:Kp cg bg w w'):Kp cg bg w w'.drew:=h.below (Below.refl _ _).drew
theorem Kp.setCell {cg bg:Nat} {w w':World} (h:Kp cg bg w w') (a:Addr) (v:Value) (ha:a.block=cg∨a.block=bg):Kp cg bg w (w'.setCell a v) :=
 h.trans ⟨rfl,rfl,rfl,by simp,fun b _ h1 h2=>Below.heap_setCell _ _ _ _ (by omega)⟩
theorem Kp.cell {cg bg:Nat} {w w':World} (h:Kp cg bg w w') {p:Addr} (hp:p.block < w.heap.size) (h1:p.block≠cg) (h2:p.block≠bg):w'.cell? p=w.cell? p:=World.cell?_of_block (h.block p.block hp h1 h2)
def KnAt (w:World) (g:Nat) (kn:List Tr.Kn):Prop:=g < w.heap.size∧∀ j (h:j < kn.length),w.cell? ⟨g,j*2,none⟩=some (.string kn[j].1)∧w.cell? ⟨g,j*2+1,none⟩=some (.int .i64 kn[j].2)
theorem KnAt.kept {cg bg:Nat} {w w':World} {g:Nat} {kn:List Tr.Kn} (h:KnAt w g kn) (hk:Kp cg bg w w') (h1:g≠cg) (h2:g≠bg):KnAt w' g kn :=
 ⟨Nat.lt_of_lt_of_le h.1 hk.size,fun j hj=>⟨(hk.cell (p:=⟨g,j*2,none⟩) h.1 h1 h2).trans (h.2 j hj).1,(hk.cell (p:=⟨g,j*2+1,none⟩) h.1 h1 h2).trans (h.2 j hj).2⟩⟩
def Xp (kn:List Tr.Kn):List Value:=kn.flatMap fun p=>[.string p.1,.int .i64 p.2]
theorem Zu (kn:List Tr.Kn):(Xp kn).length=kn.length*2:=by
 induction kn with
 | nil=>rfl
 | cons x r ih=>rw [show Xp (x :: r)=[.string x.1,.int .i64 x.2]++Xp r from rfl,List.length_append,ih,List.length_cons];simp;omega
theorem KG (kn:List Tr.Kn) (i:Nat) (h:i < kn.length):(Xp kn)[i*2]?=some (.string kn[i].1)∧(Xp kn)[i*2+1]?=some (.int .i64 kn[i].2):=by
 induction kn generalizing i with
 | nil=>simp at h
 | cons x r ih =>
  rw [show Xp (x :: r)=[.string x.1,.int .i64 x.2]++Xp r from rfl]
  match i,h with
  | 0,_=>simp
  | i+1,h =>
   have:=ih i (by simpa using h)
   refine ⟨?_,?_⟩
   all_goals rw [List.getElem?_append_right (by simp;omega)]
   ·rw [show (i+1)*2 - ([.string x.1,.int .i64 x.2]:List Value).length=i*2 from by simp;omega];exact this.1
   ·rw [show (i+1)*2+1 - ([.string x.1,.int .i64 x.2]:List Value).length=i*2+1 from by simp;omega];exact this.2
theorem KM {w:World} {base:Nat} {e:TypeId} {g cap:Nat} {kn:List Tr.Kn} (h:w.ownsRow base e 2 (.slice (some ⟨g,0,none⟩) kn.length cap) kn.length (Xp kn)):KnAt w g kn:=by
 refine ⟨(YH h).2.2,fun i hi=>?_⟩
 obtain ⟨p0,p1⟩:=KG kn i hi
 exact ⟨(h.cellAt (i*2) (by omega)).trans p0,(h.cellAt (i*2+1) (by omega)).trans p1⟩
theorem Yb (kn:List Tr.Kn):∀ u∈Xp kn,u.oneCell'=true:=by
 intro u hu
 obtain ⟨p,_,hp⟩:=List.mem_flatMap.1 hu
 simp only [List.mem_cons,List.not_mem_nil,or_false] at hp
 rcases hp with rfl | rfl <;> rfl
theorem kn_news {w:World} {g:Nat} {kn:List Tr.Kn} (h:KnAt w g kn):∀ j u,(Xp kn)[j]?=some u→w.cell? ((⟨g,0,none⟩:Addr).add j)=some u:=by
 intro j u hu
 have hj:j < kn.length*2:=by have:=(List.getElem?_eq_some_iff.1 hu).1;rwa [Zu] at this
 rw [K2,Nat.zero_add]
 rcases Nat.mod_two_eq_zero_or_one j with h2 | h2
 ·obtain ⟨i,rfl⟩:∃ i,j=i*2:=⟨j / 2,by omega⟩
  rw [(h.2 i (by omega)).1,← hu];exact (KG kn i (by omega)).1.symm
 ·obtain ⟨i,rfl⟩:∃ i,j=i*2+1:=⟨j / 2,by omega⟩
  rw [(h.2 i (by omega)).2,← hu];exact (KG kn i (by omega)).2.symm
structure Fx (ns:List Tr.Nd) (ks:List (List Nat)) (wb tg tc kg kc cg bg:Nat) (w:World):Prop where
 wb1:wb≠cg
 wb2:wb≠bg
 tg1:tg≠cg
 tg2:tg≠bg
 kg1:kg≠cg
 kg2:kg≠bg
 wlt:wb < w.heap.size
 klt:kg < w.heap.size
 f0:w.cell? ⟨wb,0,none⟩=some (.slice (some ⟨tg,0,none⟩) ns.length tc)
 f1:w.cell? ⟨wb,1,none⟩=some (.slice (some ⟨kg,0,none⟩) ns.length kc)
 f2:w.cell? ⟨wb,2,none⟩=some (.slice (some ⟨cg,0,none⟩) ns.length ns.length)
 f3:w.cell? ⟨wb,3,none⟩=some (.slice (some ⟨bg,0,none⟩) ns.length ns.length)
 nodes:NodesAt w tg ns
 len:ks.length=ns.length
 kids:∀ k (h:k < ks.length),∃ g c,w.cell? ⟨kg,k,none⟩=some (.slice (some ⟨g,0,none⟩) (ks[k]).length c)∧g≠cg∧g≠bg∧IntsAt w g 0 ks[k]
theorem Fx.kept {ns:List Tr.Nd} {ks:List (List Nat)} {wb tg tc kg kc cg bg:Nat} {w w':World} (h:Fx ns ks wb tg tc kg kc cg bg w) (hk:Kp cg bg w w'):Fx ns ks wb tg tc kg kc cg bg w':=by
 refine ⟨h.wb1,h.wb2,h.tg1,h.tg2,h.kg1,h.kg2,Nat.lt_of_lt_of_le h.wlt hk.size,Nat.lt_of_lt_of_le h.klt hk.size,?_,?_,?_,?_,?_,h.len,?_⟩
 ·exact (hk.cell (p:=⟨wb,0,none⟩) h.wlt h.wb1 h.wb2).trans h.f0
 ·exact (hk.cell (p:=⟨wb,1,none⟩) h.wlt h.wb1 h.wb2).trans h.f1
 ·exact (hk.cell (p:=⟨wb,2,none⟩) h.wlt h.wb1 h.wb2).trans h.f2
 ·exact (hk.cell (p:=⟨wb,3,none⟩) h.wlt h.wb1 h.wb2).trans h.f3
 ·refine ⟨Nat.lt_of_lt_of_le h.nodes.1 hk.size,fun i hi=>?_⟩
  obtain ⟨a,b,c,d,e⟩:=h.nodes.2 i hi
  exact ⟨(hk.cell (p:=⟨tg,i*5,none⟩) h.nodes.1 h.tg1 h.tg2).trans a,(hk.cell (p:=⟨tg,i*5+1,none⟩) h.nodes.1 h.tg1 h.tg2).trans b,(hk.cell (p:=⟨tg,i*5+2,none⟩) h.nodes.1 h.tg1 h.tg2).trans c,(hk.cell (p:=⟨tg,i*5+3,none⟩) h.nodes.1 h.tg1 h.tg2).trans d,(hk.cell (p:=⟨tg,i*5+4,none⟩) h.nodes.1 h.tg1 h.tg2).trans e⟩
 ·intro k hkl
  obtain ⟨g,c,a,b,d,e⟩:=h.kids k hkl
  exact ⟨g,c,(hk.cell (p:=⟨kg,k,none⟩) h.klt h.kg1 h.kg2).trans a,b,d,Nat.lt_of_lt_of_le e.1 hk.size,fun j hj=>(hk.cell (p:=⟨g,0+j,none⟩) e.1 b d).trans (e.2 j hj)⟩
def vi (x:Int):Value:= .int .i64 x
structure Dy (n cg bg:Nat) (s:Tr.St) (w:World):Prop where
 ne:cg≠bg
 c:w.ownsRow 0 3 1 (.slice (some ⟨cg,0,none⟩) n n) n (s.codes.map vi)
 b:w.ownsRow 0 3 1 (.slice (some ⟨bg,0,none⟩) n n) n (s.binds.map vi)
theorem Dy.lens {n cg bg:Nat} {s:Tr.St} {w:World} (h:Dy n cg bg s w):s.codes.length=n∧s.binds.length=n:=by
 have h1:=h.c.1
 have h2:=h.b.1
 simp at h1 h2
 exact ⟨h1,h2⟩
theorem Yo {w w':World} {base size:Nat} {e:TypeId} {g n cap:Nat} {xs:List Value} (h:w.ownsRow base e size (.slice (some ⟨g,0,none⟩) n cap) n xs) (hb:w'.heap[g]?=w.heap[g]?):w'.ownsRow base e size (.slice (some ⟨g,0,none⟩) n cap) n xs:=by
 refine ⟨h.1,?_⟩
 rcases h.2 with ⟨h1,_⟩ | ⟨g',cap',cur,hv,h2,h3,h4⟩
 ·cases h1
 ·cases hv
  exact .inr ⟨g,cap,cur,rfl,h2,hb.trans h3,h4⟩
theorem Dy.below {n cg bg:Nat} {s:Tr.St} {w w':World} (h:Dy n cg bg s w) (hb:Below w.heap.size w w'):Dy n cg bg s w' :=
 ⟨h.ne,Yo h.c (hb.block cg (h.c.lt cg rfl).2),Yo h.b (hb.block bg (h.b.lt bg rfl).2)⟩
theorem Dy.setC {n cg bg:Nat} {s:Tr.St} {w:World} (h:Dy n cg bg s w) (k:Nat) (v:Int):Dy n cg bg {s with codes:=s.codes.set k v} (w.setCell ⟨cg,k,none⟩ (.int .i64 v)):=by
 refine ⟨h.ne,?_,Yo h.b (Below.heap_setCell _ _ _ _ (by simpa using h.ne.symm))⟩
 have:=(h.c.stored k (.int .i64 v)).1
 rw [show (s.codes.set k v).map vi=(s.codes.map vi).set k (.int .i64 v) from by rw [List.map_set];rfl]
 exact this
theorem Dy.setB {n cg bg:Nat} {s:Tr.St} {w:World} (h:Dy n cg bg s w) (k:Nat) (v:Int):Dy n cg bg {s with binds:=s.binds.set k v} (w.setCell ⟨bg,k,none⟩ (.int .i64 v)):=by
 refine ⟨h.ne,Yo h.c (Below.heap_setCell _ _ _ _ (by simpa using h.ne)),?_⟩
 have:=(h.b.stored k (.int .i64 v)).1
 rw [show (s.binds.set k v).map vi=(s.binds.map vi).set k (.int .i64 v) from by rw [List.map_set];rfl]
 exact this
theorem Dy.cellC {n cg bg:Nat} {s:Tr.St} {w:World} (h:Dy n cg bg s w) (k:Nat) (hk:k < n):w.cell? ⟨cg,k,none⟩=some (.int .i64 (s.codes[k]?.getD 0))∧w.frozen? ⟨cg,k,none⟩=false:=by
 refine ⟨?_,h.c.frozenAt k⟩
 rw [h.c.cellAt k (by omega)]
 have:=h.lens.1
 rw [List.getElem?_map,List.getElem?_eq_getElem (by omega)];rfl
theorem Dy.cellB {n cg bg:Nat} {s:Tr.St} {w:World} (h:Dy n cg bg s w) (k:Nat) (hk:k < n):w.cell? ⟨bg,k,none⟩=some (.int .i64 (s.binds[k]?.getD 0))∧w.frozen? ⟨bg,k,none⟩=false:=by
 refine ⟨?_,h.b.frozenAt k⟩
 rw [h.b.cellAt k (by omega)]
 have:=h.lens.2
 rw [List.getElem?_map,List.getElem?_eq_getElem (by omega)];rfl
set_option maxRecDepth 100000 in
set_option maxHeartbeats 1000000 in
theorem QB (ns:List Tr.Nd) (ks:List (List Nat)) (wb tg tc kg kc cg bg k:Nat) (c:Int) (s:Tr.St) (w:World) (hk:k < ns.length) (hF:Fx ns ks wb tg tc kg kc cg bg w) (hD:Dy ns.length cg bg s w) :
  Calls Tryz.prog 34 #[.pointer (some ⟨wb,0,none⟩),.int .i64 k,.int .i64 c] w fun e w'=>e = .returned (.tuple #[])∧Kp cg bg w w'∧Dy ns.length cg bg (Xd k c s) w':=by
 have h2:=hF.f2
 obtain ⟨hc,hf⟩:=hD.cellC k hk
 have HD:=X1 hD
 have HS:=X1 (show Xd k c s=if s.codes[k]?.getD 0=0∨c < s.codes[k]?.getD 0 then {s with codes:=s.codes.set k c} else s from rfl)
 clear hF hD
 generalize s.codes[k]?.getD 0=z at *
 cases hz:(z == 0)
 ·by_cases hlt:c < z
  ·have HS2:Hid (Xd k c s={s with codes:=s.codes.set k c}):=X1 (by rw [HS.out,if_pos (.inr hlt)])
   go_enter Tryz.func34,Tryz.ntmps34
   go_wp2
   (first | go_end0 | refine bodyPost_ret (results_none rfl _ _ _) rfl ?_)
   exact ⟨rfl,(Kp.refl _ _ _).setCell _ _ (.inl rfl),by rw [HS2.out];exact HD.out.setC k c⟩
  ·have HS2:Hid (Xd k c s=s):=X1 (by rw [HS.out,if_neg (by rintro (h | h);simp [h] at hz;exact hlt h)])
   go_enter Tryz.func34,Tryz.ntmps34
   go_wp2
   (first | go_end0 | refine bodyPost_ret (results_none rfl _ _ _) rfl ?_)
   exact ⟨rfl,Kp.refl _ _ _,by rw [HS2.out];exact HD.out⟩
 ·have HS2:Hid (Xd k c s={s with codes:=s.codes.set k c}):=X1 (by rw [HS.out,if_pos (.inl (by simpa using hz))])
  go_enter Tryz.func34,Tryz.ntmps34
  go_wp2
  (first | go_end0 | refine bodyPost_ret (results_none rfl _ _ _) rfl ?_)
  exact ⟨rfl,(Kp.refl _ _ _).setCell _ _ (.inl rfl),by rw [HS2.out];exact HD.out.setC k c⟩
theorem QK (x:ByteArray) (kn:List Tr.Kn) (p:Tr.Kn):XX x (kn++[p])=if p.1=x then some p.2 else XX x kn:=by
 induction kn with
 | nil=>simp [XX]
 | cons q r ih =>
  rw [List.cons_append,XX,ih,XX]
  by_cases h:p.1=x
  ·simp [h]
  ·simp [h]
theorem Tr.lookK_at (x:ByteArray) (kn:List Tr.Kn) (i:Nat) (h:i < kn.length):XX x (kn.take (i+1))=if kn[i].1=x then some kn[i].2 else XX x (kn.take i):=by
 rw [List.take_succ_eq_append_getElem h,QK]
set_option maxHeartbeats 400000 in
theorem builts_any (w:World):Calls Tryz.prog 76 #[] w fun e w'=>e = .returned (.slice (some ⟨w.heap.size,0,none⟩) 15 15)∧Below w.heap.size w w'∧w.heap.size < w'.heap.size∧Lies w' w.heap.size YD:=by
 go_enter Tryz.func76,Tryz.ntmps76
 go_wp2
 go_ret
 refine ⟨rfl,bA _,by simp,?_⟩
 exact lies_lit w 9 YD
theorem has_builts (s:ByteArray) (w:World) (b:Nat) (hc:Lies w b YD) :
  Calls Tryz.prog 73 #[.slice (some ⟨b,0,none⟩) 15 15,.string s] w fun e w'=>e = .returned (.bool (decide (s.data.toList∈YD)))∧w'=w:=has_any YD b s w (by decide) hc
theorem Zg {ns:List Tr.Nd} {k:Nat} (h:k < ns.length):Xi ns k=ns[k].text:=by simp [Xi,h]
theorem ba_eq (a b:ByteArray):(a.toList == b.toList)=true↔a=b:=by
 rw [beq_iff_eq,Lib.toList_data,Lib.toList_data]
 exact ⟨fun h=>ByteArray.ext (Array.toList_inj.1 h),fun h=>by rw [h]⟩
set_option maxRecDepth 100000 in
set_option maxHeartbeats 2000000 in
theorem use_any (ns:List Tr.Nd) (ks:List (List Nat)) (wb tg tc kg kc cg bg k kng knc:Nat) (kn:List Tr.Kn) (s:Tr.St) (w:World) (hk:k < ns.length) (hl:kn.length≤100000000) (hF:Fx ns ks wb tg tc kg kc cg bg w) (hD:Dy ns.length cg bg s w) (hK:KnAt w kng kn) :
  Calls Tryz.prog 55 #[.pointer (some ⟨wb,0,none⟩),.int .i64 k,.slice (some ⟨kng,0,none⟩) kn.length knc] w fun e w'=>e = .returned (.tuple #[])∧Kp cg bg w w'∧Dy ns.length cg bg (ZD ns k kn s) w':=by
 obtain ⟨_,_,_,hN,_⟩:=hF.nodes.2 k hk
 have h0:=hF.f0
 have h3:=hF.f3
 obtain ⟨hcb,hfb⟩:=hD.cellB k hk
 have HU:=X1 (show ZD ns k kn s=(match XX ns[k].text kn with
  | some a=>{s with binds:=s.binds.set k a}
  | none=>if ns[k].text.data.toList∈YD then {s with binds:=s.binds.set k (-2)} else Xd k 9 s) by rw [← Zg hk];rfl)
 generalize ns[k].text=tx at *
 have HD:=X1 hD
 have HF:=X1 hF
 have HKN:=X1 hK
 have hlt0:=hF.wlt
 have hlt1:=hF.nodes.1
 have hlt2:=(hD.b.lt bg rfl).2
 clear hF hD hK
 go_enter Tryz.func55,Tryz.ntmps55
 go_wp2
 go_loopw [6] (fun t wr=>∃ i:Nat,i≤kn.length∧t = .int .i64 ((i:Int) - 1)∧Below w.heap.size w wr∧XX tx kn=XX tx (kn.take i)) (fun t _=>(intOf t+1).toNat)
 case atStart=>exact ⟨kn.length,Nat.le_refl _,rfl,Below.refl _ _,by rw [List.take_length]⟩
 case round =>
  obtain ⟨i,hi,rfl,hB,he⟩:=hrel
  have HE:=X1 he
  clear he
  have q0:=(hB.cell (p:=⟨wb,0,none⟩) hlt0).trans h0
  have q3:=(hB.cell (p:=⟨wb,3,none⟩) hlt0).trans h3
  have qN:=(hB.cell (p:=⟨tg,k*5+3,none⟩) hlt1).trans hN
  have qb:=(hB.cell (p:=⟨bg,k,none⟩) hlt2).trans hcb
  have qf:=(hB.frozen (p:=⟨bg,k,none⟩) hlt2).trans hfb
  by_cases hpos:0 < i
  ·obtain ⟨j,rfl⟩:∃ j,i=j+1:=⟨i - 1,by omega⟩
   have HS:=X1 (Tr.lookK_at tx kn j (by omega))
   obtain ⟨e0,e1⟩:=HKN.out.2 j (by omega)
   have k0:=(hB.cell (p:=⟨kng,j*2,none⟩) HKN.out.1).trans e0
   have k1:=(hB.cell (p:=⟨kng,j*2+1,none⟩) HKN.out.1).trans e1
   have hba:=ba_eq kn[j].1 tx
   generalize kn[j].1=tj at *
   generalize kn[j].2=aj at *
   have hj1:((j+1:Nat):Int) - 1=j:=by omega
   rw [hj1]
   cases hq:(tj.toList == tx.toList)
   ·have HS2:Hid (XX tx kn=XX tx (kn.take j)):=X1 (by rw [HE.out,HS.out,if_neg (fun h=>by rw [hba.2 h] at hq;cases hq)])
    go_wp2
    go_quiet (fail)
    go_wp2
    go_roundw
    case rel=>exact ⟨j,by omega,by go_num,below_drewN hB _,HS2.out⟩
    case measure=>simp [intOf]
   ·have HS2:Hid (ZD ns k kn s={s with binds:=s.binds.set k aj}):=X1 (by rw [HU.out,HE.out,HS.out,if_pos (hba.1 hq)])
    go_wp2
    go_quiet (fail)
    go_wp2
    go_region
    all_goals
     go_wp2
     (first | go_end0 | refine bodyPost_ret (results_none rfl _ _ _) rfl ?_)
     exact ⟨rfl,(Kp.of_below (below_drewN hB _)).setCell _ _ (.inr rfl),by rw [HS2.out];exact (HD.out.below (below_drewN hB _)).setB k aj⟩
  ·obtain rfl:i=0:=by omega
   have HN:Hid (XX tx kn=none):=X1 (by rw [HE.out];rfl)
   have hw0:=Nat.lt_of_lt_of_le hlt0 hB.size
   have hw1:=Nat.lt_of_lt_of_le hlt1 hB.size
   have hw2:=Nat.lt_of_lt_of_le hlt2 hB.size
   have HBT:=X1 (has_builts tx)
   cases hbt:decide (tx.data.toList∈YD)
   ·have HS2:Hid (ZD ns k kn s=Xd k 9 s):=X1 (by rw [HU.out,HN.out];simp only;rw [if_neg (by simpa using hbt)])
    have HBT2:=HBT.out
    rw [hbt] at HBT2
    replace HBT2:=X1 HBT2
    have HFA:=X1 (fun w' (hb:Below w.heap.size w w')=>QB ns ks wb tg tc kg kc cg bg k 9 s w' hk (HF.out.kept (.of_below hb)) (HD.out.below hb))
    go_wp2
    go_region_with (first
     | (go_at_call 76;refine (builts_any _).mono ?_;rintro e w1 ⟨rfl,hb1,hz1,hli⟩;have r0:=(hb1.cell (p:=⟨wb,0,none⟩) hw0).trans q0;have rN:=(hb1.cell (p:=⟨tg,k*5+3,none⟩) hw1).trans qN)
     | (go_at_call 73;refine (HBT2.out _ _ hli).mono ?_;rintro e w' ⟨rfl,rfl⟩))
    all_goals
     have hB1:=hB.drew.trans (hb1.mono hB.size)
     go_wp2_with fail
     refine (HFA.out _ hB1).mono ?_
     rintro e w2 ⟨rfl,hk2,hd2⟩
     go_wp2
     (first | go_end0 | refine bodyPost_ret (results_none rfl _ _ _) rfl ?_)
     exact ⟨rfl,(Kp.of_below hB1).trans hk2,by rw [HS2.out];exact hd2⟩
   ·have HS2:Hid (ZD ns k kn s={s with binds:=s.binds.set k (-2)}):=X1 (by rw [HU.out,HN.out];simp only;rw [if_pos (by simpa using hbt)])
    have HBT2:=HBT.out
    rw [hbt] at HBT2
    replace HBT2:=X1 HBT2
    go_wp2
    go_region_with (first
     | (go_at_call 76;refine (builts_any _).mono ?_;rintro e w1 ⟨rfl,hb1,hz1,hli⟩;have r0:=(hb1.cell (p:=⟨wb,0,none⟩) hw0).trans q0;have rN:=(hb1.cell (p:=⟨tg,k*5+3,none⟩) hw1).trans qN;have r3:=(hb1.cell (p:=⟨wb,3,none⟩) hw0).trans q3;have rb:=(hb1.cell (p:=⟨bg,k,none⟩) hw2).trans qb;have rf:=(hb1.frozen (p:=⟨bg,k,none⟩) hw2).trans qf)
     | (go_at_call 73;refine (HBT2.out _ _ hli).mono ?_;rintro e w' ⟨rfl,rfl⟩))
    all_goals
     have hB1:=hB.drew.trans (hb1.mono hB.size)
     go_wp2
     (first | go_end0 | refine bodyPost_ret (results_none rfl _ _ _) rfl ?_)
     exact ⟨rfl,(Kp.of_below hB1).setCell _ _ (.inr rfl),by rw [HS2.out];exact (HD.out.below hB1).setB k (-2)⟩
end Go.Proofs.YthbfdaifgnhkbaaGreatDoor
