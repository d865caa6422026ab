/- Nj, Fp1, Fp2. -/
import Derived.Test.YthbojbbmpcmoaaaGreatDoorZ13
import Derived.Test.YthbojbbmpcmoaaaGreatDoorZ23
import Derived.Test.YthbojbbmpcmoaaaGreatDoorZ33
import Derived.Deep.RegionHeld3
namespace Go.Proofs.YthbojbbmpcmoaaaGreatDoor
open Go.RowKit
def builtBA:List ByteArray:=[[108,101,110],[116,101,120,116],[105,110,116],[114,97,110,103,101],[115,111,114,116,101,100],[117,110,105,113,117,101],[106,111,105,110],[115,112,108,105,116],[107,101,121,115],[114,101,99,111,114,100],[119,105,116,104,111,117,116],[98,101,103,105,110,115],[99,117,116],[102,105,108,101,115],[102,97,105,108]].map fun l=>⟨l.toArray⟩
def GlobB (w:World):Prop:=0 < w.heap.size∧∀ j (h:j < builtBA.length),w.cell? ⟨0,j,none⟩=some (.string builtBA[j])
theorem GlobB.below {w w':World} (h:GlobB w) (hb:Below w.heap.size w w'):GlobB w':=⟨Nat.lt_of_lt_of_le h.1 hb.size,fun j hj=>(hb.cell (p:=⟨0,j,none⟩) h.1).trans (h.2 j hj)⟩
def builtSc (j:Nat):Tr.Sp:=((builtBA.take j).map fun x=>(x,(-2:Int))).reverse
theorem builtSc_end:builtSc 15=Tr.builtSp:=rfl
theorem builtSc_len (j:Nat):(builtSc j).length≤15:=by
 unfold builtSc
 rw [List.length_reverse,List.length_map,List.length_take]
 exact Nat.min_le_right _ _
theorem builtSc_at (j:Nat) (h:j < builtBA.length):builtSc (j+1)=(builtBA[j],-2) :: builtSc j:=by
 unfold builtSc
 rw [List.take_succ_eq_append_getElem h,List.map_append,List.reverse_append];rfl
theorem idx_arr (cs:Array Value) (j:Nat) (x:ByteArray) (W:World) (hj:j < 15) (h:cs[j]?=some (.string x)):(Instr.index 238 (.agg cs) (.int .i64 j)).run Tryz.prog W = .ok (.string x) W:=by
 simp [Instr.index,part,asIntOf,run_underlying Tryz.underlying238,h,Result.andThen]
 omega
set_option maxRecDepth 100000 in
set_option maxHeartbeats 1000000 in
theorem builtScope_any (cg bg:Nat) (w:World) (hG:GlobB w) (h1:cg < w.heap.size) (h2:bg < w.heap.size) :
  Calls Tryz.prog 100 #[] w fun e w'=>e = .returned (.pointer (some ⟨w.heap.size+1,0,none⟩))∧Below w.heap.size w w'∧Chain cg bg w' w'.heap.size (some ⟨w.heap.size+1,0,none⟩) [Tr.builtSp]:=by
 have hmm:=@run_makeMap Tryz.prog
 obtain ⟨n0,n1,n2,n3,n4⟩:=sc_new w none
 have HGX:=hide (hG.below n3)
 have e0:=HGX.out.2 0 (by decide)
 have e1:=HGX.out.2 1 (by decide)
 have e2:=HGX.out.2 2 (by decide)
 have e3:=HGX.out.2 3 (by decide)
 have e4:=HGX.out.2 4 (by decide)
 have e5:=HGX.out.2 5 (by decide)
 have e6:=HGX.out.2 6 (by decide)
 have e7:=HGX.out.2 7 (by decide)
 have e8:=HGX.out.2 8 (by decide)
 have e9:=HGX.out.2 9 (by decide)
 have e10:=HGX.out.2 10 (by decide)
 have e11:=HGX.out.2 11 (by decide)
 have e12:=HGX.out.2 12 (by decide)
 have e13:=HGX.out.2 13 (by decide)
 have e14:=HGX.out.2 14 (by decide)
 have HN0:=hide n0
 have HN1:=hide n1
 have HN2:=hide n2
 have HN3:=hide n3
 have HN4:=hide n4
 clear hG n0 n1 n2 n3 n4
 go_enter Tryz.func100,Tryz.ntmps100
 go_wp2
 generalize hcs:(#[Value.string builtBA[0],Value.string builtBA[1],Value.string builtBA[2],Value.string builtBA[3],Value.string builtBA[4],Value.string builtBA[5],Value.string builtBA[6],Value.string builtBA[7],Value.string builtBA[8],Value.string builtBA[9],Value.string builtBA[10],Value.string builtBA[11],Value.string builtBA[12],Value.string builtBA[13],Value.string builtBA[14]]:Array Value)=cs at *
 have hcz:cs.size=15:=by rw [← hcs];rfl
 have HCS:Hid (∀ j (h:j < builtBA.length),cs[j]?=some (.string builtBA[j])):=hide (by
  intro j h
  rw [← hcs]
  match j,h with
  | 0,_=>rfl
  | 1,_=>rfl
  | 2,_=>rfl
  | 3,_=>rfl
  | 4,_=>rfl
  | 5,_=>rfl
  | 6,_=>rfl
  | 7,_=>rfl
  | 8,_=>rfl
  | 9,_=>rfl
  | 10,_=>rfl
  | 11,_=>rfl
  | 12,_=>rfl
  | 13,_=>rfl
  | 14,_=>rfl
  | n+15,h=>exact absurd h (by rw [show builtBA.length=15 from rfl];omega))
 clear hcs e0 e1 e2 e3 e4 e5 e6 e7 e8 e9 e10 e11 e12 e13 e14
 go_loopw [8] (fun t wr=>∃ j:Nat,j≤15∧t = .int .i64 j∧Below w.heap.size w wr∧w.heap.size+1 < wr.heap.size∧wr.cell? ⟨w.heap.size+1,0,none⟩=some (.map (some w.heap.size))∧wr.cell? ⟨w.heap.size+1,1,none⟩=some (.pointer none)∧SpAt wr w.heap.size (builtSc j)) (fun t _=>15 - (intOf t).toNat)
 case atStart=>exact ⟨0,Nat.zero_le _,rfl,HN3.out,by rw [HN4.out];omega,HN0.out,HN1.out,HN2.out⟩
 case round =>
  obtain ⟨j,hj,rfl,hB,hz,c0,c1,hsp⟩:=hrel
  by_cases hlt:j < 15
  ·have hcj:=HCS.out j hlt
   have HS:=hide (builtSc_at j hlt)
   have hxs:builtBA[j].size≤1048576:=by
    have:∀ x∈builtBA,x.size≤1048576:=by decide
    exact this _ (List.getElem_mem hlt)
   generalize builtBA[j]=x at *
   have hix:=idx_arr cs j x wr hlt hcj
   have hbl:=builtSc_len j
   obtain ⟨D,hown,hDD⟩:=hsp
   have HO:=hide hown
   have HDD:=hide hDD
   have HC1:=hide c1
   have HY:Hid (keyOf Tryz.prog 9 (.string x)=some (.string x.data.toList)):=hide (WideMaps.keyOf_string_mk Tryz.underlying9 (by unfold maxLen;omega))
   have HPE:Hid (plainElem (H:=Unit) Tryz.prog 3 (.int .i64 (-2))=some (.lit (.int .i64 (-2)),[])):=hide (plainElem_int Tryz.underlying3 (by decide))
   clear hown hDD c1
   go_wp2_with (at_mapUpdate;refine wpList_mapUpdate_own _ rfl _ _ _ 235 rfl 9 3 lawT Tryz.underlying235 _ w.heap.size _ D rfl HO.out (by unfold maxLen;omega) _ _ _ rfl rfl HY.out _ [] HPE.out ?_)
   intro w1 hown1 hgrow1
   have HSP:Hid (SpAt w1 w.heap.size (builtSc (j+1))):=hide (by rw [HS.out];exact SpAt.put HDD.out HO.out.isMap hown1)
   have c0':w1.cell? ⟨w.heap.size+1,0,none⟩=some (.map (some w.heap.size)):=(World.cell?_of_block (hgrow1.block (w.heap.size+1) hz (by simp))).trans c0
   have HC1':Hid (w1.cell? ⟨w.heap.size+1,1,none⟩=some (.pointer none)):=hide ((World.cell?_of_block (hgrow1.block (w.heap.size+1) hz (by simp))).trans HC1.out)
   have hB1:Below w.heap.size w w1:=hB.grown hgrow1 (by omega) (fun k e=>by cases e;exact Nat.le_refl _)
   have hz1:=Nat.lt_of_lt_of_le hz hgrow1.size
   clear hown1 hgrow1
   go_wp2
   go_roundw
   case rel=>exact ⟨j+1,by omega,by go_num,hB1,hz1,c0',HC1'.out,HSP.out⟩
   case measure=>simp [intOf];omega
  ·obtain rfl:j=15:=by omega
   go_wp2
   go_ret
   exact ⟨rfl,hB,⟨w.heap.size+1,w.heap.size,none,rfl,hz,Nat.lt_succ_self _,by omega,by omega,by omega,by omega,c0,c1,by rw [← builtSc_end];exact hsp,rfl⟩⟩
theorem Ip.ty_plain {k:Int} (h6:k≠6) (h7:k≠7) (h13:k≠13) (h14:k≠14):Ip.ty k∈([193,196,197,198,199,200,203,204,205,206,207,208,209,210,211,212,213]:List TypeId):=by
 have b6:(k == 6)=false:=by simpa using h6
 have b7:(k == 7)=false:=by simpa using h7
 have b13:(k == 13)=false:=by simpa using h13
 have b14:(k == 14)=false:=by simpa using h14
 unfold Ip.ty
 rw [b6,b7,b13,b14]
 simp only [cond_false]
 repeat (refine Ip.cond_mem (by simp) ?_)
 simp
theorem call_anewS {k:Int} (h6:k≠6) (h7:k≠7) (h13:k≠13) (h14:k≠14) (o m c:Int) (t:ByteArray) (sl v:Value) (w:World):(callMethod (.iface (Ip.ty k) (Ip.ag k o m c t sl)) nmAnew #[v]).run Tryz.prog w = .ok (.enter 248 #[Ip.ag k o m c t sl,v]) w:=by
 have key:∀ T∈([193,196,197,198,199,200,203,204,205,206,207,208,209,210,211,212,213]:List TypeId),(callMethod (.iface T (Ip.ag k o m c t sl)) nmAnew #[v]).run Tryz.prog w = .ok (.enter 248 #[Ip.ag k o m c t sl,v]) w:=by
  clear h6 h7 h13 h14
  intro T hT
  simp only [List.mem_cons,List.not_mem_nil,or_false] at hT
  rcases hT with rfl | rfl | rfl | rfl | rfl | rfl | rfl | rfl | rfl | rfl | rfl | rfl | rfl | rfl | rfl | rfl | rfl <;> kernel_rfl
 exact key _ (Ip.ty_plain h6 h7 h13 h14)
theorem call_anewU (o m c:Int) (t:ByteArray) (sl v:Value) (w:World):(callMethod (.iface (Ip.ty 6) (Ip.ag 6 o m c t sl)) nmAnew #[v]).run Tryz.prog w = .ok (.enter 254 #[Ip.ag 6 o m c t sl,v]) w:=by kernel_rfl
theorem call_anewB (o m c:Int) (t:ByteArray) (sl v:Value) (w:World):(callMethod (.iface (Ip.ty 7) (Ip.ag 7 o m c t sl)) nmAnew #[v]).run Tryz.prog w = .ok (.enter 261 #[Ip.ag 7 o m c t sl,v]) w:=by kernel_rfl
theorem call_anewI (o m c:Int) (t:ByteArray) (sl v:Value) (w:World):(callMethod (.iface (Ip.ty 13) (Ip.ag 13 o m c t sl)) nmAnew #[v]).run Tryz.prog w = .ok (.enter 273 #[Ip.ag 13 o m c t sl,v]) w:=by kernel_rfl
theorem call_anewL (o m c:Int) (t:ByteArray) (sl v:Value) (w:World):(callMethod (.iface (Ip.ty 14) (Ip.ag 14 o m c t sl)) nmAnew #[v]).run Tryz.prog w = .ok (.enter 276 #[Ip.ag 14 o m c t sl,v]) w:=by kernel_rfl
structure Anw (O:FOp) (fb f:Nat) (B:Nat→Prop) (w:World) (x:Tr.Nd) (p b:Int) (ks:List Fd) (sp:Option Addr) (sc:Nat):Prop where
 stem:∀ w',Below w.heap.size w w'→Calls Tryz.prog 248 #[Ip.ag x.kind x.op x.n ks.length x.text (.slice sp ks.length sc),pt fb] w' fun e w''=>∃ z,e = .returned z∧AnPost B w' (.mk x p b (ks.map (Fd.fold O f))) z w''
 tb:Tb w fb
 inB:∀ q,B q→q < w.heap.size
theorem Anw.of {O:FOp} {fb f:Nat} (IH:AnewAt O fb f) (hf:f≤1000000) {x:Tr.Nd} {p b:Int} {ks:List Fd} (hs:∀ t∈ks,t.size≤f) (hkl:ks.length≤f) (hG:∀ t∈ks,Fd.Good t) (hR:∀ t∈ks,Fd.Rooted t) {B:Nat→Prop} {sp:Option Addr} {sc:Nat} {xs:List Value} {w:World} (hB:∀ q,B q→q < w.heap.size) (hT:Tb w fb) (hrow:w.ownsRow 0 56 1 (.slice sp ks.length sc) ks.length xs) (hq:∀ q,(Value.slice sp ks.length sc).ownBlock=some q→B q) (hk:Fd.Pt.ptL B w ks xs):Anw O fb f B w x p b ks sp sc :=
 ⟨fun w' hb=>stemAnew_any IH hf x p b ks hs hkl hG hR B sp sc xs w' (fun q e=>Nat.lt_of_lt_of_le (hB q e) hb.size) (hT.below hb) (row_ownF hrow (fun _ _=>Nat.zero_le _) (fun q e=>hb.block q (hB q (hq q e)))) hq (Fd.ptL_go (fun _ e=>e) (fun q e=>hb.block q (hB q e)) hk),hT,hB⟩
theorem AnPost.below {B:Nat→Prop} {w w1 w2:World} {y:Fd} {z:Value} (h:AnPost B w y z w1) (hB:∀ q,B q→q < w.heap.size) (hb:Below w1.heap.size w1 w2):AnPost B w y z w2 :=
 ⟨Fd.Pt.go h.1 (fun _ e=>e.elim .inl (fun e => .inr ⟨e.1,Nat.lt_of_lt_of_le e.2 hb.size⟩)) (fun q e=>hb.block q (e.elim (fun e=>Nat.lt_of_lt_of_le (hB q e) h.2.size) (fun e=>e.2))),h.2.trans (hb.mono h.2.size)⟩
theorem AnPost.from {B:Nat→Prop} {w0 w w1:World} {y:Fd} {z:Value} (h:AnPost B w y z w1) (hb:Below w0.heap.size w0 w):AnPost B w0 y z w1 :=
 ⟨Fd.Pt.go h.1 (fun _ e=>e.elim .inl (fun e => .inr ⟨Nat.le_trans hb.size e.1,e.2⟩)) (fun _ _=>rfl),hb.trans (h.2.mono hb.size)⟩
theorem step_meth1 {ops:Array Oper} {o:Oper} {a:Act} {w:World} {K:Act→World→Prop} {Q:Exit→Act→World→Prop} {E:Prop} {name:String}
  (hg:o.guard=none) (x y:Operand) (ts:Array TypeId) (hop:o.op=Op.call {callee:=Callee.invoke x name,args:=#[y],argTypes:=ts})
  (v u:Value) (P:Value→World→Prop) (hx:a.eval x=v) (hy:a.eval y=u) (hv:Meth1 v name u w P) (hK:∀ z w',P z w'→K (a.put o.dst z) w') :
  if Region.wanted o (yielded ops a.tmps)=true then Oper.wp Tryz.prog o a w K Q else E:=by
 have hw:Region.wanted o (yielded ops a.tmps)=true:=by simp [Region.wanted,hg]
 rw [if_pos hw]
 obtain ⟨f,r,hm,hC⟩:=hv
 unfold Oper.wp
 simp only [execOp,hop,resolve,invoke,List.map_toArray,List.map_nil,List.map_cons,hx,hy,Sem.run_bind,Sem.run_pure,Result.andThen_ok]
 simp [hm]
 refine hC.mono fun e w2 h=>?_
 obtain ⟨z,rfl,h2⟩:=h
 exact hK _ _ h2
theorem Fd.fin14 (O:FOp) (F:Fd→Fd) {x:Tr.Nd} (h:x.kind=14) (p b:Int) (k l:Fd):Fd.fin O F x p b [k,l]=if Fd.isC k.x then F (Fd.repl p k.x l) else .mk x p b [k,l]:=by
 unfold Fd.fin
 rw [if_neg (by omega),if_neg (by omega),if_neg (by omega),if_pos h]
theorem Fd.pt_one {B:Nat→Prop} {w:World} {x:Tr.Nd} {p b:Int} {v:Value} (h:Fd.Pt B w (.mk x p b []) v):Fd.Pt B w (Fd.one x) v:=(Fd.pt_mk _ _ _ _ _ _ _).2 ((Fd.pt_mk _ _ _ _ _ _ _).1 h)
theorem Fd.pt_two {B:Nat→Prop} {w:World} {x:Tr.Nd} {p b:Int} {k l:Fd} {v:Value} (h:Fd.Pt B w (.mk x p b [k,l]) v):∃ g c v0 v1,v=Ip.pv (Fd.nk x 2) (.slice (some ⟨g,0,none⟩) 2 c)∧B g∧w.cell? ⟨g,0,none⟩=some v0∧w.cell? ⟨g,1,none⟩=some v1∧Fd.Pt B w k v0∧Fd.Pt B w l v1:=by
 obtain ⟨sl,xs,h1,h2,h3,h4⟩:=(Fd.pt_mk _ _ _ _ _ _ _).1 h
 obtain ⟨g,c,rfl⟩:=row_posF h2 (by simp)
 obtain ⟨v0,s,rfl,q1,h5⟩:=(Fd.ptL_cons _ _ _ _).1 h4
 obtain ⟨v1,s,rfl,q2,h6⟩:=(Fd.ptL_cons _ _ _ _).1 h5
 exact ⟨g,c,v0,v1,h1,h3 g rfl,row_cellF h2 rfl,row_cellF h2 rfl,q1,q2⟩
theorem Fd.pt_root {B:Nat→Prop} {w:World} {y:Fd} {v:Value} (h:Fd.Pt B w y v):∃ p n c,v=Ip.pv (Fd.nk y.x y.ks.length) (.slice p n c):=by
 obtain ⟨x,p,b,ks⟩:=y
 obtain ⟨sl,xs,h1,h2,h3,h4⟩:=(Fd.pt_mk _ _ _ _ _ _ _).1 h
 obtain ⟨p,c,rfl⟩:=row_formF h2
 exact ⟨p,_,c,h1⟩
set_option maxRecDepth 100000 in
set_option maxHeartbeats 4000000 in
theorem letAnew_any {O:FOp} (hO:Fd.Fine O) (hC:Fd.Cs O) {fb f:Nat} (IH:AnewAt O fb f) (hf:f≤1000000) (o m c0:Int) (t:ByteArray) (p b:Int) (k l:Fd) (B:Nat→Prop) (sp:Option Addr) (sc:Nat) (w:World) (hA:Anw O fb f B w ⟨14,o,m,t,c0⟩ p b [k,l] sp sc) (hGk:Fd.Good k) (hGl:Fd.Good l) (hS:Fd.Scoped (.mk ⟨14,o,m,t,c0⟩ p b [k,l])) (hsz:l.size≤f) :
  Calls Tryz.prog 276 #[Ip.ag 14 o m 2 t (.slice sp 2 sc),pt fb] w fun e w'=>∃ z,e = .returned z∧AnPost B w (Fd.fold O (f+1) (.mk ⟨14,o,m,t,c0⟩ p b [k,l])) z w':=by
 have HF:=hide (show Fd.fold O (f+1) (.mk ⟨14,o,m,t,c0⟩ p b [k,l])=_ from (Fd.fold_succ O f ⟨14,o,m,t,c0⟩ p b [k,l]).trans (Fd.fin14 O (Fd.fold O f) (x:=⟨14,o,m,t,c0⟩) rfl p b (Fd.fold O f k) (Fd.fold O f l)))
 have HLT:=hide (fun (c:Tr.Nd) (hc:Fd.isC c)=>Fd.let_step hC f hS rfl hc)
 have HGK:=hide (Fd.good_fold hO f k hGk)
 have HGL:=hide (Fd.good_fold hO f l hGl)
 have HSL:=hide (Nat.le_trans (Fd.size_fold O f l) hsz)
 have HST:=hide hA.stem
 have HTB:=hide hA.tb
 have HB:=hide hA.inB
 have HIH:=hide IH
 have hmap:[k,l].map (Fd.fold O f)=[Fd.fold O f k,Fd.fold O f l]:=rfl
 rw [hmap] at HST
 have HE:Hid ([k,l].length=2):=hide rfl
 rw [HE.out] at HST
 clear hA hS hGk hGl hsz hmap HE
 generalize Fd.fold O f k=k' at *
 generalize Fd.fold O f l=l' at *
 have b0:Below w.heap.size w (w.alloc (stO 202 14 o m 2 t (.slice sp 2 sc))):=bA _
 have HB0:=hide b0
 have HX0:=hide (heap_alloc_new' w (stO 202 14 o m 2 t (.slice sp 2 sc)))
 have HZ0:Hid (w.heap.size < (w.alloc (stO 202 14 o m 2 t (.slice sp 2 sc))).heap.size):=hide (by simp)
 clear b0
 go_enter Tryz.func276,Tryz.ntmps276
 go_wp2_with fail
 refine (HST.out _ HB0.out).mono ?_
 rintro e w1 ⟨z1,rfl,hp1⟩
 have HX1:=hide ((hp1.2.block w.heap.size HZ0.out).trans HX0.out)
 have hz1:=Nat.lt_of_lt_of_le HZ0.out hp1.2.size
 have HP1:=hide (hp1.from HB0.out)
 clear hp1 HST
 obtain ⟨g1,c1,v0,v1,rfl,hg1,hv0,hv1,hk',hl'⟩:=Fd.pt_two HP1.out.1
 have hgl:g1 < w1.heap.size:=hg1.elim (fun e=>Nat.lt_of_lt_of_le (HB.out g1 e) HP1.out.2.size) (fun e=>e.2)
 obtain ⟨p0,n0,cc0,hr0⟩:=Fd.pt_root hk'
 subst hr0
 obtain ⟨t1,u1,hr1⟩:=hl'.iface
 subst hr1
 have HK':=hide hk'
 have HL':=hide hl'
 have HV0:=hide hv0
 have HV1:=hide hv1
 have hmk:=meth_kids 14 o m 2 t (.slice (some ⟨g1,0,none⟩) 2 c1)
 have HKD:=hide (fun w=>ikids_at 14 o m 2 t (.slice (some ⟨g1,0,none⟩) 2 c1) ⟨_,_,_,rfl⟩ w)
 have HIC:=hide (fun w=>isConst_any k'.x.kind k'.x.op k'.x.n (k'.ks.length:Nat) k'.x.text p0 n0 cc0 w)
 have hnk:Ip.pv (Fd.nk k'.x k'.ks.length) (.slice p0 n0 cc0)=Ip.pv ⟨k'.x.kind,k'.x.op,k'.x.n,k'.x.text,(k'.ks.length:Nat)⟩ (.slice p0 n0 cc0):=rfl
 rw [hnk] at HK' HV0
 have HP1':Hid (AnPost B w (.mk ⟨14,o,m,t,c0⟩ p b [k',l']) (Ip.pv (Fd.nk ⟨14,o,m,t,c0⟩ 2) (.slice (some ⟨g1,0,none⟩) 2 c1)) w1):=HP1
 obtain ⟨_,_,hv0b⟩:∃ y u,Ip.pv ⟨k'.x.kind,k'.x.op,k'.x.n,k'.x.text,(k'.ks.length:Nat)⟩ (.slice p0 n0 cc0) = .iface y u:=⟨_,_,rfl⟩
 clear hk' hl' hv0 hv1 hnk HP1 hv0b
 unfold Fd.nk Ip.pv at *
 go_wp2_with fail
 refine (HKD.out _).mono ?_
 rintro e w2 ⟨rfl,hb2⟩
 have HB2:=hide hb2
 have e0:=(hb2.cell (p:=⟨g1,0,none⟩) hgl).trans HV0.out
 clear hb2 HKD
 go_wp2_with fail
 refine (HIC.out _).mono ?_
 rintro e w3 ⟨rfl,hb3⟩
 have HB3:=hide (HB2.out.trans (hb3.mono HB2.out.size))
 clear hb3 HIC HB2 e0
 by_cases hc:1≤k'.x.kind∧k'.x.kind≤4
 ·rw [decide_eq_true hc]
  have hcn:=HGK.out.const hc
  obtain ⟨hfill,hsco⟩:=HLT.out k'.x hc
  have HFR:=hide (HF.out.trans (if_pos hc))
  have e0:=(HB3.out.cell (p:=⟨g1,0,none⟩) hgl).trans HV0.out
  have e1:=(HB3.out.cell (p:=⟨g1,1,none⟩) hgl).trans HV1.out
  obtain ⟨_,_,_,q3,_,_⟩:=stO_cells ((HB3.out.block w.heap.size hz1).trans HX1.out)
  have hBq:∀ q,(B q∨(w.heap.size≤q∧q < w1.heap.size))→q < w1.heap.size:=fun q e=>e.elim (fun e=>Nat.lt_of_lt_of_le (HB.out q e) HP1'.out.2.size) (fun e=>e.2)
  have HBQ:=hide hBq
  have HONE:Hid (Fd.Pt (fun q=>B q∨(w.heap.size≤q∧q < w1.heap.size)) w1 (Fd.one k'.x) (.iface (Ip.ty k'.x.kind) (.agg #[.int .i64 k'.x.kind,.int .i64 k'.x.op,.int .i64 k'.x.n,.string k'.x.text,.int .i64 (k'.ks.length:Nat),.slice p0 n0 cc0]))):=hide (by
   have h1:=HK'.out
   obtain ⟨kx,kp,kb,kks⟩:=k'
   have h2:kks=[]:=hcn.2
   subst h2
   exact Fd.pt_one h1)
  have HFL:=hide (fun (w':World) (hb:Below w1.heap.size w1 w')=>filled_any t k'.x (l'.size) l' (Nat.le_refl _) (Nat.le_trans HSL.out hf) HGL.out (fun q=>B q∨(w.heap.size≤q∧q < w1.heap.size)) (.iface t1 u1) (.iface (Ip.ty k'.x.kind) (.agg #[.int .i64 k'.x.kind,.int .i64 k'.x.op,.int .i64 k'.x.n,.string k'.x.text,.int .i64 (k'.ks.length:Nat),.slice p0 n0 cc0])) w' (fun q e=>Nat.lt_of_lt_of_le (HBQ.out q e) hb.size) (Fd.Pt.go HL'.out (fun _ e=>e) (fun q e=>hb.block q (HBQ.out q e))) (Fd.Pt.go HONE.out (fun _ e=>e) (fun q e=>hb.block q (HBQ.out q e))))
  rw [show Fd.fill t k'.x l'=Fd.repl p k'.x l' from hfill] at HFL
  have HSZ:=hide (Nat.le_trans (Fd.size_repl p k'.x _ l' (Nat.le_refl _)) HSL.out)
  have HGR:=hide (Fd.good_repl p hcn.1 _ l' (Nat.le_refl _) HGL.out)
  have HSC:=hide hsco
  clear hcn hfill hsco hBq HONE HLT HF HGL HGK HL' HK'
  generalize Fd.repl p k'.x l'=y2 at *
  clear hc
  generalize k'.x.kind=kk at *
  generalize k'.x.op=ko at *
  generalize k'.x.n=kn at *
  generalize k'.x.text=kt at *
  generalize (k'.ks.length:Nat)=kl at *
  go_wp2_with fail
  go_region_held3 (fun W=>W.cell? ⟨g1,0,none⟩=some (.iface (Ip.ty kk) (.agg #[.int .i64 kk,.int .i64 ko,.int .i64 kn,.string kt,.int .i64 (kl:Int),.slice p0 n0 cc0]))∧W.cell? ⟨g1,1,none⟩=some (.iface t1 u1)∧W.cell? ⟨w.heap.size,3,none⟩=some (.string t)) (go_keep) (first
   | (refine step_callF rfl 280 [.tmp 21,.tmp 25,.tmp 28] _ rfl [.iface t1 u1,.string t,.iface (Ip.ty kk) (.agg #[.int .i64 kk,.int .i64 ko,.int .i64 kn,.string kt,.int .i64 (kl:Int),.slice p0 n0 cc0])] (by simp [Act.eval]) Tryz.f280 Tryz.func280 (by kernel_rfl) (by kernel_rfl) (fun r w5=>∃ t5 u5,r = .iface t5 u5∧Fd.Pt (fun q=>(B q∨(w.heap.size≤q∧q < w1.heap.size))∨(w3.heap.size≤q∧q < w5.heap.size)) w5 y2 (.iface t5 u5)∧Below w3.heap.size w3 w5) ((HFL.out w3.drew HB3.out.drew).mono (fun _ _ ⟨v,q1,q2,q3⟩=>by obtain ⟨t5,u5,q4⟩:=q2.iface;subst q4;exact ⟨_,q1,t5,u5,rfl,q2,drewF q3⟩)) ?_;rintro r w5 ⟨t5,u5,rfl,hp5,hb5⟩;have s0:=(hb5.cell (p:=⟨g1,0,none⟩) (Nat.lt_of_lt_of_le hgl HB3.out.size)).trans e0;have s1:=(hb5.cell (p:=⟨g1,1,none⟩) (Nat.lt_of_lt_of_le hgl HB3.out.size)).trans e1;have s3:=(hb5.cell (p:=⟨w.heap.size,3,none⟩) (Nat.lt_of_lt_of_le hz1 HB3.out.size)).trans q3)
   | (refine step_meth1 rfl (.tmp 29) (.tmp 30) _ rfl (.iface t5 u5) (pt fb) (AnPost (fun q=>(B q∨(w.heap.size≤q∧q < w1.heap.size))∨(w3.heap.size≤q∧q < w5.heap.size)) w5 (Fd.fold O f y2)) (by simp [Act.eval]) (by simp [Act.eval]) (HIH.out y2 HSZ.out hf HGR.out (.inl HSC.out) _ _ w5 (fun q e=>e.elim (fun e=>Nat.lt_of_lt_of_le (HBQ.out q e) (Nat.le_trans HB3.out.size hb5.size)) (fun e=>e.2)) (HTB.out.below (HP1'.out.2.trans ((HB3.out.trans (hb5.mono HB3.out.size)).mono HP1'.out.2.size))) hp5) ?_;rintro r w6 hp6;obtain ⟨t6,u6,q6⟩:=hp6.1.iface;subst q6;have r0:=(hp6.2.cell (p:=⟨g1,0,none⟩) (Nat.lt_of_lt_of_le hgl (Nat.le_trans HB3.out.size hb5.size))).trans s0;have r1:=(hp6.2.cell (p:=⟨g1,1,none⟩) (Nat.lt_of_lt_of_le hgl (Nat.le_trans HB3.out.size hb5.size))).trans s1;have r3:=(hp6.2.cell (p:=⟨w.heap.size,3,none⟩) (Nat.lt_of_lt_of_le hz1 (Nat.le_trans HB3.out.size hb5.size))).trans s3))
  all_goals
   have hz3:=HB3.out.size
   have hz5:=hb5.size
   have hzp:=HP1'.out.2.size
   have hz6:=hp6.2.size
   have HR:Hid (AnPost B w (Fd.fold O f y2) (.iface t6 u6) w6):=hide ⟨Fd.Pt.go hp6.1 (fun q e=>by
    rcases e with ((e | e) | e) | e
    ·exact .inl e
    ·exact .inr ⟨e.1,by omega⟩
    ·exact .inr ⟨by omega,by omega⟩
    ·exact .inr ⟨by omega,e.2⟩) (fun _ _=>rfl),HP1'.out.2.trans ((HB3.out.trans ((hb5.mono HB3.out.size).trans (hp6.2.mono (Nat.le_trans HB3.out.size hb5.size)))).mono hzp)⟩
   clear hp6 hp5 hb5
   go_wp2
   go_ret
   exact ⟨_,rfl,by rw [HFR.out];exact HR.out⟩
 ·rw [decide_eq_false hc]
  have HFR:=hide (HF.out.trans (if_neg hc))
  have HR:=hide (HP1'.out.below HB.out HB3.out)
  clear hc HLT HF HGL HGK HL' HK' HV0 HV1
  go_wp2
  go_ret
  exact ⟨_,rfl,by rw [HFR.out];exact HR.out⟩
end Go.Proofs.YthbojbbmpcmoaaaGreatDoor
