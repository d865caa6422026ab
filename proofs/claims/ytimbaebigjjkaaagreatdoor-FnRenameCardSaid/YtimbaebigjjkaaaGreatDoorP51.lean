/- Rq, Rv. -/
import Derived.Test.YtimbaebigjjkaaaGreatDoorP46
import Derived.Test.YtimbaebigjjkaaaGreatDoorP48
import Derived.Test.YtimbaebigjjkaaaGreatDoorP49
import Derived.Test.YtimbaebigjjkaaaGreatDoorP27
import Derived.Test.YtimbaebigjjkaaaGreatDoorP24
import Derived.Deep.CutRange
namespace Go.Proofs.YtimbaebigjjkaaaGreatDoor
open Go.RowKit
theorem QT (at_:Int) (nm:ByteArray):Xq [] at_ nm=([],1):=by unfold Xq;rw [QB];rfl
theorem Tr.locals_none:Y9 []=[]:=by unfold Y9;rw [QB];rfl
theorem QG:∀ (l:List Tr.Nd) (i:Nat),(XB l i).length≤l.length
 | [],_=>Nat.le_refl _
 | d :: r,i=>by
  have:=QG r (i+1)
  rw [XB,List.length_append,List.length_cons]
  split <;> simp <;> omega
theorem Tr.locals_count (l:List Tr.Nd):(Y9 l).length≤l.length:=by
 unfold Y9
 split
 ·exact QG l 0
 ·exact Nat.zero_le _
theorem Tr.locals_small (l:List Tr.Nd):∀ x∈Y9 l,x < l.length:=by
 intro x hx
 unfold Y9 at hx
 split at hx
 ·have:=(KF l 0 x).1 hx;omega
 ·cases hx
def U4 (w:World) (r:List Tr.Nd × Int) (e:Ending) (w':World):Prop:=∃ v,e = .returned (.tuple #[.agg #[v],.int .i64 r.2])∧w'.ownsRow 0 35 5 v r.1.length (X2 r.1)∧Below w.heap.size w w'
set_option maxRecDepth 100000 in
set_option maxHeartbeats 1000000 in
theorem rename_nil (at_:Int) (nm:ByteArray) (w:World):Calls Tryz.prog 6 #[.agg #[.slice none 0 0],.int .i64 at_,.string nm] w fun e w'=>U4 w ([],1) e w':=by
 have r2:Below w.heap.size w ((w.alloc (.cells #[.slice none 0 0] 25)).alloc (.cells #[.slice none 0 0] 25)):=(bA _).alloc (by simp) _
 obtain ⟨x0,x1,x2⟩:=two_box w (.slice none 0 0)
 have HFT:=X1 (fits_nil ((w.alloc (.cells #[.slice none 0 0] 25)).alloc (.cells #[.slice none 0 0] 25)))
 have HX1:=X1 x1
 have HX2:=X1 x2
 clear x0 x1 x2
 go_enter Tryz.func6,Tryz.ntmps6
 go_wp2_with fail
 refine HFT.o.mono ?_
 rintro e w1 ⟨rfl,a⟩
 rw [World.size_alloc,World.size_alloc] at a
 have hB1:=r2.trans (a.mono (by omega))
 have y1:=(a.cell (p:=⟨w.heap.size+1,0,none⟩) (show w.heap.size+1 < w.heap.size+1+1 by omega)).trans HX1.o
 have y2:=(a.frozen (p:=⟨w.heap.size+1,0,none⟩) (show w.heap.size+1 < w.heap.size+1+1 by omega)).trans HX2.o
 clear a
 go_wp2
 refine bodyPost_ret (v:= .tuple #[.agg #[.slice none 0 0],.int .i64 1]) (by simp [results,Tryz.results6,go_sem,y1]) rfl ⟨_,rfl,World.ownsRow_nil _ _ _ _,?_⟩
 exact hB1.setCell (p:=⟨w.heap.size+1,0,none⟩) (by simp) _
set_option maxRecDepth 100000 in
set_option maxHeartbeats 1000000 in
theorem irename_nil (at_:Int) (nm:ByteArray) (w:World):Calls Tryz.prog 5 #[.agg #[.slice none 0 0],.int .i64 at_,.string nm] w fun e w'=>U4 w ([],1) e w':=by
 have r2:Below w.heap.size w ((w.alloc (.cells #[.slice none 0 0] 25)).alloc (.cells #[.slice none 0 0] 25)):=(bA _).alloc (by simp) _
 obtain ⟨x0,x1,x2⟩:=two_box w (.slice none 0 0)
 have HFT:=X1 (icheck_nil ((w.alloc (.cells #[.slice none 0 0] 25)).alloc (.cells #[.slice none 0 0] 25)))
 have HX1:=X1 x1
 have HX2:=X1 x2
 clear x0 x1 x2
 go_enter Tryz.func5,Tryz.ntmps5
 go_wp2_with fail
 refine HFT.o.mono ?_
 rintro e w1 ⟨rfl,a⟩
 rw [World.size_alloc,World.size_alloc] at a
 have hB1:=r2.trans (a.mono (by omega))
 have y1:=(a.cell (p:=⟨w.heap.size+1,0,none⟩) (show w.heap.size+1 < w.heap.size+1+1 by omega)).trans HX1.o
 have y2:=(a.frozen (p:=⟨w.heap.size+1,0,none⟩) (show w.heap.size+1 < w.heap.size+1+1 by omega)).trans HX2.o
 clear a
 go_wp2
 refine bodyPost_ret (v:= .tuple #[.agg #[.slice none 0 0],.int .i64 1]) (by simp [results,Tryz.results5,go_sem,y1]) rfl ⟨_,rfl,World.ownsRow_nil _ _ _ _,?_⟩
 exact hB1.setCell (p:=⟨w.heap.size+1,0,none⟩) (by simp) _
set_option maxRecDepth 100000 in
set_option maxHeartbeats 1000000 in
theorem locals_nil (w:World):Calls Tryz.prog 13 #[.agg #[.slice none 0 0]] w fun e w'=>∃ v,e = .returned v∧w'.ownsRow w.heap.size 3 1 v 0 []∧Below w.heap.size w w':=by
 have r2:Below w.heap.size w ((w.alloc (.cells #[.slice none 0 0] 25)).alloc (.cells #[] 3)):=(bA _).alloc (by simp) _
 have a0:((w.alloc (.cells #[.slice none 0 0] 25)).alloc (.cells #[] 3)).ownsRow (w.heap.size+1) 3 1 (.slice (some ⟨w.heap.size+1,0,none⟩) 0 0) 0 []:=by
  have:=World.ownsRow_lit (base:=w.heap.size+1) (e:=3) (size:=1) (w.alloc (.cells #[.slice none 0 0] 25)) #[] 0 (by simp) (Nat.zero_le _) rfl
  rwa [World.size_alloc] at this
 have HFT:=X1 (fits_nil ((w.alloc (.cells #[.slice none 0 0] 25)).alloc (.cells #[] 3)))
 go_enter Tryz.func13,Tryz.ntmps13
 go_wp2_with fail
 refine HFT.o.mono ?_
 rintro e w1 ⟨rfl,hb1⟩
 have hB1:=r2.trans (hb1.mono r2.size)
 go_wp2
 go_ret
 exact ⟨_,rfl,ZE (Y5 a0 (hb1.block _ (by simp))) (by omega),hB1⟩
theorem RowN.row {w:World} {B:Nat} {v:Value} {l:List Tr.Nd} (h:RowN w B v l):w.ownsRow 0 35 5 v l.length (X2 l):=by
 rcases h with ⟨rfl,rfl⟩ | ⟨g,c,_,_,h⟩
 ·exact World.ownsRow_nil _ _ _ _
 ·exact h
theorem renameV (v:Value) (l:List Tr.Nd) (at_:Int) (nm:ByteArray) (w:World) (h:NR w v l) (hl:l.length≤1048576):Calls Tryz.prog 6 #[.agg #[v],.int .i64 at_,.string nm] w fun e w'=>U4 w (Xq l at_ nm) e w':=by
 rcases h.cases with ⟨rfl,rfl⟩ | ⟨g,c,rfl,hn⟩
 ·rw [QT];exact rename_nil at_ nm w
 ·refine (rename_any l g c at_ nm w hl hn).mono ?_
  rintro e w' ⟨v,rfl,hr,hb⟩
  exact ⟨v,rfl,hr.row,hb⟩
theorem irenameV (v:Value) (l:List Tr.Nd) (at_:Int) (nm:ByteArray) (w:World) (h:NR w v l) (hl:l.length≤1048576) (hnm:nm.size≤1048576) (hwf:(Lit.int .i64 at_).wf=true) (hG:GlobB w):Calls Tryz.prog 5 #[.agg #[v],.int .i64 at_,.string nm] w fun e w'=>U4 w (Xq l at_ nm) e w':=by
 have hs:=sh_big h.2
 rcases h.cases with ⟨rfl,rfl⟩ | ⟨g,c,rfl,hn⟩
 ·rw [QT];exact irename_nil at_ nm w
 ·refine (irename_any l g c at_ nm w hl hs hnm hwf hG hn).mono ?_
  rintro e w' ⟨v,rfl,hr,hb⟩
  exact ⟨v,rfl,hr.row,hb⟩
theorem localsV (v:Value) (l:List Tr.Nd) (w:World) (h:NR w v l) (hl:l.length≤1048576):Calls Tryz.prog 13 #[.agg #[v]] w fun e w'=>∃ v',e = .returned v'∧w'.ownsRow w.heap.size 3 1 v' (Y9 l).length ((Y9 l).map vint)∧Below w.heap.size w w':=by
 rcases h.cases with ⟨rfl,rfl⟩ | ⟨g,c,rfl,hn⟩
 ·rw [Tr.locals_none];exact locals_nil w
 ·refine (locals_any l g c w hl hn).mono ?_
  rintro e w' ⟨g',c',rfl,_,hr,hb⟩
  exact ⟨_,rfl,hr,hb⟩
set_option maxRecDepth 100000 in
set_option maxHeartbeats 2000000 in
theorem wTree_same (pa pb:Option Addr) (ca cb:Nat) (l:List Tr.Nd) (w:World) (ha:NR w (.slice pa l.length ca) l) (hb:NR w (.slice pb l.length cb) l) (hl:l.length≤1048576):Calls Tryz.prog 7 #[.agg #[.slice pa l.length ca],.agg #[.slice pb l.length cb]] w fun e w'=>e = .returned (.bool true)∧Below w.heap.size w w':=by
 have r2:Below w.heap.size w ((w.alloc (.cells #[.slice pa l.length ca] 25)).alloc (.cells #[.slice pb l.length cb] 25)):=(bA _).alloc (by simp) _
 have x0:((w.alloc (.cells #[.slice pa l.length ca] 25)).alloc (.cells #[.slice pb l.length cb] 25)).cell? ⟨w.heap.size,0,none⟩=some (.slice pa l.length ca):=by
  have hq:=(Below.refl (w.heap.size+1) (w.alloc (.cells #[.slice pa l.length ca] 25))).alloc (by simp) (.cells #[.slice pb l.length cb] 25)
  exact (hq.cell (p:=⟨w.heap.size,0,none⟩) (Nat.lt_succ_self _)).trans (by simp)
 have x1:((w.alloc (.cells #[.slice pa l.length ca] 25)).alloc (.cells #[.slice pb l.length cb] 25)).cell? ⟨w.heap.size+1,0,none⟩=some (.slice pb l.length cb):=by
  have:=cell_new (w.alloc (.cells #[.slice pa l.length ca] 25)) (.slice pb l.length cb) 25
  rw [World.size_alloc] at this
  exact this.1
 have HA:=X1 (ha.cases)
 have HB:=X1 (hb.cases)
 clear ha hb
 have hsz:((w.alloc (.cells #[.slice pa l.length ca] 25)).alloc (.cells #[.slice pb l.length cb] 25)).heap.size=w.heap.size+1+1:=by simp
 go_enter Tryz.func7,Tryz.ntmps7
 go_upto_region 3 with fail
 generalize hw2:(w.alloc (.cells #[.slice pa l.length ca] 25)).alloc (.cells #[.slice pb l.length cb] 25)=w2 at *
 clear hw2
 go_wp2_with fail
 go_loopw [5] (fun t wr=>∃ i:Nat,i≤l.length∧t = .int .i64 (i:Int)∧Below w2.heap.size w2 wr) (fun t _=>l.length - (intOf t).toNat)
 case atStart=>exact ⟨0,Nat.zero_le _,rfl,Below.refl _ _⟩
 case round =>
  obtain ⟨i,hi,rfl,hB⟩:=hrel
  have d0:=(hB.cell (p:=⟨w.heap.size,0,none⟩) (by show w.heap.size < _;omega)).trans x0
  have a:=X1 hB
  clear hB
  by_cases hlt:i < l.length
  ·have hlti:(i:Int) < (l.length:Int):=by omega
   obtain ⟨ga,ca',hva,hna⟩:∃ g c',Value.slice pa l.length ca = .slice (some ⟨g,0,none⟩) l.length c'∧NodesAt w g l:=by
    rcases HA.o with ⟨_,h0⟩ | h1
    ·rw [h0] at hlt;cases hlt
    ·exact h1
   obtain ⟨gb,cb',hvb,hnb⟩:∃ g c',Value.slice pb l.length cb = .slice (some ⟨g,0,none⟩) l.length c'∧NodesAt w g l:=by
    rcases HB.o with ⟨_,h0⟩ | h1
    ·rw [h0] at hlt;cases hlt
    ·exact h1
   cases hva
   cases hvb
   have b:=X1 (fun q:KB wr=>(((hna.below r2).below a.o).below q.below).2 i hlt)
   have c:=X1 (fun q:KB wr=>(((hnb.below r2).below a.o).below q.below).2 i hlt)
   clear hna hnb
   haveI hne:Nonempty (KB wr):=⟨⟨_,Below.refl _ _⟩⟩
   generalize l[i]=x at *
   have e0:∀ q:KB wr,q.w.cell? ⟨w.heap.size,0,none⟩=some (.slice (some ⟨ga,0,none⟩) l.length ca):=fun q=>((a.o.trans (q.below.mono a.o.size)).cell (p:=⟨w.heap.size,0,none⟩) (by show w.heap.size < _;omega)).trans x0
   have e1:∀ q:KB wr,q.w.cell? ⟨w.heap.size+1,0,none⟩=some (.slice (some ⟨gb,0,none⟩) l.length cb):=fun q=>((a.o.trans (q.below.mono a.o.size)).cell (p:=⟨w.heap.size+1,0,none⟩) (by show w.heap.size+1 < _;omega)).trans x1
   have a0:∀ q:KB wr,q.w.cell? ⟨ga,i*5,none⟩=some (.int .i64 x.kind):=fun q=>(b.o q).1
   have a1:∀ q:KB wr,q.w.cell? ⟨ga,i*5+1,none⟩=some (.int .i64 x.op):=fun q=>(b.o q).2.1
   have a2:∀ q:KB wr,q.w.cell? ⟨ga,i*5+2,none⟩=some (.int .i64 x.n):=fun q=>(b.o q).2.2.1
   have a3:∀ q:KB wr,q.w.cell? ⟨ga,i*5+3,none⟩=some (.string x.text):=fun q=>(b.o q).2.2.2.1
   have a4:∀ q:KB wr,q.w.cell? ⟨ga,i*5+4,none⟩=some (.int .i64 x.kids):=fun q=>(b.o q).2.2.2.2
   have b0:∀ q:KB wr,q.w.cell? ⟨gb,i*5,none⟩=some (.int .i64 x.kind):=fun q=>(c.o q).1
   have b1:∀ q:KB wr,q.w.cell? ⟨gb,i*5+1,none⟩=some (.int .i64 x.op):=fun q=>(c.o q).2.1
   have b2:∀ q:KB wr,q.w.cell? ⟨gb,i*5+2,none⟩=some (.int .i64 x.n):=fun q=>(c.o q).2.2.1
   have b3:∀ q:KB wr,q.w.cell? ⟨gb,i*5+3,none⟩=some (.string x.text):=fun q=>(c.o q).2.2.2.1
   have b4:∀ q:KB wr,q.w.cell? ⟨gb,i*5+4,none⟩=some (.int .i64 x.kids):=fun q=>(c.o q).2.2.2.2
   go_wp2_with fail
   refine Yq (KB.w (w:=wr)) (by kernel_rfl) (by kernel_rfl) ⟨⟨_,below_drewN (Below.refl _ _) _⟩,rfl⟩ ?_
   repeat (go_big_quiet_step (fail))
   refine wpQuiet_nil ?_
   rintro _ ⟨q,rfl⟩
   have HQ2:=X1 (a.o.trans (q.below.mono a.o.size))
   go_wp2
   go_roundw
   case rel=>exact ⟨i+1,by omega,by go_num,HQ2.o⟩
   case measure=>simp [intOf];omega
  ·have hnl:¬ (i:Int) < (l.length:Int):=by omega
   have HBw:=X1 (r2.trans (a.o.mono r2.size))
   go_wp2
   go_ret
   exact ⟨rfl,HBw.o⟩
abbrev LA (t:Short):Array Value:=#[.string ⟨#[110,101,119,95,110,97,109,101]⟩,.string ⟨#[110,101,119,95,110,97,109,101]⟩,.string ⟨#[110,101,119,95,110,97,109,101]⟩,.string ⟨#[110,49]⟩,.string ⟨#[108,101,110]⟩,.string ⟨#[108,101,116]⟩,.string ⟨#[65]⟩,.string t.val]
abbrev LS (t:Short):Obj:= .cells (LA t) 9
def K8 (t:Short):Nat→Short
 | 0 | 1 | 2=>⟨⟨#[110,101,119,95,110,97,109,101]⟩,by exact Nat.le_of_ble_eq_true rfl⟩
 | 3=>⟨⟨#[110,49]⟩,by exact Nat.le_of_ble_eq_true rfl⟩
 | 4=>⟨⟨#[108,101,110]⟩,by exact Nat.le_of_ble_eq_true rfl⟩
 | 5=>⟨⟨#[108,101,116]⟩,by exact Nat.le_of_ble_eq_true rfl⟩
 | 6=>⟨⟨#[65]⟩,by exact Nat.le_of_ble_eq_true rfl⟩
 | _=>t
theorem KP (t:Short) (z:Nat) (h:z < 8):([.string ⟨#[110,101,119,95,110,97,109,101]⟩,.string ⟨#[110,101,119,95,110,97,109,101]⟩,.string ⟨#[110,101,119,95,110,97,109,101]⟩,.string ⟨#[110,49]⟩,.string ⟨#[108,101,110]⟩,.string ⟨#[108,101,116]⟩,.string ⟨#[65]⟩,.string t.val]:List Value)[z]?=some (.string (K8 t z).val):=by
 have hz:z=0∨z=1∨z=2∨z=3∨z=4∨z=5∨z=6∨z=7:=by omega
 rcases hz with rfl | rfl | rfl | rfl | rfl | rfl | rfl | rfl <;> rfl
theorem many30 [LB] (z:Nat) (w:World) (h:z < 2):Calls Tryz.prog 15 #[.string ⟨#[110]⟩,.int .i64 (30+(z:Int))] w fun e w'=>∃ r,e = .returned r∧∃ t:Short,r = .string t.val∧w'=w:=by
 have:=many_any ⟨#[110]⟩ (30+z) w (by omega) (by show 1*(30+z)≤1000000;omega)
 rw [show ((30+z:Nat):Int)=30+(z:Int) by omega] at this
 refine this.mono ?_
 rintro e w' ⟨t,rfl,rfl⟩
 exact ⟨_,rfl,t,rfl,rfl⟩
structure DN [LB] (rb:Nat) (vb:Value) (n:Nat) (w0:World) (rx bx:Nat) (p:Option Addr) (c:Nat) (l:List Tr.Nd) (vr:Value) (q:Nat) (w:World):Prop where
 r:Rq rb vb n q w
 tf:Tf w0 w
 nr:NR w (.slice p l.length c) l
 tb:w.heap[bx]?=some (.cells #[.slice p l.length c] 25)
 rx_:w.heap[rx]?=some (.cells #[vr] 25)
 sl:∃ p' m' c',vr = .slice p' m' c'
 nrb:rx≠rb
 lo:w0.heap.size≤rx
 ne:bx≠rx
section
variable {rb:Nat} {vb:Value} {n:Nat} {w0:World} {rx bx:Nat} {p:Option Addr} {c:Nat} {l:List Tr.Nd} {vr:Value} {q q':Nat} {w w':World}
theorem DN.ty [LB] (h:DN rb vb n w0 rx bx p c l vr q w) (ht:Ty w w') (hr:Rq rb vb n q' w'):DN rb vb n w0 rx bx p c l vr q' w' :=
 ⟨hr,h.tf.trans (Ty.tf ht),h.nr.ty ht,Ty.same ht h.tb Xv,Ty.same ht h.rx_ Xv,h.sl,h.nrb,h.lo,h.ne⟩
theorem DN.below [LB] (h:DN rb vb n w0 rx bx p c l vr q w) (hb:Below w.heap.size w w'):DN rb vb n w0 rx bx p c l vr q w' :=
 ⟨h.r.below hb,h.tf.trans (.of hb),h.nr.below hb,TyM.same h.tb hb,TyM.same h.rx_ hb,h.sl,h.nrb,h.lo,h.ne⟩
theorem DN.mono [LB] (h:DN rb vb n w0 rx bx p c l vr q w) (hq:q≤q'):DN rb vb n w0 rx bx p c l vr q' w:=by
 obtain ⟨k,hk,hr⟩:=h.r
 exact ⟨⟨k,by omega,hr⟩,h.tf,h.nr,h.tb,h.rx_,h.sl,h.nrb,h.lo,h.ne⟩
theorem DN.lt [LB] (h:DN rb vb n w0 rx bx p c l vr q w):bx < w.heap.size:=KA h.tb
theorem Rd.setX [LB] {b k:Nat} {p':Option Addr} {m' c':Nat} {t:TypeId} {v:Value} (h:Rd w rb vb n k) (hx:w.heap[b]?=some (.cells #[.slice p' m' c'] t)) (hne:b≠rb):Rd (w.setCell ⟨b,0,none⟩ v) rb vb n k:=by
 have a:∀ g o,g≠b→(w.setCell ⟨b,0,none⟩ v).cell? ⟨g,o,none⟩=w.cell? ⟨g,o,none⟩:=fun g o hg=>World.cell?_setCell_other _ _ _ _ (fun e=>hg (congrArg Addr.block e).symm)
 refine ⟨(a rb 0 (fun e=>hne e.symm)).trans h.c0,(a rb 1 (fun e=>hne e.symm)).trans h.c1,by rw [World.frozen?_setCell];exact h.f1,by rw [Ky];exact h.ty,h.lo,?_⟩
 rcases h.by_ with h | ⟨g,o,c,h1,h2,h3,h4,h6⟩
 ·exact .inl h
 ·refine .inr ⟨g,o,c,h1,h2,h3,h4,fun i hi=>?_⟩
  obtain ⟨k,hk,hc⟩:=h6 i hi
  refine ⟨k,hk,(a g (o+i) (fun e=>?_)).trans hc⟩
  subst e
  rw [World.cell?,hx] at hc
  simp only at hc
  cases hoi:o+i with
  | zero=>rw [hoi] at hc;simp at hc
  | succ z=>rw [hoi] at hc;simp at hc
theorem DN.set [LB] (h:DN rb vb n w0 rx bx p c l vr q w):DN rb vb n w0 rx bx p c l (.slice p l.length c) q (w.setCell ⟨rx,0,none⟩ (.slice p l.length c)):=by
 have hty:tyAt w rx≠some 35:=by unfold tyAt;rw [h.rx_];exact (by decide:(some 25:Option TypeId)≠some 35)
 obtain ⟨p',m',c',hvr⟩:=h.sl
 obtain ⟨k,hk,hr⟩:=h.r
 refine ⟨⟨k,hk,hr.setX (by rw [h.rx_,hvr]) h.nrb⟩,Zk h.tf h.lo,⟨Yb h.nr.1 hty,h.nr.2⟩,(Below.heap_setCell _ _ _ _ h.ne).trans h.tb,?_,⟨_,_,_,rfl⟩,h.nrb,h.lo,h.ne⟩
 rw [KN h.rx_];rfl
end
def DRk [LB] (w:World) (e:Ending) (w':World):Prop:=∃ v l,∃ (a:Int) (nm:ByteArray),e = .returned (.tuple #[.agg #[v],.int .i64 a,.string nm])∧NR w' v l∧l.length≤300000∧nm.size≤1000000∧(-1≤a∧a≤300001)∧Tf w w'
set_option maxRecDepth 100000 in
set_option maxHeartbeats 8000000 in
theorem drawRename_any [LB] (HPR:∀ rb vb n q w,Rq rb vb n q w→q≤90000000→Calls Tryz.prog 36 #[.pointer (some ⟨rb,0,none⟩)] w fun e w'=>RTk rb vb n q 250010 w e w') (HSP:∀ rb vb n,SpoilAt rb vb n) (m:Nat) (v:Value) (w:World) (h:ByV w v m) (hB:lowB≤w.heap.size):Calls Tryz.prog 4 #[v] w fun e w'=>DRk w e w':=by
 have b0:Below w.heap.size w (w.alloc (.cells #[.slice none 0 0] 25)):=bA _
 have hb:ByV (w.alloc (.cells #[.slice none 0 0] 25)) v m:=by
  rcases h with h | ⟨g,o,c,h1,h2,h3,h4,h5⟩
  ·exact .inl h
  ·refine .inr ⟨g,o,c,h1,h2,h3,Nat.lt_of_lt_of_le h4 b0.size,fun i hi=>?_⟩
   obtain ⟨k,hk,hc⟩:=h5 i hi
   exact ⟨k,hk,(b0.cell (p:=⟨g,o+i,none⟩) h4).trans hc⟩
 have HO:=X1 (open_any m v _ hb (Nat.le_trans hB b0.size))
 have HT0:Hid (Ty w (w.alloc (.cells #[.slice none 0 0] 25))):=X1 (.of b0)
 have HX0:Hid ((w.alloc (.cells #[.slice none 0 0] 25)).heap[w.heap.size]?=some (.cells #[.slice none 0 0] 25)):=X1 (Xi w _)
 have HPR:=X1 HPR
 have HSP:=X1 HSP
 clear b0 hb
 obtain ⟨vp,vl,vc,hv⟩:∃ p l c,v = .slice p l c:=by
  rcases h with ⟨q,c,h,_⟩ | ⟨g,o,c,h,_⟩
  ·exact ⟨_,_,_,h⟩
  ·exact ⟨_,_,_,h⟩
 subst hv
 clear h
 go_enter Tryz.func4,Tryz.ntmps4
 go_wp2_with fail
 refine HO.o.mono ?_
 rintro e w1 ⟨rb,vb,n,rfl,hrb,hr1,b1⟩
 have HR1:Hid (Rq rb vb n 0 w1):=X1 ⟨0,Nat.le_refl _,hr1⟩
 have HT1:=X1 (HT0.o.trans (.of b1))
 have HX1:=X1 (TyM.same HX0.o b1)
 clear hr1 b1
 go_wp2_with fail
 refine (any2_any rb vb n (HPR.o rb vb n) (HSP.o rb vb n) 0 w1 HR1.o (by omega)).mono ?_
 rintro e w2 ⟨v2,l,rfl,a5,m2,hr2,V⟩
 obtain ⟨p,c,hv2⟩:=a5.val
 subst hv2
 have b3:Below w2.heap.size w2 (w2.alloc (.cells #[.slice p l.length c] 25)):=bA _
 have U:=Tf.same V HX1.o ZO
 have N:Hid (DN rb vb n w w.heap.size w2.heap.size p c l (.slice none 0 0) _ (w2.alloc (.cells #[.slice p l.length c] 25))):=X1 ⟨hr2.below b3,((Ty.tf HT1.o).trans V).trans (.of b3),a5.below b3,Xi w2 _,TyM.same U b3,⟨_,_,_,rfl⟩,by have:=hrb;simp at this;omega,Nat.le_refl _,fun e=>by have:=KA U;omega⟩
 have J:Hid (l.length≤300000):=X1 (by omega)
 have hlm:l.length≤300000:=J.o
 have HLC:=X1 (localsV (.slice p l.length c) l _ N.o.nr (by omega))
 have o3:=(Xo N.o.tb).1
 clear a5 hr2 V b3 U HT0 HT1 HX0 HX1 HO HR1 HPR HSP
 go_upto_region 3 with fail
 generalize hw3:w2.alloc (.cells #[.slice p l.length c] 25)=w3 at *
 generalize w2.heap.size=bx at *
 clear hw3
 go_wp2_with fail
 refine HLC.o.mono ?_
 rintro e w4 ⟨vl4,rfl,A,hb4⟩
 have O:=X1 (N.o.below hb4)
 obtain ⟨pl,cl4,hvl⟩:=Xc A
 subst hvl
 have HRW:=X1 A
 have HLM:=X1 (Tr.locals_small l)
 have hls:=Tr.locals_count l
 have o4:=(Xo O.o.tb).1
 have hw2:IntKind.i64.wrap ((l.length:Int)+2)=(l.length:Int)+2:=by rw [IntKind.wrap_i64];omega
 clear A hb4 N o3 HLC
 generalize hls2:Y9 l=ls at *
 clear hls2
 go_wp2_with fail
 refine (Rq.pick O.o.r (by omega) ((l.length:Int)+2) (by omega) (by omega)).mono ?_
 rintro e w5 ⟨z1,hz1,rfl,hr5,X⟩
 have P:=X1 (O.o.ty X hr5)
 have Q:=X1 (XO HRW.o X (by unfold Mine;simp))
 have hw5:IntKind.i64.wrap ((z1:Int) - 1)=(z1:Int) - 1:=by rw [IntKind.wrap_i64];omega
 clear hr5 X O o4 HRW
 go_upto_region 5 with fail
 go_cut [29] from 22 to 47 (fun v wx=>∃ b,v = .bool b∧(b=true→0 < ls.length)∧DN rb vb n w w.heap.size bx p c l (.slice none 0 0) (250032) wx∧wx.ownsRow w3.heap.size 3 1 (.slice pl ls.length cl4) ls.length (ls.map vint))
 case first =>
  by_cases hl0:ls.length=0
  ·have hlz:¬ (0:Int) < (ls.length:Int):=by omega
   have hlz2:decide ((0:Int) < (ls.length:Int))=false:=decide_eq_false hlz
   clear hl0
   go_wp2_with fail
   go_meet
   case rel=>exact ⟨_,rfl,(fun h=>by cases h),P.o.mono (by omega),Q.o⟩
  ·have hlp:(0:Int) < (ls.length:Int):=by omega
   have hlp2:decide ((0:Int) < (ls.length:Int))=true:=decide_eq_true hlp
   go_wp2_with fail
   refine (Rq.pick P.o.r (by omega) 4 (by omega) (by omega)).mono ?_
   rintro e w6 ⟨z6,hz6,rfl,hr6,Y⟩
   have I:=X1 (P.o.ty Y hr6)
   have K:=X1 (XO Q.o Y (by unfold Mine;simp))
   clear hr6 Y
   go_wp2_with fail
   go_meet
   case rel=>exact ⟨_,rfl,(fun _=>by omega),I.o.mono (by omega),K.o⟩
 case rest =>
  obtain ⟨b,rfl,hbl,hD6,hR6⟩:=hcut
  have I:=X1 hD6
  have K:=X1 hR6
  clear hD6 hR6 P Q
  rename ∀ (a:Act) (w:World),_→_=>hKK
  refine hKK _ _ ?_
  go_cut [8] from 22 to 47 (fun v wx=>∃ a0:Int,v = .int .i64 a0∧(-1≤a0∧a0≤300001)∧DN rb vb n w w.heap.size bx p c l (.slice none 0 0) (250033) wx)
  case first =>
   cases b
   ·go_wp2_with fail
    go_meet
    case rel=>exact ⟨_,rfl,by omega,I.o.mono (by omega)⟩
   ·have hln:=hbl rfl
    obtain ⟨gl,hpl⟩:∃ gl,pl=some ⟨gl,0,none⟩:=by
     rcases K.o.2 with ⟨_,h0⟩ | ⟨g',c',_,h2,_⟩
     ·omega
     ·cases h2;exact ⟨_,rfl⟩
    subst hpl
    go_wp2_with fail
    refine (Rq.pick I.o.r (by omega) (ls.length:Int) (by omega) (by omega)).mono ?_
    rintro e w7 ⟨z7,hz7,rfl,hr7,Z⟩
    have HD7:=X1 (I.o.ty Z hr7)
    have hR7:=XO K.o Z (by unfold Mine;simp)
    have a1:z7 < ls.length:=by omega
    have c7:=XI hR7 (show (ls.map vint)[z7]?=some (.int .i64 (ls[z7]:Int)) by rw [List.getElem?_map,List.getElem?_eq_getElem a1];rfl)
    have hsm:=HLM.o ls[z7] (List.getElem_mem a1)
    have F:=X1 (show -1≤(ls[z7]:Int)∧(ls[z7]:Int)≤300001 by omega)
    clear hsm hR7 hr7 Z
    go_wp2_with fail
    go_meet
    case rel=>exact ⟨_,rfl,F.o,HD7.o.mono (by omega)⟩
  case rest =>
   obtain ⟨a0,rfl,hat,hDS⟩:=hcut
   have F:=X1 hat
   obtain ⟨wS,hwS⟩:∃ x,x=wc:=⟨_,rfl⟩
   subst hwS
   have HDS:=X1 hDS
   clear hDS hat I K
   have BD:Below wS.heap.size wS wS.drew:=(Below.refl _ _).drew
   have H:=X1 (HDS.o.below BD)
   have o0:=(Xo H.o.tb).1
   have hx0:=H.o.lt
   clear BD
   go_wp2_with fail
   go_region_law (first
    | ((with_reducible refine Yg (wS.drew) ?_);refine XM rfl 14 (.tmp 39) (.const (.int .i64 2)) _ _ rfl (.pointer (some ⟨rb,0,none⟩)) (.int .i64 2) (by first | (simp [Act.eval];done) | simp [Act.eval,Act.put]) (by first | (simp [Act.eval];done) | simp [Act.eval,Act.put]) Tryz.f14 Tryz.func14 (by kernel_rfl) (by kernel_rfl) _ (Rq.pick_ex H.o.r (by omega) 2 (by omega) (by omega)) ?_;intro M w1 z;obtain ⟨z2,hz2,u,j,d⟩:=z;subst u;have s:=X1 (H.o.ty d j);have ow1:=(Xo s.o.tb).1;have a3:=s.o.lt;have pw1:=(Xo s.o.rx_).1;have fw1:=(Xo s.o.rx_).2;have a4:=KA s.o.rx_;have a6:=(Xo s.o.set.tb).1;have a8:=(Xo s.o.set.rx_).1;have hwz:IntKind.i64.wrap (30+(z2:Int))=30+(z2:Int):=(by rw [IntKind.wrap_i64];omega);have HM:=X1 (fun W=>many30 z2 W (by omega));clear j d)
    | ((with_reducible refine Yg (wS.drew) ?_);refine XM rfl 14 (.tmp 44) (.const (.int .i64 8)) _ _ rfl (.pointer (some ⟨rb,0,none⟩)) (.int .i64 8) (by first | (simp [Act.eval];done) | simp [Act.eval,Act.put]) (by first | (simp [Act.eval];done) | simp [Act.eval,Act.put]) Tryz.f14 Tryz.func14 (by kernel_rfl) (by kernel_rfl) _ (Rq.pick_ex H.o.r (by omega) 8 (by omega) (by omega)) ?_;intro M w1 z;obtain ⟨z8,hz8,u,j,d⟩:=z;subst u;have s:=X1 (H.o.ty d j);have ow1:=(Xo s.o.tb).1;have a3:=s.o.lt;have pw1:=(Xo s.o.rx_).1;have fw1:=(Xo s.o.rx_).2;have a4:=KA s.o.rx_;have a6:=(Xo s.o.set.tb).1;have a8:=(Xo s.o.set.rx_).1;clear j d)
    | ((with_reducible refine Yg (w1) ?_);refine XM rfl 14 (.tmp 44) (.const (.int .i64 8)) _ _ rfl (.pointer (some ⟨rb,0,none⟩)) (.int .i64 8) (by first | (simp [Act.eval];done) | simp [Act.eval,Act.put]) (by first | (simp [Act.eval];done) | simp [Act.eval,Act.put]) Tryz.f14 Tryz.func14 (by kernel_rfl) (by kernel_rfl) _ (Rq.pick_ex s.o.r (by omega) 8 (by omega) (by omega)) ?_;intro M w2 z;obtain ⟨z8,hz8,u,j,d⟩:=z;subst u;have f:=X1 (s.o.ty d j);have a7:=(Xo f.o.tb).1;have B:=f.o.lt;have a9:=(Xo f.o.rx_).1;have S:=(Xo f.o.rx_).2;have C:=KA f.o.rx_;have D:=(Xo f.o.set.tb).1;have E:=(Xo f.o.set.rx_).1;have L:∀ t:Short,(w2.alloc (LS t)).cell? ⟨w2.heap.size,z8,none⟩=some (.string (K8 t z8).val):=fun t=>XI (World.ownsRow_lit (base:=0) (e:=9) (size:=1) w2 (LA t) 8 (Nat.zero_le _) (by unfold maxLen;omega) rfl) (KP t z8 (by omega));have clb:∀ t:Short,((w2.setCell ⟨w.heap.size,0,none⟩ (.slice p l.length c)).alloc (LS t)).cell? ⟨w2.heap.size,z8,none⟩=some (.string (K8 t z8).val):=fun t=>(by have:=XI (World.ownsRow_lit (base:=0) (e:=9) (size:=1) (w2.setCell ⟨w.heap.size,0,none⟩ (.slice p l.length c)) (LA t) 8 (Nat.zero_le _) (by unfold maxLen;omega) rfl) (KP t z8 (by omega));rwa [Qn] at this);have clc:∀ t:Short,(((w2.alloc (LS t)).setCell ⟨w.heap.size,0,none⟩ (.slice p l.length c))).cell? ⟨w2.heap.size,z8,none⟩=some (.string (K8 t z8).val):=fun t=>(World.cell?_setCell_other _ _ _ _ (fun e=>by have h1:=congrArg Addr.block e;simp only at h1;omega)).trans (L t);clear j d)
    | ((with_reducible refine Yg (w1) ?_);refine XM rfl 14 (.tmp 39) (.const (.int .i64 2)) _ _ rfl (.pointer (some ⟨rb,0,none⟩)) (.int .i64 2) (by first | (simp [Act.eval];done) | simp [Act.eval,Act.put]) (by first | (simp [Act.eval];done) | simp [Act.eval,Act.put]) Tryz.f14 Tryz.func14 (by kernel_rfl) (by kernel_rfl) _ (Rq.pick_ex s.o.r (by omega) 2 (by omega) (by omega)) ?_;intro M w2 z;obtain ⟨z2,hz2,u,j,d⟩:=z;subst u;have f:=X1 (s.o.ty d j);have a7:=(Xo f.o.tb).1;have B:=f.o.lt;have a9:=(Xo f.o.rx_).1;have S:=(Xo f.o.rx_).2;have C:=KA f.o.rx_;have D:=(Xo f.o.set.tb).1;have E:=(Xo f.o.set.rx_).1;have L:∀ t:Short,(w2.alloc (LS t)).cell? ⟨w2.heap.size,z8,none⟩=some (.string (K8 t z8).val):=fun t=>XI (World.ownsRow_lit (base:=0) (e:=9) (size:=1) w2 (LA t) 8 (Nat.zero_le _) (by unfold maxLen;omega) rfl) (KP t z8 (by omega));have clb:∀ t:Short,((w2.setCell ⟨w.heap.size,0,none⟩ (.slice p l.length c)).alloc (LS t)).cell? ⟨w2.heap.size,z8,none⟩=some (.string (K8 t z8).val):=fun t=>(by have:=XI (World.ownsRow_lit (base:=0) (e:=9) (size:=1) (w2.setCell ⟨w.heap.size,0,none⟩ (.slice p l.length c)) (LA t) 8 (Nat.zero_le _) (by unfold maxLen;omega) rfl) (KP t z8 (by omega));rwa [Qn] at this);have clc:∀ t:Short,(((w2.alloc (LS t)).setCell ⟨w.heap.size,0,none⟩ (.slice p l.length c))).cell? ⟨w2.heap.size,z8,none⟩=some (.string (K8 t z8).val):=fun t=>(World.cell?_setCell_other _ _ _ _ (fun e=>by have h1:=congrArg Addr.block e;simp only at h1;omega)).trans (L t);have hwz:IntKind.i64.wrap (30+(z2:Int))=30+(z2:Int):=(by rw [IntKind.wrap_i64];omega);have HM:=X1 (fun W=>many30 z2 W (by omega));clear j d)
    | ((with_reducible refine Yg ((w1.setCell ⟨w.heap.size,0,none⟩ (.slice p l.length c))) ?_);refine XM rfl 14 (.tmp 39) (.const (.int .i64 2)) _ _ rfl (.pointer (some ⟨rb,0,none⟩)) (.int .i64 2) (by first | (simp [Act.eval];done) | simp [Act.eval,Act.put]) (by first | (simp [Act.eval];done) | simp [Act.eval,Act.put]) Tryz.f14 Tryz.func14 (by kernel_rfl) (by kernel_rfl) _ (Rq.pick_ex s.o.set.r (by omega) 2 (by omega) (by omega)) ?_;intro M w2 z;obtain ⟨z2,hz2,u,j,d⟩:=z;subst u;have f:=X1 (s.o.set.ty d j);have a7:=(Xo f.o.tb).1;have B:=f.o.lt;have a9:=(Xo f.o.rx_).1;have S:=(Xo f.o.rx_).2;have C:=KA f.o.rx_;have D:=(Xo f.o.set.tb).1;have E:=(Xo f.o.set.rx_).1;have L:∀ t:Short,(w2.alloc (LS t)).cell? ⟨w2.heap.size,z8,none⟩=some (.string (K8 t z8).val):=fun t=>XI (World.ownsRow_lit (base:=0) (e:=9) (size:=1) w2 (LA t) 8 (Nat.zero_le _) (by unfold maxLen;omega) rfl) (KP t z8 (by omega));have clb:∀ t:Short,((w2.setCell ⟨w.heap.size,0,none⟩ (.slice p l.length c)).alloc (LS t)).cell? ⟨w2.heap.size,z8,none⟩=some (.string (K8 t z8).val):=fun t=>(by have:=XI (World.ownsRow_lit (base:=0) (e:=9) (size:=1) (w2.setCell ⟨w.heap.size,0,none⟩ (.slice p l.length c)) (LA t) 8 (Nat.zero_le _) (by unfold maxLen;omega) rfl) (KP t z8 (by omega));rwa [Qn] at this);have clc:∀ t:Short,(((w2.alloc (LS t)).setCell ⟨w.heap.size,0,none⟩ (.slice p l.length c))).cell? ⟨w2.heap.size,z8,none⟩=some (.string (K8 t z8).val):=fun t=>(World.cell?_setCell_other _ _ _ _ (fun e=>by have h1:=congrArg Addr.block e;simp only at h1;omega)).trans (L t);have hwz:IntKind.i64.wrap (30+(z2:Int))=30+(z2:Int):=(by rw [IntKind.wrap_i64];omega);have HM:=X1 (fun W=>many30 z2 W (by omega));clear j d)
    | ((with_reducible refine Yg (w1.alloc (LS t)) ?_);refine XM rfl 14 (.tmp 44) (.const (.int .i64 8)) _ _ rfl (.pointer (some ⟨rb,0,none⟩)) (.int .i64 8) (by first | (simp [Act.eval];done) | simp [Act.eval,Act.put]) (by first | (simp [Act.eval];done) | simp [Act.eval,Act.put]) Tryz.f14 Tryz.func14 (by kernel_rfl) (by kernel_rfl) _ (Rq.pick_ex (s.o.below (bA (LS t))).r (by omega) 8 (by omega) (by omega)) ?_;intro M w2 z;obtain ⟨z8,hz8,u,j,d⟩:=z;subst u;have f:=X1 ((s.o.below (bA (LS t))).ty d j);have a7:=(Xo f.o.tb).1;have B:=f.o.lt;have a9:=(Xo f.o.rx_).1;have S:=(Xo f.o.rx_).2;have C:=KA f.o.rx_;have D:=(Xo f.o.set.tb).1;have E:=(Xo f.o.set.rx_).1;have cld:w2.cell? ⟨w1.heap.size,z8,none⟩=some (.string (K8 t z8).val):=XI (XO (World.ownsRow_lit (base:=0) (e:=9) (size:=1) w1 (LA t) 8 (Nat.zero_le _) (by unfold maxLen;omega) rfl) d (by unfold Mine;simp)) (KP t z8 (by omega));have cle:((w2.setCell ⟨w.heap.size,0,none⟩ (.slice p l.length c))).cell? ⟨w1.heap.size,z8,none⟩=some (.string (K8 t z8).val):=(World.cell?_setCell_other _ _ _ _ (fun e=>by have h1:=congrArg Addr.block e;simp only at h1;omega)).trans cld;clear j d)
    | (refine XM rfl 15 (.const (.string ⟨#[110]⟩)) (.tmp 41) _ _ rfl (.string ⟨#[110]⟩) (.int .i64 (30+(z2:Int))) (by first | (simp [Act.eval];done) | simp [Act.eval,Act.put]) (by first | (simp [Act.eval];done) | simp [Act.eval,Act.put]) Tryz.f15 Tryz.func15 (by kernel_rfl) (by kernel_rfl) _ (HM.o _) ?_;intro vt wt ht;obtain ⟨t,hvt,a2⟩:=ht;subst hvt;have a2:=a2.symm;subst a2))
   all_goals
    first
    | (have y:=X1 (f.o.set);have fc:=(Xo y.o.rx_).1;go_wp2;exact bodyPost_ret (v:= .tuple #[.agg #[.slice p l.length c],.int .i64 a0,.string (K8 t z8).val]) (by simp [results,Tryz.results4,go_sem,fc]) rfl ⟨_,_,_,_,rfl,y.o.nr,J.o,(K8 t z8).2,F.o,y.o.tf⟩)
    | (have y:=X1 ((f.o.below (bA (LS t))).set);have fc:=(Xo y.o.rx_).1;go_wp2;exact bodyPost_ret (v:= .tuple #[.agg #[.slice p l.length c],.int .i64 a0,.string (K8 t z8).val]) (by simp [results,Tryz.results4,go_sem,fc]) rfl ⟨_,_,_,_,rfl,y.o.nr,J.o,(K8 t z8).2,F.o,y.o.tf⟩)
    | (have y:=X1 (f.o.set.below (bA (LS t)));have fc:=(Xo y.o.rx_).1;go_wp2;exact bodyPost_ret (v:= .tuple #[.agg #[.slice p l.length c],.int .i64 a0,.string (K8 t z8).val]) (by simp [results,Tryz.results4,go_sem,fc]) rfl ⟨_,_,_,_,rfl,y.o.nr,J.o,(K8 t z8).2,F.o,y.o.tf⟩)
    | (have y:=X1 (f.o.below (bA (LS t)));have fc:=(Xo y.o.rx_).1;go_wp2;exact bodyPost_ret (v:= .tuple #[.agg #[.slice p l.length c],.int .i64 a0,.string (K8 t z8).val]) (by simp [results,Tryz.results4,go_sem,fc]) rfl ⟨_,_,_,_,rfl,y.o.nr,J.o,(K8 t z8).2,F.o,y.o.tf⟩)
end Go.Proofs.YtimbaebigjjkaaaGreatDoor
