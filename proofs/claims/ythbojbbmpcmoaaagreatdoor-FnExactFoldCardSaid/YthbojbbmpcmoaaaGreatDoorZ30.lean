/- Fo7, Foa, Fob, Foc. -/
import Derived.Test.YthbojbbmpcmoaaaGreatDoorZ12
import Derived.Test.YthbojbbmpcmoaaaGreatDoorZ19
import Derived.Test.YthbojbbmpcmoaaaGreatDoorZ18
import Derived.Maps.AppendAt
import Derived.Deep.CutBlock
namespace Go.Proofs.YthbojbbmpcmoaaaGreatDoor
open Go.RowKit
theorem LnB.newD {w0 w:World} {x:Tr.Nd} {p b:Int} {bo:Nat} (hB:Below w0.heap.size w0 w) (hbo:bo=w.heap.size):LnB w0 x p b bo [] (.slice none 0 0) [] (w.alloc (lnO x (.slice none 0 0) p b)).drew:=by
 subst hbo
 exact (LnB.new hB).below (Below.refl _ _).drew
structure TkB (ns:List Tr.Nd) (ks:List (List Nat)) (B:List Int) (tg kg bg:Nat) (w:World):Prop where
 nodes:NodesAt w tg ns
 kids:KidsAt ks kg w
 len:ks.length=ns.length
 blt:bg < w.heap.size
 binds:∀ i,i < ns.length→w.cell? ⟨bg,i,none⟩=some (.int .i64 (Tr.bOf B i))
theorem TkB.below {ns:List Tr.Nd} {ks:List (List Nat)} {B:List Int} {tg kg bg:Nat} {w w':World} (h:TkB ns ks B tg kg bg w) (hb:Below w.heap.size w w'):TkB ns ks B tg kg bg w' :=
 ⟨h.nodes.below hb,h.kids.below hb,h.len,Nat.lt_of_lt_of_le h.blt hb.size,fun i hi=>(hb.cell (p:=⟨bg,i,none⟩) h.blt).trans (h.binds i hi)⟩
set_option maxRecDepth 100000 in
set_option maxHeartbeats 4000000 in
theorem take_any (ns:List Tr.Nd) (ks:List (List Nat)) (B:List Int) (tg tc kg kc bg bc:Nat) (hlt:∀ k,∀ x∈Tr.kidsOf ks k,x < k) (hkl:∀ k,(Tr.kidsOf ks k).length≤1000000):∀ (f k:Nat) (w:World),k < f→k < ns.length→TkB ns ks B tg kg bg w →
  Calls Tryz.prog 15 #[.agg #[.slice (some ⟨tg,0,none⟩) ns.length tc],.slice (some ⟨kg,0,none⟩) ns.length kc,.slice (some ⟨bg,0,none⟩) ns.length bc,.int .i64 (k:Int)] w fun e w'=>FdPost w (Fd.take ns ks B f k) e w':=by
 intro f
 induction f with
 | zero=>intro k w h;omega
 | succ f ih =>
  intro k w hk1 hk2 hT
  rw [Fd.take_succ]
  obtain ⟨iN,hN,hNz,hNs,hNb⟩:=info_parts infoLn
  have HT:=hide hT
  have hkk:k < ks.length:=by rw [hT.len];exact hk2
  have b0:Below w.heap.size w (w.alloc (.cells #[.slice (some ⟨tg,0,none⟩) ns.length tc] 28)):=bA _
  have HT0:=hide (hT.below b0)
  have HB0:=hide b0
  obtain ⟨x,hx⟩:∃ x,x=ns[k]:=⟨_,rfl⟩
  have hnd:Tr.ndOf ns k=x:=by unfold Tr.ndOf;rw [List.getElem?_eq_getElem hk2,hx];rfl
  have hki:(k:Int) < (ns.length:Int):=by omega
  obtain ⟨n0,n1,n2,n3,n4⟩:=HT0.out.nodes.2 k hk2
  rw [← hx] at n0 n1 n2 n3 n4
  have nb:=HT0.out.binds k hk2
  have t0:(w.alloc (.cells #[.slice (some ⟨tg,0,none⟩) ns.length tc] 28)).cell? ⟨w.heap.size,0,none⟩=some (.slice (some ⟨tg,0,none⟩) ns.length tc):=by simp
  rw [hnd]
  clear hT b0 hx hnd
  generalize Tr.bOf B k=b at nb
  have hkx:∀ x∈Tr.kidsOf ks k,x < k:=hlt k
  have hkz:=hkl k
  obtain ⟨kl,hklk⟩:∃ kl,kl=Tr.kidsOf ks k:=⟨_,rfl⟩
  have hke:ks[k]=kl:=by rw [hklk];unfold Tr.kidsOf;rw [List.getElem?_eq_getElem hkk];rfl
  rw [← hklk] at hkx hkz
  rw [← hklk]
  clear hklk
  go_enter Tryz.func15,Tryz.ntmps15
  go_upto_region 1 with fail
  go_cut [9] from 11 to 22 (fun v9 wx=>∃ bo,v9=pt bo∧LnB (w.alloc (.cells #[.slice (some ⟨tg,0,none⟩) ns.length tc] 28)) x k b bo [] (.slice none 0 0) [] wx)
  case first =>
   go_region_law (fail)
   all_goals
    go_wp2_with fail
    go_meet
    case rel=>exact ⟨_,rfl,LnB.newD (Below.refl _ _) (by simp)⟩
  case rest =>
   obtain ⟨bo,rfl,hln⟩:=hcut
   have HL0:=hide hln
   clear hln n0 n1 n2 n3 n4 nb t0
   generalize hw0:w.alloc (.cells #[.slice (some ⟨tg,0,none⟩) ns.length tc] 28)=w0 at *
   have HZ0:Hid (w.heap.size < w0.heap.size∧w0.cell? ⟨w.heap.size,0,none⟩=some (.slice (some ⟨tg,0,none⟩) ns.length tc)):=hide (by rw [← hw0];exact ⟨by simp,by simp⟩)
   clear hw0
   obtain ⟨kr,krc,kr1,kr2⟩:=HT0.out.kids.kids k hkk
   rw [hke] at kr1 kr2
   have HKR:=hide kr1
   have HKI:=hide kr2
   clear kr1 kr2
   go_wp2_with fail
   go_loopw [10] (fun t wr=>∃ (i:Nat) (sb:Value) (ab:List Nat),i≤kl.length∧t = .int .i64 (i:Int)∧LnB w0 x k b bo ((kl.take i).map (Fd.take ns ks B f)) sb ab wr) (fun t _=>kl.length - (intOf t).toNat)
   case atStart=>exact ⟨0,_,_,Nat.zero_le _,rfl,HL0.out⟩
   case round =>
    obtain ⟨i,sb,ab,hi,rfl,hL⟩:=hrel
    have HL:=hide hL
    have k5:=(hL.B.cell (p:=⟨kg,k,none⟩) HT0.out.kids.klt).trans HKR.out
    have t5:=(hL.B.cell (p:=⟨w.heap.size,0,none⟩) HZ0.out.1).trans HZ0.out.2
    clear hL
    by_cases hlt:i < kl.length
    ·have hlti:(i:Int) < (kl.length:Int):=by omega
     have ke:=(HL.out.B.cell (p:=⟨kr,0+i,none⟩) HKI.out.1).trans (HKI.out.2 i hlt)
     rw [Nat.zero_add] at ke
     have hmem:kl[i]∈kl:=List.getElem_mem _
     have hci:=hkx _ hmem
     have HK:=hide (ih kl[i] wr.drew (by omega) (by omega) ((HT0.out.below HL.out.B).below (Below.refl _ _).drew))
     generalize hcc:kl[i]=cc at *
     have b5:=HL.out.ln.c5
     obtain ⟨sbp,sbc,hsb⟩:=row_formF HL.out.row
     have hdl:((kl.take i).map (Fd.take ns ks B f)).length=i:=by rw [List.length_map,List.length_take];omega
     rw [hdl] at hsb
     subst hsb
     go_wp2_with fail
     go_region_law (first
      | (refine step_callF rfl 15 [.tmp 37,.tmp 38,.tmp 39,.tmp 46] _ rfl [.agg #[.slice (some ⟨tg,0,none⟩) ns.length tc],.slice (some ⟨kg,0,none⟩) ns.length kc,.slice (some ⟨bg,0,none⟩) ns.length bc,.int .i64 (cc:Int)] (by simp [Act.eval]) Tryz.f15 Tryz.func15 (by kernel_rfl) (by kernel_rfl) (fun r w5=>∃ a5,r=pt a5∧Fd.At (fun q=>wr.heap.size≤q∧q < w5.heap.size) w5 (Fd.take ns ks B f cc) a5∧Below wr.heap.size wr w5) (HK.out.mono (fun _ _ ⟨a5,q1,q2,q3⟩=>⟨pt a5,q1,a5,rfl,q2,drewF q3⟩)) ?_;rintro r w5 ⟨a5,rfl,hat5,hb5⟩;have q5:=(HL.out.below hb5).ln.c5;have q5a:=((HL.out.below hb5).below (bA (.cells #[pt a5] 39))).ln.c5)
      | (refine step_append_own rfl (.tmp 36) (.tmp 48) 65 rfl w0.heap.size 39 iN _ 1 8 Tryz.underlying65 hN hNz hNs hNb rfl (by decide) (.slice sbp i sbc) i (ab.map pt) (by simp [Act.eval]) (((hdl ▸ (HL.out.below hb5).row)).alloc _) ⟨w5.heap.size,0,none⟩ 1 1 [pt a5] (by simp [Act.eval]) rfl (one_new _ _ _) (by simp [Value.oneCell']) (by unfold maxLen;omega) (by omega) (by have:=(HL.out.below hb5).B.size;simp;omega) ?_;intro v6 w6 hown6 hgrow6 hnil6 hat6;obtain ⟨p6,c6,rfl⟩:=row_formF hown6;have q6:=LnB.cell6 HL.out hb5 hgrow6;have q6f:=LnB.froz6 HL.out hb5 hgrow6))
     all_goals
       have hp:=HL.out.push hb5 hat5 (hdl.symm ▸ hown6) hgrow6 hat6
       have e:(kl.take (i+1)).map (Fd.take ns ks B f)=(kl.take i).map (Fd.take ns ks B f)++[Fd.take ns ks B f cc]:=by rw [List.take_succ_eq_append_getElem hlt,List.map_append,hcc];rfl
       rw [← e] at hp
       have HP:=hide hp
       clear hp hgrow6 hown6 hat6 hnil6 hat5 hb5
       go_wp2
       go_roundw
       case rel=>exact ⟨i+1,_,_,by omega,by go_num,HP.out⟩
       case measure=>simp [intOf];omega
    ·obtain rfl:i=kl.length:=by omega
     have hL2:=HL.out
     rw [List.take_length] at hL2
     have HF:=hide hL2
     clear hL2
     go_wp2
     go_ret
     exact ⟨bo,rfl,HF.out.end_.go (fun q e=>⟨by have:=HZ0.out.1;omega,e.2⟩) (fun _ _=>rfl),HB0.out.trans (HF.out.B.mono HB0.out.size)⟩
structure RC (x:Tr.Nd):Prop where
 c:Fd.isC x
 op:x.op=0
 kids:x.kids=0
 zero:x.kind≠2→x.kind≠3→x.n=0
 text:x.kind≠4→x.text=⟨#[]⟩
def VR (w:World) (v:Value):Option Tr.Nd→Prop
 | some c=>VAt w v c∧RC c
 | none=>∃ p m c,v = .agg #[.slice p m c]∧m≠1
def Fd.okC:Option Tr.Nd→Option Tr.Nd
 | some c=>if c.kind=3∧c.n < 0 then none else some c
 | none=>none
theorem Fd.okC_some (c:Tr.Nd):Fd.okC (some c)=if c.kind=3∧c.n < 0 then none else some c:=rfl
def BackPost (w:World) (r:Option Tr.Nd) (e:Ending) (w':World):Prop:=Below w.heap.size w w'∧match Fd.okC r with
 | some c=>∃ a,e = .returned (.tuple #[pt a,.bool true])∧Fd.At (fun q=>w.heap.size≤q∧q < w'.heap.size) w' (Fd.one c) a
 | none=>∃ p,e = .returned (.tuple #[.pointer p,.bool false])
theorem one_at3 {w w2:World} (hz:w.heap.size≤w2.heap.size) (c:Tr.Nd) {bo:Nat} (hbo:bo=w2.heap.size):Fd.At (fun q=>w.heap.size≤q∧q < (w2.alloc (lnO c (.slice none 0 0) (-1) (-1))).heap.size) (w2.alloc (lnO c (.slice none 0 0) (-1) (-1))) (Fd.one c) bo:=by
 subst hbo
 exact ((LnB.new (Below.refl _ _)).end_).go (fun q e=>⟨by have:=e.1;omega,e.2⟩) (fun _ _=>rfl)
theorem one_at3d {w w2:World} (hz:w.heap.size≤w2.heap.size) (c:Tr.Nd) {bo:Nat} (hbo:bo=w2.heap.size):Fd.At (fun q=>w.heap.size≤q∧q < (w2.alloc (lnO c (.slice none 0 0) (-1) (-1))).drew.heap.size) (w2.alloc (lnO c (.slice none 0 0) (-1) (-1))).drew (Fd.one c) bo :=
 (one_at3 hz c hbo).go (fun _ e=>e) (fun _ _=>rfl)
theorem below3 (w:World) (o o2 o3:Obj):Below w.heap.size w (((w.alloc o).alloc o2).alloc o3):=((bA o).alloc (by simp) o2).alloc (by simp;omega) o3
set_option maxRecDepth 100000 in
set_option maxHeartbeats 4000000 in
theorem back_any (v:Value) (r:Option Tr.Nd) (w:World) (h:VR w v r):Calls Tryz.prog 31 #[v] w fun e w'=>BackPost w r e w':=by
 cases r with
 | none =>
  obtain ⟨p,m,c,rfl,hm⟩:=h
  have hmb:((m:Int) != 1)=true:=by simpa using (by omega:(m:Int)≠1)
  have hmn:(m == 1)=false:=by simpa using hm
  go_enter Tryz.func31,Tryz.ntmps31
  go_wp2
  refine bodyPost_ret (v:= .tuple #[.pointer none,.bool false]) (by simp [results,Tryz.results31,go_sem]) rfl ?_
  exact ⟨bA _,_,rfl⟩
 | some x =>
  obtain ⟨⟨g,c,rfl,h2,h3,h4,h5,h6⟩,hR⟩:=h
  have b0:Below w.heap.size w (w.alloc (.cells #[.slice (some ⟨g,0,none⟩) 1 c] 71)):=bA _
  have k0:=(b0.cell (p:=⟨g,0,none⟩) h2).trans h3
  have k1:=(b0.cell (p:=⟨g,1,none⟩) h2).trans h4
  have k2:=(b0.cell (p:=⟨g,2,none⟩) h2).trans h5
  have k3:=(b0.cell (p:=⟨g,3,none⟩) h2).trans h6
  have hb2:Below w.heap.size w ((w.alloc (.cells #[.slice (some ⟨g,0,none⟩) 1 c] 71)).alloc (.cells #[.int .i64 x.kind,.int .i64 x.n,.string x.text,.int .i64 0] 140)):=b0.alloc (by simp) _
  have HB2:=hide hb2
  have HRC:=hide hR
  have hk:=hR.c
  clear h2 h3 h4 h5 h6 b0 hb2 hR
  have hk4:x.kind=1∨x.kind=2∨x.kind=3∨x.kind=4:=by unfold Fd.isC at hk;omega
  have HXE:Hid (x=Fd.cn x.kind x.n x.text):=hide (by
   have h1:=HRC.out.op
   have h2:=HRC.out.kids
   obtain ⟨xk,xo,xn,xt,xd⟩:=x
   simp only at h1 h2
   subst h1 h2
   rfl)
  rcases hk4 with e1 | e2 | e3 | e4
  ·have t1:(x.kind == 1)=true:=by simpa using e1
   have hn:=HRC.out.zero (by omega) (by omega)
   have ht:=HRC.out.text (by omega)
   have hok:Fd.okC (some x)=some (Fd.cn 1 0 ⟨#[]⟩):=by rw [Fd.okC_some,if_neg (by omega),HXE.out,e1,hn,ht]
   go_enter Tryz.func31,Tryz.ntmps31
   go_wp2
   refine bodyPost_ret (v:= .tuple #[pt (w.heap.size+1+1),.bool true]) (by simp [results,Tryz.results31,go_sem]) rfl ?_
   refine ⟨below3 _ _ _ _,?_⟩
   rw [hok]
   refine ⟨_,rfl,one_at3 ?_ (Fd.cn 1 0 ⟨#[]⟩) ?_⟩
   ·rw [World.size_alloc,World.size_alloc];omega
   ·rw [World.size_alloc,World.size_alloc]
  ·have t1:(x.kind == 1)=false:=by simpa using (by omega:x.kind≠1)
   have t2:(x.kind == 2)=true:=by simpa using e2
   have ht:=HRC.out.text (by omega)
   have hok:Fd.okC (some x)=some (Fd.cn 2 x.n ⟨#[]⟩):=by
    have h0:Fd.okC (some x)=some x:=by rw [Fd.okC_some,if_neg (by omega)]
    have h1:x=Fd.cn 2 x.n ⟨#[]⟩:=by rw [← e2,← ht];exact HXE.out
    rw [h0,← h1]
   go_enter Tryz.func31,Tryz.ntmps31
   go_wp2
   refine bodyPost_ret (v:= .tuple #[pt (w.heap.size+1+1),.bool true]) (by simp [results,Tryz.results31,go_sem]) rfl ?_
   refine ⟨below3 _ _ _ _,?_⟩
   rw [hok]
   refine ⟨_,rfl,one_at3 ?_ (Fd.cn 2 x.n ⟨#[]⟩) ?_⟩
   ·rw [World.size_alloc,World.size_alloc];omega
   ·rw [World.size_alloc,World.size_alloc]
  ·have t1:(x.kind == 1)=false:=by simpa using (by omega:x.kind≠1)
   have t2:(x.kind == 2)=false:=by simpa using (by omega:x.kind≠2)
   have t3:(x.kind == 3)=true:=by simpa using e3
   have ht:=HRC.out.text (by omega)
   have H1:Hid (x=Fd.cn 3 x.n ⟨#[]⟩):=hide (by rw [← e3,← ht];exact HXE.out)
   go_enter Tryz.func31,Tryz.ntmps31
   go_wp2_with fail
   go_region_law (fail)
   all_goals
    go_wp2
    refine bodyPost_ret (v:= .tuple #[pt (w.heap.size+1+1),.bool (decide (0≤x.n))]) (by simp [results,Tryz.results31,go_sem]) rfl ?_
    refine ⟨(below3 _ _ _ _).drew,?_⟩
    by_cases hneg:x.n < 0
    ·have hok:Fd.okC (some x)=none:=by rw [Fd.okC_some,if_pos ⟨e3,hneg⟩]
     rw [hok]
     exact ⟨_,by rw [decide_eq_false (by omega)]⟩
    ·have hok:Fd.okC (some x)=some (Fd.cn 3 x.n ⟨#[]⟩):=by rw [Fd.okC_some,if_neg (fun h=>hneg h.2),← H1.out]
     rw [hok]
     refine ⟨w.heap.size+1+1,by rw [decide_eq_true (by omega)],?_⟩
     refine one_at3d ?_ (Fd.cn 3 x.n ⟨#[]⟩) ?_
     ·rw [World.size_alloc,World.size_alloc];omega
     ·rw [World.size_alloc,World.size_alloc]
  ·have t1:(x.kind == 1)=false:=by simpa using (by omega:x.kind≠1)
   have t2:(x.kind == 2)=false:=by simpa using (by omega:x.kind≠2)
   have t3:(x.kind == 3)=false:=by simpa using (by omega:x.kind≠3)
   have t4:(x.kind == 4)=true:=by simpa using e4
   have hn:=HRC.out.zero (by omega) (by omega)
   have hok:Fd.okC (some x)=some (Fd.cn 4 0 x.text):=by
    have h0:Fd.okC (some x)=some x:=by rw [Fd.okC_some,if_neg (by omega)]
    have h1:x=Fd.cn 4 0 x.text:=by rw [← e4,← hn];exact HXE.out
    rw [h0,← h1]
   go_enter Tryz.func31,Tryz.ntmps31
   go_wp2
   refine bodyPost_ret (v:= .tuple #[pt (w.heap.size+1+1),.bool true]) (by simp [results,Tryz.results31,go_sem]) rfl ?_
   refine ⟨below3 _ _ _ _,?_⟩
   rw [hok]
   refine ⟨_,rfl,one_at3 ?_ (Fd.cn 4 0 x.text) ?_⟩
   ·rw [World.size_alloc,World.size_alloc];omega
   ·rw [World.size_alloc,World.size_alloc]
def VL (B:Nat→Prop) (w:World):List Value→List Tr.Nd→Prop
 | [],cs=>cs=[]
 | v :: r,cs=>∃ c s g cc,cs=c :: s∧v = .slice (some ⟨g,0,none⟩) 1 cc∧B g∧VAt w (.agg #[v]) c∧VL B w r s
theorem VAt.of {w w':World} {g cc:Nat} {c:Tr.Nd} (h:VAt w (.agg #[.slice (some ⟨g,0,none⟩) 1 cc]) c) (hs:w.heap.size≤w'.heap.size) (hb:w'.heap[g]?=w.heap[g]?):VAt w' (.agg #[.slice (some ⟨g,0,none⟩) 1 cc]) c:=by
 obtain ⟨g',c',h1,h2,h3,h4,h5,h6⟩:=h
 cases h1
 have hc:∀ j,w'.cell? ⟨g,j,none⟩=w.cell? ⟨g,j,none⟩:=fun j=>World.cell?_of_block (w:=w) (a:=⟨g,j,none⟩) hb
 exact ⟨g,cc,rfl,Nat.lt_of_lt_of_le h2 hs,(hc 0).trans h3,(hc 1).trans h4,(hc 2).trans h5,(hc 3).trans h6⟩
theorem VL.go {B B':Nat→Prop} {w w':World} (hB:∀ q,B q→B' q) (hs:w.heap.size≤w'.heap.size) (hw:∀ q,B q→w'.heap[q]?=w.heap[q]?):∀ {xs:List Value} {cs:List Tr.Nd},VL B w xs cs→VL B' w' xs cs
 | [],_,h=>h
 | _ :: _,_,⟨c,s,g,cc,h1,h2,h3,h4,h5⟩=>⟨c,s,g,cc,h1,h2,hB g h3,by subst h2;exact h4.of hs (hw g h3),VL.go hB hs hw h5⟩
theorem VL.snoc {B:Nat→Prop} {w:World}:∀ {xs:List Value} {cs:List Tr.Nd} {g cc:Nat} {c:Tr.Nd},VL B w xs cs→B g→VAt w (.agg #[.slice (some ⟨g,0,none⟩) 1 cc]) c→VL B w (xs++[.slice (some ⟨g,0,none⟩) 1 cc]) (cs++[c])
 | [],cs,g,cc,c,h,hg,hv=>by
  have h:cs=[]:=h
  subst h
  exact ⟨c,[],g,cc,rfl,rfl,hg,hv,rfl⟩
 | _ :: _,_,_,_,_,⟨d,s,g',cc',h1,h2,h3,h4,h5⟩,hg,hv=>⟨d,_,g',cc',by rw [h1];rfl,h2,h3,h4,VL.snoc h5 hg hv⟩
theorem VL.len {B:Nat→Prop} {w:World}:∀ {xs:List Value} {cs:List Tr.Nd},VL B w xs cs→xs.length=cs.length
 | [],cs,h=>by
  have h:cs=[]:=h
  subst h
  rfl
 | _ :: _,_,⟨_,_,_,_,h1,_,_,_,h5⟩=>by rw [h1,List.length_cons,List.length_cons,VL.len h5]
theorem VL.one {B:Nat→Prop} {w:World} {xs:List Value} {c:Tr.Nd} (h:VL B w xs [c]):∃ g cc,xs=[.slice (some ⟨g,0,none⟩) 1 cc]∧VAt w (.agg #[.slice (some ⟨g,0,none⟩) 1 cc]) c:=by
 match xs,h with
 | [],h=>cases (show [c]=[] from h)
 | [v],⟨_,_,g,cc,h1,h2,_,h4,_⟩=>cases h1;subst h2;exact ⟨g,cc,rfl,h4⟩
 | _ :: _ :: _,⟨_,_,_,_,h1,_,_,_,_,_,_,_,h6,_⟩=>cases h1;cases h6
theorem VL.two {B:Nat→Prop} {w:World} {xs:List Value} {c d:Tr.Nd} (h:VL B w xs [c,d]):∃ g cc g' cc',xs=[.slice (some ⟨g,0,none⟩) 1 cc,.slice (some ⟨g',0,none⟩) 1 cc']∧VAt w (.agg #[.slice (some ⟨g,0,none⟩) 1 cc]) c∧VAt w (.agg #[.slice (some ⟨g',0,none⟩) 1 cc']) d:=by
 match xs,h with
 | [],h=>cases (show [c,d]=[] from h)
 | v :: r,⟨_,s,g,cc,h1,h2,_,h4,h5⟩ =>
  cases h1
  subst h2
  obtain ⟨g',cc',h6,h7⟩:=VL.one h5
  subst h6
  exact ⟨g,cc,g',cc',rfl,h4,h7⟩
theorem VR.below {w w':World} {v:Value} {r:Option Tr.Nd} (h:VR w v r) (hb:Below w.heap.size w w'):VR w' v r:=by
 cases r with
 | none=>exact h
 | some c=>exact ⟨h.1.below hb,h.2⟩
theorem VR.setS {w:World} {b:Nat} {v u:Value} {p0:Option Addr} {m0 c0:Nat} {r:Option Tr.Nd} (h:VR w v r) (hc:w.cell? ⟨b,0,none⟩=some (.slice p0 m0 c0)):VR (w.setCell ⟨b,0,none⟩ u) v r:=by
 cases r with
 | none=>exact h
 | some c =>
  obtain ⟨⟨g,cc,rfl,h2,h3,h4⟩,hr⟩:=h
  exact ⟨VAt.set ⟨g,cc,rfl,h2,h3,h4⟩ (fun e=>by subst e;rw [hc] at h3;cases h3),hr⟩
structure FB (w0:World) (x:Tr.Nd) (p b:Int) (bo:Nat) (done:List Fd) (sl:Value) (ad:List Nat) (vv:Value) (xs:List Value) (cs:List Tr.Nd) (w:World):Prop where
 B:Below w0.heap.size w0 w
 ge:w0.heap.size≤bo
 ln:LnAt w bo x sl p b
 row:w.ownsRow w0.heap.size 39 1 sl done.length (ad.map pt)
 kids:Fd.At.atL (fun q=>w0.heap.size≤q∧q < w.heap.size∧q≠bo∧sl.ownBlock≠some q∧vv.ownBlock≠some q) w done ad
 ne:sl.ownBlock≠some bo
 vrow:w.ownsRow w0.heap.size 71 1 vv xs.length xs
 vne:vv.ownBlock≠some bo
 vsl:∀ q,vv.ownBlock=some q→sl.ownBlock≠some q
 vals:VL (fun q=>q < w.heap.size∧q≠bo∧sl.ownBlock≠some q∧vv.ownBlock≠some q) w xs cs
section
variable {w0:World} {x:Tr.Nd} {p b:Int} {bo:Nat} {done:List Fd} {sl:Value} {ad:List Nat} {vv:Value} {xs:List Value} {cs:List Tr.Nd}
theorem FB.below {w w':World} (h:FB w0 x p b bo done sl ad vv xs cs w) (hb:Below w.heap.size w w'):FB w0 x p b bo done sl ad vv xs cs w' :=
 ⟨h.B.trans (hb.mono h.B.size),h.ge,h.ln.below hb,row_below h.row hb,Fd.atL_go (fun _ e=>⟨e.1,Nat.lt_of_lt_of_le e.2.1 hb.size,e.2.2⟩) (fun q e=>hb.block q e.2.1) h.kids,h.ne,row_below h.vrow hb,h.vne,h.vsl,h.vals.go (fun _ e=>⟨Nat.lt_of_lt_of_le e.1 hb.size,e.2⟩) hb.size (fun q e=>hb.block q e.1)⟩
theorem FB.keep6 {wr w5 w6:World} {o:Obj} (h:FB w0 x p b bo done sl ad vv xs cs wr) (hb:Below wr.heap.size wr w5) (hg:(w5.alloc o).grownBy w6 sl.ownBlock):LnAt w6 bo x sl p b:=by
 have h5:=h.below hb
 have hz:(w5.alloc o).heap.size=w5.heap.size+1:=World.size_alloc _ _
 have hl:=h5.ln.lt
 exact ((hg.block bo (by omega) (fun e=>h5.ne e.symm)).trans (((Below.refl w5.heap.size w5).alloc (Nat.le_refl _) o).block bo hl)).trans h5.ln
theorem FB.push {wr w5 w6:World} (h:FB w0 x p b bo done sl ad vv xs cs wr) {t:Fd} {a:Nat} {o:Obj} {v6:Value} (hb:Below wr.heap.size wr w5) (ht:Fd.At (fun q=>wr.heap.size≤q∧q < w5.heap.size) w5 t a)
  (hown:w6.ownsRow w0.heap.size 39 1 v6 (done.length+1) (ad.map pt++[pt a])) (hg:(w5.alloc o).grownBy w6 sl.ownBlock) (hat:v6.ownBlock=sl.ownBlock∨v6.ownBlock=some (w5.alloc o).heap.size) :
  FB w0 x p b bo (done++[t]) v6 (ad++[a]) vv xs cs (w6.setCell ⟨bo,5,none⟩ v6):=by
 have h5:=h.below hb
 have hlt:=h.ln.lt
 have hlt5:bo < w5.heap.size:=h5.ln.lt
 have hz:(w5.alloc o).heap.size=w5.heap.size+1:=World.size_alloc _ _
 have hs6:w5.heap.size+1≤w6.heap.size:=by rw [← hz];exact hg.size
 have hblk:∀ q,q < w5.heap.size→sl.ownBlock≠some q→w6.heap[q]?=w5.heap[q]?:=fun q hq hne=>(hg.block q (by omega) (fun e=>hne e.symm)).trans (((Below.refl w5.heap.size w5).alloc (Nat.le_refl _) o).block q hq)
 have hbo6:LnAt w6 bo x sl p b:=(hblk bo hlt5 h5.ne).trans h5.ln
 have hss:(w6.setCell ⟨bo,5,none⟩ v6).heap.size=w6.heap.size:=World.size_setCell _ _ _
 have hslt:∀ q,sl.ownBlock=some q→w0.heap.size≤q∧q < wr.heap.size:=fun q e=>h.row.lt q e
 have hvlt:∀ q,vv.ownBlock=some q→w0.heap.size≤q∧q < wr.heap.size:=fun q e=>h.vrow.lt q e
 have hws:=hb.size
 have hn6:∀ q,q < w5.heap.size→sl.ownBlock≠some q→v6.ownBlock≠some q:=by
  intro q h1 h2
  rcases hat with e | e
  ·rw [e];exact h2
  ·rw [e,hz];intro e2;cases e2;omega
 have hvne:v6.ownBlock≠some bo:=hn6 bo hlt5 h.ne
 have hW:∀ q,q < w5.heap.size→q≠bo→sl.ownBlock≠some q→(w6.setCell ⟨bo,5,none⟩ v6).heap[q]?=w5.heap[q]?:=fun q h1 h2 h3=>(heap_setOther h2).trans (hblk q h1 h3)
 refine ⟨?_,h.ge,hbo6.set v6,?_,?_,hvne,?_,h.vne,?_,?_⟩
 ·exact ((h5.B.alloc h5.B.size o).grown hg (by have:=h5.B.size;omega) (fun q e=>(hslt q e).1)).setCell h.ge v6
 ·rw [List.length_append,List.map_append]
  exact row_ownF hown (fun q e=>(hown.lt q e).1) (fun q e=>heap_setOther (fun e2=>hvne (e2 ▸ e)))
 ·refine Fd.atL_snoc (Fd.atL_go (fun q e=>⟨e.1,by rw [hss];have:=e.2.1;omega,e.2.2.1,hn6 q e.2.1 e.2.2.2.1,e.2.2.2.2⟩) (fun q e=>hW q e.2.1 e.2.2.1 e.2.2.2.1) h5.kids) (ht.go (fun q e=>⟨by have:=h.B.size;omega,by rw [hss];omega,?_,hn6 q e.2 ?_,?_⟩) (fun q e=>hW q e.2 ?_ ?_))
  all_goals first | (intro e2;subst e2;omega) | (intro e2;have:=(hslt q e2).2;omega) | (intro e2;have:=(hvlt q e2).2;omega)
 ·exact row_ownF h5.vrow (fun q e=>(hvlt q e).1) (fun q e=>hW q (by have:=(hvlt q e).2;omega) (fun e2=>h.vne (e2 ▸ e)) (h.vsl q e))
 ·exact fun q e=>hn6 q (by have:=(hvlt q e).2;omega) (h.vsl q e)
 ·exact h5.vals.go (fun q e=>⟨by rw [hss];have:=e.1;omega,e.2.1,hn6 q e.1 e.2.2.1,e.2.2.2⟩) (by rw [hss];omega) (fun q e=>hW q e.1 e.2.1 e.2.2.1)
theorem FB.pushV {wr w5 w6:World} (h:FB w0 x p b bo done sl ad vv xs cs wr) {c:Tr.Nd} {g cc:Nat} {o:Obj} {v6:Value} (hb:Below wr.heap.size wr w5) (hgn:wr.heap.size≤g) (hv:VAt w5 (.agg #[.slice (some ⟨g,0,none⟩) 1 cc]) c)
  (hown:w6.ownsRow w0.heap.size 71 1 v6 (xs.length+1) (xs++[.slice (some ⟨g,0,none⟩) 1 cc])) (hg:(w5.alloc o).grownBy w6 vv.ownBlock) (hat:v6.ownBlock=vv.ownBlock∨v6.ownBlock=some (w5.alloc o).heap.size) :
  FB w0 x p b bo done sl ad v6 (xs++[.slice (some ⟨g,0,none⟩) 1 cc]) (cs++[c]) w6:=by
 have h5:=h.below hb
 have hlt5:bo < w5.heap.size:=h5.ln.lt
 have hlt:=h.ln.lt
 have hz:(w5.alloc o).heap.size=w5.heap.size+1:=World.size_alloc _ _
 have hs6:w5.heap.size+1≤w6.heap.size:=by rw [← hz];exact hg.size
 have hblk:∀ q,q < w5.heap.size→vv.ownBlock≠some q→w6.heap[q]?=w5.heap[q]?:=fun q hq hne=>(hg.block q (by omega) (fun e=>hne e.symm)).trans (((Below.refl w5.heap.size w5).alloc (Nat.le_refl _) o).block q hq)
 have hslt:∀ q,sl.ownBlock=some q→w0.heap.size≤q∧q < wr.heap.size:=fun q e=>h.row.lt q e
 have hvlt:∀ q,vv.ownBlock=some q→w0.heap.size≤q∧q < wr.heap.size:=fun q e=>h.vrow.lt q e
 have hws:=hb.size
 have hvg:g < w5.heap.size:=by obtain ⟨g',c',h1,h2,_⟩:=hv;cases h1;exact h2
 have hn6:∀ q,q < w5.heap.size→vv.ownBlock≠some q→v6.ownBlock≠some q:=by
  intro q h1 h2
  rcases hat with e | e
  ·rw [e];exact h2
  ·rw [e,hz];intro e2;cases e2;omega
 have hsv:∀ q,sl.ownBlock=some q→vv.ownBlock≠some q:=fun q e e2=>h.vsl q e2 e
 refine ⟨?_,h.ge,(hblk bo hlt5 h.vne).trans h5.ln,?_,?_,h.ne,?_,hn6 bo hlt5 h.vne,?_,?_⟩
 ·exact (h5.B.alloc h5.B.size o).grown hg (by have:=h5.B.size;omega) (fun q e=>(hvlt q e).1)
 ·exact row_ownF h5.row (fun q e=>(hslt q e).1) (fun q e=>hblk q (by have:=(hslt q e).2;omega) (hsv q e))
 ·exact Fd.atL_go (fun q e=>⟨e.1,by have:=e.2.1;omega,e.2.2.1,e.2.2.2.1,hn6 q e.2.1 e.2.2.2.2⟩) (fun q e=>hblk q e.2.1 e.2.2.2.2) h5.kids
 ·rw [List.length_append];exact hown
 ·intro q e e2
  exact hn6 q (by have:=(hslt q e2).2;omega) (hsv q e2) e
 ·refine VL.snoc (h5.vals.go (fun q e=>⟨by have:=e.1;omega,e.2.1,e.2.2.1,hn6 q e.1 e.2.2.2⟩) (by omega) (fun q e=>hblk q e.1 e.2.2.2)) ⟨by omega,by omega,fun e=>by have:=(hslt g e).2;omega,hn6 g hvg (fun e=>by have:=(hvlt g e).2;omega)⟩ (hv.of (by omega) (hblk g hvg (fun e=>by have:=(hvlt g e).2;omega)))
theorem FB.end_ {w:World} (h:FB w0 x p b bo done sl ad vv xs cs w):Fd.At (fun q=>w0.heap.size≤q∧q < w.heap.size) w (.mk x p b done) bo :=
 (Fd.at_mk _ _ _ _ _ _ _).2 ⟨sl,ad,h.ln,⟨h.ge,h.ln.lt⟩,row_ownF h.row (fun _ _=>Nat.zero_le _) (fun _ _=>rfl),fun q e=>⟨(h.row.lt q e).1,(h.row.lt q e).2⟩,Fd.atL_go (fun _ e=>⟨e.1,e.2.1⟩) (fun _ _=>rfl) h.kids⟩
theorem FB.kid {w:World} (h:FB w0 x p b bo done sl ad vv xs cs w) (i:Nat) (hi:i < done.length):∃ a,w.cell? ⟨(sl.ownBlock).getD 0,i,none⟩=some (pt a)∧Fd.At (fun q=>w0.heap.size≤q∧q < w.heap.size) w done[i] a:=by
 obtain ⟨a,h1,h2⟩:=Fd.atL_get i h.kids hi
 refine ⟨a,?_,h2.go (fun _ e=>⟨e.1,e.2.1⟩) (fun _ _=>rfl)⟩
 obtain ⟨g,c,hs⟩:=row_posF h.row (by omega)
 have hr:=h.row
 rw [hs] at hr ⊢
 exact row_cellF hr (by rw [List.getElem?_map,h1];rfl)
end
structure OpsS (O:FOp):Prop where
 leaf:LeafS
 un:∀ (op:Int) (x:Tr.Nd) (v:Value) (w:World),Fd.CN x→VAt w v x→1≤op→op≤2→Calls Tryz.prog 30 #[.int .i64 op,v] w fun e w'=>∃ p m c s r,e = .returned (.tuple #[.agg #[.slice p m c],.string s])∧VR w' (.agg #[.slice p m c]) r∧Fd.okC r=O.un op x∧Below w.heap.size w w'
 bin:∀ (op:Int) (x y:Tr.Nd) (v u:Value) (w:World),Fd.CN x→Fd.CN y→VAt w v x→VAt w u y→1≤op→op≤14→Calls Tryz.prog 32 #[.int .i64 op,v,u] w fun e w'=>∃ p m c s r,e = .returned (.tuple #[.agg #[.slice p m c],.string s])∧VR w' (.agg #[.slice p m c]) r∧Fd.okC r=O.bin op x y∧Below w.heap.size w w'
abbrev csOf (l:List Fd):List Tr.Nd:=(l.map Fd.x).filter (fun c=>decide (Fd.isC c))
theorem box_new (w:World) (v:Value) (t:TypeId):(w.alloc (.cells #[v] t)).cell? ⟨w.heap.size,0,none⟩=some v∧(w.alloc (.cells #[v] t)).frozen? ⟨w.heap.size,0,none⟩=false:=by
 constructor
 ·rw [World.cell?,heap_alloc_new'];rfl
 ·rw [World.frozen?,heap_alloc_new'];simp
theorem set_same {w:World} {b:Nat} {u v:Value} (h:w.cell? ⟨b,0,none⟩=some u):(w.setCell ⟨b,0,none⟩ v).cell? ⟨b,0,none⟩=some v:=by
 simp [go_sem,h]
theorem infoVaF:(Tryz.prog.info? 71).map (fun i=>(i.zero,i.size,i.bytes))=some (some (.agg #[.slice none 0 0]),1,24):=by kernel_rfl
theorem cs_snoc (l:List Fd) (t:Fd):csOf (l++[t])=csOf l++(if Fd.isC t.x then [t.x] else []):=by
 unfold csOf
 rw [List.map_append,List.filter_append]
 by_cases h:Fd.isC t.x
 ·rw [if_pos h];simp [h]
 ·rw [if_neg h];simp [h]
theorem at_root {B:Nat→Prop} {w:World} {y:Fd} {a:Nat} (h:Fd.At B w y a):∃ sl,LnAt w a y.x sl y.p y.b∧B a:=by
 obtain ⟨x,p,b,ks⟩:=y
 obtain ⟨sl,ad,h1,h2,_⟩:=(Fd.at_mk _ _ _ _ _ _ _).1 h
 exact ⟨sl,h1,h2⟩
theorem atL_last {B:Nat→Prop} {w:World} {l:List Fd} {t:Fd} {ad:List Nat} {a:Nat} (h:Fd.At.atL B w (l++[t]) (ad++[a])) (hl:ad.length=l.length):Fd.At B w t a:=by
 obtain ⟨a',h1,h2⟩:=Fd.atL_get l.length h (by simp)
 rw [← hl,List.getElem?_concat_length] at h1
 cases h1
 simpa using h2
theorem FB.kids_last {w0:World} {x:Tr.Nd} {p b:Int} {bo:Nat} {done:List Fd} {t:Fd} {sl:Value} {ad:List Nat} {a:Nat} {vv:Value} {xs:List Value} {cs:List Tr.Nd} {w:World} (h:FB w0 x p b bo (done++[t]) sl (ad++[a]) vv xs cs w):Fd.At (fun q=>w0.heap.size≤q∧q < w.heap.size∧q≠bo∧sl.ownBlock≠some q∧vv.ownBlock≠some q) w t a:=by
 refine atL_last h.kids ?_
 have:=Fd.atL_len h.kids
 simpa using this
def FoldAt (O:FOp) (f:Nat):Prop:=∀ (y:Fd),y.size≤f→f≤1000000→Fd.Good y→∀ (a:Nat) (w:World),Fd.Is w y a→Calls Tryz.prog 14 #[pt a] w fun e w'=>FdPost w (Fd.fold O f y) e w'
end Go.Proofs.YthbojbbmpcmoaaaGreatDoor
