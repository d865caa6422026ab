/- Fp7, Fp9, Nx, Fw2, Le. -/
import Derived.Test.YthbojbbmpcmoaaaGreatDoorZ38
import Derived.Test.YthbojbbmpcmoaaaGreatDoorZ20
import Derived.Test.YthbojbbmpcmoaaaGreatDoorZ33
import Derived.Test.YthbojbbmpcmoaaaGreatDoorZ35
import Derived.Test.YthbojbbmpcmoaaaGreatDoorZ18
import Derived.Test.YthbojbbmpcmoaaaGreatDoorZ39
import Derived.Test.YthbojbbmpcmoaaaGreatDoorZ32
import Derived.Test.YthbojbbmpcmoaaaGreatDoorZ40
import Derived.Test.YthbojbbmpcmoaaaGreatDoorZ11
namespace Go.Proofs.YthbojbbmpcmoaaaGreatDoor
open Go.RowKit
theorem len_one {α:Type} {l:List α} (h:l.length=1):∃ a,l=[a]:=by
 match l,h with
 | [a],_=>exact ⟨a,rfl⟩
theorem len_two {α:Type} {l:List α} (h:l.length=2):∃ a b,l=[a,b]:=by
 match l,h with
 | [a,b],_=>exact ⟨a,b,rfl⟩
theorem len_three {α:Type} {l:List α} (h:l.length=3):∃ a b c,l=[a,b,c]:=by
 match l,h with
 | [a,b,c],_=>exact ⟨a,b,c,rfl⟩
theorem anew_all (fb:Nat):∀ f,AnewAt Fd.O fb f:=by
 intro f
 induction f with
 | zero=>intro y hy;have:=Fd.size_pos y;omega
 | succ f ih =>
  intro y hy hf hG hR B u w hB hT h
  obtain ⟨x,p,b,ks⟩:=y
  rw [Fd.size_mk] at hy
  have hs:∀ t∈ks,t.size≤f:=fun t ht=>by have:=Fd.size_mem ht;omega
  have hkl:=Fd.len_size ks
  obtain ⟨hL,hGk⟩:=(Fd.good_mk _ _ _ _).1 hG
  obtain ⟨sl,xs,hu,h2,h3,h4⟩:=(Fd.pt_mk _ _ _ _ _ _ _).1 h
  obtain ⟨sp,sc,hsl⟩:=row_formF h2
  subst hsl
  have hA:Anw Fd.O fb f B w x p b ks sp sc:=Anw.of ih (by omega) hs (by omega) hGk (hR.kids) hB hT h2 h3 h4
  obtain ⟨k,o,m,t,c0⟩:=x
  subst hu
  by_cases h6:k=6
  ·subst h6
   obtain ⟨hl1,ho⟩:=hL.un rfl
   obtain ⟨k1,rfl⟩:=len_one hl1
   exact ⟨_,_,call_anewU o m 1 t (.slice sp 1 sc) (pt fb) w,unAnew_any o m c0 t p b k1 B sp sc w hA (hGk k1 (by simp)) ho⟩
  ·by_cases h7:k=7
   ·subst h7
    obtain ⟨hl1,ho⟩:=hL.bin rfl
    obtain ⟨k1,k2,rfl⟩:=len_two hl1
    exact ⟨_,_,call_anewB o m 2 t (.slice sp 2 sc) (pt fb) w,binAnew_any o m c0 t p b k1 k2 B sp sc w hA (hGk k1 (by simp)) (hGk k2 (by simp)) ho⟩
   ·by_cases h13:k=13
    ·subst h13
     obtain ⟨k1,k2,k3,rfl⟩:=len_three (hL.choice rfl)
     exact ⟨_,_,call_anewI o m 3 t (.slice sp 3 sc) (pt fb) w,ifAnew_any Fd.fine_O o m c0 t p b k1 k2 k3 B sp sc w hA (hGk k1 (by simp))⟩
    ·by_cases h14:k=14
     ·subst h14
      obtain ⟨k1,k2,rfl⟩:=len_two (hL.bind rfl)
      exact ⟨_,_,call_anewL o m 2 t (.slice sp 2 sc) (pt fb) w,letAnew_any Fd.fine_O Fd.cs_O ih (by omega) o m c0 t p b k1 k2 B sp sc w hA (hGk k1 (by simp)) (hGk k2 (by simp)) (hR.at14 rfl) (hs k2 (by simp))⟩
     ·refine ⟨_,_,call_anewS h6 h7 h13 h14 o m ks.length t (.slice sp ks.length sc) (pt fb) w,?_⟩
      rw [Fd.fold_succ,Fd.fin_plain _ _ _ _ _ _ h6 h7 h13 h14]
      exact hA.stem w (Below.refl _ _)
theorem Fd.ptL_drop {B:Nat→Prop} {w:World}:∀ (m:Nat) {l:List Fd} {xs:List Value},Fd.Pt.ptL B w l xs→Fd.Pt.ptL B w (l.drop m) (xs.drop m)
 | 0,_,_,h=>h
 | _+1,[],xs,h=>by rw [(Fd.ptL_nil w xs).1 h];exact (Fd.ptL_nil _ _).2 rfl
 | m+1,t :: r,xs,h=>by
  obtain ⟨a,s,rfl,_,h2⟩:=(Fd.ptL_cons w t r xs).1 h
  exact Fd.ptL_drop m h2
theorem Fd.ptL_take {B:Nat→Prop} {w:World}:∀ (m:Nat) {l:List Fd} {xs:List Value},Fd.Pt.ptL B w l xs→Fd.Pt.ptL B w (l.take m) (xs.take m)
 | 0,_,_,_=>by rw [List.take_zero,List.take_zero];exact (Fd.ptL_nil _ _).2 rfl
 | _+1,[],xs,h=>by rw [(Fd.ptL_nil w xs).1 h];exact (Fd.ptL_nil _ _).2 rfl
 | m+1,t :: r,xs,h=>by
  obtain ⟨a,s,rfl,h1,h2⟩:=(Fd.ptL_cons w t r xs).1 h
  exact (Fd.ptL_cons _ _ _ _).2 ⟨a,s.take m,rfl,h1,Fd.ptL_take m h2⟩
theorem part_next {ns:List Tr.Nd} {i m k:Nat} {op:List Nat} {zs:List Value} {w wr wx w8:World} {ov v8 sm:Value} {t7:TypeId} {u7:Value}
  (hBR:Below w.heap.size w wr) (hBC:Below wr.heap.size wr wx) (hP7:Fd.Pt (fun q=>(w.heap.size+1≤q∧q < wx.heap.size)∧ov.ownBlock≠some q) wx (Fd.tk ns i) (.iface t7 u7)) (hPL:Fd.Pt.ptL (fun q=>(w.heap.size+1≤q∧q < wr.heap.size)∧ov.ownBlock≠some q) wr (op.map (Fd.tk ns)) zs) (hrow:wr.ownsRow (w.heap.size+1) 56 1 ov op.length zs) (hm:op.length=m+k) (hsm:∀ q,sm.ownBlock=some q→ov.ownBlock=some q)
  (ho:w8.ownsRow (w.heap.size+1) 56 1 v8 (m+1) (zs.take m++[.iface t7 u7])) (hg:(wx.alloc (.cells #[.iface t7 u7] 56)).grownBy w8 sm.ownBlock) (hat:v8.ownBlock=sm.ownBlock∨v8.ownBlock=some (wx.heap.size+1)) :
  Below w.heap.size w w8∧w.heap.size < w8.heap.size∧w8.ownsRow (w.heap.size+1) 56 1 v8 (op.take m++[i]).length (zs.take m++[.iface t7 u7])∧Fd.Pt.ptL (fun q=>(w.heap.size+1≤q∧q < w8.heap.size)∧v8.ownBlock≠some q) w8 ((op.take m++[i]).map (Fd.tk ns)) (zs.take m++[.iface t7 u7]):=by
 have hz:=hg.size
 rw [World.size_alloc] at hz
 have h1:=hBR.size
 have h2:=hBC.size
 have hkeep:∀ q,q < wx.heap.size→sm.ownBlock≠some q→w8.heap[q]?=wx.heap[q]?:=fun q a b=>(hg.block q (by rw [World.size_alloc];omega) (fun e=>b e.symm)).trans (((Below.refl wx.heap.size wx).alloc (Nat.le_refl _) _).block q a)
 have hnew:∀ q,q < wx.heap.size→sm.ownBlock≠some q→v8.ownBlock≠some q:=fun q a b e=>by
  rcases hat with e2 | e2
  ·exact b (e2 ▸ e)
  ·rw [e2] at e
   have:=Option.some.inj e
   omega
 have hns:∀ q,ov.ownBlock≠some q→sm.ownBlock≠some q:=fun q a e=>a (hsm q e)
 refine ⟨?_,by omega,?_,?_⟩
 ·exact (((hBR.trans (hBC.mono hBR.size))).alloc (by omega) _).grown hg (by rw [World.size_alloc];omega) (fun q e=>by have:=(hrow.lt q (hsm q e)).1;omega)
 ·have:(op.take m++[i]).length=m+1:=by rw [List.length_append,List.length_take,List.length_singleton,Nat.min_eq_left (by omega)]
  rw [this]
  exact ho
 ·rw [List.map_append,List.map_take]
  refine Fd.ptL_snoc ?_ ?_
  ·exact Fd.ptL_go (fun q e=>⟨⟨e.1.1,by have:=e.1.2;omega⟩,hnew q (by have:=e.1.2;omega) (hns q e.2)⟩) (fun q e=>(hkeep q (by have:=e.1.2;omega) (hns q e.2)).trans (hBC.block q e.1.2)) (Fd.ptL_take m hPL)
  ·exact Fd.Pt.go hP7 (fun q e=>⟨⟨e.1.1,by have:=e.1.2;omega⟩,hnew q e.1.2 (hns q e.2)⟩) (fun q e=>hkeep q e.1.2 (hns q e.2))
set_option maxRecDepth 100000 in
set_option maxHeartbeats 4000000 in
theorem partOf_any (ns:List Tr.Nd) (tg tc:Nat) (w:World) (hn:ns.length≤5000) (h0:1≤ns.length) (hgood:Tr.kidsGood ns=true) (ht:NodesAt w tg ns) :
  Calls Tryz.prog 23 #[.agg #[.slice (some ⟨tg,0,none⟩) ns.length tc]] w fun e w'=>∃ v,e = .returned v∧Fd.Pt (fun q=>w.heap.size≤q∧q < w'.heap.size) w' (Fd.tk ns (ns.length - 1)) v∧Below w.heap.size w w':=by
 obtain ⟨iN,hN,hNz,hNs,hNb⟩:=info_parts infoPaF
 have HT:=hide ht
 have HGD:=hide hgood
 have HB0:Hid (Below w.heap.size w (w.alloc (.cells #[.slice (some ⟨tg,0,none⟩) ns.length tc] 28))):=hide (bA _)
 have HZ0:Hid (w.heap.size < (w.alloc (.cells #[.slice (some ⟨tg,0,none⟩) ns.length tc] 28)).heap.size):=hide (by simp)
 clear ht hgood
 go_enter Tryz.func23,Tryz.ntmps23
 go_wp2_with fail
 go_loopw [3,11] (fun ov iv wr=>∃ (i:Nat) (kk:List (List Nat)) (op:List Nat) (zs:List Value),i≤ns.length∧iv = .int .i64 (i:Int)∧kk.length=i∧op.length≤i∧Tr.krun ns 0 []=(kk++(Tr.krun (ns.drop i) i op).1,(Tr.krun (ns.drop i) i op).2)∧Below w.heap.size w wr∧w.heap.size < wr.heap.size∧wr.ownsRow (w.heap.size+1) 56 1 ov op.length zs∧Fd.Pt.ptL (fun q=>(w.heap.size+1≤q∧q < wr.heap.size)∧ov.ownBlock≠some q) wr (op.map (Fd.tk ns)) zs∧(0 < i→∃ r,op=r++[i - 1])) (fun _ iv _=>ns.length - (intOf iv).toNat)
 case atStart=>exact ⟨0,[],[],[],Nat.zero_le _,rfl,rfl,Nat.le_refl _,rfl,HB0.out,HZ0.out,World.ownsRow_nil _ _ _ _,by simpa using (Fd.ptL_nil _ _).2 rfl,fun h=>absurd h (Nat.lt_irrefl _)⟩
 case round =>
  obtain ⟨i,kk,op,zs,hi,rfl,hkk,hol,he,hBr,hzr,hrow,hpl,hlast⟩:=hrel
  have HLAST:=hide hlast
  clear hlast
  have HE:=hide he
  have HBR:=hide hBr
  have HROW:=hide hrow
  have HPL:=hide hpl
  have HKL:=hide hkk
  clear he hrow hpl hkk
  obtain ⟨ovp,ovc,hov⟩:=row_formF HROW.out
  subst hov
  by_cases hlt:i < ns.length
  ·obtain ⟨b0,b1,b2,b3,b4⟩:=HT.out.2 i hlt
   have a0:=(hBr.cell (p:=⟨tg,i*5,none⟩) HT.out.1).trans b0
   have a1:=(hBr.cell (p:=⟨tg,i*5+1,none⟩) HT.out.1).trans b1
   have a2:=(hBr.cell (p:=⟨tg,i*5+2,none⟩) HT.out.1).trans b2
   have a3:=(hBr.cell (p:=⟨tg,i*5+3,none⟩) HT.out.1).trans b3
   have a4:=(hBr.cell (p:=⟨tg,i*5+4,none⟩) HT.out.1).trans b4
   have hcon:¬ (ns[i].kids < 0∨(op.length:Int) < ns[i].kids):=by
    intro hbad
    have:=(kids_end HE.out (Tr.krun_bad ns i hlt op hbad)).2
    have hg:=HGD.out
    unfold Tr.kidsGood at hg
    rw [this] at hg
    cases hg
   have HKG:=Tr.krun_good ns i hlt op
   have HXX:Hid (ns[i]=ns[i]):=hide rfl
   obtain ⟨xx,hxx⟩:∃ xx,xx=ns[i]:=⟨_,rfl⟩
   rw [← hxx] at a0 a1 a2 a3 a4 hcon HKG
   have HXX:=hide hxx
   clear hxx b0 b1 b2 b3 b4 hBr
   obtain ⟨xk,xo,xn,xt,xd⟩:=xx
   have hcon:¬ (xd < 0∨(op.length:Int) < xd):=hcon
   obtain ⟨k,rfl⟩:∃ k:Nat,xd=k:=⟨xd.toNat,by omega⟩
   obtain ⟨m,hm⟩:∃ m,op.length=m+k:=⟨op.length - k,by omega⟩
   have hKG:=HKG k m rfl hm
   have HKE:Hid (Tr.krun ns 0 []=((kk++[op.drop m])++(Tr.krun (ns.drop (i+1)) (i+1) (op.take m++[i])).1,(Tr.krun (ns.drop (i+1)) (i+1) (op.take m++[i])).2)):=hide (by rw [HE.out,hKG];simp)
   have hks:Tr.kids ns=kk++(op.drop m :: (Tr.krun (ns.drop (i+1)) (i+1) (op.take m++[i])).1):=by unfold Tr.kids;rw [HKE.out];simp
   have hil:i < (Tr.kids ns).length:=by rw [hks,List.length_append,HKL.out,List.length_cons];omega
   have hki:(Tr.kids ns)[i]=op.drop m:=by
    have h1:(Tr.kids ns)[i]?=some (op.drop m):=by rw [hks,List.getElem?_append_right (by rw [HKL.out];omega),HKL.out,Nat.sub_self];rfl
    rw [List.getElem?_eq_getElem hil] at h1
    exact Option.some.inj h1
   have HTK:Hid (Fd.tk ns i = .mk ns[i] i (Tr.bOf (Tr.bindsOf ns) i) ((op.drop m).map (Fd.tk ns))):=hide (by rw [Fd.tk_at hlt hil,hki])
   have HM:=hide hm
   have hmi:m+k≤i:=by omega
   have hzl:=Fd.ptL_len HPL.out
   rw [List.length_map] at hzl
   have HZL:Hid ((zs.drop m).length=k):=hide (by rw [List.length_drop,hzl];omega)
   have HZO:Hid (∀ u∈zs.drop m,u.oneCell'=true):=hide (fun u hu=>Fd.ptL_one HPL.out u (List.mem_of_mem_drop hu))
   have HOB:Hid (∀ q,(Value.slice ovp op.length ovc).ownBlock=some q→w.heap.size+1≤q∧q < wr.heap.size):=hide (fun q e=>HROW.out.lt q e)
   have ew:IntKind.i64.wrap (((m+k:Nat):Int) - (k:Int))=(m:Int):=by rw [IntKind.wrap_i64];omega
   have ew2:IntKind.i64.wrap ((m:Int)+(k:Int) - (k:Int))=(m:Int):=by rw [IntKind.wrap_i64];omega
   have hb1:Below wr.heap.size wr (wr.alloc (ndBox xk xo xn k xt)):=bA _
   have HB1:=hide hb1
   have HX1:=hide (heap_alloc_new' wr (ndBox xk xo xn k xt))
   have HWZ:Hid (wr.heap.size < (wr.alloc (ndBox xk xo xn k xt)).heap.size):=hide (by simp)
   have hrow2:=HROW.out
   rw [hm] at hrow2
   clear hcon HKG hKG hks hil hki HE hzl hb1 hol
   rw [hm]
   go_upto_region 6 with fail
   generalize hW1:wr.alloc (ndBox xk xo xn k xt)=W1 at *
   obtain ⟨x0,x1,x2,x3,x4⟩:=ndBox_cells HX1.out
   go_cut [7] from 20 to 25 (fun v7 wx=>∃ t7 u7,v7 = .iface t7 u7∧Fd.Pt (fun q=>(w.heap.size+1≤q∧q < wx.heap.size)∧(Value.slice ovp op.length ovc).ownBlock≠some q) wx (Fd.tk ns i) (.iface t7 u7)∧Below wr.heap.size wr wx)
   case first =>
    rcases hrow2.2 with ⟨hnil,hop0⟩ | ⟨g5,c5,cur,hsome,_⟩
    ·obtain ⟨rfl,hz,rfl⟩:ovp=none∧m+k=0∧ovc=0:=by simpa using hnil
     obtain rfl:m=0:=by omega
     obtain rfl:k=0:=by omega
     clear hnil hop0 hrow2 hW1
     have HRF:Hid (RowF W1.drew none (zs.drop 0)):=hide (.inl (List.eq_nil_of_length_eq_zero HZL.out))
     go_region_held3 (fun W=>W.cell? ⟨wr.heap.size,0,none⟩=some (.int .i64 xk)∧W.cell? ⟨wr.heap.size,1,none⟩=some (.int .i64 xo)∧W.cell? ⟨wr.heap.size,2,none⟩=some (.int .i64 xn)∧W.cell? ⟨wr.heap.size,3,none⟩=some (.string xt)∧W.cell? ⟨wr.heap.size,4,none⟩=some (.int .i64 (0:Int))) (go_keep) (first
      | (refine step_callF rfl 73 [.tmp 23] _ rfl [.slice none 0 0] (by first | (simp [Act.eval];done) | simp [Act.eval,Act.put]) Tryz.f73 Tryz.func73 (by kernel_rfl) (by kernel_rfl) (fun r w5=>∃ p5 c5,r = .slice p5 0 c5∧w5.ownsRow W1.heap.size 56 1 (.slice p5 0 c5) 0 (zs.drop 0)∧Below W1.heap.size W1 w5) ((cloneP_any (zs.drop 0) none 0 0 W1.drew HZL.out (by omega) HZO.out HRF.out).mono (fun _ _ ⟨v,y1,y2,y3⟩=>by obtain ⟨p5,c5,y4⟩:=row_formF y2;subst y4;exact ⟨_,y1,p5,c5,rfl,y2,drewF y3⟩)) ?_;rintro r w5 ⟨p5,c5,rfl,hr5,hb5⟩;obtain ⟨y0,y1,y2,y3,y4⟩:=ndBox_cells ((hb5.block wr.heap.size HWZ.out).trans HX1.out))
      | (refine step_callF rfl 72 [.tmp 20,.tmp 24] _ rfl [.agg #[.int .i64 xk,.int .i64 xo,.int .i64 xn,.string xt,.int .i64 (0:Int)],.slice p5 0 c5] (by first | (simp [Act.eval];done) | simp [Act.eval,Act.put]) Tryz.f72 Tryz.func72 (by kernel_rfl) (by kernel_rfl) (fun r w6=>r = .iface (Ip.ty xk) (.agg #[.int .i64 xk,.int .i64 xo,.int .i64 xn,.string xt,.int .i64 (0:Int),.slice p5 0 c5])∧Below w5.heap.size w5 w6) ((newPart_any xk xo xn 0 xt p5 0 c5 w5).mono (fun _ _ ⟨y1,y2⟩=>⟨_,y1,rfl,y2⟩)) ?_;rintro r w6 ⟨rfl,hb6⟩;obtain ⟨v0,v1,v2,v3,v4⟩:=ndBox_cells ((hb6.block wr.heap.size (Nat.lt_of_lt_of_le HWZ.out hb5.size)).trans ((hb5.block wr.heap.size HWZ.out).trans HX1.out))))
     all_goals
      have hz5:=hb5.size
      have hz6:=hb6.size
      have hB6:=HB1.out.trans ((hb5.trans (hb6.mono hb5.size)).mono HB1.out.size)
      have hpt:Fd.Pt (fun q=>(w.heap.size+1≤q∧q < w6.heap.size)∧(Value.slice none op.length 0).ownBlock≠some q) w6 (Fd.tk ns i) (.iface (Ip.ty xk) (.agg #[.int .i64 xk,.int .i64 xo,.int .i64 xn,.string xt,.int .i64 (0:Int),.slice p5 0 c5])):=by
       rw [HTK.out]
       have hml:((op.drop 0).map (Fd.tk ns)).length=(0:Nat):=by have h9:=HM.out;rw [List.length_map,List.length_drop];omega
       refine (Fd.pt_mk _ _ _ _ _ _ _).2 ⟨.slice p5 0 c5,zs.drop 0,by rw [hml,← HXX.out];rfl,by rw [hml];exact row_ownF (row_below hr5 hb6) (fun _ _=>Nat.zero_le _) (fun _ _=>rfl),fun q e=>?_,?_⟩
       ·have hl:=hr5.lt q e
        have hw1:=HWZ.out
        exact ⟨⟨by omega,by omega⟩,fun e2=>by have:=(HOB.out q e2).2;omega⟩
       ·rw [List.map_drop]
        exact Fd.ptL_go (fun q e=>⟨⟨e.1.1,by have:=e.1.2;have:=HWZ.out;omega⟩,e.2⟩) (fun q e=>by have h1:=e.1.2;have h2:=HWZ.out;exact (hb6.block q (by omega)).trans ((hb5.block q (by omega)).trans (HB1.out.block q h1))) (Fd.ptL_drop 0 HPL.out)
      have HPT:=hide hpt
      have HB6:=hide hB6
      clear hpt hB6 hb5 hb6 hr5
      go_wp2_with fail
      go_meet
      case rel=>exact ⟨_,_,rfl,HPT.out,HB6.out⟩
    ·obtain ⟨rfl,rfl⟩:ovp=some ⟨g5,0,none⟩∧ovc=c5:=by simpa using hsome
     have hcap:=(Vl.row_room hrow2).1
     have hg5:=hrow2.lt g5 rfl
     clear hsome hW1
     by_cases hcm:ovc=m
     ·subst hcm
      obtain rfl:k=0:=by omega
      have HRF:Hid (RowF W1.drew (some ⟨g5,0,none⟩) (zs.drop ovc)):=hide (.inl (List.eq_nil_of_length_eq_zero HZL.out))
      go_region_held3 (fun W=>W.cell? ⟨wr.heap.size,0,none⟩=some (.int .i64 xk)∧W.cell? ⟨wr.heap.size,1,none⟩=some (.int .i64 xo)∧W.cell? ⟨wr.heap.size,2,none⟩=some (.int .i64 xn)∧W.cell? ⟨wr.heap.size,3,none⟩=some (.string xt)∧W.cell? ⟨wr.heap.size,4,none⟩=some (.int .i64 (0:Int))) (go_keep) (first
       | (refine step_callF rfl 73 [.tmp 23] _ rfl [.slice (some ⟨g5,0,none⟩) 0 (ovc - ovc)] (by first | (simp [Act.eval];done) | simp [Act.eval,Act.put]) Tryz.f73 Tryz.func73 (by kernel_rfl) (by kernel_rfl) (fun r w5=>∃ p5 c5,r = .slice p5 0 c5∧w5.ownsRow W1.heap.size 56 1 (.slice p5 0 c5) 0 (zs.drop ovc)∧Below W1.heap.size W1 w5) ((cloneP_any (zs.drop ovc) (some ⟨g5,0,none⟩) 0 (ovc - ovc) W1.drew HZL.out (by omega) HZO.out HRF.out).mono (fun _ _ ⟨v,y1,y2,y3⟩=>by obtain ⟨p5,c5,y4⟩:=row_formF y2;subst y4;exact ⟨_,y1,p5,c5,rfl,y2,drewF y3⟩)) ?_;rintro r w5 ⟨p5,c5,rfl,hr5,hb5⟩;obtain ⟨y0,y1,y2,y3,y4⟩:=ndBox_cells ((hb5.block wr.heap.size HWZ.out).trans HX1.out))
       | (refine step_callF rfl 72 [.tmp 20,.tmp 24] _ rfl [.agg #[.int .i64 xk,.int .i64 xo,.int .i64 xn,.string xt,.int .i64 (0:Int)],.slice p5 0 c5] (by first | (simp [Act.eval];done) | simp [Act.eval,Act.put]) Tryz.f72 Tryz.func72 (by kernel_rfl) (by kernel_rfl) (fun r w6=>r = .iface (Ip.ty xk) (.agg #[.int .i64 xk,.int .i64 xo,.int .i64 xn,.string xt,.int .i64 (0:Int),.slice p5 0 c5])∧Below w5.heap.size w5 w6) ((newPart_any xk xo xn 0 xt p5 0 c5 w5).mono (fun _ _ ⟨y1,y2⟩=>⟨_,y1,rfl,y2⟩)) ?_;rintro r w6 ⟨rfl,hb6⟩;obtain ⟨v0,v1,v2,v3,v4⟩:=ndBox_cells ((hb6.block wr.heap.size (Nat.lt_of_lt_of_le HWZ.out hb5.size)).trans ((hb5.block wr.heap.size HWZ.out).trans HX1.out))))
      all_goals
       have hz5:=hb5.size
       have hz6:=hb6.size
       have hB6:=HB1.out.trans ((hb5.trans (hb6.mono hb5.size)).mono HB1.out.size)
       have hpt:Fd.Pt (fun q=>(w.heap.size+1≤q∧q < w6.heap.size)∧(Value.slice (some ⟨g5,0,none⟩) op.length ovc).ownBlock≠some q) w6 (Fd.tk ns i) (.iface (Ip.ty xk) (.agg #[.int .i64 xk,.int .i64 xo,.int .i64 xn,.string xt,.int .i64 (0:Int),.slice p5 0 c5])):=by
        rw [HTK.out]
        have hml:((op.drop ovc).map (Fd.tk ns)).length=(0:Nat):=by have h9:=HM.out;rw [List.length_map,List.length_drop];omega
        refine (Fd.pt_mk _ _ _ _ _ _ _).2 ⟨.slice p5 0 c5,zs.drop ovc,by rw [hml,← HXX.out];rfl,by rw [hml];exact row_ownF (row_below hr5 hb6) (fun _ _=>Nat.zero_le _) (fun _ _=>rfl),fun q e=>?_,?_⟩
        ·have hl:=hr5.lt q e
         have hw1:=HWZ.out
         exact ⟨⟨by omega,by omega⟩,fun e2=>by have:=(HOB.out q e2).2;omega⟩
        ·rw [List.map_drop]
         exact Fd.ptL_go (fun q e=>⟨⟨e.1.1,by have:=e.1.2;have:=HWZ.out;omega⟩,e.2⟩) (fun q e=>by have h1:=e.1.2;have h2:=HWZ.out;exact (hb6.block q (by omega)).trans ((hb5.block q (by omega)).trans (HB1.out.block q h1))) (Fd.ptL_drop ovc HPL.out)
       have HPT:=hide hpt
       have HB6:=hide hB6
       clear hpt hB6 hb5 hb6 hr5
       go_wp2_with fail
       go_meet
       case rel=>exact ⟨_,_,rfl,HPT.out,HB6.out⟩
     ·have hmk':(m:Int)≤(m:Int)+(k:Int):=by omega
      have HRF:Hid (RowF W1.drew (some ⟨g5,m,none⟩) (zs.drop m)):=hide (.inr ⟨g5,m,rfl,by have:=HWZ.out;show g5 < W1.heap.size;omega,fun j u hu=>by
       rw [List.getElem?_drop] at hu
       exact ((HB1.out.cell (p:=⟨g5,m+j,none⟩) hg5.2).trans (row_cellF HROW.out hu))⟩)
      go_region_held3 (fun W=>W.cell? ⟨wr.heap.size,0,none⟩=some (.int .i64 xk)∧W.cell? ⟨wr.heap.size,1,none⟩=some (.int .i64 xo)∧W.cell? ⟨wr.heap.size,2,none⟩=some (.int .i64 xn)∧W.cell? ⟨wr.heap.size,3,none⟩=some (.string xt)∧W.cell? ⟨wr.heap.size,4,none⟩=some (.int .i64 (k:Int))) (go_keep) (first
       | (refine step_callF rfl 73 [.tmp 23] _ rfl [.slice (some ⟨g5,m,none⟩) k (ovc - m)] (by first | (simp [Act.eval];done) | simp [Act.eval,Act.put]) Tryz.f73 Tryz.func73 (by kernel_rfl) (by kernel_rfl) (fun r w5=>∃ p5 c5,r = .slice p5 k c5∧w5.ownsRow W1.heap.size 56 1 (.slice p5 k c5) k (zs.drop m)∧Below W1.heap.size W1 w5) ((cloneP_any (zs.drop m) (some ⟨g5,m,none⟩) k (ovc - m) W1.drew HZL.out (by omega) HZO.out HRF.out).mono (fun _ _ ⟨v,y1,y2,y3⟩=>by obtain ⟨p5,c5,y4⟩:=row_formF y2;subst y4;exact ⟨_,y1,p5,c5,rfl,y2,drewF y3⟩)) ?_;rintro r w5 ⟨p5,c5,rfl,hr5,hb5⟩;obtain ⟨y0,y1,y2,y3,y4⟩:=ndBox_cells ((hb5.block wr.heap.size HWZ.out).trans HX1.out))
       | (refine step_callF rfl 72 [.tmp 20,.tmp 24] _ rfl [.agg #[.int .i64 xk,.int .i64 xo,.int .i64 xn,.string xt,.int .i64 (k:Int)],.slice p5 k c5] (by first | (simp [Act.eval];done) | simp [Act.eval,Act.put]) Tryz.f72 Tryz.func72 (by kernel_rfl) (by kernel_rfl) (fun r w6=>r = .iface (Ip.ty xk) (.agg #[.int .i64 xk,.int .i64 xo,.int .i64 xn,.string xt,.int .i64 (k:Int),.slice p5 k c5])∧Below w5.heap.size w5 w6) ((newPart_any xk xo xn k xt p5 k c5 w5).mono (fun _ _ ⟨y1,y2⟩=>⟨_,y1,rfl,y2⟩)) ?_;rintro r w6 ⟨rfl,hb6⟩;obtain ⟨v0,v1,v2,v3,v4⟩:=ndBox_cells ((hb6.block wr.heap.size (Nat.lt_of_lt_of_le HWZ.out hb5.size)).trans ((hb5.block wr.heap.size HWZ.out).trans HX1.out))))
      all_goals
       have hz5:=hb5.size
       have hz6:=hb6.size
       have hB6:=HB1.out.trans ((hb5.trans (hb6.mono hb5.size)).mono HB1.out.size)
       have hpt:Fd.Pt (fun q=>(w.heap.size+1≤q∧q < w6.heap.size)∧(Value.slice (some ⟨g5,0,none⟩) op.length ovc).ownBlock≠some q) w6 (Fd.tk ns i) (.iface (Ip.ty xk) (.agg #[.int .i64 xk,.int .i64 xo,.int .i64 xn,.string xt,.int .i64 (k:Int),.slice p5 k c5])):=by
        rw [HTK.out]
        have hml:((op.drop m).map (Fd.tk ns)).length=(k:Nat):=by have h9:=HM.out;rw [List.length_map,List.length_drop];omega
        refine (Fd.pt_mk _ _ _ _ _ _ _).2 ⟨.slice p5 k c5,zs.drop m,by rw [hml,← HXX.out];rfl,by rw [hml];exact row_ownF (row_below hr5 hb6) (fun _ _=>Nat.zero_le _) (fun _ _=>rfl),fun q e=>?_,?_⟩
        ·have hl:=hr5.lt q e
         have hw1:=HWZ.out
         exact ⟨⟨by omega,by omega⟩,fun e2=>by have:=(HOB.out q e2).2;omega⟩
        ·rw [List.map_drop]
         exact Fd.ptL_go (fun q e=>⟨⟨e.1.1,by have:=e.1.2;have:=HWZ.out;omega⟩,e.2⟩) (fun q e=>by have h1:=e.1.2;have h2:=HWZ.out;exact (hb6.block q (by omega)).trans ((hb5.block q (by omega)).trans (HB1.out.block q h1))) (Fd.ptL_drop m HPL.out)
       have HPT:=hide hpt
       have HB6:=hide hB6
       clear hpt hB6 hb5 hb6 hr5
       go_wp2_with fail
       go_meet
       case rel=>exact ⟨_,_,rfl,HPT.out,HB6.out⟩
   case rest =>
    obtain ⟨t7,u7,rfl,hp7,hbc⟩:=hcut
    have HP7:=hide hp7
    have HBC:=hide hbc
    have hzc:=hbc.size
    clear hp7
    rcases hrow2.2 with ⟨hnil,hop0⟩ | ⟨g5,c5,cur,hsome,_⟩
    ·obtain ⟨rfl,hz,rfl⟩:ovp=none∧m+k=0∧ovc=0:=by simpa using hnil
     obtain rfl:m=0:=by omega
     obtain rfl:k=0:=by omega
     have HRM:Hid (wc.ownsRow (w.heap.size+1) 56 1 (.slice none 0 0) 0 (zs.take 0)):=hide (World.ownsRow_nil _ _ _ _)
     clear hnil hop0 hrow2 hbc
     go_wp2_with (at_builtin;refine wpList_append_own_at _ rfl _ _ 126 rfl (w.heap.size+1) 56 iN _ 1 16 Tryz.underlying126 hN hNz hNs hNb rfl (by decide) (.slice none 0 0) 0 (zs.take 0) rfl (HRM.out.alloc _) ⟨wc.heap.size,0,none⟩ 1 1 [.iface t7 u7] rfl rfl (cell_oneF wc (.iface t7 u7) _) (by intro z hz;simp only [List.mem_cons,List.not_mem_nil,or_false] at hz;rw [hz];rfl) (by unfold maxLen;omega) (by omega) (by simp;omega) ?_)
     intro v8 w8 hown8 hgrow8 hnil8 hat8
     have HN8:=hide (part_next (i:=i) (m:=0) (k:=0) (op:=op) (zs:=zs) HBR.out HBC.out HP7.out HPL.out HROW.out HM.out (sm:= .slice none 0 0) (fun q e=>by cases e) hown8 hgrow8 hat8)
     clear hown8 hgrow8 hnil8 hat8
     go_wp2
     go_roundw
     case rel=>exact ⟨i+1,kk++[op.drop 0],op.take 0++[i],_,by omega,by go_num,by rw [List.length_append,HKL.out];rfl,by rw [List.length_append,List.length_take,List.length_singleton];omega,HKE.out,HN8.out.1,HN8.out.2.1,HN8.out.2.2.1,HN8.out.2.2.2,fun _=>⟨_,rfl⟩⟩
     case measure=>simp [intOf];omega
    ·obtain ⟨rfl,rfl⟩:ovp=some ⟨g5,0,none⟩∧ovc=c5:=by simpa using hsome
     have hcap:=(Vl.row_room hrow2).1
     have hcap2:m≤ovc:=by omega
     have hcap3:(m:Int)≤(ovc:Int):=by omega
     have hrm:=Vl.row_take (row_below hrow2 hbc) m (by omega)
     rw [Nat.mul_one] at hrm
     have HRM:=hide hrm
     clear hsome hrow2 hrm hbc
     go_wp2_with (at_builtin;refine wpList_append_own_at _ rfl _ _ 126 rfl (w.heap.size+1) 56 iN _ 1 16 Tryz.underlying126 hN hNz hNs hNb rfl (by decide) (.slice (some ⟨g5,0,none⟩) m ovc) m (zs.take m) rfl (HRM.out.alloc _) ⟨wc.heap.size,0,none⟩ 1 1 [.iface t7 u7] rfl rfl (cell_oneF wc (.iface t7 u7) _) (by intro z hz;simp only [List.mem_cons,List.not_mem_nil,or_false] at hz;rw [hz];rfl) (by unfold maxLen;omega) (by omega) (by simp;omega) ?_)
     intro v8 w8 hown8 hgrow8 hnil8 hat8
     have HN8:=hide (part_next (i:=i) (m:=m) (k:=k) (op:=op) (zs:=zs) HBR.out HBC.out HP7.out HPL.out HROW.out HM.out (sm:= .slice (some ⟨g5,0,none⟩) m ovc) (fun q e=>e) hown8 hgrow8 hat8)
     clear hown8 hgrow8 hnil8 hat8
     go_wp2
     go_roundw
     case rel=>exact ⟨i+1,kk++[op.drop m],op.take m++[i],_,by omega,by go_num,by rw [List.length_append,HKL.out];rfl,by rw [List.length_append,List.length_take,List.length_singleton];omega,HKE.out,HN8.out.1,HN8.out.2.1,HN8.out.2.2.1,HN8.out.2.2.2,fun _=>⟨_,rfl⟩⟩
     case measure=>simp [intOf];omega
  ·obtain rfl:i=ns.length:=by omega
   have hlti:¬ ((ns.length:Int) < (ns.length:Int)):=by omega
   have hk2:=(kids_end HE.out (show Tr.krun (ns.drop ns.length) ns.length op=([],some op) by rw [List.drop_length];rfl)).2
   have hop:op=[ns.length - 1]:=by
    obtain ⟨r,hr⟩:=HLAST.out (by omega)
    have hg:=HGD.out
    unfold Tr.kidsGood at hg
    rw [hk2] at hg
    have hg:op.length=1:=by simpa using hg
    rw [hr,List.length_append,List.length_singleton] at hg
    have hr0:r=[]:=List.eq_nil_of_length_eq_zero (by omega)
    rw [hr,hr0]
    rfl
   subst hop
   obtain ⟨z0,s,hz0,hp0,hs0⟩:=(Fd.ptL_cons _ _ _ _).1 HPL.out
   have hs:=(Fd.ptL_nil _ _).1 hs0
   subst hs
   subst hz0
   obtain ⟨g5,c5,hsl⟩:=row_posF HROW.out (by simp)
   cases hsl
   obtain ⟨t0,u0,hv⟩:=hp0.iface
   subst hv
   have kc:wr.cell? ⟨g5,0,none⟩=some (.iface t0 u0):=row_cellF HROW.out rfl
   have HR:Hid (Fd.Pt (fun q=>w.heap.size≤q∧q < wr.heap.size) wr (Fd.tk ns (ns.length - 1)) (.iface t0 u0)):=hide (Fd.Pt.go hp0 (fun q e=>⟨by have:=e.1.1;omega,e.1.2⟩) (fun _ _=>rfl))
   clear hp0 hs0 hk2
   go_wp2
   go_ret
   exact ⟨_,rfl,HR.out,HBR.out⟩
set_option maxRecDepth 100000 in
set_option maxHeartbeats 1000000 in
theorem icheck_any (ns:List Tr.Nd) (tg tc:Nat) (w:World) (hn:ns.length≤1048576) (hx:∀ x∈ns,x.text.size≤1048576) (hG:GlobB w) (ht:NodesAt w tg ns) :
  Calls Tryz.prog 19 #[.agg #[.slice (some ⟨tg,0,none⟩) ns.length tc]] w fun e w'=>e = .returned (.agg #[.int .i64 (Tr.checkOf ns).1,.int .i64 (Tr.checkOf ns).2])∧Below w.heap.size w w':=by
 have r2:Below w.heap.size w ((w.alloc (.cells #[.slice (some ⟨tg,0,none⟩) ns.length tc] 28)).alloc (.cells #[.int .i64 0,.int .i64 0] 47)):=(bA _).alloc (by simp) _
 have HV:=hide (ivalid_any ns tg tc _ hn hx (ht.below r2))
 rw [Tr.ivalid_eq ns] at HV
 have HT:=hide ht
 have HG:=hide hG
 have HX:=hide hx
 clear ht hG hx
 cases hv:Tr.valid ns
 ·have HC:Hid (Tr.checkOf ns=(11,0)):=hide (by unfold Tr.checkOf;rw [hv];rfl)
  rw [hv] at HV
  rw [HC.out]
  go_enter Tryz.func19,Tryz.ntmps19
  go_wp2_with fail
  refine HV.out.mono ?_
  rintro e w1 ⟨rfl,hb1⟩
  rw [World.size_alloc,World.size_alloc] at hb1
  obtain ⟨b0,b1,b2,b3,b4⟩:=boxes hb1
  have hB1:=r2.trans (hb1.mono (by omega))
  clear hb1
  go_wp2
  refine bodyPost_ret (v:= .agg #[.int .i64 11,.int .i64 0]) (by simp [results,Tryz.results19,go_sem,b1,b2]) rfl ⟨rfl,?_⟩
  exact (hB1.setCell (p:=⟨w.heap.size+1,0,none⟩) (by simp) _).setCell (p:=⟨w.heap.size+1,1,none⟩) (by simp) _
 ·obtain ⟨hn1,hn5,hgood,hlen⟩:=Tr.valid_facts hv
  have HC:=hide (Tr.ilook_eq hv).1
  rw [hv] at HV
  have HLK:=hide (fun w' (hb:Below w.heap.size w w')=>bindTree_any ns tg tc w' hn1 hn5 hgood hlen HX.out (HG.out.below hb) (HT.out.below hb))
  clear hlen
  go_enter Tryz.func19,Tryz.ntmps19
  go_wp2_with fail
  refine HV.out.mono ?_
  rintro e w1 ⟨rfl,hb1⟩
  rw [World.size_alloc,World.size_alloc] at hb1
  obtain ⟨b0,_⟩:=boxes hb1
  have hB1:=r2.trans (hb1.mono (by omega))
  have hz1:w.heap.size+1+1≤w1.heap.size:=by have:=hb1.size;simpa using this
  go_wp2_with fail
  refine (HLK.out _ hB1).mono ?_
  rintro e w2 ⟨wb,kg,kc,cg,bg,rfl,hF,hD,hcg,hbg,hb2⟩
  have hb12:=hb1.trans (hb2.mono hz1)
  have hB2:=hB1.trans (hb2.mono hB1.size)
  have hz2:w.heap.size+1+1≤w2.heap.size:=Nat.le_trans hz1 hb2.size
  have HFF:=hide (firstFault_any ns _ wb tg tc kg kc cg bg _ w2 hn5 hF hD)
  rw [show Tr.firstC (Tr.iwalk ns (Tr.kids ns) ns.length (ns.length - 1) [Tr.builtSp] (Tr.st0 ns.length)).codes 0=Tr.checkOf ns from HC.out] at HFF
  clear hF hD hb2 HV HLK
  go_wp2_with fail
  refine HFF.out.mono ?_
  rintro e w3 ⟨rfl,hb3⟩
  have hb13:=hb12.trans (hb3.mono hz2)
  obtain ⟨b0',b1,b2,b3,b4⟩:=boxes hb13
  have hB3:=hB2.trans (hb3.mono hB2.size)
  clear hb1 hb12 hb13 hb3 HFF b0
  go_wp2
  refine bodyPost_ret (v:= .agg #[.int .i64 (Tr.checkOf ns).1,.int .i64 (Tr.checkOf ns).2]) (by simp [results,Tryz.results19,go_sem,b1,b2]) rfl ⟨rfl,?_⟩
  exact (hB3.setCell (p:=⟨w.heap.size+1,0,none⟩) (by simp) _).setCell (p:=⟨w.heap.size+1,1,none⟩) (by simp) _
theorem ac_of {w:World} {g:Nat} {k n:Int} {s:ByteArray} (h:Vl.AtomsO w g 0 [⟨k,n,s,0⟩]):AC w g (Fd.cn k n s):=by
 obtain ⟨c0,c1,c2,c3⟩:=h.2 0 (by simp)
 exact ⟨h.1,by show w.cell? _=some (.int .i64 k);simpa using c0,by show w.cell? _=some (.int .i64 n);simpa using c1,by show w.cell? _=some (.string s);simpa using c2,by simpa using c3⟩
theorem vpost_of {w:World} {k n:Int} {s:ByteArray} {e:Ending} {w':World} (h:∃ g,w.heap.size≤g∧e = .returned (.agg #[.slice (some ⟨g,0,none⟩) 1 1])∧Vl.AtomsO w' g 0 [⟨k,n,s,0⟩]∧Below w.heap.size w w'):VPost w (Fd.cn k n s) e w':=by
 obtain ⟨g,h1,h2,h3,h4⟩:=h
 exact ⟨g,1,h2,h1,(ac_of h3).vat,h4⟩
set_option maxHeartbeats 400000 in
theorem none5W (w:World):Calls Tryz.prog 77 #[] w fun e w'=>∃ g,w.heap.size≤g∧e = .returned (.agg #[.slice (some ⟨g,0,none⟩) 1 1])∧Vl.AtomsO w' g 0 [⟨1,0,⟨#[]⟩,0⟩]∧Below w.heap.size w w':=by
 have HO:=hide (fun w=>Vl.one5_any ⟨1,0,⟨#[]⟩,0⟩ w)
 go_enter Tryz.func77,Tryz.ntmps77
 go_wp2_with fail
 have hq:Below w.heap.size w (w.alloc (.cells #[.slice none 0 0] 71)):=bA _
 refine (HO.out _).mono ?_
 rintro e w1 ⟨g,hg,rfl,ha,hb1⟩
 simp only [World.size_alloc] at hg
 have hn:=Vl.cell_new w (.slice none 0 0) 71
 have hx:w1.cell? ⟨w.heap.size,0,none⟩=some (.slice none 0 0):=(hb1.cell (p:=⟨w.heap.size,0,none⟩) (by simp)).trans hn.1
 have fx:w1.frozen? ⟨w.heap.size,0,none⟩=false:=(hb1.frozen (p:=⟨w.heap.size,0,none⟩) (by simp)).trans hn.2
 have hB:=hq.trans (hb1.mono hq.size)
 clear hb1 hq hn
 go_wp2
 refine bodyPost_ret (v:= .agg #[.slice (some ⟨g,0,none⟩) 1 1]) (by simp [results,Tryz.results77,go_sem,hx]) rfl ⟨g,by omega,rfl,Vl.atomsO_set ha _ (by simp;omega) _,hB.setCell (p:=⟨w.heap.size,0,none⟩) (Nat.le_refl _) _⟩
theorem leafS:LeafS:=⟨fun w=>(none5W w).mono fun _ _ h=>vpost_of h,fun b w=>(Vl.bool5_any b w).mono fun _ _ h=>vpost_of h,fun n w=>(Vl.int5_any n w).mono fun _ _ h=>vpost_of h,fun t w=>(Vl.text5_any t w).mono fun _ _ h=>vpost_of h⟩
set_option maxHeartbeats 400000 in
theorem cmp5W (l e:Bool) (w:World):Calls Tryz.prog 133 #[.bool l,.bool e] w fun en w'=>en = .returned (.int .i64 (Vl.cmpB l e))∧w'=w:=by
 cases l
 all_goals cases e
 all_goals
  go_enter Tryz.func133,Tryz.ntmps133
  go_wp2
  go_ret
  exact ⟨rfl,rfl⟩
theorem oneCellF {W:World} {g:Nat} {v:Value} {t:TypeId} (h:W.heap[g]?=some (.cells #[v] t)):W.cell? ⟨g,0,none⟩=some v:=by rw [World.cell?,h];rfl
theorem boxA_cells {W:World} {g:Nat} {x:Tr.Nd} (h:W.heap[g]?=some (.cells #[.int .i64 x.kind,.int .i64 x.n,.string x.text,.int .i64 0] 140)):W.cell? ⟨g,0,none⟩=some (.int .i64 x.kind)∧W.cell? ⟨g,1,none⟩=some (.int .i64 x.n)∧W.cell? ⟨g,2,none⟩=some (.string x.text):=by
 refine ⟨?_,?_,?_⟩ <;> (rw [World.cell?,h];rfl)
set_option maxRecDepth 100000 in
set_option maxHeartbeats 2000000 in
theorem order1 (x y:Tr.Nd) (hx:Fd.isC x) (g c g' c':Nat) (w:World) (h:AC w g x) (h':AC w g' y):Calls Tryz.prog 86 #[av g c,av g' c'] w fun e w'=>e = .returned (.int .i64 ((Fd.tn x).ord (Fd.tn y)))∧Below w.heap.size w w':=by
 have HO:=hide (Vl.T.ord_eq (Fd.tn x) (Fd.tn y))
 have hq:Below w.heap.size w ((w.alloc (.cells #[.slice (some ⟨g,0,none⟩) 1 c] 71)).alloc (.cells #[.slice (some ⟨g',0,none⟩) 1 c'] 71)):=(bA _).alloc (by simp) _
 have HQ:=hide hq
 have HL1:=hide (fun (w':World) (hb:Below w.heap.size w w')=>last1 x g c w' (h.below hb))
 have HL2:=hide (fun (w':World) (hb:Below w.heap.size w w')=>last1 y g' c' w' (h'.below hb))
 have HK1:=hide (fun (w':World) (hb:Below w.heap.size w w')=>kids1 x g c w' (h.below hb))
 have HK2:=hide (fun (w':World) (hb:Below w.heap.size w w')=>kids1 y g' c' w' (h'.below hb))
 have hb2:((w.alloc (.cells #[.slice (some ⟨g,0,none⟩) 1 c] 71)).alloc (.cells #[.slice (some ⟨g',0,none⟩) 1 c'] 71)).heap[w.heap.size]?=some (.cells #[.slice (some ⟨g,0,none⟩) 1 c] 71):=((bA (.cells #[.slice (some ⟨g',0,none⟩) 1 c'] 71)).block w.heap.size (by simp)).trans (heap_alloc_new' w _)
 have hb3:((w.alloc (.cells #[.slice (some ⟨g,0,none⟩) 1 c] 71)).alloc (.cells #[.slice (some ⟨g',0,none⟩) 1 c'] 71)).heap[w.heap.size+1]?=some (.cells #[.slice (some ⟨g',0,none⟩) 1 c'] 71):=by have:=heap_alloc_new' (w.alloc (.cells #[.slice (some ⟨g,0,none⟩) 1 c] 71)) (.cells #[.slice (some ⟨g',0,none⟩) 1 c'] 71);rw [World.size_alloc] at this;exact this
 have HZ:Hid (w.heap.size+1 < ((w.alloc (.cells #[.slice (some ⟨g,0,none⟩) 1 c] 71)).alloc (.cells #[.slice (some ⟨g',0,none⟩) 1 c'] 71)).heap.size):=hide (by simp)
 have HX2:=hide hb2
 have HX3:=hide hb3
 have hcx:x.kind=1∨x.kind=2∨x.kind=3∨x.kind=4:=by unfold Fd.isC at hx;omega
 have HCX:=hide hcx
 clear h h' hq hb2 hb3 hx hcx
 go_enter Tryz.func86,Tryz.ntmps86
 go_wp2_with fail
 refine (HL1.out _ HQ.out).mono ?_
 rintro e w1 ⟨rfl,hb1⟩
 have HB1:=hide ((HQ.out.trans (hb1.mono HQ.out.size)).alloc (Nat.le_trans HQ.out.size hb1.size) (.cells #[.int .i64 x.kind,.int .i64 x.n,.string x.text,.int .i64 0] 140))
 have hz1:=Nat.lt_of_lt_of_le HZ.out hb1.size
 have HA1:=hide (heap_alloc_new' w1 (.cells #[.int .i64 x.kind,.int .i64 x.n,.string x.text,.int .i64 0] 140))
 have hkeep:∀ q,q≤w.heap.size+1→(w1.alloc (.cells #[.int .i64 x.kind,.int .i64 x.n,.string x.text,.int .i64 0] 140)).heap[q]?=((w.alloc (.cells #[.slice (some ⟨g,0,none⟩) 1 c] 71)).alloc (.cells #[.slice (some ⟨g',0,none⟩) 1 c'] 71)).heap[q]?:=fun q hq=>(((Below.refl w1.heap.size w1).alloc (Nat.le_refl _) _).block q (by omega)).trans (hb1.block q (Nat.lt_of_le_of_lt hq HZ.out))
 have HY2:=hide ((hkeep w.heap.size (by omega)).trans HX2.out)
 have HY3:=hide ((hkeep (w.heap.size+1) (by omega)).trans HX3.out)
 have k3:=(oneCellF HY3.out)
 have HW1:Hid (w1.heap.size < (w1.alloc (.cells #[.int .i64 x.kind,.int .i64 x.n,.string x.text,.int .i64 0] 140)).heap.size):=hide (by simp)
 clear hb1 hkeep HX2 HX3
 go_wp2_with fail
 refine (HL2.out _ HB1.out).mono ?_
 rintro e w2 ⟨rfl,hb2⟩
 have HB2:=hide ((HB1.out.trans (hb2.mono HB1.out.size)).alloc (Nat.le_trans HB1.out.size hb2.size) (.cells #[.int .i64 y.kind,.int .i64 y.n,.string y.text,.int .i64 0] 140))
 have HA2:=hide (heap_alloc_new' w2 (.cells #[.int .i64 y.kind,.int .i64 y.n,.string y.text,.int .i64 0] 140))
 have hz2:=hb2.size
 have hkeep:∀ q,q≤w1.heap.size→(w2.alloc (.cells #[.int .i64 y.kind,.int .i64 y.n,.string y.text,.int .i64 0] 140)).heap[q]?=(w1.alloc (.cells #[.int .i64 x.kind,.int .i64 x.n,.string x.text,.int .i64 0] 140)).heap[q]?:=fun q hq=>(((Below.refl w2.heap.size w2).alloc (Nat.le_refl _) _).block q (by have:=HW1.out;omega)).trans (hb2.block q (Nat.lt_of_le_of_lt hq HW1.out))
 obtain ⟨p0,p1,p2⟩:=boxA_cells ((hkeep w1.heap.size (Nat.le_refl _)).trans HA1.out)
 obtain ⟨q0,q1,q2⟩:=boxA_cells HA2.out
 have k2:=oneCellF ((hkeep w.heap.size (by omega)).trans HY2.out)
 have k3:=oneCellF ((hkeep (w.heap.size+1) (by omega)).trans HY3.out)
 have HK2':=hide k2
 have HK3':=hide k3
 have hzz:w.heap.size+1 < (w2.alloc (.cells #[.int .i64 y.kind,.int .i64 y.n,.string y.text,.int .i64 0] 140)).heap.size:=by rw [World.size_alloc];have:=HW1.out;omega
 clear hb2 hkeep HA1 HA2 HY2 HY3
 have HCMP:=hide (fun l e w=>cmp5W l e w)
 have HO2:Hid ((Fd.tn x).ord (Fd.tn y)=if x.kind≠y.kind then Vl.cmpB (decide (x.kind < y.kind)) false else if x.kind=2∨x.kind=3 then Vl.cmpI x.n y.n else if x.kind=4 then Vl.cmpS x.text y.text else Vl.cmpB (decide ((0:Nat) < 0)) true):=hide (HO.out.trans rfl)
 clear HO
 have HB2':=HB2
 by_cases hk:x.kind=y.kind
 ·have hkb:(x.kind != y.kind)=false:=by simpa using hk
  rw [if_neg (fun h=>h hk)] at HO2
  rcases HCX.out with e | e | e | e
  ·have t2:(x.kind == 2)=false:=by simpa using (by omega:x.kind≠2)
   have t3:(x.kind == 3)=false:=by simpa using (by omega:x.kind≠3)
   have t4:(x.kind == 4)=false:=by simpa using (by omega:x.kind≠4)
   rw [if_neg (by omega),if_neg (by omega)] at HO2
   clear hk HCX e
   go_wp2_with fail
   refine (HK1.out _ HB2.out).mono ?_
   rintro e w3 ⟨qa,rfl,hb3⟩
   have HB3:=hide (HB2.out.trans (hb3.mono HB2.out.size))
   have k3':=(hb3.cell (p:=⟨w.heap.size+1,0,none⟩) hzz).trans HK3'.out
   clear hb3 k2 k3
   go_wp2_with fail
   refine (HK2.out _ HB3.out).mono ?_
   rintro e w4 ⟨qb,rfl,hb4⟩
   have HB4:=hide (HB3.out.trans (hb4.mono HB3.out.size))
   clear hb4 k3'
   go_wp2_with fail
   go_loopw [11] (fun v9 wr=>v9 = .int .i64 0∧Below w.heap.size w wr) (fun _ _=>0)
   case atStart=>exact ⟨rfl,HB4.out⟩
   case round =>
    obtain ⟨rfl,hb⟩:=hrel
    go_wp2_with fail
    refine (HCMP.out _ _ _).mono ?_
    rintro e w5 ⟨rfl,rfl⟩
    go_wp2
    go_ret
    exact ⟨Vl.ret_int HO2.out.symm,hb⟩
  ·have t2:(x.kind == 2)=true:=by simpa using e
   rw [if_pos (.inl e)] at HO2
   clear hk HCX e
   go_wp2_with fail
   refine (HCMP.out _ _ _).mono ?_
   rintro e w5 ⟨rfl,rfl⟩
   go_wp2
   go_ret
   exact ⟨Vl.ret_int HO2.out.symm,HB2.out⟩
  ·have t2:(x.kind == 2)=false:=by simpa using (by omega:x.kind≠2)
   have t3:(x.kind == 3)=true:=by simpa using e
   rw [if_pos (.inr e)] at HO2
   clear hk HCX e
   go_wp2_with fail
   refine (HCMP.out _ _ _).mono ?_
   rintro e w5 ⟨rfl,rfl⟩
   go_wp2
   go_ret
   exact ⟨Vl.ret_int HO2.out.symm,HB2.out⟩
  ·have t2:(x.kind == 2)=false:=by simpa using (by omega:x.kind≠2)
   have t3:(x.kind == 3)=false:=by simpa using (by omega:x.kind≠3)
   have t4:(x.kind == 4)=true:=by simpa using e
   rw [if_neg (by omega),if_pos e] at HO2
   clear hk HCX e
   go_wp2_with fail
   refine (HCMP.out _ _ _).mono ?_
   rintro e w5 ⟨rfl,rfl⟩
   go_wp2
   go_ret
   exact ⟨Vl.ret_int HO2.out.symm,HB2.out⟩
 ·have hkb:(x.kind != y.kind)=true:=by simpa using hk
  have hki:¬ (x.kind=y.kind):=hk
  rw [if_pos hk] at HO2
  clear HCX hk
  go_wp2_with fail
  refine (HCMP.out _ _ _).mono ?_
  rintro e w5 ⟨rfl,rfl⟩
  go_wp2
  go_ret
  exact ⟨Vl.ret_int HO2.out.symm,HB2.out⟩
end Go.Proofs.YthbojbbmpcmoaaaGreatDoor
namespace Go.Proofs.YthbojbbmpcmoaaaGreatDoor.Vl
open Go.RowKit
def stands (s x:ByteArray) (i:Nat):Bool:=decide (i+x.size≤s.size) && ((s.extract i (i+x.size)).toList == x.toList)
def inText (s x:ByteArray):Bool:=(List.range (s.size+1)).any (stands s x)
theorem inText_yes {s x:ByteArray} {i:Nat} (h:stands s x i=true):inText s x=true:=by
 unfold inText
 rw [List.any_eq_true]
 refine ⟨i,?_,h⟩
 unfold stands at h
 simp only [Bool.and_eq_true,decide_eq_true_eq] at h
 rw [List.mem_range];omega
theorem inText_no {s x:ByteArray} {j:Nat} (h:∀ k,k < j→stands s x k=false) (hj:¬ j+x.size≤s.size):inText s x=false:=by
 unfold inText
 rw [List.any_eq_false]
 intro k _
 by_cases hk:k < j
 ·rw [h k hk];simp
 ·unfold stands
  rw [decide_eq_false (by omega)];simp
set_option maxRecDepth 100000 in
set_option maxHeartbeats 400000 in
theorem in6_any (s x:ByteArray) (w:World) (hs:s.size≤1048576) (hx:x.size≤1048576):Calls Tryz.prog 135 #[.string s,.string x,.int .i64 0] w fun e w'=>(∃ r:Int,e = .returned (.int .i64 r)∧decide (0≤r)=inText s x)∧w'=w:=by
 go_enter Tryz.func135,Tryz.ntmps135
 go_wp2
 go_loop [7] (fun i=>∃ j:Nat,j≤s.size+1∧i = .int .i64 j∧∀ k,k < j→stands s x k=false) (fun i=>s.size+1 - (intOf i).toNat)
 case atStart=>exact ⟨0,by omega,rfl,fun k hk=>absurd hk (Nat.not_lt_zero _)⟩
 case round =>
  obtain ⟨j,hj,rfl,hno⟩:=hrel
  have HNO:=hide hno
  clear hno
  have hw:wrap64 ((j:Int)+(x.size:Int))=(j:Int)+x.size:=by unfold wrap64;omega
  by_cases hlt:j+x.size≤s.size
  ·have h1:(j:Int)+(x.size:Int)≤(s.size:Int):=by omega
   have hst:=hide (show stands s x j=((s.extract j (j+x.size)).toList == x.toList) by unfold stands;rw [decide_eq_true hlt,Bool.true_and])
   cases hq:((s.extract j (j+x.size)).toList == x.toList)
   ·rw [hq] at hst
    go_wp2
    go_round
    case rel=>exact ⟨j+1,by omega,by go_num,fun k hk=>by rcases Nat.lt_succ_iff_lt_or_eq.1 hk with h | rfl;exact HNO.out k h;exact hst.out⟩
    case measure=>simp [intOf];omega
   ·rw [hq] at hst
    go_wp2
    go_ret
    exact ⟨⟨j,rfl,by rw [inText_yes hst.out];simp⟩,rfl⟩
  ·have h1:¬ (j:Int)+(x.size:Int)≤(s.size:Int):=by omega
   have HF:=hide (inText_no HNO.out hlt)
   go_wp2
   go_ret
   exact ⟨⟨-1,rfl,by rw [HF.out];rfl⟩,rfl⟩
end Go.Proofs.YthbojbbmpcmoaaaGreatDoor.Vl
