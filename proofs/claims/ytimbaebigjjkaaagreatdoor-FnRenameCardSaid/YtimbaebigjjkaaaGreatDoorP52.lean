/- Rs. -/
import Derived.Test.YtimbaebigjjkaaaGreatDoorP51
import Derived.Test.YtimbaebigjjkaaaGreatDoorP23
import Derived.Test.YtimbaebigjjkaaaGreatDoorP24
import Derived.BigQuiet
import Derived.Deep.CutRange
namespace Go.Proofs.YtimbaebigjjkaaaGreatDoor
open Go.RowKit
theorem JO (a:Nat) (B:List Int) (nm:ByteArray):∀ (l:List Tr.Nd) (i:Nat),∀ x∈Xp a B nm l i,∃ d∈l,x.text=nm∨x.text=d.text
 | [],_,x,hx=>by cases hx
 | d :: r,i,x,hx=>by
  rw [Xp] at hx
  rcases List.mem_cons.1 hx with rfl | hx
  ·refine ⟨d,by simp,?_⟩
   unfold Y2
   split
   ·exact .inl rfl
   ·exact .inr rfl
  ·obtain ⟨e,he,h⟩:=JO a B nm r (i+1) x hx
   exact ⟨e,by simp [he],h⟩
theorem Tr.rename_short {l:List Tr.Nd} {a:Int} {nm:ByteArray} (h:Sh l) (hn:nm.size≤1000000):Sh (Xq l a nm).1:=by
 unfold Xq
 split
 ·intro x hx;cases hx
 ·split
  ·intro x hx;cases hx
  ·split
   ·intro x hx;cases hx
   ·intro x hx
    obtain ⟨d,hd,e | e⟩:=JO _ _ _ _ _ x hx
    ·rw [e];exact hn
    ·rw [e];exact h d hd
theorem Tr.rename_len {l:List Tr.Nd} {a:Int} {nm:ByteArray}:(Xq l a nm).1.length≤l.length:=by
 unfold Xq
 split
 ·exact Nat.zero_le _
 ·split
  ·exact Nat.zero_le _
  ·split
   ·exact Nat.zero_le _
   ·rw [ZT];exact Nat.le_refl _
theorem Tr.rename_parts {l:List Tr.Nd} {a:Int} {nm:ByteArray}:((Xq l a nm).2≠0∧(Xq l a nm).1=[])∨((Xq l a nm).2=0∧Xz l=true∧Y3 l a=true∧Z3 l nm=true∧(Xq l a nm).1=Xp a.toNat (Xe l) nm l 0):=by
 unfold Xq
 cases hf:Xz l
 ·exact .inl ⟨by simp,rfl⟩
 ·cases hp:Y3 l a
  ·exact .inl ⟨by simp,rfl⟩
  ·cases hn:Z3 l nm
   ·exact .inl ⟨by simp,rfl⟩
   ·exact .inr ⟨rfl,rfl,rfl,rfl,rfl⟩
structure LM (w0:World) (b:Nat) (p:Option Addr) (c:Nat) (l:List Tr.Nd) (w:World):Prop where
 B:Below w0.heap.size w0 w
 c0:w.cell? ⟨b,0,none⟩=some (.slice p l.length c)
 nr:NR w (.slice p l.length c) l
 hb:b < w.heap.size
theorem LM.below {w0:World} {b:Nat} {p:Option Addr} {c:Nat} {l:List Tr.Nd} {w w':World} (h:LM w0 b p c l w) (hb:Below w.heap.size w w'):LM w0 b p c l w' :=
 ⟨h.B.trans (hb.mono h.B.size),(hb.cell (p:=⟨b,0,none⟩) h.hb).trans h.c0,⟨Yu h.nr.1 hb,h.nr.2⟩,Nat.lt_of_lt_of_le h.hb hb.size⟩
theorem LM.new {w0:World} {p:Option Addr} {c:Nat} {l:List Tr.Nd} {w:World} (hb:Below w0.heap.size w0 w) (hr:w.ownsRow 0 35 5 (.slice p l.length c) l.length (X2 l)) (hs:Sh l):LM w0 w.heap.size p c l (w.alloc (.cells #[.slice p l.length c] 25)):=by
 have q1:Below w.heap.size w (w.alloc (.cells #[.slice p l.length c] 25)):=bA _
 exact ⟨hb.trans (q1.mono hb.size),by simp,⟨Yu hr q1,hs⟩,by simp⟩
def DrawnR (w:World) (e:Ending) (w':World):Prop:=∃ v l,∃ (a:Int) (nm:ByteArray),e = .returned (.tuple #[.agg #[v],.int .i64 a,.string nm])∧NR w' v l∧l.length≤300000∧nm.size≤1000000∧(-1≤a∧a≤300001)∧Below w.heap.size w w'
theorem wf_small (a:Int) (h:-1≤a∧a≤300001):(Lit.int .i64 a).wf=true:=by
 simp only [Lit.wf,IntKind.min,IntKind.max,Bool.and_eq_true]
 constructor <;> (simp [IntKind.signed,IntKind.bits];omega)
theorem ren_ex {f:FuncId} {args:Array Value} {w:World} {r:List Tr.Nd × Int} (h:Calls Tryz.prog f args w fun e w'=>U4 w r e w'):Calls Tryz.prog f args w fun e w'=>∃ x,e = .returned x∧∃ v,x = .tuple #[.agg #[v],.int .i64 r.2]∧w'.ownsRow 0 35 5 v r.1.length (X2 r.1)∧Below w.heap.size w w':=by
 refine h.mono ?_
 rintro e w' ⟨v,rfl,hr,hb⟩
 exact ⟨_,rfl,v,rfl,hr,hb⟩
theorem box_set {w0 wr w:World} {bx:Nat} {p pk:Option Addr} {c ck:Nat} {l l2:List Tr.Nd} (h0:LM w0 bx p c l wr) (h:LM w0 bx p c l w) (hr:w.ownsRow 0 35 5 (.slice pk l2.length ck) l2.length (X2 l2)) (hs:Sh l2) (hty:w.heap[wr.heap.size]?=some (.cells #[.slice none 0 0] 25)):LM w0 bx p c l (w.setCell ⟨wr.heap.size,0,none⟩ (.slice pk l2.length ck))∧LM w0 wr.heap.size pk ck l2 (w.setCell ⟨wr.heap.size,0,none⟩ (.slice pk l2.length ck)):=by
 have hz:w.cell? ⟨wr.heap.size,0,none⟩=some (.slice none 0 0):=by rw [World.cell?,hty];rfl
 have hlt:=World.block_lt_of_cell? w ⟨wr.heap.size,0,none⟩ hz
 have hB:Below w0.heap.size w0 (w.setCell ⟨wr.heap.size,0,none⟩ (.slice pk l2.length ck)):=h.B.setCell (p:=⟨wr.heap.size,0,none⟩) h0.B.size _
 have hsz:(w.setCell ⟨wr.heap.size,0,none⟩ (.slice pk l2.length ck)).heap.size=w.heap.size:=by simp
 have row:∀ {v:Value} {m:Nat} {xs:List Value},w.ownsRow 0 35 5 v m xs→(w.setCell ⟨wr.heap.size,0,none⟩ (.slice pk l2.length ck)).ownsRow 0 35 5 v m xs:=fun {v m xs} hv=>by
  refine ⟨hv.1,?_⟩
  rcases hv.2 with h1 | ⟨g',cap',cur,e1,e2,e3,e4⟩
  ·exact .inl h1
  ·refine .inr ⟨g',cap',cur,e1,e2,(Below.heap_setCell _ _ _ _ (fun e=>?_)).trans e3,e4⟩
   have e:g'=wr.heap.size:=e
   rw [e,hty] at e3;cases e3
 refine ⟨⟨hB,?_,⟨row h.nr.1,h.nr.2⟩,by rw [hsz];exact h.hb⟩,hB,World.cell?_setCell_same _ _ _ hz,⟨row hr,hs⟩,by rw [hsz];exact hlt⟩
 exact (World.cell?_setCell_other _ _ _ _ (fun e=>by have h1:=congrArg Addr.block e;have:=h0.hb;simp only at h1;omega)).trans h.c0
set_option maxRecDepth 100000 in
set_option maxHeartbeats 8000000 in
theorem lawR_any (HD:∀ m v w,ByV w v m→Calls Tryz.prog 4 #[v] w fun e w'=>DrawnR w e w') (m:Nat) (v:Value) (w:World) (h:ByV w v m) (hG:GlobB w):Calls Tryz.prog 3 #[v] w fun e w'=>e = .returned (.bool true)∧Below w.heap.size w w':=by
 have HDD:=X1 (HD m v w h)
 have HG:=X1 hG
 obtain ⟨vp,vl,vc,hv⟩:∃ p l c,v = .slice p l c:=by
  rcases h with ⟨q,c,h,_⟩ | ⟨g,o,c,h,_⟩
  ·exact ⟨_,_,_,h⟩
  ·exact ⟨_,_,_,h⟩
 subst hv
 clear h hG HD
 by_cases hbig:(1048576:Int) < (vl:Int)
 ·go_enter Tryz.func3,Tryz.ntmps3
  go_wp2
  go_ret
  exact ⟨rfl,Below.refl _ _⟩
 ·go_enter Tryz.func3,Tryz.ntmps3
  go_wp2_with fail
  refine HDD.o.mono ?_
  rintro e w1 ⟨v1,l,a,nm,rfl,H,hl1,c3,ha,hb1⟩
  obtain ⟨p,c,hv1⟩:=Xc H.1
  subst hv1
  have A:=X1 (LM.new hb1 H.1 H.2)
  have HSL:=X1 H.2
  have M:l.length≤1048576:=by omega
  have HNM:=X1 c3
  have HWF:=X1 (wf_small a ha)
  have HP:=X1 (Tr.rename_parts (l:=l) (a:=a) (nm:=nm))
  have D:=X1 (Tr.rename_short (a:=a) H.2 c3)
  have b3:=X1 (Tr.rename_len (l:=l) (a:=a) (nm:=nm))
  have HI:=X1 (irenameV (.slice p l.length c) l a nm _ A.o.nr M (by omega) HWF.o (HG.o.below A.o.B))
  have a9:=X1 (fun w' (hn:NR w' (.slice p l.length c) l)=>renameV (.slice p l.length c) l a nm w' hn M)
  obtain ⟨us,co,hr⟩:∃ us co,Xq l a nm=(us,co):=⟨_,_,rfl⟩
  rw [hr] at HP D b3 HI
  simp only [hr] at a9
  simp only at HP D b3
  clear H hb1 HDD hr c3
  go_upto_region 4 with fail
  have o2:=A.o.c0
  generalize hw2:w1.alloc (.cells #[.slice p l.length c] 25)=w2 at *
  generalize w1.heap.size=bx at *
  clear hw2
  go_wp2_with fail
  refine HI.o.mono ?_
  rintro e w3 ⟨vu,rfl,W,b8⟩
  obtain ⟨pu,cu,hvu⟩:=Xc W
  simp only at hvu W
  subst hvu
  have q3:Below w3.heap.size w3 (w3.alloc (.cells #[.slice pu us.length cu] 25)):=bA _
  have I:=X1 ((A.o.below b8).below q3)
  have HU4:=X1 (LM.new (A.o.below b8).B W D.o)
  have Y:us.length≤1048576:=by have:=b3.o;omega
  clear W b8 q3 HI A o2
  go_upto_region 5 with fail
  have o4:=I.o.c0
  generalize hw4:w3.alloc (.cells #[.slice pu us.length cu] 25)=w4 at *
  generalize w3.heap.size=bu at *
  clear hw4
  go_wp2_with fail
  refine (a9.o w4 I.o.nr).mono ?_
  rintro e w5 ⟨vw,rfl,X,S⟩
  obtain ⟨pw,cw,hvw⟩:=Xc X
  simp only at hvw X
  subst hvw
  have q5:Below w5.heap.size w5 (w5.alloc (.cells #[.slice pw us.length cw] 25)):=bA _
  have HT6:=X1 ((I.o.below S).below q5)
  have O:=X1 ((HU4.o.below S).below q5)
  have b4:=X1 (LM.new (I.o.below S).B X D.o)
  clear X S q5 a9 I HU4 o4
  go_upto_region 6 with fail
  have o6:=O.o.c0
  have o6w:=b4.o.c0
  generalize hw6:w5.alloc (.cells #[.slice pw us.length cw] 25)=w6 at *
  generalize w5.heap.size=bw at *
  clear hw6
  have HQ6:=X1 (wTree_same pu pw cu cw us w6 O.o.nr b4.o.nr Y)
  go_wp2_with fail
  refine HQ6.o.mono ?_
  rintro e w7 ⟨rfl,b9⟩
  have C:=X1 (HT6.o.below b9)
  have b2:=X1 (O.o.below b9)
  have o7:=b2.o.c0
  clear b9 HT6 O b4 HQ6 o6 o6w
  rcases HP.o with ⟨F,hus⟩ | ⟨F,hfit,hpl,hnw,hus⟩
  ·subst hus
   have hcob:(co != 0)=true:=by simpa using F
   have HBw:=X1 C.o.B
   go_wp2
   go_ret
   exact ⟨rfl,HBw.o⟩
  ·subst F
   obtain ⟨c8,c7⟩:=Tr.ren_same hfit hpl hnw
   have d:=Tr.ren_back hfit hpl hnw
   rw [← hus] at c8 c7 d
   have a5:=(Tr.fits_iff l).1 hfit
   obtain ⟨a',haa,E⟩:∃ a':Nat,a=(a':Int)∧a' < l.length:=by
    unfold Y3 at hpl
    simp only [Bool.and_eq_true,decide_eq_true_eq] at hpl
    exact ⟨a.toNat,by omega,by omega⟩
   subst haa
   rw [Int.toNat_natCast,Tr.text_at E] at d
   have Z:=X1 d
   have HCH:=X1 a5
   have HLE:=X1 ((KD l).2.1 hfit).1
   have HIB:=X1 (fun w' (hn:NR w' (.slice p l.length c) l) (hg:GlobB w')=>ibindsV (.slice p l.length c) l w' hn M hg)
   have a7:=X1 (fun w' (hn:NR w' (.slice pu us.length cu) us) (hg:GlobB w')=>ibindsV (.slice pu us.length cu) us w' hn Y hg)
   have a6:=X1 (fun w' (hn:NR w' (.slice pu us.length cu) us)=>wFits_any pu us.length cu us w' hn Y)
   simp only [c7] at a7
   simp only [c8] at a6
   have HSX:=X1 (HSL.o l[a'] (List.getElem_mem E))
   have HUU:=X1 D.o
   clear hus c8 c7 d a5 hfit hpl hnw HP D
   generalize hbs:Xe l=bs at *
   clear hbs
   have o7t:=C.o.c0
   go_wp2_with fail
   refine (HIB.o w7 C.o.nr (HG.o.below C.o.B)).mono ?_
   rintro e w8 ⟨vo,rfl,c6,c1⟩
   obtain ⟨po,cq,d1⟩:=Xc c6
   subst d1
   have HT8:=X1 (C.o.below c1)
   have K:=X1 (b2.o.below c1)
   have HRO:=X1 c6
   have o8:=K.o.c0
   clear c6 c1 C b2 o7 o7t HIB
   go_wp2_with fail
   refine (a7.o w8 K.o.nr (HG.o.below K.o.B)).mono ?_
   rintro e w9 ⟨vn,rfl,c5,U⟩
   obtain ⟨pn,cn,d0⟩:=Xc c5
   subst d0
   have HT9:=X1 (HT8.o.below U)
   have P:=X1 (K.o.below U)
   have a2:=X1 (Yu HRO.o U)
   have HRN:=X1 c5
   have o9:=P.o.c0
   clear c5 U HT8 K o8 a7 HRO
   go_wp2_with fail
   refine (a6.o w9 P.o.nr).mono ?_
   rintro e w10 ⟨rfl,j⟩
   have a3:=X1 (HT9.o.below j)
   have a4:=X1 (P.o.below j)
   have a1:=Yu a2.o j
   have a0:=Yu HRN.o j
   have h0:0 < bs.length:=by have:=HLE.o;omega
   have hbm:bs.length≤300000:=by have:=HLE.o;omega
   obtain ⟨go,co',d1,hgo,F⟩:=binds_form a1 h0
   obtain ⟨gn,cn',d0,hgn,hcn⟩:=binds_form a0 h0
   cases d1
   cases d0
   have HCO:=X1 F
   have HCN:=X1 hcn
   clear j HT9 P o9 a6 a2 HRN a1 a0 F hcn
   go_wp2_with fail
   go_loopw [12] (fun t wr=>∃ i:Nat,i≤bs.length∧t = .int .i64 (i:Int)∧Below w10.heap.size w10 wr) (fun t _=>bs.length - (intOf t).toNat)
   case atStart=>exact ⟨0,Nat.zero_le _,rfl,Below.refl _ _⟩
   case round =>
    obtain ⟨i,hi,rfl,hB⟩:=hrel
    have HB:=X1 hB
    clear hB
    by_cases hlt:i < bs.length
    ·have hlti:(i:Int) < (bs.length:Int):=by omega
     haveI hne:Nonempty (KB wr):=⟨⟨_,Below.refl _ _⟩⟩
     have fo:∀ q:KB wr,q.w.cell? ⟨go,i,none⟩=some (.int .i64 bs[i]):=fun q=>((HB.o.trans (q.below.mono HB.o.size)).cell (p:=⟨go,i,none⟩) hgo).trans (HCO.o i hlt)
     have fn:∀ q:KB wr,q.w.cell? ⟨gn,i,none⟩=some (.int .i64 bs[i]):=fun q=>((HB.o.trans (q.below.mono HB.o.size)).cell (p:=⟨gn,i,none⟩) hgn).trans (HCN.o i hlt)
     generalize bs[i]=z at fo fn
     go_wp2_with fail
     refine Yq (KB.w (w:=wr)) (by kernel_rfl) (by kernel_rfl) ⟨⟨_,below_drewN (Below.refl _ _) _⟩,rfl⟩ ?_
     repeat (go_big_quiet_step (fail))
     refine wpQuiet_nil ?_
     rintro _ ⟨q,rfl⟩
     have HQ2:=X1 (HB.o.trans (q.below.mono HB.o.size))
     go_wp2
     go_roundw
     case rel=>exact ⟨i+1,by omega,by go_num,HQ2.o⟩
     case measure=>simp [intOf];omega
    ·obtain rfl:i=bs.length:=by omega
     have hnl:¬ (bs.length:Int) < (bs.length:Int):=by omega
     have f:=X1 (a3.o.below HB.o)
     have s:=X1 (a4.o.below HB.o)
     obtain ⟨gt,ct,hvt,V⟩:∃ g c',Value.slice p l.length c = .slice (some ⟨g,0,none⟩) l.length c'∧NodesAt wr g l:=by
      rcases f.o.nr.cases with ⟨_,h0⟩ | h1
      ·rw [h0] at E;cases E
      ·exact h1
     cases hvt
     have hai:(a':Int) < (l.length:Int):=by omega
     have BD:Below wr.heap.size wr wr.drew:=(Below.refl _ _).drew
     have BZ:Below wr.heap.size wr (wr.alloc (.cells #[.slice none 0 0] 25)).drew:=(bA _).drew
     have J:=X1 (f.o.below BD)
     have L:=X1 (s.o.below BD)
     have b1:=X1 (f.o.below BZ)
     have Q:=X1 (s.o.below BZ)
     have o1:=J.o.c0
     have o2:=L.o.c0
     have o3:=b1.o.c0
     have o4:=Q.o.c0
     have t1:=((V.below BD).2 a' E).2.2.2.1
     have t2:=((V.below BZ).2 a' E).2.2.2.1
     have hz1:=J.o.hb
     have hz2:=L.o.hb
     have hz3:=(V.below BD).1
     have N:=X1 (fun w' (hn:NR w' (.slice pu us.length cu) us) (hg:GlobB w')=>ren_ex (irenameV (.slice pu us.length cu) us (a':Int) l[a'].text w' hn Y (by have:=HSX.o;omega) HWF.o hg))
     generalize l[a'].text=tx at *
     obtain ⟨l2,c2,c4⟩:∃ l2 c2,Xq us (a':Int) tx=(l2,c2):=⟨_,_,rfl⟩
     simp only [c4] at N
     rw [c4] at Z
     have HSB:Hid (Sh l2):=X1 (by
      rcases Z.o with e | e
      ·cases e;intro x hx;cases hx
      ·cases e;exact HSL.o)
     clear c4 a3 a4 HB HCO HCN BD BZ V
     go_upto_region 19 with fail
     go_cut [13,14] from 82 to 106 (fun v13 v14 wx=>∃ bk pk ck,v13 = .pointer (some ⟨bk,0,none⟩)∧v14 = .int .i64 c2∧LM w bx (some ⟨gt,0,none⟩) c l wx∧LM w bk pk ck l2 wx)
     case first =>
      haveI hBs:Inhabited Bs:=⟨(show Bs from (0:Nat))⟩
      go_region_law (first
       | ((with_reducible refine Yg (wr.drew) ?_);refine Zg rfl 5 (.tmp 83) (.tmp 84) (.tmp 90) _ _ _ rfl (.agg #[.slice pu us.length cu]) (.int .i64 (a':Int)) (.string tx) (by first | (simp [Act.eval];done) | simp [Act.eval,Act.put]) (by first | (simp [Act.eval];done) | simp [Act.eval,Act.put]) (by first | (simp [Act.eval];done) | simp [Act.eval,Act.put]) Tryz.f5 Tryz.func5 (by kernel_rfl) (by kernel_rfl) _ (N.o _ L.o.nr (HG.o.below L.o.B)) ?_;intro v12 d2 b5;obtain ⟨vk,y,u,b⟩:=b5;subst y;obtain ⟨pk,ck,c9⟩:=Xc u;subst c9;have b0:=X1 (J.o.below b);have a8:=X1 (LM.new (J.o.below b).B u HSB.o);have n:=X1 (b0.o.below (bA (.cells #[.slice pk l2.length ck] 25)));clear u b)
       | ((with_reducible refine Yg ((wr.alloc (.cells #[.slice none 0 0] 25)).drew) ?_);refine Zg rfl 5 (.tmp 83) (.tmp 84) (.tmp 90) _ _ _ rfl (.agg #[.slice pu us.length cu]) (.int .i64 (a':Int)) (.string tx) (by first | (simp [Act.eval];done) | simp [Act.eval,Act.put]) (by first | (simp [Act.eval];done) | simp [Act.eval,Act.put]) (by first | (simp [Act.eval];done) | simp [Act.eval,Act.put]) Tryz.f5 Tryz.func5 (by kernel_rfl) (by kernel_rfl) _ (N.o _ Q.o.nr (HG.o.below Q.o.B)) ?_;intro v12 d2 b5;obtain ⟨vk,y,u,b⟩:=b5;subst y;obtain ⟨pk,ck,c9⟩:=Xc u;subst c9;have z12:d2.cell? ⟨wr.heap.size,0,none⟩=some (.slice none 0 0):=(b.cell (p:=⟨wr.heap.size,0,none⟩) (by show wr.heap.size < _;simp)).trans (by simp);have f12:d2.frozen? ⟨wr.heap.size,0,none⟩=false:=(b.frozen (p:=⟨wr.heap.size,0,none⟩) (by show wr.heap.size < _;simp)).trans (by simp);have n:=X1 (box_set (f.o) (b1.o.below b) u HSB.o ((b.block wr.heap.size (by simp)).trans (Xi wr _)));clear u b))
      all_goals
       go_wp2_with fail
       go_meet
       case rel=>first | exact ⟨_,_,_,rfl,rfl,n.o,a8.o⟩ | exact ⟨_,_,_,rfl,rfl,n.o.1,n.o.2⟩
     case rest =>
      obtain ⟨bk,pk,ck,rfl,rfl,b7,b6⟩:=hcut
      have n:=X1 b7
      have HKk:=X1 b6
      have oT:=b7.c0
      have oK:=b6.c0
      clear b7 b6 J L b1 Q o1 o2 o3 o4 t1 t2 hz1 hz2 hz3 N f s
      rcases Z.o with e | e
      ·cases e
       have HCK:=X1 (checkV (.slice (some ⟨gt,0,none⟩) l.length c) l wc n.o.nr M)
       rw [HCH.o] at HCK
       have hfc:=Jw 0 0
       go_wp2_with fail
       refine HCK.o.mono ?_
       rintro e w14 ⟨rfl,k⟩
       have r:=X1 (n.o.below k).B
       clear k
       go_wp2
       go_ret
       exact ⟨rfl,r.o⟩
      ·cases e
       have HWT:=X1 (wTree_same pk (some ⟨gt,0,none⟩) ck c l wc HKk.o.nr n.o.nr M)
       go_wp2_with fail
       refine HWT.o.mono ?_
       rintro e w14 ⟨rfl,k⟩
       have r:=X1 (n.o.below k).B
       clear k
       go_wp2
       go_ret
       exact ⟨rfl,r.o⟩
end Go.Proofs.YtimbaebigjjkaaaGreatDoor
