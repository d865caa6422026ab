/- Tko, Pa, Pb. -/
import Derived.Test.YtbckhbeebngjfaaGreatDoorT17
import Derived.Test.YtbckhbeebngjfaaGreatDoorT20
import Derived.Test.YtbckhbeebngjfaaGreatDoorT16
import Derived.Test.YtbckhbeebngjfaaGreatDoorT21
import Derived.BigQuiet
import Derived.Deep.CutRange
import Derived.Test.YtbckhbeebngjfaaGreatDoorT03
import Derived.Deep.RegionLaw
namespace Go.Proofs.YtbckhbeebngjfaaGreatDoor
open Go.RowKit
theorem rowLeT {w:World} {b c e size n:Nat} {v:Value} {xs:List Value} (h:w.ownsRow b e size v n xs) (hc:c≤b):w.ownsRow c e size v n xs:=by
 refine ⟨h.1,?_⟩
 rcases h.2 with h | ⟨g,cap,cur,h1,h2,h3⟩
 ·exact .inl h
 ·exact .inr ⟨g,cap,cur,h1,Nat.le_trans hc h2,h3⟩
theorem row_cellT {w:World} {B size g c m:Nat} {e:TypeId} {xs:List Value} (h:w.ownsRow B e size (.slice (some ⟨g,0,none⟩) m c) m xs) {j:Nat} {u:Value} (hu:xs[j]?=some u):w.cell? ⟨g,j,none⟩=some u:=by
 have:=h.cells rfl j u hu
 rwa [add_plainP,Nat.zero_add] at this
theorem row_posT {w:World} {base:Nat} {e:TypeId} {size n:Nat} {v:Value} {xs:List Value} (h:w.ownsRow base e size v n xs) (hn:0 < n):∃ g c,v = .slice (some ⟨g,0,none⟩) n c:=by
 rcases h.2 with ⟨_,h1⟩ | ⟨g,c,_,h1,_⟩
 ·omega
 ·exact ⟨_,_,h1⟩
structure LT (w0:World) (bf bg:Nat) (C A:Int) (vi vs:Value) (ts:List Sc.T) (w:World):Prop where
 B:Below w0.heap.size w0 w
 G:Glob w
 f0:w.cell? ⟨bf,0,none⟩=some (.int .i64 C)
 f1:w.cell? ⟨bf,1,none⟩=some (.int .i64 A)
 g0:w.cell? ⟨bg,0,none⟩=some (.int .i64 C)
 g1:w.cell? ⟨bg,1,none⟩=some (.int .i64 A)
 hf:bf < w.heap.size
 hg:bg < w.heap.size
 ri:w.ownsRow 0 30 4 vi ts.length (Sc.cellsOf ts)
 rs:w.ownsRow 0 30 4 vs ts.length (Sc.cellsOf ts)
theorem LT.below {w0:World} {bf bg:Nat} {C A:Int} {vi vs:Value} {ts:List Sc.T} {w w':World} (h:LT w0 bf bg C A vi vs ts w) (hb:Below w.heap.size w w'):LT w0 bf bg C A vi vs ts w' :=
 ⟨h.B.trans (hb.mono h.B.size),h.G.below hb h.G.2.2,(hb.cell (p:=⟨bf,0,none⟩) h.hf).trans h.f0,(hb.cell (p:=⟨bf,1,none⟩) h.hf).trans h.f1,(hb.cell (p:=⟨bg,0,none⟩) h.hg).trans h.g0,(hb.cell (p:=⟨bg,1,none⟩) h.hg).trans h.g1,
  Nat.lt_of_lt_of_le h.hf hb.size,Nat.lt_of_lt_of_le h.hg hb.size,row_belowP h.ri hb,row_belowP h.rs hb⟩
set_option maxRecDepth 100000 in
set_option maxHeartbeats 8000000 in
theorem lawT_any (HD:∀ m v w,ByV w v m→Calls Tryz.prog 4 #[v] w fun e w'=>DrewPost w e w') (m:Nat) (v:Value) (w:World) (h:ByV w v m) (hG:Glob w):Calls Tryz.prog 3 #[v] w fun e w'=>e = .returned (.bool true)∧Below w.heap.size w w':=by
 have HDD:=hide (HD m v w h)
 have HG:=hide hG
 obtain ⟨vp,vl,vc,hv⟩:∃ p l c,v = .slice p l c:=by
  rcases h with ⟨q,c,h,_⟩ | ⟨g,o,c,h,_⟩
  ·exact ⟨_,_,_,h⟩
  ·exact ⟨_,_,_,h⟩
 subst hv
 clear h hG HD
 by_cases hbig:(1048576:Int) < (vl:Int)
 ·go_enter Tryz.func3,Tryz.ntmps3
  go_wp2
  go_ret
  exact ⟨rfl,Below.refl _ _⟩
 ·go_enter Tryz.func3,Tryz.ntmps3
  go_wp2_with fail
  refine HDD.out.mono ?_
  rintro e w1 ⟨s,rfl,hs,hb1⟩
  have HG1:=hide (HG.out.below hb1 HG.out.2.2)
  have HB1:=hide hb1
  have HI:=hide (iscan_any s w1 (by omega) HG1.out)
  have hn:=Sc.toks_lenP s
  obtain ⟨ts,hts⟩:∃ ts,ts=Sc.toks s:=⟨_,rfl⟩
  have HTS:=hide hts
  have HS:=hide (fun w'=>sscan_any s w' (by omega))
  obtain ⟨C,hC⟩:∃ C:Int,C=(Sc.code s:Int):=⟨_,rfl⟩
  obtain ⟨A,hA⟩:∃ A:Int,A=(Sc.at_ s:Int):=⟨_,rfl⟩
  rw [← hts] at hn HI HS
  rw [← hC,← hA] at HI HS
  clear hts hC hA hb1 HDD HG
  go_wp2_with fail
  refine HI.out.mono ?_
  rintro e w2 ⟨vi,rfl,hri,hb2⟩
  have b2:Below w1.heap.size w1 (w2.alloc (.cells #[.int .i64 C,.int .i64 A] 26)):=hb2.alloc hb2.size _
  have b2a:Below w2.heap.size w2 (w2.alloc (.cells #[.int .i64 C,.int .i64 A] 26)):=bA _
  have HRI:=hide (row_belowP (rowLeT hri (Nat.zero_le _)) b2a)
  have HX:Hid ((w2.alloc (.cells #[.int .i64 C,.int .i64 A] 26)).cell? ⟨w2.heap.size,0,none⟩=some (.int .i64 C)∧(w2.alloc (.cells #[.int .i64 C,.int .i64 A] 26)).cell? ⟨w2.heap.size,1,none⟩=some (.int .i64 A)):=hide ⟨by simp,by simp⟩
  have HL2:Hid (w2.heap.size < (w2.alloc (.cells #[.int .i64 C,.int .i64 A] 26)).heap.size):=hide (by simp)
  have HB2:=hide (HB1.out.trans (b2.mono HB1.out.size))
  have HG2:=hide (HG1.out.below b2 HG1.out.2.2)
  clear hri hb2 b2 b2a HB1 HG1 HI
  go_upto_region 5 with fail
  generalize hw3:w2.alloc (.cells #[.int .i64 C,.int .i64 A] 26)=w3 at *
  generalize w2.heap.size=bf at *
  clear hw3
  go_wp2_with fail
  refine (HS.out _).mono ?_
  rintro e w4 ⟨vs,rfl,hrs,hb4⟩
  have b4:Below w3.heap.size w3 (w4.alloc (.cells #[.int .i64 C,.int .i64 A] 26)):=hb4.alloc hb4.size _
  have b4a:Below w4.heap.size w4 (w4.alloc (.cells #[.int .i64 C,.int .i64 A] 26)):=bA _
  have HL:Hid (LT w bf w4.heap.size C A vi vs ts (w4.alloc (.cells #[.int .i64 C,.int .i64 A] 26))):=hide
   ⟨HB2.out.trans (b4.mono HB2.out.size),HG2.out.below b4 HG2.out.2.2,(b4.cell (p:=⟨bf,0,none⟩) HL2.out).trans HX.out.1,(b4.cell (p:=⟨bf,1,none⟩) HL2.out).trans HX.out.2,by simp,by simp,Nat.lt_of_lt_of_le HL2.out b4.size,by simp,row_belowP HRI.out b4,row_belowP (rowLeT hrs (Nat.zero_le _)) b4a⟩
  clear hrs hb4 b4 b4a HB2 HG2 HL2 HX HRI HS
  go_upto_region 6 with fail
  generalize hw5:w4.alloc (.cells #[.int .i64 C,.int .i64 A] 26)=w5 at *
  generalize w4.heap.size=bg at *
  clear hw5
  have f0:=HL.out.f0
  have f1:=HL.out.f1
  have g0:=HL.out.g0
  have g1:=HL.out.g1
  obtain ⟨pi,ci,hvi⟩:=row_formP HL.out.ri
  obtain ⟨ps,cs,hvs⟩:=row_formP HL.out.rs
  subst hvi hvs
  go_wp2_with fail
  clear f0 f1 g0 g1
  go_loopw [8] (fun t wr=>∃ i:Nat,i≤ts.length∧t = .int .i64 (i:Int)∧Below w5.heap.size w5 wr) (fun t _=>ts.length - (intOf t).toNat)
  case atStart=>exact ⟨0,Nat.zero_le _,rfl,Below.refl _ _⟩
  case round =>
   obtain ⟨i,hi,rfl,hB⟩:=hrel
   have HB:=hide (HL.out.below hB)
   have HW:=hide hB
   clear hB
   by_cases hlt:i < ts.length
   ·have hlti:(i:Int) < (ts.length:Int):=by omega
    obtain ⟨gi,ci',hvi⟩:=row_posT HB.out.ri (by omega)
    obtain ⟨gs,cs',hvs⟩:=row_posT HB.out.rs (by omega)
    cases hvi
    cases hvs
    have CE:=hide (Sc.cellsOf_atP ts i hlt)
    have FI:Hid (∀ (j:Nat) (u:Value),(Sc.cellsOf ts)[j]?=some u→∀ q:KB wr,q.w.cell? ⟨gi,j,none⟩=some u):=hide fun j u hu q=>row_cellT (HB.out.below q.below).ri hu
    have FW:Hid (∀ (j:Nat) (u:Value),(Sc.cellsOf ts)[j]?=some u→∀ q:KB wr,q.w.cell? ⟨gs,j,none⟩=some u):=hide fun j u hu q=>row_cellT (HB.out.below q.below).rs hu
    have i0:=FI.out _ _ CE.out.1
    have i1:=FI.out _ _ CE.out.2.1
    have i2:=FI.out _ _ CE.out.2.2.1
    have i3:=FI.out _ _ CE.out.2.2.2
    have s0:=FW.out _ _ CE.out.1
    have s1:=FW.out _ _ CE.out.2.1
    have s2:=FW.out _ _ CE.out.2.2.1
    have s3:=FW.out _ _ CE.out.2.2.2
    have LA:Hid (ts[i].place < Sc.endT s i∧Sc.endT s i≤s.size∧Sc.code (s.extract ts[i].place (Sc.endT s i))=0∧Sc.at_ (s.extract ts[i].place (Sc.endT s i))=0∧Sc.toks (s.extract ts[i].place (Sc.endT s i))=[⟨ts[i].kind,ts[i].text,ts[i].n,0⟩]):=hide (by have:=HTS.out;subst this;exact Sc.law_at hlt)
    have LP:Hid (∀ j (h1:j+1=i) (h2:j < ts.length),ts[j].place < ts[i].place):=hide (by
     have:=HTS.out;subst this
     intro j h1 h2
     subst h1
     have a:=(Sc.law_at h2).1
     rw [Sc.endT_next hlt] at a
     exact a)
    have LN:Hid (∀ h:i+1 < ts.length,Sc.endT s i=ts[i+1].place):=hide (by have:=HTS.out;subst this;exact fun h=>Sc.endT_next h)
    have LZ:Hid (¬ i+1 < ts.length→Sc.endT s i=s.size):=hide (by have:=HTS.out;subst this;exact fun h=>Sc.endT_last h)
    have CA:Hid (∀ j (h:j < ts.length),(Sc.cellsOf ts)[j*4+3]?=some (.int .i64 ts[j].place)):=hide (fun j h=>(Sc.cellsOf_atP ts j h).2.2.2)
    haveI hne:Nonempty (KB wr):=⟨⟨_,Below.refl _ _⟩⟩
    clear CE
    generalize ts[i].kind=kd at *
    generalize ts[i].text=tx at *
    generalize ts[i].n=nn at *
    generalize ts[i].place=pl at *
    obtain ⟨en,hen⟩:∃ en,en=Sc.endT s i:=⟨_,rfl⟩
    rw [← hen] at LA LN LZ
    clear hen
    have hpe:=LA.out.1
    have hes:=LA.out.2.1
    have ew1:IntKind.i64.wrap ((i:Int)+1)=((i+1:Nat):Int):=by rw [IntKind.wrap_i64];omega
    have HIS:=hide (fun w' (hg:Glob w')=>iscan_any (s.extract pl en) w' (by rw [ByteArray.size_extract];omega) hg)
    rw [LA.out.2.2.1,LA.out.2.2.2.1,LA.out.2.2.2.2] at HIS
    by_cases h0:0 < i
    ·skip
     have hz:(0:Int) < (i:Int):=by omega
     have ew0:IntKind.i64.wrap ((i:Int) - 1)=((i - 1:Nat):Int):=by rw [IntKind.wrap_i64];omega
     have p3:=FI.out _ _ (CA.out (i - 1) (by omega))
     have hpp:=LP.out (i - 1) (by omega) (by omega)
     generalize (ts[i - 1]'(by omega)).place=pp at p3 hpp
     have z1:decide ((pl:Int)≤(pp:Int))=false:=decide_eq_false (by omega)
     have z2:¬ (pl:Int)≤(pp:Int):=by omega
     have z3:((i - 1:Nat):Int) < (ts.length:Int):=by omega
     go_wp2_with fail
     refine region_class (KB.w (w:=wr)) (by kernel_rfl) (by kernel_rfl) ⟨⟨_,below_drewN (Below.refl _ _) _⟩,rfl⟩ ?_
     repeat (go_big_quiet_step (fail))
     refine wpQuiet_nil ?_
     rintro _ ⟨q,rfl⟩
     clear p3
     by_cases hnl:i+1 < ts.length
     ·skip
      have hnx:(i:Int)+1 < (ts.length:Int):=by omega
      have hnx2:((i+1:Nat):Int) < (ts.length:Int):=by omega
      have n3:=FW.out _ _ (CA.out (i+1) (by omega)) q
      rw [← LN.out (by omega)] at n3
      have HGq:=hide (HB.out.below q.below).G
      have HIq:=hide (HIS.out q.w HGq.out)
      have t3:=s3 q
      clear i0 i1 i2 i3 FI HIS
      go_wp2_with fail
      refine HIq.out.mono ?_
      rintro e w7 ⟨vo,rfl,hro,hb7⟩
      obtain ⟨go,co,hvo⟩:=row_posT hro Nat.zero_lt_one
      subst hvo
      have b7:Below wr.heap.size wr (w7.alloc (.cells #[.int .i64 0,.int .i64 0] 26)):=q.below.trans ((hb7.alloc hb7.size _).mono q.below.size)
      have b7a:Below w7.heap.size w7 (w7.alloc (.cells #[.int .i64 0,.int .i64 0] 26)):=bA _
      have HRO:=hide (row_belowP (rowLeT hro (Nat.zero_le _)) b7a)
      have HX:Hid ((w7.alloc (.cells #[.int .i64 0,.int .i64 0] 26)).cell? ⟨w7.heap.size,0,none⟩=some (.int .i64 0)∧(w7.alloc (.cells #[.int .i64 0,.int .i64 0] 26)).cell? ⟨w7.heap.size,1,none⟩=some (.int .i64 0)):=hide ⟨by simp,by simp⟩
      have HZ:Hid (w7.heap.size < (w7.alloc (.cells #[.int .i64 0,.int .i64 0] 26)).heap.size):=hide (by simp)
      have HB7:=hide b7
      clear hro hb7 b7 b7a HIq t3 n3
      go_upto_region 17 with fail
      generalize hw8:w7.alloc (.cells #[.int .i64 0,.int .i64 0] 26)=w8 at *
      generalize w7.heap.size=bo at *
      clear hw8
      have e0:∀ q:KB w8,q.w.cell? ⟨go,0,none⟩=some (.int .i64 kd):=fun q=>row_cellT (j:=0) (row_belowP HRO.out q.below) rfl
      have e1:∀ q:KB w8,q.w.cell? ⟨go,1,none⟩=some (.string ⟨tx.toArray⟩):=fun q=>row_cellT (j:=1) (row_belowP HRO.out q.below) rfl
      have e2:∀ q:KB w8,q.w.cell? ⟨go,2,none⟩=some (.int .i64 nn):=fun q=>row_cellT (j:=2) (row_belowP HRO.out q.below) rfl
      have e3:∀ q:KB w8,q.w.cell? ⟨go,3,none⟩=some (.int .i64 0):=fun q=>row_cellT (j:=3) (row_belowP HRO.out q.below) rfl
      have o0:∀ q:KB w8,q.w.cell? ⟨bo,0,none⟩=some (.int .i64 0):=fun q=>(q.below.cell (p:=⟨bo,0,none⟩) HZ.out).trans HX.out.1
      have o1:∀ q:KB w8,q.w.cell? ⟨bo,1,none⟩=some (.int .i64 0):=fun q=>(q.below.cell (p:=⟨bo,1,none⟩) HZ.out).trans HX.out.2
      have u0:∀ q:KB w8,q.w.cell? ⟨gs,i*4,none⟩=some (.int .i64 kd):=fun q=>s0 ⟨_,HB7.out.trans (q.below.mono HB7.out.size)⟩
      have u1:∀ q:KB w8,q.w.cell? ⟨gs,i*4+1,none⟩=some (.string ⟨tx.toArray⟩):=fun q=>s1 ⟨_,HB7.out.trans (q.below.mono HB7.out.size)⟩
      have u2:∀ q:KB w8,q.w.cell? ⟨gs,i*4+2,none⟩=some (.int .i64 nn):=fun q=>s2 ⟨_,HB7.out.trans (q.below.mono HB7.out.size)⟩
      clear s0 s1 s2 s3
      haveI hne8:Nonempty (KB w8):=⟨⟨_,Below.refl _ _⟩⟩
      go_wp2_with fail
      refine region_class (KB.w (w:=w8)) (by kernel_rfl) (by kernel_rfl) ⟨⟨_,below_drewN (Below.refl _ _) _⟩,rfl⟩ ?_
      repeat (go_big_quiet_step (fail))
      refine wpQuiet_nil ?_
      rintro _ ⟨q9,rfl⟩
      have HF:=hide (HW.out.trans ((HB7.out.trans (q9.below.mono HB7.out.size)).mono HW.out.size))
      clear e0 e1 e2 e3 o0 o1 u0 u1 u2
      go_wp2
      go_roundw
      case rel=>exact ⟨i+1,by omega,by go_num,HF.out⟩
      case measure=>simp [intOf];omega
     ·skip
      have hnx:¬ (i:Int)+1 < (ts.length:Int):=by omega
      have hnx2:¬ ((i+1:Nat):Int) < (ts.length:Int):=by omega
      have hee:=LZ.out (by omega)
      subst hee
      have HGq:=hide (HB.out.below q.below).G
      have HIq:=hide (HIS.out q.w HGq.out)
      have t3:=s3 q
      clear i0 i1 i2 i3 FI HIS
      go_wp2_with fail
      refine HIq.out.mono ?_
      rintro e w7 ⟨vo,rfl,hro,hb7⟩
      obtain ⟨go,co,hvo⟩:=row_posT hro Nat.zero_lt_one
      subst hvo
      have b7:Below wr.heap.size wr (w7.alloc (.cells #[.int .i64 0,.int .i64 0] 26)):=q.below.trans ((hb7.alloc hb7.size _).mono q.below.size)
      have b7a:Below w7.heap.size w7 (w7.alloc (.cells #[.int .i64 0,.int .i64 0] 26)):=bA _
      have HRO:=hide (row_belowP (rowLeT hro (Nat.zero_le _)) b7a)
      have HX:Hid ((w7.alloc (.cells #[.int .i64 0,.int .i64 0] 26)).cell? ⟨w7.heap.size,0,none⟩=some (.int .i64 0)∧(w7.alloc (.cells #[.int .i64 0,.int .i64 0] 26)).cell? ⟨w7.heap.size,1,none⟩=some (.int .i64 0)):=hide ⟨by simp,by simp⟩
      have HZ:Hid (w7.heap.size < (w7.alloc (.cells #[.int .i64 0,.int .i64 0] 26)).heap.size):=hide (by simp)
      have HB7:=hide b7
      clear hro hb7 b7 b7a HIq t3
      go_upto_region 17 with fail
      generalize hw8:w7.alloc (.cells #[.int .i64 0,.int .i64 0] 26)=w8 at *
      generalize w7.heap.size=bo at *
      clear hw8
      have e0:∀ q:KB w8,q.w.cell? ⟨go,0,none⟩=some (.int .i64 kd):=fun q=>row_cellT (j:=0) (row_belowP HRO.out q.below) rfl
      have e1:∀ q:KB w8,q.w.cell? ⟨go,1,none⟩=some (.string ⟨tx.toArray⟩):=fun q=>row_cellT (j:=1) (row_belowP HRO.out q.below) rfl
      have e2:∀ q:KB w8,q.w.cell? ⟨go,2,none⟩=some (.int .i64 nn):=fun q=>row_cellT (j:=2) (row_belowP HRO.out q.below) rfl
      have e3:∀ q:KB w8,q.w.cell? ⟨go,3,none⟩=some (.int .i64 0):=fun q=>row_cellT (j:=3) (row_belowP HRO.out q.below) rfl
      have o0:∀ q:KB w8,q.w.cell? ⟨bo,0,none⟩=some (.int .i64 0):=fun q=>(q.below.cell (p:=⟨bo,0,none⟩) HZ.out).trans HX.out.1
      have o1:∀ q:KB w8,q.w.cell? ⟨bo,1,none⟩=some (.int .i64 0):=fun q=>(q.below.cell (p:=⟨bo,1,none⟩) HZ.out).trans HX.out.2
      have u0:∀ q:KB w8,q.w.cell? ⟨gs,i*4,none⟩=some (.int .i64 kd):=fun q=>s0 ⟨_,HB7.out.trans (q.below.mono HB7.out.size)⟩
      have u1:∀ q:KB w8,q.w.cell? ⟨gs,i*4+1,none⟩=some (.string ⟨tx.toArray⟩):=fun q=>s1 ⟨_,HB7.out.trans (q.below.mono HB7.out.size)⟩
      have u2:∀ q:KB w8,q.w.cell? ⟨gs,i*4+2,none⟩=some (.int .i64 nn):=fun q=>s2 ⟨_,HB7.out.trans (q.below.mono HB7.out.size)⟩
      clear s0 s1 s2 s3
      haveI hne8:Nonempty (KB w8):=⟨⟨_,Below.refl _ _⟩⟩
      go_wp2_with fail
      refine region_class (KB.w (w:=w8)) (by kernel_rfl) (by kernel_rfl) ⟨⟨_,below_drewN (Below.refl _ _) _⟩,rfl⟩ ?_
      repeat (go_big_quiet_step (fail))
      refine wpQuiet_nil ?_
      rintro _ ⟨q9,rfl⟩
      have HF:=hide (HW.out.trans ((HB7.out.trans (q9.below.mono HB7.out.size)).mono HW.out.size))
      clear e0 e1 e2 e3 o0 o1 u0 u1 u2
      go_wp2
      go_roundw
      case rel=>exact ⟨i+1,by omega,by go_num,HF.out⟩
      case measure=>simp [intOf];omega
    ·skip
     have hz:¬ (0:Int) < (i:Int):=by omega
     go_wp2_with fail
     refine region_class (KB.w (w:=wr)) (by kernel_rfl) (by kernel_rfl) ⟨⟨_,below_drewN (Below.refl _ _) _⟩,rfl⟩ ?_
     repeat (go_big_quiet_step (fail))
     refine wpQuiet_nil ?_
     rintro _ ⟨q,rfl⟩
     by_cases hnl:i+1 < ts.length
     ·skip
      have hnx:(i:Int)+1 < (ts.length:Int):=by omega
      have hnx2:((i+1:Nat):Int) < (ts.length:Int):=by omega
      have n3:=FW.out _ _ (CA.out (i+1) (by omega)) q
      rw [← LN.out (by omega)] at n3
      have HGq:=hide (HB.out.below q.below).G
      have HIq:=hide (HIS.out q.w HGq.out)
      have t3:=s3 q
      clear i0 i1 i2 i3 FI HIS
      go_wp2_with fail
      refine HIq.out.mono ?_
      rintro e w7 ⟨vo,rfl,hro,hb7⟩
      obtain ⟨go,co,hvo⟩:=row_posT hro Nat.zero_lt_one
      subst hvo
      have b7:Below wr.heap.size wr (w7.alloc (.cells #[.int .i64 0,.int .i64 0] 26)):=q.below.trans ((hb7.alloc hb7.size _).mono q.below.size)
      have b7a:Below w7.heap.size w7 (w7.alloc (.cells #[.int .i64 0,.int .i64 0] 26)):=bA _
      have HRO:=hide (row_belowP (rowLeT hro (Nat.zero_le _)) b7a)
      have HX:Hid ((w7.alloc (.cells #[.int .i64 0,.int .i64 0] 26)).cell? ⟨w7.heap.size,0,none⟩=some (.int .i64 0)∧(w7.alloc (.cells #[.int .i64 0,.int .i64 0] 26)).cell? ⟨w7.heap.size,1,none⟩=some (.int .i64 0)):=hide ⟨by simp,by simp⟩
      have HZ:Hid (w7.heap.size < (w7.alloc (.cells #[.int .i64 0,.int .i64 0] 26)).heap.size):=hide (by simp)
      have HB7:=hide b7
      clear hro hb7 b7 b7a HIq t3 n3
      go_upto_region 17 with fail
      generalize hw8:w7.alloc (.cells #[.int .i64 0,.int .i64 0] 26)=w8 at *
      generalize w7.heap.size=bo at *
      clear hw8
      have e0:∀ q:KB w8,q.w.cell? ⟨go,0,none⟩=some (.int .i64 kd):=fun q=>row_cellT (j:=0) (row_belowP HRO.out q.below) rfl
      have e1:∀ q:KB w8,q.w.cell? ⟨go,1,none⟩=some (.string ⟨tx.toArray⟩):=fun q=>row_cellT (j:=1) (row_belowP HRO.out q.below) rfl
      have e2:∀ q:KB w8,q.w.cell? ⟨go,2,none⟩=some (.int .i64 nn):=fun q=>row_cellT (j:=2) (row_belowP HRO.out q.below) rfl
      have e3:∀ q:KB w8,q.w.cell? ⟨go,3,none⟩=some (.int .i64 0):=fun q=>row_cellT (j:=3) (row_belowP HRO.out q.below) rfl
      have o0:∀ q:KB w8,q.w.cell? ⟨bo,0,none⟩=some (.int .i64 0):=fun q=>(q.below.cell (p:=⟨bo,0,none⟩) HZ.out).trans HX.out.1
      have o1:∀ q:KB w8,q.w.cell? ⟨bo,1,none⟩=some (.int .i64 0):=fun q=>(q.below.cell (p:=⟨bo,1,none⟩) HZ.out).trans HX.out.2
      have u0:∀ q:KB w8,q.w.cell? ⟨gs,i*4,none⟩=some (.int .i64 kd):=fun q=>s0 ⟨_,HB7.out.trans (q.below.mono HB7.out.size)⟩
      have u1:∀ q:KB w8,q.w.cell? ⟨gs,i*4+1,none⟩=some (.string ⟨tx.toArray⟩):=fun q=>s1 ⟨_,HB7.out.trans (q.below.mono HB7.out.size)⟩
      have u2:∀ q:KB w8,q.w.cell? ⟨gs,i*4+2,none⟩=some (.int .i64 nn):=fun q=>s2 ⟨_,HB7.out.trans (q.below.mono HB7.out.size)⟩
      clear s0 s1 s2 s3
      haveI hne8:Nonempty (KB w8):=⟨⟨_,Below.refl _ _⟩⟩
      go_wp2_with fail
      refine region_class (KB.w (w:=w8)) (by kernel_rfl) (by kernel_rfl) ⟨⟨_,below_drewN (Below.refl _ _) _⟩,rfl⟩ ?_
      repeat (go_big_quiet_step (fail))
      refine wpQuiet_nil ?_
      rintro _ ⟨q9,rfl⟩
      have HF:=hide (HW.out.trans ((HB7.out.trans (q9.below.mono HB7.out.size)).mono HW.out.size))
      clear e0 e1 e2 e3 o0 o1 u0 u1 u2
      go_wp2
      go_roundw
      case rel=>exact ⟨i+1,by omega,by go_num,HF.out⟩
      case measure=>simp [intOf];omega
     ·skip
      have hnx:¬ (i:Int)+1 < (ts.length:Int):=by omega
      have hnx2:¬ ((i+1:Nat):Int) < (ts.length:Int):=by omega
      have hee:=LZ.out (by omega)
      subst hee
      have HGq:=hide (HB.out.below q.below).G
      have HIq:=hide (HIS.out q.w HGq.out)
      have t3:=s3 q
      clear i0 i1 i2 i3 FI HIS
      go_wp2_with fail
      refine HIq.out.mono ?_
      rintro e w7 ⟨vo,rfl,hro,hb7⟩
      obtain ⟨go,co,hvo⟩:=row_posT hro Nat.zero_lt_one
      subst hvo
      have b7:Below wr.heap.size wr (w7.alloc (.cells #[.int .i64 0,.int .i64 0] 26)):=q.below.trans ((hb7.alloc hb7.size _).mono q.below.size)
      have b7a:Below w7.heap.size w7 (w7.alloc (.cells #[.int .i64 0,.int .i64 0] 26)):=bA _
      have HRO:=hide (row_belowP (rowLeT hro (Nat.zero_le _)) b7a)
      have HX:Hid ((w7.alloc (.cells #[.int .i64 0,.int .i64 0] 26)).cell? ⟨w7.heap.size,0,none⟩=some (.int .i64 0)∧(w7.alloc (.cells #[.int .i64 0,.int .i64 0] 26)).cell? ⟨w7.heap.size,1,none⟩=some (.int .i64 0)):=hide ⟨by simp,by simp⟩
      have HZ:Hid (w7.heap.size < (w7.alloc (.cells #[.int .i64 0,.int .i64 0] 26)).heap.size):=hide (by simp)
      have HB7:=hide b7
      clear hro hb7 b7 b7a HIq t3
      go_upto_region 17 with fail
      generalize hw8:w7.alloc (.cells #[.int .i64 0,.int .i64 0] 26)=w8 at *
      generalize w7.heap.size=bo at *
      clear hw8
      have e0:∀ q:KB w8,q.w.cell? ⟨go,0,none⟩=some (.int .i64 kd):=fun q=>row_cellT (j:=0) (row_belowP HRO.out q.below) rfl
      have e1:∀ q:KB w8,q.w.cell? ⟨go,1,none⟩=some (.string ⟨tx.toArray⟩):=fun q=>row_cellT (j:=1) (row_belowP HRO.out q.below) rfl
      have e2:∀ q:KB w8,q.w.cell? ⟨go,2,none⟩=some (.int .i64 nn):=fun q=>row_cellT (j:=2) (row_belowP HRO.out q.below) rfl
      have e3:∀ q:KB w8,q.w.cell? ⟨go,3,none⟩=some (.int .i64 0):=fun q=>row_cellT (j:=3) (row_belowP HRO.out q.below) rfl
      have o0:∀ q:KB w8,q.w.cell? ⟨bo,0,none⟩=some (.int .i64 0):=fun q=>(q.below.cell (p:=⟨bo,0,none⟩) HZ.out).trans HX.out.1
      have o1:∀ q:KB w8,q.w.cell? ⟨bo,1,none⟩=some (.int .i64 0):=fun q=>(q.below.cell (p:=⟨bo,1,none⟩) HZ.out).trans HX.out.2
      have u0:∀ q:KB w8,q.w.cell? ⟨gs,i*4,none⟩=some (.int .i64 kd):=fun q=>s0 ⟨_,HB7.out.trans (q.below.mono HB7.out.size)⟩
      have u1:∀ q:KB w8,q.w.cell? ⟨gs,i*4+1,none⟩=some (.string ⟨tx.toArray⟩):=fun q=>s1 ⟨_,HB7.out.trans (q.below.mono HB7.out.size)⟩
      have u2:∀ q:KB w8,q.w.cell? ⟨gs,i*4+2,none⟩=some (.int .i64 nn):=fun q=>s2 ⟨_,HB7.out.trans (q.below.mono HB7.out.size)⟩
      clear s0 s1 s2 s3
      haveI hne8:Nonempty (KB w8):=⟨⟨_,Below.refl _ _⟩⟩
      go_wp2_with fail
      refine region_class (KB.w (w:=w8)) (by kernel_rfl) (by kernel_rfl) ⟨⟨_,below_drewN (Below.refl _ _) _⟩,rfl⟩ ?_
      repeat (go_big_quiet_step (fail))
      refine wpQuiet_nil ?_
      rintro _ ⟨q9,rfl⟩
      have HF:=hide (HW.out.trans ((HB7.out.trans (q9.below.mono HB7.out.size)).mono HW.out.size))
      clear e0 e1 e2 e3 o0 o1 u0 u1 u2
      go_wp2
      go_roundw
      case rel=>exact ⟨i+1,by omega,by go_num,HF.out⟩
      case measure=>simp [intOf];omega
   ·obtain rfl:i=ts.length:=by omega
    have HF:=hide HB.out.B
    go_wp2
    go_ret
    exact ⟨rfl,HF.out⟩
def Tr.rankB (op:Int):Int:=if op≤2 then op else if op≤9 then 4 else if op≤11 then 5 else 6
def Tr.rankOf (k op:Int):Int :=
 if k=14∨k=13∨k=15 then 0
 else if k=7 then Tr.rankB op
 else if k=6 then (if op=1 then 3 else 7)
 else if k=10∨k=11∨k=12 then 8
 else 9
def Tr.marks:List (List UInt8):=[[],[111,114],[97,110,100],[61,61],[33,61],[60],[60,61],[62],[62,61],[104,97,115],[43],[45],[42],[47],[37]]
def Tr.markOf (op:Nat):List UInt8:=Tr.marks[op]?.getD []
set_option maxHeartbeats 400000 in
theorem rank_any (op:Int) (w:World):Calls Tryz.prog 73 #[.int .i64 op] w fun e w'=>e = .returned (.int .i64 (Tr.rankB op))∧w'=w:=by
 by_cases h1:op≤2
 ·go_enter Tryz.func73,Tryz.ntmps73
  go_wp2
  go_ret
  exact ⟨ret_int (by unfold Tr.rankB;rw [if_pos h1]),rfl⟩
 ·by_cases h2:op≤9
  ·go_enter Tryz.func73,Tryz.ntmps73
   go_wp2
   go_ret
   exact ⟨ret_int (by unfold Tr.rankB;rw [if_neg (by omega),if_pos h2]),rfl⟩
  ·by_cases h3:op≤11
   ·go_enter Tryz.func73,Tryz.ntmps73
    go_wp2
    go_ret
    exact ⟨ret_int (by unfold Tr.rankB;rw [if_neg (by omega),if_neg (by omega),if_pos h3]),rfl⟩
   ·go_enter Tryz.func73,Tryz.ntmps73
    go_wp2
    go_ret
    exact ⟨ret_int (by unfold Tr.rankB;rw [if_neg (by omega),if_neg (by omega),if_neg (by omega)]),rfl⟩
set_option maxRecDepth 100000 in
set_option maxHeartbeats 1000000 in
theorem rankOf_any (k op n m:Int) (s:ByteArray) (w:World):Calls Tryz.prog 72 #[.agg #[.int .i64 k,.int .i64 op,.int .i64 n,.string s,.int .i64 m]] w fun e w'=>e = .returned (.int .i64 (Tr.rankOf k op))∧Below w.heap.size w w':=by
 have hB:Below w.heap.size w (w.alloc (.cells #[.int .i64 k,.int .i64 op,.int .i64 n,.string s,.int .i64 m] 82)):=bA _
 have hcases:k=14∨k=13∨k=15∨k=7∨k=6∨k=10∨k=11∨k=12∨(k≠14∧k≠13∧k≠15∧k≠7∧k≠6∧k≠10∧k≠11∧k≠12):=by omega
 rcases hcases with rfl | rfl | rfl | rfl | rfl | rfl | rfl | rfl | h
 ·go_enter Tryz.func72,Tryz.ntmps72
  go_wp2
  go_ret
  exact ⟨rfl,hB⟩
 ·go_enter Tryz.func72,Tryz.ntmps72
  go_wp2
  go_ret
  exact ⟨rfl,hB⟩
 ·go_enter Tryz.func72,Tryz.ntmps72
  go_wp2
  go_ret
  exact ⟨rfl,hB⟩
 ·go_enter Tryz.func72,Tryz.ntmps72
  go_wp2_with (go_at_call 73;refine (rank_any _ _).mono ?_;rintro e w' ⟨rfl,rfl⟩)
  go_ret
  exact ⟨rfl,hB⟩
 ·cases h1:(op == 1)
  ·have h2:Tr.rankOf 6 op=7:=by
    have:op≠1:=by simpa using h1
    simp [Tr.rankOf,this]
   have H2:=hide h2
   clear h2
   go_enter Tryz.func72,Tryz.ntmps72
   go_wp2
   go_ret
   exact ⟨ret_int H2.out.symm,hB⟩
  ·have h2:Tr.rankOf 6 op=3:=by
    have:op=1:=by simpa using h1
    simp [Tr.rankOf,this]
   have H2:=hide h2
   clear h2
   go_enter Tryz.func72,Tryz.ntmps72
   go_wp2
   go_ret
   exact ⟨ret_int H2.out.symm,hB⟩
 ·go_enter Tryz.func72,Tryz.ntmps72
  go_wp2
  go_ret
  exact ⟨rfl,hB⟩
 ·go_enter Tryz.func72,Tryz.ntmps72
  go_wp2
  go_ret
  exact ⟨rfl,hB⟩
 ·go_enter Tryz.func72,Tryz.ntmps72
  go_wp2
  go_ret
  exact ⟨rfl,hB⟩
 ·have H2:=hide (show Tr.rankOf k op=9 by unfold Tr.rankOf;rw [if_neg (by omega),if_neg (by omega),if_neg (by omega),if_neg (by omega)])
  have q14:(k == 14)=false:=by simp;omega
  have q13:(k == 13)=false:=by simp;omega
  have q15:(k == 15)=false:=by simp;omega
  have q7:(k == 7)=false:=by simp;omega
  have q6:(k == 6)=false:=by simp;omega
  have q10:(k == 10)=false:=by simp;omega
  have q11:(k == 11)=false:=by simp;omega
  have q12:(k == 12)=false:=by simp;omega
  clear h
  go_enter Tryz.func72,Tryz.ntmps72
  go_wp2
  go_ret
  exact ⟨ret_int H2.out.symm,hB⟩
set_option maxRecDepth 100000 in
set_option maxHeartbeats 1000000 in
theorem mark_any (op:Nat) (w:World) (h:op < 15):Calls Tryz.prog 74 #[.int .i64 op] w fun e w'=>e = .returned (.string ⟨(Tr.markOf op).toArray⟩)∧Below w.heap.size w w':=by
 have hl:=lies_lit w 9 Tr.marks op h
 have hm:Tr.marks[op]=Tr.markOf op:=by
  unfold Tr.markOf
  rw [List.getElem?_eq_getElem (show op < Tr.marks.length from h)]
  rfl
 rw [hm] at hl
 clear hm
 have hl2:(w.alloc (.cells #[.string ⟨#[]⟩,.string ⟨#[111,114]⟩,.string ⟨#[97,110,100]⟩,.string ⟨#[61,61]⟩,.string ⟨#[33,61]⟩,.string ⟨#[60]⟩,.string ⟨#[60,61]⟩,.string ⟨#[62]⟩,.string ⟨#[62,61]⟩,.string ⟨#[104,97,115]⟩,.string ⟨#[43]⟩,.string ⟨#[45]⟩,.string ⟨#[42]⟩,.string ⟨#[47]⟩,.string ⟨#[37]⟩] 9)).cell? ⟨w.heap.size,op,none⟩=some (.string ⟨(Tr.markOf op).toArray⟩):=hl
 clear hl
 generalize (Tr.markOf op).toArray=mo at *
 go_enter Tryz.func74,Tryz.ntmps74
 go_wp2
 go_ret
 exact ⟨rfl,bA _⟩
theorem step_call1 {P:Program} {ops:Array Oper} {o:Oper} {a:Act} {w:World} {K:Act→World→Prop} {Q:Exit→Act→World→Prop} {E:Prop}
  (hg:o.guard=none) (f:FuncId) (x:Operand) (t:TypeId) (hop:o.op=Op.call {callee:=Callee.value (Operand.func f),args:=#[x],argTypes:=#[t]})
  (v r:Value) (hx:a.eval x=v) (fn:Func) (hfn:P.funcs[f]?=some fn) (hne:(fn.name == "runtime.NumGoroutine")=false) (hbd:fn.body.isNone=false) (R:World→Prop) (hC:Calls P f #[v] w fun e w'=>e = .returned r∧R w') (hK:∀ w',R w'→K (a.put o.dst r) w') :
  if Region.wanted o (yielded ops a.tmps)=true then Oper.wp P o a w K Q else E:=by
 have hw:Region.wanted o (yielded ops a.tmps)=true:=by simp [Region.wanted,hg]
 rw [if_pos hw]
 have h1:(callFunc f #[v]).run P w = .ok (.enter f #[v]) w:=by
  simp only [callFunc,Sem.run_bind,run_program,Result.andThen_ok,hfn,hne,hbd];rfl
 unfold Oper.wp
 simp only [execOp,hop,resolve,invoke,List.map_toArray,List.map_cons,List.map_nil,hx,Deferred.ofValue,Sem.run_bind]
 rw [show a.eval (Operand.func f)=Value.func (Fn.func f) #[] #[] from rfl]
 simp only [Sem.run_pure,Result.andThen_ok]
 simp [h1]
 refine hC.mono fun e w2 h=>?_
 obtain ⟨rfl,h2⟩:=h
 exact hK _ h2
def Tr.dg (n:Nat):UInt8:=UInt8.ofNat (48+n % 10)
def Tr.dec (n:Nat):List UInt8:=if _h:n < 10 then [Tr.dg n] else Tr.dec (n / 10)++[Tr.dg n]
theorem Tr.dec_len (n:Nat):(Tr.dec n).length≤n / 10+1:=by
 induction n using Nat.strongRecOn with
 | ind n ih =>
  rw [Tr.dec]
  by_cases h:n < 10
  ·rw [dif_pos h];simp
  ·rw [dif_neg h]
   have:=ih (n / 10) (by omega)
   simp only [List.length_append,List.length_cons,List.length_nil]
   omega
theorem cell_byte (W:World) (x:Int):(W.alloc (.cells #[.int .u8 x] 5)).cell? ⟨W.heap.size,0,none⟩=some (.int .u8 x):=by simp
theorem str_snoc (o:List UInt8) (c:UInt8):(⟨o.toArray⟩:ByteArray)++⟨#[c]⟩=⟨(o++[c]).toArray⟩:=by
 rw [← Lib.mk_data (⟨o.toArray⟩++⟨#[c]⟩)]
 congr 1
theorem below_of_drew {B:Nat} {a w:World} (h:Below B a.drew w):Below B a w:=⟨h.os,h.tape,h.output,h.size,h.block⟩
theorem one_byte (W:World) (g:Nat) (j:Nat) (x:Int) (hx:x=48+(j:Int) % 10) (h:W.cell? ⟨g,0,none⟩=some (.int .u8 x)):(convert 22 9 (.slice (some ⟨g,0,none⟩) 1 1)).run Tryz.prog W = .ok (.string ⟨#[Tr.dg j]⟩) W:=by
 have:=run_convert_bytes_arg (P:=Tryz.prog) W 22 5 Tryz.underlying22 Tryz.underlying5 g 0 1 1 [x] rfl (fun i hi=>by
  obtain rfl:i=0:=by omega
  simpa using h) 9 Tryz.underlying9
 rw [this]
 subst hx
 have e:(48+(j:Int) % 10).toNat=48+j % 10:=by omega
 simp [strOfNums,e,Tr.dg]
set_option maxRecDepth 100000 in
set_option maxHeartbeats 1000000 in
theorem dec_any (n:Nat):∀ (w:World),n≤9223372036854775807→Calls Tryz.prog 20 #[.int .i64 n] w fun e w'=>e = .returned (.string ⟨(Tr.dec n).toArray⟩)∧Below w.heap.size w w':=by
 induction n using Nat.strongRecOn with
 | ind n ih =>
  intro w hn
  by_cases h:n < 10
  ·have h':((n:Int) < 10):=by omega
   have hcv:=one_byte (w.alloc (.cells #[.int .u8 (48+(n:Int))] 5)) w.heap.size n (48+(n:Int)) (by omega) (by simp)
   have HD:=hide (show Tr.dec n=[Tr.dg n] by rw [Tr.dec,dif_pos h])
   go_enter Tryz.func20,Tryz.ntmps20
   go_wp2
   go_ret
   exact ⟨by rw [HD.out];rfl,bA _⟩
  ·have h':¬ ((n:Int) < 10):=by omega
   have HD:=hide (show Tr.dec n=Tr.dec (n / 10)++[Tr.dg n] by rw [Tr.dec,dif_neg h])
   have HI:=hide (fun w'=>ih (n / 10) (by omega) w' (by omega))
   clear ih
   have ht:(n:Int).tmod 10=(n:Int) % 10:=Int.tmod_eq_emod_of_nonneg (by omega)
   have hq:IntKind.i64.wrap ((n:Int) / 10)=(n:Int) / 10:=by rw [IntKind.wrap_i64];omega
   have hr:IntKind.i64.wrap (48+(n:Int) % 10)=48+(n:Int) % 10:=by rw [IntKind.wrap_i64];omega
   have hu:IntKind.u8.wrap (48+(n:Int) % 10)=48+(n:Int) % 10:=by rw [IntKind.wrap_u8];omega
   have hcl:(w.alloc (.cells #[.int .u8 (48+(n:Int) % 10)] 5)).drew.cell? ⟨w.heap.size,0,none⟩=some (.int .u8 (48+(n:Int) % 10)):=cell_byte w _
   have hlen:¬ 9223372036854775807 < (Tr.dec (n / 10)).length+1:=by have:=Tr.dec_len (n / 10);omega
   have hcvD:=one_byte (w.alloc (.cells #[.int .u8 (48+(n:Int) % 10)] 5)).drew w.heap.size n _ rfl hcl
   have HCL:=hide hcl
   clear hcl
   go_enter Tryz.func20,Tryz.ntmps20
   go_wp2_with fail
   go_region_law (first
    | (refine step_call1 rfl 20 (.tmp 11) 2 rfl (.int .i64 (n / 10:Nat)) (.string ⟨(Tr.dec (n / 10)).toArray⟩) (by simp [Act.eval,Act.put]) Tryz.f20 Tryz.func20 (by kernel_rfl) (by kernel_rfl) _ (HI.out w.drew) ?_;intro w5 hb5;have hcvA:=one_byte (w5.alloc (.cells #[.int .u8 (48+(n:Int) % 10)] 5)) w5.heap.size n _ rfl (by simp))
    | (refine step_call1 rfl 20 (.tmp 11) 2 rfl (.int .i64 (n / 10:Nat)) (.string ⟨(Tr.dec (n / 10)).toArray⟩) (by first | (simp [Act.eval];done) | simp [Act.eval,Act.put]) Tryz.f20 Tryz.func20 (by kernel_rfl) (by kernel_rfl) _ (HI.out (w.alloc (.cells #[.int .u8 (48+(n:Int) % 10)] 5)).drew) ?_;intro w5 hb5;have hcvB:=one_byte w5 w.heap.size n (48+(n:Int) % 10) rfl ((hb5.cell (p:=⟨w.heap.size,0,none⟩) (by show w.heap.size < (w.alloc (.cells #[.int .u8 (48+(n:Int) % 10)] 5)).heap.size;simp)).trans HCL.out)))
   all_goals
    go_wp2
    go_ret
    refine ⟨by rw [HD.out,← str_snoc];rfl,?_⟩
    first
     | exact (below_of_drew hb5).alloc hb5.size _
     | exact ((Below.refl _ w).alloc (Nat.le_refl _) _).trans ((below_of_drew hb5).mono (by simp))
end Go.Proofs.YtbckhbeebngjfaaGreatDoor
