/- Hv, Hw, Cx. -/
import Derived.Test.YtbckhbeebngjfaaGreatDoorT27
import Derived.BigQuiet
import Derived.Test.YtbckhbeebngjfaaGreatDoorT39
namespace Go.Proofs.YtbckhbeebngjfaaGreatDoor
open Go.RowKit
theorem rowLeP {w:World} {base base' size:Nat} {e:TypeId} {v:Value} {n:Nat} {xs:List Value} (h:w.ownsRow base e size v n xs) (hb:base'≤base):w.ownsRow base' e size v n xs:=by
 refine ⟨h.1,?_⟩
 rcases h.2 with h1 | ⟨g',cap',cur,hv,h2,h3⟩
 ·exact .inl h1
 ·exact .inr ⟨g',cap',cur,hv,Nat.le_trans hb h2,h3⟩
theorem Pr.result_no {q:Pr.Dk} {n:Nat} {l:List Tr.Nd} (hl:(Pr.put q 24 0 0 [] n).out=l) (hb:q.bad=false) (hv:Tr.valid l=false):Pr.result (q,n)=([],7,0):=by
 have e:q.out++[⟨24,0,0,⟨#[]⟩,(n:Int)⟩]=l:=hl
 unfold Pr.result
 rw [if_neg (by simp [hb]),if_neg (by simp only [e,hv];decide)]
theorem Pr.result_yes {q:Pr.Dk} {n:Nat} {l:List Tr.Nd} (hl:(Pr.put q 24 0 0 [] n).out=l) (hb:q.bad=false) (hv:Tr.valid l=true):Pr.result (q,n)=(l,0,0):=by
 have e:q.out++[⟨24,0,0,⟨#[]⟩,(n:Int)⟩]=l:=hl
 unfold Pr.result
 rw [if_neg (by simp [hb]),if_pos (by simp only [e,hv])]
 simp only [e]
set_option maxRecDepth 100000 in
set_option maxHeartbeats 4000000 in
theorem parse_toks (s:ByteArray) (w:World) (hs:s.size≤1048576) (hc:Sc.code s=0) (hne:(Sc.toks s)≠[]) :
  Calls Tryz.prog 37 #[.string s] w fun e w'=>∃ r,Pr.Comes s r∧ParsePost w (Pr.result r) e w':=by
 have HP0:=hide (PB.new w)
 have HQ:=hide (sscan_any s ((w.alloc treeO).alloc (fltO 0 0)) hs)
 have hci:((Sc.code s:Nat):Int)=0:=by omega
 have hln:=Sc.toks_lenP s
 have HCO:Hid (∀ r,Pr.Cv (Sc.toks s) s.size (.fileL 0) Pr.dk0 r→Pr.Comes s r):=hide (fun _ h=>h)
 rw [hci] at HQ
 have HNE:=hide hne
 clear hci hne
 go_enter Tryz.func37,Tryz.ntmps37
 go_wp2_with fail
 refine HQ.out.mono ?_
 rintro e w1 ⟨v,rfl,hown,hb1⟩
 have hp2:=(HP0.out.below hb1).below (bA (fltO 0 (Sc.at_ s)))
 have hz2:=hp2.z
 generalize Sc.toks s=ts at *
 rcases hown.2 with ⟨_,h0⟩ | ⟨tg,tc,cur,hv,_⟩
 ·exact absurd (List.eq_nil_of_length_eq_zero h0) HNE.out
 ·subst hv
  have hrow:=row_belowP hown ((Below.refl w1.heap.size w1).alloc (Nat.le_refl _) (fltO 0 (Sc.at_ s)))
  have hd:=DK.init (sz:=s.size) hrow (by omega)
  have hp3:=hp2.below (bA (.cells #[.slice (some ⟨tg,0,none⟩) ts.length tc,.int .i64 s.size,.int .i64 0,.bool false,.int .i64 0,.slice none 0 0] 92))
  rw [World.size_alloc] at hd
  have HD0:=hide hd
  have HPH:Hid (Pr.phi ts Pr.dk0≤1000000):=hide (by unfold Pr.phi Pr.dk0;simp;omega)
  have HP3:=hide hp3
  have HZ2:=hide hz2
  clear hd hp2 hp3 hrow hown hb1 HQ hz2
  go_wp2_with fail
  go_loopw [7] (fun t wr=>∃ (n:Nat) (q:Pr.Dk) (vq:Value),t = .int .i64 n∧n≤q.p+1∧(q.bad=false→n≤q.p)∧DK (w1.heap.size+1) tg tc ts s.size vq q wr∧Pr.Gr (w1.heap.size+1) (.slice none 0 0) vq ((w1.alloc (fltO 0 (Sc.at_ s))).alloc (.cells #[.slice (some ⟨tg,0,none⟩) ts.length tc,.int .i64 s.size,.int .i64 0,.bool false,.int .i64 0,.slice none 0 0] 92)) wr∧Pr.Stp ts Pr.dk0 q 0∧∀ rr,Pr.Cv ts s.size (.fileL n) q rr→Pr.Comes s rr) (fun _ wr=>Pr.leftB (w1.heap.size+1) ts wr)
  case atStart=>exact ⟨0,Pr.dk0,_,rfl,Nat.zero_le _,fun _=>Nat.zero_le _,HD0.out,.refl _ _ _,.refl (Nat.zero_le _),HCO.out⟩
  case round =>
   obtain ⟨n,q,v30,rfl,hn1,hn2,hd30,hg30,hs30,hi30⟩:=hrel
   have c0:=hd30.c0
   have c2:=hd30.c2
   have c3:=hd30.c3
   have hle:=hd30.le
   have HD30:=hide hd30
   have HG30:=hide hg30
   have HS30:=hide hs30
   have HI30:=hide hi30
   clear hd30 hg30 hs30 hi30
   cases hbad:q.bad
   ·rw [hbad] at c3
    have hnp:=hn2 hbad
    by_cases hlt:q.p < ts.length
    ·have hlti:(q.p:Int) < (ts.length:Int):=by omega
     have HF:=hide (show (q.bad || decide (ts.length≤q.p))=false from by rw [hbad];simp;omega)
     have hd31:=HD30.out.below (Below.refl _ _).drew
     have HD31:=hide hd31
     have HG31:=hide (HG30.out.trans (.below (Below.refl _ _).drew))
     clear hd31
     go_wp2_with fail
     go_region
     all_goals
      have Q32:=hide (Pr.statement_any _ _ _ _ _ q _ _ HD31.out (HS30.out.phi (by first | omega | (simp only [Pr.extra];omega)) (Nat.zero_le _) HPH.out))
      go_wp2_with fail
      refine Q32.out.mono ?_
      rintro e32 w32 ⟨r32,rfl,hc32,v32,hd32,hg32⟩
      have HC32:=hide hc32
      have HD32:=hide hd32
      have HG32:=hide (HG31.out.trans hg32)
      have hst:=hc32.stp hle
      have HS32:Hid (Pr.Stp ts Pr.dk0 r32.1 0):=hide ((HS30.out.trans hst).mono (by simp only [Pr.extra];omega))
      have hon:=hc32.on
      have HNA:=hide (show n+1≤r32.1.p+1 from by have:=hst.ge;omega)
      have HNB:=hide (show r32.1.bad=false→n+1≤r32.1.p from fun h=>by rcases hon with h1 | h1;rw [h] at h1;cases h1;omega)
      have HM:=hide (show Pr.leftB (w1.heap.size+1) ts w32 < Pr.leftB (w1.heap.size+1) ts wr from by
       rw [HD32.out.leftB,HD30.out.leftB,hbad]
       rcases hon with h1 | h1
       ·rw [h1];simp
       ·have:=HD32.out.le
        simp only [Bool.false_eq_true,if_false]
        split <;> omega)
      clear hc32 hd32 hg32 hst hon Q32
      go_wp2
      go_roundw
      case rel=>exact ⟨n+1,r32.1,v32,by go_num,HNA.out,HNB.out,HD32.out,HG32.out,HS32.out,fun rr h=>HI30.out _ (Pr.Cv.fileL_go HF.out HC32.out h)⟩
      case measure=>exact HM.out
    ·have hlti:¬ (q.p:Int) < (ts.length:Int):=by omega
     have hltd:decide ((q.p:Int) < (ts.length:Int))=false:=by simpa using hlti
     have HR:=hide (HI30.out _ (Pr.Cv.fileL_end (by rw [hbad];simp;omega)))
     have hd31:=HD30.out.below (Below.refl _ _).drew
     have c3d:=hd31.c3
     rw [hbad] at c3d
     have HD31:=hide hd31
     have HG31:=hide (HG30.out.trans (.below (Below.refl _ _).drew))
     have hol:q.out.length≤100000000:=HS30.out.len (by first | omega | (simp only [Pr.extra];omega)) (Nat.zero_le _) HPH.out
     have hol2:q.out.length≤1000000:=by have h1:=HS30.out.phi (by first | omega | (simp only [Pr.extra];omega)) (Nat.zero_le _) HPH.out;unfold Pr.phi at h1;omega
     have hb4:w.heap.size+1 < w1.heap.size+1:=by have:=HZ2.out;simp at this;omega
     have HB4:=hide hb4
     clear hd31 hb4
     go_wp2_with fail
     go_region
     all_goals
      have Q32:=hide (put_any HD31.out hol 24 0 0 [] n)
      go_wp2_with fail
      refine Q32.out.mono ?_
      rintro e32 w32 ⟨rfl,v32,hd32,hg32⟩
      obtain ⟨L,hL⟩:∃ L,(Pr.put q 24 0 0 [] n).out=L:=⟨_,rfl⟩
      have hLl:L.length=q.out.length+1:=by rw [← hL,Pr.put_len]
      have hrL:=hd32.row
      rw [hL] at hrL
      rcases hrL.2 with ⟨_,h0⟩ | ⟨g,cp,cur2,hv,_⟩
      ·omega
      subst hv
      have hpb:=(HP3.out.gr (HG31.out.trans hg32) HB4.out (fun _ e=>by cases e)).below (bA (.cells #[.slice (some ⟨g,0,none⟩) L.length cp] 50))
      have c5:=hd32.c5
      have hrow3:=row_belowP hrL ((Below.refl w32.heap.size w32).alloc (Nat.le_refl _) (.cells #[.slice (some ⟨g,0,none⟩) L.length cp] 50))
      have hll:L.length≤1048576:=by omega
      have HV:=hide (valid_any L g cp _ hll (nodesAt_row hrow3))
      have HROW:=hide hrow3
      have HPB:=hide hpb
      have HLL:=hide hL
      clear hd32 hg32 hrow3 hpb Q32 hrL hL
      obtain ⟨bv,hval⟩:∃ b,Tr.valid L=b:=⟨_,rfl⟩
      rw [hval] at HV
      have HVL:=hide hval
      clear hval hll hLl
      cases bv
      ·go_wp2_with fail
       refine HV.out.mono ?_
       rintro e33 w33 ⟨rfl,hb33⟩
       have hpb3:=HPB.out.below hb33
       have t0:=hpb3.t0
       have f0:=hpb3.f0
       have f1:=hpb3.f1
       have ft:=hpb3.ft
       have ff0:=hpb3.ff 0
       have ff1:=hpb3.ff 1
       have HPB3:=hide hpb3
       have HRR:=hide (Pr.result_no HLL.out hbad HVL.out)
       clear hb33 hpb3
       go_wp2
       refine bodyPost_ret (v:= .tuple #[.agg #[.slice none 0 0],.agg #[.int .i64 7,.int .i64 0]]) (by simp [results,Tryz.results37,go_sem,t0,f0,f1]) rfl ⟨(q,n),HR.out,?_⟩
       rw [HRR.out]
       refine ⟨_,rfl,World.ownsRow_nil _ _ _ _,?_⟩
       repeat (first | (refine Below.setCell ?_ (by show w.heap.size≤_;simp) _) | (refine Below.drew ?_))
       exact HPB3.out.B
      ·go_wp2_with fail
       refine HV.out.mono ?_
       rintro e33 w33 ⟨rfl,hb33⟩
       have hpb3:=HPB.out.below hb33
       have t0:=hpb3.t0
       have f0:=hpb3.f0
       have f1:=hpb3.f1
       have ft:=hpb3.ft
       have ff0:=hpb3.ff 0
       have ff1:=hpb3.ff 1
       have x0:w33.cell? ⟨w32.heap.size,0,none⟩=some (Value.slice (some ⟨g,0,none⟩) L.length cp):=(hb33.cell (p:=⟨w32.heap.size,0,none⟩) (show w32.heap.size < (w32.alloc (.cells #[.slice (some ⟨g,0,none⟩) L.length cp] 50)).heap.size by simp)).trans (by simp [go_sem])
       have HROW3:=hide (rowLeP (row_belowP HROW.out hb33) (show w.heap.size+2≤w1.heap.size+1+1 by have:=HB4.out;omega))
       have HPB3:=hide hpb3
       have HRR:=hide (Pr.result_yes HLL.out hbad HVL.out)
       clear hb33 hpb3
       go_wp2
       refine bodyPost_ret (v:= .tuple #[.agg #[.slice (some ⟨g,0,none⟩) L.length cp],.agg #[.int .i64 0,.int .i64 0]]) (by simp [results,Tryz.results37,go_sem,t0,f0,f1]) rfl ⟨(q,n),HR.out,?_⟩
       rw [HRR.out]
       refine ⟨_,rfl,?_,?_⟩
       ·refine rowLeP (base:=w.heap.size+2) ?_ (by omega)
        repeat (refine ownsRow_setCell_below ?_ (by show _ < w.heap.size+2;simp) _)
        exact HROW3.out
       ·repeat (first | (refine Below.setCell ?_ (by show w.heap.size≤_;simp) _) | (refine Below.drew ?_))
        exact HPB3.out.B
   ·rw [hbad] at c3
    have c4:=HD30.out.c4
    have hpb:=HP3.out.gr HG30.out (by have:=HZ2.out;simp at this;omega) (fun _ e=>by cases e)
    have t0:=hpb.t0
    have f0:=hpb.f0
    have f1:=hpb.f1
    have ft:=hpb.ft
    have ff0:=hpb.ff 0
    have ff1:=hpb.ff 1
    have HPB:=hide hpb
    have HR:=hide (HI30.out _ (Pr.Cv.fileL_end (by rw [hbad];rfl)))
    have HRR:=hide (show Pr.result (q,n)=([],6,q.place) from by unfold Pr.result;simp [hbad])
    clear hpb
    go_wp2_with fail
    go_region
    all_goals
     go_wp2
     go_region
     all_goals
      try go_wp2
      refine bodyPost_ret (v:= .tuple #[.agg #[.slice none 0 0],.agg #[.int .i64 6,.int .i64 q.place]]) (by simp [results,Tryz.results37,go_sem,t0,f0,f1]) rfl ⟨(q,n),HR.out,?_⟩
      rw [HRR.out]
      refine ⟨_,rfl,World.ownsRow_nil _ _ _ _,?_⟩
      repeat (first | (refine Below.setCell ?_ (by show w.heap.size≤_;simp) _) | (refine Below.drew ?_))
      exact HPB.out.B
set_option maxRecDepth 100000 in
set_option maxHeartbeats 1000000 in
theorem put_first {b:Nat} {w:World} (hc:w.cell? ⟨b,5,none⟩=some (.slice none 0 0)) (hf:w.frozen? ⟨b,5,none⟩=false) (k o n:Int) (t:List UInt8) (c:Nat) :
  Calls Tryz.prog 58 #[.pointer (some ⟨b,0,none⟩),.agg #[.int .i64 k,.int .i64 o,.int .i64 n,.string ⟨t.toArray⟩,.int .i64 c]] w fun e w'=>e = .returned (.tuple #[])∧∃ v',w'.cell? ⟨b,5,none⟩=some v'∧w'.ownsRow (b+1) 82 5 v' 1 (Tr.Nd.cells ⟨k,o,n,⟨t.toArray⟩,c⟩)∧Pr.Gr b (.slice none 0 0) v' w w':=by
 obtain ⟨iN,hN,hNz,hNs,hNb⟩:=info_parts Tryz.infoNdP
 have hl:b < w.heap.size:=World.block_lt_of_cell? w ⟨b,5,none⟩ hc
 have bb:Below w.heap.size w (w.alloc (.cells #[.int .i64 k,.int .i64 o,.int .i64 n,.string ⟨t.toArray⟩,.int .i64 c] 82)):=bA _
 have c5:(w.alloc (.cells #[.int .i64 k,.int .i64 o,.int .i64 n,.string ⟨t.toArray⟩,.int .i64 c] 82)).cell? ⟨b,5,none⟩=some (.slice none 0 0):=(bb.cell (p:=⟨b,5,none⟩) hl).trans hc
 have f5:(w.alloc (.cells #[.int .i64 k,.int .i64 o,.int .i64 n,.string ⟨t.toArray⟩,.int .i64 c] 82)).frozen? ⟨b,5,none⟩=false:=(bb.frozen (p:=⟨b,5,none⟩) hl).trans hf
 have hz1:(w.alloc (.cells #[.int .i64 k,.int .i64 o,.int .i64 n,.string ⟨t.toArray⟩,.int .i64 c] 82)).heap.size=w.heap.size+1:=by simp
 have b2:Below w.heap.size w ((w.alloc (.cells #[.int .i64 k,.int .i64 o,.int .i64 n,.string ⟨t.toArray⟩,.int .i64 c] 82)).alloc (.cells #[.int .i64 k,.int .i64 o,.int .i64 n,.string ⟨t.toArray⟩,.int .i64 c] 82)).drew:=(bb.alloc (by simp) (.cells #[.int .i64 k,.int .i64 o,.int .i64 n,.string ⟨t.toArray⟩,.int .i64 c] 82)).drew
 have C3:=hide ((b2.cell (p:=⟨b,5,none⟩) hl).trans hc)
 have F3:=hide ((b2.frozen (p:=⟨b,5,none⟩) hl).trans hf)
 have G3:Hid (Pr.Gr b (.slice none 0 0) (.slice none 0 0) w ((w.alloc (.cells #[.int .i64 k,.int .i64 o,.int .i64 n,.string ⟨t.toArray⟩,.int .i64 c] 82)).alloc (.cells #[.int .i64 k,.int .i64 o,.int .i64 n,.string ⟨t.toArray⟩,.int .i64 c] 82)).drew):=hide (.below b2)
 have L3:Hid (b < ((w.alloc (.cells #[.int .i64 k,.int .i64 o,.int .i64 n,.string ⟨t.toArray⟩,.int .i64 c] 82)).alloc (.cells #[.int .i64 k,.int .i64 o,.int .i64 n,.string ⟨t.toArray⟩,.int .i64 c] 82)).drew.heap.size):=hide (Nat.lt_of_lt_of_le hl b2.size)
 clear b2 bb hc hf
 go_enter Tryz.func58,Tryz.ntmps58
 go_wp2_with fail
 go_region_law ((refine step_append_ownP rfl (.tmp 8) (.tmp 10) 48 rfl (b+1) 82 iN _ 5 48 Tryz.underlying48 hN hNz hNs hNb rfl (by decide) (.slice none 0 0) 0 [] (by simp [Act.eval]) (World.ownsRow_nil _ _ _ _) ⟨w.heap.size+1,0,none⟩ 1 1 [.int .i64 k,.int .i64 o,.int .i64 n,.string ⟨t.toArray⟩,.int .i64 c] (by simp [Act.eval]) rfl (cells_litP _ [_,_,_,_,_] _ _ (by simp)) (by simp [Value.oneCell']) (by unfold maxLen;omega) (by omega) (by have:=L3.out;omega) ?_;intro v5 w5 r1 r2 r3 r4;obtain ⟨p5,c5',rfl⟩:=row_formP r1;have q5:=(World.cell?_of_block (a:=⟨b,5,none⟩) (r2.block b L3.out (fun e=>by cases e))).trans C3.out;have q6:=(World.frozen?_of_block (a:=⟨b,5,none⟩) (r2.block b L3.out (fun e=>by cases e))).trans F3.out))
 all_goals
  have HR1:=hide r1
  have HR2:=hide r2
  have HR4:=hide r4
  have HQ5:=hide q5
  clear r1 r2 r3 r4
  go_wp2
  (first | go_end0 | refine bodyPost_ret (results_none rfl _ _ _) rfl ?_)
  refine ⟨rfl,_,World.cell?_setCell_same _ _ _ HQ5.out,?_,(G3.out.trans (.grown HR2.out HR4.out)).trans (.set _ _ _ _ _)⟩
  exact row_sameP HR1.out (fun g hg' _=>Below.heap_setCell _ _ _ _ (show g≠b by omega))
set_option maxRecDepth 100000 in
set_option maxHeartbeats 4000000 in
theorem parse_none (s:ByteArray) (w:World) (hs:s.size≤1048576) (hc:Sc.code s=0) (hne:Sc.toks s=[]) :
  Calls Tryz.prog 37 #[.string s] w fun e w'=>∃ r,Pr.Comes s r∧ParsePost w (Pr.result r) e w':=by
 have HP0:=hide (PB.new w)
 have HQ:=hide (sscan_any s ((w.alloc treeO).alloc (fltO 0 0)) hs)
 have hci:((Sc.code s:Nat):Int)=0:=by omega
 have HR:Hid (Pr.Comes s (Pr.dk0,0)):=hide (by unfold Pr.Comes;rw [hne];exact Pr.Cv.fileL_end rfl)
 rw [hci,hne] at HQ
 clear hci hne
 go_enter Tryz.func37,Tryz.ntmps37
 go_wp2_with fail
 refine HQ.out.mono ?_
 rintro e w1 ⟨v,rfl,hown,hb1⟩
 have hp2:=(HP0.out.below hb1).below (bA (fltO 0 (Sc.at_ s)))
 obtain ⟨tp,tq,hv⟩:=row_formP hown
 simp only [List.length_nil] at hv
 subst hv
 have hb4:w.heap.size+1 < w1.heap.size+1:=by have:=hp2.z;simp at this;omega
 have HB4:=hide hb4
 have hp3:=hp2.below (bA (.cells #[.slice tp 0 tq,.int .i64 s.size,.int .i64 0,.bool false,.int .i64 0,.slice none 0 0] 92))
 have c0:((w1.alloc (fltO 0 (Sc.at_ s))).alloc (.cells #[.slice tp 0 tq,.int .i64 s.size,.int .i64 0,.bool false,.int .i64 0,.slice none 0 0] 92)).cell? ⟨w1.heap.size+1,0,none⟩=some (.slice tp 0 tq):=by rw [show w1.heap.size+1=(w1.alloc (fltO 0 (Sc.at_ s))).heap.size from by simp];simp
 have c2:((w1.alloc (fltO 0 (Sc.at_ s))).alloc (.cells #[.slice tp 0 tq,.int .i64 s.size,.int .i64 0,.bool false,.int .i64 0,.slice none 0 0] 92)).cell? ⟨w1.heap.size+1,2,none⟩=some (.int .i64 0):=by rw [show w1.heap.size+1=(w1.alloc (fltO 0 (Sc.at_ s))).heap.size from by simp];simp
 have c3:((w1.alloc (fltO 0 (Sc.at_ s))).alloc (.cells #[.slice tp 0 tq,.int .i64 s.size,.int .i64 0,.bool false,.int .i64 0,.slice none 0 0] 92)).cell? ⟨w1.heap.size+1,3,none⟩=some (.bool false):=by rw [show w1.heap.size+1=(w1.alloc (fltO 0 (Sc.at_ s))).heap.size from by simp];simp
 have c5:((w1.alloc (fltO 0 (Sc.at_ s))).alloc (.cells #[.slice tp 0 tq,.int .i64 s.size,.int .i64 0,.bool false,.int .i64 0,.slice none 0 0] 92)).cell? ⟨w1.heap.size+1,5,none⟩=some (.slice none 0 0):=by rw [show w1.heap.size+1=(w1.alloc (fltO 0 (Sc.at_ s))).heap.size from by simp];simp
 have f5:((w1.alloc (fltO 0 (Sc.at_ s))).alloc (.cells #[.slice tp 0 tq,.int .i64 s.size,.int .i64 0,.bool false,.int .i64 0,.slice none 0 0] 92)).frozen? ⟨w1.heap.size+1,5,none⟩=false:=by rw [show w1.heap.size+1=(w1.alloc (fltO 0 (Sc.at_ s))).heap.size from by simp];simp
 have HP3:=hide hp3
 obtain ⟨W2,hW2⟩:∃ W,(w1.alloc (fltO 0 (Sc.at_ s))).alloc (.cells #[.slice tp 0 tq,.int .i64 s.size,.int .i64 0,.bool false,.int .i64 0,.slice none 0 0] 92)=W:=⟨_,rfl⟩
 rw [hW2] at c0 c2 c3 c5 f5 HP3
 have HC5:=hide c5
 have HF5:=hide f5
 have HW2:=hide hW2
 clear hp2 hp3 hown hb1 HQ hb4 hW2 c5 f5
 go_wp2_with fail
 rw [HW2.out]
 go_loopw [7] (fun t wr=>t = .int .i64 0∧wr=W2) (fun _ _=>0)
 case atStart=>exact ⟨rfl,rfl⟩
 case round =>
  obtain ⟨rfl,rfl⟩:=hrel
  have c3d:wr.drew.cell? ⟨w1.heap.size+1,3,none⟩=some (.bool false):=c3
  go_wp2_with fail
  go_region
  all_goals
   have Q32:=hide (put_first (show wr.drew.cell? ⟨w1.heap.size+1,5,none⟩=_ from HC5.out) (show wr.drew.frozen? ⟨w1.heap.size+1,5,none⟩=_ from HF5.out) 24 0 0 [] 0)
   go_wp2_with fail
   refine Q32.out.mono ?_
   rintro e32 w32 ⟨rfl,v32,c5,hrL,hg32⟩
   obtain ⟨L,hL⟩:∃ L,(Pr.put Pr.dk0 24 0 0 [] 0).out=L:=⟨_,rfl⟩
   have hLl:L.length=1:=by rw [← hL,Pr.put_len];rfl
   have hrL:w32.ownsRow (w1.heap.size+1+1) 82 5 v32 L.length (Tr.cellsOf L):=by rw [hLl,← hL];exact hrL
   rcases hrL.2 with ⟨_,h0⟩ | ⟨g,cp,cur2,hv,_⟩
   ·omega
   subst hv
   have hpb:=((HP3.out.below (Below.refl _ _).drew).gr hg32 HB4.out (fun _ e=>by cases e)).below (bA (.cells #[.slice (some ⟨g,0,none⟩) L.length cp] 50))
   have hrow3:=row_belowP hrL ((Below.refl w32.heap.size w32).alloc (Nat.le_refl _) (.cells #[.slice (some ⟨g,0,none⟩) L.length cp] 50))
   have hll:L.length≤1048576:=by omega
   have HV:=hide (valid_any L g cp _ hll (nodesAt_row hrow3))
   have HROW:=hide hrow3
   have HPB:=hide hpb
   have HLL:=hide hL
   clear hg32 hrow3 hpb Q32 hrL hL
   obtain ⟨bv,hval⟩:∃ b,Tr.valid L=b:=⟨_,rfl⟩
   rw [hval] at HV
   have HVL:=hide hval
   clear hval hll hLl
   cases bv
   ·go_wp2_with fail
    refine HV.out.mono ?_
    rintro e33 w33 ⟨rfl,hb33⟩
    have hpb3:=HPB.out.below hb33
    have t0:=hpb3.t0
    have f0:=hpb3.f0
    have f1:=hpb3.f1
    have ft:=hpb3.ft
    have ff0:=hpb3.ff 0
    have ff1:=hpb3.ff 1
    have HPB3:=hide hpb3
    have HRR:=hide (Pr.result_no HLL.out rfl HVL.out)
    clear hb33 hpb3
    go_wp2
    refine bodyPost_ret (v:= .tuple #[.agg #[.slice none 0 0],.agg #[.int .i64 7,.int .i64 0]]) (by simp [results,Tryz.results37,go_sem,t0,f0,f1]) rfl ⟨(Pr.dk0,0),HR.out,?_⟩
    rw [HRR.out]
    refine ⟨_,rfl,World.ownsRow_nil _ _ _ _,?_⟩
    repeat (first | (refine Below.setCell ?_ (by show w.heap.size≤_;simp) _) | (refine Below.drew ?_))
    exact HPB3.out.B
   ·go_wp2_with fail
    refine HV.out.mono ?_
    rintro e33 w33 ⟨rfl,hb33⟩
    have hpb3:=HPB.out.below hb33
    have t0:=hpb3.t0
    have f0:=hpb3.f0
    have f1:=hpb3.f1
    have ft:=hpb3.ft
    have ff0:=hpb3.ff 0
    have ff1:=hpb3.ff 1
    have x0:w33.cell? ⟨w32.heap.size,0,none⟩=some (Value.slice (some ⟨g,0,none⟩) L.length cp):=(hb33.cell (p:=⟨w32.heap.size,0,none⟩) (show w32.heap.size < (w32.alloc (.cells #[.slice (some ⟨g,0,none⟩) L.length cp] 50)).heap.size by simp)).trans (by simp [go_sem])
    have HROW3:=hide (rowLeP (row_belowP HROW.out hb33) (show w.heap.size+2≤w1.heap.size+1+1 by have:=HB4.out;omega))
    have HPB3:=hide hpb3
    have HRR:=hide (Pr.result_yes HLL.out rfl HVL.out)
    clear hb33 hpb3
    go_wp2
    refine bodyPost_ret (v:= .tuple #[.agg #[.slice (some ⟨g,0,none⟩) L.length cp],.agg #[.int .i64 0,.int .i64 0]]) (by simp [results,Tryz.results37,go_sem,t0,f0,f1]) rfl ⟨(Pr.dk0,0),HR.out,?_⟩
    rw [HRR.out]
    refine ⟨_,rfl,?_,?_⟩
    ·refine rowLeP (base:=w.heap.size+2) ?_ (by omega)
     repeat (refine ownsRow_setCell_below ?_ (by show _ < w.heap.size+2;simp) _)
     exact HROW3.out
    ·repeat (first | (refine Below.setCell ?_ (by show w.heap.size≤_;simp) _) | (refine Below.drew ?_))
     exact HPB3.out.B
def Pr.Parsed (s:ByteArray) (r:List Tr.Nd × Nat × Nat):Prop:=(Sc.code s≠0∧r=([],Sc.code s,Sc.at_ s))∨(Sc.code s=0∧∃ d,Pr.Comes s d∧r=Pr.result d)
theorem Pr.Parsed.same {s:ByteArray} {r q:List Tr.Nd × Nat × Nat} (h:Pr.Parsed s r) (k:Pr.Parsed s q):r=q:=by
 rcases h with ⟨h1,rfl⟩ | ⟨h1,d,hd,rfl⟩ <;> rcases k with ⟨k1,rfl⟩ | ⟨k1,d',hd',rfl⟩
 ·rfl
 ·exact absurd k1 h1
 ·exact absurd h1 k1
 ·rw [hd.same hd']
theorem sparse_any (s:ByteArray) (w:World) (hs:s.size≤1048576) :
  Calls Tryz.prog 37 #[.string s] w fun e w'=>∃ r,Pr.Parsed s r∧ParsePost w r e w':=by
 by_cases hc:Sc.code s=0
 ·by_cases hn:Sc.toks s=[]
  ·exact (parse_none s w hs hc hn).mono (fun e w' ⟨r,hr,hp⟩=>⟨_,.inr ⟨hc,r,hr,rfl⟩,hp⟩)
  ·exact (parse_toks s w hs hc hn).mono (fun e w' ⟨r,hr,hp⟩=>⟨_,.inr ⟨hc,r,hr,rfl⟩,hp⟩)
 ·exact (parse_fault s w hs hc).mono (fun e w' ⟨he,hb⟩=>⟨_,.inl ⟨hc,rfl⟩,_,he,World.ownsRow_nil _ _ _ _,hb⟩)
theorem Tr.valid_len {l:List Tr.Nd} (h:Tr.valid l=true):l.length≤5000:=by
 unfold Tr.valid at h
 simp only [Bool.and_eq_true] at h
 have:=Tr.inr_true h.1.1.1
 omega
theorem Pr.Parsed.len {s:ByteArray} {r:List Tr.Nd × Nat × Nat} (h:Pr.Parsed s r):r.1.length≤5000:=by
 rcases h with ⟨h1,rfl⟩ | ⟨h1,d,hd,rfl⟩
 ·exact Nat.zero_le _
 ·unfold Pr.result
  split
  ·exact Nat.zero_le _
  ·split
   ·rename_i _ hv
    exact Tr.valid_len hv
   ·exact Nat.zero_le _
def fixedV:List Value:=[.string ⟨#[108,101,116,32,115,48,32,61,32,108,101,116,32,110,49,32,61,32,49,32,105,110,32,91,110,49,32,102,111,114,32,110,49,32,105,110,32,91,110,49,93,93,59,10,101,109,105,116,32,123,118,58,32,115,48,125,59,10]⟩,.string ⟨#[108,101,116,32,115,48,32,61,32,108,101,116,32,110,49,32,61,32,49,32,105,110,32,91,110,49,32,43,32,110,50,32,102,111,114,32,110,50,32,105,110,32,91,110,49,93,32,105,102,32,110,49,32,61,61,32,110,50,93,59,10,101,109,105,116,32,123,118,58,32,115,48,125,59,10]⟩,.string ⟨#[108,101,116,32,115,48,32,61,32,108,101,116,32,110,49,32,61,32,49,32,105,110,32,40,102,110,40,110,49,32,61,32,50,41,32,61,62,32,110,49,41,40,41,32,43,32,110,49,59,10,101,109,105,116,32,123,118,58,32,115,48,125,59,10]⟩,.string ⟨#[108,101,116,32,115,48,32,61,32,108,101,116,32,110,49,32,61,32,49,32,105,110,32,40,102,110,40,110,50,44,32,110,49,32,61,32,110,49,41,32,61,62,32,91,110,49,44,32,110,50,93,41,40,110,49,41,59,10,101,109,105,116,32,123,118,58,32,115,48,125,59,10]⟩,.string ⟨#[108,101,116,32,115,48,32,61,32,108,101,116,32,110,49,32,61,32,49,32,105,110,32,40,102,110,40,110,49,44,32,110,50,32,61,32,110,49,41,32,61,62,32,91,110,49,44,32,110,50,93,41,40,55,41,59,10,101,109,105,116,32,123,118,58,32,115,48,125,59,10]⟩,.string ⟨#[108,101,116,32,121,32,61,32,53,59,10,100,101,102,32,102,40,120,44,32,121,32,61,32,121,41,32,61,32,91,120,44,32,121,93,59,10,101,109,105,116,32,123,118,58,32,102,40,49,41,125,59,10]⟩,.string ⟨#[100,101,102,32,102,40,120,44,32,121,32,61,32,121,41,32,61,32,120,59,10]⟩,.string ⟨#[100,101,102,32,102,40,120,32,61,32,120,41,32,61,32,120,59,10,108,101,116,32,120,32,61,32,51,59,10,101,109,105,116,32,123,118,58,32,102,40,41,125,59,10]⟩,.string ⟨#[108,101,116,32,115,48,32,61,32,108,101,116,32,110,49,32,61,32,34,110,101,119,95,110,97,109,101,34,32,105,110,32,110,49,32,43,32,34,110,50,34,59,10,101,109,105,116,32,123,110,101,119,95,110,97,109,101,58,32,115,48,44,32,118,58,32,115,48,46,110,49,125,59,10]⟩,.string ⟨#[100,101,102,32,108,101,110,40,120,41,32,61,32,55,59,10,108,101,116,32,97,32,61,32,108,101,110,40,49,41,59,10,101,109,105,116,32,123,118,58,32,97,125,59,10]⟩,.string ⟨#[108,101,116,32,97,32,61,32,108,101,110,40,91,49,93,41,59,10,100,101,102,32,108,101,110,40,120,41,32,61,32,55,59,10,101,109,105,116,32,123,118,58,32,97,125,59,10]⟩,.string ⟨#[108,101,116,32,110,32,61,32,49,59,10,108,101,116,32,102,32,61,32,102,110,40,120,41,32,61,62,32,110,32,43,32,120,59,10,100,101,102,32,103,40,110,41,32,61,32,102,40,110,41,59,10,101,109,105,116,32,123,118,58,32,103,40,49,48,41,125,59,10]⟩,.string ⟨#[108,101,116,32,102,32,61,32,102,110,40,120,41,32,61,62,32,91,120,44,32,110,93,59,10,108,101,116,32,115,48,32,61,32,108,101,116,32,110,32,61,32,50,32,105,110,32,102,40,110,41,59,10,108,101,116,32,110,32,61,32,57,59,10]⟩,.string ⟨#[108,101,116,32,114,32,61,32,123,97,58,32,49,125,59,10,101,109,105,116,32,123,118,58,32,115,111,114,116,101,100,40,91,114,44,32,123,98,58,32,50,125,44,32,114,93,41,44,32,119,58,32,117,110,105,113,117,101,40,91,114,44,32,123,98,58,32,50,125,44,32,114,93,41,125,59,10]⟩,.string ⟨#[101,109,105,116,32,123,95,58,32,49,44,32,95,95,58,32,123,95,97,58,32,50,125,44,32,34,97,45,98,34,58,32,51,125,59,10]⟩]
theorem fixed_at [Inhabited Bs] (z:Nat) (hz:z < 15):∃ s:ByteArray,fixedV[z]?=some (.string s)∧s.size≤1000:=by
 have:z=0∨z=1∨z=2∨z=3∨z=4∨z=5∨z=6∨z=7∨z=8∨z=9∨z=10∨z=11∨z=12∨z=13∨z=14:=by omega
 rcases this with rfl | rfl | rfl | rfl | rfl | rfl | rfl | rfl | rfl | rfl | rfl | rfl | rfl | rfl | rfl
 all_goals exact ⟨_,rfl,by decide⟩
set_option maxRecDepth 100000 in
set_option maxHeartbeats 2000000 in
theorem fixed_any [Inhabited Bs] (w:World):Calls Tryz.prog 38 #[] w fun e w'=>e = .returned (.slice (some ⟨w.heap.size,0,none⟩) 15 15)∧w'.ownsRow 0 9 1 (.slice (some ⟨w.heap.size,0,none⟩) 15 15) 15 fixedV∧Below w.heap.size w w':=by
 have HL:=hide (World.ownsRow_lit (base:=0) (e:=9) (size:=1) w fixedV.toArray 15 (Nat.zero_le _) (by unfold maxLen;omega) rfl)
 go_enter Tryz.func38,Tryz.ntmps38
 go_wp2
 go_ret
 exact ⟨rfl,HL.out,bA _⟩
variable (rb:Nat) (vb:Value) (n:Nat)
def SpoilAt [Inhabited Bs]:Prop:=∀ (q:Nat) (v:Value) (l:List Tr.Nd) (w:World),Rq rb vb n q w→NR w v l→l.length≤300000→q≤700000000→Calls Tryz.prog 40 #[.pointer (some ⟨rb,0,none⟩),.agg #[v]] w fun e w'=>∃ v' l',e = .returned (.agg #[v'])∧NR w' v' l'∧l'.length≤l.length+1∧Rq rb vb n (q+10) w'∧Tf w w'
theorem NR.val [Inhabited Bs] {w:World} {v:Value} {l:List Tr.Nd} (h:NR w v l):∃ p c,v = .slice p l.length c:=row_formP h.1
theorem NR.setT [Inhabited Bs] {w:World} {b o:Nat} {v u:Value} {l:List Tr.Nd} (h:NR w v l) (ht:tyAt w b≠some 82):NR (w.setCell ⟨b,o,none⟩ u) v l:=⟨row_setC h.1 ht,h.2⟩
theorem Tr.plain_short [Inhabited Bs] {x:Tr.Nd} (h:Tr.plain x=true):x.text.size≤1000000:=by
 unfold Tr.plain at h
 split at h
 ·cases h
 ·rename_i h0
  cases hk:Tr.textK x.kind
  ·have h1:(x.text.toList == [])=true:=by
    cases hc:(x.text.toList == [])
    ·exact absurd (by simp [hk,hc]) h0
    ·rfl
   rw [ByteArray.toList_eq] at h1
   have h2:x.text.data.toList=[]:=by simpa using h1
   have h3:x.text.data.toList.length=0:=by rw [h2];rfl
   have h4:x.text.size=x.text.data.toList.length:=rfl
   omega
  ·have n2:x.kind≠2:=fun e=>by rw [e] at hk;revert hk;decide
   have n3:x.kind≠3:=fun e=>by rw [e] at hk;revert hk;decide
   have n6:x.kind≠6:=fun e=>by rw [e] at hk;revert hk;decide
   have n7:x.kind≠7:=fun e=>by rw [e] at hk;revert hk;decide
   rw [if_neg n2,if_neg n3] at h
   split at h
   ·have:=of_decide_eq_true h
    omega
   ·split at h
    ·unfold Tr.pkgOk at h
     simp only [Bool.and_eq_true] at h
     have:=Tr.inr_true h.1
     omega
    ·simp only [hk,Bool.not_true,Bool.false_or] at h
     unfold Tr.nameOk at h
     simp only [Bool.and_eq_true] at h
     have:=Tr.inr_true h.1.1.1
     omega
theorem Tr.vgo_plain [Inhabited Bs] {ns:List Tr.Nd}:∀ (r:List (Tr.Nd × List Nat)) (hs:List Nat),Tr.vgo ns r hs=true→∀ p∈r,Tr.plain p.1=true:=by
 intro r
 induction r with
 | nil=>intro hs _ p hp;cases hp
 | cons a r ih =>
  intro hs h p hp
  obtain ⟨d,k⟩:=a
  simp only [Tr.vgo,Bool.and_eq_true] at h
  rcases List.mem_cons.1 hp with rfl | hp
  ·exact h.1.1.2
  ·exact ih _ h.2 p hp
theorem Tr.valid_short [Inhabited Bs] {l:List Tr.Nd} (h:Tr.valid l=true):Sh l:=fun x hx=>by
 unfold Tr.valid at h
 simp only [Bool.and_eq_true] at h
 obtain ⟨i,hi,rfl⟩:=List.getElem_of_mem hx
 have hl:=Tr.kids_len h.1.2
 have hz:i < (l.zip (Tr.kids l)).length:=by rw [List.length_zip];omega
 have:=Tr.vgo_plain _ _ h.2 _ (List.getElem_mem hz)
 rw [List.getElem_zip] at this
 exact Tr.plain_short this
theorem sh_nil [Inhabited Bs]:Sh []:=fun _ hx=>by cases hx
theorem Pr.Parsed.short [Inhabited Bs] {s:ByteArray} {r:List Tr.Nd × Nat × Nat} (h:Pr.Parsed s r):Sh r.1:=by
 rcases h with ⟨h1,rfl⟩ | ⟨h1,d,hd,rfl⟩
 ·exact sh_nil
 ·unfold Pr.result
  split
  ·exact sh_nil
  ·split
   ·rename_i _ hv
    exact Tr.valid_short hv
   ·exact sh_nil
set_option maxRecDepth 100000 in
set_option maxHeartbeats 4000000 in
theorem any2_any [Inhabited Bs] (HPR:∀ q w,Rq rb vb n q w→q≤90000000→Calls Tryz.prog 41 #[.pointer (some ⟨rb,0,none⟩)] w fun e w'=>RTk rb vb n q 250010 w e w') (HSP:SpoilAt rb vb n) (q:Nat) (w:World) (h:Rq rb vb n q w) (hq:q≤80000000):Calls Tryz.prog 17 #[.pointer (some ⟨rb,0,none⟩)] w fun e w'=>RTk rb vb n q 250030 w e w':=by
 have hrw:=h.lt
 have b0:Below w.heap.size w (w.alloc (.cells #[.slice none 0 0] 50)):=bA _
 have HR0:=hide (h.below b0)
 have HT0:Hid (Ty w (w.alloc (.cells #[.slice none 0 0] 50))):=hide (.of b0)
 have HX0:Hid ((w.alloc (.cells #[.slice none 0 0] 50)).heap[w.heap.size]?=some (.cells #[.slice none 0 0] 50)):=hide (heap_alloc_new' w _)
 have HPR:=hide HPR
 have HSP:=hide HSP
 clear b0 h
 go_enter Tryz.func17,Tryz.ntmps17
 go_wp2_with fail
 refine (Rq.pick HR0.out (by omega) 30 (by omega) (by omega)).mono ?_
 rintro e w1 ⟨z1,hz1,rfl,hr1,ht1⟩
 have HR1:=hide hr1
 have HT1:=hide (HT0.out.trans ht1)
 have HX1:=hide (Ty.same ht1 HX0.out mine_tree)
 clear hr1 ht1
 by_cases h26:(26:Int) < (z1:Int)
 ·go_wp2_with fail
  refine (fixed_any w1).mono ?_
  rintro e w2 ⟨rfl,hl2,b2⟩
  have HR2:=hide (HR1.out.below b2)
  have HT2:=hide (HT1.out.trans (.of b2))
  have HX2:=hide (TyM.same HX1.out b2)
  have HL2:=hide hl2
  clear hl2 b2
  go_wp2_with fail
  refine (Rq.pick HR2.out (by omega) 15 (by omega) (by omega)).mono ?_
  rintro e w3 ⟨z3,hz3,rfl,hr3,ht3⟩
  have HR3:=hide hr3
  have HT3:=hide (HT2.out.trans ht3)
  have HX3:=hide (Ty.same ht3 HX2.out mine_tree)
  have HL3:=hide (row_ty HL2.out ht3 (by unfold Mine;simp))
  obtain ⟨s3,hs3,hsz⟩:=fixed_at z3 (by omega)
  have cl3:=row_cellsC HL3.out hs3
  clear hr3 ht3 hs3
  go_wp2_with fail
  refine (sparse_any s3 w3 (by omega)).mono ?_
  rintro e w4 ⟨r4,hpr4,v4,rfl,hrow4,b4⟩
  have hlen:=hpr4.len
  have nr4:NR w4 v4 r4.1:=⟨rowLeC hrow4 (Nat.zero_le _),hpr4.short⟩
  obtain ⟨p4,c4,hv4⟩:=nr4.val
  subst hv4
  generalize r4.1=l4 at *
  generalize r4.2.1=cd4 at *
  generalize r4.2.2=at4 at *
  have b5:Below w4.heap.size w4 (w4.alloc (.cells #[.slice p4 l4.length c4] 50)):=bA _
  have b6:Below w4.heap.size w4 ((w4.alloc (.cells #[.slice p4 l4.length c4] 50)).alloc (.cells #[.int .i64 cd4,.int .i64 at4] 26)):=b5.alloc b5.size _
  have hX6:=TyM.same (TyM.same HX3.out b4) b6
  have HR6:=hide ((HR3.out.below b4).below b6)
  have HT6:=hide ((HT3.out.trans (.of b4)).trans (.of b6))
  have HN6:=hide (nr4.below b6)
  have t0:=(box_cell hX6).1
  have ft:=(box_cell hX6).2
  have hty:tyAt ((w4.alloc (.cells #[.slice p4 l4.length c4] 50)).alloc (.cells #[.int .i64 cd4,.int .i64 at4] 26)) w.heap.size≠some 82:=by unfold tyAt;rw [hX6];decide
  have HY6:Hid (((w4.alloc (.cells #[.slice p4 l4.length c4] 50)).alloc (.cells #[.int .i64 cd4,.int .i64 at4] 26)).heap[w4.heap.size]?=some (.cells #[.slice p4 l4.length c4] 50)):=hide (TyM.same (heap_alloc_new' w4 _) (bA _))
  have y0:=(box_cell HY6.out).1
  clear nr4 hrow4 b4 b5 b6 hX6 hpr4
  have HNf:=hide (NR.setT (o:=0) (u:= .slice p4 l4.length c4) HN6.out hty)
  have HRf:=hide (Rq.set (o:=0) (v:= .slice p4 l4.length c4) HR6.out hrw)
  have HTf:=hide (set_aboveM (o:=0) (v:= .slice p4 l4.length c4) (Ty.tf HT6.out) (Nat.le_refl _))
  go_wp2
  exact bodyPost_ret (v:= .agg #[.slice p4 l4.length c4]) (by simp [results,Tryz.results17,go_sem,t0]) rfl ⟨_,_,rfl,HNf.out,by omega,HRf.out.mono (by omega),HTf.out⟩
 ·by_cases h0:z1=0
  ·subst h0
   go_wp2_with fail
   refine (edge_any rb vb n _ _ HR1.out (by omega)).mono ?_
   rintro e w5 ⟨v5,l5,rfl,nr5,m5,hr5,ht5⟩
   obtain ⟨p5,c5,hv5⟩:=nr5.val
   subst hv5
   have hX5:=Tf.same ht5 HX1.out mineF_tree
   have t0:=(box_cell hX5).1
   have ft:=(box_cell hX5).2
   have hty:tyAt w5 w.heap.size≠some 82:=by unfold tyAt;rw [hX5];decide
   have HNf:Hid (NR (w5.setCell ⟨w.heap.size,0,none⟩ (.slice p5 l5.length c5)) (.slice p5 l5.length c5) l5):=hide ⟨row_setC nr5.1 hty,nr5.2⟩
   have HRf:=hide (Rq.set (o:=0) (v:= .slice p5 l5.length c5) hr5 hrw)
   have HTf:=hide (set_aboveM (o:=0) (v:= .slice p5 l5.length c5) ((Ty.tf HT1.out).trans ht5) (Nat.le_refl _))
   clear nr5 hX5 hr5 ht5
   go_wp2
   exact bodyPost_ret (v:= .agg #[.slice p5 l5.length c5]) (by simp [results,Tryz.results17,go_sem,t0]) rfl ⟨_,_,rfl,HNf.out,by omega,HRf.out.mono (by omega),HTf.out⟩
  have h0b:((z1:Int) == 0)=false:=by simp;omega
  by_cases h4:(z1:Int) < 4
  ·go_wp2_with fail
   refine (HPR.out _ _ HR1.out (by omega)).mono ?_
   rintro e w4 ⟨v4,l4,rfl,nr4,m4,hr4,ht4⟩
   obtain ⟨p4,c4,hv4⟩:=nr4.val
   subst hv4
   have HX4:=hide (Tf.same ht4 HX1.out mineF_tree)
   have HT4:=hide ((Ty.tf HT1.out).trans ht4)
   have HQ:=hide (HSP.out _ _ _ _ hr4 nr4 (by omega) (by omega))
   clear nr4 hr4 ht4
   go_wp2_with fail
   refine HQ.out.mono ?_
   rintro e w5 ⟨v5,l5,rfl,nr5,m5,hr5,ht5⟩
   obtain ⟨p5,c5,hv5⟩:=nr5.val
   subst hv5
   have hX5:=Tf.same ht5 HX4.out mineF_tree
   have t0:=(box_cell hX5).1
   have ft:=(box_cell hX5).2
   have hty:tyAt w5 w.heap.size≠some 82:=by unfold tyAt;rw [hX5];decide
   have HNf:Hid (NR (w5.setCell ⟨w.heap.size,0,none⟩ (.slice p5 l5.length c5)) (.slice p5 l5.length c5) l5):=hide ⟨row_setC nr5.1 hty,nr5.2⟩
   have HRf:=hide (Rq.set (o:=0) (v:= .slice p5 l5.length c5) hr5 hrw)
   have HTf:=hide (set_aboveM (o:=0) (v:= .slice p5 l5.length c5) (HT4.out.trans ht5) (Nat.le_refl _))
   clear nr5 hX5 hr5 ht5
   go_wp2
   exact bodyPost_ret (v:= .agg #[.slice p5 l5.length c5]) (by simp [results,Tryz.results17,go_sem,t0]) rfl ⟨_,_,rfl,HNf.out,by omega,HRf.out.mono (by omega),HTf.out⟩
  ·go_wp2_with fail
   refine (HPR.out _ _ HR1.out (by omega)).mono ?_
   rintro e w5 ⟨v5,l5,rfl,nr5,m5,hr5,ht5⟩
   obtain ⟨p5,c5,hv5⟩:=nr5.val
   subst hv5
   have hX5:=Tf.same ht5 HX1.out mineF_tree
   have t0:=(box_cell hX5).1
   have ft:=(box_cell hX5).2
   have hty:tyAt w5 w.heap.size≠some 82:=by unfold tyAt;rw [hX5];decide
   have HNf:Hid (NR (w5.setCell ⟨w.heap.size,0,none⟩ (.slice p5 l5.length c5)) (.slice p5 l5.length c5) l5):=hide ⟨row_setC nr5.1 hty,nr5.2⟩
   have HRf:=hide (Rq.set (o:=0) (v:= .slice p5 l5.length c5) hr5 hrw)
   have HTf:=hide (set_aboveM (o:=0) (v:= .slice p5 l5.length c5) ((Ty.tf HT1.out).trans ht5) (Nat.le_refl _))
   clear nr5 hX5 hr5 ht5
   go_wp2
   exact bodyPost_ret (v:= .agg #[.slice p5 l5.length c5]) (by simp [results,Tryz.results17,go_sem,t0]) rfl ⟨_,_,rfl,HNf.out,by omega,HRf.out.mono (by omega),HTf.out⟩
end Go.Proofs.YtbckhbeebngjfaaGreatDoor
