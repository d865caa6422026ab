/- Hn. -/
import Derived.Test.YtbckhbeebngjfaaGreatDoorT10
import Derived.Test.YtbckhbeebngjfaaGreatDoorT08
namespace Go.Proofs.YtbckhbeebngjfaaGreatDoor
open Go.RowKit
theorem Pr.Cv.record_okN {ts:List Sc.T} {sz:Nat} {s q:Pr.Dk} {m:Nat} (h:Pr.Cv ts sz (.recordL 0) s (q,2 * m)):Pr.Cv ts sz .record s (Pr.put (Pr.need ts sz q [125]) 9 0 0 [] m,0):=by
 have:=Pr.Cv.record_ok (by simp) h
 simpa using this
theorem Pr.Cv.record_badN {ts:List Sc.T} {sz:Nat} {s q:Pr.Dk} {m:Nat} (h:Pr.Cv ts sz (.recordL 0) s (q,2 * m+1)):Pr.Cv ts sz .record s (q,0):=Pr.Cv.record_bad (by simp) h
set_option maxRecDepth 100000 in
set_option maxHeartbeats 8000000 in
theorem record_says {b tg tc:Nat} {ts:List Sc.T} {sz:Nat} {s:Pr.Dk} (ihE:∀ q:Pr.Dk,s.p≤q.p→q.p≤ts.length→Pr.SE b tg tc ts sz q):Pr.SR b tg tc ts sz s:=by
 intro v0 w0 hd0 hN
 have h0:=hd0.le
 have hm:=hd0.most
 have HD0:=hide hd0
 have HG0:=hide (Pr.Gr.refl b v0 w0)
 have HS0:=hide (Pr.Stp.refl h0)
 clear hd0
 go_enter Tryz.func118,Tryz.ntmps118
 go_wp2_with fail
 go_loopw [2] (fun t wr=>∃ (n:Nat) (q:Pr.Dk) (vq:Value),t = .int .i64 n∧n≤q.p∧DK b tg tc ts sz vq q wr∧Pr.Gr b v0 vq w0 wr∧Pr.Stp ts s q 0∧∀ r2,Pr.Cv ts sz (.recordL n) q r2→Pr.Cv ts sz (.recordL 0) s r2) (fun _ wr=>Pr.left b ts wr)
 case atStart=>exact ⟨0,s,v0,rfl,Nat.zero_le _,HD0.out,HG0.out,HS0.out,fun _ h=>h⟩
 case round =>
  obtain ⟨n,q,v10,rfl,hnp,hd10,hg10,hs10,hi10⟩:=hrel
  have c3:=hd10.c3
  have hle:=hd10.le
  have HD10:=hide hd10
  have HG10:=hide hg10
  have HS10:=hide hs10
  have HI10:=hide hi10
  clear hd10 hg10 hs10 hi10
  cases hbad:q.bad
  ·rw [hbad] at c3
   by_cases hn:n=0
   ·subst hn
    cases i0:Pr.is ts sz q [125]
    ·have Q11:=hide (isN HD10.out [125] #[125] rfl i0)
     go_wp2_with fail
     refine Q11.out.mono ?_
     rintro e11 w11 ⟨rfl,v11,hd11,hg11⟩
     have HD11:=hide hd11
     have HG11:=hide (HG10.out.trans hg11)
     have HS11:=hide (HS10.out)
     clear hd11 hg11 Q11
     have hg:((0:Nat) == 0 && Pr.is ts sz q [125])=false:=by rw [i0];rfl
     have HA11:=hide (Pr.Stp.refl HS11.out.le)
     by_cases k1:(Pr.tok ts sz q).kind=1
     ·have hk:(((Pr.tok ts sz q).kind:Nat):Int)=1:=by omega
      have hp:q.p < ts.length:=Pr.tok_lt (sz:=sz) (by omega)
      have t1:((Pr.tok ts sz q).kind == 1 || (Pr.tok ts sz q).kind == 4)=true:=by simp [k1]
      have HT:=hide (tok_any HD11.out)
      go_wp2_with fail
      refine HT.out.mono ?_
      rintro e w12 ⟨rfl,hb1⟩
      unfold Pr.tokV
      rw [hk]
      have hz:=hb1.size
      have hd1:=HD11.out.below hb1
      have bA:=(Below.refl w12.heap.size w12).alloc (Nat.le_refl _) (tokO 1 (Pr.tok ts sz q))
      have hdB:=hd1.below bA
      have hl1:=hd1.lt
      have c2:=hdB.c2
      have f2:=hdB.fr 2
      have hdA:=hdB.adv hp
      have hov:v11.ownBlock≠some w12.heap.size:=fun e=>by have:=(hd1.own e).2;omega
      have hqb:w12.heap.size≠b:=by omega
      have hqs:w12.heap.size < ((w12.alloc (tokO 1 (Pr.tok ts sz q))).setCell ⟨b,2,none⟩ (.int .i64 ((q.p:Int)+1))).heap.size:=by simp
      obtain ⟨y0,y1,y2⟩:=tok_box w12 b (.int .i64 ((q.p:Int)+1)) 1 (Pr.tok ts sz q) (by omega)
      have HD12:=hide hdA
      have HX12:=hide (Pr.Gr.refl b v11 ((w12.alloc (tokO 1 (Pr.tok ts sz q))).setCell ⟨b,2,none⟩ (.int .i64 ((q.p:Int)+1))))
      have HG12:=hide (((HG11.out.trans (.below hb1)).trans (.below bA)).trans (.set v11 _ b 2 (.int .i64 ((q.p:Int)+1))))
      have HS12:=hide (HS11.out.advL hp)
      have HA12:=hide (HA11.out.advL hp)
      have HY1:=hide y1
      have HQS:=hide hqs
      have HQB:=hide hqb
      have HOV:=hide hov
      clear hb1 bA hdB hdA hd1 HT y1 hqs hqb hov hl1 hz
      have HVQ:Hid True:=hide trivial
      have Q13:=hide (needW HD12.out [58] #[58] rfl)
      go_wp2_with fail
      refine Q13.out.mono ?_
      rintro e13 w13 ⟨rfl,v13,hd13,hg13⟩
      have HD13:=hide hd13
      have HG13:=hide (HG12.out.trans hg13)
      have HS13:=hide (HS12.out.need (sz:=sz) [58])
      have HA13:=hide (HA12.out.need (sz:=sz) [58])
      have HX13:=hide (HX12.out.trans hg13)
      clear hd13 hg13 Q13
      have Q14:=hide (ihE _ (Nat.le_trans HS10.out.ge HA13.out.ge) HS13.out.le _ _ HD13.out (HS13.out.phi (by first | omega | (simp only [Pr.extra];omega)) h0 hN))
      go_wp2_with fail
      refine Q14.out.mono ?_
      rintro e14 w14 ⟨r14,rfl,hc14,v14,hd14,hg14⟩
      have HC14:=hide hc14
      have HD14:=hide hd14
      have HG14:=hide (HG13.out.trans hg14)
      have HS14:=hide (HS13.out.trans (hc14.stp HS13.out.le))
      have HA14:=hide (HA13.out.trans (hc14.stp HA13.out.le))
      have HX14:=hide (HX13.out.trans hg14)
      clear hc14 hd14 hg14 Q14
      have y1:=(HX14.out.cell HQS.out HQB.out HOV.out 1).trans HY1.out
      have Q15:=hide (put_any HD14.out (HS14.out.len (by first | omega | (simp only [Pr.extra];omega)) h0 hN) 17 0 0 (Pr.tok ts sz q).text 1)
      go_wp2_with fail
      refine Q15.out.mono ?_
      rintro e15 w15 ⟨rfl,v15,hd15,hg15⟩
      have HD15:=hide hd15
      have HG15:=hide (HG14.out.trans hg15)
      have HS15:=hide (HS14.out.put 17 0 0 (Pr.tok ts sz q).text 1)
      have HA15:=hide (HA14.out.put 17 0 0 (Pr.tok ts sz q).text 1)
      have HX15:=hide (HX14.out.trans hg15)
      clear hd15 hg15 Q15
      cases ic:Pr.is ts sz (Pr.put r14.1 17 0 0 (Pr.tok ts sz q).text 1) [44]
      ·have Q16:=hide (takeN HD15.out [44] #[44] rfl ic)
       go_wp2_with fail
       refine Q16.out.mono ?_
       rintro e16 w16 ⟨rfl,v16,hd16,hg16⟩
       have HD16:=hide hd16
       have HG16:=hide (HG15.out.trans hg16)
       have HS16:=hide (HS15.out)
       have HA16:=hide (HA15.out)
       have HX16:=hide (HX15.out.trans hg16)
       clear hd16 hg16 Q16
       have Q17:=hide (needW HD16.out [125] #[125] rfl)
       go_wp2_with fail
       refine Q17.out.mono ?_
       rintro e17 w17 ⟨rfl,v17,hd17,hg17⟩
       have HD17:=hide hd17
       have HG17:=hide (HG16.out.trans hg17)
       have HS17:=hide (HS16.out.need (sz:=sz) [125])
       have HA17:=hide (HA16.out.need (sz:=sz) [125])
       have HX17:=hide (HX16.out.trans hg17)
       clear hd17 hg17 Q17
       have Q18:=hide (put_any HD17.out (HS17.out.len (by first | omega | (simp only [Pr.extra];omega)) h0 hN) 9 0 0 [] (0+1))
       go_wp2_with fail
       refine Q18.out.mono ?_
       rintro e18 w18 ⟨rfl,v18,hd18,hg18⟩
       have HD18:=hide hd18
       have HG18:=hide (HG17.out.trans hg18)
       have HS18:=hide (HS17.out.put 9 0 0 [] (0+1))
       have HA18:=hide (HA17.out.put 9 0 0 [] (0+1))
       have HX18:=hide (HX17.out.trans hg18)
       clear hd18 hg18 Q18
       go_wp2
       (first | go_end0 | refine bodyPost_ret (results_none rfl _ _ _) rfl ?_)
       exact ⟨(_,0),rfl,Pr.Cv.record_okN (HI10.out _ (Pr.Cv.recordL_last hbad hg t1 ic HC14.out)),v18,HD18.out,HG18.out⟩
      ·have Q16:=hide (takeY HD15.out [44] #[44] rfl ic)
       go_wp2_with fail
       refine Q16.out.mono ?_
       rintro e16 w16 ⟨rfl,v16,hd16,hg16⟩
       have HD16:=hide hd16
       have HG16:=hide (HG15.out.trans hg16)
       have HS16:=hide (HS15.out.adv ic)
       have HA16:=hide (HA15.out.adv ic)
       have HX16:=hide (HX15.out.trans hg16)
       clear hd16 hg16 Q16
       have HM:=hide (show Pr.left b ts w16 < Pr.left b ts wr from by rw [HD16.out.left,HD10.out.left];have:=HA15.out.ge;have:=Pr.is_lt ic;rw [Pr.adv_p] at *;omega)
       have HNP:=hide (show 0+1≤(Pr.adv (Pr.put r14.1 17 0 0 (Pr.tok ts sz q).text 1)).p from by have:=HA15.out.ge;rw [Pr.adv_p] at *;omega)
       go_wp2
       go_roundw
       case rel=>exact ⟨0+1,_,v16,by go_num,HNP.out,HD16.out,HG16.out,HS16.out.mono (by first | omega | (simp only [Pr.extra];omega)),fun r2 h=>HI10.out _ (Pr.Cv.recordL_go hbad hg t1 ic HC14.out h)⟩
       case measure=>exact HM.out
     ·by_cases k4:(Pr.tok ts sz q).kind=4
      ·have hk:(((Pr.tok ts sz q).kind:Nat):Int)=4:=by omega
       have hp:q.p < ts.length:=Pr.tok_lt (sz:=sz) (by omega)
       have t1:((Pr.tok ts sz q).kind == 1 || (Pr.tok ts sz q).kind == 4)=true:=by simp [k4]
       have HT:=hide (tok_any HD11.out)
       go_wp2_with fail
       refine HT.out.mono ?_
       rintro e w12 ⟨rfl,hb1⟩
       unfold Pr.tokV
       rw [hk]
       have hz:=hb1.size
       have hd1:=HD11.out.below hb1
       have bA:=(Below.refl w12.heap.size w12).alloc (Nat.le_refl _) (tokO 4 (Pr.tok ts sz q))
       have hdB:=hd1.below bA
       have hl1:=hd1.lt
       have c2:=hdB.c2
       have f2:=hdB.fr 2
       have hdA:=hdB.adv hp
       have hov:v11.ownBlock≠some w12.heap.size:=fun e=>by have:=(hd1.own e).2;omega
       have hqb:w12.heap.size≠b:=by omega
       have hqs:w12.heap.size < ((w12.alloc (tokO 4 (Pr.tok ts sz q))).setCell ⟨b,2,none⟩ (.int .i64 ((q.p:Int)+1))).heap.size:=by simp
       obtain ⟨y0,y1,y2⟩:=tok_box w12 b (.int .i64 ((q.p:Int)+1)) 4 (Pr.tok ts sz q) (by omega)
       have HD12:=hide hdA
       have HX12:=hide (Pr.Gr.refl b v11 ((w12.alloc (tokO 4 (Pr.tok ts sz q))).setCell ⟨b,2,none⟩ (.int .i64 ((q.p:Int)+1))))
       have HG12:=hide (((HG11.out.trans (.below hb1)).trans (.below bA)).trans (.set v11 _ b 2 (.int .i64 ((q.p:Int)+1))))
       have HS12:=hide (HS11.out.advL hp)
       have HA12:=hide (HA11.out.advL hp)
       have HY1:=hide y1
       have HQS:=hide hqs
       have HQB:=hide hqb
       have HOV:=hide hov
       clear hb1 bA hdB hdA hd1 HT y1 hqs hqb hov hl1 hz
       have HVQ:Hid True:=hide trivial
       have Q13:=hide (needW HD12.out [58] #[58] rfl)
       go_wp2_with fail
       refine Q13.out.mono ?_
       rintro e13 w13 ⟨rfl,v13,hd13,hg13⟩
       have HD13:=hide hd13
       have HG13:=hide (HG12.out.trans hg13)
       have HS13:=hide (HS12.out.need (sz:=sz) [58])
       have HA13:=hide (HA12.out.need (sz:=sz) [58])
       have HX13:=hide (HX12.out.trans hg13)
       clear hd13 hg13 Q13
       have Q14:=hide (ihE _ (Nat.le_trans HS10.out.ge HA13.out.ge) HS13.out.le _ _ HD13.out (HS13.out.phi (by first | omega | (simp only [Pr.extra];omega)) h0 hN))
       go_wp2_with fail
       refine Q14.out.mono ?_
       rintro e14 w14 ⟨r14,rfl,hc14,v14,hd14,hg14⟩
       have HC14:=hide hc14
       have HD14:=hide hd14
       have HG14:=hide (HG13.out.trans hg14)
       have HS14:=hide (HS13.out.trans (hc14.stp HS13.out.le))
       have HA14:=hide (HA13.out.trans (hc14.stp HA13.out.le))
       have HX14:=hide (HX13.out.trans hg14)
       clear hc14 hd14 hg14 Q14
       have y1:=(HX14.out.cell HQS.out HQB.out HOV.out 1).trans HY1.out
       have Q15:=hide (put_any HD14.out (HS14.out.len (by first | omega | (simp only [Pr.extra];omega)) h0 hN) 17 0 0 (Pr.tok ts sz q).text 1)
       go_wp2_with fail
       refine Q15.out.mono ?_
       rintro e15 w15 ⟨rfl,v15,hd15,hg15⟩
       have HD15:=hide hd15
       have HG15:=hide (HG14.out.trans hg15)
       have HS15:=hide (HS14.out.put 17 0 0 (Pr.tok ts sz q).text 1)
       have HA15:=hide (HA14.out.put 17 0 0 (Pr.tok ts sz q).text 1)
       have HX15:=hide (HX14.out.trans hg15)
       clear hd15 hg15 Q15
       cases ic:Pr.is ts sz (Pr.put r14.1 17 0 0 (Pr.tok ts sz q).text 1) [44]
       ·have Q16:=hide (takeN HD15.out [44] #[44] rfl ic)
        go_wp2_with fail
        refine Q16.out.mono ?_
        rintro e16 w16 ⟨rfl,v16,hd16,hg16⟩
        have HD16:=hide hd16
        have HG16:=hide (HG15.out.trans hg16)
        have HS16:=hide (HS15.out)
        have HA16:=hide (HA15.out)
        have HX16:=hide (HX15.out.trans hg16)
        clear hd16 hg16 Q16
        have Q17:=hide (needW HD16.out [125] #[125] rfl)
        go_wp2_with fail
        refine Q17.out.mono ?_
        rintro e17 w17 ⟨rfl,v17,hd17,hg17⟩
        have HD17:=hide hd17
        have HG17:=hide (HG16.out.trans hg17)
        have HS17:=hide (HS16.out.need (sz:=sz) [125])
        have HA17:=hide (HA16.out.need (sz:=sz) [125])
        have HX17:=hide (HX16.out.trans hg17)
        clear hd17 hg17 Q17
        have Q18:=hide (put_any HD17.out (HS17.out.len (by first | omega | (simp only [Pr.extra];omega)) h0 hN) 9 0 0 [] (0+1))
        go_wp2_with fail
        refine Q18.out.mono ?_
        rintro e18 w18 ⟨rfl,v18,hd18,hg18⟩
        have HD18:=hide hd18
        have HG18:=hide (HG17.out.trans hg18)
        have HS18:=hide (HS17.out.put 9 0 0 [] (0+1))
        have HA18:=hide (HA17.out.put 9 0 0 [] (0+1))
        have HX18:=hide (HX17.out.trans hg18)
        clear hd18 hg18 Q18
        go_wp2
        (first | go_end0 | refine bodyPost_ret (results_none rfl _ _ _) rfl ?_)
        exact ⟨(_,0),rfl,Pr.Cv.record_okN (HI10.out _ (Pr.Cv.recordL_last hbad hg t1 ic HC14.out)),v18,HD18.out,HG18.out⟩
       ·have Q16:=hide (takeY HD15.out [44] #[44] rfl ic)
        go_wp2_with fail
        refine Q16.out.mono ?_
        rintro e16 w16 ⟨rfl,v16,hd16,hg16⟩
        have HD16:=hide hd16
        have HG16:=hide (HG15.out.trans hg16)
        have HS16:=hide (HS15.out.adv ic)
        have HA16:=hide (HA15.out.adv ic)
        have HX16:=hide (HX15.out.trans hg16)
        clear hd16 hg16 Q16
        have HM:=hide (show Pr.left b ts w16 < Pr.left b ts wr from by rw [HD16.out.left,HD10.out.left];have:=HA15.out.ge;have:=Pr.is_lt ic;rw [Pr.adv_p] at *;omega)
        have HNP:=hide (show 0+1≤(Pr.adv (Pr.put r14.1 17 0 0 (Pr.tok ts sz q).text 1)).p from by have:=HA15.out.ge;rw [Pr.adv_p] at *;omega)
        go_wp2
        go_roundw
        case rel=>exact ⟨0+1,_,v16,by go_num,HNP.out,HD16.out,HG16.out,HS16.out.mono (by first | omega | (simp only [Pr.extra];omega)),fun r2 h=>HI10.out _ (Pr.Cv.recordL_go hbad hg t1 ic HC14.out h)⟩
        case measure=>exact HM.out
      ·have m1:¬ (((Pr.tok ts sz q).kind:Nat):Int)=1:=by omega
       have m4:¬ (((Pr.tok ts sz q).kind:Nat):Int)=4:=by omega
       have m1b:((((Pr.tok ts sz q).kind:Nat):Int) != 1)=true:=by simpa using m1
       have m4b:((((Pr.tok ts sz q).kind:Nat):Int) != 4)=true:=by simpa using m4
       have m1c:((((Pr.tok ts sz q).kind:Nat):Int) == 1)=false:=by simpa using m1
       have m4c:((((Pr.tok ts sz q).kind:Nat):Int) == 4)=false:=by simpa using m4
       have t1:((Pr.tok ts sz q).kind == 1 || (Pr.tok ts sz q).kind == 4)=false:=by simp [k1,k4]
       have HT:=hide (tok_any HD11.out)
       go_wp2_with fail
       refine HT.out.mono ?_
       rintro e w12 ⟨rfl,hb1⟩
       unfold Pr.tokV
       have hz:=hb1.size
       have hd1:=HD11.out.below hb1
       have bA:=(Below.refl w12.heap.size w12).alloc (Nat.le_refl _) (tokO (((Pr.tok ts sz q).kind:Nat):Int) (Pr.tok ts sz q))
       have hdB:=hd1.below bA
       have hl1:=hd1.lt
       have HD12:=hide hdB
       have HG12:=hide ((HG11.out.trans (.below hb1)).trans (.below bA))
       have HS12:=HS11
       have HA12:=HA11
       clear hb1 bA hdB hd1 HT hl1 hz
       have Q13:=hide (stopW HD12.out)
       go_wp2_with fail
       refine Q13.out.mono ?_
       rintro e13 w13 ⟨rfl,v13,hd13,hg13⟩
       have HD13:=hide hd13
       have HG13:=hide (HG12.out.trans hg13)
       have HS13:=hide (HS12.out.stop (sz:=sz))
       have HA13:=hide (HA12.out.stop (sz:=sz))
       clear hd13 hg13 Q13
       go_wp2
       (first | go_end0 | refine bodyPost_ret (results_none rfl _ _ _) rfl ?_)
       exact ⟨(_,0),rfl,Pr.Cv.record_badN (HI10.out _ (Pr.Cv.recordL_stop hbad hg t1)),v13,HD13.out,HG13.out⟩
    ·have Q11:=hide (isY HD10.out [125] #[125] rfl i0)
     go_wp2_with fail
     refine Q11.out.mono ?_
     rintro e11 w11 ⟨rfl,v11,hd11,hg11⟩
     have HD11:=hide hd11
     have HG11:=hide (HG10.out.trans hg11)
     have HS11:=hide (HS10.out)
     clear hd11 hg11 Q11
     have Q12:=hide (needW HD11.out [125] #[125] rfl)
     go_wp2_with fail
     refine Q12.out.mono ?_
     rintro e12 w12 ⟨rfl,v12,hd12,hg12⟩
     have HD12:=hide hd12
     have HG12:=hide (HG11.out.trans hg12)
     have HS12:=hide (HS11.out.need (sz:=sz) [125])
     clear hd12 hg12 Q12
     have Q13:=hide (put_any HD12.out (HS12.out.len (by first | omega | (simp only [Pr.extra];omega)) h0 hN) 9 0 0 [] (0))
     go_wp2_with fail
     refine Q13.out.mono ?_
     rintro e13 w13 ⟨rfl,v13,hd13,hg13⟩
     have HD13:=hide hd13
     have HG13:=hide (HG12.out.trans hg13)
     have HS13:=hide (HS12.out.put 9 0 0 [] (0))
     clear hd13 hg13 Q13
     go_wp2
     (first | go_end0 | refine bodyPost_ret (results_none rfl _ _ _) rfl ?_)
     exact ⟨(_,0),rfl,Pr.Cv.record_okN (HI10.out _ (Pr.Cv.recordL_end hbad i0)),v13,HD13.out,HG13.out⟩
   ·have hn0:0 < (n:Int):=by omega
    have hg:(n == 0 && Pr.is ts sz q [125])=false:=by simp [hn]
    have HA10:=hide (Pr.Stp.refl HS10.out.le)
    by_cases k1:(Pr.tok ts sz q).kind=1
    ·have hk:(((Pr.tok ts sz q).kind:Nat):Int)=1:=by omega
     have hp:q.p < ts.length:=Pr.tok_lt (sz:=sz) (by omega)
     have t1:((Pr.tok ts sz q).kind == 1 || (Pr.tok ts sz q).kind == 4)=true:=by simp [k1]
     have HT:=hide (tok_any HD10.out)
     go_wp2_with fail
     refine HT.out.mono ?_
     rintro e w11 ⟨rfl,hb1⟩
     unfold Pr.tokV
     rw [hk]
     have hz:=hb1.size
     have hd1:=HD10.out.below hb1
     have bA:=(Below.refl w11.heap.size w11).alloc (Nat.le_refl _) (tokO 1 (Pr.tok ts sz q))
     have hdB:=hd1.below bA
     have hl1:=hd1.lt
     have c2:=hdB.c2
     have f2:=hdB.fr 2
     have hdA:=hdB.adv hp
     have hov:v10.ownBlock≠some w11.heap.size:=fun e=>by have:=(hd1.own e).2;omega
     have hqb:w11.heap.size≠b:=by omega
     have hqs:w11.heap.size < ((w11.alloc (tokO 1 (Pr.tok ts sz q))).setCell ⟨b,2,none⟩ (.int .i64 ((q.p:Int)+1))).heap.size:=by simp
     obtain ⟨y0,y1,y2⟩:=tok_box w11 b (.int .i64 ((q.p:Int)+1)) 1 (Pr.tok ts sz q) (by omega)
     have HD11:=hide hdA
     have HX11:=hide (Pr.Gr.refl b v10 ((w11.alloc (tokO 1 (Pr.tok ts sz q))).setCell ⟨b,2,none⟩ (.int .i64 ((q.p:Int)+1))))
     have HG11:=hide (((HG10.out.trans (.below hb1)).trans (.below bA)).trans (.set v10 _ b 2 (.int .i64 ((q.p:Int)+1))))
     have HS11:=hide (HS10.out.advL hp)
     have HA11:=hide (HA10.out.advL hp)
     have HY1:=hide y1
     have HQS:=hide hqs
     have HQB:=hide hqb
     have HOV:=hide hov
     clear hb1 bA hdB hdA hd1 HT y1 hqs hqb hov hl1 hz
     have HVQ:Hid True:=hide trivial
     have Q12:=hide (needW HD11.out [58] #[58] rfl)
     go_wp2_with fail
     refine Q12.out.mono ?_
     rintro e12 w12 ⟨rfl,v12,hd12,hg12⟩
     have HD12:=hide hd12
     have HG12:=hide (HG11.out.trans hg12)
     have HS12:=hide (HS11.out.need (sz:=sz) [58])
     have HA12:=hide (HA11.out.need (sz:=sz) [58])
     have HX12:=hide (HX11.out.trans hg12)
     clear hd12 hg12 Q12
     have Q13:=hide (ihE _ (Nat.le_trans HS10.out.ge HA12.out.ge) HS12.out.le _ _ HD12.out (HS12.out.phi (by first | omega | (simp only [Pr.extra];omega)) h0 hN))
     go_wp2_with fail
     refine Q13.out.mono ?_
     rintro e13 w13 ⟨r13,rfl,hc13,v13,hd13,hg13⟩
     have HC13:=hide hc13
     have HD13:=hide hd13
     have HG13:=hide (HG12.out.trans hg13)
     have HS13:=hide (HS12.out.trans (hc13.stp HS12.out.le))
     have HA13:=hide (HA12.out.trans (hc13.stp HA12.out.le))
     have HX13:=hide (HX12.out.trans hg13)
     clear hc13 hd13 hg13 Q13
     have y1:=(HX13.out.cell HQS.out HQB.out HOV.out 1).trans HY1.out
     have Q14:=hide (put_any HD13.out (HS13.out.len (by first | omega | (simp only [Pr.extra];omega)) h0 hN) 17 0 0 (Pr.tok ts sz q).text 1)
     go_wp2_with fail
     refine Q14.out.mono ?_
     rintro e14 w14 ⟨rfl,v14,hd14,hg14⟩
     have HD14:=hide hd14
     have HG14:=hide (HG13.out.trans hg14)
     have HS14:=hide (HS13.out.put 17 0 0 (Pr.tok ts sz q).text 1)
     have HA14:=hide (HA13.out.put 17 0 0 (Pr.tok ts sz q).text 1)
     have HX14:=hide (HX13.out.trans hg14)
     clear hd14 hg14 Q14
     cases ic:Pr.is ts sz (Pr.put r13.1 17 0 0 (Pr.tok ts sz q).text 1) [44]
     ·have Q15:=hide (takeN HD14.out [44] #[44] rfl ic)
      go_wp2_with fail
      refine Q15.out.mono ?_
      rintro e15 w15 ⟨rfl,v15,hd15,hg15⟩
      have HD15:=hide hd15
      have HG15:=hide (HG14.out.trans hg15)
      have HS15:=hide (HS14.out)
      have HA15:=hide (HA14.out)
      have HX15:=hide (HX14.out.trans hg15)
      clear hd15 hg15 Q15
      have Q16:=hide (needW HD15.out [125] #[125] rfl)
      go_wp2_with fail
      refine Q16.out.mono ?_
      rintro e16 w16 ⟨rfl,v16,hd16,hg16⟩
      have HD16:=hide hd16
      have HG16:=hide (HG15.out.trans hg16)
      have HS16:=hide (HS15.out.need (sz:=sz) [125])
      have HA16:=hide (HA15.out.need (sz:=sz) [125])
      have HX16:=hide (HX15.out.trans hg16)
      clear hd16 hg16 Q16
      have Q17:=hide (put_any HD16.out (HS16.out.len (by first | omega | (simp only [Pr.extra];omega)) h0 hN) 9 0 0 [] (n+1))
      go_wp2_with fail
      refine Q17.out.mono ?_
      rintro e17 w17 ⟨rfl,v17,hd17,hg17⟩
      have HD17:=hide hd17
      have HG17:=hide (HG16.out.trans hg17)
      have HS17:=hide (HS16.out.put 9 0 0 [] (n+1))
      have HA17:=hide (HA16.out.put 9 0 0 [] (n+1))
      have HX17:=hide (HX16.out.trans hg17)
      clear hd17 hg17 Q17
      go_wp2
      (first | go_end0 | refine bodyPost_ret (results_none rfl _ _ _) rfl ?_)
      exact ⟨(_,0),rfl,Pr.Cv.record_okN (HI10.out _ (Pr.Cv.recordL_last hbad hg t1 ic HC13.out)),v17,HD17.out,HG17.out⟩
     ·have Q15:=hide (takeY HD14.out [44] #[44] rfl ic)
      go_wp2_with fail
      refine Q15.out.mono ?_
      rintro e15 w15 ⟨rfl,v15,hd15,hg15⟩
      have HD15:=hide hd15
      have HG15:=hide (HG14.out.trans hg15)
      have HS15:=hide (HS14.out.adv ic)
      have HA15:=hide (HA14.out.adv ic)
      have HX15:=hide (HX14.out.trans hg15)
      clear hd15 hg15 Q15
      have HM:=hide (show Pr.left b ts w15 < Pr.left b ts wr from by rw [HD15.out.left,HD10.out.left];have:=HA14.out.ge;have:=Pr.is_lt ic;rw [Pr.adv_p] at *;omega)
      have HNP:=hide (show n+1≤(Pr.adv (Pr.put r13.1 17 0 0 (Pr.tok ts sz q).text 1)).p from by have:=HA14.out.ge;rw [Pr.adv_p] at *;omega)
      go_wp2
      go_roundw
      case rel=>exact ⟨n+1,_,v15,by go_num,HNP.out,HD15.out,HG15.out,HS15.out.mono (by first | omega | (simp only [Pr.extra];omega)),fun r2 h=>HI10.out _ (Pr.Cv.recordL_go hbad hg t1 ic HC13.out h)⟩
      case measure=>exact HM.out
    ·by_cases k4:(Pr.tok ts sz q).kind=4
     ·have hk:(((Pr.tok ts sz q).kind:Nat):Int)=4:=by omega
      have hp:q.p < ts.length:=Pr.tok_lt (sz:=sz) (by omega)
      have t1:((Pr.tok ts sz q).kind == 1 || (Pr.tok ts sz q).kind == 4)=true:=by simp [k4]
      have HT:=hide (tok_any HD10.out)
      go_wp2_with fail
      refine HT.out.mono ?_
      rintro e w11 ⟨rfl,hb1⟩
      unfold Pr.tokV
      rw [hk]
      have hz:=hb1.size
      have hd1:=HD10.out.below hb1
      have bA:=(Below.refl w11.heap.size w11).alloc (Nat.le_refl _) (tokO 4 (Pr.tok ts sz q))
      have hdB:=hd1.below bA
      have hl1:=hd1.lt
      have c2:=hdB.c2
      have f2:=hdB.fr 2
      have hdA:=hdB.adv hp
      have hov:v10.ownBlock≠some w11.heap.size:=fun e=>by have:=(hd1.own e).2;omega
      have hqb:w11.heap.size≠b:=by omega
      have hqs:w11.heap.size < ((w11.alloc (tokO 4 (Pr.tok ts sz q))).setCell ⟨b,2,none⟩ (.int .i64 ((q.p:Int)+1))).heap.size:=by simp
      obtain ⟨y0,y1,y2⟩:=tok_box w11 b (.int .i64 ((q.p:Int)+1)) 4 (Pr.tok ts sz q) (by omega)
      have HD11:=hide hdA
      have HX11:=hide (Pr.Gr.refl b v10 ((w11.alloc (tokO 4 (Pr.tok ts sz q))).setCell ⟨b,2,none⟩ (.int .i64 ((q.p:Int)+1))))
      have HG11:=hide (((HG10.out.trans (.below hb1)).trans (.below bA)).trans (.set v10 _ b 2 (.int .i64 ((q.p:Int)+1))))
      have HS11:=hide (HS10.out.advL hp)
      have HA11:=hide (HA10.out.advL hp)
      have HY1:=hide y1
      have HQS:=hide hqs
      have HQB:=hide hqb
      have HOV:=hide hov
      clear hb1 bA hdB hdA hd1 HT y1 hqs hqb hov hl1 hz
      have HVQ:Hid True:=hide trivial
      have Q12:=hide (needW HD11.out [58] #[58] rfl)
      go_wp2_with fail
      refine Q12.out.mono ?_
      rintro e12 w12 ⟨rfl,v12,hd12,hg12⟩
      have HD12:=hide hd12
      have HG12:=hide (HG11.out.trans hg12)
      have HS12:=hide (HS11.out.need (sz:=sz) [58])
      have HA12:=hide (HA11.out.need (sz:=sz) [58])
      have HX12:=hide (HX11.out.trans hg12)
      clear hd12 hg12 Q12
      have Q13:=hide (ihE _ (Nat.le_trans HS10.out.ge HA12.out.ge) HS12.out.le _ _ HD12.out (HS12.out.phi (by first | omega | (simp only [Pr.extra];omega)) h0 hN))
      go_wp2_with fail
      refine Q13.out.mono ?_
      rintro e13 w13 ⟨r13,rfl,hc13,v13,hd13,hg13⟩
      have HC13:=hide hc13
      have HD13:=hide hd13
      have HG13:=hide (HG12.out.trans hg13)
      have HS13:=hide (HS12.out.trans (hc13.stp HS12.out.le))
      have HA13:=hide (HA12.out.trans (hc13.stp HA12.out.le))
      have HX13:=hide (HX12.out.trans hg13)
      clear hc13 hd13 hg13 Q13
      have y1:=(HX13.out.cell HQS.out HQB.out HOV.out 1).trans HY1.out
      have Q14:=hide (put_any HD13.out (HS13.out.len (by first | omega | (simp only [Pr.extra];omega)) h0 hN) 17 0 0 (Pr.tok ts sz q).text 1)
      go_wp2_with fail
      refine Q14.out.mono ?_
      rintro e14 w14 ⟨rfl,v14,hd14,hg14⟩
      have HD14:=hide hd14
      have HG14:=hide (HG13.out.trans hg14)
      have HS14:=hide (HS13.out.put 17 0 0 (Pr.tok ts sz q).text 1)
      have HA14:=hide (HA13.out.put 17 0 0 (Pr.tok ts sz q).text 1)
      have HX14:=hide (HX13.out.trans hg14)
      clear hd14 hg14 Q14
      cases ic:Pr.is ts sz (Pr.put r13.1 17 0 0 (Pr.tok ts sz q).text 1) [44]
      ·have Q15:=hide (takeN HD14.out [44] #[44] rfl ic)
       go_wp2_with fail
       refine Q15.out.mono ?_
       rintro e15 w15 ⟨rfl,v15,hd15,hg15⟩
       have HD15:=hide hd15
       have HG15:=hide (HG14.out.trans hg15)
       have HS15:=hide (HS14.out)
       have HA15:=hide (HA14.out)
       have HX15:=hide (HX14.out.trans hg15)
       clear hd15 hg15 Q15
       have Q16:=hide (needW HD15.out [125] #[125] rfl)
       go_wp2_with fail
       refine Q16.out.mono ?_
       rintro e16 w16 ⟨rfl,v16,hd16,hg16⟩
       have HD16:=hide hd16
       have HG16:=hide (HG15.out.trans hg16)
       have HS16:=hide (HS15.out.need (sz:=sz) [125])
       have HA16:=hide (HA15.out.need (sz:=sz) [125])
       have HX16:=hide (HX15.out.trans hg16)
       clear hd16 hg16 Q16
       have Q17:=hide (put_any HD16.out (HS16.out.len (by first | omega | (simp only [Pr.extra];omega)) h0 hN) 9 0 0 [] (n+1))
       go_wp2_with fail
       refine Q17.out.mono ?_
       rintro e17 w17 ⟨rfl,v17,hd17,hg17⟩
       have HD17:=hide hd17
       have HG17:=hide (HG16.out.trans hg17)
       have HS17:=hide (HS16.out.put 9 0 0 [] (n+1))
       have HA17:=hide (HA16.out.put 9 0 0 [] (n+1))
       have HX17:=hide (HX16.out.trans hg17)
       clear hd17 hg17 Q17
       go_wp2
       (first | go_end0 | refine bodyPost_ret (results_none rfl _ _ _) rfl ?_)
       exact ⟨(_,0),rfl,Pr.Cv.record_okN (HI10.out _ (Pr.Cv.recordL_last hbad hg t1 ic HC13.out)),v17,HD17.out,HG17.out⟩
      ·have Q15:=hide (takeY HD14.out [44] #[44] rfl ic)
       go_wp2_with fail
       refine Q15.out.mono ?_
       rintro e15 w15 ⟨rfl,v15,hd15,hg15⟩
       have HD15:=hide hd15
       have HG15:=hide (HG14.out.trans hg15)
       have HS15:=hide (HS14.out.adv ic)
       have HA15:=hide (HA14.out.adv ic)
       have HX15:=hide (HX14.out.trans hg15)
       clear hd15 hg15 Q15
       have HM:=hide (show Pr.left b ts w15 < Pr.left b ts wr from by rw [HD15.out.left,HD10.out.left];have:=HA14.out.ge;have:=Pr.is_lt ic;rw [Pr.adv_p] at *;omega)
       have HNP:=hide (show n+1≤(Pr.adv (Pr.put r13.1 17 0 0 (Pr.tok ts sz q).text 1)).p from by have:=HA14.out.ge;rw [Pr.adv_p] at *;omega)
       go_wp2
       go_roundw
       case rel=>exact ⟨n+1,_,v15,by go_num,HNP.out,HD15.out,HG15.out,HS15.out.mono (by first | omega | (simp only [Pr.extra];omega)),fun r2 h=>HI10.out _ (Pr.Cv.recordL_go hbad hg t1 ic HC13.out h)⟩
       case measure=>exact HM.out
     ·have m1:¬ (((Pr.tok ts sz q).kind:Nat):Int)=1:=by omega
      have m4:¬ (((Pr.tok ts sz q).kind:Nat):Int)=4:=by omega
      have m1b:((((Pr.tok ts sz q).kind:Nat):Int) != 1)=true:=by simpa using m1
      have m4b:((((Pr.tok ts sz q).kind:Nat):Int) != 4)=true:=by simpa using m4
      have m1c:((((Pr.tok ts sz q).kind:Nat):Int) == 1)=false:=by simpa using m1
      have m4c:((((Pr.tok ts sz q).kind:Nat):Int) == 4)=false:=by simpa using m4
      have t1:((Pr.tok ts sz q).kind == 1 || (Pr.tok ts sz q).kind == 4)=false:=by simp [k1,k4]
      have HT:=hide (tok_any HD10.out)
      go_wp2_with fail
      refine HT.out.mono ?_
      rintro e w11 ⟨rfl,hb1⟩
      unfold Pr.tokV
      have hz:=hb1.size
      have hd1:=HD10.out.below hb1
      have bA:=(Below.refl w11.heap.size w11).alloc (Nat.le_refl _) (tokO (((Pr.tok ts sz q).kind:Nat):Int) (Pr.tok ts sz q))
      have hdB:=hd1.below bA
      have hl1:=hd1.lt
      have HD11:=hide hdB
      have HG11:=hide ((HG10.out.trans (.below hb1)).trans (.below bA))
      have HS11:=HS10
      have HA11:=HA10
      clear hb1 bA hdB hd1 HT hl1 hz
      have Q12:=hide (stopW HD11.out)
      go_wp2_with fail
      refine Q12.out.mono ?_
      rintro e12 w12 ⟨rfl,v12,hd12,hg12⟩
      have HD12:=hide hd12
      have HG12:=hide (HG11.out.trans hg12)
      have HS12:=hide (HS11.out.stop (sz:=sz))
      have HA12:=hide (HA11.out.stop (sz:=sz))
      clear hd12 hg12 Q12
      go_wp2
      (first | go_end0 | refine bodyPost_ret (results_none rfl _ _ _) rfl ?_)
      exact ⟨(_,0),rfl,Pr.Cv.record_badN (HI10.out _ (Pr.Cv.recordL_stop hbad hg t1)),v12,HD12.out,HG12.out⟩
  ·rw [hbad] at c3
   have Q11:=hide (needW HD10.out [125] #[125] rfl)
   go_wp2_with fail
   refine Q11.out.mono ?_
   rintro e11 w11 ⟨rfl,v11,hd11,hg11⟩
   have HD11:=hide hd11
   have HG11:=hide (HG10.out.trans hg11)
   have HS11:=hide (HS10.out.need (sz:=sz) [125])
   clear hd11 hg11 Q11
   have Q12:=hide (put_any HD11.out (HS11.out.len (by first | omega | (simp only [Pr.extra];omega)) h0 hN) 9 0 0 [] (n))
   go_wp2_with fail
   refine Q12.out.mono ?_
   rintro e12 w12 ⟨rfl,v12,hd12,hg12⟩
   have HD12:=hide hd12
   have HG12:=hide (HG11.out.trans hg12)
   have HS12:=hide (HS11.out.put 9 0 0 [] (n))
   clear hd12 hg12 Q12
   go_wp2
   (first | go_end0 | refine bodyPost_ret (results_none rfl _ _ _) rfl ?_)
   exact ⟨(_,0),rfl,Pr.Cv.record_okN (HI10.out _ (Pr.Cv.recordL_bad hbad)),v12,HD12.out,HG12.out⟩
end Go.Proofs.YtbckhbeebngjfaaGreatDoor
