/- Hj, Hk. -/
import Derived.Test.YtbckhbeebngjfaaGreatDoorT07
namespace Go.Proofs.YtbckhbeebngjfaaGreatDoor
open Go.RowKit
set_option maxRecDepth 100000 in
set_option maxHeartbeats 4000000 in
theorem post_says {b tg tc:Nat} {ts:List Sc.T} {sz:Nat} {s:Pr.Dk} (ihS:Pr.SI b tg tc ts sz s) (ihE:∀ q:Pr.Dk,s.p < q.p→q.p≤ts.length→Pr.SE b tg tc ts sz q) (ihA:∀ q:Pr.Dk,s.p < q.p→q.p≤ts.length→Pr.SA b tg tc ts sz q):Pr.ST b tg tc ts sz s:=by
 intro v0 w0 hd0 hN
 have h0:=hd0.le
 have hm:=hd0.most
 have HD0:=hide hd0
 have HG0:=hide (Pr.Gr.refl b v0 w0)
 have HS0:=hide (Pr.Stp.refl h0)
 clear hd0
 go_enter Tryz.func101,Tryz.ntmps101
 have Q1:=hide (ihS _ _ HD0.out (HS0.out.phi (by first | omega | (simp only [Pr.extra];omega)) h0 hN))
 go_wp2_with fail
 refine Q1.out.mono ?_
 rintro e1 w1 ⟨r1,rfl,hc1,v1,hd1,hg1⟩
 have HC1:=hide hc1
 have HD1:=hide hd1
 have HG1:=hide (HG0.out.trans hg1)
 have HS1:=hide (HS0.out.trans (hc1.stp HS0.out.le))
 clear hc1 hd1 hg1 Q1
 have HI:=hide (show ∀ r2,Pr.Cv ts sz .postL r1.1 r2→Pr.Cv ts sz .post s r2 from fun r2 h=>Pr.Cv.post HC1.out h)
 clear HC1
 go_wp2_with fail
 go_loopw [9] (fun _ wr=>∃ (q:Pr.Dk) (vq:Value),DK b tg tc ts sz vq q wr∧Pr.Gr b v0 vq w0 wr∧Pr.Stp ts s q 0∧∀ r2,Pr.Cv ts sz .postL q r2→Pr.Cv ts sz .post s r2) (fun _ wr=>Pr.left b ts wr)
 case atStart=>exact ⟨r1.1,v1,HD1.out,HG1.out,HS1.out.mono (by first | omega | (simp only [Pr.extra];omega)),HI.out⟩
 case round =>
  obtain ⟨q,v10,hd10,hg10,hs10,hi10⟩:=hrel
  have c3:=hd10.c3
  have HD10:=hide hd10
  have HG10:=hide hg10
  have HS10:=hide hs10
  have HI10:=hide hi10
  clear hd10 hg10 hs10 hi10 HI HD1 HG1 HS1
  cases hbad:q.bad
  ·rw [hbad] at c3
   cases i0:Pr.is ts sz q [40]
   ·cases i1:Pr.is ts sz q [91]
    ·cases i2:Pr.is ts sz q [46]
     ·have Q11:=hide (takeN HD10.out [40] #[40] rfl i0)
      go_wp2_with fail
      refine Q11.out.mono ?_
      rintro e11 w11 ⟨rfl,v11,hd11,hg11⟩
      have HD11:=hide hd11
      have HG11:=hide (HG10.out.trans hg11)
      have HS11:=hide (HS10.out)
      clear hd11 hg11 Q11
      have Q12:=hide (takeN HD11.out [91] #[91] rfl i1)
      go_wp2_with fail
      refine Q12.out.mono ?_
      rintro e12 w12 ⟨rfl,v12,hd12,hg12⟩
      have HD12:=hide hd12
      have HG12:=hide (HG11.out.trans hg12)
      have HS12:=hide (HS11.out)
      clear hd12 hg12 Q12
      have Q13:=hide (takeN HD12.out [46] #[46] rfl i2)
      go_wp2_with fail
      refine Q13.out.mono ?_
      rintro e13 w13 ⟨rfl,v13,hd13,hg13⟩
      have HD13:=hide hd13
      have HG13:=hide (HG12.out.trans hg13)
      have HS13:=hide (HS12.out)
      clear hd13 hg13 Q13
      go_wp2
      (first | go_end0 | refine bodyPost_ret (results_none rfl _ _ _) rfl ?_)
      exact ⟨(q,0),rfl,HI10.out _ (Pr.Cv.postL_end hbad i0 i1 i2),v13,HD13.out,HG13.out⟩
     ·have Q11:=hide (takeN HD10.out [40] #[40] rfl i0)
      go_wp2_with fail
      refine Q11.out.mono ?_
      rintro e11 w11 ⟨rfl,v11,hd11,hg11⟩
      have HD11:=hide hd11
      have HG11:=hide (HG10.out.trans hg11)
      have HS11:=hide (HS10.out)
      clear hd11 hg11 Q11
      have Q12:=hide (takeN HD11.out [91] #[91] rfl i1)
      go_wp2_with fail
      refine Q12.out.mono ?_
      rintro e12 w12 ⟨rfl,v12,hd12,hg12⟩
      have HD12:=hide hd12
      have HG12:=hide (HG11.out.trans hg12)
      have HS12:=hide (HS11.out)
      clear hd12 hg12 Q12
      have Q13:=hide (takeY HD12.out [46] #[46] rfl i2)
      go_wp2_with fail
      refine Q13.out.mono ?_
      rintro e13 w13 ⟨rfl,v13,hd13,hg13⟩
      have HD13:=hide hd13
      have HG13:=hide (HG12.out.trans hg13)
      have HS13:=hide (HS12.out.adv i2)
      clear hd13 hg13 Q13
      have HA13:=hide (Pr.Stp.refl HS13.out.le)
      have Q14:=hide (nameW HD13.out)
      go_wp2_with fail
      refine Q14.out.mono ?_
      rintro e14 w14 ⟨rfl,v14,hd14,hg14⟩
      have HD14:=hide hd14
      have HG14:=hide (HG13.out.trans hg14)
      have HS14:=hide (HS13.out.name (sz:=sz))
      have HA14:=hide (HA13.out.name (sz:=sz))
      clear hd14 hg14 Q14
      have Q15:=hide (put_any HD14.out (HS14.out.len (by first | omega | (simp only [Pr.extra];omega)) h0 hN) 11 0 0 (Pr.nameT ts sz (Pr.adv q)) 1)
      go_wp2_with fail
      refine Q15.out.mono ?_
      rintro e15 w15 ⟨rfl,v15,hd15,hg15⟩
      have HD15:=hide hd15
      have HG15:=hide (HG14.out.trans hg15)
      have HS15:=hide (HS14.out.put 11 0 0 (Pr.nameT ts sz (Pr.adv q)) 1)
      have HA15:=hide (HA14.out.put 11 0 0 (Pr.nameT ts sz (Pr.adv q)) 1)
      clear hd15 hg15 Q15
      have HM:=hide (show Pr.left b ts w15 < Pr.left b ts wr from by rw [HD15.out.left,HD10.out.left];have:=HA15.out.ge;have:=Pr.is_lt i2;rw [Pr.adv_p] at *;omega)
      go_wp2
      go_roundw
      case rel=>exact ⟨_,v15,HD15.out,HG15.out,HS15.out.mono (by first | omega | (simp only [Pr.extra];omega)),fun r2 h=>HI10.out _ (Pr.Cv.postL_dot hbad i0 i1 i2 h)⟩
      case measure=>exact HM.out
    ·have Q11:=hide (takeN HD10.out [40] #[40] rfl i0)
     go_wp2_with fail
     refine Q11.out.mono ?_
     rintro e11 w11 ⟨rfl,v11,hd11,hg11⟩
     have HD11:=hide hd11
     have HG11:=hide (HG10.out.trans hg11)
     have HS11:=hide (HS10.out)
     clear hd11 hg11 Q11
     have Q12:=hide (takeY HD11.out [91] #[91] rfl i1)
     go_wp2_with fail
     refine Q12.out.mono ?_
     rintro e12 w12 ⟨rfl,v12,hd12,hg12⟩
     have HD12:=hide hd12
     have HG12:=hide (HG11.out.trans hg12)
     have HS12:=hide (HS11.out.adv i1)
     clear hd12 hg12 Q12
     have HA12:=hide (Pr.Stp.refl HS12.out.le)
     have Q13:=hide (ihE _ (Nat.lt_of_lt_of_le (Nat.lt_succ_of_le HS10.out.ge) HA12.out.ge) HS12.out.le _ _ HD12.out (HS12.out.phi (by first | omega | (simp only [Pr.extra];omega)) h0 hN))
     go_wp2_with fail
     refine Q13.out.mono ?_
     rintro e13 w13 ⟨r13,rfl,hc13,v13,hd13,hg13⟩
     have HC13:=hide hc13
     have HD13:=hide hd13
     have HG13:=hide (HG12.out.trans hg13)
     have HS13:=hide (HS12.out.trans (hc13.stp HS12.out.le))
     have HA13:=hide (HA12.out.trans (hc13.stp HA12.out.le))
     clear hc13 hd13 hg13 Q13
     have Q14:=hide (needW HD13.out [93] #[93] rfl)
     go_wp2_with fail
     refine Q14.out.mono ?_
     rintro e14 w14 ⟨rfl,v14,hd14,hg14⟩
     have HD14:=hide hd14
     have HG14:=hide (HG13.out.trans hg14)
     have HS14:=hide (HS13.out.need (sz:=sz) [93])
     have HA14:=hide (HA13.out.need (sz:=sz) [93])
     clear hd14 hg14 Q14
     have Q15:=hide (put_any HD14.out (HS14.out.len (by first | omega | (simp only [Pr.extra];omega)) h0 hN) 10 0 0 [] 2)
     go_wp2_with fail
     refine Q15.out.mono ?_
     rintro e15 w15 ⟨rfl,v15,hd15,hg15⟩
     have HD15:=hide hd15
     have HG15:=hide (HG14.out.trans hg15)
     have HS15:=hide (HS14.out.put 10 0 0 [] 2)
     have HA15:=hide (HA14.out.put 10 0 0 [] 2)
     clear hd15 hg15 Q15
     have HM:=hide (show Pr.left b ts w15 < Pr.left b ts wr from by rw [HD15.out.left,HD10.out.left];have:=HA15.out.ge;have:=Pr.is_lt i1;rw [Pr.adv_p] at *;omega)
     go_wp2
     go_roundw
     case rel=>exact ⟨_,v15,HD15.out,HG15.out,HS15.out.mono (by first | omega | (simp only [Pr.extra];omega)),fun r2 h=>HI10.out _ (Pr.Cv.postL_index hbad i0 i1 HC13.out h)⟩
     case measure=>exact HM.out
   ·have Q11:=hide (takeY HD10.out [40] #[40] rfl i0)
    go_wp2_with fail
    refine Q11.out.mono ?_
    rintro e11 w11 ⟨rfl,v11,hd11,hg11⟩
    have HD11:=hide hd11
    have HG11:=hide (HG10.out.trans hg11)
    have HS11:=hide (HS10.out.adv i0)
    clear hd11 hg11 Q11
    have HA11:=hide (Pr.Stp.refl HS11.out.le)
    have Q12:=hide (ihA _ (Nat.lt_of_lt_of_le (Nat.lt_succ_of_le HS10.out.ge) HA11.out.ge) HS11.out.le _ _ HD11.out (HS11.out.phi (by first | omega | (simp only [Pr.extra];omega)) h0 hN))
    go_wp2_with fail
    refine Q12.out.mono ?_
    rintro e12 w12 ⟨r12,rfl,hc12,v12,hd12,hg12⟩
    have HC12:=hide hc12
    have HD12:=hide hd12
    have HG12:=hide (HG11.out.trans hg12)
    have HS12:=hide (HS11.out.trans (hc12.stp HS11.out.le))
    have HA12:=hide (HA11.out.trans (hc12.stp HA11.out.le))
    clear hc12 hd12 hg12 Q12
    have hn1:=HC12.out.num rfl (Pr.is_lt i0)
    have hl1:=HS12.out.le
    simp only [Pr.cnt] at hn1
    unfold Pr.nu
    have Q13:=hide (put_any HD12.out (HS12.out.len (by first | omega | (simp only [Pr.extra];omega)) h0 hN) 12 0 0 [] (1+r12.2))
    go_wp2_with fail
    refine Q13.out.mono ?_
    rintro e13 w13 ⟨rfl,v13,hd13,hg13⟩
    have HD13:=hide hd13
    have HG13:=hide (HG12.out.trans hg13)
    have HS13:=hide (HS12.out.put 12 0 0 [] (1+r12.2))
    have HA13:=hide (HA12.out.put 12 0 0 [] (1+r12.2))
    clear hd13 hg13 Q13
    have HM:=hide (show Pr.left b ts w13 < Pr.left b ts wr from by rw [HD13.out.left,HD10.out.left];have:=HA13.out.ge;have:=Pr.is_lt i0;rw [Pr.adv_p] at *;omega)
    go_wp2
    go_roundw
    case rel=>exact ⟨_,v13,HD13.out,HG13.out,HS13.out.mono (by first | omega | (simp only [Pr.extra];omega)),fun r2 h=>HI10.out _ (Pr.Cv.postL_call hbad i0 HC12.out h)⟩
    case measure=>exact HM.out
  ·rw [hbad] at c3
   go_wp2
   (first | go_end0 | refine bodyPost_ret (results_none rfl _ _ _) rfl ?_)
   exact ⟨(q,0),rfl,HI10.out _ (Pr.Cv.postL_bad hbad),v10,HD10.out,HG10.out⟩
theorem isY {b tg tc:Nat} {ts:List Sc.T} {sz:Nat} {v:Value} {s:Pr.Dk} {w:World} (h:DK b tg tc ts sz v s w) (t:List UInt8) (a:Array UInt8) (ha:a.toList=t) (hi:Pr.is ts sz s t=true) :
  Calls Tryz.prog 88 #[.pointer (some ⟨b,0,none⟩),.string ⟨a⟩] w fun e w'=>e = .returned (.bool true)∧DPost b tg tc ts sz v w s w':=by
 have:=is_any h ⟨a⟩
 simp only [ha,hi] at this
 exact this.mono fun _ _ ⟨h1,h2⟩=>⟨h1,v,h.below h2,.below h2⟩
theorem isN {b tg tc:Nat} {ts:List Sc.T} {sz:Nat} {v:Value} {s:Pr.Dk} {w:World} (h:DK b tg tc ts sz v s w) (t:List UInt8) (a:Array UInt8) (ha:a.toList=t) (hi:Pr.is ts sz s t=false) :
  Calls Tryz.prog 88 #[.pointer (some ⟨b,0,none⟩),.string ⟨a⟩] w fun e w'=>e = .returned (.bool false)∧DPost b tg tc ts sz v w s w':=by
 have:=is_any h ⟨a⟩
 simp only [ha,hi] at this
 exact this.mono fun _ _ ⟨h1,h2⟩=>⟨h1,v,h.below h2,.below h2⟩
set_option maxRecDepth 100000 in
set_option maxHeartbeats 8000000 in
theorem params_says {b tg tc:Nat} {ts:List Sc.T} {sz:Nat} {s:Pr.Dk} (ihE:∀ q:Pr.Dk,s.p≤q.p→q.p≤ts.length→Pr.SE b tg tc ts sz q):Pr.SP b tg tc ts sz s:=by
 intro v0 w0 hd0 hN
 have h0:=hd0.le
 have hm:=hd0.most
 have HD0:=hide hd0
 have HG0:=hide (Pr.Gr.refl b v0 w0)
 have HS0:=hide (Pr.Stp.refl h0)
 clear hd0
 go_enter Tryz.func77,Tryz.ntmps77
 have Q1:=hide (needW HD0.out [40] #[40] rfl)
 go_wp2_with fail
 refine Q1.out.mono ?_
 rintro e1 w1 ⟨rfl,v1,hd1,hg1⟩
 have HD1:=hide hd1
 have HG1:=hide (HG0.out.trans hg1)
 have HS1:=hide (HS0.out.need (sz:=sz) [40])
 clear hd1 hg1 Q1
 have HI:=hide (show ∀ r2,Pr.Cv ts sz (.paramsL 0) (Pr.need ts sz s [40]) r2→Pr.Cv ts sz .params s (Pr.need ts sz r2.1 [41],r2.2) from fun r2 h=>Pr.Cv.params h)
 go_wp2_with fail
 go_loopw [3] (fun t wr=>∃ (n:Nat) (q:Pr.Dk) (vq:Value),t = .int .i64 n∧n≤q.p∧DK b tg tc ts sz vq q wr∧Pr.Gr b v0 vq w0 wr∧Pr.Stp ts s q 0∧∀ r2,Pr.Cv ts sz (.paramsL n) q r2→Pr.Cv ts sz .params s (Pr.need ts sz r2.1 [41],r2.2)) (fun _ wr=>Pr.left b ts wr)
 case atStart=>exact ⟨0,_,v1,rfl,Nat.zero_le _,HD1.out,HG1.out,HS1.out.mono (by first | omega | (simp only [Pr.extra];omega)),HI.out⟩
 case round =>
  obtain ⟨n,q,v10,rfl,hnp,hd10,hg10,hs10,hi10⟩:=hrel
  have c3:=hd10.c3
  have hle:=hd10.le
  have HD10:=hide hd10
  have HG10:=hide hg10
  have HS10:=hide hs10
  have HI10:=hide hi10
  clear hd10 hg10 hs10 hi10 HI HD1 HG1 HS1
  cases hbad:q.bad
  ·rw [hbad] at c3
   by_cases hn:n=0
   ·subst hn
    cases i0:Pr.is ts sz q [41]
    ·have Q11:=hide (isN HD10.out [41] #[41] rfl i0)
     go_wp2_with fail
     refine Q11.out.mono ?_
     rintro e11 w11 ⟨rfl,v11,hd11,hg11⟩
     have HD11:=hide hd11
     have HG11:=hide (HG10.out.trans hg11)
     have HS11:=hide (HS10.out)
     clear hd11 hg11 Q11
     have hg:((0:Nat) == 0 && Pr.is ts sz q [41])=false:=by rw [i0];rfl
     have HA11:=hide (Pr.Stp.refl HS11.out.le)
     have Q12:=hide (nameW HD11.out)
     go_wp2_with fail
     refine Q12.out.mono ?_
     rintro e12 w12 ⟨rfl,v12,hd12,hg12⟩
     have HD12:=hide hd12
     have HG12:=hide (HG11.out.trans hg12)
     have HS12:=hide (HS11.out.name (sz:=sz))
     have HA12:=hide (HA11.out.name (sz:=sz))
     clear hd12 hg12 Q12
     cases ie:Pr.is ts sz (Pr.name ts sz q) [61]
     ·have Q13:=hide (takeN HD12.out [61] #[61] rfl ie)
      go_wp2_with fail
      refine Q13.out.mono ?_
      rintro e13 w13 ⟨rfl,v13,hd13,hg13⟩
      have HD13:=hide hd13
      have HG13:=hide (HG12.out.trans hg13)
      have HS13:=hide (HS12.out)
      have HA13:=hide (HA12.out)
      clear hd13 hg13 Q13
      have Q14:=hide (put_any HD13.out (HS13.out.len (by first | omega | (simp only [Pr.extra];omega)) h0 hN) 19 0 0 (Pr.nameT ts sz q) 0)
      go_wp2_with fail
      refine Q14.out.mono ?_
      rintro e14 w14 ⟨rfl,v14,hd14,hg14⟩
      have HD14:=hide hd14
      have HG14:=hide (HG13.out.trans hg14)
      have HS14:=hide (HS13.out.put 19 0 0 (Pr.nameT ts sz q) 0)
      have HA14:=hide (HA13.out.put 19 0 0 (Pr.nameT ts sz q) 0)
      clear hd14 hg14 Q14
      cases ic:Pr.is ts sz (Pr.put (Pr.name ts sz q) 19 0 0 (Pr.nameT ts sz q) 0) [44]
      ·have Q15:=hide (takeN HD14.out [44] #[44] rfl ic)
       go_wp2_with fail
       refine Q15.out.mono ?_
       rintro e15 w15 ⟨rfl,v15,hd15,hg15⟩
       have HD15:=hide hd15
       have HG15:=hide (HG14.out.trans hg15)
       have HS15:=hide (HS14.out)
       have HA15:=hide (HA14.out)
       clear hd15 hg15 Q15
       have Q16:=hide (needW HD15.out [41] #[41] rfl)
       go_wp2_with fail
       refine Q16.out.mono ?_
       rintro e16 w16 ⟨rfl,v16,hd16,hg16⟩
       have HD16:=hide hd16
       have HG16:=hide (HG15.out.trans hg16)
       have HS16:=hide (HS15.out.need (sz:=sz) [41])
       have HA16:=hide (HA15.out.need (sz:=sz) [41])
       clear hd16 hg16 Q16
       go_wp2
       go_ret
       exact ⟨(_,0+1),by first | rfl | (unfold Pr.nu;go_num),HI10.out _ (Pr.Cv.paramsL_noEnd hbad hg ie ic),v16,HD16.out,HG16.out⟩
      ·have Q15:=hide (takeY HD14.out [44] #[44] rfl ic)
       go_wp2_with fail
       refine Q15.out.mono ?_
       rintro e15 w15 ⟨rfl,v15,hd15,hg15⟩
       have HD15:=hide hd15
       have HG15:=hide (HG14.out.trans hg15)
       have HS15:=hide (HS14.out.adv ic)
       have HA15:=hide (HA14.out.adv ic)
       clear hd15 hg15 Q15
       have HM:=hide (show Pr.left b ts w15 < Pr.left b ts wr from by rw [HD15.out.left,HD10.out.left];have:=HA14.out.ge;have:=Pr.is_lt ic;rw [Pr.adv_p] at *;omega)
       have HNP:=hide (show 0+1≤(Pr.adv (Pr.put (Pr.name ts sz q) 19 0 0 (Pr.nameT ts sz q) 0)).p from by have:=HA14.out.ge;rw [Pr.adv_p] at *;omega)
       go_wp2
       go_roundw
       case rel=>exact ⟨0+1,_,v15,by go_num,HNP.out,HD15.out,HG15.out,HS15.out.mono (by first | omega | (simp only [Pr.extra];omega)),fun r2 h=>HI10.out _ (Pr.Cv.paramsL_no hbad hg ie ic h)⟩
       case measure=>exact HM.out
     ·have Q13:=hide (takeY HD12.out [61] #[61] rfl ie)
      go_wp2_with fail
      refine Q13.out.mono ?_
      rintro e13 w13 ⟨rfl,v13,hd13,hg13⟩
      have HD13:=hide hd13
      have HG13:=hide (HG12.out.trans hg13)
      have HS13:=hide (HS12.out.adv ie)
      have HA13:=hide (HA12.out.adv ie)
      clear hd13 hg13 Q13
      have Q14:=hide (ihE _ (Nat.le_trans HS10.out.ge HA13.out.ge) HS13.out.le _ _ HD13.out (HS13.out.phi (by first | omega | (simp only [Pr.extra];omega)) h0 hN))
      go_wp2_with fail
      refine Q14.out.mono ?_
      rintro e14 w14 ⟨r14,rfl,hc14,v14,hd14,hg14⟩
      have HC14:=hide hc14
      have HD14:=hide hd14
      have HG14:=hide (HG13.out.trans hg14)
      have HS14:=hide (HS13.out.trans (hc14.stp HS13.out.le))
      have HA14:=hide (HA13.out.trans (hc14.stp HA13.out.le))
      clear hc14 hd14 hg14 Q14
      have Q15:=hide (put_any HD14.out (HS14.out.len (by first | omega | (simp only [Pr.extra];omega)) h0 hN) 19 0 0 (Pr.nameT ts sz q) 1)
      go_wp2_with fail
      refine Q15.out.mono ?_
      rintro e15 w15 ⟨rfl,v15,hd15,hg15⟩
      have HD15:=hide hd15
      have HG15:=hide (HG14.out.trans hg15)
      have HS15:=hide (HS14.out.put 19 0 0 (Pr.nameT ts sz q) 1)
      have HA15:=hide (HA14.out.put 19 0 0 (Pr.nameT ts sz q) 1)
      clear hd15 hg15 Q15
      cases ic:Pr.is ts sz (Pr.put r14.1 19 0 0 (Pr.nameT ts sz q) 1) [44]
      ·have Q16:=hide (takeN HD15.out [44] #[44] rfl ic)
       go_wp2_with fail
       refine Q16.out.mono ?_
       rintro e16 w16 ⟨rfl,v16,hd16,hg16⟩
       have HD16:=hide hd16
       have HG16:=hide (HG15.out.trans hg16)
       have HS16:=hide (HS15.out)
       have HA16:=hide (HA15.out)
       clear hd16 hg16 Q16
       have Q17:=hide (needW HD16.out [41] #[41] rfl)
       go_wp2_with fail
       refine Q17.out.mono ?_
       rintro e17 w17 ⟨rfl,v17,hd17,hg17⟩
       have HD17:=hide hd17
       have HG17:=hide (HG16.out.trans hg17)
       have HS17:=hide (HS16.out.need (sz:=sz) [41])
       have HA17:=hide (HA16.out.need (sz:=sz) [41])
       clear hd17 hg17 Q17
       go_wp2
       go_ret
       exact ⟨(_,0+1),by first | rfl | (unfold Pr.nu;go_num),HI10.out _ (Pr.Cv.paramsL_valEnd hbad hg ie ic HC14.out),v17,HD17.out,HG17.out⟩
      ·have Q16:=hide (takeY HD15.out [44] #[44] rfl ic)
       go_wp2_with fail
       refine Q16.out.mono ?_
       rintro e16 w16 ⟨rfl,v16,hd16,hg16⟩
       have HD16:=hide hd16
       have HG16:=hide (HG15.out.trans hg16)
       have HS16:=hide (HS15.out.adv ic)
       have HA16:=hide (HA15.out.adv ic)
       clear hd16 hg16 Q16
       have HM:=hide (show Pr.left b ts w16 < Pr.left b ts wr from by rw [HD16.out.left,HD10.out.left];have:=HA15.out.ge;have:=Pr.is_lt ic;rw [Pr.adv_p] at *;omega)
       have HNP:=hide (show 0+1≤(Pr.adv (Pr.put r14.1 19 0 0 (Pr.nameT ts sz q) 1)).p from by have:=HA15.out.ge;rw [Pr.adv_p] at *;omega)
       go_wp2
       go_roundw
       case rel=>exact ⟨0+1,_,v16,by go_num,HNP.out,HD16.out,HG16.out,HS16.out.mono (by first | omega | (simp only [Pr.extra];omega)),fun r2 h=>HI10.out _ (Pr.Cv.paramsL_val hbad hg ie ic HC14.out h)⟩
       case measure=>exact HM.out
    ·have Q11:=hide (isY HD10.out [41] #[41] rfl i0)
     go_wp2_with fail
     refine Q11.out.mono ?_
     rintro e11 w11 ⟨rfl,v11,hd11,hg11⟩
     have HD11:=hide hd11
     have HG11:=hide (HG10.out.trans hg11)
     have HS11:=hide (HS10.out)
     clear hd11 hg11 Q11
     have Q12:=hide (needW HD11.out [41] #[41] rfl)
     go_wp2_with fail
     refine Q12.out.mono ?_
     rintro e12 w12 ⟨rfl,v12,hd12,hg12⟩
     have HD12:=hide hd12
     have HG12:=hide (HG11.out.trans hg12)
     have HS12:=hide (HS11.out.need (sz:=sz) [41])
     clear hd12 hg12 Q12
     go_wp2
     go_ret
     exact ⟨(_,0),by first | rfl | (unfold Pr.nu;go_num),HI10.out _ (Pr.Cv.paramsL_end hbad i0),v12,HD12.out,HG12.out⟩
   ·have hn0:0 < (n:Int):=by omega
    have hg:(n == 0 && Pr.is ts sz q [41])=false:=by simp [hn]
    have HA10:=hide (Pr.Stp.refl HS10.out.le)
    have Q11:=hide (nameW HD10.out)
    go_wp2_with fail
    refine Q11.out.mono ?_
    rintro e11 w11 ⟨rfl,v11,hd11,hg11⟩
    have HD11:=hide hd11
    have HG11:=hide (HG10.out.trans hg11)
    have HS11:=hide (HS10.out.name (sz:=sz))
    have HA11:=hide (HA10.out.name (sz:=sz))
    clear hd11 hg11 Q11
    cases ie:Pr.is ts sz (Pr.name ts sz q) [61]
    ·have Q12:=hide (takeN HD11.out [61] #[61] rfl ie)
     go_wp2_with fail
     refine Q12.out.mono ?_
     rintro e12 w12 ⟨rfl,v12,hd12,hg12⟩
     have HD12:=hide hd12
     have HG12:=hide (HG11.out.trans hg12)
     have HS12:=hide (HS11.out)
     have HA12:=hide (HA11.out)
     clear hd12 hg12 Q12
     have Q13:=hide (put_any HD12.out (HS12.out.len (by first | omega | (simp only [Pr.extra];omega)) h0 hN) 19 0 0 (Pr.nameT ts sz q) 0)
     go_wp2_with fail
     refine Q13.out.mono ?_
     rintro e13 w13 ⟨rfl,v13,hd13,hg13⟩
     have HD13:=hide hd13
     have HG13:=hide (HG12.out.trans hg13)
     have HS13:=hide (HS12.out.put 19 0 0 (Pr.nameT ts sz q) 0)
     have HA13:=hide (HA12.out.put 19 0 0 (Pr.nameT ts sz q) 0)
     clear hd13 hg13 Q13
     cases ic:Pr.is ts sz (Pr.put (Pr.name ts sz q) 19 0 0 (Pr.nameT ts sz q) 0) [44]
     ·have Q14:=hide (takeN HD13.out [44] #[44] rfl ic)
      go_wp2_with fail
      refine Q14.out.mono ?_
      rintro e14 w14 ⟨rfl,v14,hd14,hg14⟩
      have HD14:=hide hd14
      have HG14:=hide (HG13.out.trans hg14)
      have HS14:=hide (HS13.out)
      have HA14:=hide (HA13.out)
      clear hd14 hg14 Q14
      have Q15:=hide (needW HD14.out [41] #[41] rfl)
      go_wp2_with fail
      refine Q15.out.mono ?_
      rintro e15 w15 ⟨rfl,v15,hd15,hg15⟩
      have HD15:=hide hd15
      have HG15:=hide (HG14.out.trans hg15)
      have HS15:=hide (HS14.out.need (sz:=sz) [41])
      have HA15:=hide (HA14.out.need (sz:=sz) [41])
      clear hd15 hg15 Q15
      go_wp2
      go_ret
      exact ⟨(_,n+1),by first | rfl | (unfold Pr.nu;go_num),HI10.out _ (Pr.Cv.paramsL_noEnd hbad hg ie ic),v15,HD15.out,HG15.out⟩
     ·have Q14:=hide (takeY HD13.out [44] #[44] rfl ic)
      go_wp2_with fail
      refine Q14.out.mono ?_
      rintro e14 w14 ⟨rfl,v14,hd14,hg14⟩
      have HD14:=hide hd14
      have HG14:=hide (HG13.out.trans hg14)
      have HS14:=hide (HS13.out.adv ic)
      have HA14:=hide (HA13.out.adv ic)
      clear hd14 hg14 Q14
      have HM:=hide (show Pr.left b ts w14 < Pr.left b ts wr from by rw [HD14.out.left,HD10.out.left];have:=HA13.out.ge;have:=Pr.is_lt ic;rw [Pr.adv_p] at *;omega)
      have HNP:=hide (show n+1≤(Pr.adv (Pr.put (Pr.name ts sz q) 19 0 0 (Pr.nameT ts sz q) 0)).p from by have:=HA13.out.ge;rw [Pr.adv_p] at *;omega)
      go_wp2
      go_roundw
      case rel=>exact ⟨n+1,_,v14,by go_num,HNP.out,HD14.out,HG14.out,HS14.out.mono (by first | omega | (simp only [Pr.extra];omega)),fun r2 h=>HI10.out _ (Pr.Cv.paramsL_no hbad hg ie ic h)⟩
      case measure=>exact HM.out
    ·have Q12:=hide (takeY HD11.out [61] #[61] rfl ie)
     go_wp2_with fail
     refine Q12.out.mono ?_
     rintro e12 w12 ⟨rfl,v12,hd12,hg12⟩
     have HD12:=hide hd12
     have HG12:=hide (HG11.out.trans hg12)
     have HS12:=hide (HS11.out.adv ie)
     have HA12:=hide (HA11.out.adv ie)
     clear hd12 hg12 Q12
     have Q13:=hide (ihE _ (Nat.le_trans HS10.out.ge HA12.out.ge) HS12.out.le _ _ HD12.out (HS12.out.phi (by first | omega | (simp only [Pr.extra];omega)) h0 hN))
     go_wp2_with fail
     refine Q13.out.mono ?_
     rintro e13 w13 ⟨r13,rfl,hc13,v13,hd13,hg13⟩
     have HC13:=hide hc13
     have HD13:=hide hd13
     have HG13:=hide (HG12.out.trans hg13)
     have HS13:=hide (HS12.out.trans (hc13.stp HS12.out.le))
     have HA13:=hide (HA12.out.trans (hc13.stp HA12.out.le))
     clear hc13 hd13 hg13 Q13
     have Q14:=hide (put_any HD13.out (HS13.out.len (by first | omega | (simp only [Pr.extra];omega)) h0 hN) 19 0 0 (Pr.nameT ts sz q) 1)
     go_wp2_with fail
     refine Q14.out.mono ?_
     rintro e14 w14 ⟨rfl,v14,hd14,hg14⟩
     have HD14:=hide hd14
     have HG14:=hide (HG13.out.trans hg14)
     have HS14:=hide (HS13.out.put 19 0 0 (Pr.nameT ts sz q) 1)
     have HA14:=hide (HA13.out.put 19 0 0 (Pr.nameT ts sz q) 1)
     clear hd14 hg14 Q14
     cases ic:Pr.is ts sz (Pr.put r13.1 19 0 0 (Pr.nameT ts sz q) 1) [44]
     ·have Q15:=hide (takeN HD14.out [44] #[44] rfl ic)
      go_wp2_with fail
      refine Q15.out.mono ?_
      rintro e15 w15 ⟨rfl,v15,hd15,hg15⟩
      have HD15:=hide hd15
      have HG15:=hide (HG14.out.trans hg15)
      have HS15:=hide (HS14.out)
      have HA15:=hide (HA14.out)
      clear hd15 hg15 Q15
      have Q16:=hide (needW HD15.out [41] #[41] rfl)
      go_wp2_with fail
      refine Q16.out.mono ?_
      rintro e16 w16 ⟨rfl,v16,hd16,hg16⟩
      have HD16:=hide hd16
      have HG16:=hide (HG15.out.trans hg16)
      have HS16:=hide (HS15.out.need (sz:=sz) [41])
      have HA16:=hide (HA15.out.need (sz:=sz) [41])
      clear hd16 hg16 Q16
      go_wp2
      go_ret
      exact ⟨(_,n+1),by first | rfl | (unfold Pr.nu;go_num),HI10.out _ (Pr.Cv.paramsL_valEnd hbad hg ie ic HC13.out),v16,HD16.out,HG16.out⟩
     ·have Q15:=hide (takeY HD14.out [44] #[44] rfl ic)
      go_wp2_with fail
      refine Q15.out.mono ?_
      rintro e15 w15 ⟨rfl,v15,hd15,hg15⟩
      have HD15:=hide hd15
      have HG15:=hide (HG14.out.trans hg15)
      have HS15:=hide (HS14.out.adv ic)
      have HA15:=hide (HA14.out.adv ic)
      clear hd15 hg15 Q15
      have HM:=hide (show Pr.left b ts w15 < Pr.left b ts wr from by rw [HD15.out.left,HD10.out.left];have:=HA14.out.ge;have:=Pr.is_lt ic;rw [Pr.adv_p] at *;omega)
      have HNP:=hide (show n+1≤(Pr.adv (Pr.put r13.1 19 0 0 (Pr.nameT ts sz q) 1)).p from by have:=HA14.out.ge;rw [Pr.adv_p] at *;omega)
      go_wp2
      go_roundw
      case rel=>exact ⟨n+1,_,v15,by go_num,HNP.out,HD15.out,HG15.out,HS15.out.mono (by first | omega | (simp only [Pr.extra];omega)),fun r2 h=>HI10.out _ (Pr.Cv.paramsL_val hbad hg ie ic HC13.out h)⟩
      case measure=>exact HM.out
  ·rw [hbad] at c3
   have Q11:=hide (needW HD10.out [41] #[41] rfl)
   go_wp2_with fail
   refine Q11.out.mono ?_
   rintro e11 w11 ⟨rfl,v11,hd11,hg11⟩
   have HD11:=hide hd11
   have HG11:=hide (HG10.out.trans hg11)
   have HS11:=hide (HS10.out.need (sz:=sz) [41])
   clear hd11 hg11 Q11
   go_wp2
   go_ret
   exact ⟨(_,n),by first | rfl | (unfold Pr.nu;go_num),HI10.out _ (Pr.Cv.paramsL_bad hbad),v11,HD11.out,HG11.out⟩
end Go.Proofs.YtbckhbeebngjfaaGreatDoor
