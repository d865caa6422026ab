/- Hm. -/
import Derived.Test.YtbckhbeebngjfaaGreatDoorT08
namespace Go.Proofs.YtbckhbeebngjfaaGreatDoor
open Go.RowKit
def Pr.Named (b tg tc:Nat) (ts:List Sc.T) (sz:Nat):Prop:=∀ (v:Value) (s:Pr.Dk) (w:World),DK b tg tc ts sz v s w→Calls Tryz.prog 119 #[.pointer (some ⟨b,0,none⟩)] w fun e w'=>e = .returned (.bool (Pr.named ts sz s))∧Below w.heap.size w w'
theorem namedV {b tg tc:Nat} {ts:List Sc.T} {sz:Nat} {v:Value} {s:Pr.Dk} {w:World} (hnm:Pr.Named b tg tc ts sz) (h:DK b tg tc ts sz v s w) {c:Bool} (hi:Pr.named ts sz s=c) :
  Calls Tryz.prog 119 #[.pointer (some ⟨b,0,none⟩)] w fun e w'=>e = .returned (.bool c)∧DPost b tg tc ts sz v w s w':=by
 have:=hnm _ _ _ h
 rw [hi] at this
 exact this.mono fun _ _ ⟨h1,h2⟩=>⟨h1,v,h.below h2,.below h2⟩
set_option maxRecDepth 100000 in
set_option maxHeartbeats 8000000 in
theorem args_says {b tg tc:Nat} {ts:List Sc.T} {sz:Nat} {s:Pr.Dk} (hnm:Pr.Named b tg tc ts sz) (ihE:∀ q:Pr.Dk,s.p≤q.p→q.p≤ts.length→Pr.SE b tg tc ts sz q):Pr.SA b tg tc ts sz s:=by
 intro v0 w0 hd0 hN
 have h0:=hd0.le
 have hm:=hd0.most
 have HD0:=hide hd0
 have HG0:=hide (Pr.Gr.refl b v0 w0)
 have HS0:=hide (Pr.Stp.refl h0)
 have HNM:=hide hnm
 clear hd0 hnm
 go_enter Tryz.func115,Tryz.ntmps115
 have HI:=hide (show ∀ r2,Pr.Cv ts sz (.argsL 0 false) s r2→Pr.Cv ts sz .args s (Pr.need ts sz r2.1 [41],r2.2) from fun r2 h=>Pr.Cv.args h)
 go_wp2_with fail
 go_loopw [3,4] (fun t u wr=>∃ (n:Nat) (nb:Bool) (q:Pr.Dk) (vq:Value),t = .int .i64 n∧u = .bool nb∧n≤q.p∧DK b tg tc ts sz vq q wr∧Pr.Gr b v0 vq w0 wr∧Pr.Stp ts s q 0∧∀ r2,Pr.Cv ts sz (.argsL n nb) q r2→Pr.Cv ts sz .args s (Pr.need ts sz r2.1 [41],r2.2)) (fun _ _ wr=>Pr.left b ts wr)
 case atStart=>exact ⟨0,false,s,v0,rfl,rfl,Nat.zero_le _,HD0.out,HG0.out,HS0.out,HI.out⟩
 case round =>
  obtain ⟨n,nb,q,v10,rfl,rfl,hnp,hd10,hg10,hs10,hi10⟩:=hrel
  have c3:=hd10.c3
  have hle:=hd10.le
  have HD10:=hide hd10
  have HG10:=hide hg10
  have HS10:=hide hs10
  have HI10:=hide hi10
  clear hd10 hg10 hs10 hi10 HI
  cases hbad:q.bad
  ·rw [hbad] at c3
   by_cases hn:n=0
   ·subst hn
    cases i0:Pr.is ts sz q [41]
    ·have Q11:=hide (isN HD10.out [41] #[41] rfl i0)
     go_wp2_with fail
     refine Q11.out.mono ?_
     rintro e11 w11 ⟨rfl,v11,hd11,hg11⟩
     have HD11:=hide hd11
     have HG11:=hide (HG10.out.trans hg11)
     have HS11:=hide (HS10.out)
     clear hd11 hg11 Q11
     have hg:((0:Nat) == 0 && Pr.is ts sz q [41])=false:=by rw [i0];rfl
     have HA11:=hide (Pr.Stp.refl HS11.out.le)
     cases nb
     ·cases im:Pr.named ts sz q
      ·have Q12:=hide (namedV HNM.out HD11.out im)
       go_wp2_with fail
       refine Q12.out.mono ?_
       rintro e12 w12 ⟨rfl,v12,hd12,hg12⟩
       have HD12:=hide hd12
       have HG12:=hide (HG11.out.trans hg12)
       have HS12:=hide (HS11.out)
       have HA12:=hide (HA11.out)
       clear hd12 hg12 Q12
       have hb:(false || Pr.named ts sz q)=false:=by rw [im];rfl
       have Q13:=hide (ihE _ (Nat.le_trans HS10.out.ge HA12.out.ge) HS12.out.le _ _ HD12.out (HS12.out.phi (by first | omega | (simp only [Pr.extra];omega)) h0 hN))
       go_wp2_with fail
       refine Q13.out.mono ?_
       rintro e13 w13 ⟨r13,rfl,hc13,v13,hd13,hg13⟩
       have HC13:=hide hc13
       have HD13:=hide hd13
       have HG13:=hide (HG12.out.trans hg13)
       have HS13:=hide (HS12.out.trans (hc13.stp HS12.out.le))
       have HA13:=hide (HA12.out.trans (hc13.stp HA12.out.le))
       clear hc13 hd13 hg13 Q13
       cases ic:Pr.is ts sz r13.1 [44]
       ·have Q14:=hide (takeN HD13.out [44] #[44] rfl ic)
        go_wp2_with fail
        refine Q14.out.mono ?_
        rintro e14 w14 ⟨rfl,v14,hd14,hg14⟩
        have HD14:=hide hd14
        have HG14:=hide (HG13.out.trans hg14)
        have HS14:=hide (HS13.out)
        have HA14:=hide (HA13.out)
        clear hd14 hg14 Q14
        have Q15:=hide (needW HD14.out [41] #[41] rfl)
        go_wp2_with fail
        refine Q15.out.mono ?_
        rintro e15 w15 ⟨rfl,v15,hd15,hg15⟩
        have HD15:=hide hd15
        have HG15:=hide (HG14.out.trans hg15)
        have HS15:=hide (HS14.out.need (sz:=sz) [41])
        have HA15:=hide (HA14.out.need (sz:=sz) [41])
        clear hd15 hg15 Q15
        go_wp2
        go_ret
        exact ⟨(_,0+1),by first | rfl | (unfold Pr.nu;go_num),HI10.out _ (Pr.Cv.argsL_plainEnd hbad hg hb ic HC13.out),v15,HD15.out,HG15.out⟩
       ·have Q14:=hide (takeY HD13.out [44] #[44] rfl ic)
        go_wp2_with fail
        refine Q14.out.mono ?_
        rintro e14 w14 ⟨rfl,v14,hd14,hg14⟩
        have HD14:=hide hd14
        have HG14:=hide (HG13.out.trans hg14)
        have HS14:=hide (HS13.out.adv ic)
        have HA14:=hide (HA13.out.adv ic)
        clear hd14 hg14 Q14
        have HM:=hide (show Pr.left b ts w14 < Pr.left b ts wr from by rw [HD14.out.left,HD10.out.left];have:=HA13.out.ge;have:=Pr.is_lt ic;rw [Pr.adv_p] at *;omega)
        have HNP:=hide (show 0+1≤(Pr.adv r13.1).p from by have:=HA13.out.ge;rw [Pr.adv_p] at *;omega)
        go_wp2
        go_roundw
        case rel=>exact ⟨0+1,false,_,v14,by go_num,rfl,HNP.out,HD14.out,HG14.out,HS14.out.mono (by first | omega | (simp only [Pr.extra];omega)),fun r2 h=>HI10.out _ (Pr.Cv.argsL_plain hbad hg hb ic HC13.out h)⟩
        case measure=>exact HM.out
      ·have Q12:=hide (namedV HNM.out HD11.out im)
       go_wp2_with fail
       refine Q12.out.mono ?_
       rintro e12 w12 ⟨rfl,v12,hd12,hg12⟩
       have HD12:=hide hd12
       have HG12:=hide (HG11.out.trans hg12)
       have HS12:=hide (HS11.out)
       have HA12:=hide (HA11.out)
       clear hd12 hg12 Q12
       have hb:(false || Pr.named ts sz q)=true:=by rw [im];rfl
       have Q13:=hide (nameW HD12.out)
       go_wp2_with fail
       refine Q13.out.mono ?_
       rintro e13 w13 ⟨rfl,v13,hd13,hg13⟩
       have HD13:=hide hd13
       have HG13:=hide (HG12.out.trans hg13)
       have HS13:=hide (HS12.out.name (sz:=sz))
       have HA13:=hide (HA12.out.name (sz:=sz))
       clear hd13 hg13 Q13
       have Q14:=hide (needW HD13.out [61] #[61] rfl)
       go_wp2_with fail
       refine Q14.out.mono ?_
       rintro e14 w14 ⟨rfl,v14,hd14,hg14⟩
       have HD14:=hide hd14
       have HG14:=hide (HG13.out.trans hg14)
       have HS14:=hide (HS13.out.need (sz:=sz) [61])
       have HA14:=hide (HA13.out.need (sz:=sz) [61])
       clear hd14 hg14 Q14
       have Q15:=hide (ihE _ (Nat.le_trans HS10.out.ge HA14.out.ge) HS14.out.le _ _ HD14.out (HS14.out.phi (by first | omega | (simp only [Pr.extra];omega)) h0 hN))
       go_wp2_with fail
       refine Q15.out.mono ?_
       rintro e15 w15 ⟨r15,rfl,hc15,v15,hd15,hg15⟩
       have HC15:=hide hc15
       have HD15:=hide hd15
       have HG15:=hide (HG14.out.trans hg15)
       have HS15:=hide (HS14.out.trans (hc15.stp HS14.out.le))
       have HA15:=hide (HA14.out.trans (hc15.stp HA14.out.le))
       clear hc15 hd15 hg15 Q15
       have Q16:=hide (put_any HD15.out (HS15.out.len (by first | omega | (simp only [Pr.extra];omega)) h0 hN) 18 0 0 (Pr.nameT ts sz q) 1)
       go_wp2_with fail
       refine Q16.out.mono ?_
       rintro e16 w16 ⟨rfl,v16,hd16,hg16⟩
       have HD16:=hide hd16
       have HG16:=hide (HG15.out.trans hg16)
       have HS16:=hide (HS15.out.put 18 0 0 (Pr.nameT ts sz q) 1)
       have HA16:=hide (HA15.out.put 18 0 0 (Pr.nameT ts sz q) 1)
       clear hd16 hg16 Q16
       cases ic:Pr.is ts sz (Pr.put r15.1 18 0 0 (Pr.nameT ts sz q) 1) [44]
       ·have Q17:=hide (takeN HD16.out [44] #[44] rfl ic)
        go_wp2_with fail
        refine Q17.out.mono ?_
        rintro e17 w17 ⟨rfl,v17,hd17,hg17⟩
        have HD17:=hide hd17
        have HG17:=hide (HG16.out.trans hg17)
        have HS17:=hide (HS16.out)
        have HA17:=hide (HA16.out)
        clear hd17 hg17 Q17
        have Q18:=hide (needW HD17.out [41] #[41] rfl)
        go_wp2_with fail
        refine Q18.out.mono ?_
        rintro e18 w18 ⟨rfl,v18,hd18,hg18⟩
        have HD18:=hide hd18
        have HG18:=hide (HG17.out.trans hg18)
        have HS18:=hide (HS17.out.need (sz:=sz) [41])
        have HA18:=hide (HA17.out.need (sz:=sz) [41])
        clear hd18 hg18 Q18
        go_wp2
        go_ret
        exact ⟨(_,0+1),by first | rfl | (unfold Pr.nu;go_num),HI10.out _ (Pr.Cv.argsL_namedEnd hbad hg hb ic HC15.out),v18,HD18.out,HG18.out⟩
       ·have Q17:=hide (takeY HD16.out [44] #[44] rfl ic)
        go_wp2_with fail
        refine Q17.out.mono ?_
        rintro e17 w17 ⟨rfl,v17,hd17,hg17⟩
        have HD17:=hide hd17
        have HG17:=hide (HG16.out.trans hg17)
        have HS17:=hide (HS16.out.adv ic)
        have HA17:=hide (HA16.out.adv ic)
        clear hd17 hg17 Q17
        have HM:=hide (show Pr.left b ts w17 < Pr.left b ts wr from by rw [HD17.out.left,HD10.out.left];have:=HA16.out.ge;have:=Pr.is_lt ic;rw [Pr.adv_p] at *;omega)
        have HNP:=hide (show 0+1≤(Pr.adv (Pr.put r15.1 18 0 0 (Pr.nameT ts sz q) 1)).p from by have:=HA16.out.ge;rw [Pr.adv_p] at *;omega)
        go_wp2
        go_roundw
        case rel=>exact ⟨0+1,true,_,v17,by go_num,rfl,HNP.out,HD17.out,HG17.out,HS17.out.mono (by first | omega | (simp only [Pr.extra];omega)),fun r2 h=>HI10.out _ (Pr.Cv.argsL_named hbad hg hb ic HC15.out h)⟩
        case measure=>exact HM.out
     ·have hb:(true || Pr.named ts sz q)=true:=rfl
      have Q12:=hide (nameW HD11.out)
      go_wp2_with fail
      refine Q12.out.mono ?_
      rintro e12 w12 ⟨rfl,v12,hd12,hg12⟩
      have HD12:=hide hd12
      have HG12:=hide (HG11.out.trans hg12)
      have HS12:=hide (HS11.out.name (sz:=sz))
      have HA12:=hide (HA11.out.name (sz:=sz))
      clear hd12 hg12 Q12
      have Q13:=hide (needW HD12.out [61] #[61] rfl)
      go_wp2_with fail
      refine Q13.out.mono ?_
      rintro e13 w13 ⟨rfl,v13,hd13,hg13⟩
      have HD13:=hide hd13
      have HG13:=hide (HG12.out.trans hg13)
      have HS13:=hide (HS12.out.need (sz:=sz) [61])
      have HA13:=hide (HA12.out.need (sz:=sz) [61])
      clear hd13 hg13 Q13
      have Q14:=hide (ihE _ (Nat.le_trans HS10.out.ge HA13.out.ge) HS13.out.le _ _ HD13.out (HS13.out.phi (by first | omega | (simp only [Pr.extra];omega)) h0 hN))
      go_wp2_with fail
      refine Q14.out.mono ?_
      rintro e14 w14 ⟨r14,rfl,hc14,v14,hd14,hg14⟩
      have HC14:=hide hc14
      have HD14:=hide hd14
      have HG14:=hide (HG13.out.trans hg14)
      have HS14:=hide (HS13.out.trans (hc14.stp HS13.out.le))
      have HA14:=hide (HA13.out.trans (hc14.stp HA13.out.le))
      clear hc14 hd14 hg14 Q14
      have Q15:=hide (put_any HD14.out (HS14.out.len (by first | omega | (simp only [Pr.extra];omega)) h0 hN) 18 0 0 (Pr.nameT ts sz q) 1)
      go_wp2_with fail
      refine Q15.out.mono ?_
      rintro e15 w15 ⟨rfl,v15,hd15,hg15⟩
      have HD15:=hide hd15
      have HG15:=hide (HG14.out.trans hg15)
      have HS15:=hide (HS14.out.put 18 0 0 (Pr.nameT ts sz q) 1)
      have HA15:=hide (HA14.out.put 18 0 0 (Pr.nameT ts sz q) 1)
      clear hd15 hg15 Q15
      cases ic:Pr.is ts sz (Pr.put r14.1 18 0 0 (Pr.nameT ts sz q) 1) [44]
      ·have Q16:=hide (takeN HD15.out [44] #[44] rfl ic)
       go_wp2_with fail
       refine Q16.out.mono ?_
       rintro e16 w16 ⟨rfl,v16,hd16,hg16⟩
       have HD16:=hide hd16
       have HG16:=hide (HG15.out.trans hg16)
       have HS16:=hide (HS15.out)
       have HA16:=hide (HA15.out)
       clear hd16 hg16 Q16
       have Q17:=hide (needW HD16.out [41] #[41] rfl)
       go_wp2_with fail
       refine Q17.out.mono ?_
       rintro e17 w17 ⟨rfl,v17,hd17,hg17⟩
       have HD17:=hide hd17
       have HG17:=hide (HG16.out.trans hg17)
       have HS17:=hide (HS16.out.need (sz:=sz) [41])
       have HA17:=hide (HA16.out.need (sz:=sz) [41])
       clear hd17 hg17 Q17
       go_wp2
       go_ret
       exact ⟨(_,0+1),by first | rfl | (unfold Pr.nu;go_num),HI10.out _ (Pr.Cv.argsL_namedEnd hbad hg hb ic HC14.out),v17,HD17.out,HG17.out⟩
      ·have Q16:=hide (takeY HD15.out [44] #[44] rfl ic)
       go_wp2_with fail
       refine Q16.out.mono ?_
       rintro e16 w16 ⟨rfl,v16,hd16,hg16⟩
       have HD16:=hide hd16
       have HG16:=hide (HG15.out.trans hg16)
       have HS16:=hide (HS15.out.adv ic)
       have HA16:=hide (HA15.out.adv ic)
       clear hd16 hg16 Q16
       have HM:=hide (show Pr.left b ts w16 < Pr.left b ts wr from by rw [HD16.out.left,HD10.out.left];have:=HA15.out.ge;have:=Pr.is_lt ic;rw [Pr.adv_p] at *;omega)
       have HNP:=hide (show 0+1≤(Pr.adv (Pr.put r14.1 18 0 0 (Pr.nameT ts sz q) 1)).p from by have:=HA15.out.ge;rw [Pr.adv_p] at *;omega)
       go_wp2
       go_roundw
       case rel=>exact ⟨0+1,true,_,v16,by go_num,rfl,HNP.out,HD16.out,HG16.out,HS16.out.mono (by first | omega | (simp only [Pr.extra];omega)),fun r2 h=>HI10.out _ (Pr.Cv.argsL_named hbad hg hb ic HC14.out h)⟩
       case measure=>exact HM.out
    ·have Q11:=hide (isY HD10.out [41] #[41] rfl i0)
     go_wp2_with fail
     refine Q11.out.mono ?_
     rintro e11 w11 ⟨rfl,v11,hd11,hg11⟩
     have HD11:=hide hd11
     have HG11:=hide (HG10.out.trans hg11)
     have HS11:=hide (HS10.out)
     clear hd11 hg11 Q11
     have Q12:=hide (needW HD11.out [41] #[41] rfl)
     go_wp2_with fail
     refine Q12.out.mono ?_
     rintro e12 w12 ⟨rfl,v12,hd12,hg12⟩
     have HD12:=hide hd12
     have HG12:=hide (HG11.out.trans hg12)
     have HS12:=hide (HS11.out.need (sz:=sz) [41])
     clear hd12 hg12 Q12
     go_wp2
     go_ret
     exact ⟨(_,0),by first | rfl | (unfold Pr.nu;go_num),HI10.out _ (Pr.Cv.argsL_end hbad i0),v12,HD12.out,HG12.out⟩
   ·have hn0:0 < (n:Int):=by omega
    have hg:(n == 0 && Pr.is ts sz q [41])=false:=by simp [hn]
    have HA10:=hide (Pr.Stp.refl HS10.out.le)
    cases nb
    ·cases im:Pr.named ts sz q
     ·have Q11:=hide (namedV HNM.out HD10.out im)
      go_wp2_with fail
      refine Q11.out.mono ?_
      rintro e11 w11 ⟨rfl,v11,hd11,hg11⟩
      have HD11:=hide hd11
      have HG11:=hide (HG10.out.trans hg11)
      have HS11:=hide (HS10.out)
      have HA11:=hide (HA10.out)
      clear hd11 hg11 Q11
      have hb:(false || Pr.named ts sz q)=false:=by rw [im];rfl
      have Q12:=hide (ihE _ (Nat.le_trans HS10.out.ge HA11.out.ge) HS11.out.le _ _ HD11.out (HS11.out.phi (by first | omega | (simp only [Pr.extra];omega)) h0 hN))
      go_wp2_with fail
      refine Q12.out.mono ?_
      rintro e12 w12 ⟨r12,rfl,hc12,v12,hd12,hg12⟩
      have HC12:=hide hc12
      have HD12:=hide hd12
      have HG12:=hide (HG11.out.trans hg12)
      have HS12:=hide (HS11.out.trans (hc12.stp HS11.out.le))
      have HA12:=hide (HA11.out.trans (hc12.stp HA11.out.le))
      clear hc12 hd12 hg12 Q12
      cases ic:Pr.is ts sz r12.1 [44]
      ·have Q13:=hide (takeN HD12.out [44] #[44] rfl ic)
       go_wp2_with fail
       refine Q13.out.mono ?_
       rintro e13 w13 ⟨rfl,v13,hd13,hg13⟩
       have HD13:=hide hd13
       have HG13:=hide (HG12.out.trans hg13)
       have HS13:=hide (HS12.out)
       have HA13:=hide (HA12.out)
       clear hd13 hg13 Q13
       have Q14:=hide (needW HD13.out [41] #[41] rfl)
       go_wp2_with fail
       refine Q14.out.mono ?_
       rintro e14 w14 ⟨rfl,v14,hd14,hg14⟩
       have HD14:=hide hd14
       have HG14:=hide (HG13.out.trans hg14)
       have HS14:=hide (HS13.out.need (sz:=sz) [41])
       have HA14:=hide (HA13.out.need (sz:=sz) [41])
       clear hd14 hg14 Q14
       go_wp2
       go_ret
       exact ⟨(_,n+1),by first | rfl | (unfold Pr.nu;go_num),HI10.out _ (Pr.Cv.argsL_plainEnd hbad hg hb ic HC12.out),v14,HD14.out,HG14.out⟩
      ·have Q13:=hide (takeY HD12.out [44] #[44] rfl ic)
       go_wp2_with fail
       refine Q13.out.mono ?_
       rintro e13 w13 ⟨rfl,v13,hd13,hg13⟩
       have HD13:=hide hd13
       have HG13:=hide (HG12.out.trans hg13)
       have HS13:=hide (HS12.out.adv ic)
       have HA13:=hide (HA12.out.adv ic)
       clear hd13 hg13 Q13
       have HM:=hide (show Pr.left b ts w13 < Pr.left b ts wr from by rw [HD13.out.left,HD10.out.left];have:=HA12.out.ge;have:=Pr.is_lt ic;rw [Pr.adv_p] at *;omega)
       have HNP:=hide (show n+1≤(Pr.adv r12.1).p from by have:=HA12.out.ge;rw [Pr.adv_p] at *;omega)
       go_wp2
       go_roundw
       case rel=>exact ⟨n+1,false,_,v13,by go_num,rfl,HNP.out,HD13.out,HG13.out,HS13.out.mono (by first | omega | (simp only [Pr.extra];omega)),fun r2 h=>HI10.out _ (Pr.Cv.argsL_plain hbad hg hb ic HC12.out h)⟩
       case measure=>exact HM.out
     ·have Q11:=hide (namedV HNM.out HD10.out im)
      go_wp2_with fail
      refine Q11.out.mono ?_
      rintro e11 w11 ⟨rfl,v11,hd11,hg11⟩
      have HD11:=hide hd11
      have HG11:=hide (HG10.out.trans hg11)
      have HS11:=hide (HS10.out)
      have HA11:=hide (HA10.out)
      clear hd11 hg11 Q11
      have hb:(false || Pr.named ts sz q)=true:=by rw [im];rfl
      have Q12:=hide (nameW HD11.out)
      go_wp2_with fail
      refine Q12.out.mono ?_
      rintro e12 w12 ⟨rfl,v12,hd12,hg12⟩
      have HD12:=hide hd12
      have HG12:=hide (HG11.out.trans hg12)
      have HS12:=hide (HS11.out.name (sz:=sz))
      have HA12:=hide (HA11.out.name (sz:=sz))
      clear hd12 hg12 Q12
      have Q13:=hide (needW HD12.out [61] #[61] rfl)
      go_wp2_with fail
      refine Q13.out.mono ?_
      rintro e13 w13 ⟨rfl,v13,hd13,hg13⟩
      have HD13:=hide hd13
      have HG13:=hide (HG12.out.trans hg13)
      have HS13:=hide (HS12.out.need (sz:=sz) [61])
      have HA13:=hide (HA12.out.need (sz:=sz) [61])
      clear hd13 hg13 Q13
      have Q14:=hide (ihE _ (Nat.le_trans HS10.out.ge HA13.out.ge) HS13.out.le _ _ HD13.out (HS13.out.phi (by first | omega | (simp only [Pr.extra];omega)) h0 hN))
      go_wp2_with fail
      refine Q14.out.mono ?_
      rintro e14 w14 ⟨r14,rfl,hc14,v14,hd14,hg14⟩
      have HC14:=hide hc14
      have HD14:=hide hd14
      have HG14:=hide (HG13.out.trans hg14)
      have HS14:=hide (HS13.out.trans (hc14.stp HS13.out.le))
      have HA14:=hide (HA13.out.trans (hc14.stp HA13.out.le))
      clear hc14 hd14 hg14 Q14
      have Q15:=hide (put_any HD14.out (HS14.out.len (by first | omega | (simp only [Pr.extra];omega)) h0 hN) 18 0 0 (Pr.nameT ts sz q) 1)
      go_wp2_with fail
      refine Q15.out.mono ?_
      rintro e15 w15 ⟨rfl,v15,hd15,hg15⟩
      have HD15:=hide hd15
      have HG15:=hide (HG14.out.trans hg15)
      have HS15:=hide (HS14.out.put 18 0 0 (Pr.nameT ts sz q) 1)
      have HA15:=hide (HA14.out.put 18 0 0 (Pr.nameT ts sz q) 1)
      clear hd15 hg15 Q15
      cases ic:Pr.is ts sz (Pr.put r14.1 18 0 0 (Pr.nameT ts sz q) 1) [44]
      ·have Q16:=hide (takeN HD15.out [44] #[44] rfl ic)
       go_wp2_with fail
       refine Q16.out.mono ?_
       rintro e16 w16 ⟨rfl,v16,hd16,hg16⟩
       have HD16:=hide hd16
       have HG16:=hide (HG15.out.trans hg16)
       have HS16:=hide (HS15.out)
       have HA16:=hide (HA15.out)
       clear hd16 hg16 Q16
       have Q17:=hide (needW HD16.out [41] #[41] rfl)
       go_wp2_with fail
       refine Q17.out.mono ?_
       rintro e17 w17 ⟨rfl,v17,hd17,hg17⟩
       have HD17:=hide hd17
       have HG17:=hide (HG16.out.trans hg17)
       have HS17:=hide (HS16.out.need (sz:=sz) [41])
       have HA17:=hide (HA16.out.need (sz:=sz) [41])
       clear hd17 hg17 Q17
       go_wp2
       go_ret
       exact ⟨(_,n+1),by first | rfl | (unfold Pr.nu;go_num),HI10.out _ (Pr.Cv.argsL_namedEnd hbad hg hb ic HC14.out),v17,HD17.out,HG17.out⟩
      ·have Q16:=hide (takeY HD15.out [44] #[44] rfl ic)
       go_wp2_with fail
       refine Q16.out.mono ?_
       rintro e16 w16 ⟨rfl,v16,hd16,hg16⟩
       have HD16:=hide hd16
       have HG16:=hide (HG15.out.trans hg16)
       have HS16:=hide (HS15.out.adv ic)
       have HA16:=hide (HA15.out.adv ic)
       clear hd16 hg16 Q16
       have HM:=hide (show Pr.left b ts w16 < Pr.left b ts wr from by rw [HD16.out.left,HD10.out.left];have:=HA15.out.ge;have:=Pr.is_lt ic;rw [Pr.adv_p] at *;omega)
       have HNP:=hide (show n+1≤(Pr.adv (Pr.put r14.1 18 0 0 (Pr.nameT ts sz q) 1)).p from by have:=HA15.out.ge;rw [Pr.adv_p] at *;omega)
       go_wp2
       go_roundw
       case rel=>exact ⟨n+1,true,_,v16,by go_num,rfl,HNP.out,HD16.out,HG16.out,HS16.out.mono (by first | omega | (simp only [Pr.extra];omega)),fun r2 h=>HI10.out _ (Pr.Cv.argsL_named hbad hg hb ic HC14.out h)⟩
       case measure=>exact HM.out
    ·have hb:(true || Pr.named ts sz q)=true:=rfl
     have Q11:=hide (nameW HD10.out)
     go_wp2_with fail
     refine Q11.out.mono ?_
     rintro e11 w11 ⟨rfl,v11,hd11,hg11⟩
     have HD11:=hide hd11
     have HG11:=hide (HG10.out.trans hg11)
     have HS11:=hide (HS10.out.name (sz:=sz))
     have HA11:=hide (HA10.out.name (sz:=sz))
     clear hd11 hg11 Q11
     have Q12:=hide (needW HD11.out [61] #[61] rfl)
     go_wp2_with fail
     refine Q12.out.mono ?_
     rintro e12 w12 ⟨rfl,v12,hd12,hg12⟩
     have HD12:=hide hd12
     have HG12:=hide (HG11.out.trans hg12)
     have HS12:=hide (HS11.out.need (sz:=sz) [61])
     have HA12:=hide (HA11.out.need (sz:=sz) [61])
     clear hd12 hg12 Q12
     have Q13:=hide (ihE _ (Nat.le_trans HS10.out.ge HA12.out.ge) HS12.out.le _ _ HD12.out (HS12.out.phi (by first | omega | (simp only [Pr.extra];omega)) h0 hN))
     go_wp2_with fail
     refine Q13.out.mono ?_
     rintro e13 w13 ⟨r13,rfl,hc13,v13,hd13,hg13⟩
     have HC13:=hide hc13
     have HD13:=hide hd13
     have HG13:=hide (HG12.out.trans hg13)
     have HS13:=hide (HS12.out.trans (hc13.stp HS12.out.le))
     have HA13:=hide (HA12.out.trans (hc13.stp HA12.out.le))
     clear hc13 hd13 hg13 Q13
     have Q14:=hide (put_any HD13.out (HS13.out.len (by first | omega | (simp only [Pr.extra];omega)) h0 hN) 18 0 0 (Pr.nameT ts sz q) 1)
     go_wp2_with fail
     refine Q14.out.mono ?_
     rintro e14 w14 ⟨rfl,v14,hd14,hg14⟩
     have HD14:=hide hd14
     have HG14:=hide (HG13.out.trans hg14)
     have HS14:=hide (HS13.out.put 18 0 0 (Pr.nameT ts sz q) 1)
     have HA14:=hide (HA13.out.put 18 0 0 (Pr.nameT ts sz q) 1)
     clear hd14 hg14 Q14
     cases ic:Pr.is ts sz (Pr.put r13.1 18 0 0 (Pr.nameT ts sz q) 1) [44]
     ·have Q15:=hide (takeN HD14.out [44] #[44] rfl ic)
      go_wp2_with fail
      refine Q15.out.mono ?_
      rintro e15 w15 ⟨rfl,v15,hd15,hg15⟩
      have HD15:=hide hd15
      have HG15:=hide (HG14.out.trans hg15)
      have HS15:=hide (HS14.out)
      have HA15:=hide (HA14.out)
      clear hd15 hg15 Q15
      have Q16:=hide (needW HD15.out [41] #[41] rfl)
      go_wp2_with fail
      refine Q16.out.mono ?_
      rintro e16 w16 ⟨rfl,v16,hd16,hg16⟩
      have HD16:=hide hd16
      have HG16:=hide (HG15.out.trans hg16)
      have HS16:=hide (HS15.out.need (sz:=sz) [41])
      have HA16:=hide (HA15.out.need (sz:=sz) [41])
      clear hd16 hg16 Q16
      go_wp2
      go_ret
      exact ⟨(_,n+1),by first | rfl | (unfold Pr.nu;go_num),HI10.out _ (Pr.Cv.argsL_namedEnd hbad hg hb ic HC13.out),v16,HD16.out,HG16.out⟩
     ·have Q15:=hide (takeY HD14.out [44] #[44] rfl ic)
      go_wp2_with fail
      refine Q15.out.mono ?_
      rintro e15 w15 ⟨rfl,v15,hd15,hg15⟩
      have HD15:=hide hd15
      have HG15:=hide (HG14.out.trans hg15)
      have HS15:=hide (HS14.out.adv ic)
      have HA15:=hide (HA14.out.adv ic)
      clear hd15 hg15 Q15
      have HM:=hide (show Pr.left b ts w15 < Pr.left b ts wr from by rw [HD15.out.left,HD10.out.left];have:=HA14.out.ge;have:=Pr.is_lt ic;rw [Pr.adv_p] at *;omega)
      have HNP:=hide (show n+1≤(Pr.adv (Pr.put r13.1 18 0 0 (Pr.nameT ts sz q) 1)).p from by have:=HA14.out.ge;rw [Pr.adv_p] at *;omega)
      go_wp2
      go_roundw
      case rel=>exact ⟨n+1,true,_,v15,by go_num,rfl,HNP.out,HD15.out,HG15.out,HS15.out.mono (by first | omega | (simp only [Pr.extra];omega)),fun r2 h=>HI10.out _ (Pr.Cv.argsL_named hbad hg hb ic HC13.out h)⟩
      case measure=>exact HM.out
  ·rw [hbad] at c3
   have Q11:=hide (needW HD10.out [41] #[41] rfl)
   go_wp2_with fail
   refine Q11.out.mono ?_
   rintro e11 w11 ⟨rfl,v11,hd11,hg11⟩
   have HD11:=hide hd11
   have HG11:=hide (HG10.out.trans hg11)
   have HS11:=hide (HS10.out.need (sz:=sz) [41])
   clear hd11 hg11 Q11
   go_wp2
   go_ret
   exact ⟨(_,n),by first | rfl | (unfold Pr.nu;go_num),HI10.out _ (Pr.Cv.argsL_bad hbad),v11,HD11.out,HG11.out⟩
end Go.Proofs.YtbckhbeebngjfaaGreatDoor
