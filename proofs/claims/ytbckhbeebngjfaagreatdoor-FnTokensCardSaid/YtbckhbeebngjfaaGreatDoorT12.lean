/- Ho. -/
import Derived.Test.YtbckhbeebngjfaaGreatDoorT10
import Derived.Test.YtbckhbeebngjfaaGreatDoorT08
namespace Go.Proofs.YtbckhbeebngjfaaGreatDoor
open Go.RowKit
abbrev Pr.SS (b tg tc:Nat) (ts:List Sc.T) (sz:Nat) (s:Pr.Dk):Prop:=Pr.Says b tg tc ts sz 57 [] Pr.un .statement s
set_option maxRecDepth 100000 in
set_option maxHeartbeats 8000000 in
theorem statement_says {b tg tc:Nat} {ts:List Sc.T} {sz:Nat} {s:Pr.Dk} (ihE:∀ q:Pr.Dk,s.p < q.p→q.p≤ts.length→Pr.SE b tg tc ts sz q) (ihP:∀ q:Pr.Dk,s.p < q.p→q.p≤ts.length→Pr.SP b tg tc ts sz q):Pr.SS b tg tc ts sz s:=by
 intro v0 w0 hd0 hN
 have h0:=hd0.le
 have hm:=hd0.most
 have HD0:=hide hd0
 have HG0:=hide (Pr.Gr.refl b v0 w0)
 have HS0:=hide (Pr.Stp.refl h0)
 clear hd0
 cases i0:Pr.is ts sz s Pr.sDef
 ·cases i1:Pr.is ts sz s Pr.sLet
  ·cases i2:Pr.is ts sz s Pr.sEmit
   ·cases i3:Pr.is ts sz s Pr.sLoad
    ·go_enter Tryz.func57,Tryz.ntmps57
     have Q1:=hide (takeN HD0.out Pr.sDef #[100,101,102] rfl i0)
     go_wp2_with fail
     refine Q1.out.mono ?_
     rintro e1 w1 ⟨rfl,v1,hd1,hg1⟩
     have HD1:=hide hd1
     have HG1:=hide (HG0.out.trans hg1)
     have HS1:=hide (HS0.out)
     clear hd1 hg1 Q1
     have Q2:=hide (takeN HD1.out Pr.sLet #[108,101,116] rfl i1)
     go_wp2_with fail
     refine Q2.out.mono ?_
     rintro e2 w2 ⟨rfl,v2,hd2,hg2⟩
     have HD2:=hide hd2
     have HG2:=hide (HG1.out.trans hg2)
     have HS2:=hide (HS1.out)
     clear hd2 hg2 Q2
     have Q3:=hide (takeN HD2.out Pr.sEmit #[101,109,105,116] rfl i2)
     go_wp2_with fail
     refine Q3.out.mono ?_
     rintro e3 w3 ⟨rfl,v3,hd3,hg3⟩
     have HD3:=hide hd3
     have HG3:=hide (HG2.out.trans hg3)
     have HS3:=hide (HS2.out)
     clear hd3 hg3 Q3
     have Q4:=hide (takeN HD3.out Pr.sLoad #[108,111,97,100] rfl i3)
     go_wp2_with fail
     refine Q4.out.mono ?_
     rintro e4 w4 ⟨rfl,v4,hd4,hg4⟩
     have HD4:=hide hd4
     have HG4:=hide (HG3.out.trans hg4)
     have HS4:=hide (HS3.out)
     clear hd4 hg4 Q4
     have Q5:=hide (stopW HD4.out)
     go_wp2_with fail
     refine Q5.out.mono ?_
     rintro e5 w5 ⟨rfl,v5,hd5,hg5⟩
     have HD5:=hide hd5
     have HG5:=hide (HG4.out.trans hg5)
     have HS5:=hide (HS4.out.stop (sz:=sz))
     clear hd5 hg5 Q5
     have Q6:=hide (needW HD5.out [59] #[59] rfl)
     go_wp2_with fail
     refine Q6.out.mono ?_
     rintro e6 w6 ⟨rfl,v6,hd6,hg6⟩
     have HD6:=hide hd6
     have HG6:=hide (HG5.out.trans hg6)
     have HS6:=hide (HS5.out.need (sz:=sz) [59])
     clear hd6 hg6 Q6
     go_wp2
     (first | go_end0 | refine bodyPost_ret (results_none rfl _ _ _) rfl ?_)
     exact ⟨(_,0),rfl,Pr.Cv.st_stop i0 i1 i2 i3,v6,HD6.out,HG6.out⟩
    ·by_cases k4:(Pr.tok ts sz (Pr.adv s)).kind=4
     ·have hk:(((Pr.tok ts sz (Pr.adv s)).kind:Nat):Int)=4:=by omega
      have hp:(Pr.adv s).p < ts.length:=Pr.tok_lt (sz:=sz) (by omega)
      have t4:((Pr.tok ts sz (Pr.adv s)).kind == 4)=true:=by simp [k4]
      go_enter Tryz.func57,Tryz.ntmps57
      have Q1:=hide (takeN HD0.out Pr.sDef #[100,101,102] rfl i0)
      go_wp2_with fail
      refine Q1.out.mono ?_
      rintro e1 w1 ⟨rfl,v1,hd1,hg1⟩
      have HD1:=hide hd1
      have HG1:=hide (HG0.out.trans hg1)
      have HS1:=hide (HS0.out)
      clear hd1 hg1 Q1
      have Q2:=hide (takeN HD1.out Pr.sLet #[108,101,116] rfl i1)
      go_wp2_with fail
      refine Q2.out.mono ?_
      rintro e2 w2 ⟨rfl,v2,hd2,hg2⟩
      have HD2:=hide hd2
      have HG2:=hide (HG1.out.trans hg2)
      have HS2:=hide (HS1.out)
      clear hd2 hg2 Q2
      have Q3:=hide (takeN HD2.out Pr.sEmit #[101,109,105,116] rfl i2)
      go_wp2_with fail
      refine Q3.out.mono ?_
      rintro e3 w3 ⟨rfl,v3,hd3,hg3⟩
      have HD3:=hide hd3
      have HG3:=hide (HG2.out.trans hg3)
      have HS3:=hide (HS2.out)
      clear hd3 hg3 Q3
      have Q4:=hide (takeY HD3.out Pr.sLoad #[108,111,97,100] rfl i3)
      go_wp2_with fail
      refine Q4.out.mono ?_
      rintro e4 w4 ⟨rfl,v4,hd4,hg4⟩
      have HD4:=hide hd4
      have HG4:=hide (HG3.out.trans hg4)
      have HS4:=hide (HS3.out.adv i3)
      clear hd4 hg4 Q4
      have HA4:=hide (Pr.Stp.refl HS4.out.le)
      have HT:=hide (tok_any HD4.out)
      go_wp2_with fail
      refine HT.out.mono ?_
      rintro e w5 ⟨rfl,hb1⟩
      unfold Pr.tokV
      rw [hk]
      have hd1:=HD4.out.below hb1
      have bA:=(Below.refl w5.heap.size w5).alloc (Nat.le_refl _) (tokO 4 (Pr.tok ts sz (Pr.adv s)))
      have hdB:=hd1.below bA
      have hl1:=hd1.lt
      have c2:=hdB.c2
      have f2:=hdB.fr 2
      have hdA:=hdB.adv hp
      have hov:v4.ownBlock≠some w5.heap.size:=fun e=>by have:=(hd1.own e).2;omega
      have hqb:w5.heap.size≠b:=by omega
      have hqs:w5.heap.size < ((w5.alloc (tokO 4 (Pr.tok ts sz (Pr.adv s)))).setCell ⟨b,2,none⟩ (.int .i64 (((Pr.adv s).p:Int)+1))).heap.size:=by simp
      obtain ⟨y0,y1,y2⟩:=tok_box w5 b (.int .i64 (((Pr.adv s).p:Int)+1)) 4 (Pr.tok ts sz (Pr.adv s)) (by omega)
      have HD5:=hide hdA
      have HX5:=hide (Pr.Gr.refl b v4 ((w5.alloc (tokO 4 (Pr.tok ts sz (Pr.adv s)))).setCell ⟨b,2,none⟩ (.int .i64 (((Pr.adv s).p:Int)+1))))
      have HG5:=hide (((HG4.out.trans (.below hb1)).trans (.below bA)).trans (.set v4 _ b 2 (.int .i64 (((Pr.adv s).p:Int)+1))))
      have HS5:=hide (HS4.out.advL hp)
      have HY1:=hide y1
      have HQS:=hide hqs
      have HQB:=hide hqb
      have HOV:=hide hov
      clear hb1 bA hdB hdA hd1 HT y1 hqs hqb hov hl1
      have Q6:=hide (needW HD5.out [58] #[58] rfl)
      go_wp2_with fail
      refine Q6.out.mono ?_
      rintro e6 w6 ⟨rfl,v6,hd6,hg6⟩
      have HD6:=hide hd6
      have HG6:=hide (HG5.out.trans hg6)
      have HS6:=hide (HS5.out.need (sz:=sz) [58])
      have HX6:=hide (HX5.out.trans hg6)
      clear hd6 hg6 Q6
      have HI:=hide (show ∀ r2,Pr.Cv ts sz (.loadL 0) (Pr.need ts sz (Pr.adv (Pr.adv s)) [58]) r2→Pr.Cv ts sz .statement s (Pr.need ts sz (Pr.put r2.1 23 0 0 (Pr.tok ts sz (Pr.adv s)).text r2.2) [59],0) from fun r2 h=>Pr.Cv.st_load i0 i1 i2 i3 t4 h)
      have HZ:=hide HX6.out
      go_wp2_with fail
      go_loopw [6] (fun t wr=>∃ (n:Nat) (q:Pr.Dk) (vq:Value),t = .int .i64 n∧n≤q.p∧DK b tg tc ts sz vq q wr∧Pr.Gr b v0 vq w0 wr∧Pr.Gr b v4 vq ((w5.alloc (tokO 4 (Pr.tok ts sz (Pr.adv s)))).setCell ⟨b,2,none⟩ (.int .i64 (((Pr.adv s).p:Int)+1))) wr∧Pr.Stp ts s q 0∧∀ r2,Pr.Cv ts sz (.loadL n) q r2→Pr.Cv ts sz .statement s (Pr.need ts sz (Pr.put r2.1 23 0 0 (Pr.tok ts sz (Pr.adv s)).text r2.2) [59],0)) (fun _ wr=>Pr.left b ts wr)
      case atStart=>exact ⟨0,_,v6,rfl,Nat.zero_le _,HD6.out,HG6.out,HZ.out,HS6.out.mono (by first | omega | (simp only [Pr.extra];omega)),HI.out⟩
      case round =>
       obtain ⟨n,q,v30,rfl,hnp,hd30,hg30,hx30,hs30,hi30⟩:=hrel
       have c3:=hd30.c3
       have hle:=hd30.le
       have HD30:=hide hd30
       have HG30:=hide hg30
       have HX30:=hide hx30
       have HS30:=hide hs30
       have HI30:=hide hi30
       clear hd30 hg30 hx30 hs30 hi30 HI
       cases hbad:q.bad
       ·rw [hbad] at c3
        have HA30:=hide (Pr.Stp.refl HS30.out.le)
        have Q31:=hide (nameW HD30.out)
        go_wp2_with fail
        refine Q31.out.mono ?_
        rintro e31 w31 ⟨rfl,v31,hd31,hg31⟩
        have HD31:=hide hd31
        have HG31:=hide (HG30.out.trans hg31)
        have HS31:=hide (HS30.out.name (sz:=sz))
        have HA31:=hide (HA30.out.name (sz:=sz))
        have HX31:=hide (HX30.out.trans hg31)
        clear hd31 hg31 Q31
        have Q32:=hide (put_any HD31.out (HS31.out.len (by first | omega | (simp only [Pr.extra];omega)) h0 hN) 5 0 0 (Pr.nameT ts sz q) 0)
        go_wp2_with fail
        refine Q32.out.mono ?_
        rintro e32 w32 ⟨rfl,v32,hd32,hg32⟩
        have HD32:=hide hd32
        have HG32:=hide (HG31.out.trans hg32)
        have HS32:=hide (HS31.out.put 5 0 0 (Pr.nameT ts sz q) 0)
        have HA32:=hide (HA31.out.put 5 0 0 (Pr.nameT ts sz q) 0)
        have HX32:=hide (HX31.out.trans hg32)
        clear hd32 hg32 Q32
        cases ic:Pr.is ts sz (Pr.put (Pr.name ts sz q) 5 0 0 (Pr.nameT ts sz q) 0) [44]
        ·have Q33:=hide (takeN HD32.out [44] #[44] rfl ic)
         go_wp2_with fail
         refine Q33.out.mono ?_
         rintro e33 w33 ⟨rfl,v33,hd33,hg33⟩
         have HD33:=hide hd33
         have HG33:=hide (HG32.out.trans hg33)
         have HS33:=hide (HS32.out)
         have HA33:=hide (HA32.out)
         have HX33:=hide (HX32.out.trans hg33)
         clear hd33 hg33 Q33
         have y1:=(HX33.out.cell HQS.out HQB.out HOV.out 1).trans HY1.out
         have Q34:=hide (put_any HD33.out (HS33.out.len (by first | omega | (simp only [Pr.extra];omega)) h0 hN) 23 0 0 (Pr.tok ts sz (Pr.adv s)).text (n+1))
         go_wp2_with fail
         refine Q34.out.mono ?_
         rintro e34 w34 ⟨rfl,v34,hd34,hg34⟩
         have HD34:=hide hd34
         have HG34:=hide (HG33.out.trans hg34)
         have HS34:=hide (HS33.out.put 23 0 0 (Pr.tok ts sz (Pr.adv s)).text (n+1))
         have HA34:=hide (HA33.out.put 23 0 0 (Pr.tok ts sz (Pr.adv s)).text (n+1))
         have HX34:=hide (HX33.out.trans hg34)
         clear hd34 hg34 Q34
         have Q35:=hide (needW HD34.out [59] #[59] rfl)
         go_wp2_with fail
         refine Q35.out.mono ?_
         rintro e35 w35 ⟨rfl,v35,hd35,hg35⟩
         have HD35:=hide hd35
         have HG35:=hide (HG34.out.trans hg35)
         have HS35:=hide (HS34.out.need (sz:=sz) [59])
         have HA35:=hide (HA34.out.need (sz:=sz) [59])
         have HX35:=hide (HX34.out.trans hg35)
         clear hd35 hg35 Q35
         go_wp2
         (first | go_end0 | refine bodyPost_ret (results_none rfl _ _ _) rfl ?_)
         exact ⟨(_,0),rfl,HI30.out _ (Pr.Cv.loadL_last hbad ic),v35,HD35.out,HG35.out⟩
        ·have Q33:=hide (takeY HD32.out [44] #[44] rfl ic)
         go_wp2_with fail
         refine Q33.out.mono ?_
         rintro e33 w33 ⟨rfl,v33,hd33,hg33⟩
         have HD33:=hide hd33
         have HG33:=hide (HG32.out.trans hg33)
         have HS33:=hide (HS32.out.adv ic)
         have HA33:=hide (HA32.out.adv ic)
         have HX33:=hide (HX32.out.trans hg33)
         clear hd33 hg33 Q33
         have HM:=hide (show Pr.left b ts w33 < Pr.left b ts wr from by rw [HD33.out.left,HD30.out.left];have:=HA32.out.ge;have:=Pr.is_lt ic;rw [Pr.adv_p] at *;omega)
         have HNP:=hide (show n+1≤(Pr.adv (Pr.put (Pr.name ts sz q) 5 0 0 (Pr.nameT ts sz q) 0)).p from by have:=HA32.out.ge;rw [Pr.adv_p] at *;omega)
         go_wp2
         go_roundw
         case rel=>exact ⟨n+1,_,v33,by go_num,HNP.out,HD33.out,HG33.out,HX33.out,HS33.out.mono (by first | omega | (simp only [Pr.extra];omega)),fun r2 h=>HI30.out _ (Pr.Cv.loadL_go hbad ic h)⟩
         case measure=>exact HM.out
       ·rw [hbad] at c3
        have y1:=(HX30.out.cell HQS.out HQB.out HOV.out 1).trans HY1.out
        have Q31:=hide (put_any HD30.out (HS30.out.len (by first | omega | (simp only [Pr.extra];omega)) h0 hN) 23 0 0 (Pr.tok ts sz (Pr.adv s)).text (n))
        go_wp2_with fail
        refine Q31.out.mono ?_
        rintro e31 w31 ⟨rfl,v31,hd31,hg31⟩
        have HD31:=hide hd31
        have HG31:=hide (HG30.out.trans hg31)
        have HS31:=hide (HS30.out.put 23 0 0 (Pr.tok ts sz (Pr.adv s)).text (n))
        have HX31:=hide (HX30.out.trans hg31)
        clear hd31 hg31 Q31
        have Q32:=hide (needW HD31.out [59] #[59] rfl)
        go_wp2_with fail
        refine Q32.out.mono ?_
        rintro e32 w32 ⟨rfl,v32,hd32,hg32⟩
        have HD32:=hide hd32
        have HG32:=hide (HG31.out.trans hg32)
        have HS32:=hide (HS31.out.need (sz:=sz) [59])
        have HX32:=hide (HX31.out.trans hg32)
        clear hd32 hg32 Q32
        go_wp2
        (first | go_end0 | refine bodyPost_ret (results_none rfl _ _ _) rfl ?_)
        exact ⟨(_,0),rfl,HI30.out _ (Pr.Cv.loadL_bad hbad),v32,HD32.out,HG32.out⟩
     ·have m4:¬ (((Pr.tok ts sz (Pr.adv s)).kind:Nat):Int)=4:=by omega
      have t4:((Pr.tok ts sz (Pr.adv s)).kind == 4)=false:=by simp [k4]
      go_enter Tryz.func57,Tryz.ntmps57
      have Q1:=hide (takeN HD0.out Pr.sDef #[100,101,102] rfl i0)
      go_wp2_with fail
      refine Q1.out.mono ?_
      rintro e1 w1 ⟨rfl,v1,hd1,hg1⟩
      have HD1:=hide hd1
      have HG1:=hide (HG0.out.trans hg1)
      have HS1:=hide (HS0.out)
      clear hd1 hg1 Q1
      have Q2:=hide (takeN HD1.out Pr.sLet #[108,101,116] rfl i1)
      go_wp2_with fail
      refine Q2.out.mono ?_
      rintro e2 w2 ⟨rfl,v2,hd2,hg2⟩
      have HD2:=hide hd2
      have HG2:=hide (HG1.out.trans hg2)
      have HS2:=hide (HS1.out)
      clear hd2 hg2 Q2
      have Q3:=hide (takeN HD2.out Pr.sEmit #[101,109,105,116] rfl i2)
      go_wp2_with fail
      refine Q3.out.mono ?_
      rintro e3 w3 ⟨rfl,v3,hd3,hg3⟩
      have HD3:=hide hd3
      have HG3:=hide (HG2.out.trans hg3)
      have HS3:=hide (HS2.out)
      clear hd3 hg3 Q3
      have Q4:=hide (takeY HD3.out Pr.sLoad #[108,111,97,100] rfl i3)
      go_wp2_with fail
      refine Q4.out.mono ?_
      rintro e4 w4 ⟨rfl,v4,hd4,hg4⟩
      have HD4:=hide hd4
      have HG4:=hide (HG3.out.trans hg4)
      have HS4:=hide (HS3.out.adv i3)
      clear hd4 hg4 Q4
      have HA4:=hide (Pr.Stp.refl HS4.out.le)
      have HT:=hide (tok_any HD4.out)
      go_wp2_with fail
      refine HT.out.mono ?_
      rintro e w5 ⟨rfl,hb1⟩
      unfold Pr.tokV
      have hd1:=HD4.out.below hb1
      have bA:=(Below.refl w5.heap.size w5).alloc (Nat.le_refl _) (tokO (((Pr.tok ts sz (Pr.adv s)).kind:Nat):Int) (Pr.tok ts sz (Pr.adv s)))
      have hdB:=hd1.below bA
      have HD5:=hide hdB
      have HG5:=hide ((HG4.out.trans (.below hb1)).trans (.below bA))
      have HS5:=HS4
      clear hb1 bA hdB hd1 HT
      have Q6:=hide (stopW HD5.out)
      go_wp2_with fail
      refine Q6.out.mono ?_
      rintro e6 w6 ⟨rfl,v6,hd6,hg6⟩
      have HD6:=hide hd6
      have HG6:=hide (HG5.out.trans hg6)
      have HS6:=hide (HS5.out.stop (sz:=sz))
      clear hd6 hg6 Q6
      go_wp2
      (first | go_end0 | refine bodyPost_ret (results_none rfl _ _ _) rfl ?_)
      exact ⟨(_,0),rfl,Pr.Cv.st_loadNo i0 i1 i2 i3 t4,v6,HD6.out,HG6.out⟩
   ·go_enter Tryz.func57,Tryz.ntmps57
    have Q1:=hide (takeN HD0.out Pr.sDef #[100,101,102] rfl i0)
    go_wp2_with fail
    refine Q1.out.mono ?_
    rintro e1 w1 ⟨rfl,v1,hd1,hg1⟩
    have HD1:=hide hd1
    have HG1:=hide (HG0.out.trans hg1)
    have HS1:=hide (HS0.out)
    clear hd1 hg1 Q1
    have Q2:=hide (takeN HD1.out Pr.sLet #[108,101,116] rfl i1)
    go_wp2_with fail
    refine Q2.out.mono ?_
    rintro e2 w2 ⟨rfl,v2,hd2,hg2⟩
    have HD2:=hide hd2
    have HG2:=hide (HG1.out.trans hg2)
    have HS2:=hide (HS1.out)
    clear hd2 hg2 Q2
    have Q3:=hide (takeY HD2.out Pr.sEmit #[101,109,105,116] rfl i2)
    go_wp2_with fail
    refine Q3.out.mono ?_
    rintro e3 w3 ⟨rfl,v3,hd3,hg3⟩
    have HD3:=hide hd3
    have HG3:=hide (HG2.out.trans hg3)
    have HS3:=hide (HS2.out.adv i2)
    clear hd3 hg3 Q3
    have HA3:=hide (Pr.Stp.refl HS3.out.le)
    have Q4:=hide (ihE _ HA3.out.ge HS3.out.le _ _ HD3.out (HS3.out.phi (by first | omega | (simp only [Pr.extra];omega)) h0 hN))
    go_wp2_with fail
    refine Q4.out.mono ?_
    rintro e4 w4 ⟨r4,rfl,hc4,v4,hd4,hg4⟩
    have HC4:=hide hc4
    have HD4:=hide hd4
    have HG4:=hide (HG3.out.trans hg4)
    have HS4:=hide (HS3.out.trans (hc4.stp HS3.out.le))
    have HA4:=hide (HA3.out.trans (hc4.stp HA3.out.le))
    clear hc4 hd4 hg4 Q4
    have Q5:=hide (put_any HD4.out (HS4.out.len (by first | omega | (simp only [Pr.extra];omega)) h0 hN) 22 0 0 [] 1)
    go_wp2_with fail
    refine Q5.out.mono ?_
    rintro e5 w5 ⟨rfl,v5,hd5,hg5⟩
    have HD5:=hide hd5
    have HG5:=hide (HG4.out.trans hg5)
    have HS5:=hide (HS4.out.put 22 0 0 [] 1)
    have HA5:=hide (HA4.out.put 22 0 0 [] 1)
    clear hd5 hg5 Q5
    have Q6:=hide (needW HD5.out [59] #[59] rfl)
    go_wp2_with fail
    refine Q6.out.mono ?_
    rintro e6 w6 ⟨rfl,v6,hd6,hg6⟩
    have HD6:=hide hd6
    have HG6:=hide (HG5.out.trans hg6)
    have HS6:=hide (HS5.out.need (sz:=sz) [59])
    have HA6:=hide (HA5.out.need (sz:=sz) [59])
    clear hd6 hg6 Q6
    go_wp2
    (first | go_end0 | refine bodyPost_ret (results_none rfl _ _ _) rfl ?_)
    exact ⟨(_,0),rfl,Pr.Cv.st_emit i0 i1 i2 HC4.out,v6,HD6.out,HG6.out⟩
  ·go_enter Tryz.func57,Tryz.ntmps57
   have Q1:=hide (takeN HD0.out Pr.sDef #[100,101,102] rfl i0)
   go_wp2_with fail
   refine Q1.out.mono ?_
   rintro e1 w1 ⟨rfl,v1,hd1,hg1⟩
   have HD1:=hide hd1
   have HG1:=hide (HG0.out.trans hg1)
   have HS1:=hide (HS0.out)
   clear hd1 hg1 Q1
   have Q2:=hide (takeY HD1.out Pr.sLet #[108,101,116] rfl i1)
   go_wp2_with fail
   refine Q2.out.mono ?_
   rintro e2 w2 ⟨rfl,v2,hd2,hg2⟩
   have HD2:=hide hd2
   have HG2:=hide (HG1.out.trans hg2)
   have HS2:=hide (HS1.out.adv i1)
   clear hd2 hg2 Q2
   have HA2:=hide (Pr.Stp.refl HS2.out.le)
   have Q3:=hide (nameW HD2.out)
   go_wp2_with fail
   refine Q3.out.mono ?_
   rintro e3 w3 ⟨rfl,v3,hd3,hg3⟩
   have HD3:=hide hd3
   have HG3:=hide (HG2.out.trans hg3)
   have HS3:=hide (HS2.out.name (sz:=sz))
   have HA3:=hide (HA2.out.name (sz:=sz))
   clear hd3 hg3 Q3
   have Q4:=hide (needW HD3.out [61] #[61] rfl)
   go_wp2_with fail
   refine Q4.out.mono ?_
   rintro e4 w4 ⟨rfl,v4,hd4,hg4⟩
   have HD4:=hide hd4
   have HG4:=hide (HG3.out.trans hg4)
   have HS4:=hide (HS3.out.need (sz:=sz) [61])
   have HA4:=hide (HA3.out.need (sz:=sz) [61])
   clear hd4 hg4 Q4
   have Q5:=hide (ihE _ HA4.out.ge HS4.out.le _ _ HD4.out (HS4.out.phi (by first | omega | (simp only [Pr.extra];omega)) h0 hN))
   go_wp2_with fail
   refine Q5.out.mono ?_
   rintro e5 w5 ⟨r5,rfl,hc5,v5,hd5,hg5⟩
   have HC5:=hide hc5
   have HD5:=hide hd5
   have HG5:=hide (HG4.out.trans hg5)
   have HS5:=hide (HS4.out.trans (hc5.stp HS4.out.le))
   have HA5:=hide (HA4.out.trans (hc5.stp HA4.out.le))
   clear hc5 hd5 hg5 Q5
   have Q6:=hide (put_any HD5.out (HS5.out.len (by first | omega | (simp only [Pr.extra];omega)) h0 hN) 21 0 0 (Pr.nameT ts sz (Pr.adv s)) 1)
   go_wp2_with fail
   refine Q6.out.mono ?_
   rintro e6 w6 ⟨rfl,v6,hd6,hg6⟩
   have HD6:=hide hd6
   have HG6:=hide (HG5.out.trans hg6)
   have HS6:=hide (HS5.out.put 21 0 0 (Pr.nameT ts sz (Pr.adv s)) 1)
   have HA6:=hide (HA5.out.put 21 0 0 (Pr.nameT ts sz (Pr.adv s)) 1)
   clear hd6 hg6 Q6
   have Q7:=hide (needW HD6.out [59] #[59] rfl)
   go_wp2_with fail
   refine Q7.out.mono ?_
   rintro e7 w7 ⟨rfl,v7,hd7,hg7⟩
   have HD7:=hide hd7
   have HG7:=hide (HG6.out.trans hg7)
   have HS7:=hide (HS6.out.need (sz:=sz) [59])
   have HA7:=hide (HA6.out.need (sz:=sz) [59])
   clear hd7 hg7 Q7
   go_wp2
   (first | go_end0 | refine bodyPost_ret (results_none rfl _ _ _) rfl ?_)
   exact ⟨(_,0),rfl,Pr.Cv.st_let i0 i1 HC5.out,v7,HD7.out,HG7.out⟩
 ·go_enter Tryz.func57,Tryz.ntmps57
  have Q1:=hide (takeY HD0.out Pr.sDef #[100,101,102] rfl i0)
  go_wp2_with fail
  refine Q1.out.mono ?_
  rintro e1 w1 ⟨rfl,v1,hd1,hg1⟩
  have HD1:=hide hd1
  have HG1:=hide (HG0.out.trans hg1)
  have HS1:=hide (HS0.out.adv i0)
  clear hd1 hg1 Q1
  have HA1:=hide (Pr.Stp.refl HS1.out.le)
  have Q2:=hide (nameW HD1.out)
  go_wp2_with fail
  refine Q2.out.mono ?_
  rintro e2 w2 ⟨rfl,v2,hd2,hg2⟩
  have HD2:=hide hd2
  have HG2:=hide (HG1.out.trans hg2)
  have HS2:=hide (HS1.out.name (sz:=sz))
  have HA2:=hide (HA1.out.name (sz:=sz))
  clear hd2 hg2 Q2
  have hal:=HA2.out.le
  have Q3:=hide (ihP _ HA2.out.ge HS2.out.le _ _ HD2.out (HS2.out.phi (by first | omega | (simp only [Pr.extra];omega)) h0 hN))
  go_wp2_with fail
  refine Q3.out.mono ?_
  rintro e3 w3 ⟨r3,rfl,hc3,v3,hd3,hg3⟩
  have HC3:=hide hc3
  have HD3:=hide hd3
  have HG3:=hide (HG2.out.trans hg3)
  have HS3:=hide (HS2.out.trans (hc3.stp HS2.out.le))
  have HA3:=hide (HA2.out.trans (hc3.stp HA2.out.le))
  clear hc3 hd3 hg3 Q3
  have hn1:=HC3.out.num rfl hal
  have hl1:=HS3.out.le
  simp only [Pr.cnt] at hn1
  unfold Pr.nu
  have Q4:=hide (needW HD3.out [61] #[61] rfl)
  go_wp2_with fail
  refine Q4.out.mono ?_
  rintro e4 w4 ⟨rfl,v4,hd4,hg4⟩
  have HD4:=hide hd4
  have HG4:=hide (HG3.out.trans hg4)
  have HS4:=hide (HS3.out.need (sz:=sz) [61])
  have HA4:=hide (HA3.out.need (sz:=sz) [61])
  clear hd4 hg4 Q4
  have Q5:=hide (ihE _ HA4.out.ge HS4.out.le _ _ HD4.out (HS4.out.phi (by first | omega | (simp only [Pr.extra];omega)) h0 hN))
  go_wp2_with fail
  refine Q5.out.mono ?_
  rintro e5 w5 ⟨r5,rfl,hc5,v5,hd5,hg5⟩
  have HC5:=hide hc5
  have HD5:=hide hd5
  have HG5:=hide (HG4.out.trans hg5)
  have HS5:=hide (HS4.out.trans (hc5.stp HS4.out.le))
  have HA5:=hide (HA4.out.trans (hc5.stp HA4.out.le))
  clear hc5 hd5 hg5 Q5
  have Q6:=hide (put_any HD5.out (HS5.out.len (by first | omega | (simp only [Pr.extra];omega)) h0 hN) 20 0 0 (Pr.nameT ts sz (Pr.adv s)) (r3.2+1))
  go_wp2_with fail
  refine Q6.out.mono ?_
  rintro e6 w6 ⟨rfl,v6,hd6,hg6⟩
  have HD6:=hide hd6
  have HG6:=hide (HG5.out.trans hg6)
  have HS6:=hide (HS5.out.put 20 0 0 (Pr.nameT ts sz (Pr.adv s)) (r3.2+1))
  have HA6:=hide (HA5.out.put 20 0 0 (Pr.nameT ts sz (Pr.adv s)) (r3.2+1))
  clear hd6 hg6 Q6
  have Q7:=hide (needW HD6.out [59] #[59] rfl)
  go_wp2_with fail
  refine Q7.out.mono ?_
  rintro e7 w7 ⟨rfl,v7,hd7,hg7⟩
  have HD7:=hide hd7
  have HG7:=hide (HG6.out.trans hg7)
  have HS7:=hide (HS6.out.need (sz:=sz) [59])
  have HA7:=hide (HA6.out.need (sz:=sz) [59])
  clear hd7 hg7 Q7
  go_wp2
  (first | go_end0 | refine bodyPost_ret (results_none rfl _ _ _) rfl ?_)
  exact ⟨(_,0),rfl,Pr.Cv.st_def i0 HC3.out HC5.out,v7,HD7.out,HG7.out⟩
end Go.Proofs.YtbckhbeebngjfaaGreatDoor
