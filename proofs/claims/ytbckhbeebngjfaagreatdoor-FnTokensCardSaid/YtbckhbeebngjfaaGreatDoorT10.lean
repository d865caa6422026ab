/- Hg. -/
import Derived.Test.YtbckhbeebngjfaaGreatDoorT07
namespace Go.Proofs.YtbckhbeebngjfaaGreatDoor
open Go.RowKit
theorem stopW {b tg tc:Nat} {ts:List Sc.T} {sz:Nat} {v:Value} {s:Pr.Dk} {w:World} (h:DK b tg tc ts sz v s w) :
  Calls Tryz.prog 81 #[.pointer (some ⟨b,0,none⟩)] w fun e w'=>e = .returned (.tuple #[])∧DPost b tg tc ts sz v w (Pr.stop ts sz s) w' :=
 (stop_any h).mono fun _ _ ⟨h1,h2,h3⟩=>⟨h1,v,h2,h3⟩
abbrev tokO (k:Int) (x:Sc.T):Obj:= .cells #[.int .i64 k,.string ⟨x.text.toArray⟩,.int .i64 x.n,.int .i64 x.place] 30
theorem tok_box (w:World) (b:Nat) (u:Value) (k:Int) (x:Sc.T) (hb:b < w.heap.size) :
  ((w.alloc (tokO k x)).setCell ⟨b,2,none⟩ u).cell? ⟨w.heap.size,0,none⟩=some (.int .i64 k)∧((w.alloc (tokO k x)).setCell ⟨b,2,none⟩ u).cell? ⟨w.heap.size,1,none⟩=some (.string ⟨x.text.toArray⟩)∧((w.alloc (tokO k x)).setCell ⟨b,2,none⟩ u).cell? ⟨w.heap.size,2,none⟩=some (.int .i64 x.n):=by
 have e:∀ j,((w.alloc (tokO k x)).setCell ⟨b,2,none⟩ u).cell? ⟨w.heap.size,j,none⟩=(w.alloc (tokO k x)).cell? ⟨w.heap.size,j,none⟩:=fun j=>World.cell?_setCell_other _ _ _ _ (fun e=>by have:=congrArg Addr.block e;simp at this;omega)
 refine ⟨(e 0).trans ?_,(e 1).trans ?_,(e 2).trans ?_⟩ <;> simp [tokO]
set_option maxRecDepth 100000 in
set_option maxHeartbeats 2000000 in
theorem single_says {b tg tc:Nat} {ts:List Sc.T} {sz:Nat} {s:Pr.Dk} (ihE:∀ q:Pr.Dk,s.p < q.p→q.p≤ts.length→Pr.SE b tg tc ts sz q) (ihL:∀ q:Pr.Dk,s.p < q.p→q.p≤ts.length→Pr.SL b tg tc ts sz q) (ihR:∀ q:Pr.Dk,s.p < q.p→q.p≤ts.length→Pr.SR b tg tc ts sz q):Pr.SI b tg tc ts sz s:=by
 intro v0 w0 hd0 hN
 have h0:=hd0.le
 have hm:=hd0.most
 have HT:=hide (tok_any hd0)
 have HD0:=hide hd0
 have HG0:=hide (Pr.Gr.refl b v0 w0)
 have HS0:=hide (Pr.Stp.refl h0)
 have hl0:=hd0.lt
 clear hd0
 cases hbad:s.bad
 ·by_cases k3:(Pr.tok ts sz s).kind=3
  ·have hk:(((Pr.tok ts sz s).kind:Nat):Int)=3:=by omega
   have hp:s.p < ts.length:=Pr.tok_lt (sz:=sz) (by omega)
   have t3:((Pr.tok ts sz s).kind == 3)=true:=by simp [k3]
   go_enter Tryz.func114,Tryz.ntmps114
   go_wp2_with fail
   refine HT.out.mono ?_
   rintro e w1 ⟨rfl,hb1⟩
   unfold Pr.tokV
   rw [hk]
   have hz:=hb1.size
   have bB:=hb1.trans (((Below.refl w1.heap.size w1).alloc (Nat.le_refl _) (tokO 3 (Pr.tok ts sz s))).mono hz)
   have hdB:=HD0.out.below bB
   have c3:=hdB.c3
   rw [hbad] at c3
   have c2:=hdB.c2
   have f2:=hdB.fr 2
   have hdA:=hdB.adv hp
   obtain ⟨y0,y1,y2⟩:=tok_box w1 b (.int .i64 ((s.p:Int)+1)) 3 (Pr.tok ts sz s) (by omega)
   have HD1:=hide hdA
   have HG1:=hide ((Pr.Gr.below (b:=b) (v:=v0) bB).trans (.set v0 _ b 2 (.int .i64 ((s.p:Int)+1))))
   have HS1:=hide (HS0.out.advL hp)
   clear hb1 bB hdB hdA
   have Q2:=hide (put_any HD1.out (HS1.out.len (by first | omega | (simp only [Pr.extra];omega)) h0 hN) 3 0 ((Pr.tok ts sz s).n:Int) [] 0)
   go_wp2_with fail
   refine Q2.out.mono ?_
   rintro e2 w2 ⟨rfl,v2,hd2,hg2⟩
   have HD2:=hide hd2
   have HG2:=hide (HG1.out.trans hg2)
   have HS2:=hide (HS1.out.put 3 0 ((Pr.tok ts sz s).n:Int) [] 0)
   clear hd2 hg2 Q2
   go_wp2
   (first | go_end0 | refine bodyPost_ret (results_none rfl _ _ _) rfl ?_)
   exact ⟨(_,0),rfl,Pr.Cv.single_int hbad t3,v2,HD2.out,HG2.out⟩
  ·by_cases k4:(Pr.tok ts sz s).kind=4
   ·have hk:(((Pr.tok ts sz s).kind:Nat):Int)=4:=by omega
    have hp:s.p < ts.length:=Pr.tok_lt (sz:=sz) (by omega)
    have t4:((Pr.tok ts sz s).kind == 4)=true:=by simp [k4]
    have t3:((Pr.tok ts sz s).kind == 3)=false:=by simp [k3]
    go_enter Tryz.func114,Tryz.ntmps114
    go_wp2_with fail
    refine HT.out.mono ?_
    rintro e w1 ⟨rfl,hb1⟩
    unfold Pr.tokV
    rw [hk]
    have hz:=hb1.size
    have bB:=hb1.trans (((Below.refl w1.heap.size w1).alloc (Nat.le_refl _) (tokO 4 (Pr.tok ts sz s))).mono hz)
    have hdB:=HD0.out.below bB
    have c3:=hdB.c3
    rw [hbad] at c3
    have c2:=hdB.c2
    have f2:=hdB.fr 2
    have hdA:=hdB.adv hp
    obtain ⟨y0,y1,y2⟩:=tok_box w1 b (.int .i64 ((s.p:Int)+1)) 4 (Pr.tok ts sz s) (by omega)
    have HD1:=hide hdA
    have HG1:=hide ((Pr.Gr.below (b:=b) (v:=v0) bB).trans (.set v0 _ b 2 (.int .i64 ((s.p:Int)+1))))
    have HS1:=hide (HS0.out.advL hp)
    clear hb1 bB hdB hdA
    have Q2:=hide (put_any HD1.out (HS1.out.len (by first | omega | (simp only [Pr.extra];omega)) h0 hN) 4 0 0 (Pr.tok ts sz s).text 0)
    go_wp2_with fail
    refine Q2.out.mono ?_
    rintro e2 w2 ⟨rfl,v2,hd2,hg2⟩
    have HD2:=hide hd2
    have HG2:=hide (HG1.out.trans hg2)
    have HS2:=hide (HS1.out.put 4 0 0 (Pr.tok ts sz s).text 0)
    clear hd2 hg2 Q2
    go_wp2
    (first | go_end0 | refine bodyPost_ret (results_none rfl _ _ _) rfl ?_)
    exact ⟨(_,0),rfl,Pr.Cv.single_text hbad t3 t4,v2,HD2.out,HG2.out⟩
   ·by_cases k1:(Pr.tok ts sz s).kind=1
    ·have hk:(((Pr.tok ts sz s).kind:Nat):Int)=1:=by omega
     have hp:s.p < ts.length:=Pr.tok_lt (sz:=sz) (by omega)
     have t1:((Pr.tok ts sz s).kind == 1)=true:=by simp [k1]
     have t3:((Pr.tok ts sz s).kind == 3)=false:=by simp [k3]
     have t4:((Pr.tok ts sz s).kind == 4)=false:=by simp [k4]
     go_enter Tryz.func114,Tryz.ntmps114
     go_wp2_with fail
     refine HT.out.mono ?_
     rintro e w1 ⟨rfl,hb1⟩
     unfold Pr.tokV
     rw [hk]
     have hz:=hb1.size
     have bB:=hb1.trans (((Below.refl w1.heap.size w1).alloc (Nat.le_refl _) (tokO 1 (Pr.tok ts sz s))).mono hz)
     have hdB:=HD0.out.below bB
     have c3:=hdB.c3
     rw [hbad] at c3
     have c2:=hdB.c2
     have f2:=hdB.fr 2
     have hdA:=hdB.adv hp
     obtain ⟨y0,y1,y2⟩:=tok_box w1 b (.int .i64 ((s.p:Int)+1)) 1 (Pr.tok ts sz s) (by omega)
     have HD1:=hide hdA
     have HG1:=hide ((Pr.Gr.below (b:=b) (v:=v0) bB).trans (.set v0 _ b 2 (.int .i64 ((s.p:Int)+1))))
     have HS1:=hide (HS0.out.advL hp)
     clear hb1 bB hdB hdA
     have Q2:=hide (put_any HD1.out (HS1.out.len (by first | omega | (simp only [Pr.extra];omega)) h0 hN) 5 0 0 (Pr.tok ts sz s).text 0)
     go_wp2_with fail
     refine Q2.out.mono ?_
     rintro e2 w2 ⟨rfl,v2,hd2,hg2⟩
     have HD2:=hide hd2
     have HG2:=hide (HG1.out.trans hg2)
     have HS2:=hide (HS1.out.put 5 0 0 (Pr.tok ts sz s).text 0)
     clear hd2 hg2 Q2
     go_wp2
     (first | go_end0 | refine bodyPost_ret (results_none rfl _ _ _) rfl ?_)
     exact ⟨(_,0),rfl,Pr.Cv.single_name hbad t3 t4 t1,v2,HD2.out,HG2.out⟩
    ·have m3:¬ (((Pr.tok ts sz s).kind:Nat):Int)=3:=by omega
     have m4:¬ (((Pr.tok ts sz s).kind:Nat):Int)=4:=by omega
     have m1:¬ (((Pr.tok ts sz s).kind:Nat):Int)=1:=by omega
     have t3:((Pr.tok ts sz s).kind == 3)=false:=by simp [k3]
     have t4:((Pr.tok ts sz s).kind == 4)=false:=by simp [k4]
     have t1:((Pr.tok ts sz s).kind == 1)=false:=by simp [k1]
     cases i0:Pr.is ts sz s Pr.sNone
     ·cases i1:Pr.is ts sz s Pr.sFalse
      ·cases i2:Pr.is ts sz s Pr.sTrue
       ·cases i3:Pr.is ts sz s [91]
        ·cases i4:Pr.is ts sz s [123]
         ·cases i5:Pr.is ts sz s [40]
          ·go_enter Tryz.func114,Tryz.ntmps114
           go_wp2_with fail
           refine HT.out.mono ?_
           rintro e w1 ⟨rfl,hb1⟩
           unfold Pr.tokV
           have hz:=hb1.size
           have bB:=hb1.trans (((Below.refl w1.heap.size w1).alloc (Nat.le_refl _) (tokO (((Pr.tok ts sz s).kind:Nat):Int) (Pr.tok ts sz s))).mono hz)
           have hdB:=HD0.out.below bB
           have c3:=hdB.c3
           rw [hbad] at c3
           have HD1:=hide hdB
           have HG1:=hide (Pr.Gr.below (b:=b) (v:=v0) bB)
           have HS1:=HS0
           clear hb1 bB hdB
           have Q2:=hide (takeN HD1.out Pr.sNone #[110,111,110,101] rfl i0)
           go_wp2_with fail
           refine Q2.out.mono ?_
           rintro e2 w2 ⟨rfl,v2,hd2,hg2⟩
           have HD2:=hide hd2
           have HG2:=hide (HG1.out.trans hg2)
           have HS2:=hide (HS1.out)
           clear hd2 hg2 Q2
           have Q3:=hide (takeN HD2.out Pr.sFalse #[102,97,108,115,101] rfl i1)
           go_wp2_with fail
           refine Q3.out.mono ?_
           rintro e3 w3 ⟨rfl,v3,hd3,hg3⟩
           have HD3:=hide hd3
           have HG3:=hide (HG2.out.trans hg3)
           have HS3:=hide (HS2.out)
           clear hd3 hg3 Q3
           have Q4:=hide (takeN HD3.out Pr.sTrue #[116,114,117,101] rfl i2)
           go_wp2_with fail
           refine Q4.out.mono ?_
           rintro e4 w4 ⟨rfl,v4,hd4,hg4⟩
           have HD4:=hide hd4
           have HG4:=hide (HG3.out.trans hg4)
           have HS4:=hide (HS3.out)
           clear hd4 hg4 Q4
           have Q5:=hide (takeN HD4.out [91] #[91] rfl i3)
           go_wp2_with fail
           refine Q5.out.mono ?_
           rintro e5 w5 ⟨rfl,v5,hd5,hg5⟩
           have HD5:=hide hd5
           have HG5:=hide (HG4.out.trans hg5)
           have HS5:=hide (HS4.out)
           clear hd5 hg5 Q5
           have Q6:=hide (takeN HD5.out [123] #[123] rfl i4)
           go_wp2_with fail
           refine Q6.out.mono ?_
           rintro e6 w6 ⟨rfl,v6,hd6,hg6⟩
           have HD6:=hide hd6
           have HG6:=hide (HG5.out.trans hg6)
           have HS6:=hide (HS5.out)
           clear hd6 hg6 Q6
           have Q7:=hide (takeN HD6.out [40] #[40] rfl i5)
           go_wp2_with fail
           refine Q7.out.mono ?_
           rintro e7 w7 ⟨rfl,v7,hd7,hg7⟩
           have HD7:=hide hd7
           have HG7:=hide (HG6.out.trans hg7)
           have HS7:=hide (HS6.out)
           clear hd7 hg7 Q7
           have Q8:=hide (stopW HD7.out)
           go_wp2_with fail
           refine Q8.out.mono ?_
           rintro e8 w8 ⟨rfl,v8,hd8,hg8⟩
           have HD8:=hide hd8
           have HG8:=hide (HG7.out.trans hg8)
           have HS8:=hide (HS7.out.stop (sz:=sz))
           clear hd8 hg8 Q8
           go_wp2
           (first | go_end0 | refine bodyPost_ret (results_none rfl _ _ _) rfl ?_)
           exact ⟨(_,0),rfl,Pr.Cv.single_stop hbad t3 t4 t1 i0 i1 i2 i3 i4 i5,v8,HD8.out,HG8.out⟩
          ·go_enter Tryz.func114,Tryz.ntmps114
           go_wp2_with fail
           refine HT.out.mono ?_
           rintro e w1 ⟨rfl,hb1⟩
           unfold Pr.tokV
           have hz:=hb1.size
           have bB:=hb1.trans (((Below.refl w1.heap.size w1).alloc (Nat.le_refl _) (tokO (((Pr.tok ts sz s).kind:Nat):Int) (Pr.tok ts sz s))).mono hz)
           have hdB:=HD0.out.below bB
           have c3:=hdB.c3
           rw [hbad] at c3
           have HD1:=hide hdB
           have HG1:=hide (Pr.Gr.below (b:=b) (v:=v0) bB)
           have HS1:=HS0
           clear hb1 bB hdB
           have Q2:=hide (takeN HD1.out Pr.sNone #[110,111,110,101] rfl i0)
           go_wp2_with fail
           refine Q2.out.mono ?_
           rintro e2 w2 ⟨rfl,v2,hd2,hg2⟩
           have HD2:=hide hd2
           have HG2:=hide (HG1.out.trans hg2)
           have HS2:=hide (HS1.out)
           clear hd2 hg2 Q2
           have Q3:=hide (takeN HD2.out Pr.sFalse #[102,97,108,115,101] rfl i1)
           go_wp2_with fail
           refine Q3.out.mono ?_
           rintro e3 w3 ⟨rfl,v3,hd3,hg3⟩
           have HD3:=hide hd3
           have HG3:=hide (HG2.out.trans hg3)
           have HS3:=hide (HS2.out)
           clear hd3 hg3 Q3
           have Q4:=hide (takeN HD3.out Pr.sTrue #[116,114,117,101] rfl i2)
           go_wp2_with fail
           refine Q4.out.mono ?_
           rintro e4 w4 ⟨rfl,v4,hd4,hg4⟩
           have HD4:=hide hd4
           have HG4:=hide (HG3.out.trans hg4)
           have HS4:=hide (HS3.out)
           clear hd4 hg4 Q4
           have Q5:=hide (takeN HD4.out [91] #[91] rfl i3)
           go_wp2_with fail
           refine Q5.out.mono ?_
           rintro e5 w5 ⟨rfl,v5,hd5,hg5⟩
           have HD5:=hide hd5
           have HG5:=hide (HG4.out.trans hg5)
           have HS5:=hide (HS4.out)
           clear hd5 hg5 Q5
           have Q6:=hide (takeN HD5.out [123] #[123] rfl i4)
           go_wp2_with fail
           refine Q6.out.mono ?_
           rintro e6 w6 ⟨rfl,v6,hd6,hg6⟩
           have HD6:=hide hd6
           have HG6:=hide (HG5.out.trans hg6)
           have HS6:=hide (HS5.out)
           clear hd6 hg6 Q6
           have Q7:=hide (takeY HD6.out [40] #[40] rfl i5)
           go_wp2_with fail
           refine Q7.out.mono ?_
           rintro e7 w7 ⟨rfl,v7,hd7,hg7⟩
           have HD7:=hide hd7
           have HG7:=hide (HG6.out.trans hg7)
           have HS7:=hide (HS6.out.adv i5)
           clear hd7 hg7 Q7
           have HA7:=hide (Pr.Stp.refl HS7.out.le)
           have Q8:=hide (ihE _ HA7.out.ge HS7.out.le _ _ HD7.out (HS7.out.phi (by first | omega | (simp only [Pr.extra];omega)) h0 hN))
           go_wp2_with fail
           refine Q8.out.mono ?_
           rintro e8 w8 ⟨r8,rfl,hc8,v8,hd8,hg8⟩
           have HC8:=hide hc8
           have HD8:=hide hd8
           have HG8:=hide (HG7.out.trans hg8)
           have HS8:=hide (HS7.out.trans (hc8.stp HS7.out.le))
           have HA8:=hide (HA7.out.trans (hc8.stp HA7.out.le))
           clear hc8 hd8 hg8 Q8
           have Q9:=hide (needW HD8.out [41] #[41] rfl)
           go_wp2_with fail
           refine Q9.out.mono ?_
           rintro e9 w9 ⟨rfl,v9,hd9,hg9⟩
           have HD9:=hide hd9
           have HG9:=hide (HG8.out.trans hg9)
           have HS9:=hide (HS8.out.need (sz:=sz) [41])
           have HA9:=hide (HA8.out.need (sz:=sz) [41])
           clear hd9 hg9 Q9
           go_wp2
           (first | go_end0 | refine bodyPost_ret (results_none rfl _ _ _) rfl ?_)
           exact ⟨(_,0),rfl,Pr.Cv.single_round hbad t3 t4 t1 i0 i1 i2 i3 i4 i5 HC8.out,v9,HD9.out,HG9.out⟩
         ·go_enter Tryz.func114,Tryz.ntmps114
          go_wp2_with fail
          refine HT.out.mono ?_
          rintro e w1 ⟨rfl,hb1⟩
          unfold Pr.tokV
          have hz:=hb1.size
          have bB:=hb1.trans (((Below.refl w1.heap.size w1).alloc (Nat.le_refl _) (tokO (((Pr.tok ts sz s).kind:Nat):Int) (Pr.tok ts sz s))).mono hz)
          have hdB:=HD0.out.below bB
          have c3:=hdB.c3
          rw [hbad] at c3
          have HD1:=hide hdB
          have HG1:=hide (Pr.Gr.below (b:=b) (v:=v0) bB)
          have HS1:=HS0
          clear hb1 bB hdB
          have Q2:=hide (takeN HD1.out Pr.sNone #[110,111,110,101] rfl i0)
          go_wp2_with fail
          refine Q2.out.mono ?_
          rintro e2 w2 ⟨rfl,v2,hd2,hg2⟩
          have HD2:=hide hd2
          have HG2:=hide (HG1.out.trans hg2)
          have HS2:=hide (HS1.out)
          clear hd2 hg2 Q2
          have Q3:=hide (takeN HD2.out Pr.sFalse #[102,97,108,115,101] rfl i1)
          go_wp2_with fail
          refine Q3.out.mono ?_
          rintro e3 w3 ⟨rfl,v3,hd3,hg3⟩
          have HD3:=hide hd3
          have HG3:=hide (HG2.out.trans hg3)
          have HS3:=hide (HS2.out)
          clear hd3 hg3 Q3
          have Q4:=hide (takeN HD3.out Pr.sTrue #[116,114,117,101] rfl i2)
          go_wp2_with fail
          refine Q4.out.mono ?_
          rintro e4 w4 ⟨rfl,v4,hd4,hg4⟩
          have HD4:=hide hd4
          have HG4:=hide (HG3.out.trans hg4)
          have HS4:=hide (HS3.out)
          clear hd4 hg4 Q4
          have Q5:=hide (takeN HD4.out [91] #[91] rfl i3)
          go_wp2_with fail
          refine Q5.out.mono ?_
          rintro e5 w5 ⟨rfl,v5,hd5,hg5⟩
          have HD5:=hide hd5
          have HG5:=hide (HG4.out.trans hg5)
          have HS5:=hide (HS4.out)
          clear hd5 hg5 Q5
          have Q6:=hide (takeY HD5.out [123] #[123] rfl i4)
          go_wp2_with fail
          refine Q6.out.mono ?_
          rintro e6 w6 ⟨rfl,v6,hd6,hg6⟩
          have HD6:=hide hd6
          have HG6:=hide (HG5.out.trans hg6)
          have HS6:=hide (HS5.out.adv i4)
          clear hd6 hg6 Q6
          have HA6:=hide (Pr.Stp.refl HS6.out.le)
          have Q7:=hide (ihR _ HA6.out.ge HS6.out.le _ _ HD6.out (HS6.out.phi (by first | omega | (simp only [Pr.extra];omega)) h0 hN))
          go_wp2_with fail
          refine Q7.out.mono ?_
          rintro e7 w7 ⟨r7,rfl,hc7,v7,hd7,hg7⟩
          have HC7:=hide hc7
          have HD7:=hide hd7
          have HG7:=hide (HG6.out.trans hg7)
          have HS7:=hide (HS6.out.trans (hc7.stp HS6.out.le))
          have HA7:=hide (HA6.out.trans (hc7.stp HA6.out.le))
          clear hc7 hd7 hg7 Q7
          go_wp2
          (first | go_end0 | refine bodyPost_ret (results_none rfl _ _ _) rfl ?_)
          exact ⟨_,rfl,Pr.Cv.single_record hbad t3 t4 t1 i0 i1 i2 i3 i4 HC7.out,v7,HD7.out,HG7.out⟩
        ·go_enter Tryz.func114,Tryz.ntmps114
         go_wp2_with fail
         refine HT.out.mono ?_
         rintro e w1 ⟨rfl,hb1⟩
         unfold Pr.tokV
         have hz:=hb1.size
         have bB:=hb1.trans (((Below.refl w1.heap.size w1).alloc (Nat.le_refl _) (tokO (((Pr.tok ts sz s).kind:Nat):Int) (Pr.tok ts sz s))).mono hz)
         have hdB:=HD0.out.below bB
         have c3:=hdB.c3
         rw [hbad] at c3
         have HD1:=hide hdB
         have HG1:=hide (Pr.Gr.below (b:=b) (v:=v0) bB)
         have HS1:=HS0
         clear hb1 bB hdB
         have Q2:=hide (takeN HD1.out Pr.sNone #[110,111,110,101] rfl i0)
         go_wp2_with fail
         refine Q2.out.mono ?_
         rintro e2 w2 ⟨rfl,v2,hd2,hg2⟩
         have HD2:=hide hd2
         have HG2:=hide (HG1.out.trans hg2)
         have HS2:=hide (HS1.out)
         clear hd2 hg2 Q2
         have Q3:=hide (takeN HD2.out Pr.sFalse #[102,97,108,115,101] rfl i1)
         go_wp2_with fail
         refine Q3.out.mono ?_
         rintro e3 w3 ⟨rfl,v3,hd3,hg3⟩
         have HD3:=hide hd3
         have HG3:=hide (HG2.out.trans hg3)
         have HS3:=hide (HS2.out)
         clear hd3 hg3 Q3
         have Q4:=hide (takeN HD3.out Pr.sTrue #[116,114,117,101] rfl i2)
         go_wp2_with fail
         refine Q4.out.mono ?_
         rintro e4 w4 ⟨rfl,v4,hd4,hg4⟩
         have HD4:=hide hd4
         have HG4:=hide (HG3.out.trans hg4)
         have HS4:=hide (HS3.out)
         clear hd4 hg4 Q4
         have Q5:=hide (takeY HD4.out [91] #[91] rfl i3)
         go_wp2_with fail
         refine Q5.out.mono ?_
         rintro e5 w5 ⟨rfl,v5,hd5,hg5⟩
         have HD5:=hide hd5
         have HG5:=hide (HG4.out.trans hg5)
         have HS5:=hide (HS4.out.adv i3)
         clear hd5 hg5 Q5
         have HA5:=hide (Pr.Stp.refl HS5.out.le)
         have Q6:=hide (ihL _ HA5.out.ge HS5.out.le _ _ HD5.out (HS5.out.phi (by first | omega | (simp only [Pr.extra];omega)) h0 hN))
         go_wp2_with fail
         refine Q6.out.mono ?_
         rintro e6 w6 ⟨r6,rfl,hc6,v6,hd6,hg6⟩
         have HC6:=hide hc6
         have HD6:=hide hd6
         have HG6:=hide (HG5.out.trans hg6)
         have HS6:=hide (HS5.out.trans (hc6.stp HS5.out.le))
         have HA6:=hide (HA5.out.trans (hc6.stp HA5.out.le))
         clear hc6 hd6 hg6 Q6
         go_wp2
         (first | go_end0 | refine bodyPost_ret (results_none rfl _ _ _) rfl ?_)
         exact ⟨_,rfl,Pr.Cv.single_list hbad t3 t4 t1 i0 i1 i2 i3 HC6.out,v6,HD6.out,HG6.out⟩
       ·go_enter Tryz.func114,Tryz.ntmps114
        go_wp2_with fail
        refine HT.out.mono ?_
        rintro e w1 ⟨rfl,hb1⟩
        unfold Pr.tokV
        have hz:=hb1.size
        have bB:=hb1.trans (((Below.refl w1.heap.size w1).alloc (Nat.le_refl _) (tokO (((Pr.tok ts sz s).kind:Nat):Int) (Pr.tok ts sz s))).mono hz)
        have hdB:=HD0.out.below bB
        have c3:=hdB.c3
        rw [hbad] at c3
        have HD1:=hide hdB
        have HG1:=hide (Pr.Gr.below (b:=b) (v:=v0) bB)
        have HS1:=HS0
        clear hb1 bB hdB
        have Q2:=hide (takeN HD1.out Pr.sNone #[110,111,110,101] rfl i0)
        go_wp2_with fail
        refine Q2.out.mono ?_
        rintro e2 w2 ⟨rfl,v2,hd2,hg2⟩
        have HD2:=hide hd2
        have HG2:=hide (HG1.out.trans hg2)
        have HS2:=hide (HS1.out)
        clear hd2 hg2 Q2
        have Q3:=hide (takeN HD2.out Pr.sFalse #[102,97,108,115,101] rfl i1)
        go_wp2_with fail
        refine Q3.out.mono ?_
        rintro e3 w3 ⟨rfl,v3,hd3,hg3⟩
        have HD3:=hide hd3
        have HG3:=hide (HG2.out.trans hg3)
        have HS3:=hide (HS2.out)
        clear hd3 hg3 Q3
        have Q4:=hide (takeY HD3.out Pr.sTrue #[116,114,117,101] rfl i2)
        go_wp2_with fail
        refine Q4.out.mono ?_
        rintro e4 w4 ⟨rfl,v4,hd4,hg4⟩
        have HD4:=hide hd4
        have HG4:=hide (HG3.out.trans hg4)
        have HS4:=hide (HS3.out.adv i2)
        clear hd4 hg4 Q4
        have HA4:=hide (Pr.Stp.refl HS4.out.le)
        have Q5:=hide (put_any HD4.out (HS4.out.len (by first | omega | (simp only [Pr.extra];omega)) h0 hN) 2 0 1 [] 0)
        go_wp2_with fail
        refine Q5.out.mono ?_
        rintro e5 w5 ⟨rfl,v5,hd5,hg5⟩
        have HD5:=hide hd5
        have HG5:=hide (HG4.out.trans hg5)
        have HS5:=hide (HS4.out.put 2 0 1 [] 0)
        have HA5:=hide (HA4.out.put 2 0 1 [] 0)
        clear hd5 hg5 Q5
        go_wp2
        (first | go_end0 | refine bodyPost_ret (results_none rfl _ _ _) rfl ?_)
        exact ⟨(_,0),rfl,Pr.Cv.single_true hbad t3 t4 t1 i0 i1 i2,v5,HD5.out,HG5.out⟩
      ·go_enter Tryz.func114,Tryz.ntmps114
       go_wp2_with fail
       refine HT.out.mono ?_
       rintro e w1 ⟨rfl,hb1⟩
       unfold Pr.tokV
       have hz:=hb1.size
       have bB:=hb1.trans (((Below.refl w1.heap.size w1).alloc (Nat.le_refl _) (tokO (((Pr.tok ts sz s).kind:Nat):Int) (Pr.tok ts sz s))).mono hz)
       have hdB:=HD0.out.below bB
       have c3:=hdB.c3
       rw [hbad] at c3
       have HD1:=hide hdB
       have HG1:=hide (Pr.Gr.below (b:=b) (v:=v0) bB)
       have HS1:=HS0
       clear hb1 bB hdB
       have Q2:=hide (takeN HD1.out Pr.sNone #[110,111,110,101] rfl i0)
       go_wp2_with fail
       refine Q2.out.mono ?_
       rintro e2 w2 ⟨rfl,v2,hd2,hg2⟩
       have HD2:=hide hd2
       have HG2:=hide (HG1.out.trans hg2)
       have HS2:=hide (HS1.out)
       clear hd2 hg2 Q2
       have Q3:=hide (takeY HD2.out Pr.sFalse #[102,97,108,115,101] rfl i1)
       go_wp2_with fail
       refine Q3.out.mono ?_
       rintro e3 w3 ⟨rfl,v3,hd3,hg3⟩
       have HD3:=hide hd3
       have HG3:=hide (HG2.out.trans hg3)
       have HS3:=hide (HS2.out.adv i1)
       clear hd3 hg3 Q3
       have HA3:=hide (Pr.Stp.refl HS3.out.le)
       have Q4:=hide (put_any HD3.out (HS3.out.len (by first | omega | (simp only [Pr.extra];omega)) h0 hN) 2 0 0 [] 0)
       go_wp2_with fail
       refine Q4.out.mono ?_
       rintro e4 w4 ⟨rfl,v4,hd4,hg4⟩
       have HD4:=hide hd4
       have HG4:=hide (HG3.out.trans hg4)
       have HS4:=hide (HS3.out.put 2 0 0 [] 0)
       have HA4:=hide (HA3.out.put 2 0 0 [] 0)
       clear hd4 hg4 Q4
       go_wp2
       (first | go_end0 | refine bodyPost_ret (results_none rfl _ _ _) rfl ?_)
       exact ⟨(_,0),rfl,Pr.Cv.single_false hbad t3 t4 t1 i0 i1,v4,HD4.out,HG4.out⟩
     ·go_enter Tryz.func114,Tryz.ntmps114
      go_wp2_with fail
      refine HT.out.mono ?_
      rintro e w1 ⟨rfl,hb1⟩
      unfold Pr.tokV
      have hz:=hb1.size
      have bB:=hb1.trans (((Below.refl w1.heap.size w1).alloc (Nat.le_refl _) (tokO (((Pr.tok ts sz s).kind:Nat):Int) (Pr.tok ts sz s))).mono hz)
      have hdB:=HD0.out.below bB
      have c3:=hdB.c3
      rw [hbad] at c3
      have HD1:=hide hdB
      have HG1:=hide (Pr.Gr.below (b:=b) (v:=v0) bB)
      have HS1:=HS0
      clear hb1 bB hdB
      have Q2:=hide (takeY HD1.out Pr.sNone #[110,111,110,101] rfl i0)
      go_wp2_with fail
      refine Q2.out.mono ?_
      rintro e2 w2 ⟨rfl,v2,hd2,hg2⟩
      have HD2:=hide hd2
      have HG2:=hide (HG1.out.trans hg2)
      have HS2:=hide (HS1.out.adv i0)
      clear hd2 hg2 Q2
      have HA2:=hide (Pr.Stp.refl HS2.out.le)
      have Q3:=hide (put_any HD2.out (HS2.out.len (by first | omega | (simp only [Pr.extra];omega)) h0 hN) 1 0 0 [] 0)
      go_wp2_with fail
      refine Q3.out.mono ?_
      rintro e3 w3 ⟨rfl,v3,hd3,hg3⟩
      have HD3:=hide hd3
      have HG3:=hide (HG2.out.trans hg3)
      have HS3:=hide (HS2.out.put 1 0 0 [] 0)
      have HA3:=hide (HA2.out.put 1 0 0 [] 0)
      clear hd3 hg3 Q3
      go_wp2
      (first | go_end0 | refine bodyPost_ret (results_none rfl _ _ _) rfl ?_)
      exact ⟨(_,0),rfl,Pr.Cv.single_none hbad t3 t4 t1 i0,v3,HD3.out,HG3.out⟩
 ·go_enter Tryz.func114,Tryz.ntmps114
  go_wp2_with fail
  refine HT.out.mono ?_
  rintro e w1 ⟨rfl,hb1⟩
  unfold Pr.tokV
  have hz:=hb1.size
  have bB:=hb1.trans (((Below.refl w1.heap.size w1).alloc (Nat.le_refl _) (tokO (((Pr.tok ts sz s).kind:Nat):Int) (Pr.tok ts sz s))).mono hz)
  have hdB:=HD0.out.below bB
  have c3:=hdB.c3
  rw [hbad] at c3
  have HD1:=hide hdB
  have HG1:=hide (Pr.Gr.below (b:=b) (v:=v0) bB)
  have HS1:=HS0
  clear hb1 bB hdB
  go_wp2
  (first | go_end0 | refine bodyPost_ret (results_none rfl _ _ _) rfl ?_)
  exact ⟨(s,0),rfl,Pr.Cv.single_bad hbad,v0,HD1.out,HG1.out⟩
end Go.Proofs.YtbckhbeebngjfaaGreatDoor
