/- Ho. -/
import Derived.Test.YtimbaebigjjkaaaGreatDoorP08
import Derived.Test.YtimbaebigjjkaaaGreatDoorP06
namespace Go.Proofs.YtimbaebigjjkaaaGreatDoor
open Go.RowKit
abbrev Pr.SS (b tg tc:Nat) (ts:List Sc.T) (sz:Nat) (s:Pr.Dk):Prop:=Kx b tg tc ts sz 59 [] Pr.un .statement s
set_option maxRecDepth 100000 in
set_option maxHeartbeats 8000000 in
theorem statement_says {b tg tc:Nat} {ts:List Sc.T} {sz:Nat} {s:Pr.Dk} (ihE:∀ q:Pr.Dk,s.p < q.p→q.p≤ts.length→Pr.SE b tg tc ts sz q) (ihP:∀ q:Pr.Dk,s.p < q.p→q.p≤ts.length→Pr.SP b tg tc ts sz q):Pr.SS b tg tc ts sz s:=by
 intro v0 w0 f3 hN
 have h0:=f3.le
 have hm:=f3.most
 have c4:=X1 f3
 have c7:=X1 (Pr.Gr.refl b v0 w0)
 have c5:=X1 (Pr.Stp.refl h0)
 clear f3
 cases i0:Xa ts sz s ZM
 ·cases i1:Xa ts sz s YS
  ·cases i2:Xa ts sz s ZY
   ·cases i3:Xa ts sz s KE
    ·go_enter Tryz.func59,Tryz.ntmps59
     have Q1:=X1 (XU c4.o ZM #[100,101,102] rfl i0)
     go_wp2_with fail
     refine Q1.o.mono ?_
     rintro e1 w1 ⟨rfl,v1,a,m⟩
     have Q:=X1 a
     have P:=X1 (c7.o.trans m)
     have C:=X1 (c5.o)
     clear a m Q1
     have Q2:=X1 (XU Q.o YS #[108,101,116] rfl i1)
     go_wp2_with fail
     refine Q2.o.mono ?_
     rintro e2 w2 ⟨rfl,v2,l,r⟩
     have V:=X1 l
     have U:=X1 (P.o.trans r)
     have x:=X1 (C.o)
     clear l r Q2
     have Q3:=X1 (XU V.o ZY #[101,109,105,116] rfl i2)
     go_wp2_with fail
     refine Q3.o.mono ?_
     rintro e3 w3 ⟨rfl,v3,f,k⟩
     have L:=X1 f
     have N:=X1 (U.o.trans k)
     have u:=X1 (x.o)
     clear f k Q3
     have Q4:=X1 (XU L.o KE #[108,111,97,100] rfl i3)
     go_wp2_with fail
     refine Q4.o.mono ?_
     rintro e4 w4 ⟨rfl,v4,i,j⟩
     have A:=X1 i
     have F:=X1 (N.o.trans j)
     have c:=X1 (u.o)
     clear i j Q4
     have Q5:=X1 (stopW A.o)
     go_wp2_with fail
     refine Q5.o.mono ?_
     rintro e5 w5 ⟨rfl,v5,O,W⟩
     have I:=X1 O
     have S:=X1 (F.o.trans W)
     have B:=X1 (c.o.stop (sz:=sz))
     clear O W Q5
     have Q6:=X1 (Yc I.o [59] #[59] rfl)
     go_wp2_with fail
     refine Q6.o.mono ?_
     rintro e6 w6 ⟨rfl,v6,g,d⟩
     have H:=X1 g
     have M:=X1 (S.o.trans d)
     have a7:=X1 (B.o.need (sz:=sz) [59])
     clear g d Q6
     go_wp2
     (first | go_end0 | refine bodyPost_ret (results_none rfl _ _ _) rfl ?_)
     exact ⟨(_,0),rfl,Pr.Cv.st_stop i0 i1 i2 i3,v6,H.o,M.o⟩
    ·by_cases k4:(X3 ts sz (X7 s)).kind=4
     ·have hk:(((X3 ts sz (X7 s)).kind:Nat):Int)=4:=by omega
      have hp:(X7 s).p < ts.length:=YY (sz:=sz) (by omega)
      have t4:((X3 ts sz (X7 s)).kind == 4)=true:=by simp [k4]
      go_enter Tryz.func59,Tryz.ntmps59
      have Q1:=X1 (XU c4.o ZM #[100,101,102] rfl i0)
      go_wp2_with fail
      refine Q1.o.mono ?_
      rintro e1 w1 ⟨rfl,v1,a,m⟩
      have Q:=X1 a
      have P:=X1 (c7.o.trans m)
      have C:=X1 (c5.o)
      clear a m Q1
      have Q2:=X1 (XU Q.o YS #[108,101,116] rfl i1)
      go_wp2_with fail
      refine Q2.o.mono ?_
      rintro e2 w2 ⟨rfl,v2,l,r⟩
      have V:=X1 l
      have U:=X1 (P.o.trans r)
      have x:=X1 (C.o)
      clear l r Q2
      have Q3:=X1 (XU V.o ZY #[101,109,105,116] rfl i2)
      go_wp2_with fail
      refine Q3.o.mono ?_
      rintro e3 w3 ⟨rfl,v3,f,k⟩
      have L:=X1 f
      have N:=X1 (U.o.trans k)
      have u:=X1 (x.o)
      clear f k Q3
      have Q4:=X1 (YC L.o KE #[108,111,97,100] rfl i3)
      go_wp2_with fail
      refine Q4.o.mono ?_
      rintro e4 w4 ⟨rfl,v4,i,j⟩
      have A:=X1 i
      have F:=X1 (N.o.trans j)
      have c:=X1 (u.o.adv i3)
      clear i j Q4
      have J:=X1 (Pr.Stp.refl c.o.le)
      have HT:=X1 (Zv A.o)
      go_wp2_with fail
      refine HT.o.mono ?_
      rintro e w5 ⟨rfl,a8⟩
      unfold Yf
      rw [hk]
      have a:=A.o.below a8
      have bA:=(Below.refl w5.heap.size w5).alloc (Nat.le_refl _) (tokO 4 (X3 ts sz (X7 s)))
      have b3:=a.below bA
      have hl1:=a.lt
      have c2:=b3.c2
      have f2:=b3.fr 2
      have hdA:=b3.adv hp
      have hov:v4.ownBlock≠some w5.heap.size:=fun e=>by have:=(a.own e).2;omega
      have hqb:w5.heap.size≠b:=by omega
      have hqs:w5.heap.size < ((w5.alloc (tokO 4 (X3 ts sz (X7 s)))).setCell ⟨b,2,none⟩ (.int .i64 (((X7 s).p:Int)+1))).heap.size:=by simp
      obtain ⟨y0,y1,y2⟩:=KZ w5 b (.int .i64 (((X7 s).p:Int)+1)) 4 (X3 ts sz (X7 s)) (by omega)
      have I:=X1 hdA
      have HX5:=X1 (Pr.Gr.refl b v4 ((w5.alloc (tokO 4 (X3 ts sz (X7 s)))).setCell ⟨b,2,none⟩ (.int .i64 (((X7 s).p:Int)+1))))
      have S:=X1 (((F.o.trans (.below a8)).trans (.below bA)).trans (.set v4 _ b 2 (.int .i64 (((X7 s).p:Int)+1))))
      have B:=X1 (c.o.advL hp)
      have HY1:=X1 y1
      have HQS:=X1 hqs
      have HQB:=X1 hqb
      have HOV:=X1 hov
      clear a8 bA b3 hdA a HT y1 hqs hqb hov hl1
      have Q6:=X1 (Yc I.o [58] #[58] rfl)
      go_wp2_with fail
      refine Q6.o.mono ?_
      rintro e6 w6 ⟨rfl,v6,g,d⟩
      have H:=X1 g
      have M:=X1 (S.o.trans d)
      have a7:=X1 (B.o.need (sz:=sz) [58])
      have HX6:=X1 (HX5.o.trans d)
      clear g d Q6
      have HI:=X1 (show ∀ r2,Pr.Cv ts sz (.loadL 0) (Xr ts sz (X7 (X7 s)) [58]) r2→Pr.Cv ts sz .statement s (Xr ts sz (Xj r2.1 23 0 0 (X3 ts sz (X7 s)).text r2.2) [59],0) from fun r2 h=>Pr.Cv.st_load i0 i1 i2 i3 t4 h)
      have HZ:=X1 HX6.o
      go_wp2_with fail
      go_loopw [6] (fun t wr=>∃ (n:Nat) (q:Pr.Dk) (vq:Value),t = .int .i64 n∧n≤q.p∧DK b tg tc ts sz vq q wr∧Pr.Gr b v0 vq w0 wr∧Pr.Gr b v4 vq ((w5.alloc (tokO 4 (X3 ts sz (X7 s)))).setCell ⟨b,2,none⟩ (.int .i64 (((X7 s).p:Int)+1))) wr∧Pr.Stp ts s q 0∧∀ r2,Pr.Cv ts sz (.loadL n) q r2→Pr.Cv ts sz .statement s (Xr ts sz (Xj r2.1 23 0 0 (X3 ts sz (X7 s)).text r2.2) [59],0)) (fun _ wr=>XQ b ts wr)
      case atStart=>exact ⟨0,_,v6,rfl,Nat.zero_le _,H.o,M.o,HZ.o,a7.o.mono (by first | omega | (simp only [X6];omega)),HI.o⟩
      case round =>
       obtain ⟨n,q,v30,rfl,hnp,Y,d7,d1,d2,d4⟩:=hrel
       have c3:=Y.c3
       have hle:=Y.le
       have b1:=X1 Y
       have d6:=X1 d7
       have a9:=X1 d1
       have a2:=X1 d2
       have b8:=X1 d4
       clear Y d7 d1 d2 d4 HI
       cases hbad:q.bad
       ·rw [hbad] at c3
        have g2:=X1 (Pr.Stp.refl a2.o.le)
        have d9:=X1 (Q0 b1.o)
        go_wp2_with fail
        refine d9.o.mono ?_
        rintro e31 w31 ⟨rfl,v31,E,v⟩
        have c1:=X1 E
        have b4:=X1 (d6.o.trans v)
        have a1:=X1 (a2.o.name (sz:=sz))
        have g1:=X1 (g2.o.name (sz:=sz))
        have b2:=X1 (a9.o.trans v)
        clear E v d9
        have d3:=X1 (XR c1.o (a1.o.len (by first | omega | (simp only [X6];omega)) h0 hN) 5 0 0 (Xd ts sz q) 0)
        go_wp2_with fail
        refine d3.o.mono ?_
        rintro e32 w32 ⟨rfl,v32,K,z⟩
        have a0:=X1 K
        have a5:=X1 (b4.o.trans z)
        have b6:=X1 (a1.o.put 5 0 0 (Xd ts sz q) 0)
        have Z:=X1 (g1.o.put 5 0 0 (Xd ts sz q) 0)
        have c0:=X1 (b2.o.trans z)
        clear K z d3
        cases ic:Xa ts sz (Xj (XP ts sz q) 5 0 0 (Xd ts sz q) 0) [44]
        ·have d8:=X1 (XU a0.o [44] #[44] rfl ic)
         go_wp2_with fail
         refine d8.o.mono ?_
         rintro e33 w33 ⟨rfl,v33,D,y⟩
         have a3:=X1 D
         have b0:=X1 (a5.o.trans y)
         have a4:=X1 (b6.o)
         have d5:=X1 (Z.o)
         have X:=X1 (c0.o.trans y)
         clear D y d8
         have y1:=(X.o.cell HQS.o HQB.o HOV.o 1).trans HY1.o
         have Q34:=X1 (XR a3.o (a4.o.len (by first | omega | (simp only [X6];omega)) h0 hN) 23 0 0 (X3 ts sz (X7 s)).text (n+1))
         go_wp2_with fail
         refine Q34.o.mono ?_
         rintro e34 w34 ⟨rfl,v34,c9,b7⟩
         have f9:=X1 c9
         have g5:=X1 (b0.o.trans b7)
         have f8:=X1 (a4.o.put 23 0 0 (X3 ts sz (X7 s)).text (n+1))
         have f7:=X1 (d5.o.put 23 0 0 (X3 ts sz (X7 s)).text (n+1))
         have g4:=X1 (X.o.trans b7)
         clear c9 b7 Q34
         have Q35:=X1 (Yc f9.o [59] #[59] rfl)
         go_wp2_with fail
         refine Q35.o.mono ?_
         rintro e35 w35 ⟨rfl,v35,c8,b9⟩
         have g3:=X1 c8
         have f4:=X1 (g5.o.trans b9)
         have HS35:=X1 (f8.o.need (sz:=sz) [59])
         have HA35:=X1 (f7.o.need (sz:=sz) [59])
         have HX35:=X1 (g4.o.trans b9)
         clear c8 b9 Q35
         go_wp2
         (first | go_end0 | refine bodyPost_ret (results_none rfl _ _ _) rfl ?_)
         exact ⟨(_,0),rfl,b8.o _ (Pr.Cv.loadL_last hbad ic),v35,g3.o,f4.o⟩
        ·have d8:=X1 (YC a0.o [44] #[44] rfl ic)
         go_wp2_with fail
         refine d8.o.mono ?_
         rintro e33 w33 ⟨rfl,v33,D,y⟩
         have a3:=X1 D
         have b0:=X1 (a5.o.trans y)
         have a4:=X1 (b6.o.adv ic)
         have d5:=X1 (Z.o.adv ic)
         have X:=X1 (c0.o.trans y)
         clear D y d8
         have HM:=X1 (show XQ b ts w33 < XQ b ts wr from by rw [a3.o.left,b1.o.left];have:=Z.o.ge;have:=XG ic;rw [Pr.adv_p] at *;omega)
         have HNP:=X1 (show n+1≤(X7 (Xj (XP ts sz q) 5 0 0 (Xd ts sz q) 0)).p from by have:=Z.o.ge;rw [Pr.adv_p] at *;omega)
         go_wp2
         go_roundw
         case rel=>exact ⟨n+1,_,v33,by go_num,HNP.o,a3.o,b0.o,X.o,a4.o.mono (by first | omega | (simp only [X6];omega)),fun r2 h=>b8.o _ (Pr.Cv.loadL_go hbad ic h)⟩
         case measure=>exact HM.o
       ·rw [hbad] at c3
        have y1:=(a9.o.cell HQS.o HQB.o HOV.o 1).trans HY1.o
        have d9:=X1 (XR b1.o (a2.o.len (by first | omega | (simp only [X6];omega)) h0 hN) 23 0 0 (X3 ts sz (X7 s)).text (n))
        go_wp2_with fail
        refine d9.o.mono ?_
        rintro e31 w31 ⟨rfl,v31,E,v⟩
        have c1:=X1 E
        have b4:=X1 (d6.o.trans v)
        have a1:=X1 (a2.o.put 23 0 0 (X3 ts sz (X7 s)).text (n))
        have b2:=X1 (a9.o.trans v)
        clear E v d9
        have d3:=X1 (Yc c1.o [59] #[59] rfl)
        go_wp2_with fail
        refine d3.o.mono ?_
        rintro e32 w32 ⟨rfl,v32,K,z⟩
        have a0:=X1 K
        have a5:=X1 (b4.o.trans z)
        have b6:=X1 (a1.o.need (sz:=sz) [59])
        have c0:=X1 (b2.o.trans z)
        clear K z d3
        go_wp2
        (first | go_end0 | refine bodyPost_ret (results_none rfl _ _ _) rfl ?_)
        exact ⟨(_,0),rfl,b8.o _ (Pr.Cv.loadL_bad hbad),v32,a0.o,a5.o⟩
     ·have m4:¬ (((X3 ts sz (X7 s)).kind:Nat):Int)=4:=by omega
      have t4:((X3 ts sz (X7 s)).kind == 4)=false:=by simp [k4]
      go_enter Tryz.func59,Tryz.ntmps59
      have Q1:=X1 (XU c4.o ZM #[100,101,102] rfl i0)
      go_wp2_with fail
      refine Q1.o.mono ?_
      rintro e1 w1 ⟨rfl,v1,a,m⟩
      have Q:=X1 a
      have P:=X1 (c7.o.trans m)
      have C:=X1 (c5.o)
      clear a m Q1
      have Q2:=X1 (XU Q.o YS #[108,101,116] rfl i1)
      go_wp2_with fail
      refine Q2.o.mono ?_
      rintro e2 w2 ⟨rfl,v2,l,r⟩
      have V:=X1 l
      have U:=X1 (P.o.trans r)
      have x:=X1 (C.o)
      clear l r Q2
      have Q3:=X1 (XU V.o ZY #[101,109,105,116] rfl i2)
      go_wp2_with fail
      refine Q3.o.mono ?_
      rintro e3 w3 ⟨rfl,v3,f,k⟩
      have L:=X1 f
      have N:=X1 (U.o.trans k)
      have u:=X1 (x.o)
      clear f k Q3
      have Q4:=X1 (YC L.o KE #[108,111,97,100] rfl i3)
      go_wp2_with fail
      refine Q4.o.mono ?_
      rintro e4 w4 ⟨rfl,v4,i,j⟩
      have A:=X1 i
      have F:=X1 (N.o.trans j)
      have c:=X1 (u.o.adv i3)
      clear i j Q4
      have J:=X1 (Pr.Stp.refl c.o.le)
      have HT:=X1 (Zv A.o)
      go_wp2_with fail
      refine HT.o.mono ?_
      rintro e w5 ⟨rfl,a8⟩
      unfold Yf
      have a:=A.o.below a8
      have bA:=(Below.refl w5.heap.size w5).alloc (Nat.le_refl _) (tokO (((X3 ts sz (X7 s)).kind:Nat):Int) (X3 ts sz (X7 s)))
      have b3:=a.below bA
      have I:=X1 b3
      have S:=X1 ((F.o.trans (.below a8)).trans (.below bA))
      have B:=c
      clear a8 bA b3 a HT
      have Q6:=X1 (stopW I.o)
      go_wp2_with fail
      refine Q6.o.mono ?_
      rintro e6 w6 ⟨rfl,v6,g,d⟩
      have H:=X1 g
      have M:=X1 (S.o.trans d)
      have a7:=X1 (B.o.stop (sz:=sz))
      clear g d Q6
      go_wp2
      (first | go_end0 | refine bodyPost_ret (results_none rfl _ _ _) rfl ?_)
      exact ⟨(_,0),rfl,Pr.Cv.st_loadNo i0 i1 i2 i3 t4,v6,H.o,M.o⟩
   ·go_enter Tryz.func59,Tryz.ntmps59
    have Q1:=X1 (XU c4.o ZM #[100,101,102] rfl i0)
    go_wp2_with fail
    refine Q1.o.mono ?_
    rintro e1 w1 ⟨rfl,v1,a,m⟩
    have Q:=X1 a
    have P:=X1 (c7.o.trans m)
    have C:=X1 (c5.o)
    clear a m Q1
    have Q2:=X1 (XU Q.o YS #[108,101,116] rfl i1)
    go_wp2_with fail
    refine Q2.o.mono ?_
    rintro e2 w2 ⟨rfl,v2,l,r⟩
    have V:=X1 l
    have U:=X1 (P.o.trans r)
    have x:=X1 (C.o)
    clear l r Q2
    have Q3:=X1 (YC V.o ZY #[101,109,105,116] rfl i2)
    go_wp2_with fail
    refine Q3.o.mono ?_
    rintro e3 w3 ⟨rfl,v3,f,k⟩
    have L:=X1 f
    have N:=X1 (U.o.trans k)
    have u:=X1 (x.o.adv i2)
    clear f k Q3
    have b5:=X1 (Pr.Stp.refl u.o.le)
    have Q4:=X1 (ihE _ b5.o.ge u.o.le _ _ L.o (u.o.phi (by first | omega | (simp only [X6];omega)) h0 hN))
    go_wp2_with fail
    refine Q4.o.mono ?_
    rintro e4 w4 ⟨r4,rfl,f1,v4,i,j⟩
    have HC4:=X1 f1
    have A:=X1 i
    have F:=X1 (N.o.trans j)
    have c:=X1 (u.o.trans (f1.stp u.o.le))
    have J:=X1 (b5.o.trans (f1.stp b5.o.le))
    clear f1 i j Q4
    have Q5:=X1 (XR A.o (c.o.len (by first | omega | (simp only [X6];omega)) h0 hN) 22 0 0 [] 1)
    go_wp2_with fail
    refine Q5.o.mono ?_
    rintro e5 w5 ⟨rfl,v5,O,W⟩
    have I:=X1 O
    have S:=X1 (F.o.trans W)
    have B:=X1 (c.o.put 22 0 0 [] 1)
    have d0:=X1 (J.o.put 22 0 0 [] 1)
    clear O W Q5
    have Q6:=X1 (Yc I.o [59] #[59] rfl)
    go_wp2_with fail
    refine Q6.o.mono ?_
    rintro e6 w6 ⟨rfl,v6,g,d⟩
    have H:=X1 g
    have M:=X1 (S.o.trans d)
    have a7:=X1 (B.o.need (sz:=sz) [59])
    have f0:=X1 (d0.o.need (sz:=sz) [59])
    clear g d Q6
    go_wp2
    (first | go_end0 | refine bodyPost_ret (results_none rfl _ _ _) rfl ?_)
    exact ⟨(_,0),rfl,Pr.Cv.st_emit i0 i1 i2 HC4.o,v6,H.o,M.o⟩
  ·go_enter Tryz.func59,Tryz.ntmps59
   have Q1:=X1 (XU c4.o ZM #[100,101,102] rfl i0)
   go_wp2_with fail
   refine Q1.o.mono ?_
   rintro e1 w1 ⟨rfl,v1,a,m⟩
   have Q:=X1 a
   have P:=X1 (c7.o.trans m)
   have C:=X1 (c5.o)
   clear a m Q1
   have Q2:=X1 (YC Q.o YS #[108,101,116] rfl i1)
   go_wp2_with fail
   refine Q2.o.mono ?_
   rintro e2 w2 ⟨rfl,v2,l,r⟩
   have V:=X1 l
   have U:=X1 (P.o.trans r)
   have x:=X1 (C.o.adv i1)
   clear l r Q2
   have c6:=X1 (Pr.Stp.refl x.o.le)
   have Q3:=X1 (Q0 V.o)
   go_wp2_with fail
   refine Q3.o.mono ?_
   rintro e3 w3 ⟨rfl,v3,f,k⟩
   have L:=X1 f
   have N:=X1 (U.o.trans k)
   have u:=X1 (x.o.name (sz:=sz))
   have b5:=X1 (c6.o.name (sz:=sz))
   clear f k Q3
   have Q4:=X1 (Yc L.o [61] #[61] rfl)
   go_wp2_with fail
   refine Q4.o.mono ?_
   rintro e4 w4 ⟨rfl,v4,i,j⟩
   have A:=X1 i
   have F:=X1 (N.o.trans j)
   have c:=X1 (u.o.need (sz:=sz) [61])
   have J:=X1 (b5.o.need (sz:=sz) [61])
   clear i j Q4
   have Q5:=X1 (ihE _ J.o.ge c.o.le _ _ A.o (c.o.phi (by first | omega | (simp only [X6];omega)) h0 hN))
   go_wp2_with fail
   refine Q5.o.mono ?_
   rintro e5 w5 ⟨r5,rfl,a6,v5,O,W⟩
   have f5:=X1 a6
   have I:=X1 O
   have S:=X1 (F.o.trans W)
   have B:=X1 (c.o.trans (a6.stp c.o.le))
   have d0:=X1 (J.o.trans (a6.stp J.o.le))
   clear a6 O W Q5
   have Q6:=X1 (XR I.o (B.o.len (by first | omega | (simp only [X6];omega)) h0 hN) 21 0 0 (Xd ts sz (X7 s)) 1)
   go_wp2_with fail
   refine Q6.o.mono ?_
   rintro e6 w6 ⟨rfl,v6,g,d⟩
   have H:=X1 g
   have M:=X1 (S.o.trans d)
   have a7:=X1 (B.o.put 21 0 0 (Xd ts sz (X7 s)) 1)
   have f0:=X1 (d0.o.put 21 0 0 (Xd ts sz (X7 s)) 1)
   clear g d Q6
   have Q7:=X1 (Yc H.o [59] #[59] rfl)
   go_wp2_with fail
   refine Q7.o.mono ?_
   rintro e7 w7 ⟨rfl,v7,e8,e0⟩
   have g0:=X1 e8
   have f6:=X1 (M.o.trans e0)
   have HS7:=X1 (a7.o.need (sz:=sz) [59])
   have HA7:=X1 (f0.o.need (sz:=sz) [59])
   clear e8 e0 Q7
   go_wp2
   (first | go_end0 | refine bodyPost_ret (results_none rfl _ _ _) rfl ?_)
   exact ⟨(_,0),rfl,Pr.Cv.st_let i0 i1 f5.o,v7,g0.o,f6.o⟩
 ·go_enter Tryz.func59,Tryz.ntmps59
  have Q1:=X1 (YC c4.o ZM #[100,101,102] rfl i0)
  go_wp2_with fail
  refine Q1.o.mono ?_
  rintro e1 w1 ⟨rfl,v1,a,m⟩
  have Q:=X1 a
  have P:=X1 (c7.o.trans m)
  have C:=X1 (c5.o.adv i0)
  clear a m Q1
  have HA1:=X1 (Pr.Stp.refl C.o.le)
  have Q2:=X1 (Q0 Q.o)
  go_wp2_with fail
  refine Q2.o.mono ?_
  rintro e2 w2 ⟨rfl,v2,l,r⟩
  have V:=X1 l
  have U:=X1 (P.o.trans r)
  have x:=X1 (C.o.name (sz:=sz))
  have c6:=X1 (HA1.o.name (sz:=sz))
  clear l r Q2
  have hal:=c6.o.le
  have Q3:=X1 (ihP _ c6.o.ge x.o.le _ _ V.o (x.o.phi (by first | omega | (simp only [X6];omega)) h0 hN))
  go_wp2_with fail
  refine Q3.o.mono ?_
  rintro e3 w3 ⟨r3,rfl,e9,v3,f,k⟩
  have HC3:=X1 e9
  have L:=X1 f
  have N:=X1 (U.o.trans k)
  have u:=X1 (x.o.trans (e9.stp x.o.le))
  have b5:=X1 (c6.o.trans (e9.stp c6.o.le))
  clear e9 f k Q3
  have hn1:=HC3.o.num rfl hal
  have hl1:=u.o.le
  simp only [YE] at hn1
  unfold Ki
  have Q4:=X1 (Yc L.o [61] #[61] rfl)
  go_wp2_with fail
  refine Q4.o.mono ?_
  rintro e4 w4 ⟨rfl,v4,i,j⟩
  have A:=X1 i
  have F:=X1 (N.o.trans j)
  have c:=X1 (u.o.need (sz:=sz) [61])
  have J:=X1 (b5.o.need (sz:=sz) [61])
  clear i j Q4
  have Q5:=X1 (ihE _ J.o.ge c.o.le _ _ A.o (c.o.phi (by first | omega | (simp only [X6];omega)) h0 hN))
  go_wp2_with fail
  refine Q5.o.mono ?_
  rintro e5 w5 ⟨r5,rfl,a6,v5,O,W⟩
  have f5:=X1 a6
  have I:=X1 O
  have S:=X1 (F.o.trans W)
  have B:=X1 (c.o.trans (a6.stp c.o.le))
  have d0:=X1 (J.o.trans (a6.stp J.o.le))
  clear a6 O W Q5
  have Q6:=X1 (XR I.o (B.o.len (by first | omega | (simp only [X6];omega)) h0 hN) 20 0 0 (Xd ts sz (X7 s)) (r3.2+1))
  go_wp2_with fail
  refine Q6.o.mono ?_
  rintro e6 w6 ⟨rfl,v6,g,d⟩
  have H:=X1 g
  have M:=X1 (S.o.trans d)
  have a7:=X1 (B.o.put 20 0 0 (Xd ts sz (X7 s)) (r3.2+1))
  have f0:=X1 (d0.o.put 20 0 0 (Xd ts sz (X7 s)) (r3.2+1))
  clear g d Q6
  have Q7:=X1 (Yc H.o [59] #[59] rfl)
  go_wp2_with fail
  refine Q7.o.mono ?_
  rintro e7 w7 ⟨rfl,v7,e8,e0⟩
  have g0:=X1 e8
  have f6:=X1 (M.o.trans e0)
  have HS7:=X1 (a7.o.need (sz:=sz) [59])
  have HA7:=X1 (f0.o.need (sz:=sz) [59])
  clear e8 e0 Q7
  go_wp2
  (first | go_end0 | refine bodyPost_ret (results_none rfl _ _ _) rfl ?_)
  exact ⟨(_,0),rfl,Pr.Cv.st_def i0 HC3.o f5.o,v7,g0.o,f6.o⟩
end Go.Proofs.YtimbaebigjjkaaaGreatDoor
