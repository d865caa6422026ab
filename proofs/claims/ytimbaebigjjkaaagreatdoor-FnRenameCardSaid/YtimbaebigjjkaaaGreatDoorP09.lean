/- Hn. -/
import Derived.Test.YtimbaebigjjkaaaGreatDoorP08
import Derived.Test.YtimbaebigjjkaaaGreatDoorP06
namespace Go.Proofs.YtimbaebigjjkaaaGreatDoor
open Go.RowKit
theorem Pr.Cv.record_okN {ts:List Sc.T} {sz:Nat} {s q:Pr.Dk} {m:Nat} (h:Pr.Cv ts sz (.recordL 0) s (q,2 * m)):Pr.Cv ts sz .record s (Xj (Xr ts sz q [125]) 9 0 0 [] m,0):=by
 have:=Pr.Cv.record_ok (by simp) h
 simpa using this
theorem Pr.Cv.record_badN {ts:List Sc.T} {sz:Nat} {s q:Pr.Dk} {m:Nat} (h:Pr.Cv ts sz (.recordL 0) s (q,2 * m+1)):Pr.Cv ts sz .record s (q,0):=Pr.Cv.record_bad (by simp) h
set_option maxRecDepth 100000 in
set_option maxHeartbeats 8000000 in
theorem record_says {b tg tc:Nat} {ts:List Sc.T} {sz:Nat} {s:Pr.Dk} (ihE:∀ q:Pr.Dk,s.p≤q.p→q.p≤ts.length→Pr.SE b tg tc ts sz q):Pr.SR b tg tc ts sz s:=by
 intro v0 w0 g9 hN
 have h0:=g9.le
 have hm:=g9.most
 have HD0:=X1 g9
 have HG0:=X1 (Pr.Gr.refl b v0 w0)
 have HS0:=X1 (Pr.Stp.refl h0)
 clear g9
 go_enter Tryz.func126,Tryz.ntmps126
 go_wp2_with fail
 go_loopw [2] (fun t wr=>∃ (n:Nat) (q:Pr.Dk) (vq:Value),t = .int .i64 n∧n≤q.p∧DK b tg tc ts sz vq q wr∧Pr.Gr b v0 vq w0 wr∧Pr.Stp ts s q 0∧∀ r2,Pr.Cv ts sz (.recordL n) q r2→Pr.Cv ts sz (.recordL 0) s r2) (fun _ wr=>XQ b ts wr)
 case atStart=>exact ⟨0,s,v0,rfl,Nat.zero_le _,HD0.o,HG0.o,HS0.o,fun _ h=>h⟩
 case round =>
  obtain ⟨n,q,f5,rfl,hnp,d7,g2,g3,g7⟩:=hrel
  have c3:=d7.c3
  have hle:=d7.le
  have I:=X1 d7
  have c4:=X1 g2
  have X:=X1 g3
  have Q:=X1 g7
  clear d7 g2 g3 g7
  cases hbad:q.bad
  ·rw [hbad] at c3
   by_cases hn:n=0
   ·subst hn
    cases i0:Xa ts sz q [125]
    ·have d8:=X1 (isN I.o [125] #[125] rfl i0)
     go_wp2_with fail
     refine d8.o.mono ?_
     rintro e11 a2 ⟨rfl,d9,b5,b3⟩
     have l:=X1 b5
     have M:=X1 (c4.o.trans b3)
     have r:=X1 (X.o)
     clear b5 b3 d8
     have hg:((0:Nat) == 0 && Xa ts sz q [125])=false:=by rw [i0];rfl
     have a3:=X1 (Pr.Stp.refl r.o.le)
     by_cases k1:(X3 ts sz q).kind=1
     ·have hk:(((X3 ts sz q).kind:Nat):Int)=1:=by omega
      have hp:q.p < ts.length:=YY (sz:=sz) (by omega)
      have t1:((X3 ts sz q).kind == 1 || (X3 ts sz q).kind == 4)=true:=by simp [k1]
      have HT:=X1 (Zv l.o)
      go_wp2_with fail
      refine HT.o.mono ?_
      rintro e P ⟨rfl,B⟩
      unfold Yf
      rw [hk]
      have hz:=B.size
      have F:=l.o.below B
      have bA:=(Below.refl P.heap.size P).alloc (Nat.le_refl _) (tokO 1 (X3 ts sz q))
      have N:=F.below bA
      have c7:=F.lt
      have c2:=N.c2
      have f2:=N.fr 2
      have d5:=N.adv hp
      have c5:d9.ownBlock≠some P.heap.size:=fun e=>by have:=(F.own e).2;omega
      have d2:P.heap.size≠b:=by omega
      have d4:P.heap.size < ((P.alloc (tokO 1 (X3 ts sz q))).setCell ⟨b,2,none⟩ (.int .i64 ((q.p:Int)+1))).heap.size:=by simp
      obtain ⟨y0,y1,y2⟩:=KZ P b (.int .i64 ((q.p:Int)+1)) 1 (X3 ts sz q) (by omega)
      have y:=X1 d5
      have b6:=X1 (Pr.Gr.refl b d9 ((P.alloc (tokO 1 (X3 ts sz q))).setCell ⟨b,2,none⟩ (.int .i64 ((q.p:Int)+1))))
      have u:=X1 (((M.o.trans (.below B)).trans (.below bA)).trans (.set d9 _ b 2 (.int .i64 ((q.p:Int)+1))))
      have f:=X1 (r.o.advL hp)
      have D:=X1 (a3.o.advL hp)
      have e5:=X1 y1
      have e8:=X1 d4
      have e3:=X1 d2
      have f1:=X1 c5
      clear B bA N d5 F HT y1 d4 d2 c5 c7 hz
      have h3:Hid True:=X1 trivial
      have b1:=X1 (Yc y.o [58] #[58] rfl)
      go_wp2_with fail
      refine b1.o.mono ?_
      rintro g5 f7 ⟨rfl,f4,k,d⟩
      have a0:=X1 k
      have Y:=X1 (u.o.trans d)
      have j:=X1 (f.o.need (sz:=sz) [58])
      have O:=X1 (D.o.need (sz:=sz) [58])
      have a5:=X1 (b6.o.trans d)
      clear k d b1
      have c6:=X1 (ihE _ (Nat.le_trans X.o.ge O.o.ge) j.o.le _ _ a0.o (j.o.phi (by first | omega | (simp only [X6];omega)) h0 hN))
      go_wp2_with fail
      refine c6.o.mono ?_
      rintro h1 h9 ⟨g1,rfl,a9,h5,U,v⟩
      have d0:=X1 a9
      have a7:=X1 U
      have b0:=X1 (Y.o.trans v)
      have a1:=X1 (j.o.trans (a9.stp j.o.le))
      have L:=X1 (O.o.trans (a9.stp O.o.le))
      have Z:=X1 (a5.o.trans v)
      clear a9 U v c6
      have y1:=(Z.o.cell e8.o e3.o f1.o 1).trans e5.o
      have b2:=X1 (XR a7.o (a1.o.len (by first | omega | (simp only [X6];omega)) h0 hN) 17 0 0 (X3 ts sz q).text 1)
      go_wp2_with fail
      refine b2.o.mono ?_
      rintro f9 e9 ⟨rfl,e0,g,c⟩
      have A:=X1 g
      have K:=X1 (b0.o.trans c)
      have E:=X1 (a1.o.put 17 0 0 (X3 ts sz q).text 1)
      have x:=X1 (L.o.put 17 0 0 (X3 ts sz q).text 1)
      have V:=X1 (Z.o.trans c)
      clear g c b2
      cases ic:Xa ts sz (Xj g1.1 17 0 0 (X3 ts sz q).text 1) [44]
      ·have b4:=X1 (XU A.o [44] #[44] rfl ic)
       go_wp2_with fail
       refine b4.o.mono ?_
       rintro g4 e1 ⟨rfl,f3,i,a⟩
       have J:=X1 i
       have S:=X1 (K.o.trans a)
       have H:=X1 (E.o)
       have a6:=X1 (x.o)
       have a4:=X1 (V.o.trans a)
       clear i a b4
       have c8:=X1 (Yc J.o [125] #[125] rfl)
       go_wp2_with fail
       refine c8.o.mono ?_
       rintro h8 h6 ⟨rfl,g6,W,z⟩
       have b8:=X1 W
       have b9:=X1 (S.o.trans z)
       have c0:=X1 (H.o.need (sz:=sz) [125])
       have c9:=X1 (a6.o.need (sz:=sz) [125])
       have d6:=X1 (a4.o.trans z)
       clear W z c8
       have g0:=X1 (XR b8.o (c0.o.len (by first | omega | (simp only [X6];omega)) h0 hN) 9 0 0 [] (0+1))
       go_wp2_with fail
       refine g0.o.mono ?_
       rintro e18 w18 ⟨rfl,h2,d1,b7⟩
       have e7:=X1 d1
       have e4:=X1 (b9.o.trans b7)
       have h4:=X1 (c0.o.put 9 0 0 [] (0+1))
       have i1:=X1 (c9.o.put 9 0 0 [] (0+1))
       have h7:=X1 (d6.o.trans b7)
       clear d1 b7 g0
       go_wp2
       (first | go_end0 | refine bodyPost_ret (results_none rfl _ _ _) rfl ?_)
       exact ⟨(_,0),rfl,Pr.Cv.record_okN (Q.o _ (Pr.Cv.recordL_last hbad hg t1 ic d0.o)),h2,e7.o,e4.o⟩
      ·have b4:=X1 (YC A.o [44] #[44] rfl ic)
       go_wp2_with fail
       refine b4.o.mono ?_
       rintro g4 e1 ⟨rfl,f3,i,a⟩
       have J:=X1 i
       have S:=X1 (K.o.trans a)
       have H:=X1 (E.o.adv ic)
       have a6:=X1 (x.o.adv ic)
       have a4:=X1 (V.o.trans a)
       clear i a b4
       have HM:=X1 (show XQ b ts e1 < XQ b ts wr from by rw [J.o.left,I.o.left];have:=x.o.ge;have:=XG ic;rw [Pr.adv_p] at *;omega)
       have f0:=X1 (show 0+1≤(X7 (Xj g1.1 17 0 0 (X3 ts sz q).text 1)).p from by have:=x.o.ge;rw [Pr.adv_p] at *;omega)
       go_wp2
       go_roundw
       case rel=>exact ⟨0+1,_,f3,by go_num,f0.o,J.o,S.o,H.o.mono (by first | omega | (simp only [X6];omega)),fun r2 h=>Q.o _ (Pr.Cv.recordL_go hbad hg t1 ic d0.o h)⟩
       case measure=>exact HM.o
     ·by_cases k4:(X3 ts sz q).kind=4
      ·have hk:(((X3 ts sz q).kind:Nat):Int)=4:=by omega
       have hp:q.p < ts.length:=YY (sz:=sz) (by omega)
       have t1:((X3 ts sz q).kind == 1 || (X3 ts sz q).kind == 4)=true:=by simp [k4]
       have HT:=X1 (Zv l.o)
       go_wp2_with fail
       refine HT.o.mono ?_
       rintro e P ⟨rfl,B⟩
       unfold Yf
       rw [hk]
       have hz:=B.size
       have F:=l.o.below B
       have bA:=(Below.refl P.heap.size P).alloc (Nat.le_refl _) (tokO 4 (X3 ts sz q))
       have N:=F.below bA
       have c7:=F.lt
       have c2:=N.c2
       have f2:=N.fr 2
       have d5:=N.adv hp
       have c5:d9.ownBlock≠some P.heap.size:=fun e=>by have:=(F.own e).2;omega
       have d2:P.heap.size≠b:=by omega
       have d4:P.heap.size < ((P.alloc (tokO 4 (X3 ts sz q))).setCell ⟨b,2,none⟩ (.int .i64 ((q.p:Int)+1))).heap.size:=by simp
       obtain ⟨y0,y1,y2⟩:=KZ P b (.int .i64 ((q.p:Int)+1)) 4 (X3 ts sz q) (by omega)
       have y:=X1 d5
       have b6:=X1 (Pr.Gr.refl b d9 ((P.alloc (tokO 4 (X3 ts sz q))).setCell ⟨b,2,none⟩ (.int .i64 ((q.p:Int)+1))))
       have u:=X1 (((M.o.trans (.below B)).trans (.below bA)).trans (.set d9 _ b 2 (.int .i64 ((q.p:Int)+1))))
       have f:=X1 (r.o.advL hp)
       have D:=X1 (a3.o.advL hp)
       have e5:=X1 y1
       have e8:=X1 d4
       have e3:=X1 d2
       have f1:=X1 c5
       clear B bA N d5 F HT y1 d4 d2 c5 c7 hz
       have h3:Hid True:=X1 trivial
       have b1:=X1 (Yc y.o [58] #[58] rfl)
       go_wp2_with fail
       refine b1.o.mono ?_
       rintro g5 f7 ⟨rfl,f4,k,d⟩
       have a0:=X1 k
       have Y:=X1 (u.o.trans d)
       have j:=X1 (f.o.need (sz:=sz) [58])
       have O:=X1 (D.o.need (sz:=sz) [58])
       have a5:=X1 (b6.o.trans d)
       clear k d b1
       have c6:=X1 (ihE _ (Nat.le_trans X.o.ge O.o.ge) j.o.le _ _ a0.o (j.o.phi (by first | omega | (simp only [X6];omega)) h0 hN))
       go_wp2_with fail
       refine c6.o.mono ?_
       rintro h1 h9 ⟨g1,rfl,a9,h5,U,v⟩
       have d0:=X1 a9
       have a7:=X1 U
       have b0:=X1 (Y.o.trans v)
       have a1:=X1 (j.o.trans (a9.stp j.o.le))
       have L:=X1 (O.o.trans (a9.stp O.o.le))
       have Z:=X1 (a5.o.trans v)
       clear a9 U v c6
       have y1:=(Z.o.cell e8.o e3.o f1.o 1).trans e5.o
       have b2:=X1 (XR a7.o (a1.o.len (by first | omega | (simp only [X6];omega)) h0 hN) 17 0 0 (X3 ts sz q).text 1)
       go_wp2_with fail
       refine b2.o.mono ?_
       rintro f9 e9 ⟨rfl,e0,g,c⟩
       have A:=X1 g
       have K:=X1 (b0.o.trans c)
       have E:=X1 (a1.o.put 17 0 0 (X3 ts sz q).text 1)
       have x:=X1 (L.o.put 17 0 0 (X3 ts sz q).text 1)
       have V:=X1 (Z.o.trans c)
       clear g c b2
       cases ic:Xa ts sz (Xj g1.1 17 0 0 (X3 ts sz q).text 1) [44]
       ·have b4:=X1 (XU A.o [44] #[44] rfl ic)
        go_wp2_with fail
        refine b4.o.mono ?_
        rintro g4 e1 ⟨rfl,f3,i,a⟩
        have J:=X1 i
        have S:=X1 (K.o.trans a)
        have H:=X1 (E.o)
        have a6:=X1 (x.o)
        have a4:=X1 (V.o.trans a)
        clear i a b4
        have c8:=X1 (Yc J.o [125] #[125] rfl)
        go_wp2_with fail
        refine c8.o.mono ?_
        rintro h8 h6 ⟨rfl,g6,W,z⟩
        have b8:=X1 W
        have b9:=X1 (S.o.trans z)
        have c0:=X1 (H.o.need (sz:=sz) [125])
        have c9:=X1 (a6.o.need (sz:=sz) [125])
        have d6:=X1 (a4.o.trans z)
        clear W z c8
        have g0:=X1 (XR b8.o (c0.o.len (by first | omega | (simp only [X6];omega)) h0 hN) 9 0 0 [] (0+1))
        go_wp2_with fail
        refine g0.o.mono ?_
        rintro e18 w18 ⟨rfl,h2,d1,b7⟩
        have e7:=X1 d1
        have e4:=X1 (b9.o.trans b7)
        have h4:=X1 (c0.o.put 9 0 0 [] (0+1))
        have i1:=X1 (c9.o.put 9 0 0 [] (0+1))
        have h7:=X1 (d6.o.trans b7)
        clear d1 b7 g0
        go_wp2
        (first | go_end0 | refine bodyPost_ret (results_none rfl _ _ _) rfl ?_)
        exact ⟨(_,0),rfl,Pr.Cv.record_okN (Q.o _ (Pr.Cv.recordL_last hbad hg t1 ic d0.o)),h2,e7.o,e4.o⟩
       ·have b4:=X1 (YC A.o [44] #[44] rfl ic)
        go_wp2_with fail
        refine b4.o.mono ?_
        rintro g4 e1 ⟨rfl,f3,i,a⟩
        have J:=X1 i
        have S:=X1 (K.o.trans a)
        have H:=X1 (E.o.adv ic)
        have a6:=X1 (x.o.adv ic)
        have a4:=X1 (V.o.trans a)
        clear i a b4
        have HM:=X1 (show XQ b ts e1 < XQ b ts wr from by rw [J.o.left,I.o.left];have:=x.o.ge;have:=XG ic;rw [Pr.adv_p] at *;omega)
        have f0:=X1 (show 0+1≤(X7 (Xj g1.1 17 0 0 (X3 ts sz q).text 1)).p from by have:=x.o.ge;rw [Pr.adv_p] at *;omega)
        go_wp2
        go_roundw
        case rel=>exact ⟨0+1,_,f3,by go_num,f0.o,J.o,S.o,H.o.mono (by first | omega | (simp only [X6];omega)),fun r2 h=>Q.o _ (Pr.Cv.recordL_go hbad hg t1 ic d0.o h)⟩
        case measure=>exact HM.o
      ·have m1:¬ (((X3 ts sz q).kind:Nat):Int)=1:=by omega
       have m4:¬ (((X3 ts sz q).kind:Nat):Int)=4:=by omega
       have m1b:((((X3 ts sz q).kind:Nat):Int) != 1)=true:=by simpa using m1
       have m4b:((((X3 ts sz q).kind:Nat):Int) != 4)=true:=by simpa using m4
       have m1c:((((X3 ts sz q).kind:Nat):Int) == 1)=false:=by simpa using m1
       have m4c:((((X3 ts sz q).kind:Nat):Int) == 4)=false:=by simpa using m4
       have t1:((X3 ts sz q).kind == 1 || (X3 ts sz q).kind == 4)=false:=by simp [k1,k4]
       have HT:=X1 (Zv l.o)
       go_wp2_with fail
       refine HT.o.mono ?_
       rintro e P ⟨rfl,B⟩
       unfold Yf
       have hz:=B.size
       have F:=l.o.below B
       have bA:=(Below.refl P.heap.size P).alloc (Nat.le_refl _) (tokO (((X3 ts sz q).kind:Nat):Int) (X3 ts sz q))
       have N:=F.below bA
       have c7:=F.lt
       have y:=X1 N
       have u:=X1 ((M.o.trans (.below B)).trans (.below bA))
       have f:=r
       have D:=a3
       clear B bA N F HT c7 hz
       have b1:=X1 (stopW y.o)
       go_wp2_with fail
       refine b1.o.mono ?_
       rintro g5 f7 ⟨rfl,f4,k,d⟩
       have a0:=X1 k
       have Y:=X1 (u.o.trans d)
       have j:=X1 (f.o.stop (sz:=sz))
       have O:=X1 (D.o.stop (sz:=sz))
       clear k d b1
       go_wp2
       (first | go_end0 | refine bodyPost_ret (results_none rfl _ _ _) rfl ?_)
       exact ⟨(_,0),rfl,Pr.Cv.record_badN (Q.o _ (Pr.Cv.recordL_stop hbad hg t1)),f4,a0.o,Y.o⟩
    ·have d8:=X1 (isY I.o [125] #[125] rfl i0)
     go_wp2_with fail
     refine d8.o.mono ?_
     rintro e11 a2 ⟨rfl,d9,b5,b3⟩
     have l:=X1 b5
     have M:=X1 (c4.o.trans b3)
     have r:=X1 (X.o)
     clear b5 b3 d8
     have c1:=X1 (Yc l.o [125] #[125] rfl)
     go_wp2_with fail
     refine c1.o.mono ?_
     rintro g8 P ⟨rfl,f6,C,m⟩
     have y:=X1 C
     have u:=X1 (M.o.trans m)
     have f:=X1 (r.o.need (sz:=sz) [125])
     clear C m c1
     have b1:=X1 (XR y.o (f.o.len (by first | omega | (simp only [X6];omega)) h0 hN) 9 0 0 [] (0))
     go_wp2_with fail
     refine b1.o.mono ?_
     rintro g5 f7 ⟨rfl,f4,k,d⟩
     have a0:=X1 k
     have Y:=X1 (u.o.trans d)
     have j:=X1 (f.o.put 9 0 0 [] (0))
     clear k d b1
     go_wp2
     (first | go_end0 | refine bodyPost_ret (results_none rfl _ _ _) rfl ?_)
     exact ⟨(_,0),rfl,Pr.Cv.record_okN (Q.o _ (Pr.Cv.recordL_end hbad i0)),f4,a0.o,Y.o⟩
   ·have hn0:0 < (n:Int):=by omega
    have hg:(n == 0 && Xa ts sz q [125])=false:=by simp [hn]
    have e2:=X1 (Pr.Stp.refl X.o.le)
    by_cases k1:(X3 ts sz q).kind=1
    ·have hk:(((X3 ts sz q).kind:Nat):Int)=1:=by omega
     have hp:q.p < ts.length:=YY (sz:=sz) (by omega)
     have t1:((X3 ts sz q).kind == 1 || (X3 ts sz q).kind == 4)=true:=by simp [k1]
     have HT:=X1 (Zv I.o)
     go_wp2_with fail
     refine HT.o.mono ?_
     rintro e a2 ⟨rfl,B⟩
     unfold Yf
     rw [hk]
     have hz:=B.size
     have F:=I.o.below B
     have bA:=(Below.refl a2.heap.size a2).alloc (Nat.le_refl _) (tokO 1 (X3 ts sz q))
     have N:=F.below bA
     have c7:=F.lt
     have c2:=N.c2
     have f2:=N.fr 2
     have d5:=N.adv hp
     have c5:f5.ownBlock≠some a2.heap.size:=fun e=>by have:=(F.own e).2;omega
     have d2:a2.heap.size≠b:=by omega
     have d4:a2.heap.size < ((a2.alloc (tokO 1 (X3 ts sz q))).setCell ⟨b,2,none⟩ (.int .i64 ((q.p:Int)+1))).heap.size:=by simp
     obtain ⟨y0,y1,y2⟩:=KZ a2 b (.int .i64 ((q.p:Int)+1)) 1 (X3 ts sz q) (by omega)
     have l:=X1 d5
     have e6:=X1 (Pr.Gr.refl b f5 ((a2.alloc (tokO 1 (X3 ts sz q))).setCell ⟨b,2,none⟩ (.int .i64 ((q.p:Int)+1))))
     have M:=X1 (((c4.o.trans (.below B)).trans (.below bA)).trans (.set f5 _ b 2 (.int .i64 ((q.p:Int)+1))))
     have r:=X1 (X.o.advL hp)
     have a3:=X1 (e2.o.advL hp)
     have e5:=X1 y1
     have e8:=X1 d4
     have e3:=X1 d2
     have f1:=X1 c5
     clear B bA N d5 F HT y1 d4 d2 c5 c7 hz
     have h3:Hid True:=X1 trivial
     have c1:=X1 (Yc l.o [58] #[58] rfl)
     go_wp2_with fail
     refine c1.o.mono ?_
     rintro g8 P ⟨rfl,f6,C,m⟩
     have y:=X1 C
     have u:=X1 (M.o.trans m)
     have f:=X1 (r.o.need (sz:=sz) [58])
     have D:=X1 (a3.o.need (sz:=sz) [58])
     have b6:=X1 (e6.o.trans m)
     clear C m c1
     have b1:=X1 (ihE _ (Nat.le_trans X.o.ge D.o.ge) f.o.le _ _ y.o (f.o.phi (by first | omega | (simp only [X6];omega)) h0 hN))
     go_wp2_with fail
     refine b1.o.mono ?_
     rintro g5 f7 ⟨f8,rfl,a8,f4,k,d⟩
     have d3:=X1 a8
     have a0:=X1 k
     have Y:=X1 (u.o.trans d)
     have j:=X1 (f.o.trans (a8.stp f.o.le))
     have O:=X1 (D.o.trans (a8.stp D.o.le))
     have a5:=X1 (b6.o.trans d)
     clear a8 k d b1
     have y1:=(a5.o.cell e8.o e3.o f1.o 1).trans e5.o
     have c6:=X1 (XR a0.o (j.o.len (by first | omega | (simp only [X6];omega)) h0 hN) 17 0 0 (X3 ts sz q).text 1)
     go_wp2_with fail
     refine c6.o.mono ?_
     rintro h1 h9 ⟨rfl,h5,U,v⟩
     have a7:=X1 U
     have b0:=X1 (Y.o.trans v)
     have a1:=X1 (j.o.put 17 0 0 (X3 ts sz q).text 1)
     have L:=X1 (O.o.put 17 0 0 (X3 ts sz q).text 1)
     have Z:=X1 (a5.o.trans v)
     clear U v c6
     cases ic:Xa ts sz (Xj f8.1 17 0 0 (X3 ts sz q).text 1) [44]
     ·have b2:=X1 (XU a7.o [44] #[44] rfl ic)
      go_wp2_with fail
      refine b2.o.mono ?_
      rintro f9 e9 ⟨rfl,e0,g,c⟩
      have A:=X1 g
      have K:=X1 (b0.o.trans c)
      have E:=X1 (a1.o)
      have x:=X1 (L.o)
      have V:=X1 (Z.o.trans c)
      clear g c b2
      have b4:=X1 (Yc A.o [125] #[125] rfl)
      go_wp2_with fail
      refine b4.o.mono ?_
      rintro g4 e1 ⟨rfl,f3,i,a⟩
      have J:=X1 i
      have S:=X1 (K.o.trans a)
      have H:=X1 (E.o.need (sz:=sz) [125])
      have a6:=X1 (x.o.need (sz:=sz) [125])
      have a4:=X1 (V.o.trans a)
      clear i a b4
      have c8:=X1 (XR J.o (H.o.len (by first | omega | (simp only [X6];omega)) h0 hN) 9 0 0 [] (n+1))
      go_wp2_with fail
      refine c8.o.mono ?_
      rintro h8 h6 ⟨rfl,g6,W,z⟩
      have b8:=X1 W
      have b9:=X1 (S.o.trans z)
      have c0:=X1 (H.o.put 9 0 0 [] (n+1))
      have c9:=X1 (a6.o.put 9 0 0 [] (n+1))
      have d6:=X1 (a4.o.trans z)
      clear W z c8
      go_wp2
      (first | go_end0 | refine bodyPost_ret (results_none rfl _ _ _) rfl ?_)
      exact ⟨(_,0),rfl,Pr.Cv.record_okN (Q.o _ (Pr.Cv.recordL_last hbad hg t1 ic d3.o)),g6,b8.o,b9.o⟩
     ·have b2:=X1 (YC a7.o [44] #[44] rfl ic)
      go_wp2_with fail
      refine b2.o.mono ?_
      rintro f9 e9 ⟨rfl,e0,g,c⟩
      have A:=X1 g
      have K:=X1 (b0.o.trans c)
      have E:=X1 (a1.o.adv ic)
      have x:=X1 (L.o.adv ic)
      have V:=X1 (Z.o.trans c)
      clear g c b2
      have HM:=X1 (show XQ b ts e9 < XQ b ts wr from by rw [A.o.left,I.o.left];have:=L.o.ge;have:=XG ic;rw [Pr.adv_p] at *;omega)
      have f0:=X1 (show n+1≤(X7 (Xj f8.1 17 0 0 (X3 ts sz q).text 1)).p from by have:=L.o.ge;rw [Pr.adv_p] at *;omega)
      go_wp2
      go_roundw
      case rel=>exact ⟨n+1,_,e0,by go_num,f0.o,A.o,K.o,E.o.mono (by first | omega | (simp only [X6];omega)),fun r2 h=>Q.o _ (Pr.Cv.recordL_go hbad hg t1 ic d3.o h)⟩
      case measure=>exact HM.o
    ·by_cases k4:(X3 ts sz q).kind=4
     ·have hk:(((X3 ts sz q).kind:Nat):Int)=4:=by omega
      have hp:q.p < ts.length:=YY (sz:=sz) (by omega)
      have t1:((X3 ts sz q).kind == 1 || (X3 ts sz q).kind == 4)=true:=by simp [k4]
      have HT:=X1 (Zv I.o)
      go_wp2_with fail
      refine HT.o.mono ?_
      rintro e a2 ⟨rfl,B⟩
      unfold Yf
      rw [hk]
      have hz:=B.size
      have F:=I.o.below B
      have bA:=(Below.refl a2.heap.size a2).alloc (Nat.le_refl _) (tokO 4 (X3 ts sz q))
      have N:=F.below bA
      have c7:=F.lt
      have c2:=N.c2
      have f2:=N.fr 2
      have d5:=N.adv hp
      have c5:f5.ownBlock≠some a2.heap.size:=fun e=>by have:=(F.own e).2;omega
      have d2:a2.heap.size≠b:=by omega
      have d4:a2.heap.size < ((a2.alloc (tokO 4 (X3 ts sz q))).setCell ⟨b,2,none⟩ (.int .i64 ((q.p:Int)+1))).heap.size:=by simp
      obtain ⟨y0,y1,y2⟩:=KZ a2 b (.int .i64 ((q.p:Int)+1)) 4 (X3 ts sz q) (by omega)
      have l:=X1 d5
      have e6:=X1 (Pr.Gr.refl b f5 ((a2.alloc (tokO 4 (X3 ts sz q))).setCell ⟨b,2,none⟩ (.int .i64 ((q.p:Int)+1))))
      have M:=X1 (((c4.o.trans (.below B)).trans (.below bA)).trans (.set f5 _ b 2 (.int .i64 ((q.p:Int)+1))))
      have r:=X1 (X.o.advL hp)
      have a3:=X1 (e2.o.advL hp)
      have e5:=X1 y1
      have e8:=X1 d4
      have e3:=X1 d2
      have f1:=X1 c5
      clear B bA N d5 F HT y1 d4 d2 c5 c7 hz
      have h3:Hid True:=X1 trivial
      have c1:=X1 (Yc l.o [58] #[58] rfl)
      go_wp2_with fail
      refine c1.o.mono ?_
      rintro g8 P ⟨rfl,f6,C,m⟩
      have y:=X1 C
      have u:=X1 (M.o.trans m)
      have f:=X1 (r.o.need (sz:=sz) [58])
      have D:=X1 (a3.o.need (sz:=sz) [58])
      have b6:=X1 (e6.o.trans m)
      clear C m c1
      have b1:=X1 (ihE _ (Nat.le_trans X.o.ge D.o.ge) f.o.le _ _ y.o (f.o.phi (by first | omega | (simp only [X6];omega)) h0 hN))
      go_wp2_with fail
      refine b1.o.mono ?_
      rintro g5 f7 ⟨f8,rfl,a8,f4,k,d⟩
      have d3:=X1 a8
      have a0:=X1 k
      have Y:=X1 (u.o.trans d)
      have j:=X1 (f.o.trans (a8.stp f.o.le))
      have O:=X1 (D.o.trans (a8.stp D.o.le))
      have a5:=X1 (b6.o.trans d)
      clear a8 k d b1
      have y1:=(a5.o.cell e8.o e3.o f1.o 1).trans e5.o
      have c6:=X1 (XR a0.o (j.o.len (by first | omega | (simp only [X6];omega)) h0 hN) 17 0 0 (X3 ts sz q).text 1)
      go_wp2_with fail
      refine c6.o.mono ?_
      rintro h1 h9 ⟨rfl,h5,U,v⟩
      have a7:=X1 U
      have b0:=X1 (Y.o.trans v)
      have a1:=X1 (j.o.put 17 0 0 (X3 ts sz q).text 1)
      have L:=X1 (O.o.put 17 0 0 (X3 ts sz q).text 1)
      have Z:=X1 (a5.o.trans v)
      clear U v c6
      cases ic:Xa ts sz (Xj f8.1 17 0 0 (X3 ts sz q).text 1) [44]
      ·have b2:=X1 (XU a7.o [44] #[44] rfl ic)
       go_wp2_with fail
       refine b2.o.mono ?_
       rintro f9 e9 ⟨rfl,e0,g,c⟩
       have A:=X1 g
       have K:=X1 (b0.o.trans c)
       have E:=X1 (a1.o)
       have x:=X1 (L.o)
       have V:=X1 (Z.o.trans c)
       clear g c b2
       have b4:=X1 (Yc A.o [125] #[125] rfl)
       go_wp2_with fail
       refine b4.o.mono ?_
       rintro g4 e1 ⟨rfl,f3,i,a⟩
       have J:=X1 i
       have S:=X1 (K.o.trans a)
       have H:=X1 (E.o.need (sz:=sz) [125])
       have a6:=X1 (x.o.need (sz:=sz) [125])
       have a4:=X1 (V.o.trans a)
       clear i a b4
       have c8:=X1 (XR J.o (H.o.len (by first | omega | (simp only [X6];omega)) h0 hN) 9 0 0 [] (n+1))
       go_wp2_with fail
       refine c8.o.mono ?_
       rintro h8 h6 ⟨rfl,g6,W,z⟩
       have b8:=X1 W
       have b9:=X1 (S.o.trans z)
       have c0:=X1 (H.o.put 9 0 0 [] (n+1))
       have c9:=X1 (a6.o.put 9 0 0 [] (n+1))
       have d6:=X1 (a4.o.trans z)
       clear W z c8
       go_wp2
       (first | go_end0 | refine bodyPost_ret (results_none rfl _ _ _) rfl ?_)
       exact ⟨(_,0),rfl,Pr.Cv.record_okN (Q.o _ (Pr.Cv.recordL_last hbad hg t1 ic d3.o)),g6,b8.o,b9.o⟩
      ·have b2:=X1 (YC a7.o [44] #[44] rfl ic)
       go_wp2_with fail
       refine b2.o.mono ?_
       rintro f9 e9 ⟨rfl,e0,g,c⟩
       have A:=X1 g
       have K:=X1 (b0.o.trans c)
       have E:=X1 (a1.o.adv ic)
       have x:=X1 (L.o.adv ic)
       have V:=X1 (Z.o.trans c)
       clear g c b2
       have HM:=X1 (show XQ b ts e9 < XQ b ts wr from by rw [A.o.left,I.o.left];have:=L.o.ge;have:=XG ic;rw [Pr.adv_p] at *;omega)
       have f0:=X1 (show n+1≤(X7 (Xj f8.1 17 0 0 (X3 ts sz q).text 1)).p from by have:=L.o.ge;rw [Pr.adv_p] at *;omega)
       go_wp2
       go_roundw
       case rel=>exact ⟨n+1,_,e0,by go_num,f0.o,A.o,K.o,E.o.mono (by first | omega | (simp only [X6];omega)),fun r2 h=>Q.o _ (Pr.Cv.recordL_go hbad hg t1 ic d3.o h)⟩
       case measure=>exact HM.o
     ·have m1:¬ (((X3 ts sz q).kind:Nat):Int)=1:=by omega
      have m4:¬ (((X3 ts sz q).kind:Nat):Int)=4:=by omega
      have m1b:((((X3 ts sz q).kind:Nat):Int) != 1)=true:=by simpa using m1
      have m4b:((((X3 ts sz q).kind:Nat):Int) != 4)=true:=by simpa using m4
      have m1c:((((X3 ts sz q).kind:Nat):Int) == 1)=false:=by simpa using m1
      have m4c:((((X3 ts sz q).kind:Nat):Int) == 4)=false:=by simpa using m4
      have t1:((X3 ts sz q).kind == 1 || (X3 ts sz q).kind == 4)=false:=by simp [k1,k4]
      have HT:=X1 (Zv I.o)
      go_wp2_with fail
      refine HT.o.mono ?_
      rintro e a2 ⟨rfl,B⟩
      unfold Yf
      have hz:=B.size
      have F:=I.o.below B
      have bA:=(Below.refl a2.heap.size a2).alloc (Nat.le_refl _) (tokO (((X3 ts sz q).kind:Nat):Int) (X3 ts sz q))
      have N:=F.below bA
      have c7:=F.lt
      have l:=X1 N
      have M:=X1 ((c4.o.trans (.below B)).trans (.below bA))
      have r:=X
      have a3:=e2
      clear B bA N F HT c7 hz
      have c1:=X1 (stopW l.o)
      go_wp2_with fail
      refine c1.o.mono ?_
      rintro g8 P ⟨rfl,f6,C,m⟩
      have y:=X1 C
      have u:=X1 (M.o.trans m)
      have f:=X1 (r.o.stop (sz:=sz))
      have D:=X1 (a3.o.stop (sz:=sz))
      clear C m c1
      go_wp2
      (first | go_end0 | refine bodyPost_ret (results_none rfl _ _ _) rfl ?_)
      exact ⟨(_,0),rfl,Pr.Cv.record_badN (Q.o _ (Pr.Cv.recordL_stop hbad hg t1)),f6,y.o,u.o⟩
  ·rw [hbad] at c3
   have d8:=X1 (Yc I.o [125] #[125] rfl)
   go_wp2_with fail
   refine d8.o.mono ?_
   rintro e11 a2 ⟨rfl,d9,b5,b3⟩
   have l:=X1 b5
   have M:=X1 (c4.o.trans b3)
   have r:=X1 (X.o.need (sz:=sz) [125])
   clear b5 b3 d8
   have c1:=X1 (XR l.o (r.o.len (by first | omega | (simp only [X6];omega)) h0 hN) 9 0 0 [] (n))
   go_wp2_with fail
   refine c1.o.mono ?_
   rintro g8 P ⟨rfl,f6,C,m⟩
   have y:=X1 C
   have u:=X1 (M.o.trans m)
   have f:=X1 (r.o.put 9 0 0 [] (n))
   clear C m c1
   go_wp2
   (first | go_end0 | refine bodyPost_ret (results_none rfl _ _ _) rfl ?_)
   exact ⟨(_,0),rfl,Pr.Cv.record_okN (Q.o _ (Pr.Cv.recordL_bad hbad)),f6,y.o,u.o⟩
end Go.Proofs.YtimbaebigjjkaaaGreatDoor
