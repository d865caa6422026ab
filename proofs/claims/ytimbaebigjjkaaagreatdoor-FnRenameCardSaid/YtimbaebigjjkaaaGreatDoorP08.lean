/- Hg. -/
import Derived.Test.YtimbaebigjjkaaaGreatDoorP05
namespace Go.Proofs.YtimbaebigjjkaaaGreatDoor
open Go.RowKit
theorem stopW {b tg tc:Nat} {ts:List Sc.T} {sz:Nat} {v:Value} {s:Pr.Dk} {w:World} (h:DK b tg tc ts sz v s w) :
  Calls Tryz.prog 92 #[.pointer (some ⟨b,0,none⟩)] w fun e w'=>e = .returned (.tuple #[])∧Jt b tg tc ts sz v w (Yt ts sz s) w' :=
 (stop_any h).mono fun _ _ ⟨h1,h2,h3⟩=>⟨h1,v,h2,h3⟩
abbrev tokO (k:Int) (x:Sc.T):Obj:= .cells #[.int .i64 k,.string ⟨x.text.toArray⟩,.int .i64 x.n,.int .i64 x.place] 132
theorem KZ (w:World) (b:Nat) (u:Value) (k:Int) (x:Sc.T) (hb:b < w.heap.size) :
  ((w.alloc (tokO k x)).setCell ⟨b,2,none⟩ u).cell? ⟨w.heap.size,0,none⟩=some (.int .i64 k)∧((w.alloc (tokO k x)).setCell ⟨b,2,none⟩ u).cell? ⟨w.heap.size,1,none⟩=some (.string ⟨x.text.toArray⟩)∧((w.alloc (tokO k x)).setCell ⟨b,2,none⟩ u).cell? ⟨w.heap.size,2,none⟩=some (.int .i64 x.n):=by
 have e:∀ j,((w.alloc (tokO k x)).setCell ⟨b,2,none⟩ u).cell? ⟨w.heap.size,j,none⟩=(w.alloc (tokO k x)).cell? ⟨w.heap.size,j,none⟩:=fun j=>World.cell?_setCell_other _ _ _ _ (fun e=>by have:=congrArg Addr.block e;simp at this;omega)
 refine ⟨(e 0).trans ?_,(e 1).trans ?_,(e 2).trans ?_⟩ <;> simp [tokO]
set_option maxRecDepth 100000 in
set_option maxHeartbeats 2000000 in
theorem single_says {b tg tc:Nat} {ts:List Sc.T} {sz:Nat} {s:Pr.Dk} (ihE:∀ q:Pr.Dk,s.p < q.p→q.p≤ts.length→Pr.SE b tg tc ts sz q) (ihL:∀ q:Pr.Dk,s.p < q.p→q.p≤ts.length→Pr.SL b tg tc ts sz q) (ihR:∀ q:Pr.Dk,s.p < q.p→q.p≤ts.length→Pr.SR b tg tc ts sz q):Pr.SI b tg tc ts sz s:=by
 intro v0 w0 X hN
 have h0:=X.le
 have hm:=X.most
 have HT:=X1 (Zv X)
 have H:=X1 X
 have HG0:=X1 (Pr.Gr.refl b v0 w0)
 have I:=X1 (Pr.Stp.refl h0)
 have hl0:=X.lt
 clear X
 cases hbad:s.bad
 ·by_cases k3:(X3 ts sz s).kind=3
  ·have hk:(((X3 ts sz s).kind:Nat):Int)=3:=by omega
   have hp:s.p < ts.length:=YY (sz:=sz) (by omega)
   have t3:((X3 ts sz s).kind == 3)=true:=by simp [k3]
   go_enter Tryz.func121,Tryz.ntmps121
   go_wp2_with fail
   refine HT.o.mono ?_
   rintro e w1 ⟨rfl,c⟩
   unfold Yf
   rw [hk]
   have hz:=c.size
   have bB:=c.trans (((Below.refl w1.heap.size w1).alloc (Nat.le_refl _) (tokO 3 (X3 ts sz s))).mono hz)
   have a:=H.o.below bB
   have c3:=a.c3
   rw [hbad] at c3
   have c2:=a.c2
   have f2:=a.fr 2
   have Q:=a.adv hp
   obtain ⟨y0,y1,y2⟩:=KZ w1 b (.int .i64 ((s.p:Int)+1)) 3 (X3 ts sz s) (by omega)
   have j:=X1 Q
   have i:=X1 ((Pr.Gr.below (b:=b) (v:=v0) bB).trans (.set v0 _ b 2 (.int .i64 ((s.p:Int)+1))))
   have g:=X1 (I.o.advL hp)
   clear c bB a Q
   have Q2:=X1 (XR j.o (g.o.len (by first | omega | (simp only [X6];omega)) h0 hN) 3 0 ((X3 ts sz s).n:Int) [] 0)
   go_wp2_with fail
   refine Q2.o.mono ?_
   rintro e2 w2 ⟨rfl,v2,d,f⟩
   have r:=X1 d
   have m:=X1 (i.o.trans f)
   have t:=X1 (g.o.put 3 0 ((X3 ts sz s).n:Int) [] 0)
   clear d f Q2
   go_wp2
   (first | go_end0 | refine bodyPost_ret (results_none rfl _ _ _) rfl ?_)
   exact ⟨(_,0),rfl,Pr.Cv.single_int hbad t3,v2,r.o,m.o⟩
  ·by_cases k4:(X3 ts sz s).kind=4
   ·have hk:(((X3 ts sz s).kind:Nat):Int)=4:=by omega
    have hp:s.p < ts.length:=YY (sz:=sz) (by omega)
    have t4:((X3 ts sz s).kind == 4)=true:=by simp [k4]
    have t3:((X3 ts sz s).kind == 3)=false:=by simp [k3]
    go_enter Tryz.func121,Tryz.ntmps121
    go_wp2_with fail
    refine HT.o.mono ?_
    rintro e w1 ⟨rfl,c⟩
    unfold Yf
    rw [hk]
    have hz:=c.size
    have bB:=c.trans (((Below.refl w1.heap.size w1).alloc (Nat.le_refl _) (tokO 4 (X3 ts sz s))).mono hz)
    have a:=H.o.below bB
    have c3:=a.c3
    rw [hbad] at c3
    have c2:=a.c2
    have f2:=a.fr 2
    have Q:=a.adv hp
    obtain ⟨y0,y1,y2⟩:=KZ w1 b (.int .i64 ((s.p:Int)+1)) 4 (X3 ts sz s) (by omega)
    have j:=X1 Q
    have i:=X1 ((Pr.Gr.below (b:=b) (v:=v0) bB).trans (.set v0 _ b 2 (.int .i64 ((s.p:Int)+1))))
    have g:=X1 (I.o.advL hp)
    clear c bB a Q
    have Q2:=X1 (XR j.o (g.o.len (by first | omega | (simp only [X6];omega)) h0 hN) 4 0 0 (X3 ts sz s).text 0)
    go_wp2_with fail
    refine Q2.o.mono ?_
    rintro e2 w2 ⟨rfl,v2,d,f⟩
    have r:=X1 d
    have m:=X1 (i.o.trans f)
    have t:=X1 (g.o.put 4 0 0 (X3 ts sz s).text 0)
    clear d f Q2
    go_wp2
    (first | go_end0 | refine bodyPost_ret (results_none rfl _ _ _) rfl ?_)
    exact ⟨(_,0),rfl,Pr.Cv.single_text hbad t3 t4,v2,r.o,m.o⟩
   ·by_cases k1:(X3 ts sz s).kind=1
    ·have hk:(((X3 ts sz s).kind:Nat):Int)=1:=by omega
     have hp:s.p < ts.length:=YY (sz:=sz) (by omega)
     have t1:((X3 ts sz s).kind == 1)=true:=by simp [k1]
     have t3:((X3 ts sz s).kind == 3)=false:=by simp [k3]
     have t4:((X3 ts sz s).kind == 4)=false:=by simp [k4]
     go_enter Tryz.func121,Tryz.ntmps121
     go_wp2_with fail
     refine HT.o.mono ?_
     rintro e w1 ⟨rfl,c⟩
     unfold Yf
     rw [hk]
     have hz:=c.size
     have bB:=c.trans (((Below.refl w1.heap.size w1).alloc (Nat.le_refl _) (tokO 1 (X3 ts sz s))).mono hz)
     have a:=H.o.below bB
     have c3:=a.c3
     rw [hbad] at c3
     have c2:=a.c2
     have f2:=a.fr 2
     have Q:=a.adv hp
     obtain ⟨y0,y1,y2⟩:=KZ w1 b (.int .i64 ((s.p:Int)+1)) 1 (X3 ts sz s) (by omega)
     have j:=X1 Q
     have i:=X1 ((Pr.Gr.below (b:=b) (v:=v0) bB).trans (.set v0 _ b 2 (.int .i64 ((s.p:Int)+1))))
     have g:=X1 (I.o.advL hp)
     clear c bB a Q
     have Q2:=X1 (XR j.o (g.o.len (by first | omega | (simp only [X6];omega)) h0 hN) 5 0 0 (X3 ts sz s).text 0)
     go_wp2_with fail
     refine Q2.o.mono ?_
     rintro e2 w2 ⟨rfl,v2,d,f⟩
     have r:=X1 d
     have m:=X1 (i.o.trans f)
     have t:=X1 (g.o.put 5 0 0 (X3 ts sz s).text 0)
     clear d f Q2
     go_wp2
     (first | go_end0 | refine bodyPost_ret (results_none rfl _ _ _) rfl ?_)
     exact ⟨(_,0),rfl,Pr.Cv.single_name hbad t3 t4 t1,v2,r.o,m.o⟩
    ·have m3:¬ (((X3 ts sz s).kind:Nat):Int)=3:=by omega
     have m4:¬ (((X3 ts sz s).kind:Nat):Int)=4:=by omega
     have m1:¬ (((X3 ts sz s).kind:Nat):Int)=1:=by omega
     have t3:((X3 ts sz s).kind == 3)=false:=by simp [k3]
     have t4:((X3 ts sz s).kind == 4)=false:=by simp [k4]
     have t1:((X3 ts sz s).kind == 1)=false:=by simp [k1]
     cases i0:Xa ts sz s Zd
     ·cases i1:Xa ts sz s Z8
      ·cases i2:Xa ts sz s ZI
       ·cases i3:Xa ts sz s [91]
        ·cases i4:Xa ts sz s [123]
         ·cases i5:Xa ts sz s [40]
          ·go_enter Tryz.func121,Tryz.ntmps121
           go_wp2_with fail
           refine HT.o.mono ?_
           rintro e w1 ⟨rfl,c⟩
           unfold Yf
           have hz:=c.size
           have bB:=c.trans (((Below.refl w1.heap.size w1).alloc (Nat.le_refl _) (tokO (((X3 ts sz s).kind:Nat):Int) (X3 ts sz s))).mono hz)
           have a:=H.o.below bB
           have c3:=a.c3
           rw [hbad] at c3
           have j:=X1 a
           have i:=X1 (Pr.Gr.below (b:=b) (v:=v0) bB)
           have g:=I
           clear c bB a
           have Q2:=X1 (XU j.o Zd #[110,111,110,101] rfl i0)
           go_wp2_with fail
           refine Q2.o.mono ?_
           rintro e2 w2 ⟨rfl,v2,d,f⟩
           have r:=X1 d
           have m:=X1 (i.o.trans f)
           have t:=X1 (g.o)
           clear d f Q2
           have Q3:=X1 (XU r.o Z8 #[102,97,108,115,101] rfl i1)
           go_wp2_with fail
           refine Q3.o.mono ?_
           rintro e3 w3 ⟨rfl,v3,k,l⟩
           have C:=X1 k
           have B:=X1 (m.o.trans l)
           have z:=X1 (t.o)
           clear k l Q3
           have Q4:=X1 (XU C.o ZI #[116,114,117,101] rfl i2)
           go_wp2_with fail
           refine Q4.o.mono ?_
           rintro e4 w4 ⟨rfl,v4,u,x⟩
           have F:=X1 u
           have K:=X1 (B.o.trans x)
           have D:=X1 (z.o)
           clear u x Q4
           have Q5:=X1 (XU F.o [91] #[91] rfl i3)
           go_wp2_with fail
           refine Q5.o.mono ?_
           rintro e5 w5 ⟨rfl,v5,y,A⟩
           have N:=X1 y
           have O:=X1 (K.o.trans A)
           have E:=X1 (D.o)
           clear y A Q5
           have Q6:=X1 (XU N.o [123] #[123] rfl i4)
           go_wp2_with fail
           refine Q6.o.mono ?_
           rintro e6 w6 ⟨rfl,v6,J,L⟩
           have V:=X1 J
           have W:=X1 (O.o.trans L)
           have M:=X1 (E.o)
           clear J L Q6
           have Q7:=X1 (XU V.o [40] #[40] rfl i5)
           go_wp2_with fail
           refine Q7.o.mono ?_
           rintro e7 w7 ⟨rfl,v7,S,P⟩
           have Z:=X1 S
           have a0:=X1 (W.o.trans P)
           have U:=X1 (M.o)
           clear S P Q7
           have Q8:=X1 (stopW Z.o)
           go_wp2_with fail
           refine Q8.o.mono ?_
           rintro e8 w8 ⟨rfl,v8,a1,Y⟩
           have a8:=X1 a1
           have a9:=X1 (a0.o.trans Y)
           have HS8:=X1 (U.o.stop (sz:=sz))
           clear a1 Y Q8
           go_wp2
           (first | go_end0 | refine bodyPost_ret (results_none rfl _ _ _) rfl ?_)
           exact ⟨(_,0),rfl,Pr.Cv.single_stop hbad t3 t4 t1 i0 i1 i2 i3 i4 i5,v8,a8.o,a9.o⟩
          ·go_enter Tryz.func121,Tryz.ntmps121
           go_wp2_with fail
           refine HT.o.mono ?_
           rintro e w1 ⟨rfl,c⟩
           unfold Yf
           have hz:=c.size
           have bB:=c.trans (((Below.refl w1.heap.size w1).alloc (Nat.le_refl _) (tokO (((X3 ts sz s).kind:Nat):Int) (X3 ts sz s))).mono hz)
           have a:=H.o.below bB
           have c3:=a.c3
           rw [hbad] at c3
           have j:=X1 a
           have i:=X1 (Pr.Gr.below (b:=b) (v:=v0) bB)
           have g:=I
           clear c bB a
           have Q2:=X1 (XU j.o Zd #[110,111,110,101] rfl i0)
           go_wp2_with fail
           refine Q2.o.mono ?_
           rintro e2 w2 ⟨rfl,v2,d,f⟩
           have r:=X1 d
           have m:=X1 (i.o.trans f)
           have t:=X1 (g.o)
           clear d f Q2
           have Q3:=X1 (XU r.o Z8 #[102,97,108,115,101] rfl i1)
           go_wp2_with fail
           refine Q3.o.mono ?_
           rintro e3 w3 ⟨rfl,v3,k,l⟩
           have C:=X1 k
           have B:=X1 (m.o.trans l)
           have z:=X1 (t.o)
           clear k l Q3
           have Q4:=X1 (XU C.o ZI #[116,114,117,101] rfl i2)
           go_wp2_with fail
           refine Q4.o.mono ?_
           rintro e4 w4 ⟨rfl,v4,u,x⟩
           have F:=X1 u
           have K:=X1 (B.o.trans x)
           have D:=X1 (z.o)
           clear u x Q4
           have Q5:=X1 (XU F.o [91] #[91] rfl i3)
           go_wp2_with fail
           refine Q5.o.mono ?_
           rintro e5 w5 ⟨rfl,v5,y,A⟩
           have N:=X1 y
           have O:=X1 (K.o.trans A)
           have E:=X1 (D.o)
           clear y A Q5
           have Q6:=X1 (XU N.o [123] #[123] rfl i4)
           go_wp2_with fail
           refine Q6.o.mono ?_
           rintro e6 w6 ⟨rfl,v6,J,L⟩
           have V:=X1 J
           have W:=X1 (O.o.trans L)
           have M:=X1 (E.o)
           clear J L Q6
           have Q7:=X1 (YC V.o [40] #[40] rfl i5)
           go_wp2_with fail
           refine Q7.o.mono ?_
           rintro e7 w7 ⟨rfl,v7,S,P⟩
           have Z:=X1 S
           have a0:=X1 (W.o.trans P)
           have U:=X1 (M.o.adv i5)
           clear S P Q7
           have a7:=X1 (Pr.Stp.refl U.o.le)
           have Q8:=X1 (ihE _ a7.o.ge U.o.le _ _ Z.o (U.o.phi (by first | omega | (simp only [X6];omega)) h0 hN))
           go_wp2_with fail
           refine Q8.o.mono ?_
           rintro e8 w8 ⟨r8,rfl,a6,v8,a1,Y⟩
           have HC8:=X1 a6
           have a8:=X1 a1
           have a9:=X1 (a0.o.trans Y)
           have HS8:=X1 (U.o.trans (a6.stp U.o.le))
           have HA8:=X1 (a7.o.trans (a6.stp a7.o.le))
           clear a6 a1 Y Q8
           have Q9:=X1 (Yc a8.o [41] #[41] rfl)
           go_wp2_with fail
           refine Q9.o.mono ?_
           rintro e9 w9 ⟨rfl,v9,hd9,hg9⟩
           have HD9:=X1 hd9
           have HG9:=X1 (a9.o.trans hg9)
           have HS9:=X1 (HS8.o.need (sz:=sz) [41])
           have HA9:=X1 (HA8.o.need (sz:=sz) [41])
           clear hd9 hg9 Q9
           go_wp2
           (first | go_end0 | refine bodyPost_ret (results_none rfl _ _ _) rfl ?_)
           exact ⟨(_,0),rfl,Pr.Cv.single_round hbad t3 t4 t1 i0 i1 i2 i3 i4 i5 HC8.o,v9,HD9.o,HG9.o⟩
         ·go_enter Tryz.func121,Tryz.ntmps121
          go_wp2_with fail
          refine HT.o.mono ?_
          rintro e w1 ⟨rfl,c⟩
          unfold Yf
          have hz:=c.size
          have bB:=c.trans (((Below.refl w1.heap.size w1).alloc (Nat.le_refl _) (tokO (((X3 ts sz s).kind:Nat):Int) (X3 ts sz s))).mono hz)
          have a:=H.o.below bB
          have c3:=a.c3
          rw [hbad] at c3
          have j:=X1 a
          have i:=X1 (Pr.Gr.below (b:=b) (v:=v0) bB)
          have g:=I
          clear c bB a
          have Q2:=X1 (XU j.o Zd #[110,111,110,101] rfl i0)
          go_wp2_with fail
          refine Q2.o.mono ?_
          rintro e2 w2 ⟨rfl,v2,d,f⟩
          have r:=X1 d
          have m:=X1 (i.o.trans f)
          have t:=X1 (g.o)
          clear d f Q2
          have Q3:=X1 (XU r.o Z8 #[102,97,108,115,101] rfl i1)
          go_wp2_with fail
          refine Q3.o.mono ?_
          rintro e3 w3 ⟨rfl,v3,k,l⟩
          have C:=X1 k
          have B:=X1 (m.o.trans l)
          have z:=X1 (t.o)
          clear k l Q3
          have Q4:=X1 (XU C.o ZI #[116,114,117,101] rfl i2)
          go_wp2_with fail
          refine Q4.o.mono ?_
          rintro e4 w4 ⟨rfl,v4,u,x⟩
          have F:=X1 u
          have K:=X1 (B.o.trans x)
          have D:=X1 (z.o)
          clear u x Q4
          have Q5:=X1 (XU F.o [91] #[91] rfl i3)
          go_wp2_with fail
          refine Q5.o.mono ?_
          rintro e5 w5 ⟨rfl,v5,y,A⟩
          have N:=X1 y
          have O:=X1 (K.o.trans A)
          have E:=X1 (D.o)
          clear y A Q5
          have Q6:=X1 (YC N.o [123] #[123] rfl i4)
          go_wp2_with fail
          refine Q6.o.mono ?_
          rintro e6 w6 ⟨rfl,v6,J,L⟩
          have V:=X1 J
          have W:=X1 (O.o.trans L)
          have M:=X1 (E.o.adv i4)
          clear J L Q6
          have a4:=X1 (Pr.Stp.refl M.o.le)
          have Q7:=X1 (ihR _ a4.o.ge M.o.le _ _ V.o (M.o.phi (by first | omega | (simp only [X6];omega)) h0 hN))
          go_wp2_with fail
          refine Q7.o.mono ?_
          rintro e7 w7 ⟨r7,rfl,a5,v7,S,P⟩
          have HC7:=X1 a5
          have Z:=X1 S
          have a0:=X1 (W.o.trans P)
          have U:=X1 (M.o.trans (a5.stp M.o.le))
          have a7:=X1 (a4.o.trans (a5.stp a4.o.le))
          clear a5 S P Q7
          go_wp2
          (first | go_end0 | refine bodyPost_ret (results_none rfl _ _ _) rfl ?_)
          exact ⟨_,rfl,Pr.Cv.single_record hbad t3 t4 t1 i0 i1 i2 i3 i4 HC7.o,v7,Z.o,a0.o⟩
        ·go_enter Tryz.func121,Tryz.ntmps121
         go_wp2_with fail
         refine HT.o.mono ?_
         rintro e w1 ⟨rfl,c⟩
         unfold Yf
         have hz:=c.size
         have bB:=c.trans (((Below.refl w1.heap.size w1).alloc (Nat.le_refl _) (tokO (((X3 ts sz s).kind:Nat):Int) (X3 ts sz s))).mono hz)
         have a:=H.o.below bB
         have c3:=a.c3
         rw [hbad] at c3
         have j:=X1 a
         have i:=X1 (Pr.Gr.below (b:=b) (v:=v0) bB)
         have g:=I
         clear c bB a
         have Q2:=X1 (XU j.o Zd #[110,111,110,101] rfl i0)
         go_wp2_with fail
         refine Q2.o.mono ?_
         rintro e2 w2 ⟨rfl,v2,d,f⟩
         have r:=X1 d
         have m:=X1 (i.o.trans f)
         have t:=X1 (g.o)
         clear d f Q2
         have Q3:=X1 (XU r.o Z8 #[102,97,108,115,101] rfl i1)
         go_wp2_with fail
         refine Q3.o.mono ?_
         rintro e3 w3 ⟨rfl,v3,k,l⟩
         have C:=X1 k
         have B:=X1 (m.o.trans l)
         have z:=X1 (t.o)
         clear k l Q3
         have Q4:=X1 (XU C.o ZI #[116,114,117,101] rfl i2)
         go_wp2_with fail
         refine Q4.o.mono ?_
         rintro e4 w4 ⟨rfl,v4,u,x⟩
         have F:=X1 u
         have K:=X1 (B.o.trans x)
         have D:=X1 (z.o)
         clear u x Q4
         have Q5:=X1 (YC F.o [91] #[91] rfl i3)
         go_wp2_with fail
         refine Q5.o.mono ?_
         rintro e5 w5 ⟨rfl,v5,y,A⟩
         have N:=X1 y
         have O:=X1 (K.o.trans A)
         have E:=X1 (D.o.adv i3)
         clear y A Q5
         have a2:=X1 (Pr.Stp.refl E.o.le)
         have Q6:=X1 (ihL _ a2.o.ge E.o.le _ _ N.o (E.o.phi (by first | omega | (simp only [X6];omega)) h0 hN))
         go_wp2_with fail
         refine Q6.o.mono ?_
         rintro e6 w6 ⟨r6,rfl,a3,v6,J,L⟩
         have HC6:=X1 a3
         have V:=X1 J
         have W:=X1 (O.o.trans L)
         have M:=X1 (E.o.trans (a3.stp E.o.le))
         have a4:=X1 (a2.o.trans (a3.stp a2.o.le))
         clear a3 J L Q6
         go_wp2
         (first | go_end0 | refine bodyPost_ret (results_none rfl _ _ _) rfl ?_)
         exact ⟨_,rfl,Pr.Cv.single_list hbad t3 t4 t1 i0 i1 i2 i3 HC6.o,v6,V.o,W.o⟩
       ·go_enter Tryz.func121,Tryz.ntmps121
        go_wp2_with fail
        refine HT.o.mono ?_
        rintro e w1 ⟨rfl,c⟩
        unfold Yf
        have hz:=c.size
        have bB:=c.trans (((Below.refl w1.heap.size w1).alloc (Nat.le_refl _) (tokO (((X3 ts sz s).kind:Nat):Int) (X3 ts sz s))).mono hz)
        have a:=H.o.below bB
        have c3:=a.c3
        rw [hbad] at c3
        have j:=X1 a
        have i:=X1 (Pr.Gr.below (b:=b) (v:=v0) bB)
        have g:=I
        clear c bB a
        have Q2:=X1 (XU j.o Zd #[110,111,110,101] rfl i0)
        go_wp2_with fail
        refine Q2.o.mono ?_
        rintro e2 w2 ⟨rfl,v2,d,f⟩
        have r:=X1 d
        have m:=X1 (i.o.trans f)
        have t:=X1 (g.o)
        clear d f Q2
        have Q3:=X1 (XU r.o Z8 #[102,97,108,115,101] rfl i1)
        go_wp2_with fail
        refine Q3.o.mono ?_
        rintro e3 w3 ⟨rfl,v3,k,l⟩
        have C:=X1 k
        have B:=X1 (m.o.trans l)
        have z:=X1 (t.o)
        clear k l Q3
        have Q4:=X1 (YC C.o ZI #[116,114,117,101] rfl i2)
        go_wp2_with fail
        refine Q4.o.mono ?_
        rintro e4 w4 ⟨rfl,v4,u,x⟩
        have F:=X1 u
        have K:=X1 (B.o.trans x)
        have D:=X1 (z.o.adv i2)
        clear u x Q4
        have HA4:=X1 (Pr.Stp.refl D.o.le)
        have Q5:=X1 (XR F.o (D.o.len (by first | omega | (simp only [X6];omega)) h0 hN) 2 0 1 [] 0)
        go_wp2_with fail
        refine Q5.o.mono ?_
        rintro e5 w5 ⟨rfl,v5,y,A⟩
        have N:=X1 y
        have O:=X1 (K.o.trans A)
        have E:=X1 (D.o.put 2 0 1 [] 0)
        have a2:=X1 (HA4.o.put 2 0 1 [] 0)
        clear y A Q5
        go_wp2
        (first | go_end0 | refine bodyPost_ret (results_none rfl _ _ _) rfl ?_)
        exact ⟨(_,0),rfl,Pr.Cv.single_true hbad t3 t4 t1 i0 i1 i2,v5,N.o,O.o⟩
      ·go_enter Tryz.func121,Tryz.ntmps121
       go_wp2_with fail
       refine HT.o.mono ?_
       rintro e w1 ⟨rfl,c⟩
       unfold Yf
       have hz:=c.size
       have bB:=c.trans (((Below.refl w1.heap.size w1).alloc (Nat.le_refl _) (tokO (((X3 ts sz s).kind:Nat):Int) (X3 ts sz s))).mono hz)
       have a:=H.o.below bB
       have c3:=a.c3
       rw [hbad] at c3
       have j:=X1 a
       have i:=X1 (Pr.Gr.below (b:=b) (v:=v0) bB)
       have g:=I
       clear c bB a
       have Q2:=X1 (XU j.o Zd #[110,111,110,101] rfl i0)
       go_wp2_with fail
       refine Q2.o.mono ?_
       rintro e2 w2 ⟨rfl,v2,d,f⟩
       have r:=X1 d
       have m:=X1 (i.o.trans f)
       have t:=X1 (g.o)
       clear d f Q2
       have Q3:=X1 (YC r.o Z8 #[102,97,108,115,101] rfl i1)
       go_wp2_with fail
       refine Q3.o.mono ?_
       rintro e3 w3 ⟨rfl,v3,k,l⟩
       have C:=X1 k
       have B:=X1 (m.o.trans l)
       have z:=X1 (t.o.adv i1)
       clear k l Q3
       have HA3:=X1 (Pr.Stp.refl z.o.le)
       have Q4:=X1 (XR C.o (z.o.len (by first | omega | (simp only [X6];omega)) h0 hN) 2 0 0 [] 0)
       go_wp2_with fail
       refine Q4.o.mono ?_
       rintro e4 w4 ⟨rfl,v4,u,x⟩
       have F:=X1 u
       have K:=X1 (B.o.trans x)
       have D:=X1 (z.o.put 2 0 0 [] 0)
       have HA4:=X1 (HA3.o.put 2 0 0 [] 0)
       clear u x Q4
       go_wp2
       (first | go_end0 | refine bodyPost_ret (results_none rfl _ _ _) rfl ?_)
       exact ⟨(_,0),rfl,Pr.Cv.single_false hbad t3 t4 t1 i0 i1,v4,F.o,K.o⟩
     ·go_enter Tryz.func121,Tryz.ntmps121
      go_wp2_with fail
      refine HT.o.mono ?_
      rintro e w1 ⟨rfl,c⟩
      unfold Yf
      have hz:=c.size
      have bB:=c.trans (((Below.refl w1.heap.size w1).alloc (Nat.le_refl _) (tokO (((X3 ts sz s).kind:Nat):Int) (X3 ts sz s))).mono hz)
      have a:=H.o.below bB
      have c3:=a.c3
      rw [hbad] at c3
      have j:=X1 a
      have i:=X1 (Pr.Gr.below (b:=b) (v:=v0) bB)
      have g:=I
      clear c bB a
      have Q2:=X1 (YC j.o Zd #[110,111,110,101] rfl i0)
      go_wp2_with fail
      refine Q2.o.mono ?_
      rintro e2 w2 ⟨rfl,v2,d,f⟩
      have r:=X1 d
      have m:=X1 (i.o.trans f)
      have t:=X1 (g.o.adv i0)
      clear d f Q2
      have HA2:=X1 (Pr.Stp.refl t.o.le)
      have Q3:=X1 (XR r.o (t.o.len (by first | omega | (simp only [X6];omega)) h0 hN) 1 0 0 [] 0)
      go_wp2_with fail
      refine Q3.o.mono ?_
      rintro e3 w3 ⟨rfl,v3,k,l⟩
      have C:=X1 k
      have B:=X1 (m.o.trans l)
      have z:=X1 (t.o.put 1 0 0 [] 0)
      have HA3:=X1 (HA2.o.put 1 0 0 [] 0)
      clear k l Q3
      go_wp2
      (first | go_end0 | refine bodyPost_ret (results_none rfl _ _ _) rfl ?_)
      exact ⟨(_,0),rfl,Pr.Cv.single_none hbad t3 t4 t1 i0,v3,C.o,B.o⟩
 ·go_enter Tryz.func121,Tryz.ntmps121
  go_wp2_with fail
  refine HT.o.mono ?_
  rintro e w1 ⟨rfl,c⟩
  unfold Yf
  have hz:=c.size
  have bB:=c.trans (((Below.refl w1.heap.size w1).alloc (Nat.le_refl _) (tokO (((X3 ts sz s).kind:Nat):Int) (X3 ts sz s))).mono hz)
  have a:=H.o.below bB
  have c3:=a.c3
  rw [hbad] at c3
  have j:=X1 a
  have i:=X1 (Pr.Gr.below (b:=b) (v:=v0) bB)
  have g:=I
  clear c bB a
  go_wp2
  (first | go_end0 | refine bodyPost_ret (results_none rfl _ _ _) rfl ?_)
  exact ⟨(s,0),rfl,Pr.Cv.single_bad hbad,v0,j.o,i.o⟩
end Go.Proofs.YtimbaebigjjkaaaGreatDoor
