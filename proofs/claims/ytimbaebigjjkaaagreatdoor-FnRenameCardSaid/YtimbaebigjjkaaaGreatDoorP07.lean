/- Hm. -/
import Derived.Test.YtimbaebigjjkaaaGreatDoorP06
namespace Go.Proofs.YtimbaebigjjkaaaGreatDoor
open Go.RowKit
def Qt (b tg tc:Nat) (ts:List Sc.T) (sz:Nat):Prop:=∀ (v:Value) (s:Pr.Dk) (w:World),DK b tg tc ts sz v s w→Calls Tryz.prog 127 #[.pointer (some ⟨b,0,none⟩)] w fun e w'=>e = .returned (.bool (Ym ts sz s))∧Below w.heap.size w w'
theorem namedV {b tg tc:Nat} {ts:List Sc.T} {sz:Nat} {v:Value} {s:Pr.Dk} {w:World} (hnm:Qt b tg tc ts sz) (h:DK b tg tc ts sz v s w) {c:Bool} (hi:Ym ts sz s=c) :
  Calls Tryz.prog 127 #[.pointer (some ⟨b,0,none⟩)] w fun e w'=>e = .returned (.bool c)∧Jt b tg tc ts sz v w s w':=by
 have:=hnm _ _ _ h
 rw [hi] at this
 exact this.mono fun _ _ ⟨h1,h2⟩=>⟨h1,v,h.below h2,.below h2⟩
set_option maxRecDepth 100000 in
set_option maxHeartbeats 8000000 in
theorem args_says {b tg tc:Nat} {ts:List Sc.T} {sz:Nat} {s:Pr.Dk} (hnm:Qt b tg tc ts sz) (ihE:∀ q:Pr.Dk,s.p≤q.p→q.p≤ts.length→Pr.SE b tg tc ts sz q):Pr.SA b tg tc ts sz s:=by
 intro v0 w0 f4 hN
 have h0:=f4.le
 have hm:=f4.most
 have HD0:=X1 f4
 have HG0:=X1 (Pr.Gr.refl b v0 w0)
 have HS0:=X1 (Pr.Stp.refl h0)
 have f5:=X1 hnm
 clear f4 hnm
 go_enter Tryz.func122,Tryz.ntmps122
 have HI:=X1 (show ∀ r2,Pr.Cv ts sz (.argsL 0 false) s r2→Pr.Cv ts sz .args s (Xr ts sz r2.1 [41],r2.2) from fun r2 h=>Pr.Cv.args h)
 go_wp2_with fail
 go_loopw [3,4] (fun t u wr=>∃ (n:Nat) (nb:Bool) (q:Pr.Dk) (vq:Value),t = .int .i64 n∧u = .bool nb∧n≤q.p∧DK b tg tc ts sz vq q wr∧Pr.Gr b v0 vq w0 wr∧Pr.Stp ts s q 0∧∀ r2,Pr.Cv ts sz (.argsL n nb) q r2→Pr.Cv ts sz .args s (Xr ts sz r2.1 [41],r2.2)) (fun _ _ wr=>XQ b ts wr)
 case atStart=>exact ⟨0,false,s,v0,rfl,rfl,Nat.zero_le _,HD0.o,HG0.o,HS0.o,HI.o⟩
 case round =>
  obtain ⟨n,nb,q,v10,rfl,rfl,hnp,c0,e5,e6,e9⟩:=hrel
  have c3:=c0.c3
  have hle:=c0.le
  have X:=X1 c0
  have b3:=X1 e5
  have S:=X1 e6
  have M:=X1 e9
  clear c0 e5 e6 e9 HI
  cases hbad:q.bad
  ·rw [hbad] at c3
   by_cases hn:n=0
   ·subst hn
    cases i0:Xa ts sz q [41]
    ·have a8:=X1 (isN X.o [41] #[41] rfl i0)
     go_wp2_with fail
     refine a8.o.mono ?_
     rintro f1 f2 ⟨rfl,d4,B,A⟩
     have Q:=X1 B
     have V:=X1 (b3.o.trans A)
     have C:=X1 (S.o)
     clear B A a8
     have hg:((0:Nat) == 0 && Xa ts sz q [41])=false:=by rw [i0];rfl
     have Y:=X1 (Pr.Stp.refl C.o.le)
     cases nb
     ·cases im:Ym ts sz q
      ·have a5:=X1 (namedV f5.o Q.o im)
       go_wp2_with fail
       refine a5.o.mono ?_
       rintro d5 d7 ⟨rfl,d0,c,i⟩
       have L:=X1 c
       have I:=X1 (V.o.trans i)
       have k:=X1 (C.o)
       have m:=X1 (Y.o)
       clear c i a5
       have hb:(false || Ym ts sz q)=false:=by rw [im];rfl
       have a3:=X1 (ihE _ (Nat.le_trans S.o.ge m.o.ge) k.o.le _ _ L.o (k.o.phi (by first | omega | (simp only [X6];omega)) h0 hN))
       go_wp2_with fail
       refine a3.o.mono ?_
       rintro d8 c8 ⟨e0,rfl,a6,d2,j,f⟩
       have b8:=X1 a6
       have H:=X1 j
       have J:=X1 (I.o.trans f)
       have a:=X1 (k.o.trans (a6.stp k.o.le))
       have l:=X1 (m.o.trans (a6.stp m.o.le))
       clear a6 j f a3
       cases ic:Xa ts sz e0.1 [44]
       ·have a4:=X1 (XU H.o [44] #[44] rfl ic)
        go_wp2_with fail
        refine a4.o.mono ?_
        rintro d3 d1 ⟨rfl,c4,d,g⟩
        have F:=X1 d
        have O:=X1 (J.o.trans g)
        have r:=X1 (a.o)
        have D:=X1 (l.o)
        clear d g a4
        have a9:=X1 (Yc F.o [41] #[41] rfl)
        go_wp2_with fail
        refine a9.o.mono ?_
        rintro e1 d6 ⟨rfl,c6,y,x⟩
        have N:=X1 y
        have U:=X1 (O.o.trans x)
        have P:=X1 (r.o.need (sz:=sz) [41])
        have E:=X1 (D.o.need (sz:=sz) [41])
        clear y x a9
        go_wp2
        go_ret
        exact ⟨(_,0+1),by first | rfl | (unfold Ki;go_num),M.o _ (Pr.Cv.argsL_plainEnd hbad hg hb ic b8.o),c6,N.o,U.o⟩
       ·have a4:=X1 (YC H.o [44] #[44] rfl ic)
        go_wp2_with fail
        refine a4.o.mono ?_
        rintro d3 d1 ⟨rfl,c4,d,g⟩
        have F:=X1 d
        have O:=X1 (J.o.trans g)
        have r:=X1 (a.o.adv ic)
        have D:=X1 (l.o.adv ic)
        clear d g a4
        have HM:=X1 (show XQ b ts d1 < XQ b ts wr from by rw [F.o.left,X.o.left];have:=l.o.ge;have:=XG ic;rw [Pr.adv_p] at *;omega)
        have b6:=X1 (show 0+1≤(X7 e0.1).p from by have:=l.o.ge;rw [Pr.adv_p] at *;omega)
        go_wp2
        go_roundw
        case rel=>exact ⟨0+1,false,_,c4,by go_num,rfl,b6.o,F.o,O.o,r.o.mono (by first | omega | (simp only [X6];omega)),fun r2 h=>M.o _ (Pr.Cv.argsL_plain hbad hg hb ic b8.o h)⟩
        case measure=>exact HM.o
      ·have a5:=X1 (namedV f5.o Q.o im)
       go_wp2_with fail
       refine a5.o.mono ?_
       rintro d5 d7 ⟨rfl,d0,c,i⟩
       have L:=X1 c
       have I:=X1 (V.o.trans i)
       have k:=X1 (C.o)
       have m:=X1 (Y.o)
       clear c i a5
       have hb:(false || Ym ts sz q)=true:=by rw [im];rfl
       have a3:=X1 (Q0 L.o)
       go_wp2_with fail
       refine a3.o.mono ?_
       rintro d8 c8 ⟨rfl,d2,j,f⟩
       have H:=X1 j
       have J:=X1 (I.o.trans f)
       have a:=X1 (k.o.name (sz:=sz))
       have l:=X1 (m.o.name (sz:=sz))
       clear j f a3
       have a4:=X1 (Yc H.o [61] #[61] rfl)
       go_wp2_with fail
       refine a4.o.mono ?_
       rintro d3 d1 ⟨rfl,c4,d,g⟩
       have F:=X1 d
       have O:=X1 (J.o.trans g)
       have r:=X1 (a.o.need (sz:=sz) [61])
       have D:=X1 (l.o.need (sz:=sz) [61])
       clear d g a4
       have a9:=X1 (ihE _ (Nat.le_trans S.o.ge D.o.ge) r.o.le _ _ F.o (r.o.phi (by first | omega | (simp only [X6];omega)) h0 hN))
       go_wp2_with fail
       refine a9.o.mono ?_
       rintro e1 d6 ⟨r15,rfl,c2,c6,y,x⟩
       have f0:=X1 c2
       have N:=X1 y
       have U:=X1 (O.o.trans x)
       have P:=X1 (r.o.trans (c2.stp r.o.le))
       have E:=X1 (D.o.trans (c2.stp D.o.le))
       clear c2 y x a9
       have b1:=X1 (XR N.o (P.o.len (by first | omega | (simp only [X6];omega)) h0 hN) 18 0 0 (Xd ts sz q) 1)
       go_wp2_with fail
       refine b1.o.mono ?_
       rintro e7 c7 ⟨rfl,c5,z,v⟩
       have K:=X1 z
       have W:=X1 (U.o.trans v)
       have Z:=X1 (P.o.put 18 0 0 (Xd ts sz q) 1)
       have a0:=X1 (E.o.put 18 0 0 (Xd ts sz q) 1)
       clear z v b1
       cases ic:Xa ts sz (Xj r15.1 18 0 0 (Xd ts sz q) 1) [44]
       ·have b4:=X1 (XU K.o [44] #[44] rfl ic)
        go_wp2_with fail
        refine b4.o.mono ?_
        rintro f8 f3 ⟨rfl,d9,a1,a2⟩
        have b0:=X1 a1
        have b2:=X1 (W.o.trans a2)
        have b7:=X1 (Z.o)
        have c1:=X1 (a0.o)
        clear a1 a2 b4
        have Q18:=X1 (Yc b0.o [41] #[41] rfl)
        go_wp2_with fail
        refine Q18.o.mono ?_
        rintro e18 w18 ⟨rfl,v18,e8,e3⟩
        have f7:=X1 e8
        have f6:=X1 (b2.o.trans e3)
        have HS18:=X1 (b7.o.need (sz:=sz) [41])
        have HA18:=X1 (c1.o.need (sz:=sz) [41])
        clear e8 e3 Q18
        go_wp2
        go_ret
        exact ⟨(_,0+1),by first | rfl | (unfold Ki;go_num),M.o _ (Pr.Cv.argsL_namedEnd hbad hg hb ic f0.o),v18,f7.o,f6.o⟩
       ·have b4:=X1 (YC K.o [44] #[44] rfl ic)
        go_wp2_with fail
        refine b4.o.mono ?_
        rintro f8 f3 ⟨rfl,d9,a1,a2⟩
        have b0:=X1 a1
        have b2:=X1 (W.o.trans a2)
        have b7:=X1 (Z.o.adv ic)
        have c1:=X1 (a0.o.adv ic)
        clear a1 a2 b4
        have HM:=X1 (show XQ b ts f3 < XQ b ts wr from by rw [b0.o.left,X.o.left];have:=a0.o.ge;have:=XG ic;rw [Pr.adv_p] at *;omega)
        have b6:=X1 (show 0+1≤(X7 (Xj r15.1 18 0 0 (Xd ts sz q) 1)).p from by have:=a0.o.ge;rw [Pr.adv_p] at *;omega)
        go_wp2
        go_roundw
        case rel=>exact ⟨0+1,true,_,d9,by go_num,rfl,b6.o,b0.o,b2.o,b7.o.mono (by first | omega | (simp only [X6];omega)),fun r2 h=>M.o _ (Pr.Cv.argsL_named hbad hg hb ic f0.o h)⟩
        case measure=>exact HM.o
     ·have hb:(true || Ym ts sz q)=true:=rfl
      have a5:=X1 (Q0 Q.o)
      go_wp2_with fail
      refine a5.o.mono ?_
      rintro d5 d7 ⟨rfl,d0,c,i⟩
      have L:=X1 c
      have I:=X1 (V.o.trans i)
      have k:=X1 (C.o.name (sz:=sz))
      have m:=X1 (Y.o.name (sz:=sz))
      clear c i a5
      have a3:=X1 (Yc L.o [61] #[61] rfl)
      go_wp2_with fail
      refine a3.o.mono ?_
      rintro d8 c8 ⟨rfl,d2,j,f⟩
      have H:=X1 j
      have J:=X1 (I.o.trans f)
      have a:=X1 (k.o.need (sz:=sz) [61])
      have l:=X1 (m.o.need (sz:=sz) [61])
      clear j f a3
      have a4:=X1 (ihE _ (Nat.le_trans S.o.ge l.o.ge) a.o.le _ _ H.o (a.o.phi (by first | omega | (simp only [X6];omega)) h0 hN))
      go_wp2_with fail
      refine a4.o.mono ?_
      rintro d3 d1 ⟨e4,rfl,a7,c4,d,g⟩
      have b5:=X1 a7
      have F:=X1 d
      have O:=X1 (J.o.trans g)
      have r:=X1 (a.o.trans (a7.stp a.o.le))
      have D:=X1 (l.o.trans (a7.stp l.o.le))
      clear a7 d g a4
      have a9:=X1 (XR F.o (r.o.len (by first | omega | (simp only [X6];omega)) h0 hN) 18 0 0 (Xd ts sz q) 1)
      go_wp2_with fail
      refine a9.o.mono ?_
      rintro e1 d6 ⟨rfl,c6,y,x⟩
      have N:=X1 y
      have U:=X1 (O.o.trans x)
      have P:=X1 (r.o.put 18 0 0 (Xd ts sz q) 1)
      have E:=X1 (D.o.put 18 0 0 (Xd ts sz q) 1)
      clear y x a9
      cases ic:Xa ts sz (Xj e4.1 18 0 0 (Xd ts sz q) 1) [44]
      ·have b1:=X1 (XU N.o [44] #[44] rfl ic)
       go_wp2_with fail
       refine b1.o.mono ?_
       rintro e7 c7 ⟨rfl,c5,z,v⟩
       have K:=X1 z
       have W:=X1 (U.o.trans v)
       have Z:=X1 (P.o)
       have a0:=X1 (E.o)
       clear z v b1
       have b4:=X1 (Yc K.o [41] #[41] rfl)
       go_wp2_with fail
       refine b4.o.mono ?_
       rintro f8 f3 ⟨rfl,d9,a1,a2⟩
       have b0:=X1 a1
       have b2:=X1 (W.o.trans a2)
       have b7:=X1 (Z.o.need (sz:=sz) [41])
       have c1:=X1 (a0.o.need (sz:=sz) [41])
       clear a1 a2 b4
       go_wp2
       go_ret
       exact ⟨(_,0+1),by first | rfl | (unfold Ki;go_num),M.o _ (Pr.Cv.argsL_namedEnd hbad hg hb ic b5.o),d9,b0.o,b2.o⟩
      ·have b1:=X1 (YC N.o [44] #[44] rfl ic)
       go_wp2_with fail
       refine b1.o.mono ?_
       rintro e7 c7 ⟨rfl,c5,z,v⟩
       have K:=X1 z
       have W:=X1 (U.o.trans v)
       have Z:=X1 (P.o.adv ic)
       have a0:=X1 (E.o.adv ic)
       clear z v b1
       have HM:=X1 (show XQ b ts c7 < XQ b ts wr from by rw [K.o.left,X.o.left];have:=E.o.ge;have:=XG ic;rw [Pr.adv_p] at *;omega)
       have b6:=X1 (show 0+1≤(X7 (Xj e4.1 18 0 0 (Xd ts sz q) 1)).p from by have:=E.o.ge;rw [Pr.adv_p] at *;omega)
       go_wp2
       go_roundw
       case rel=>exact ⟨0+1,true,_,c5,by go_num,rfl,b6.o,K.o,W.o,Z.o.mono (by first | omega | (simp only [X6];omega)),fun r2 h=>M.o _ (Pr.Cv.argsL_named hbad hg hb ic b5.o h)⟩
       case measure=>exact HM.o
    ·have a8:=X1 (isY X.o [41] #[41] rfl i0)
     go_wp2_with fail
     refine a8.o.mono ?_
     rintro f1 f2 ⟨rfl,d4,B,A⟩
     have Q:=X1 B
     have V:=X1 (b3.o.trans A)
     have C:=X1 (S.o)
     clear B A a8
     have a5:=X1 (Yc Q.o [41] #[41] rfl)
     go_wp2_with fail
     refine a5.o.mono ?_
     rintro d5 d7 ⟨rfl,d0,c,i⟩
     have L:=X1 c
     have I:=X1 (V.o.trans i)
     have k:=X1 (C.o.need (sz:=sz) [41])
     clear c i a5
     go_wp2
     go_ret
     exact ⟨(_,0),by first | rfl | (unfold Ki;go_num),M.o _ (Pr.Cv.argsL_end hbad i0),d0,L.o,I.o⟩
   ·have hn0:0 < (n:Int):=by omega
    have hg:(n == 0 && Xa ts sz q [41])=false:=by simp [hn]
    have c9:=X1 (Pr.Stp.refl S.o.le)
    cases nb
    ·cases im:Ym ts sz q
     ·have a8:=X1 (namedV f5.o X.o im)
      go_wp2_with fail
      refine a8.o.mono ?_
      rintro f1 f2 ⟨rfl,d4,B,A⟩
      have Q:=X1 B
      have V:=X1 (b3.o.trans A)
      have C:=X1 (S.o)
      have Y:=X1 (c9.o)
      clear B A a8
      have hb:(false || Ym ts sz q)=false:=by rw [im];rfl
      have a5:=X1 (ihE _ (Nat.le_trans S.o.ge Y.o.ge) C.o.le _ _ Q.o (C.o.phi (by first | omega | (simp only [X6];omega)) h0 hN))
      go_wp2_with fail
      refine a5.o.mono ?_
      rintro d5 d7 ⟨r12,rfl,b9,d0,c,i⟩
      have e2:=X1 b9
      have L:=X1 c
      have I:=X1 (V.o.trans i)
      have k:=X1 (C.o.trans (b9.stp C.o.le))
      have m:=X1 (Y.o.trans (b9.stp Y.o.le))
      clear b9 c i a5
      cases ic:Xa ts sz r12.1 [44]
      ·have a3:=X1 (XU L.o [44] #[44] rfl ic)
       go_wp2_with fail
       refine a3.o.mono ?_
       rintro d8 c8 ⟨rfl,d2,j,f⟩
       have H:=X1 j
       have J:=X1 (I.o.trans f)
       have a:=X1 (k.o)
       have l:=X1 (m.o)
       clear j f a3
       have a4:=X1 (Yc H.o [41] #[41] rfl)
       go_wp2_with fail
       refine a4.o.mono ?_
       rintro d3 d1 ⟨rfl,c4,d,g⟩
       have F:=X1 d
       have O:=X1 (J.o.trans g)
       have r:=X1 (a.o.need (sz:=sz) [41])
       have D:=X1 (l.o.need (sz:=sz) [41])
       clear d g a4
       go_wp2
       go_ret
       exact ⟨(_,n+1),by first | rfl | (unfold Ki;go_num),M.o _ (Pr.Cv.argsL_plainEnd hbad hg hb ic e2.o),c4,F.o,O.o⟩
      ·have a3:=X1 (YC L.o [44] #[44] rfl ic)
       go_wp2_with fail
       refine a3.o.mono ?_
       rintro d8 c8 ⟨rfl,d2,j,f⟩
       have H:=X1 j
       have J:=X1 (I.o.trans f)
       have a:=X1 (k.o.adv ic)
       have l:=X1 (m.o.adv ic)
       clear j f a3
       have HM:=X1 (show XQ b ts c8 < XQ b ts wr from by rw [H.o.left,X.o.left];have:=m.o.ge;have:=XG ic;rw [Pr.adv_p] at *;omega)
       have b6:=X1 (show n+1≤(X7 r12.1).p from by have:=m.o.ge;rw [Pr.adv_p] at *;omega)
       go_wp2
       go_roundw
       case rel=>exact ⟨n+1,false,_,d2,by go_num,rfl,b6.o,H.o,J.o,a.o.mono (by first | omega | (simp only [X6];omega)),fun r2 h=>M.o _ (Pr.Cv.argsL_plain hbad hg hb ic e2.o h)⟩
       case measure=>exact HM.o
     ·have a8:=X1 (namedV f5.o X.o im)
      go_wp2_with fail
      refine a8.o.mono ?_
      rintro f1 f2 ⟨rfl,d4,B,A⟩
      have Q:=X1 B
      have V:=X1 (b3.o.trans A)
      have C:=X1 (S.o)
      have Y:=X1 (c9.o)
      clear B A a8
      have hb:(false || Ym ts sz q)=true:=by rw [im];rfl
      have a5:=X1 (Q0 Q.o)
      go_wp2_with fail
      refine a5.o.mono ?_
      rintro d5 d7 ⟨rfl,d0,c,i⟩
      have L:=X1 c
      have I:=X1 (V.o.trans i)
      have k:=X1 (C.o.name (sz:=sz))
      have m:=X1 (Y.o.name (sz:=sz))
      clear c i a5
      have a3:=X1 (Yc L.o [61] #[61] rfl)
      go_wp2_with fail
      refine a3.o.mono ?_
      rintro d8 c8 ⟨rfl,d2,j,f⟩
      have H:=X1 j
      have J:=X1 (I.o.trans f)
      have a:=X1 (k.o.need (sz:=sz) [61])
      have l:=X1 (m.o.need (sz:=sz) [61])
      clear j f a3
      have a4:=X1 (ihE _ (Nat.le_trans S.o.ge l.o.ge) a.o.le _ _ H.o (a.o.phi (by first | omega | (simp only [X6];omega)) h0 hN))
      go_wp2_with fail
      refine a4.o.mono ?_
      rintro d3 d1 ⟨e4,rfl,a7,c4,d,g⟩
      have b5:=X1 a7
      have F:=X1 d
      have O:=X1 (J.o.trans g)
      have r:=X1 (a.o.trans (a7.stp a.o.le))
      have D:=X1 (l.o.trans (a7.stp l.o.le))
      clear a7 d g a4
      have a9:=X1 (XR F.o (r.o.len (by first | omega | (simp only [X6];omega)) h0 hN) 18 0 0 (Xd ts sz q) 1)
      go_wp2_with fail
      refine a9.o.mono ?_
      rintro e1 d6 ⟨rfl,c6,y,x⟩
      have N:=X1 y
      have U:=X1 (O.o.trans x)
      have P:=X1 (r.o.put 18 0 0 (Xd ts sz q) 1)
      have E:=X1 (D.o.put 18 0 0 (Xd ts sz q) 1)
      clear y x a9
      cases ic:Xa ts sz (Xj e4.1 18 0 0 (Xd ts sz q) 1) [44]
      ·have b1:=X1 (XU N.o [44] #[44] rfl ic)
       go_wp2_with fail
       refine b1.o.mono ?_
       rintro e7 c7 ⟨rfl,c5,z,v⟩
       have K:=X1 z
       have W:=X1 (U.o.trans v)
       have Z:=X1 (P.o)
       have a0:=X1 (E.o)
       clear z v b1
       have b4:=X1 (Yc K.o [41] #[41] rfl)
       go_wp2_with fail
       refine b4.o.mono ?_
       rintro f8 f3 ⟨rfl,d9,a1,a2⟩
       have b0:=X1 a1
       have b2:=X1 (W.o.trans a2)
       have b7:=X1 (Z.o.need (sz:=sz) [41])
       have c1:=X1 (a0.o.need (sz:=sz) [41])
       clear a1 a2 b4
       go_wp2
       go_ret
       exact ⟨(_,n+1),by first | rfl | (unfold Ki;go_num),M.o _ (Pr.Cv.argsL_namedEnd hbad hg hb ic b5.o),d9,b0.o,b2.o⟩
      ·have b1:=X1 (YC N.o [44] #[44] rfl ic)
       go_wp2_with fail
       refine b1.o.mono ?_
       rintro e7 c7 ⟨rfl,c5,z,v⟩
       have K:=X1 z
       have W:=X1 (U.o.trans v)
       have Z:=X1 (P.o.adv ic)
       have a0:=X1 (E.o.adv ic)
       clear z v b1
       have HM:=X1 (show XQ b ts c7 < XQ b ts wr from by rw [K.o.left,X.o.left];have:=E.o.ge;have:=XG ic;rw [Pr.adv_p] at *;omega)
       have b6:=X1 (show n+1≤(X7 (Xj e4.1 18 0 0 (Xd ts sz q) 1)).p from by have:=E.o.ge;rw [Pr.adv_p] at *;omega)
       go_wp2
       go_roundw
       case rel=>exact ⟨n+1,true,_,c5,by go_num,rfl,b6.o,K.o,W.o,Z.o.mono (by first | omega | (simp only [X6];omega)),fun r2 h=>M.o _ (Pr.Cv.argsL_named hbad hg hb ic b5.o h)⟩
       case measure=>exact HM.o
    ·have hb:(true || Ym ts sz q)=true:=rfl
     have a8:=X1 (Q0 X.o)
     go_wp2_with fail
     refine a8.o.mono ?_
     rintro f1 f2 ⟨rfl,d4,B,A⟩
     have Q:=X1 B
     have V:=X1 (b3.o.trans A)
     have C:=X1 (S.o.name (sz:=sz))
     have Y:=X1 (c9.o.name (sz:=sz))
     clear B A a8
     have a5:=X1 (Yc Q.o [61] #[61] rfl)
     go_wp2_with fail
     refine a5.o.mono ?_
     rintro d5 d7 ⟨rfl,d0,c,i⟩
     have L:=X1 c
     have I:=X1 (V.o.trans i)
     have k:=X1 (C.o.need (sz:=sz) [61])
     have m:=X1 (Y.o.need (sz:=sz) [61])
     clear c i a5
     have a3:=X1 (ihE _ (Nat.le_trans S.o.ge m.o.ge) k.o.le _ _ L.o (k.o.phi (by first | omega | (simp only [X6];omega)) h0 hN))
     go_wp2_with fail
     refine a3.o.mono ?_
     rintro d8 c8 ⟨e0,rfl,a6,d2,j,f⟩
     have b8:=X1 a6
     have H:=X1 j
     have J:=X1 (I.o.trans f)
     have a:=X1 (k.o.trans (a6.stp k.o.le))
     have l:=X1 (m.o.trans (a6.stp m.o.le))
     clear a6 j f a3
     have a4:=X1 (XR H.o (a.o.len (by first | omega | (simp only [X6];omega)) h0 hN) 18 0 0 (Xd ts sz q) 1)
     go_wp2_with fail
     refine a4.o.mono ?_
     rintro d3 d1 ⟨rfl,c4,d,g⟩
     have F:=X1 d
     have O:=X1 (J.o.trans g)
     have r:=X1 (a.o.put 18 0 0 (Xd ts sz q) 1)
     have D:=X1 (l.o.put 18 0 0 (Xd ts sz q) 1)
     clear d g a4
     cases ic:Xa ts sz (Xj e0.1 18 0 0 (Xd ts sz q) 1) [44]
     ·have a9:=X1 (XU F.o [44] #[44] rfl ic)
      go_wp2_with fail
      refine a9.o.mono ?_
      rintro e1 d6 ⟨rfl,c6,y,x⟩
      have N:=X1 y
      have U:=X1 (O.o.trans x)
      have P:=X1 (r.o)
      have E:=X1 (D.o)
      clear y x a9
      have b1:=X1 (Yc N.o [41] #[41] rfl)
      go_wp2_with fail
      refine b1.o.mono ?_
      rintro e7 c7 ⟨rfl,c5,z,v⟩
      have K:=X1 z
      have W:=X1 (U.o.trans v)
      have Z:=X1 (P.o.need (sz:=sz) [41])
      have a0:=X1 (E.o.need (sz:=sz) [41])
      clear z v b1
      go_wp2
      go_ret
      exact ⟨(_,n+1),by first | rfl | (unfold Ki;go_num),M.o _ (Pr.Cv.argsL_namedEnd hbad hg hb ic b8.o),c5,K.o,W.o⟩
     ·have a9:=X1 (YC F.o [44] #[44] rfl ic)
      go_wp2_with fail
      refine a9.o.mono ?_
      rintro e1 d6 ⟨rfl,c6,y,x⟩
      have N:=X1 y
      have U:=X1 (O.o.trans x)
      have P:=X1 (r.o.adv ic)
      have E:=X1 (D.o.adv ic)
      clear y x a9
      have HM:=X1 (show XQ b ts d6 < XQ b ts wr from by rw [N.o.left,X.o.left];have:=D.o.ge;have:=XG ic;rw [Pr.adv_p] at *;omega)
      have b6:=X1 (show n+1≤(X7 (Xj e0.1 18 0 0 (Xd ts sz q) 1)).p from by have:=D.o.ge;rw [Pr.adv_p] at *;omega)
      go_wp2
      go_roundw
      case rel=>exact ⟨n+1,true,_,c6,by go_num,rfl,b6.o,N.o,U.o,P.o.mono (by first | omega | (simp only [X6];omega)),fun r2 h=>M.o _ (Pr.Cv.argsL_named hbad hg hb ic b8.o h)⟩
      case measure=>exact HM.o
  ·rw [hbad] at c3
   have a8:=X1 (Yc X.o [41] #[41] rfl)
   go_wp2_with fail
   refine a8.o.mono ?_
   rintro f1 f2 ⟨rfl,d4,B,A⟩
   have Q:=X1 B
   have V:=X1 (b3.o.trans A)
   have C:=X1 (S.o.need (sz:=sz) [41])
   clear B A a8
   go_wp2
   go_ret
   exact ⟨(_,n),by first | rfl | (unfold Ki;go_num),M.o _ (Pr.Cv.argsL_bad hbad),d4,Q.o,V.o⟩
end Go.Proofs.YtimbaebigjjkaaaGreatDoor
