/- Hh, Hi, Hj, Hk. -/
import Derived.Test.YtimbaebigjjkaaaGreatDoorP05
namespace Go.Proofs.YtimbaebigjjkaaaGreatDoor
open Go.RowKit
set_option maxRecDepth 100000 in
set_option maxHeartbeats 1000000 in
theorem rankP_any (o:Nat) (w:World):Calls Tryz.prog 123 #[.int .i64 o] w fun e w'=>e = .returned (.int .i64 (Zx o))∧w'=w:=by
 by_cases h1:o≤2
 ·have e1:(o:Int)≤2:=by omega
  have e:Zx o=o:=by unfold Zx;rw [if_pos h1]
  rw [e]
  go_enter Tryz.func123,Tryz.ntmps123
  go_wp2
  go_ret
  exact ⟨rfl,rfl⟩
 ·have e1:¬ (o:Int)≤2:=by omega
  by_cases h2:o≤9
  ·have e2:(o:Int)≤9:=by omega
   have e:Zx o=4:=by unfold Zx;rw [if_neg h1,if_pos h2]
   rw [e]
   go_enter Tryz.func123,Tryz.ntmps123
   go_wp2
   go_ret
   exact ⟨rfl,rfl⟩
  ·have e2:¬ (o:Int)≤9:=by omega
   by_cases h3:o≤11
   ·have e3:(o:Int)≤11:=by omega
    have e:Zx o=5:=by unfold Zx;rw [if_neg h1,if_neg h2,if_pos h3]
    rw [e]
    go_enter Tryz.func123,Tryz.ntmps123
    go_wp2
    go_ret
    exact ⟨rfl,rfl⟩
   ·have e3:¬ (o:Int)≤11:=by omega
    have e:Zx o=6:=by unfold Zx;rw [if_neg h1,if_neg h2,if_neg h3]
    rw [e]
    go_enter Tryz.func123,Tryz.ntmps123
    go_wp2
    go_ret
    exact ⟨rfl,rfl⟩
def MPost (w:World) (o:Nat) (e:Ending) (w':World):Prop:=e = .returned (.string ⟨(U8 o).toArray⟩)∧Below w.heap.size w w'
set_option maxRecDepth 100000 in
set_option maxHeartbeats 4000000 in
theorem markP_any (o:Nat) (w:World) (h1:1≤o) (ho:o≤14):Calls Tryz.prog 124 #[.int .i64 o] w (MPost w o):=by
 have hb:=((Below.refl w.heap.size w).alloc (Nat.le_refl _) (.cells #[.string ⟨#[]⟩,.string ⟨#[111,114]⟩,.string ⟨#[97,110,100]⟩,.string ⟨#[61,61]⟩,.string ⟨#[33,61]⟩,.string ⟨#[60]⟩,.string ⟨#[60,61]⟩,.string ⟨#[62]⟩,.string ⟨#[62,61]⟩,.string ⟨#[104,97,115]⟩,.string ⟨#[43]⟩,.string ⟨#[45]⟩,.string ⟨#[42]⟩,.string ⟨#[47]⟩,.string ⟨#[37]⟩] 9))
 have hc:o=1∨o=2∨o=3∨o=4∨o=5∨o=6∨o=7∨o=8∨o=9∨o=10∨o=11∨o=12∨o=13∨o=14:=by omega
 have HB:=X1 hb
 clear hb h1 ho
 rcases hc with rfl | rfl | rfl | rfl | rfl | rfl | rfl | rfl | rfl | rfl | rfl | rfl | rfl | rfl
 all_goals
  go_enter Tryz.func124,Tryz.ntmps124
  go_wp2
  go_ret
  exact ⟨rfl,HB.o⟩
theorem Pr.opFrom_yes {ts:List Sc.T} {sz:Nat} {s:Pr.Dk} {r o:Nat} (ho:o≤14) (h1:Zx o=r) (h2:Xa ts sz s (U8 o)=true):Zp ts sz s r (15 - o) o=o:=by
 rw [show 15 - o=(14 - o)+1 from by omega,Zp,h1,h2];simp
theorem U6 {ts:List Sc.T} {sz:Nat} {s:Pr.Dk} {r o:Nat} (ho:o≤14) (h:Zx o=r→Xa ts sz s (U8 o)=false):Zp ts sz s r (15 - o) o=Zp ts sz s r (15 - (o+1)) (o+1):=by
 rw [show 15 - o=(14 - o)+1 from by omega,Zp,show 15 - (o+1)=14 - o from by omega]
 by_cases h1:Zx o=r
 ·rw [h h1];simp
 ·simp [h1]
set_option maxRecDepth 100000 in
set_option maxHeartbeats 4000000 in
theorem op_any {b tg tc:Nat} {ts:List Sc.T} {sz:Nat} {v:Value} {s:Pr.Dk} {w:World} (h:DK b tg tc ts sz v s w) (r:Nat) :
  Calls Tryz.prog 111 #[.pointer (some ⟨b,0,none⟩),.int .i64 r] w fun e w'=>e = .returned (.int .i64 (Kb ts sz s r))∧Below w.heap.size w w':=by
 have HH:=X1 h
 clear h
 go_enter Tryz.func111,Tryz.ntmps111
 go_wp2_with fail
 go_loopw [5] (fun t wr=>∃ o:Nat,1≤o∧o≤15∧t = .int .i64 o∧Kb ts sz s r=Zp ts sz s r (15 - o) o∧Below w.heap.size w wr) (fun t _=>15 - (intOf t).toNat)
 case atStart=>exact ⟨1,by omega,by omega,rfl,rfl,Below.refl _ _⟩
 case round =>
  obtain ⟨o,ho1,ho2,rfl,he,hB⟩:=hrel
  have HE:=X1 he
  have HB:=X1 hB
  clear he hB
  by_cases hlt:o≤14
  ·have a0:(o:Int)≤14:=by omega
   have HR:=X1 (fun W=>rankP_any o W)
   by_cases hr:Zx o=r
   ·have j:((Zx o:Nat):Int)=r:=by omega
    have HM:=X1 (fun W=>markP_any o W ho1 hlt)
    cases hi:Xa ts sz s (U8 o)
    ·have HN:=X1 (U6 (ts:=ts) (sz:=sz) (s:=s) hlt (fun _=>hi) (r:=r))
     go_wp2_with (first
      | (go_at_call 123;refine (HR.o _).mono ?_;rintro e w1 ⟨rfl,rfl⟩;rw [j])
      | (go_at_call 124;refine (HM.o _).mono ?_;rintro e w2 ⟨rfl,g⟩;have d:=HB.o.trans (g.mono HB.o.size);have a:=X1 d;clear g d)
      | (go_at_call 101;refine (is_any (HH.o.below a.o) _).mono ?_;rintro e w3 ⟨rfl,c⟩;have f:=a.o.trans (c.mono a.o.size);have i:=X1 f;clear c f;simp only [hi]))
     go_roundw
     case rel=>exact ⟨o+1,by omega,by omega,by go_num,HE.o.trans HN.o,i.o⟩
     case measure=>simp [intOf];omega
    ·have HN:=X1 (Pr.opFrom_yes (ts:=ts) (sz:=sz) (s:=s) hlt hr hi)
     go_wp2_with (first
      | (go_at_call 123;refine (HR.o _).mono ?_;rintro e w1 ⟨rfl,rfl⟩;rw [j])
      | (go_at_call 124;refine (HM.o _).mono ?_;rintro e w2 ⟨rfl,g⟩;have d:=HB.o.trans (g.mono HB.o.size);have a:=X1 d;clear g d)
      | (go_at_call 101;refine (is_any (HH.o.below a.o) _).mono ?_;rintro e w3 ⟨rfl,c⟩;have f:=a.o.trans (c.mono a.o.size);have i:=X1 f;clear c f;simp only [hi]))
     go_ret
     exact ⟨by rw [HE.o,HN.o];rfl,i.o⟩
   ·have j:¬ ((Zx o:Nat):Int)=r:=by omega
    have HN:=X1 (U6 (ts:=ts) (sz:=sz) (s:=s) (r:=r) hlt (fun e=>absurd e hr))
    go_wp2_with (go_at_call 123;refine (HR.o _).mono ?_;rintro e w1 ⟨rfl,rfl⟩)
    go_roundw
    case rel=>exact ⟨o+1,by omega,by omega,by go_num,HE.o.trans HN.o,HB.o⟩
    case measure=>simp [intOf];omega
  ·have a0:¬ (o:Int)≤14:=by omega
   have ho:o=15:=by omega
   have HN:Hid (Zp ts sz s r (15 - o) o=0):=X1 (by rw [ho];rfl)
   go_wp2
   go_ret
   exact ⟨by rw [HE.o,HN.o];rfl,HB.o⟩
def XQ (b:Nat) (ts:List Sc.T) (w:World):Nat:=ts.length - (intOf ((w.cell? ⟨b,2,none⟩).getD (.int .i64 0))).toNat
theorem DK.left {b tg tc:Nat} {ts:List Sc.T} {sz:Nat} {v:Value} {s:Pr.Dk} {w:World} (h:DK b tg tc ts sz v s w):XQ b ts w=ts.length - s.p:=by
 unfold XQ;rw [h.c2];simp [intOf]
abbrev Pr.SOi (b tg tc:Nat) (ts:List Sc.T) (sz:Nat) (i:Int) (r:Nat) (s:Pr.Dk):Prop:=Kx b tg tc ts sz 102 [.int .i64 i] Pr.un (.ops r) s
set_option maxRecDepth 100000 in
set_option maxHeartbeats 2000000 in
theorem ops_bad {b tg tc:Nat} {ts:List Sc.T} {sz:Nat} {s:Pr.Dk} (r:Nat) (hbad:s.bad=true):Pr.SOi b tg tc ts sz r r s:=by
 intro v0 w0 a hN
 have HD0:=X1 a
 have c3:=a.c3
 rw [hbad] at c3
 clear a
 go_enter Tryz.func102,Tryz.ntmps102
 go_wp2
 (first | go_end0 | refine bodyPost_ret (results_none rfl _ _ _) rfl ?_)
 exact ⟨(s,0),rfl,Pr.Cv.ops_bad hbad,v0,HD0.o,.refl _ _ _⟩
set_option maxRecDepth 100000 in
set_option maxHeartbeats 2000000 in
theorem ops_at3 {b tg tc:Nat} {ts:List Sc.T} {sz:Nat} {s:Pr.Dk} (hbad:s.bad=false) (ihE:∀ q:Pr.Dk,s.p < q.p→q.p≤ts.length→Pr.SOi b tg tc ts sz 3 3 q) (ihN:Pr.SOi b tg tc ts sz 4 4 s):Pr.SOi b tg tc ts sz 3 3 s:=by
 intro v0 w0 j hN
 have h0:=j.le
 have HD0:=X1 j
 have HG0:=X1 (Pr.Gr.refl b v0 w0)
 have HS0:=X1 (Pr.Stp.refl h0)
 have c3:=j.c3
 rw [hbad] at c3
 clear j
 cases hi:Xa ts sz s Ji
 ·go_enter Tryz.func102,Tryz.ntmps102
  have Q1:=X1 (XU HD0.o Ji #[110,111,116] rfl hi)
  go_wp2_with fail
  refine Q1.o.mono ?_
  rintro e1 w1 ⟨rfl,v1,d,g⟩
  have m:=X1 d
  have l:=X1 (HG0.o.trans g)
  have a:=X1 (HS0.o)
  clear d g Q1
  have Q2:=X1 (ihN _ _ m.o (a.o.phi (by first | omega | (simp only [X6];omega)) h0 hN))
  go_wp2_with fail
  refine Q2.o.mono ?_
  rintro e2 w2 ⟨r2,rfl,c,v2,f,i⟩
  have t:=X1 c
  have r:=X1 f
  have n:=X1 (l.o.trans i)
  have k:=X1 (a.o.trans (c.stp a.o.le))
  clear c f i Q2
  go_wp2
  (first | go_end0 | refine bodyPost_ret (results_none rfl _ _ _) rfl ?_)
  exact ⟨_,rfl,Pr.Cv.ops_3 hbad hi t.o,v2,r.o,n.o⟩
 ·go_enter Tryz.func102,Tryz.ntmps102
  have Q1:=X1 (YC HD0.o Ji #[110,111,116] rfl hi)
  go_wp2_with fail
  refine Q1.o.mono ?_
  rintro e1 w1 ⟨rfl,v1,d,g⟩
  have m:=X1 d
  have l:=X1 (HG0.o.trans g)
  have a:=X1 (HS0.o.adv hi)
  clear d g Q1
  have u:=X1 (Pr.Stp.refl a.o.le)
  have Q2:=X1 (ihE _ u.o.ge a.o.le _ _ m.o (a.o.phi (by first | omega | (simp only [X6];omega)) h0 hN))
  go_wp2_with fail
  refine Q2.o.mono ?_
  rintro e2 w2 ⟨r2,rfl,c,v2,f,i⟩
  have t:=X1 c
  have r:=X1 f
  have n:=X1 (l.o.trans i)
  have k:=X1 (a.o.trans (c.stp a.o.le))
  have HA2:=X1 (u.o.trans (c.stp u.o.le))
  clear c f i Q2
  have Q3:=X1 (XR r.o (k.o.len (by first | omega | (simp only [X6];omega)) h0 hN) 6 1 0 [] 1)
  go_wp2_with fail
  refine Q3.o.mono ?_
  rintro e3 w3 ⟨rfl,v3,hd3,hg3⟩
  have HD3:=X1 hd3
  have HG3:=X1 (n.o.trans hg3)
  have HS3:=X1 (k.o.put 6 1 0 [] 1)
  have HA3:=X1 (HA2.o.put 6 1 0 [] 1)
  clear hd3 hg3 Q3
  go_wp2
  (first | go_end0 | refine bodyPost_ret (results_none rfl _ _ _) rfl ?_)
  exact ⟨(_,0),rfl,Pr.Cv.ops_not hbad hi t.o,v3,HD3.o,HG3.o⟩
set_option maxRecDepth 100000 in
set_option maxHeartbeats 2000000 in
theorem ops_at7 {b tg tc:Nat} {ts:List Sc.T} {sz:Nat} {s:Pr.Dk} (hbad:s.bad=false) (ihE:∀ q:Pr.Dk,s.p < q.p→q.p≤ts.length→Pr.SOi b tg tc ts sz 7 7 q) (ihN:Pr.ST b tg tc ts sz s):Pr.SOi b tg tc ts sz 7 7 s:=by
 intro v0 w0 j hN
 have h0:=j.le
 have HD0:=X1 j
 have HG0:=X1 (Pr.Gr.refl b v0 w0)
 have HS0:=X1 (Pr.Stp.refl h0)
 have c3:=j.c3
 rw [hbad] at c3
 clear j
 cases hi:Xa ts sz s [45]
 ·go_enter Tryz.func102,Tryz.ntmps102
  have Q1:=X1 (XU HD0.o [45] #[45] rfl hi)
  go_wp2_with fail
  refine Q1.o.mono ?_
  rintro e1 w1 ⟨rfl,v1,d,g⟩
  have m:=X1 d
  have l:=X1 (HG0.o.trans g)
  have a:=X1 (HS0.o)
  clear d g Q1
  have Q2:=X1 (ihN _ _ m.o (a.o.phi (by first | omega | (simp only [X6];omega)) h0 hN))
  go_wp2_with fail
  refine Q2.o.mono ?_
  rintro e2 w2 ⟨r2,rfl,c,v2,f,i⟩
  have t:=X1 c
  have r:=X1 f
  have n:=X1 (l.o.trans i)
  have k:=X1 (a.o.trans (c.stp a.o.le))
  clear c f i Q2
  go_wp2
  (first | go_end0 | refine bodyPost_ret (results_none rfl _ _ _) rfl ?_)
  exact ⟨_,rfl,Pr.Cv.ops_7 hbad rfl hi t.o,v2,r.o,n.o⟩
 ·go_enter Tryz.func102,Tryz.ntmps102
  have Q1:=X1 (YC HD0.o [45] #[45] rfl hi)
  go_wp2_with fail
  refine Q1.o.mono ?_
  rintro e1 w1 ⟨rfl,v1,d,g⟩
  have m:=X1 d
  have l:=X1 (HG0.o.trans g)
  have a:=X1 (HS0.o.adv hi)
  clear d g Q1
  have u:=X1 (Pr.Stp.refl a.o.le)
  have Q2:=X1 (ihE _ u.o.ge a.o.le _ _ m.o (a.o.phi (by first | omega | (simp only [X6];omega)) h0 hN))
  go_wp2_with fail
  refine Q2.o.mono ?_
  rintro e2 w2 ⟨r2,rfl,c,v2,f,i⟩
  have t:=X1 c
  have r:=X1 f
  have n:=X1 (l.o.trans i)
  have k:=X1 (a.o.trans (c.stp a.o.le))
  have HA2:=X1 (u.o.trans (c.stp u.o.le))
  clear c f i Q2
  have Q3:=X1 (XR r.o (k.o.len (by first | omega | (simp only [X6];omega)) h0 hN) 6 2 0 [] 1)
  go_wp2_with fail
  refine Q3.o.mono ?_
  rintro e3 w3 ⟨rfl,v3,hd3,hg3⟩
  have HD3:=X1 hd3
  have HG3:=X1 (n.o.trans hg3)
  have HS3:=X1 (k.o.put 6 2 0 [] 1)
  have HA3:=X1 (HA2.o.put 6 2 0 [] 1)
  clear hd3 hg3 Q3
  go_wp2
  (first | go_end0 | refine bodyPost_ret (results_none rfl _ _ _) rfl ?_)
  exact ⟨(_,0),rfl,Pr.Cv.ops_neg hbad rfl hi t.o,v3,HD3.o,HG3.o⟩
set_option maxRecDepth 100000 in
set_option maxHeartbeats 4000000 in
theorem ops_at {b tg tc:Nat} {ts:List Sc.T} {sz:Nat} {s:Pr.Dk} (r:Nat) (hr:r≤6) (hr3:r≠3) (hbad:s.bad=false) (ihF:∀ q:Pr.Dk,s.p < q.p→q.p≤ts.length→Pr.SOi b tg tc ts sz ((r:Int)+1) (r+1) q) (ihN:Pr.SOi b tg tc ts sz ((r:Int)+1) (r+1) s):Pr.SOi b tg tc ts sz r r s:=by
 intro v0 w0 I hN
 have h0:=I.le
 have HD0:=X1 I
 have HG0:=X1 (Pr.Gr.refl b v0 w0)
 have M:=X1 (Pr.Stp.refl h0)
 have c3:=I.c3
 rw [hbad] at c3
 clear I
 have hm:=HD0.o.most
 have e3:¬ (r:Int)=3:=by omega
 have e7:¬ (r:Int)=7:=by omega
 have b3:(r == 3)=false:=by simp [hr3]
 have b7:(r == 7)=false:=by simp;omega
 go_enter Tryz.func102,Tryz.ntmps102
 have Q1:=X1 (ihN _ _ HD0.o (M.o.phi (by first | omega | (simp only [X6];omega)) h0 hN))
 go_wp2_with fail
 refine Q1.o.mono ?_
 rintro e1 w1 ⟨r1,rfl,L,v1,hd1,hg1⟩
 have HC1:=X1 L
 have HD1:=X1 hd1
 have HG1:=X1 (HG0.o.trans hg1)
 have HS1:=X1 (M.o.trans (L.stp M.o.le))
 clear L hd1 hg1 Q1
 have HI:=X1 (show ∀ r2,Pr.Cv ts sz (.opsL r) r1.1 r2→Pr.Cv ts sz (.ops r) s r2 from fun r2 h=>Pr.Cv.ops_r hbad b3 b7 HC1.o h)
 clear HC1
 go_wp2_with fail
 go_loopw [4] (fun _ wr=>∃ (q:Pr.Dk) (vq:Value),DK b tg tc ts sz vq q wr∧Pr.Gr b v0 vq w0 wr∧Pr.Stp ts s q 0∧∀ r2,Pr.Cv ts sz (.opsL r) q r2→Pr.Cv ts sz (.ops r) s r2) (fun _ wr=>XQ b ts wr)
 case atStart=>exact ⟨r1.1,v1,HD1.o,HG1.o,HS1.o.mono (by first | omega | (simp only [X6];omega)),HI.o⟩
 case round =>
  obtain ⟨q,N,x,a2,a4,a1⟩:=hrel
  have l:=X1 x
  have u:=X1 a2
  have t:=X1 a4
  have z:=X1 a1
  have HQ:=X1 (op_any x r)
  clear x a2 a4 a1 HI HD1 HG1 HS1
  cases hz:(Kb ts sz q r == 0)
  ·have J:=Pr.op_lt hz
   have hzi:¬ ((Kb ts sz q r:Nat):Int)=0:=by simp at hz;omega
   by_cases h4:r=4
   ·subst h4
    go_wp2_with fail
    refine HQ.o.mono ?_
    rintro e w2 ⟨rfl,k⟩
    have n:=l.o.below k
    have c2:=n.c2
    have f2:=n.fr 2
    have H:=n.adv J
    have v:=X1 H
    have A:=X1 ((u.o.trans (.below k)).trans (.set N _ b 2 (.int .i64 ((q.p:Int)+1))))
    have a:=X1 (t.o.advL J)
    clear n H k
    have F:=X1 (ihF _ (Nat.lt_succ_of_le t.o.ge) a.o.le _ _ v.o (a.o.phi (by first | omega | (simp only [X6];omega)) h0 hN))
    go_wp2_with fail
    refine F.o.mono ?_
    rintro e12 w12 ⟨r12,rfl,c,v12,g,j⟩
    have y:=X1 c
    have C:=X1 g
    have D:=X1 (A.o.trans j)
    have f:=X1 (a.o.trans (c.stp a.o.le))
    clear c g j F
    have E:=X1 (XR C.o (f.o.len (by first | omega | (simp only [X6];omega)) h0 hN) 7 (Kb ts sz q 4:Nat) 0 [] 2)
    go_wp2_with fail
    refine E.o.mono ?_
    rintro e13 w13 ⟨rfl,K,d,i⟩
    have m:=X1 d
    have B:=X1 (D.o.trans i)
    have a3:=X1 (f.o.put 7 (Kb ts sz q 4:Nat) 0 [] 2)
    clear d i E
    go_wp2
    (first | go_end0 | refine bodyPost_ret (results_none rfl _ _ _) rfl ?_)
    exact ⟨(_,0),rfl,z.o _ (Pr.Cv.opsL_4 hz y.o),K,m.o,B.o⟩
   ·have e4:¬ (r:Int)=4:=by omega
    have b4:(r == 4)=false:=by simp [h4]
    go_wp2_with fail
    refine HQ.o.mono ?_
    rintro e w2 ⟨rfl,k⟩
    have n:=l.o.below k
    have c2:=n.c2
    have f2:=n.fr 2
    have H:=n.adv J
    have v:=X1 H
    have A:=X1 ((u.o.trans (.below k)).trans (.set N _ b 2 (.int .i64 ((q.p:Int)+1))))
    have a:=X1 (t.o.advL J)
    clear n H k
    have a0:=X1 (Pr.Stp.refl a.o.le)
    have F:=X1 (ihF _ (Nat.lt_succ_of_le t.o.ge) a.o.le _ _ v.o (a.o.phi (by first | omega | (simp only [X6];omega)) h0 hN))
    go_wp2_with fail
    refine F.o.mono ?_
    rintro e12 w12 ⟨r12,rfl,c,v12,g,j⟩
    have y:=X1 c
    have C:=X1 g
    have D:=X1 (A.o.trans j)
    have f:=X1 (a.o.trans (c.stp a.o.le))
    have a5:=X1 (a0.o.trans (c.stp a0.o.le))
    clear c g j F
    have E:=X1 (XR C.o (f.o.len (by first | omega | (simp only [X6];omega)) h0 hN) 7 (Kb ts sz q r:Nat) 0 [] 2)
    go_wp2_with fail
    refine E.o.mono ?_
    rintro e13 w13 ⟨rfl,K,d,i⟩
    have m:=X1 d
    have B:=X1 (D.o.trans i)
    have a3:=X1 (f.o.put 7 (Kb ts sz q r:Nat) 0 [] 2)
    have a6:=X1 (a5.o.put 7 (Kb ts sz q r:Nat) 0 [] 2)
    clear d i E
    have HM:=X1 (show XQ b ts w13 < XQ b ts wr from by rw [m.o.left,l.o.left];have:=a6.o.ge;rw [Pr.adv_p] at this;omega)
    go_wp2
    go_roundw
    case rel=>exact ⟨_,K,m.o,B.o,a3.o.mono (by first | omega | (simp only [X6];omega)),fun r2 h=>z.o _ (Pr.Cv.opsL_go hz b4 y.o h)⟩
    case measure=>exact HM.o
  ·have hzi:((Kb ts sz q r:Nat):Int)=0:=by simp at hz;omega
   rw [hzi] at HQ
   go_wp2_with fail
   refine HQ.o.mono ?_
   rintro e w2 ⟨rfl,k⟩
   have HB2:=X1 k
   clear k
   go_wp2
   (first | go_end0 | refine bodyPost_ret (results_none rfl _ _ _) rfl ?_)
   exact ⟨(q,0),rfl,z.o _ (Pr.Cv.opsL_end hz),N,l.o.below HB2.o,u.o.trans (.below HB2.o)⟩
set_option maxRecDepth 100000 in
set_option maxHeartbeats 4000000 in
theorem post_says {b tg tc:Nat} {ts:List Sc.T} {sz:Nat} {s:Pr.Dk} (ihS:Pr.SI b tg tc ts sz s) (ihE:∀ q:Pr.Dk,s.p < q.p→q.p≤ts.length→Pr.SE b tg tc ts sz q) (ihA:∀ q:Pr.Dk,s.p < q.p→q.p≤ts.length→Pr.SA b tg tc ts sz q):Pr.ST b tg tc ts sz s:=by
 intro v0 w0 a7 hN
 have h0:=a7.le
 have hm:=a7.most
 have HD0:=X1 a7
 have HG0:=X1 (Pr.Gr.refl b v0 w0)
 have b3:=X1 (Pr.Stp.refl h0)
 clear a7
 go_enter Tryz.func110,Tryz.ntmps110
 have Q1:=X1 (ihS _ _ HD0.o (b3.o.phi (by first | omega | (simp only [X6];omega)) h0 hN))
 go_wp2_with fail
 refine Q1.o.mono ?_
 rintro e1 w1 ⟨r1,rfl,b2,v1,hd1,hg1⟩
 have HC1:=X1 b2
 have HD1:=X1 hd1
 have HG1:=X1 (HG0.o.trans hg1)
 have HS1:=X1 (b3.o.trans (b2.stp b3.o.le))
 clear b2 hd1 hg1 Q1
 have HI:=X1 (show ∀ r2,Pr.Cv ts sz .postL r1.1 r2→Pr.Cv ts sz .post s r2 from fun r2 h=>Pr.Cv.post HC1.o h)
 clear HC1
 go_wp2_with fail
 go_loopw [9] (fun _ wr=>∃ (q:Pr.Dk) (vq:Value),DK b tg tc ts sz vq q wr∧Pr.Gr b v0 vq w0 wr∧Pr.Stp ts s q 0∧∀ r2,Pr.Cv ts sz .postL q r2→Pr.Cv ts sz .post s r2) (fun _ wr=>XQ b ts wr)
 case atStart=>exact ⟨r1.1,v1,HD1.o,HG1.o,HS1.o.mono (by first | omega | (simp only [X6];omega)),HI.o⟩
 case round =>
  obtain ⟨q,v10,S,a2,a3,a4⟩:=hrel
  have c3:=S.c3
  have l:=X1 S
  have z:=X1 a2
  have y:=X1 a3
  have K:=X1 a4
  clear S a2 a3 a4 HI HD1 HG1 HS1
  cases hbad:q.bad
  ·rw [hbad] at c3
   cases i0:Xa ts sz q [40]
   ·cases i1:Xa ts sz q [91]
    ·cases i2:Xa ts sz q [46]
     ·have B:=X1 (XU l.o [40] #[40] rfl i0)
      go_wp2_with fail
      refine B.o.mono ?_
      rintro b9 c0 ⟨rfl,b0,j,i⟩
      have r:=X1 j
      have x:=X1 (z.o.trans i)
      have d:=X1 (y.o)
      clear j i B
      have E:=X1 (XU r.o [91] #[91] rfl i1)
      go_wp2_with fail
      refine E.o.mono ?_
      rintro b1 b6 ⟨rfl,b5,c,g⟩
      have v:=X1 c
      have n:=X1 (x.o.trans g)
      have a:=X1 (d.o)
      clear c g E
      have C:=X1 (XU v.o [46] #[46] rfl i2)
      go_wp2_with fail
      refine C.o.mono ?_
      rintro b7 a6 ⟨rfl,a5,k,f⟩
      have m:=X1 k
      have u:=X1 (n.o.trans f)
      have t:=X1 (a.o)
      clear k f C
      go_wp2
      (first | go_end0 | refine bodyPost_ret (results_none rfl _ _ _) rfl ?_)
      exact ⟨(q,0),rfl,K.o _ (Pr.Cv.postL_end hbad i0 i1 i2),a5,m.o,u.o⟩
     ·have B:=X1 (XU l.o [40] #[40] rfl i0)
      go_wp2_with fail
      refine B.o.mono ?_
      rintro b9 c0 ⟨rfl,b0,j,i⟩
      have r:=X1 j
      have x:=X1 (z.o.trans i)
      have d:=X1 (y.o)
      clear j i B
      have E:=X1 (XU r.o [91] #[91] rfl i1)
      go_wp2_with fail
      refine E.o.mono ?_
      rintro b1 b6 ⟨rfl,b5,c,g⟩
      have v:=X1 c
      have n:=X1 (x.o.trans g)
      have a:=X1 (d.o)
      clear c g E
      have C:=X1 (YC v.o [46] #[46] rfl i2)
      go_wp2_with fail
      refine C.o.mono ?_
      rintro b7 a6 ⟨rfl,a5,k,f⟩
      have m:=X1 k
      have u:=X1 (n.o.trans f)
      have t:=X1 (a.o.adv i2)
      clear k f C
      have I:=X1 (Pr.Stp.refl t.o.le)
      have Z:=X1 (Q0 m.o)
      go_wp2_with fail
      refine Z.o.mono ?_
      rintro e14 w14 ⟨rfl,v14,A,F⟩
      have W:=X1 A
      have Y:=X1 (u.o.trans F)
      have L:=X1 (t.o.name (sz:=sz))
      have X:=X1 (I.o.name (sz:=sz))
      clear A F Z
      have a1:=X1 (XR W.o (L.o.len (by first | omega | (simp only [X6];omega)) h0 hN) 11 0 0 (Xd ts sz (X7 q)) 1)
      go_wp2_with fail
      refine a1.o.mono ?_
      rintro e15 b4 ⟨rfl,a8,H,D⟩
      have M:=X1 H
      have V:=X1 (Y.o.trans D)
      have Q:=X1 (L.o.put 11 0 0 (Xd ts sz (X7 q)) 1)
      have U:=X1 (X.o.put 11 0 0 (Xd ts sz (X7 q)) 1)
      clear H D a1
      have HM:=X1 (show XQ b ts b4 < XQ b ts wr from by rw [M.o.left,l.o.left];have:=U.o.ge;have:=XG i2;rw [Pr.adv_p] at *;omega)
      go_wp2
      go_roundw
      case rel=>exact ⟨_,a8,M.o,V.o,Q.o.mono (by first | omega | (simp only [X6];omega)),fun r2 h=>K.o _ (Pr.Cv.postL_dot hbad i0 i1 i2 h)⟩
      case measure=>exact HM.o
    ·have B:=X1 (XU l.o [40] #[40] rfl i0)
     go_wp2_with fail
     refine B.o.mono ?_
     rintro b9 c0 ⟨rfl,b0,j,i⟩
     have r:=X1 j
     have x:=X1 (z.o.trans i)
     have d:=X1 (y.o)
     clear j i B
     have E:=X1 (YC r.o [91] #[91] rfl i1)
     go_wp2_with fail
     refine E.o.mono ?_
     rintro b1 b6 ⟨rfl,b5,c,g⟩
     have v:=X1 c
     have n:=X1 (x.o.trans g)
     have a:=X1 (d.o.adv i1)
     clear c g E
     have J:=X1 (Pr.Stp.refl a.o.le)
     have C:=X1 (ihE _ (Nat.lt_of_lt_of_le (Nat.lt_succ_of_le y.o.ge) J.o.ge) a.o.le _ _ v.o (a.o.phi (by first | omega | (simp only [X6];omega)) h0 hN))
     go_wp2_with fail
     refine C.o.mono ?_
     rintro b7 a6 ⟨r13,rfl,O,a5,k,f⟩
     have b8:=X1 O
     have m:=X1 k
     have u:=X1 (n.o.trans f)
     have t:=X1 (a.o.trans (O.stp a.o.le))
     have I:=X1 (J.o.trans (O.stp J.o.le))
     clear O k f C
     have Z:=X1 (Yc m.o [93] #[93] rfl)
     go_wp2_with fail
     refine Z.o.mono ?_
     rintro e14 w14 ⟨rfl,v14,A,F⟩
     have W:=X1 A
     have Y:=X1 (u.o.trans F)
     have L:=X1 (t.o.need (sz:=sz) [93])
     have X:=X1 (I.o.need (sz:=sz) [93])
     clear A F Z
     have a1:=X1 (XR W.o (L.o.len (by first | omega | (simp only [X6];omega)) h0 hN) 10 0 0 [] 2)
     go_wp2_with fail
     refine a1.o.mono ?_
     rintro e15 b4 ⟨rfl,a8,H,D⟩
     have M:=X1 H
     have V:=X1 (Y.o.trans D)
     have Q:=X1 (L.o.put 10 0 0 [] 2)
     have U:=X1 (X.o.put 10 0 0 [] 2)
     clear H D a1
     have HM:=X1 (show XQ b ts b4 < XQ b ts wr from by rw [M.o.left,l.o.left];have:=U.o.ge;have:=XG i1;rw [Pr.adv_p] at *;omega)
     go_wp2
     go_roundw
     case rel=>exact ⟨_,a8,M.o,V.o,Q.o.mono (by first | omega | (simp only [X6];omega)),fun r2 h=>K.o _ (Pr.Cv.postL_index hbad i0 i1 b8.o h)⟩
     case measure=>exact HM.o
   ·have B:=X1 (YC l.o [40] #[40] rfl i0)
    go_wp2_with fail
    refine B.o.mono ?_
    rintro b9 c0 ⟨rfl,b0,j,i⟩
    have r:=X1 j
    have x:=X1 (z.o.trans i)
    have d:=X1 (y.o.adv i0)
    clear j i B
    have P:=X1 (Pr.Stp.refl d.o.le)
    have E:=X1 (ihA _ (Nat.lt_of_lt_of_le (Nat.lt_succ_of_le y.o.ge) P.o.ge) d.o.le _ _ r.o (d.o.phi (by first | omega | (simp only [X6];omega)) h0 hN))
    go_wp2_with fail
    refine E.o.mono ?_
    rintro b1 b6 ⟨a9,rfl,N,b5,c,g⟩
    have a0:=X1 N
    have v:=X1 c
    have n:=X1 (x.o.trans g)
    have a:=X1 (d.o.trans (N.stp d.o.le))
    have J:=X1 (P.o.trans (N.stp P.o.le))
    clear N c g E
    have hn1:=a0.o.num rfl (XG i0)
    have hl1:=a.o.le
    simp only [YE] at hn1
    unfold Ki
    have C:=X1 (XR v.o (a.o.len (by first | omega | (simp only [X6];omega)) h0 hN) 12 0 0 [] (1+a9.2))
    go_wp2_with fail
    refine C.o.mono ?_
    rintro b7 a6 ⟨rfl,a5,k,f⟩
    have m:=X1 k
    have u:=X1 (n.o.trans f)
    have t:=X1 (a.o.put 12 0 0 [] (1+a9.2))
    have I:=X1 (J.o.put 12 0 0 [] (1+a9.2))
    clear k f C
    have HM:=X1 (show XQ b ts a6 < XQ b ts wr from by rw [m.o.left,l.o.left];have:=I.o.ge;have:=XG i0;rw [Pr.adv_p] at *;omega)
    go_wp2
    go_roundw
    case rel=>exact ⟨_,a5,m.o,u.o,t.o.mono (by first | omega | (simp only [X6];omega)),fun r2 h=>K.o _ (Pr.Cv.postL_call hbad i0 a0.o h)⟩
    case measure=>exact HM.o
  ·rw [hbad] at c3
   go_wp2
   (first | go_end0 | refine bodyPost_ret (results_none rfl _ _ _) rfl ?_)
   exact ⟨(q,0),rfl,K.o _ (Pr.Cv.postL_bad hbad),v10,l.o,z.o⟩
theorem isY {b tg tc:Nat} {ts:List Sc.T} {sz:Nat} {v:Value} {s:Pr.Dk} {w:World} (h:DK b tg tc ts sz v s w) (t:List UInt8) (a:Array UInt8) (ha:a.toList=t) (hi:Xa ts sz s t=true) :
  Calls Tryz.prog 101 #[.pointer (some ⟨b,0,none⟩),.string ⟨a⟩] w fun e w'=>e = .returned (.bool true)∧Jt b tg tc ts sz v w s w':=by
 have:=is_any h ⟨a⟩
 simp only [ha,hi] at this
 exact this.mono fun _ _ ⟨h1,h2⟩=>⟨h1,v,h.below h2,.below h2⟩
theorem isN {b tg tc:Nat} {ts:List Sc.T} {sz:Nat} {v:Value} {s:Pr.Dk} {w:World} (h:DK b tg tc ts sz v s w) (t:List UInt8) (a:Array UInt8) (ha:a.toList=t) (hi:Xa ts sz s t=false) :
  Calls Tryz.prog 101 #[.pointer (some ⟨b,0,none⟩),.string ⟨a⟩] w fun e w'=>e = .returned (.bool false)∧Jt b tg tc ts sz v w s w':=by
 have:=is_any h ⟨a⟩
 simp only [ha,hi] at this
 exact this.mono fun _ _ ⟨h1,h2⟩=>⟨h1,v,h.below h2,.below h2⟩
set_option maxRecDepth 100000 in
set_option maxHeartbeats 8000000 in
theorem params_says {b tg tc:Nat} {ts:List Sc.T} {sz:Nat} {s:Pr.Dk} (ihE:∀ q:Pr.Dk,s.p≤q.p→q.p≤ts.length→Pr.SE b tg tc ts sz q):Pr.SP b tg tc ts sz s:=by
 intro v0 w0 c8 hN
 have h0:=c8.le
 have hm:=c8.most
 have HD0:=X1 c8
 have HG0:=X1 (Pr.Gr.refl b v0 w0)
 have HS0:=X1 (Pr.Stp.refl h0)
 clear c8
 go_enter Tryz.func88,Tryz.ntmps88
 have Q1:=X1 (Yc HD0.o [40] #[40] rfl)
 go_wp2_with fail
 refine Q1.o.mono ?_
 rintro e1 w1 ⟨rfl,v1,hd1,hg1⟩
 have HD1:=X1 hd1
 have HG1:=X1 (HG0.o.trans hg1)
 have HS1:=X1 (HS0.o.need (sz:=sz) [40])
 clear hd1 hg1 Q1
 have HI:=X1 (show ∀ r2,Pr.Cv ts sz (.paramsL 0) (Xr ts sz s [40]) r2→Pr.Cv ts sz .params s (Xr ts sz r2.1 [41],r2.2) from fun r2 h=>Pr.Cv.params h)
 go_wp2_with fail
 go_loopw [3] (fun t wr=>∃ (n:Nat) (q:Pr.Dk) (vq:Value),t = .int .i64 n∧n≤q.p∧DK b tg tc ts sz vq q wr∧Pr.Gr b v0 vq w0 wr∧Pr.Stp ts s q 0∧∀ r2,Pr.Cv ts sz (.paramsL n) q r2→Pr.Cv ts sz .params s (Xr ts sz r2.1 [41],r2.2)) (fun _ wr=>XQ b ts wr)
 case atStart=>exact ⟨0,_,v1,rfl,Nat.zero_le _,HD1.o,HG1.o,HS1.o.mono (by first | omega | (simp only [X6];omega)),HI.o⟩
 case round =>
  obtain ⟨n,q,v10,rfl,hnp,a6,b5,b7,c2⟩:=hrel
  have c3:=a6.c3
  have hle:=a6.le
  have L:=X1 a6
  have a4:=X1 b5
  have X:=X1 b7
  have I:=X1 c2
  clear a6 b5 b7 c2 HI HD1 HG1 HS1
  cases hbad:q.bad
  ·rw [hbad] at c3
   by_cases hn:n=0
   ·subst hn
    cases i0:Xa ts sz q [41]
    ·have Z:=X1 (isN L.o [41] #[41] rfl i0)
     go_wp2_with fail
     refine Z.o.mono ?_
     rintro d8 d9 ⟨rfl,c7,E,D⟩
     have M:=X1 E
     have V:=X1 (a4.o.trans D)
     have J:=X1 (X.o)
     clear E D Z
     have hg:((0:Nat) == 0 && Xa ts sz q [41])=false:=by rw [i0];rfl
     have a5:=X1 (Pr.Stp.refl J.o.le)
     have a2:=X1 (Q0 M.o)
     go_wp2_with fail
     refine a2.o.mono ?_
     rintro d2 d6 ⟨rfl,c9,v,B⟩
     have Q:=X1 v
     have K:=X1 (V.o.trans B)
     have z:=X1 (J.o.name (sz:=sz))
     have S:=X1 (a5.o.name (sz:=sz))
     clear v B a2
     cases ie:Xa ts sz (XP ts sz q) [61]
     ·have a1:=X1 (XU Q.o [61] #[61] rfl ie)
      go_wp2_with fail
      refine a1.o.mono ?_
      rintro d7 d0 ⟨rfl,e0,F,x⟩
      have U:=X1 F
      have O:=X1 (K.o.trans x)
      have j:=X1 (z.o)
      have k:=X1 (S.o)
      clear F x a1
      have Y:=X1 (XR U.o (j.o.len (by first | omega | (simp only [X6];omega)) h0 hN) 19 0 0 (Xd ts sz q) 0)
      go_wp2_with fail
      refine Y.o.mono ?_
      rintro c5 c4 ⟨rfl,b6,d,f⟩
      have m:=X1 d
      have H:=X1 (O.o.trans f)
      have r:=X1 (j.o.put 19 0 0 (Xd ts sz q) 0)
      have g:=X1 (k.o.put 19 0 0 (Xd ts sz q) 0)
      clear d f Y
      cases ic:Xa ts sz (Xj (XP ts sz q) 19 0 0 (Xd ts sz q) 0) [44]
      ·have N:=X1 (XU m.o [44] #[44] rfl ic)
       go_wp2_with fail
       refine N.o.mono ?_
       rintro b4 b1 ⟨rfl,b0,c,a⟩
       have i:=X1 c
       have l:=X1 (H.o.trans a)
       have u:=X1 (r.o)
       have A:=X1 (g.o)
       clear c a N
       have a3:=X1 (Yc i.o [41] #[41] rfl)
       go_wp2_with fail
       refine a3.o.mono ?_
       rintro d4 c6 ⟨rfl,b3,C,y⟩
       have P:=X1 C
       have W:=X1 (l.o.trans y)
       have a0:=X1 (u.o.need (sz:=sz) [41])
       have a7:=X1 (A.o.need (sz:=sz) [41])
       clear C y a3
       go_wp2
       go_ret
       exact ⟨(_,0+1),by first | rfl | (unfold Ki;go_num),I.o _ (Pr.Cv.paramsL_noEnd hbad hg ie ic),b3,P.o,W.o⟩
      ·have N:=X1 (YC m.o [44] #[44] rfl ic)
       go_wp2_with fail
       refine N.o.mono ?_
       rintro b4 b1 ⟨rfl,b0,c,a⟩
       have i:=X1 c
       have l:=X1 (H.o.trans a)
       have u:=X1 (r.o.adv ic)
       have A:=X1 (g.o.adv ic)
       clear c a N
       have HM:=X1 (show XQ b ts b1 < XQ b ts wr from by rw [i.o.left,L.o.left];have:=g.o.ge;have:=XG ic;rw [Pr.adv_p] at *;omega)
       have b2:=X1 (show 0+1≤(X7 (Xj (XP ts sz q) 19 0 0 (Xd ts sz q) 0)).p from by have:=g.o.ge;rw [Pr.adv_p] at *;omega)
       go_wp2
       go_roundw
       case rel=>exact ⟨0+1,_,b0,by go_num,b2.o,i.o,l.o,u.o.mono (by first | omega | (simp only [X6];omega)),fun r2 h=>I.o _ (Pr.Cv.paramsL_no hbad hg ie ic h)⟩
       case measure=>exact HM.o
     ·have a1:=X1 (YC Q.o [61] #[61] rfl ie)
      go_wp2_with fail
      refine a1.o.mono ?_
      rintro d7 d0 ⟨rfl,e0,F,x⟩
      have U:=X1 F
      have O:=X1 (K.o.trans x)
      have j:=X1 (z.o.adv ie)
      have k:=X1 (S.o.adv ie)
      clear F x a1
      have Y:=X1 (ihE _ (Nat.le_trans X.o.ge k.o.ge) j.o.le _ _ U.o (j.o.phi (by first | omega | (simp only [X6];omega)) h0 hN))
      go_wp2_with fail
      refine Y.o.mono ?_
      rintro c5 c4 ⟨r14,rfl,a9,b6,d,f⟩
      have b9:=X1 a9
      have m:=X1 d
      have H:=X1 (O.o.trans f)
      have r:=X1 (j.o.trans (a9.stp j.o.le))
      have g:=X1 (k.o.trans (a9.stp k.o.le))
      clear a9 d f Y
      have N:=X1 (XR m.o (r.o.len (by first | omega | (simp only [X6];omega)) h0 hN) 19 0 0 (Xd ts sz q) 1)
      go_wp2_with fail
      refine N.o.mono ?_
      rintro b4 b1 ⟨rfl,b0,c,a⟩
      have i:=X1 c
      have l:=X1 (H.o.trans a)
      have u:=X1 (r.o.put 19 0 0 (Xd ts sz q) 1)
      have A:=X1 (g.o.put 19 0 0 (Xd ts sz q) 1)
      clear c a N
      cases ic:Xa ts sz (Xj r14.1 19 0 0 (Xd ts sz q) 1) [44]
      ·have a3:=X1 (XU i.o [44] #[44] rfl ic)
       go_wp2_with fail
       refine a3.o.mono ?_
       rintro d4 c6 ⟨rfl,b3,C,y⟩
       have P:=X1 C
       have W:=X1 (l.o.trans y)
       have a0:=X1 (u.o)
       have a7:=X1 (A.o)
       clear C y a3
       have Q17:=X1 (Yc P.o [41] #[41] rfl)
       go_wp2_with fail
       refine Q17.o.mono ?_
       rintro e17 w17 ⟨rfl,v17,b8,c0⟩
       have d3:=X1 b8
       have d5:=X1 (W.o.trans c0)
       have HS17:=X1 (a0.o.need (sz:=sz) [41])
       have HA17:=X1 (a7.o.need (sz:=sz) [41])
       clear b8 c0 Q17
       go_wp2
       go_ret
       exact ⟨(_,0+1),by first | rfl | (unfold Ki;go_num),I.o _ (Pr.Cv.paramsL_valEnd hbad hg ie ic b9.o),v17,d3.o,d5.o⟩
      ·have a3:=X1 (YC i.o [44] #[44] rfl ic)
       go_wp2_with fail
       refine a3.o.mono ?_
       rintro d4 c6 ⟨rfl,b3,C,y⟩
       have P:=X1 C
       have W:=X1 (l.o.trans y)
       have a0:=X1 (u.o.adv ic)
       have a7:=X1 (A.o.adv ic)
       clear C y a3
       have HM:=X1 (show XQ b ts c6 < XQ b ts wr from by rw [P.o.left,L.o.left];have:=A.o.ge;have:=XG ic;rw [Pr.adv_p] at *;omega)
       have b2:=X1 (show 0+1≤(X7 (Xj r14.1 19 0 0 (Xd ts sz q) 1)).p from by have:=A.o.ge;rw [Pr.adv_p] at *;omega)
       go_wp2
       go_roundw
       case rel=>exact ⟨0+1,_,b3,by go_num,b2.o,P.o,W.o,a0.o.mono (by first | omega | (simp only [X6];omega)),fun r2 h=>I.o _ (Pr.Cv.paramsL_val hbad hg ie ic b9.o h)⟩
       case measure=>exact HM.o
    ·have Z:=X1 (isY L.o [41] #[41] rfl i0)
     go_wp2_with fail
     refine Z.o.mono ?_
     rintro d8 d9 ⟨rfl,c7,E,D⟩
     have M:=X1 E
     have V:=X1 (a4.o.trans D)
     have J:=X1 (X.o)
     clear E D Z
     have a2:=X1 (Yc M.o [41] #[41] rfl)
     go_wp2_with fail
     refine a2.o.mono ?_
     rintro d2 d6 ⟨rfl,c9,v,B⟩
     have Q:=X1 v
     have K:=X1 (V.o.trans B)
     have z:=X1 (J.o.need (sz:=sz) [41])
     clear v B a2
     go_wp2
     go_ret
     exact ⟨(_,0),by first | rfl | (unfold Ki;go_num),I.o _ (Pr.Cv.paramsL_end hbad i0),c9,Q.o,K.o⟩
   ·have hn0:0 < (n:Int):=by omega
    have hg:(n == 0 && Xa ts sz q [41])=false:=by simp [hn]
    have d1:=X1 (Pr.Stp.refl X.o.le)
    have Z:=X1 (Q0 L.o)
    go_wp2_with fail
    refine Z.o.mono ?_
    rintro d8 d9 ⟨rfl,c7,E,D⟩
    have M:=X1 E
    have V:=X1 (a4.o.trans D)
    have J:=X1 (X.o.name (sz:=sz))
    have a5:=X1 (d1.o.name (sz:=sz))
    clear E D Z
    cases ie:Xa ts sz (XP ts sz q) [61]
    ·have a2:=X1 (XU M.o [61] #[61] rfl ie)
     go_wp2_with fail
     refine a2.o.mono ?_
     rintro d2 d6 ⟨rfl,c9,v,B⟩
     have Q:=X1 v
     have K:=X1 (V.o.trans B)
     have z:=X1 (J.o)
     have S:=X1 (a5.o)
     clear v B a2
     have a1:=X1 (XR Q.o (z.o.len (by first | omega | (simp only [X6];omega)) h0 hN) 19 0 0 (Xd ts sz q) 0)
     go_wp2_with fail
     refine a1.o.mono ?_
     rintro d7 d0 ⟨rfl,e0,F,x⟩
     have U:=X1 F
     have O:=X1 (K.o.trans x)
     have j:=X1 (z.o.put 19 0 0 (Xd ts sz q) 0)
     have k:=X1 (S.o.put 19 0 0 (Xd ts sz q) 0)
     clear F x a1
     cases ic:Xa ts sz (Xj (XP ts sz q) 19 0 0 (Xd ts sz q) 0) [44]
     ·have Y:=X1 (XU U.o [44] #[44] rfl ic)
      go_wp2_with fail
      refine Y.o.mono ?_
      rintro c5 c4 ⟨rfl,b6,d,f⟩
      have m:=X1 d
      have H:=X1 (O.o.trans f)
      have r:=X1 (j.o)
      have g:=X1 (k.o)
      clear d f Y
      have N:=X1 (Yc m.o [41] #[41] rfl)
      go_wp2_with fail
      refine N.o.mono ?_
      rintro b4 b1 ⟨rfl,b0,c,a⟩
      have i:=X1 c
      have l:=X1 (H.o.trans a)
      have u:=X1 (r.o.need (sz:=sz) [41])
      have A:=X1 (g.o.need (sz:=sz) [41])
      clear c a N
      go_wp2
      go_ret
      exact ⟨(_,n+1),by first | rfl | (unfold Ki;go_num),I.o _ (Pr.Cv.paramsL_noEnd hbad hg ie ic),b0,i.o,l.o⟩
     ·have Y:=X1 (YC U.o [44] #[44] rfl ic)
      go_wp2_with fail
      refine Y.o.mono ?_
      rintro c5 c4 ⟨rfl,b6,d,f⟩
      have m:=X1 d
      have H:=X1 (O.o.trans f)
      have r:=X1 (j.o.adv ic)
      have g:=X1 (k.o.adv ic)
      clear d f Y
      have HM:=X1 (show XQ b ts c4 < XQ b ts wr from by rw [m.o.left,L.o.left];have:=k.o.ge;have:=XG ic;rw [Pr.adv_p] at *;omega)
      have b2:=X1 (show n+1≤(X7 (Xj (XP ts sz q) 19 0 0 (Xd ts sz q) 0)).p from by have:=k.o.ge;rw [Pr.adv_p] at *;omega)
      go_wp2
      go_roundw
      case rel=>exact ⟨n+1,_,b6,by go_num,b2.o,m.o,H.o,r.o.mono (by first | omega | (simp only [X6];omega)),fun r2 h=>I.o _ (Pr.Cv.paramsL_no hbad hg ie ic h)⟩
      case measure=>exact HM.o
    ·have a2:=X1 (YC M.o [61] #[61] rfl ie)
     go_wp2_with fail
     refine a2.o.mono ?_
     rintro d2 d6 ⟨rfl,c9,v,B⟩
     have Q:=X1 v
     have K:=X1 (V.o.trans B)
     have z:=X1 (J.o.adv ie)
     have S:=X1 (a5.o.adv ie)
     clear v B a2
     have a1:=X1 (ihE _ (Nat.le_trans X.o.ge S.o.ge) z.o.le _ _ Q.o (z.o.phi (by first | omega | (simp only [X6];omega)) h0 hN))
     go_wp2_with fail
     refine a1.o.mono ?_
     rintro d7 d0 ⟨r13,rfl,a8,e0,F,x⟩
     have c1:=X1 a8
     have U:=X1 F
     have O:=X1 (K.o.trans x)
     have j:=X1 (z.o.trans (a8.stp z.o.le))
     have k:=X1 (S.o.trans (a8.stp S.o.le))
     clear a8 F x a1
     have Y:=X1 (XR U.o (j.o.len (by first | omega | (simp only [X6];omega)) h0 hN) 19 0 0 (Xd ts sz q) 1)
     go_wp2_with fail
     refine Y.o.mono ?_
     rintro c5 c4 ⟨rfl,b6,d,f⟩
     have m:=X1 d
     have H:=X1 (O.o.trans f)
     have r:=X1 (j.o.put 19 0 0 (Xd ts sz q) 1)
     have g:=X1 (k.o.put 19 0 0 (Xd ts sz q) 1)
     clear d f Y
     cases ic:Xa ts sz (Xj r13.1 19 0 0 (Xd ts sz q) 1) [44]
     ·have N:=X1 (XU m.o [44] #[44] rfl ic)
      go_wp2_with fail
      refine N.o.mono ?_
      rintro b4 b1 ⟨rfl,b0,c,a⟩
      have i:=X1 c
      have l:=X1 (H.o.trans a)
      have u:=X1 (r.o)
      have A:=X1 (g.o)
      clear c a N
      have a3:=X1 (Yc i.o [41] #[41] rfl)
      go_wp2_with fail
      refine a3.o.mono ?_
      rintro d4 c6 ⟨rfl,b3,C,y⟩
      have P:=X1 C
      have W:=X1 (l.o.trans y)
      have a0:=X1 (u.o.need (sz:=sz) [41])
      have a7:=X1 (A.o.need (sz:=sz) [41])
      clear C y a3
      go_wp2
      go_ret
      exact ⟨(_,n+1),by first | rfl | (unfold Ki;go_num),I.o _ (Pr.Cv.paramsL_valEnd hbad hg ie ic c1.o),b3,P.o,W.o⟩
     ·have N:=X1 (YC m.o [44] #[44] rfl ic)
      go_wp2_with fail
      refine N.o.mono ?_
      rintro b4 b1 ⟨rfl,b0,c,a⟩
      have i:=X1 c
      have l:=X1 (H.o.trans a)
      have u:=X1 (r.o.adv ic)
      have A:=X1 (g.o.adv ic)
      clear c a N
      have HM:=X1 (show XQ b ts b1 < XQ b ts wr from by rw [i.o.left,L.o.left];have:=g.o.ge;have:=XG ic;rw [Pr.adv_p] at *;omega)
      have b2:=X1 (show n+1≤(X7 (Xj r13.1 19 0 0 (Xd ts sz q) 1)).p from by have:=g.o.ge;rw [Pr.adv_p] at *;omega)
      go_wp2
      go_roundw
      case rel=>exact ⟨n+1,_,b0,by go_num,b2.o,i.o,l.o,u.o.mono (by first | omega | (simp only [X6];omega)),fun r2 h=>I.o _ (Pr.Cv.paramsL_val hbad hg ie ic c1.o h)⟩
      case measure=>exact HM.o
  ·rw [hbad] at c3
   have Z:=X1 (Yc L.o [41] #[41] rfl)
   go_wp2_with fail
   refine Z.o.mono ?_
   rintro d8 d9 ⟨rfl,c7,E,D⟩
   have M:=X1 E
   have V:=X1 (a4.o.trans D)
   have J:=X1 (X.o.need (sz:=sz) [41])
   clear E D Z
   go_wp2
   go_ret
   exact ⟨(_,n),by first | rfl | (unfold Ki;go_num),I.o _ (Pr.Cv.paramsL_bad hbad),c7,M.o,V.o⟩
end Go.Proofs.YtimbaebigjjkaaaGreatDoor
