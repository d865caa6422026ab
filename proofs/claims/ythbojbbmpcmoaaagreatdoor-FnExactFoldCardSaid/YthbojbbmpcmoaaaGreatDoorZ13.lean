/- Ng, Nh, Fok, Qc. -/
import Derived.Test.YthbojbbmpcmoaaaGreatDoorZ11
import Derived.Test.YthbojbbmpcmoaaaGreatDoorZ12
namespace Go.Proofs.YthbojbbmpcmoaaaGreatDoor
open Go.RowKit
set_option maxRecDepth 100000 in
set_option maxHeartbeats 400000 in
theorem ifile_nil (q:Value) (a:Option Addr) (c:Nat) (p:Option Addr) (w:World) :
  Calls Tryz.prog 152 #[q,.slice a 0 c,.pointer p] w fun e w'=>e = .returned (.tuple #[])∧Below w.heap.size w w':=by
 go_enter Tryz.func152,Tryz.ntmps152
 go_wp2_with fail
 refine (inside_any p w).mono ?_
 rintro e w1 ⟨rfl,hw1⟩
 have HB:Hid (Below w.heap.size w w1):=hide (by rw [hw1];exact (sc_new w p).2.2.2.1)
 clear hw1
 go_wp2
 go_loopw [7,16] (fun v7 t wr=>v7 = .slice none 0 0∧t = .int .i64 0∧wr=w1) (fun _ _ _=>0)
 case atStart=>exact ⟨rfl,rfl,rfl⟩
 case round =>
  obtain ⟨rfl,rfl,rfl⟩:=hrel
  go_wp2_with fail
  refine (all_nil q (.pointer (some ⟨w.heap.size+1,0,none⟩)) none 0 _).mono ?_
  rintro e w2 ⟨rfl,rfl⟩
  go_wp2
  (first | go_end0 | refine bodyPost_ret (results_none rfl _ _ _) rfl ?_)
  exact ⟨rfl,HB.out⟩
theorem ifile_any (ns:List Tr.Nd) (ks:List (List Nat)) (wb tg tc kg kc cg bg f:Nat) (G:Nat→List Tr.Sp→Tr.St→Tr.St) (hG:WkOk ns ks wb tg tc kg kc cg bg f G) (hn:ns.length≤5000) (ls:List Nat) (v:Value) (ch:List Tr.Sp) (p:Option Addr) (s:Tr.St) (w:World)
  (hls:∀ x∈ls,x < f∧x < ns.length) (hl:ls.length≤5000) (hks:∀ k (h:k < ks.length),∀ x∈ks[k],x < ns.length) (hkl:∀ k,(Tr.kidsOf ks k).length≤5000)
  (hF:Ix ns ks wb tg tc kg kc cg bg w) (hD:Dy ns.length cg bg s w) (hC:Chain cg bg w w.heap.size p ch) (hI:PlV cg bg w v ls) :
  Calls Tryz.prog 152 #[.pointer (some ⟨wb,0,none⟩),v,.pointer p] w fun e w'=>e = .returned (.tuple #[])∧Kp cg bg w w'∧Dy ns.length cg bg (Tr.ifile G ns ks ls ch s) w':=by
 rcases hI with ⟨a,c,rfl,rfl⟩ | ⟨g,o,c,rfl,h1,h2,_,h3⟩
 ·refine (ifile_nil _ _ _ _ _).mono ?_
  rintro e w' ⟨rfl,hb⟩
  exact ⟨rfl,Kp.of_below hb,hD.below hb⟩
 ·exact ifile_some ns ks wb tg tc kg kc cg bg f G hG hn ls g o c ch p s w hls hl hks hkl hF hD hC h1 h2 h3
theorem PlV.tail {cg bg:Nat} {w:World} {g o c x:Nat} {r:List Nat} (h1:g≠cg) (h2:g≠bg) (hc:(x :: r).length≤c) (hI:IntsAt w g o (x :: r)):PlV cg bg w (.slice (if c=1 then some ⟨g,o,none⟩ else some ⟨g,o+1,none⟩) r.length (c - 1)) r:=by
 by_cases h:c=1
 ·have:r=[]:=by
   cases r with
   | nil=>rfl
   | cons _ _=>simp at hc;omega
  subst this
  exact .inl ⟨_,_,rfl,rfl⟩
 ·rw [if_neg h]
  exact .inr ⟨g,o+1,c - 1,rfl,h1,h2,by simp at hc;omega,hI.drop 1⟩
set_option maxRecDepth 100000 in
set_option maxHeartbeats 1000000 in
theorem walk_let (ns:List Tr.Nd) (ks:List (List Nat)) (wb tg tc kg kc cg bg f:Nat) (G:Nat→List Tr.Sp→Tr.St→Tr.St) (hG:WkOk ns ks wb tg tc kg kc cg bg f G) (hn:ns.length≤5000) (k:Nat) (kd:Int) (x:Nat) (r:List Nat) (g o c:Nat) (ch:List Tr.Sp) (p:Option Addr) (s:Tr.St) (w:World)
  (hkn:k < ns.length) (h14:kd=14∨kd=16) (hrow:w.cell? ⟨kg,k,none⟩=some (.slice (some ⟨g,o,none⟩) (r.length+1) c)) (n0:w.cell? ⟨tg,k*5,none⟩=some (.int .i64 kd)) (hF:Ix ns ks wb tg tc kg kc cg bg w) (hD:Dy ns.length cg bg s w) (hC:Chain cg bg w w.heap.size p ch)
  (hgc':r.length+1≤c) (hrl:r.length+1≤5000) (hx0:w.cell? ⟨g,o,none⟩=some (.int .i64 x)) (hls:∀ y∈x :: r,y < f∧y < ns.length) (hT:PlV cg bg w (.slice (if c=1 then some ⟨g,o,none⟩ else some ⟨g,o+1,none⟩) r.length (c - 1)) r) :
  Calls Tryz.prog 99 #[.pointer (some ⟨wb,0,none⟩),.int .i64 k,.pointer p] w fun e w'=>e = .returned (.tuple #[])∧Kp cg bg w w'∧Dy ns.length cg bg (Tr.all G r ([(Tr.textOf ns k,(k:Int))] :: ch) (G x ch s)) w':=by
 have f0:=hF.f0
 have f1:=hF.f1
 have HG:=hide hG
 have HF:=hide hF
 have HD:=hide hD
 have HC:=hide hC
 have HLS:=hide hls
 have HT:=hide hT
 have hxl:=hls x (by simp)
 have HEN0:Hid (∀ s1,Tr.enterS ns k ([],s1)=([(Tr.textOf ns k,(k:Int))],s1)):=hide (fun _=>rfl)
 clear hG hF hD hC hls hT
 have HTA:Hid (c=1→PlV cg bg w (.slice (some ⟨g,o,none⟩) r.length 0) r):=hide (fun e=>by subst e;simpa using HT.out)
 have HTB:Hid (¬ c=1→PlV cg bg w (.slice (some ⟨g,o+1,none⟩) r.length (c - 1)) r):=hide (fun e=>by have:=HT.out;rwa [if_neg e] at this)
 obtain ⟨vt,HTV,hvt⟩:∃ vt,Hid (PlV cg bg w vt r)∧(c=1∧vt = .slice (some ⟨g,o,none⟩) r.length 0∨¬ c=1∧vt = .slice (some ⟨g,o+1,none⟩) r.length (c - 1)):=by
  by_cases hc1:c=1
  ·exact ⟨_,hide (HTA.out hc1),.inl ⟨hc1,rfl⟩⟩
  ·exact ⟨_,hide (HTB.out hc1),.inr ⟨hc1,rfl⟩⟩
 clear HT HTA HTB
 rcases hvt with ⟨rfl,rfl⟩ | ⟨hc1,rfl⟩
 ·have hr0:r=[]:=by
   cases r with
   | nil=>rfl
   | cons _ _=>simp at hgc'
  subst hr0
  simp only [List.length_nil,Nat.zero_add] at hrow HTV
  clear hgc' hrl
  rcases h14 with rfl | rfl
  all_goals
   go_enter Tryz.func99,Tryz.ntmps99
   go_wp2_with fail
   refine (HG.out x p ch s w hxl.1 hxl.2 HF.out HD.out HC.out).mono ?_
   rintro e w2 ⟨rfl,hk2,hd2⟩
   have HD2:=hide hd2
   have HF2:=hide (HF.out.kept hk2)
   have HST:=hide (Fi.start (p:=p) hd2)
   clear hd2
   go_wp2_with fail
   refine (inside_any p w2).mono ?_
   rintro e w3 ⟨rfl,hw3⟩
   have HF3:Hid (Fi ns cg bg w2 p [] (G x ch s) w3):=hide (by rw [hw3];exact HST.out)
   have hl1:=HF3.out.l1
   have hl2:=HF3.out.l2
   clear hw3 HST
   go_wp2_with fail
   refine (enter_any ns ks wb tg tc kg kc cg bg k (w2.heap.size+1) w2.heap.size [] _ w3 hn hkn (HF2.out.kept HF3.out.kp) HF3.out.dy HF3.out.c0 HF3.out.sp (by omega) (by omega) (by simp)).mono ?_
   rintro e w4 ⟨rfl,hu4,hd4,hs4⟩
   rw [HEN0.out] at hd4 hs4
   have HF4:=hide (HF3.out.enter hu4 hd4 hs4)
   have HCH:=hide (Chain.inner (Chain.kept hk2.size (fun b hb h1 h2=>hk2.block b hb h1 h2) HC.out) HF4.out.kp HF4.out.c0 HF4.out.c1 HF4.out.sp HF4.out.sz hl1 hl2)
   have HAL:=hide (all_any ns ks wb tg tc kg kc cg bg f G HG.out [] _ _ _ _ w4 (fun y hy=>by cases hy) (by simp) (HF2.out.kept HF4.out.kp) HF4.out.dy HCH.out ((HTV.out.kept hk2).kept HF4.out.kp))
   have HK4:=hide (hk2.trans HF4.out.kp)
   clear hu4 hd4 hs4 HF3 HCH HTV
   go_wp2_with fail
   refine HAL.out.mono ?_
   rintro e w5 ⟨rfl,hk5,hd5⟩
   go_wp2
   (first | go_end0 | refine bodyPost_ret (results_none rfl _ _ _) rfl ?_)
   exact ⟨rfl,HK4.out.trans hk5,hd5⟩
 rcases h14 with rfl | rfl
 all_goals
  go_enter Tryz.func99,Tryz.ntmps99
  go_wp2_with fail
  refine (HG.out x p ch s w hxl.1 hxl.2 HF.out HD.out HC.out).mono ?_
  rintro e w2 ⟨rfl,hk2,hd2⟩
  have HD2:=hide hd2
  have HF2:=hide (HF.out.kept hk2)
  have HST:=hide (Fi.start (p:=p) hd2)
  clear hd2
  go_wp2_with fail
  refine (inside_any p w2).mono ?_
  rintro e w3 ⟨rfl,hw3⟩
  have HF3:Hid (Fi ns cg bg w2 p [] (G x ch s) w3):=hide (by rw [hw3];exact HST.out)
  have hl1:=HF3.out.l1
  have hl2:=HF3.out.l2
  clear hw3 HST
  go_wp2_with fail
  refine (enter_any ns ks wb tg tc kg kc cg bg k (w2.heap.size+1) w2.heap.size [] _ w3 hn hkn (HF2.out.kept HF3.out.kp) HF3.out.dy HF3.out.c0 HF3.out.sp (by omega) (by omega) (by simp)).mono ?_
  rintro e w4 ⟨rfl,hu4,hd4,hs4⟩
  rw [HEN0.out] at hd4 hs4
  have HF4:=hide (HF3.out.enter hu4 hd4 hs4)
  have HCH:=hide (Chain.inner (Chain.kept hk2.size (fun b hb h1 h2=>hk2.block b hb h1 h2) HC.out) HF4.out.kp HF4.out.c0 HF4.out.c1 HF4.out.sp HF4.out.sz hl1 hl2)
  have HAL:=hide (all_any ns ks wb tg tc kg kc cg bg f G HG.out r _ _ _ _ w4 (fun y hy=>HLS.out y (by simp [hy])) (by omega) (HF2.out.kept HF4.out.kp) HF4.out.dy HCH.out ((HTV.out.kept hk2).kept HF4.out.kp))
  have HK4:=hide (hk2.trans HF4.out.kp)
  clear hu4 hd4 hs4 HF3 HCH HTV
  go_wp2_with fail
  refine HAL.out.mono ?_
  rintro e w5 ⟨rfl,hk5,hd5⟩
  go_wp2
  (first | go_end0 | refine bodyPost_ret (results_none rfl _ _ _) rfl ?_)
  exact ⟨rfl,HK4.out.trans hk5,hd5⟩
set_option maxRecDepth 100000 in
set_option maxHeartbeats 2000000 in
theorem walk_step (ns:List Tr.Nd) (ks:List (List Nat)) (wb tg tc kg kc cg bg f:Nat) (hG:WkOk ns ks wb tg tc kg kc cg bg f (Tr.iwalk ns ks f)) (hn:ns.length≤5000) (hkid:∀ k (h:k < ks.length),∀ x∈ks[k],x < k)
  (hlen:∀ k (h:k < ks.length),(ks[k]).length≤5000∧(Tr.kindOf ns k=14→(ks[k]).length=2)∧(Tr.kindOf ns k=16→1≤(ks[k]).length)∧(Tr.kindOf ns k=15∨Tr.kindOf ns k=20→1≤(ks[k]).length)):WkOk ns ks wb tg tc kg kc cg bg (f+1) (Tr.iwalk ns ks (f+1)):=by
 intro k p ch s w hkf hkn hF hD hC
 have hkk:k < ks.length:=by rw [hF.len];exact hkn
 obtain ⟨n0,_⟩:=hF.nodes.2 k hkn
 obtain ⟨v2,hrow,hpl⟩:=hF.kids k hkk
 have f0:=hF.f0
 have f1:=hF.f1
 have hcl:=(hD.c.lt cg rfl).2
 have hbl:=(hD.b.lt bg rfl).2
 have HG:=hide hG
 have HF:=hide hF
 have HD:=hide hD
 have HC:=hide hC
 have HPL:=hide hpl
 have hle:=hlen k hkk
 rw [Tr.kindOf_at hkn] at hle
 have hkl2:∀ k (h:k < ks.length),(ks[k]).length≤5000:=fun k h=>(hlen k h).1
 have hkl3:∀ k,(Tr.kidsOf ks k).length≤5000:=by
  intro k
  unfold Tr.kidsOf
  by_cases h:k < ks.length
  ·rw [List.getElem?_eq_getElem h];exact hkl2 k h
  ·rw [List.getElem?_eq_none (by omega)];simp
 have hks:∀ k (h:k < ks.length),∀ x∈ks[k],x < ns.length:=fun k h x hx=>by have:=hkid k h x hx;have:=hF.len;omega
 have HKD:=hide hkid
 have HK2:=hide hkl2
 have HK3:=hide hkl3
 have HKS:=hide hks
 have hlt:=hkid k hkk
 have HGO:=hide (show Tr.iwalk ns ks (f+1) k ch s=(if ns[k].kind=5 then Tr.iuse ns k ch s
  else if ns[k].kind=14∨ns[k].kind=16 then Tr.ilet (Tr.iwalk ns ks f) ns k ch s ks[k]
  else if ns[k].kind=15∨ns[k].kind=20 then Tr.ifn (Tr.iwalk ns ks f) ns ks ks[k] [] ch false s
  else if ns[k].kind=24 then Tr.ifile (Tr.iwalk ns ks f) ns ks ks[k] ch s
  else Tr.all (Tr.iwalk ns ks f) ks[k] ch s) by
   rw [Tr.iwalk,Tr.kindOf_at hkn,show Tr.kidsOf ks k=ks[k] from by simp [Tr.kidsOf,hkk]])
 have HLS:Hid (∀ x∈ks[k],x < f∧x < ns.length):=hide (fun x hx=>by have:=hlt x hx;omega)
 clear hG hF hD hC hpl hlen hkid hkl2 hkl3 hks hlt
 generalize ks[k]=ls at *
 generalize ns[k].kind=kd at *
 by_cases h5:kd=5
 ·subst h5
  have HG2:Hid (Tr.iwalk ns ks (f+1) k ch s=Tr.iuse ns k ch s):=hide (by rw [HGO.out,if_pos rfl])
  clear HGO
  go_enter Tryz.func99,Tryz.ntmps99
  go_wp2_with fail
  refine (iuse_any ns ks wb tg tc kg kc cg bg k w.heap.size ch p s w hkn HF.out HD.out HC.out).mono ?_
  rintro e w2 ⟨rfl,hk2,hd2⟩
  go_wp2
  (first | go_end0 | refine bodyPost_ret (results_none rfl _ _ _) rfl ?_)
  exact ⟨rfl,hk2,by rw [HG2.out];exact hd2⟩
 ·have q5:(kd == 5)=false:=by simpa using h5
  by_cases h14:kd=14∨kd=16
  ·have HG2:Hid (Tr.iwalk ns ks (f+1) k ch s=Tr.ilet (Tr.iwalk ns ks f) ns k ch s ls):=hide (by rw [HGO.out,if_neg h5,if_pos h14])
   clear HGO
   cases ls with
   | nil=>exfalso;simp at hle;omega
   | cons x r =>
    obtain ⟨g,o,c,hv,hg1,hg2,hgc,hgi⟩:∃ g o c,v2 = .slice (some ⟨g,o,none⟩) (x :: r).length c∧g≠cg∧g≠bg∧(x :: r).length≤c∧IntsAt w g o (x :: r):=by
     rcases HPL.out with ⟨_,_,_,h⟩ | h
     ·cases h
     ·exact h
    subst hv
    have hx0:=hgi.2 0 (by simp)
    simp only [Nat.add_zero,List.getElem_cons_zero] at hx0
    have hxl:=HLS.out x (by simp)
    have hgc':r.length+1≤c:=by simpa using hgc
    have hrl:r.length+1≤5000:=by have:=hle.1;simpa using this
    have HT:=hide (PlV.tail (w:=w) hg1 hg2 hgc hgi)
    have HSX:=hide (show (x :: r).length=r.length+1 by simp)
    have HIL:=hide (show Tr.ilet (Tr.iwalk ns ks f) ns k ch s (x :: r)=Tr.all (Tr.iwalk ns ks f) r ([(Tr.textOf ns k,(k:Int))] :: ch) (Tr.iwalk ns ks f x ch s) from rfl)
    rw [HSX.out] at hrow
    clear hle hgc hgi HPL
    have HWL:=hide (walk_let ns ks wb tg tc kg kc cg bg f (Tr.iwalk ns ks f) HG.out hn k kd x r g o c ch p s w hkn h14 hrow n0 HF.out HD.out HC.out hgc' hrl hx0 HLS.out HT.out)
    refine HWL.out.mono ?_
    rintro e w2 ⟨rfl,hk2,hd2⟩
    exact ⟨rfl,hk2,by rw [HG2.out,HIL.out];exact hd2⟩
  ·have q14:(kd == 14)=false:=by simp;omega
   have q16:(kd == 16)=false:=by simp;omega
   by_cases h15:kd=15∨kd=20
   ·have HG2:Hid (Tr.iwalk ns ks (f+1) k ch s=Tr.ifn (Tr.iwalk ns ks f) ns ks ls [] ch false s):=hide (by rw [HGO.out,if_neg h5,if_neg h14,if_pos h15])
    clear HGO
    have hl1:1≤ls.length:=hle.2.2.2 h15
    have hl5:=hle.1
    obtain ⟨g,o,c,hv,hg1,hg2,hgc,hgi⟩:∃ g o c,v2 = .slice (some ⟨g,o,none⟩) ls.length c∧g≠cg∧g≠bg∧ls.length≤c∧IntsAt w g o ls:=by
     rcases HPL.out with ⟨_,_,_,h⟩ | h
     ·subst h;simp at hl1
     ·exact h
    subst hv
    have HFN:=hide (ifn_any ns ks wb tg tc kg kc cg bg f _ HG.out hn ls g o c ch p s w HLS.out hl5 hl1 HKD.out HK2.out HF.out HD.out HC.out hg1 hg2 hgc hgi)
    clear hle hgi HPL
    rcases h15 with rfl | rfl
    all_goals
     go_enter Tryz.func99,Tryz.ntmps99
     go_wp2_with fail
     refine HFN.out.mono ?_
     rintro e w2 ⟨rfl,hk2,hd2⟩
     go_wp2
     (first | go_end0 | refine bodyPost_ret (results_none rfl _ _ _) rfl ?_)
     exact ⟨rfl,hk2,by rw [HG2.out];exact hd2⟩
   ·have q15:(kd == 15)=false:=by simp;omega
    have q20:(kd == 20)=false:=by simp;omega
    by_cases h24:kd=24
    ·have HG2:Hid (Tr.iwalk ns ks (f+1) k ch s=Tr.ifile (Tr.iwalk ns ks f) ns ks ls ch s):=hide (by rw [HGO.out,if_neg h5,if_neg h14,if_neg h15,if_pos h24])
     subst h24
     have HFN:=hide (ifile_any ns ks wb tg tc kg kc cg bg f _ HG.out hn ls v2 ch p s w HLS.out hle.1 HKS.out HK3.out HF.out HD.out HC.out HPL.out)
     clear HGO hle
     go_enter Tryz.func99,Tryz.ntmps99
     go_wp2_with fail
     refine HFN.out.mono ?_
     rintro e w2 ⟨rfl,hk2,hd2⟩
     go_wp2
     (first | go_end0 | refine bodyPost_ret (results_none rfl _ _ _) rfl ?_)
     exact ⟨rfl,hk2,by rw [HG2.out];exact hd2⟩
    ·have q24:(kd == 24)=false:=by simpa using h24
     have HG2:Hid (Tr.iwalk ns ks (f+1) k ch s=Tr.all (Tr.iwalk ns ks f) ls ch s):=hide (by rw [HGO.out,if_neg h5,if_neg h14,if_neg h15,if_neg h24])
     have hl5:=hle.1
     have HFN:=hide (all_any ns ks wb tg tc kg kc cg bg f _ HG.out ls v2 ch p s w HLS.out (by omega) HF.out HD.out HC.out HPL.out)
     clear HGO hle
     go_enter Tryz.func99,Tryz.ntmps99
     go_wp2_with fail
     refine HFN.out.mono ?_
     rintro e w2 ⟨rfl,hk2,hd2⟩
     go_wp2
     (first | go_end0 | refine bodyPost_ret (results_none rfl _ _ _) rfl ?_)
     exact ⟨rfl,hk2,by rw [HG2.out];exact hd2⟩
theorem walk_any (ns:List Tr.Nd) (ks:List (List Nat)) (wb tg tc kg kc cg bg:Nat) (hn:ns.length≤5000) (hkid:∀ k (h:k < ks.length),∀ x∈ks[k],x < k)
  (hlen:∀ k (h:k < ks.length),(ks[k]).length≤5000∧(Tr.kindOf ns k=14→(ks[k]).length=2)∧(Tr.kindOf ns k=16→1≤(ks[k]).length)∧(Tr.kindOf ns k=15∨Tr.kindOf ns k=20→1≤(ks[k]).length)) (f:Nat):WkOk ns ks wb tg tc kg kc cg bg f (Tr.iwalk ns ks f):=by
 induction f with
 | zero=>intro k p ch s w hkf;omega
 | succ f ih=>exact walk_step ns ks wb tg tc kg kc cg bg f ih hn hkid hlen
def Ip.ty (k:Int):TypeId :=
 bif k == 5 then 193 else bif k == 6 then 194 else bif k == 7 then 195 else bif k == 8 then 196 else bif k == 9 then 197 else bif k == 10 then 198 else bif k == 11 then 199 else bif k == 12 then 200 else bif k == 13 then 201 else bif k == 14 then 202 else bif k == 15 then 203 else bif k == 16 then 204 else bif k == 17 then 205 else bif k == 18 then 206 else bif k == 19 then 207 else bif k == 20 then 208 else bif k == 21 then 209 else bif k == 22 then 210 else bif k == 23 then 211 else bif k == 24 then 212 else 213
def Ip.pv (x:Tr.Nd) (sl:Value):Value:= .iface (Ip.ty x.kind) (.agg #[.int .i64 x.kind,.int .i64 x.op,.int .i64 x.n,.string x.text,.int .i64 x.kids,sl])
set_option maxRecDepth 100000 in
set_option maxHeartbeats 4000000 in
theorem newPart_any (k o m c0:Int) (t:ByteArray) (p:Option Addr) (n c:Nat) (w:World) :
  Calls Tryz.prog 72 #[.agg #[.int .i64 k,.int .i64 o,.int .i64 m,.string t,.int .i64 c0],.slice p n c] w fun e w'=>e = .returned (Ip.pv ⟨k,o,m,t,n⟩ (.slice p n c))∧Below w.heap.size w w':=by
 have HP:Hid (∀ k:Int,Ip.pv ⟨k,o,m,t,n⟩ (.slice p n c) = .iface (Ip.ty k) (.agg #[.int .i64 k,.int .i64 o,.int .i64 m,.string t,.int .i64 n,.slice p n c])):=hide (fun _=>rfl)
 rw [HP.out]
 go_enter Tryz.func72,Tryz.ntmps72
 go_wp2
 all_goals
  go_ret
  refine ⟨?_,?_⟩
  ·clear HP;simp only [Ip.ty, *,cond_true,cond_false];rfl
  ·repeat (first | (refine Below.setCell ?_ (by show w.heap.size≤w.heap.size;exact Nat.le_refl _) _) | (refine Below.alloc ?_ (by simp) _))
   exact Below.refl _ _
theorem ikids_at (k o m c:Int) (t:ByteArray) (sl:Value) (hs:∃ p n c,sl = .slice p n c) (w:World) :
  Calls Tryz.prog 249 #[.agg #[.int .i64 k,.int .i64 o,.int .i64 m,.string t,.int .i64 c,sl]] w fun e w'=>e = .returned sl∧Below w.heap.size w w':=by
 obtain ⟨p,n,c,rfl⟩:=hs
 go_enter Tryz.func249,Tryz.ntmps249
 go_wp2
 go_ret
 exact ⟨rfl,bA _⟩
set_option maxRecDepth 100000 in
theorem iself_at (k o m c:Int) (t:ByteArray) (sl:Value) (hs:∃ p n c,sl = .slice p n c) (w:World) :
  Calls Tryz.prog 252 #[.agg #[.int .i64 k,.int .i64 o,.int .i64 m,.string t,.int .i64 c,sl]] w fun e w'=>e = .returned (.agg #[.int .i64 k,.int .i64 o,.int .i64 m,.string t,.int .i64 c])∧Below w.heap.size w w':=by
 obtain ⟨p,n,c',rfl⟩:=hs
 go_enter Tryz.func252,Tryz.ntmps252
 go_wp2
 refine bodyPost_ret (v:= .agg #[.int .i64 k,.int .i64 o,.int .i64 m,.string t,.int .i64 c]) (by simp [results,Tryz.results252,go_sem]) rfl ⟨rfl,?_⟩
 repeat (first | (refine Below.setCell ?_ (by show w.heap.size≤w.heap.size+1;omega) _) | (refine Below.alloc ?_ (by simp) _))
 exact Below.refl _ _
theorem Ip.cond_mem {c:Bool} {a b:TypeId} {l:List TypeId} (ha:a∈l) (hb:b∈l):cond c a b∈l:=by cases c <;> assumption
theorem Ip.ty_mem (k:Int):Ip.ty k∈([193,194,195,196,197,198,199,200,201,202,203,204,205,206,207,208,209,210,211,212,213]:List TypeId):=by
 unfold Ip.ty
 repeat (refine Ip.cond_mem (by simp) ?_)
 simp
theorem Ip.ty_or (k:Int):Ip.ty k=193∨Ip.ty k=194∨Ip.ty k=195∨Ip.ty k=196∨Ip.ty k=197∨Ip.ty k=198∨Ip.ty k=199∨Ip.ty k=200∨Ip.ty k=201∨Ip.ty k=202∨Ip.ty k=203∨Ip.ty k=204∨Ip.ty k=205∨Ip.ty k=206∨Ip.ty k=207∨Ip.ty k=208∨Ip.ty k=209∨Ip.ty k=210∨Ip.ty k=211∨Ip.ty k=212∨Ip.ty k=213:=by
 have h:=Ip.ty_mem k
 simpa only [List.mem_cons,List.not_mem_nil,or_false] using h
theorem meth_kids (k o m c:Int) (t:ByteArray) (sl:Value) (w:World):(Go.method 424 (Ip.ty k) (.agg #[.int .i64 k,.int .i64 o,.int .i64 m,.string t,.int .i64 c,sl]) "loop.example/kilnclay/impl.kids").run Tryz.prog w = .ok (249,.agg #[.int .i64 k,.int .i64 o,.int .i64 m,.string t,.int .i64 c,sl]) w:=by
 rcases Ip.ty_or k with h | h | h | h | h | h | h | h | h | h | h | h | h | h | h | h | h | h | h | h | h <;> rw [h] <;> kernel_rfl
theorem meth_self (k o m c:Int) (t:ByteArray) (sl:Value) (w:World):(Go.method 424 (Ip.ty k) (.agg #[.int .i64 k,.int .i64 o,.int .i64 m,.string t,.int .i64 c,sl]) "loop.example/kilnclay/impl.self").run Tryz.prog w = .ok (252,.agg #[.int .i64 k,.int .i64 o,.int .i64 m,.string t,.int .i64 c,sl]) w:=by
 rcases Ip.ty_or k with h | h | h | h | h | h | h | h | h | h | h | h | h | h | h | h | h | h | h | h | h <;> rw [h] <;> kernel_rfl
namespace Fd
def nk (x:Tr.Nd) (n:Nat):Tr.Nd:={x with kids:=n}
def Pt (B:Nat→Prop) (w:World):Fd→Value→Prop
 | .mk x _ _ ks,v=>∃ (sl:Value) (xs:List Value),v=Ip.pv (nk x ks.length) sl∧w.ownsRow 0 56 1 sl ks.length xs∧(∀ q,sl.ownBlock=some q→B q)∧ptL B w ks xs
 where
 ptL (B:Nat→Prop) (w:World):List Fd→List Value→Prop
 | [],xs=>xs=[]
 | t :: r,xs=>∃ v s,xs=v :: s∧Pt B w t v∧ptL B w r s
theorem pt_mk (B:Nat→Prop) (w:World) (x:Tr.Nd) (p b:Int) (ks:List Fd) (v:Value):Pt B w (.mk x p b ks) v↔∃ (sl:Value) (xs:List Value),v=Ip.pv (nk x ks.length) sl∧w.ownsRow 0 56 1 sl ks.length xs∧(∀ q,sl.ownBlock=some q→B q)∧Pt.ptL B w ks xs:=by rw [Pt]
variable {B:Nat→Prop}
theorem ptL_nil (w:World) (xs:List Value):Pt.ptL B w [] xs↔xs=[]:=by rw [Pt.ptL]
theorem ptL_cons (w:World) (t:Fd) (r:List Fd) (xs:List Value):Pt.ptL B w (t :: r) xs↔∃ v s,xs=v :: s∧Pt B w t v∧Pt.ptL B w r s:=by rw [Pt.ptL]
theorem ptL_len {w:World}:∀ {l:List Fd} {xs:List Value},Pt.ptL B w l xs→xs.length=l.length
 | [],xs,h=>by rw [(ptL_nil w xs).1 h];rfl
 | t :: r,xs,h=>by
  obtain ⟨a,s,rfl,_,h2⟩:=(ptL_cons w t r xs).1 h
  rw [List.length_cons,List.length_cons,ptL_len h2]
theorem ptL_get {w:World}:∀ {l:List Fd} {xs:List Value} (i:Nat),Pt.ptL B w l xs→(hi:i < l.length)→∃ a,xs[i]?=some a∧Pt B w l[i] a
 | t :: r,xs,0,h,_=>by
  obtain ⟨a,s,rfl,h1,_⟩:=(ptL_cons w t r xs).1 h
  exact ⟨a,rfl,h1⟩
 | t :: r,xs,i+1,h,hi=>by
  obtain ⟨a,s,rfl,_,h2⟩:=(ptL_cons w t r xs).1 h
  obtain ⟨b,h3,h4⟩:=ptL_get i h2 (by simpa using hi)
  exact ⟨b,by simpa using h3,by simpa using h4⟩
theorem ptL_snoc {w:World}:∀ {l:List Fd} {xs:List Value} {t:Fd} {a:Value},Pt.ptL B w l xs→Pt B w t a→Pt.ptL B w (l++[t]) (xs++[a])
 | [],xs,t,a,h,ht=>by
  rw [(ptL_nil w xs).1 h]
  exact (ptL_cons _ _ _ _).2 ⟨a,[],rfl,ht,(ptL_nil _ _).2 rfl⟩
 | y :: r,xs,t,a,h,ht=>by
  obtain ⟨b,s,rfl,h1,h2⟩:=(ptL_cons w y r xs).1 h
  exact (ptL_cons _ _ _ _).2 ⟨b,s++[a],rfl,h1,ptL_snoc h2 ht⟩
theorem pt_go {B':Nat→Prop} {w w':World} (hB:∀ q,B q→B' q) (hw:∀ q,B q→w'.heap[q]?=w.heap[q]?):∀ (n:Nat) (y:Fd),y.size≤n→∀ {a:Value},Pt B w y a→Pt B' w' y a:=by
 intro n
 induction n with
 | zero=>intro y hy;have:=size_pos y;omega
 | succ n ih =>
  intro y hy a h
  obtain ⟨x,p,b,ks⟩:=y
  rw [size_mk] at hy
  have hs:∀ t∈ks,t.size≤n:=fun t ht=>by have:=size_mem ht;omega
  obtain ⟨sl,xs,h1,h2,h3,h4⟩:=(pt_mk _ _ _ _ _ _ _).1 h
  refine (pt_mk _ _ _ _ _ _ _).2 ⟨sl,xs,h1,row_ownF h2 (fun _ _=>Nat.zero_le _) (fun q e=>hw q (h3 q e)),fun q e=>hB q (h3 q e),?_⟩
  clear h1 h2 h3 h hy
  induction ks generalizing xs with
  | nil=>exact (ptL_nil _ _).2 ((ptL_nil _ _).1 h4)
  | cons t r ihr =>
   obtain ⟨c,s,rfl,g1,g2⟩:=(ptL_cons _ _ _ _).1 h4
   exact (ptL_cons _ _ _ _).2 ⟨c,s,rfl,ih t (hs t (by simp)) g1,ihr (fun y hy=>hs y (by simp [hy])) s g2⟩
theorem Pt.go {B':Nat→Prop} {w w':World} {y:Fd} {a:Value} (h:Pt B w y a) (hB:∀ q,B q→B' q) (hw:∀ q,B q→w'.heap[q]?=w.heap[q]?):Pt B' w' y a:=pt_go hB hw _ y (Nat.le_refl _) h
theorem ptL_go {B':Nat→Prop} {w w':World} (hB:∀ q,B q→B' q) (hw:∀ q,B q→w'.heap[q]?=w.heap[q]?):∀ {l:List Fd} {xs:List Value},Pt.ptL B w l xs→Pt.ptL B' w' l xs
 | [],xs,h=>(ptL_nil _ _).2 ((ptL_nil _ _).1 h)
 | t :: r,xs,h=>by
  obtain ⟨c,s,rfl,g1,g2⟩:=(ptL_cons _ _ _ _).1 h
  exact (ptL_cons _ _ _ _).2 ⟨c,s,rfl,g1.go hB hw,ptL_go hB hw g2⟩
abbrev IsP (w:World) (y:Fd) (v:Value):Prop:=Pt (fun q=>q < w.heap.size) w y v
theorem IsP.below {w w':World} {y:Fd} {v:Value} (h:IsP w y v) (hb:Below w.heap.size w w'):IsP w' y v:=Pt.go h (fun _ e=>Nat.lt_of_lt_of_le e hb.size) (fun q e=>hb.block q e)
end Fd
end Go.Proofs.YthbojbbmpcmoaaaGreatDoor
namespace Go.Proofs.YthbojbbmpcmoaaaGreatDoor.Vl
open Go.RowKit T.atoms T.ok T.high T.good T.allPlain
def CellsAt (w:World) (g o:Nat) (vs:List Value):Prop:=∀ j u,vs[j]?=some u→w.cell? ⟨g,o+j,none⟩=some u
def RowAt (w:World) (x:Nat) (p:Option Addr) (vs:List Value):Prop:=vs=[]∨∃ g o,p=some ⟨g,o,none⟩∧g≠x∧g < w.heap.size∧CellsAt w g o vs
theorem CellsAt.heap {w w':World} {g o:Nat} {vs:List Value} (h:CellsAt w g o vs) (hb:w'.heap[g]?=w.heap[g]?):CellsAt w' g o vs:=by
 intro j u hu
 have:=h j u hu
 simp only [World.cell?] at this ⊢
 rw [hb]
 exact this
structure Moves (w w':World) (x x':Nat):Prop where
 block:∀ q,q < w.heap.size→q≠x→w'.heap[q]?=w.heap[q]?
 size:w.heap.size≤w'.heap.size
 other:∀ q,q < w.heap.size→q≠x→q≠x'
theorem Moves.below {w w':World} {x:Nat} (hb:Below w.heap.size w w'):Moves w w' x x:=⟨fun q h _=>hb.block q h,hb.size,fun _ _ h=>h⟩
theorem Moves.fresh {w w':World} {x x':Nat} (hb:Below w.heap.size w w') (hx:w.heap.size≤x'):Moves w w' x x':=⟨fun q h _=>hb.block q h,hb.size,fun q h _=>by omega⟩
theorem Moves.trans {w w1 w2:World} {x x1 x2:Nat} (a:Moves w w1 x x1) (b:Moves w1 w2 x1 x2):Moves w w2 x x2 :=
 ⟨fun q h hx=>(b.block q (Nat.lt_of_lt_of_le h a.size) (a.other q h hx)).trans (a.block q h hx),Nat.le_trans a.size b.size,fun q h hx=>b.other q (Nat.lt_of_lt_of_le h a.size) (a.other q h hx)⟩
theorem RowAt.moves {w w':World} {x x':Nat} {p:Option Addr} {vs:List Value} (h:RowAt w x p vs) (hm:Moves w w' x x'):RowAt w' x' p vs:=by
 rcases h with h | ⟨g,o,h1,h2,h3,h4⟩
 ·exact .inl h
 ·exact .inr ⟨g,o,h1,hm.other g h3 h2,Nat.lt_of_lt_of_le h3 hm.size,h4.heap (hm.block g h3 h2)⟩
def DatAt (w:World) (x:Nat):T→Value→Prop
 | .mk k n s ks,v =>
  (k=1∧v = .iface 315 (.agg #[]))∨(k=2∧v = .iface 92 (.bool (n == 1)))∨(k=3∧v = .iface 115 (.int .i64 n))∨(k=4∧v = .iface 100 (.string s)) ∨
  (k=5∧∃ p c vs,v = .iface 107 (.agg #[.slice p ks.length c,.int .i64 (1+(atomsL ks).length:Nat),.int .i64 (highL ks:Nat)])∧ks.length≤c∧DatL w x ks vs∧RowAt w x p vs) ∨
  (k=6∧∃ p c m vs,ks.length=2 * m∧v = .iface 112 (.agg #[.slice p m c,.int .i64 (1+(atomsL ks).length:Nat),.int .i64 (highL ks:Nat)])∧m≤c∧FldL w x ks vs∧RowAt w x p vs)
 where
 DatL (w:World) (x:Nat):List T→List Value→Prop
 | [],vs=>vs=[]
 | t :: r,vs=>∃ v vr,vs=v :: vr∧DatAt w x t v∧DatL w x r vr
 FldL (w:World) (x:Nat):List T→List Value→Prop
 | [],vs=>vs=[]
 | [_],_=>False
 | a :: b :: r,vs=>∃ v vr,vs = .string a.text :: v :: vr∧DatAt w x b v∧FldL w x r vr
open DatAt
theorem DatAt.moves {w w':World} {x x':Nat} (hm:Moves w w' x x'):∀ (t:T) (v:Value),DatAt w x t v→DatAt w' x' t v
 | .mk k n s ks,v,h=>by
  unfold DatAt at h ⊢
  rcases h with h | h | h | h | ⟨h,p,c,vs,h1,hc,h2,h3⟩ | ⟨h,p,c,m,vs,h0,h1,hc,h2,h3⟩
  ·exact .inl h
  ·exact .inr (.inl h)
  ·exact .inr (.inr (.inl h))
  ·exact .inr (.inr (.inr (.inl h)))
  ·exact .inr (.inr (.inr (.inr (.inl ⟨h,p,c,vs,h1,hc,movesL hm ks vs h2,h3.moves hm⟩))))
  ·exact .inr (.inr (.inr (.inr (.inr ⟨h,p,c,m,vs,h0,h1,hc,movesF hm ks vs h2,h3.moves hm⟩))))
 where
 movesL {w w':World} {x x':Nat} (hm:Moves w w' x x'):∀ (l:List T) (vs:List Value),DatL w x l vs→DatL w' x' l vs
  | [],vs,h=>by unfold DatL at h ⊢;exact h
  | t :: r,vs,h=>by
   unfold DatL at h ⊢
   obtain ⟨v,vr,h1,h2,h3⟩:=h
   exact ⟨v,vr,h1,DatAt.moves hm t v h2,movesL hm r vr h3⟩
 movesF {w w':World} {x x':Nat} (hm:Moves w w' x x'):∀ (l:List T) (vs:List Value),FldL w x l vs→FldL w' x' l vs
  | [],vs,h=>by unfold FldL at h ⊢;exact h
  | [_],vs,h=>by unfold FldL at h;exact h.elim
  | a :: b :: r,vs,h=>by
   unfold FldL at h ⊢
   obtain ⟨v,vr,h1,h2,h3⟩:=h
   exact ⟨v,vr,h1,DatAt.moves hm b v h2,movesF hm r vr h3⟩
theorem DatL.moves {w w':World} {x x':Nat} (hm:Moves w w' x x'):∀ (l:List T) (vs:List Value),DatL w x l vs→DatL w' x' l vs:=DatAt.moves.movesL hm
theorem FldL.moves {w w':World} {x x':Nat} (hm:Moves w w' x x'):∀ (l:List T) (vs:List Value),FldL w x l vs→FldL w' x' l vs:=DatAt.moves.movesF hm
theorem DatL.len {w:World} {x:Nat}:∀ {l:List T} {vs:List Value},DatL w x l vs→vs.length=l.length
 | [],vs,h=>by unfold DatL at h;rw [h];rfl
 | t :: r,vs,h=>by
  unfold DatL at h
  obtain ⟨v,vr,rfl,_,h3⟩:=h
  simp [DatL.len h3]
theorem DatL.at {w:World} {x:Nat}:∀ {l:List T} {vs:List Value},DatL w x l vs→∀ j (h:j < l.length),∃ v,vs[j]?=some v∧DatAt w x l[j] v
 | t :: r,vs,h,0,_=>by
  unfold DatL at h
  obtain ⟨v,vr,rfl,h2,_⟩:=h
  exact ⟨v,rfl,h2⟩
 | t :: r,vs,h,j+1,hj=>by
  unfold DatL at h
  obtain ⟨v,vr,rfl,_,h3⟩:=h
  obtain ⟨u,hu,hd⟩:=DatL.at h3 j (by simpa using hj)
  exact ⟨u,hu,hd⟩
theorem DatL.snoc {w:World} {x:Nat}:∀ {l:List T} {vs:List Value} {t:T} {v:Value},DatL w x l vs→DatAt w x t v→DatL w x (l++[t]) (vs++[v])
 | [],vs,t,v,h,ht=>by
  unfold DatL at h
  subst h
  show DatL w x [t] [v]
  unfold DatL
  exact ⟨v,[],rfl,ht,by unfold DatL;rfl⟩
 | a :: r,vs,t,v,h,ht=>by
  unfold DatL at h
  obtain ⟨u,vr,rfl,h2,h3⟩:=h
  show DatL w x (a :: (r++[t])) (u :: (vr++[v]))
  unfold DatL
  exact ⟨u,vr++[v],rfl,h2,DatL.snoc h3 ht⟩
theorem DatL.take {w:World} {x:Nat}:∀ {l:List T} {vs:List Value} (m:Nat),DatL w x l vs→DatL w x (l.take m) (vs.take m)
 | l,vs,0,h=>by rw [List.take_zero,List.take_zero];unfold DatL;rfl
 | [],vs,m+1,h=>by unfold DatL at h;subst h;simp;unfold DatL;rfl
 | t :: r,vs,m+1,h=>by
  unfold DatL at h
  obtain ⟨v,vr,rfl,h2,h3⟩:=h
  rw [List.take_succ_cons,List.take_succ_cons]
  unfold DatL
  exact ⟨v,_,rfl,h2,DatL.take m h3⟩
theorem DatL.drop {w:World} {x:Nat}:∀ {l:List T} {vs:List Value} (m:Nat),DatL w x l vs→DatL w x (l.drop m) (vs.drop m)
 | l,vs,0,h=>by rwa [List.drop_zero,List.drop_zero]
 | [],vs,m+1,h=>by unfold DatL at h;subst h;simp;unfold DatL;rfl
 | t :: r,vs,m+1,h=>by
  unfold DatL at h
  obtain ⟨v,vr,rfl,h2,h3⟩:=h
  rw [List.drop_succ_cons,List.drop_succ_cons]
  exact DatL.drop m h3
theorem DatAt.one {w:World} {x:Nat} {t:T} {v:Value} (h:DatAt w x t v):v.oneCell'=true:=by
 cases t
 unfold DatAt at h
 rcases h with ⟨_,rfl⟩ | ⟨_,rfl⟩ | ⟨_,rfl⟩ | ⟨_,rfl⟩ | ⟨_,p,c,vs,rfl,_⟩ | ⟨_,p,c,m,vs,_,rfl,_⟩ <;> rfl
theorem DatL.one {w:World} {x:Nat}:∀ {l:List T} {vs:List Value},DatL w x l vs→∀ u∈vs,u.oneCell'=true
 | [],vs,h,u,hu=>by unfold DatL at h;subst h;cases hu
 | t :: r,vs,h,u,hu=>by
  unfold DatL at h
  obtain ⟨v,vr,rfl,h2,h3⟩:=h
  rcases List.mem_cons.1 hu with rfl | hu
  ·exact h2.one
  ·exact DatL.one h3 u hu
end Go.Proofs.YthbojbbmpcmoaaaGreatDoor.Vl
