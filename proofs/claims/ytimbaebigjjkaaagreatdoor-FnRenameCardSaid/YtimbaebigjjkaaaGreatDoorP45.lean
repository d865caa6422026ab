/- Jj, Ja. -/
import Derived.Test.YtimbaebigjjkaaaGreatDoorP41
import Derived.Test.YtimbaebigjjkaaaGreatDoorP14
import Derived.Test.YtimbaebigjjkaaaGreatDoorP39
namespace Go.Proofs.YtimbaebigjjkaaaGreatDoor
open Go.RowKit
theorem Tr.irun_bad (ns:List Tr.Nd) (i:Nat) (h:i < ns.length) (op:List Tr.Gr) (hk:ns[i].kids < 0∨(op.length:Int) < ns[i].kids):Ze (ns.drop i) op=none:=by
 rw [List.drop_eq_getElem_cons h,Ze,if_pos hk]
theorem Tr.irun_step (ns:List Tr.Nd) (i:Nat) (h:i < ns.length) (op:List Tr.Gr) (k m:Nat) (hk:ns[i].kids=k) (hm:op.length=m+k) :
  Ze (ns.drop i) op=if YN ns[i] (op.drop m)=true then Ze (ns.drop (i+1)) (op.take m++[⟨ns[i],Yo (op.drop m) 0⟩]) else none:=by
 rw [List.drop_eq_getElem_cons h,Ze,if_neg (by omega),show op.length - ns[i].kids.toNat=m from by omega]
theorem JE {w:World} {B n size:Nat} {e:TypeId} {v:Value} {xs:List Value} (h:w.ownsRow B e size v n xs):(v = .slice none 0 0∧n=0)∨∃ g cap,v = .slice (some ⟨g,0,none⟩) n cap:=by
 rcases h.2 with h | ⟨g,cap,_,hv,_⟩
 ·exact .inl h
 ·exact .inr ⟨g,cap,hv⟩
theorem JA (l:List Tr.Gr) (h b:Nat) (hh:∀ x∈l,x.high+1≤b) (hb:h≤b):Yo l h≤b:=by
 induction l generalizing h with
 | nil=>exact hb
 | cons x r ih =>
  rw [Yo]
  exact ih _ (fun y hy=>hh y (by simp [hy])) (by have:=hh x (by simp);split <;> omega)
theorem QD {k n:Int} (h:Z4 k n=true) (hk:k=12∨k=15∨k=20):1≤n:=by
 rcases hk with rfl | rfl | rfl <;> (simp [Z4] at h;omega)
theorem cell_six (w:World) (x:Tr.Gr) (t:TypeId):∀ (j:Nat) (u:Value),x.cells[j]?=some u→(w.alloc (.cells #[.int .i64 x.nd.kind,.int .i64 x.nd.op,.int .i64 x.nd.n,.string x.nd.text,.int .i64 x.nd.kids,.int .i64 x.high] t)).cell? ((⟨w.heap.size,0,none⟩:Addr).add j)=some u:=by
 intro j u h
 rw [ZS,Nat.zero_add,World.cell?,Xi]
 simpa [Tr.Gr.cells] using h
theorem one_six (x:Tr.Gr):∀ u∈x.cells,u.oneCell'=true:=by
 intro u hu
 simp only [Tr.Gr.cells,List.mem_cons,List.not_mem_nil,or_false] at hu
 rcases hu with rfl | rfl | rfl | rfl | rfl | rfl <;> rfl
theorem KH {w w1:World} (h:Below w.drew.heap.size w.drew w1):Below w.heap.size w w1:=(Below.refl _ _).drew.trans h
theorem Tryz.infoGr:(Tryz.prog.info? 87).map (fun i=>(i.zero,i.size,i.bytes))=some (some (.agg #[.int .i64 0,.int .i64 0,.int .i64 0,.string ⟨#[]⟩,.int .i64 0,.int .i64 0]),6,56):=by kernel_rfl
set_option maxRecDepth 100000 in
set_option maxHeartbeats 4000000 in
theorem ivalid_any (ns:List Tr.Nd) (tg tc:Nat) (w:World) (hn:ns.length≤1048576) (htx:∀ x∈ns,x.text.size≤1048576) (ht:NodesAt w tg ns) :
  Calls Tryz.prog 27 #[.agg #[.slice (some ⟨tg,0,none⟩) ns.length tc]] w fun e w'=>e = .returned (.bool (Yj ns))∧Below w.heap.size w w':=by
 obtain ⟨iG,hG,a4,a3,a2⟩:=info_parts Tryz.infoGr
 have r1:Below w.heap.size w (w.alloc (.cells #[.slice (some ⟨tg,0,none⟩) ns.length tc] 25)):=bA _
 have HT:=X1 ht
 have HX:=X1 htx
 clear ht htx
 by_cases hbig:5000 < ns.length
 ·have HD:Hid (Yj ns=false):=X1 (by unfold Yj;rw [decide_eq_false (by omega)];rfl)
  go_enter Tryz.func27,Tryz.ntmps27
  go_wp2
  go_ret
  exact ⟨X8 HD.o.symm,r1⟩
 ·have HD:Hid (Yj ns=Qd (Ze ns [])):=X1 (by unfold Yj;rw [decide_eq_true (by omega)];rfl)
  go_enter Tryz.func27,Tryz.ntmps27
  go_wp2_with fail
  refine (wordSet_any _).mono ?_
  rintro e w1 ⟨rfl,C,a5⟩
  have v:Hid (Below w.heap.size w w1):=X1 (r1.trans (a5.mono (by simp)))
  have hbox:w1.cell? ⟨w.heap.size,0,none⟩=some (.slice (some ⟨tg,0,none⟩) ns.length tc):=(a5.cell (p:=⟨w.heap.size,0,none⟩) (by simp)).trans (by simp)
  have a1:=X1 C
  clear C a5
  rw [World.size_alloc] at *
  go_wp2
  go_loopw [4,17] (fun v4 t wr=>∃ (i:Nat) (op:List Tr.Gr),i≤ns.length∧t = .int .i64 i∧op.length≤i∧(∀ x∈op,x.high≤i∧x.nd.text.size≤1048576)∧wr.ownsRow w1.heap.size 87 6 v4 op.length (XC op)∧Below w1.heap.size w1 wr ∧
    Ze ns []=Ze (ns.drop i) op) (fun _ t _=>ns.length - (intOf t).toNat)
  case atStart=>exact ⟨0,[],Nat.zero_le _,rfl,Nat.le_refl _,(fun x h=>by cases h),World.ownsRow_nil _ _ _ _,Below.refl _ _,rfl⟩
  case round =>
   obtain ⟨i,op,hin,rfl,hoi,hop,ho,hB,he⟩:=hrel
   have HE:=X1 he
   have N:=X1 hop
   clear he hop
   by_cases hlt:i < ns.length
   ·have hN:=(HT.o.below (v.o.trans (hB.mono v.o.size))).2 i hlt
    obtain ⟨n0,n1,n2,n3,n4⟩:=hN
    have P:=X1 (Tr.irun_bad ns i hlt op)
    have z:=X1 (Tr.irun_step ns i hlt op)
    have F:=HX.o ns[i] (List.getElem_mem hlt)
    generalize hdd:ns[i]=d at *
    clear hdd
    obtain ⟨dk,b,dn,dt,A⟩:=d
    simp only at n0 n1 n2 n3 n4 P z F
    by_cases hneg:A < 0
    ·have HF:Hid (Yj ns=false):=X1 (by rw [HD.o,HE.o,P.o (.inl hneg)];rfl)
     go_wp2
     go_ret
     exact ⟨X8 HF.o.symm,v.o.trans ((hB.alloc hB.size _).mono v.o.size)⟩
    ·by_cases hbig2:(op.length:Int) < A
     ·have HF:Hid (Yj ns=false):=X1 (by rw [HD.o,HE.o,P.o (.inr hbig2)];rfl)
      rcases JE ho with ⟨rfl,hz⟩ | ⟨g,cap,rfl⟩
      ·rw [hz] at hbig2
       have hbig3:0 < A:=by omega
       go_wp2
       go_ret
       exact ⟨X8 HF.o.symm,v.o.trans ((hB.alloc hB.size _).mono v.o.size)⟩
      ·go_wp2
       go_ret
       exact ⟨X8 HF.o.symm,v.o.trans ((hB.alloc hB.size _).mono v.o.size)⟩
     obtain ⟨k,rfl⟩:∃ k:Nat,A=k:=⟨A.toNat,by omega⟩
     obtain ⟨m,hm⟩:∃ m,op.length=m+k:=⟨op.length - k,by omega⟩
     have hq:¬ ((m:Int)+(k:Int) < (k:Int)):=by omega
     have hq2:decide ((m:Int)+(k:Int) < (k:Int))=false:=by simp;omega
     clear hneg hbig2
     rcases JE ho with ⟨rfl,hz⟩ | ⟨g,cap,rfl⟩
     ·obtain rfl:k=0:=by omega
      obtain rfl:m=0:=by omega
      obtain rfl:op=[]:=List.eq_nil_of_length_eq_zero hz
      have J:Hid (GrV (wr.alloc (.cells #[.int .i64 dk,.int .i64 b,.int .i64 dn,.string dt,.int .i64 0] 35)) (.slice none 0 0) []):=X1 (.inl ⟨_,_,rfl,rfl⟩)
      have V:Hid (wr.ownsRow w1.heap.size 87 6 (.slice none 0 0) 0 (XC [])):=X1 (World.ownsRow_nil _ _ _ _)
      replace z:=X1 (z.o 0 0 rfl rfl)
      rw [show List.drop 0 ([]:List Tr.Gr)=[] from rfl,show List.take 0 ([]:List Tr.Gr)=[] from rfl,show ((0:Nat):Int)=0 from rfl] at z
      clear ho hq hq2 hm hz
      have HW:=X1 (hB.alloc hB.size (.cells #[.int .i64 dk,.int .i64 b,.int .i64 dn,.string dt,.int .i64 0] 35))
      have HU:=X1 (uses_any dk b dn 0 dt (w.heap.size+1) (wr.alloc (.cells #[.int .i64 dk,.int .i64 b,.int .i64 dn,.string dt,.int .i64 0] 35)) F (map_below a1.o HW.o))
      have HC:=X1 (count_any dk b dn 0 dt)
      cases hp:X9 ⟨dk,b,dn,dt,0⟩
      ·have HF:Hid (Yj ns=false):=X1 (by rw [HD.o,HE.o,z.o,if_neg (by unfold YN;rw [hp];simp)];rfl)
       have j:=HU.o
       rw [hp] at j
       replace j:=X1 j
       go_wp2_with fail
       refine j.o.mono ?_
       rintro e w2 ⟨rfl,a⟩
       obtain ⟨x0,x1,x2,x3,x4,x5⟩:=box5 a
       go_wp2
       go_ret
       exact ⟨X8 HF.o.symm,v.o.trans ((HW.o.trans (a.mono (HW.o.size))).mono v.o.size)⟩
      ·have j:=HU.o
       rw [hp] at j
       replace j:=X1 j
       cases hc:Z4 dk 0
       ·have HF:Hid (Yj ns=false):=X1 (by rw [HD.o,HE.o,z.o,if_neg (by unfold YN;rw [hp,hc];simp)];rfl)
        have l:=HC.o
        rw [hc] at l
        replace l:=X1 l
        go_wp2_with fail
        refine j.o.mono ?_
        rintro e w2 ⟨rfl,a⟩
        obtain ⟨x0,x1,x2,x3,x4,x5⟩:=box5 a
        go_wp2_with fail
        refine (l.o _).mono ?_
        rintro e w3 ⟨rfl,y⟩
        have f:=a.trans (y.mono a.size)
        obtain ⟨y0,y1,y2,y3,y4,y5⟩:=box5 f
        go_wp2
        go_ret
        exact ⟨X8 HF.o.symm,v.o.trans ((HW.o.trans (f.mono (HW.o.size))).mono v.o.size)⟩
       ·have l:=HC.o
        rw [hc] at l
        replace l:=X1 l
        have I:Hid (∀ w',GrV w' (.slice none 0 0) ([])→Calls Tryz.prog 48 #[.agg #[.int .i64 dk,.int .i64 b,.int .i64 dn,.string dt,.int .i64 0],(.slice none 0 0)] w' fun e w''=>e = .returned (.bool (Ys dk ([])))∧Below w'.heap.size w' w''):=X1 fun w' hg=>QO dk b dn 0 dt ([]) _ w' (Nat.zero_le _) (fun h=>by have:=QD hc h;omega) (fun x hx=>by cases hx) hg
        cases hf:Ys dk ([])
        ·have HF:Hid (Yj ns=false):=X1 (by rw [HD.o,HE.o,z.o,if_neg (by unfold YN;rw [hp,hc,hf];simp)];rfl)
         have s:=I.o
         rw [hf] at s
         replace s:=X1 s
         go_wp2_with fail
         refine j.o.mono ?_
         rintro e w2 ⟨rfl,a⟩
         obtain ⟨x0,x1,x2,x3,x4,x5⟩:=box5 a
         go_wp2_with fail
         refine (l.o _).mono ?_
         rintro e w3 ⟨rfl,y⟩
         have f:=a.trans (y.mono a.size)
         obtain ⟨y0,y1,y2,y3,y4,y5⟩:=box5 f
         go_wp2_with fail
         refine (s.o _ (J.o.below f)).mono ?_
         rintro e w4 ⟨rfl,H⟩
         have u:=f.trans (H.mono f.size)
         obtain ⟨z0,z1,z2,z3,z4,z5⟩:=box5 u
         go_wp2
         go_ret
         exact ⟨X8 HF.o.symm,v.o.trans ((HW.o.trans (u.mono (HW.o.size))).mono v.o.size)⟩
        ·have HF:Hid (Ze ns []=Ze (ns.drop (i+1)) ([]++[⟨⟨dk,b,dn,dt,0⟩,Yo ([]) 0⟩])):=X1 (by rw [HE.o,z.o,if_pos (by unfold YN;rw [hp,hc,hf];rfl)])
         have s:=I.o
         rw [hf] at s
         replace s:=X1 s
         have Z:Yo ([]) 0≤i+1:=JA _ _ _ (fun x hx=>by cases hx) (by omega)
         have S:Hid (∀ w',GrV w' (.slice none 0 0) ([])→Calls Tryz.prog 49 #[(.slice none 0 0)] w' fun e w''=>e = .returned (.int .i64 (Yo ([]) 0:Nat))∧Below w'.heap.size w' w''):=X1 fun w' hg=>Ju ([]) _ w' (Nat.zero_le _) (fun x hx=>by cases hx) hg
         generalize hovv:Yo ([]) 0=ov at *
         clear hovv HU HC I P z
         go_wp2_with fail
         refine j.o.mono ?_
         rintro e w2 ⟨rfl,a⟩
         obtain ⟨x0,x1,x2,x3,x4,x5⟩:=box5 a
         go_wp2_with fail
         refine (l.o _).mono ?_
         rintro e w3 ⟨rfl,y⟩
         have f:=a.trans (y.mono a.size)
         obtain ⟨y0,y1,y2,y3,y4,y5⟩:=box5 f
         go_wp2_with fail
         refine (s.o _ (J.o.below f)).mono ?_
         rintro e w4 ⟨rfl,H⟩
         have u:=f.trans (H.mono f.size)
         obtain ⟨z0,z1,z2,z3,z4,z5⟩:=box5 u
         have K:Below w1.heap.size w1 w4:=HW.o.trans (u.mono HW.o.size)
         have Q:Hid (GrV w4.drew (.slice none 0 0) ([])):=X1 ((J.o.below u).below (Below.refl _ _).drew)
         have U:Hid (w4.ownsRow w1.heap.size 87 6 (.slice none 0 0) 0 (XC ([]))):=X1 (Ko (V.o.alloc _) u)
         have O:=X1 u
         clear a y H f x0 x1 x2 x3 x4 x5 y0 y1 y2 y3 y4 y5 s l j u
         go_wp2
         go_region_law (first
          | (refine Kj rfl 49 (.tmp 58) 82 rfl (.slice none 0 0) (.int .i64 (ov:Nat)) (by simp [Act.eval,Act.put]) Tryz.f49 Tryz.func49 (by kernel_rfl) (by kernel_rfl) _ (S.o _ Q.o) ?_;intro w5 B;obtain ⟨y0,y1,y2,y3,y4,y5⟩:=box5 (O.o.trans ((KH B).mono O.o.size)))
          | (refine Kl rfl (.tmp 56) (.tmp 61) 82 rfl w1.heap.size 87 iG _ 6 56 Tryz.underlying82 hG a4 a3 a2 rfl (by decide) (.slice none 0 0) 0 (XC ([])) (by simp [Act.eval]) ((Ko U.o (KH B)).alloc _) ⟨w5.heap.size,0,none⟩ 1 1 (Tr.Gr.cells ⟨⟨dk,b,dn,dt,0⟩,ov⟩) (by simp [Act.eval]) rfl (cell_six _ _ _) (one_six _) (by unfold maxLen;omega) (by omega) (by have:=K.size;have:=B.size;simp at *;omega) ?_;intro v6 w6 E r D M))
         all_goals
          have L:Below w1.heap.size w1 w5:=K.trans ((KH B).mono K.size)
          have X:Below w1.heap.size w1 w6:=(L.alloc L.size _).grown r (by simp;have:=L.size;omega) (fun q e=>by simp [Value.ownBlock] at e)
          clear r D M B
          go_wp2
          go_roundw
          case rel =>
           refine ⟨i+1,[]++[⟨⟨dk,b,dn,dt,0⟩,ov⟩],by omega,by go_num,?_,?_,?_,X,HF.o⟩
           ·simp
           ·intro x hx
            rcases List.mem_append.1 hx with hx | hx
            ·cases hx
            ·obtain rfl:x=_:=List.mem_singleton.1 hx
             exact ⟨Z,F⟩
           ·have Y:([]++[(⟨⟨dk,b,dn,dt,0⟩,ov⟩:Tr.Gr)]).length=0+1:=rfl
            have C:XC ([]++[(⟨⟨dk,b,dn,dt,0⟩,ov⟩:Tr.Gr)])=XC ([])++Tr.Gr.cells ⟨⟨dk,b,dn,dt,0⟩,ov⟩:=by simp [XC]
            rw [Y,C];exact E
          case measure=>simp [intOf];omega
     ·obtain ⟨a6,hgb,hgl⟩:=Z2 ho
      by_cases hcm:cap=m
      ·have a7:m=cap:=hcm.symm
       subst a7
       have J:Hid (GrV (wr.alloc (.cells #[.int .i64 dk,.int .i64 b,.int .i64 dn,.string dt,.int .i64 (k:Int)] 35)) (.slice (some ⟨g,0,none⟩) k 0) (op.drop m)):=X1 (by
        have hk0:k=0:=by omega
        rw [hk0]
        exact .inl ⟨_,_,rfl,List.drop_of_length_le (by omega)⟩)
       have V:Hid (wr.ownsRow w1.heap.size 87 6 (.slice (some ⟨g,0,none⟩) m m) m (XC (op.take m))):=X1 (by rw [← QH];exact row_takeS ho m (by omega))
       clear ho
       have HW:=X1 (hB.alloc hB.size (.cells #[.int .i64 dk,.int .i64 b,.int .i64 dn,.string dt,.int .i64 (k:Int)] 35))
       have HU:=X1 (uses_any dk b dn (k:Int) dt (w.heap.size+1) (wr.alloc (.cells #[.int .i64 dk,.int .i64 b,.int .i64 dn,.string dt,.int .i64 (k:Int)] 35)) F (map_below a1.o HW.o))
       have HC:=X1 (count_any dk b dn (k:Int) dt)
       cases hp:X9 ⟨dk,b,dn,dt,(k:Int)⟩
       ·have HF:Hid (Yj ns=false):=X1 (by rw [HD.o,HE.o,z.o k m rfl hm,if_neg (by unfold YN;rw [hp];simp)];rfl)
        have j:=HU.o
        rw [hp] at j
        replace j:=X1 j
        go_wp2_with fail
        refine j.o.mono ?_
        rintro e w2 ⟨rfl,a⟩
        obtain ⟨x0,x1,x2,x3,x4,x5⟩:=box5 a
        go_wp2
        go_ret
        exact ⟨X8 HF.o.symm,v.o.trans ((HW.o.trans (a.mono (HW.o.size))).mono v.o.size)⟩
       ·have j:=HU.o
        rw [hp] at j
        replace j:=X1 j
        cases hc:Z4 dk (k:Int)
        ·have HF:Hid (Yj ns=false):=X1 (by rw [HD.o,HE.o,z.o k m rfl hm,if_neg (by unfold YN;rw [hp,hc];simp)];rfl)
         have l:=HC.o
         rw [hc] at l
         replace l:=X1 l
         go_wp2_with fail
         refine j.o.mono ?_
         rintro e w2 ⟨rfl,a⟩
         obtain ⟨x0,x1,x2,x3,x4,x5⟩:=box5 a
         go_wp2_with fail
         refine (l.o _).mono ?_
         rintro e w3 ⟨rfl,y⟩
         have f:=a.trans (y.mono a.size)
         obtain ⟨y0,y1,y2,y3,y4,y5⟩:=box5 f
         go_wp2
         go_ret
         exact ⟨X8 HF.o.symm,v.o.trans ((HW.o.trans (f.mono (HW.o.size))).mono v.o.size)⟩
        ·have l:=HC.o
         rw [hc] at l
         replace l:=X1 l
         have I:Hid (∀ w',GrV w' (.slice (some ⟨g,0,none⟩) k 0) (op.drop m)→Calls Tryz.prog 48 #[.agg #[.int .i64 dk,.int .i64 b,.int .i64 dn,.string dt,.int .i64 (k:Int)],(.slice (some ⟨g,0,none⟩) k 0)] w' fun e w''=>e = .returned (.bool (Ys dk (op.drop m)))∧Below w'.heap.size w' w''):=X1 fun w' hg=>QO dk b dn (k:Int) dt (op.drop m) _ w' (by rw [List.length_drop];omega) (fun h=>by rw [List.length_drop];have:=QD hc h;omega) (fun x hx=>(N.o x (List.mem_of_mem_drop hx)).2) hg
         cases hf:Ys dk (op.drop m)
         ·have HF:Hid (Yj ns=false):=X1 (by rw [HD.o,HE.o,z.o k m rfl hm,if_neg (by unfold YN;rw [hp,hc,hf];simp)];rfl)
          have s:=I.o
          rw [hf] at s
          replace s:=X1 s
          go_wp2_with fail
          refine j.o.mono ?_
          rintro e w2 ⟨rfl,a⟩
          obtain ⟨x0,x1,x2,x3,x4,x5⟩:=box5 a
          go_wp2_with fail
          refine (l.o _).mono ?_
          rintro e w3 ⟨rfl,y⟩
          have f:=a.trans (y.mono a.size)
          obtain ⟨y0,y1,y2,y3,y4,y5⟩:=box5 f
          go_wp2_with fail
          refine (s.o _ (J.o.below f)).mono ?_
          rintro e w4 ⟨rfl,H⟩
          have u:=f.trans (H.mono f.size)
          obtain ⟨z0,z1,z2,z3,z4,z5⟩:=box5 u
          go_wp2
          go_ret
          exact ⟨X8 HF.o.symm,v.o.trans ((HW.o.trans (u.mono (HW.o.size))).mono v.o.size)⟩
         ·have HF:Hid (Ze ns []=Ze (ns.drop (i+1)) (op.take m++[⟨⟨dk,b,dn,dt,(k:Int)⟩,Yo (op.drop m) 0⟩])):=X1 (by rw [HE.o,z.o k m rfl hm,if_pos (by unfold YN;rw [hp,hc,hf];rfl)])
          have s:=I.o
          rw [hf] at s
          replace s:=X1 s
          have Z:Yo (op.drop m) 0≤i+1:=JA _ _ _ (fun x hx=>by have:=(N.o x (List.mem_of_mem_drop hx)).1;omega) (by omega)
          have S:Hid (∀ w',GrV w' (.slice (some ⟨g,0,none⟩) k 0) (op.drop m)→Calls Tryz.prog 49 #[(.slice (some ⟨g,0,none⟩) k 0)] w' fun e w''=>e = .returned (.int .i64 (Yo (op.drop m) 0:Nat))∧Below w'.heap.size w' w''):=X1 fun w' hg=>Ju (op.drop m) _ w' (by rw [List.length_drop];omega) (fun x hx=>by have:=(N.o x (List.mem_of_mem_drop hx)).1;omega) hg
          generalize hovv:Yo (op.drop m) 0=ov at *
          clear hovv HU HC I P z
          go_wp2_with fail
          refine j.o.mono ?_
          rintro e w2 ⟨rfl,a⟩
          obtain ⟨x0,x1,x2,x3,x4,x5⟩:=box5 a
          go_wp2_with fail
          refine (l.o _).mono ?_
          rintro e w3 ⟨rfl,y⟩
          have f:=a.trans (y.mono a.size)
          obtain ⟨y0,y1,y2,y3,y4,y5⟩:=box5 f
          go_wp2_with fail
          refine (s.o _ (J.o.below f)).mono ?_
          rintro e w4 ⟨rfl,H⟩
          have u:=f.trans (H.mono f.size)
          obtain ⟨z0,z1,z2,z3,z4,z5⟩:=box5 u
          have K:Below w1.heap.size w1 w4:=HW.o.trans (u.mono HW.o.size)
          have Q:Hid (GrV w4.drew (.slice (some ⟨g,0,none⟩) k 0) (op.drop m)):=X1 ((J.o.below u).below (Below.refl _ _).drew)
          have U:Hid (w4.ownsRow w1.heap.size 87 6 (.slice (some ⟨g,0,none⟩) m m) m (XC (op.take m))):=X1 (Ko (V.o.alloc _) u)
          have O:=X1 u
          clear a y H f x0 x1 x2 x3 x4 x5 y0 y1 y2 y3 y4 y5 s l j u
          go_wp2
          go_region_law (first
           | (refine Kj rfl 49 (.tmp 58) 82 rfl (.slice (some ⟨g,0,none⟩) k 0) (.int .i64 (ov:Nat)) (by simp [Act.eval,Act.put]) Tryz.f49 Tryz.func49 (by kernel_rfl) (by kernel_rfl) _ (S.o _ Q.o) ?_;intro w5 B;obtain ⟨y0,y1,y2,y3,y4,y5⟩:=box5 (O.o.trans ((KH B).mono O.o.size)))
           | (refine Kl rfl (.tmp 56) (.tmp 61) 82 rfl w1.heap.size 87 iG _ 6 56 Tryz.underlying82 hG a4 a3 a2 rfl (by decide) (.slice (some ⟨g,0,none⟩) m m) m (XC (op.take m)) (by simp [Act.eval]) ((Ko U.o (KH B)).alloc _) ⟨w5.heap.size,0,none⟩ 1 1 (Tr.Gr.cells ⟨⟨dk,b,dn,dt,(k:Int)⟩,ov⟩) (by simp [Act.eval]) rfl (cell_six _ _ _) (one_six _) (by unfold maxLen;omega) (by omega) (by have:=K.size;have:=B.size;simp at *;omega) ?_;intro v6 w6 E r D M))
          all_goals
           have L:Below w1.heap.size w1 w5:=K.trans ((KH B).mono K.size)
           have X:Below w1.heap.size w1 w6:=(L.alloc L.size _).grown r (by simp;have:=L.size;omega) (fun q e=>by simp [Value.ownBlock] at e;omega)
           clear r D M B
           go_wp2
           go_roundw
           case rel =>
            refine ⟨i+1,op.take m++[⟨⟨dk,b,dn,dt,(k:Int)⟩,ov⟩],by omega,by go_num,?_,?_,?_,X,HF.o⟩
            ·simp;omega
            ·intro x hx
             rcases List.mem_append.1 hx with hx | hx
             ·have:=N.o x (List.mem_of_mem_take hx)
              exact ⟨by omega,this.2⟩
             ·obtain rfl:x=_:=List.mem_singleton.1 hx
              exact ⟨Z,F⟩
            ·have Y:(op.take m++[(⟨⟨dk,b,dn,dt,(k:Int)⟩,ov⟩:Tr.Gr)]).length=m+1:=by rw [List.length_append,List.length_take,Nat.min_eq_left (by omega)];rfl
             have C:XC (op.take m++[(⟨⟨dk,b,dn,dt,(k:Int)⟩,ov⟩:Tr.Gr)])=XC (op.take m)++Tr.Gr.cells ⟨⟨dk,b,dn,dt,(k:Int)⟩,ov⟩:=by simp [XC]
             rw [Y,C];exact E
           case measure=>simp [intOf];omega
      ·have J:=X1 (((gr_of_row ho).below (bA (.cells #[.int .i64 dk,.int .i64 b,.int .i64 dn,.string dt,.int .i64 (k:Int)] 35))).dropQ (n:=k) (p:=m) (c:=cap) (by omega) a6 (by omega) (some ⟨g,m*6,none⟩) (.inl (by rw [Nat.zero_add])))
       have V:Hid (wr.ownsRow w1.heap.size 87 6 (.slice (some ⟨g,0,none⟩) m cap) m (XC (op.take m))):=X1 (by rw [← QH];exact row_takeS ho m (by omega))
       clear ho
       have hmc:m≤cap:=by omega
       have HW:=X1 (hB.alloc hB.size (.cells #[.int .i64 dk,.int .i64 b,.int .i64 dn,.string dt,.int .i64 (k:Int)] 35))
       have HU:=X1 (uses_any dk b dn (k:Int) dt (w.heap.size+1) (wr.alloc (.cells #[.int .i64 dk,.int .i64 b,.int .i64 dn,.string dt,.int .i64 (k:Int)] 35)) F (map_below a1.o HW.o))
       have HC:=X1 (count_any dk b dn (k:Int) dt)
       cases hp:X9 ⟨dk,b,dn,dt,(k:Int)⟩
       ·have HF:Hid (Yj ns=false):=X1 (by rw [HD.o,HE.o,z.o k m rfl hm,if_neg (by unfold YN;rw [hp];simp)];rfl)
        have j:=HU.o
        rw [hp] at j
        replace j:=X1 j
        go_wp2_with fail
        refine j.o.mono ?_
        rintro e w2 ⟨rfl,a⟩
        obtain ⟨x0,x1,x2,x3,x4,x5⟩:=box5 a
        go_wp2
        go_ret
        exact ⟨X8 HF.o.symm,v.o.trans ((HW.o.trans (a.mono (HW.o.size))).mono v.o.size)⟩
       ·have j:=HU.o
        rw [hp] at j
        replace j:=X1 j
        cases hc:Z4 dk (k:Int)
        ·have HF:Hid (Yj ns=false):=X1 (by rw [HD.o,HE.o,z.o k m rfl hm,if_neg (by unfold YN;rw [hp,hc];simp)];rfl)
         have l:=HC.o
         rw [hc] at l
         replace l:=X1 l
         go_wp2_with fail
         refine j.o.mono ?_
         rintro e w2 ⟨rfl,a⟩
         obtain ⟨x0,x1,x2,x3,x4,x5⟩:=box5 a
         go_wp2_with fail
         refine (l.o _).mono ?_
         rintro e w3 ⟨rfl,y⟩
         have f:=a.trans (y.mono a.size)
         obtain ⟨y0,y1,y2,y3,y4,y5⟩:=box5 f
         go_wp2
         go_ret
         exact ⟨X8 HF.o.symm,v.o.trans ((HW.o.trans (f.mono (HW.o.size))).mono v.o.size)⟩
        ·have l:=HC.o
         rw [hc] at l
         replace l:=X1 l
         have I:Hid (∀ w',GrV w' (.slice (some ⟨g,m*6,none⟩) k (cap - m)) (op.drop m)→Calls Tryz.prog 48 #[.agg #[.int .i64 dk,.int .i64 b,.int .i64 dn,.string dt,.int .i64 (k:Int)],(.slice (some ⟨g,m*6,none⟩) k (cap - m))] w' fun e w''=>e = .returned (.bool (Ys dk (op.drop m)))∧Below w'.heap.size w' w''):=X1 fun w' hg=>QO dk b dn (k:Int) dt (op.drop m) _ w' (by rw [List.length_drop];omega) (fun h=>by rw [List.length_drop];have:=QD hc h;omega) (fun x hx=>(N.o x (List.mem_of_mem_drop hx)).2) hg
         cases hf:Ys dk (op.drop m)
         ·have HF:Hid (Yj ns=false):=X1 (by rw [HD.o,HE.o,z.o k m rfl hm,if_neg (by unfold YN;rw [hp,hc,hf];simp)];rfl)
          have s:=I.o
          rw [hf] at s
          replace s:=X1 s
          go_wp2_with fail
          refine j.o.mono ?_
          rintro e w2 ⟨rfl,a⟩
          obtain ⟨x0,x1,x2,x3,x4,x5⟩:=box5 a
          go_wp2_with fail
          refine (l.o _).mono ?_
          rintro e w3 ⟨rfl,y⟩
          have f:=a.trans (y.mono a.size)
          obtain ⟨y0,y1,y2,y3,y4,y5⟩:=box5 f
          go_wp2_with fail
          refine (s.o _ (J.o.below f)).mono ?_
          rintro e w4 ⟨rfl,H⟩
          have u:=f.trans (H.mono f.size)
          obtain ⟨z0,z1,z2,z3,z4,z5⟩:=box5 u
          go_wp2
          go_ret
          exact ⟨X8 HF.o.symm,v.o.trans ((HW.o.trans (u.mono (HW.o.size))).mono v.o.size)⟩
         ·have HF:Hid (Ze ns []=Ze (ns.drop (i+1)) (op.take m++[⟨⟨dk,b,dn,dt,(k:Int)⟩,Yo (op.drop m) 0⟩])):=X1 (by rw [HE.o,z.o k m rfl hm,if_pos (by unfold YN;rw [hp,hc,hf];rfl)])
          have s:=I.o
          rw [hf] at s
          replace s:=X1 s
          have Z:Yo (op.drop m) 0≤i+1:=JA _ _ _ (fun x hx=>by have:=(N.o x (List.mem_of_mem_drop hx)).1;omega) (by omega)
          have S:Hid (∀ w',GrV w' (.slice (some ⟨g,m*6,none⟩) k (cap - m)) (op.drop m)→Calls Tryz.prog 49 #[(.slice (some ⟨g,m*6,none⟩) k (cap - m))] w' fun e w''=>e = .returned (.int .i64 (Yo (op.drop m) 0:Nat))∧Below w'.heap.size w' w''):=X1 fun w' hg=>Ju (op.drop m) _ w' (by rw [List.length_drop];omega) (fun x hx=>by have:=(N.o x (List.mem_of_mem_drop hx)).1;omega) hg
          generalize hovv:Yo (op.drop m) 0=ov at *
          clear hovv HU HC I P z
          go_wp2_with fail
          refine j.o.mono ?_
          rintro e w2 ⟨rfl,a⟩
          obtain ⟨x0,x1,x2,x3,x4,x5⟩:=box5 a
          go_wp2_with fail
          refine (l.o _).mono ?_
          rintro e w3 ⟨rfl,y⟩
          have f:=a.trans (y.mono a.size)
          obtain ⟨y0,y1,y2,y3,y4,y5⟩:=box5 f
          go_wp2_with fail
          refine (s.o _ (J.o.below f)).mono ?_
          rintro e w4 ⟨rfl,H⟩
          have u:=f.trans (H.mono f.size)
          obtain ⟨z0,z1,z2,z3,z4,z5⟩:=box5 u
          have K:Below w1.heap.size w1 w4:=HW.o.trans (u.mono HW.o.size)
          have Q:Hid (GrV w4.drew (.slice (some ⟨g,m*6,none⟩) k (cap - m)) (op.drop m)):=X1 ((J.o.below u).below (Below.refl _ _).drew)
          have U:Hid (w4.ownsRow w1.heap.size 87 6 (.slice (some ⟨g,0,none⟩) m cap) m (XC (op.take m))):=X1 (Ko (V.o.alloc _) u)
          have O:=X1 u
          clear a y H f x0 x1 x2 x3 x4 x5 y0 y1 y2 y3 y4 y5 s l j u
          go_wp2
          go_region_law (first
           | (refine Kj rfl 49 (.tmp 58) 82 rfl (.slice (some ⟨g,m*6,none⟩) k (cap - m)) (.int .i64 (ov:Nat)) (by simp [Act.eval,Act.put]) Tryz.f49 Tryz.func49 (by kernel_rfl) (by kernel_rfl) _ (S.o _ Q.o) ?_;intro w5 B;obtain ⟨y0,y1,y2,y3,y4,y5⟩:=box5 (O.o.trans ((KH B).mono O.o.size)))
           | (refine Kl rfl (.tmp 56) (.tmp 61) 82 rfl w1.heap.size 87 iG _ 6 56 Tryz.underlying82 hG a4 a3 a2 rfl (by decide) (.slice (some ⟨g,0,none⟩) m cap) m (XC (op.take m)) (by simp [Act.eval]) ((Ko U.o (KH B)).alloc _) ⟨w5.heap.size,0,none⟩ 1 1 (Tr.Gr.cells ⟨⟨dk,b,dn,dt,(k:Int)⟩,ov⟩) (by simp [Act.eval]) rfl (cell_six _ _ _) (one_six _) (by unfold maxLen;omega) (by omega) (by have:=K.size;have:=B.size;simp at *;omega) ?_;intro v6 w6 E r D M))
          all_goals
           have L:Below w1.heap.size w1 w5:=K.trans ((KH B).mono K.size)
           have X:Below w1.heap.size w1 w6:=(L.alloc L.size _).grown r (by simp;have:=L.size;omega) (fun q e=>by simp [Value.ownBlock] at e;omega)
           clear r D M B
           go_wp2
           go_roundw
           case rel =>
            refine ⟨i+1,op.take m++[⟨⟨dk,b,dn,dt,(k:Int)⟩,ov⟩],by omega,by go_num,?_,?_,?_,X,HF.o⟩
            ·simp;omega
            ·intro x hx
             rcases List.mem_append.1 hx with hx | hx
             ·have:=N.o x (List.mem_of_mem_take hx)
              exact ⟨by omega,this.2⟩
             ·obtain rfl:x=_:=List.mem_singleton.1 hx
              exact ⟨Z,F⟩
            ·have Y:(op.take m++[(⟨⟨dk,b,dn,dt,(k:Int)⟩,ov⟩:Tr.Gr)]).length=m+1:=by rw [List.length_append,List.length_take,Nat.min_eq_left (by omega)];rfl
             have C:XC (op.take m++[(⟨⟨dk,b,dn,dt,(k:Int)⟩,ov⟩:Tr.Gr)])=XC (op.take m)++Tr.Gr.cells ⟨⟨dk,b,dn,dt,(k:Int)⟩,ov⟩:=by simp [XC]
             rw [Y,C];exact E
           case measure=>simp [intOf];omega
   ·have HF:Hid (Yj ns=Qd (some op)):=X1 (by rw [HD.o,HE.o,List.drop_of_length_le (by omega)];rfl)
    have a0:=v.o.trans (hB.mono v.o.size)
    by_cases h1:op.length=1
    ·rcases JE ho with ⟨rfl,hz⟩ | ⟨g,cap,rfl⟩
     ·omega
     ·obtain ⟨c0,_,_,_,_,c5⟩:=(gr_of_row ho).2 0 (by omega)
      obtain ⟨x,rfl⟩:∃ x,op=[x]:=List.length_eq_one_iff.1 h1
      have W:Hid (Yj ns=((x.nd.kind == 24) && decide ((x.high:Int)≤50))):=X1 (by rw [HF.o];simp only [Qd];congr 1;rw [decide_eq_decide];omega)
      simp only [List.getElem_cons_zero,Nat.zero_add,Nat.zero_mul,List.length_singleton] at c0 c5 ⊢
      cases hk:(x.nd.kind == 24)
      ·go_wp2
       go_ret
       exact ⟨X8 (by rw [W.o,hk];rfl),a0⟩
      ·go_wp2
       go_ret
       exact ⟨X8 (by rw [W.o,hk];rfl),a0⟩
    ·have W:Hid (Yj ns=false):=X1 (by
      rw [HF.o]
      match op,h1 with
      | [],_=>rfl
      | [x],h1=>exact absurd rfl h1
      | _ :: _ :: _,_=>rfl)
     have h2:((op.length:Int) == 1)=false:=by simp;omega
     rcases JE ho with ⟨rfl,hz⟩ | ⟨g,cap,rfl⟩
     ·go_wp2
      go_ret
      exact ⟨X8 W.o.symm,a0⟩
     ·go_wp2
      go_ret
      exact ⟨X8 W.o.symm,a0⟩
def Z1 (ns:List Tr.Nd) (hs:List Nat) (x:Nat):Tr.Gr:=⟨ns[x]?.getD ⟨0,0,0,⟨#[]⟩,0⟩,hs[x]?.getD 0⟩
theorem Tr.G_kind (ns:List Tr.Nd) (hs:List Nat) (x:Nat):(Z1 ns hs x).nd.kind=X4 ns x:=by
 unfold Z1 X4
 cases h:ns[x]? <;> simp
theorem Tr.over_G (ns:List Tr.Nd) (hs:List Nat) (ls:List Nat) (h:Nat):Yo (ls.map (Z1 ns hs)) h=Y6 hs ls h:=by
 induction ls generalizing h with
 | nil=>rfl
 | cons x r ih=>simp only [List.map_cons,Yo,Y6];rw [ih];rfl
theorem Kh (ns:List Tr.Nd) (hs:List Nat) (a b:Int) (ls:List Nat) (p:Int→Bool) (hp:∀ k,p k=(decide (a≤k) && decide (k≤b))):Xt a b (ls.map (Z1 ns hs))=Xy ns p ls:=by
 induction ls with
 | nil=>rfl
 | cons x r ih =>
  simp only [Xt,List.map_cons,List.all_cons,Xy] at ih ⊢
  rw [ih,Tr.G_kind,hp]
theorem Tr.allK_E (ns:List Tr.Nd) (ls:List Nat):Xy ns (fun k=>Xn k 1 16) ls=decide (XL ns ls=ls.length):=by
 induction ls with
 | nil=>rfl
 | cons x r ih =>
  have h1:=Zu ns r
  rw [Bool.eq_iff_iff,decide_eq_true_iff]
  have e1:Xy ns (fun k=>Xn k 1 16) (x :: r)=(Y7 ns x && Xy ns (fun k=>Xn k 1 16) r):=rfl
  have e2:XL ns (x :: r)=(if Y7 ns x=true then 1 else 0)+XL ns r:=rfl
  rw [e1,e2,ih,List.length_cons,Bool.and_eq_true,decide_eq_true_iff]
  by_cases h:Y7 ns x=true
  ·rw [if_pos h];simp only [h,true_and];omega
  ·rw [if_neg h];simp only [h,Bool.false_eq_true,false_and,false_iff];omega
theorem KT (k a b:Int):Xn k a b=(decide (a≤k) && decide (k≤b)):=by unfold Xn;rw [Bool.eq_iff_iff];simp
theorem Tr.between_E (ns:List Tr.Nd) (hs:List Nat) (ls:List Nat):Xt 1 16 (ls.map (Z1 ns hs))=decide (XL ns ls=ls.length):=by
 rw [Kh ns hs 1 16 ls (fun k=>Xn k 1 16) (fun k=>KT k 1 16),Tr.allK_E]
theorem KI (ns:List Tr.Nd) (hs:List Nat) (a:Int) (ls:List Nat):Xt a a (ls.map (Z1 ns hs))=Xy ns (fun k=>k == a) ls :=
 Kh ns hs a a ls _ fun k=>by rw [Bool.eq_iff_iff];simp;omega
theorem Tr.differ_G (ns:List Tr.Nd) (hs:List Nat) (ls:List Nat) (hin:∀ x∈ls,x < ns.length):YW (ls.map (Z1 ns hs))=Z6 ns ls:=by
 unfold YW Z6
 rw [Bool.eq_iff_iff,decide_eq_true_iff,decide_eq_true_iff,List.map_map,List.nodup_iff_pairwise_ne,List.pairwise_map,List.pairwise_iff_getElem]
 have hg:∀ i (h:i < ls.length),ns[ls[i]]?.map (·.text)=some (Z1 ns hs ls[i]).nd.text:=by
  intro i h
  have:=hin _ (List.getElem_mem h)
  simp [Z1,this]
 constructor
 ·intro h i hi k hk e
  rw [hg i hi,hg k (by omega)] at e
  exact h k i (by omega) hi hk (Option.some.inj e)
 ·intro h i j hi hj hij e
  refine h j hj i hij ?_
  rw [hg j hj,hg i hi]
  exact congrArg some e
theorem JY (ns:List Tr.Nd) (ls:List Nat):XE ns ls≤ls.length:=by
 induction ls with
 | nil=>exact Nat.le_refl _
 | cons x r ih=>simp only [XE,List.length_cons];split <;> omega
theorem Tr.firsts_take (ns:List Tr.Nd) (ls:List Nat):Xy ns (fun k=>Xn k 1 16) (ls.take (XE ns ls))=true:=by
 induction ls with
 | nil=>rfl
 | cons x r ih =>
  simp only [XE]
  by_cases h:Y7 ns x=true
  ·rw [if_pos h,Nat.add_comm,List.take_succ_cons,Xy,ih]
   have h2:Xn (X4 ns x) 1 16=true:=h
   rw [h2];rfl
  ·rw [if_neg h];rfl
theorem Tr.firsts_eq (ns:List Tr.Nd) (ls:List Nat) (p:Nat) (hp:p≤ls.length) (h1:Xy ns (fun k=>Xn k 1 16) (ls.take p)=true) (h2:Xy ns (fun k=>k == 18) (ls.drop p)=true):XE ns ls=p:=by
 induction ls generalizing p with
 | nil=>simp at hp;subst hp;rfl
 | cons x r ih =>
  match p,hp with
  | 0,_ =>
   simp only [List.drop_zero,Xy,Bool.and_eq_true,beq_iff_eq] at h2
   have:Y7 ns x=false:=by unfold Y7;rw [h2.1];rfl
   simp [XE,this]
  | p+1,hp =>
   simp only [List.take_succ_cons,Xy,Bool.and_eq_true] at h1
   have h3:Y7 ns x=true:=h1.1
   have:=ih p (by simpa using hp) h1.2 (by simpa using h2)
   simp [XE,h3,this];omega
theorem Tr.tw_named (ns:List Tr.Nd) (hs:List Nat) (ls:List Nat):((ls.map (Z1 ns hs)).takeWhile fun g=>g.nd.kind != 18).length=(ls.takeWhile fun x=>X4 ns x != 18).length:=by
 induction ls with
 | nil=>rfl
 | cons x r ih =>
  simp only [List.map_cons,List.takeWhile_cons,Tr.G_kind]
  cases (X4 ns x != 18)
  ·rfl
  ·simp [ih]
theorem Tr.tw_eq (ns:List Tr.Nd) (ls:List Nat) (p:Nat) (hp:p≤ls.length) (h1:Xy ns (fun k=>Xn k 1 16) (ls.take p)=true) (h2:Xy ns (fun k=>k == 18) (ls.drop p)=true):(ls.takeWhile fun x=>X4 ns x != 18).length=p:=by
 induction ls generalizing p with
 | nil=>simp at hp;subst hp;rfl
 | cons x r ih =>
  match p,hp with
  | 0,_ =>
   simp only [List.drop_zero,Xy,Bool.and_eq_true,beq_iff_eq] at h2
   simp [h2.1]
  | p+1,hp =>
   simp only [List.take_succ_cons,Xy,Bool.and_eq_true] at h1
   have:=ih p (by simpa using hp) h1.2 (by simpa using h2)
   have h3:(X4 ns x != 18)=true:=by
    have:=Zh h1.1
    rw [bne_iff_ne];omega
   simp [h3,this]
theorem Tr.call_ok (ns:List Tr.Nd) (hs:List Nat) (ls:List Nat) (hin:∀ x∈ls,x < ns.length) (h1:1≤ls.length) :
  (Xt 1 16 ((ls.map (Z1 ns hs)).take (Yw (ls.map (Z1 ns hs)))) && Xt 18 18 ((ls.map (Z1 ns hs)).drop (Yw (ls.map (Z1 ns hs)))) && YW ((ls.map (Z1 ns hs)).drop (Yw (ls.map (Z1 ns hs))))) =
  (Xy ns (fun x=>x == 18) (ls.drop (XE ns ls)) && decide (1≤(XE ns ls:Int)) && Z6 ns (ls.drop (XE ns ls))):=by
 obtain ⟨x,r,rfl⟩:∃ x r,ls=x :: r:=by
  cases ls with
  | nil=>simp at h1
  | cons x r=>exact ⟨x,r,rfl⟩
 have hP:Yw ((x :: r).map (Z1 ns hs))=1+(r.takeWhile fun x=>X4 ns x != 18).length:=by
  unfold Yw
  rw [List.map_cons,List.drop_one,List.tail_cons,Tr.tw_named]
 rw [hP,← List.map_take,← List.map_drop]
 generalize hq:(r.takeWhile fun x=>X4 ns x != 18).length=q
 have hqr:q≤r.length:=by rw [← hq];exact (List.takeWhile_sublist _).length_le
 rw [Kh ns hs 1 16 _ (fun k=>Xn k 1 16) (fun k=>KT k 1 16),KI,Tr.differ_G ns hs _ (fun y hy=>hin y (List.mem_of_mem_drop hy))]
 rw [Bool.eq_iff_iff]
 simp only [Bool.and_eq_true,decide_eq_true_iff]
 constructor
 ·rintro ⟨⟨a,b⟩,c⟩
  have e:=Tr.firsts_eq ns (x :: r) (1+q) (by simp;omega) a b
  rw [e]
  exact ⟨⟨b,by omega⟩,c⟩
 ·rintro ⟨⟨a,b⟩,c⟩
  have hf:=JY ns (x :: r)
  have ht:=Tr.firsts_take ns (x :: r)
  have e:1+q=XE ns (x :: r):=by
   obtain ⟨f,hf1⟩:∃ f,XE ns (x :: r)=f+1:=⟨XE ns (x :: r) - 1,by omega⟩
   rw [hf1] at ht a hf
   simp only [List.take_succ_cons,Xy,Bool.and_eq_true] at ht
   have:=Tr.tw_eq ns r f (by simpa using hf) ht.2 (by simpa using a)
   omega
  rw [e]
  exact ⟨⟨ht,a⟩,c⟩
theorem Tr.last_ok (ns:List Tr.Nd) (hs:List Nat) (ls:List Nat) (h1:1≤ls.length) :
  (Xt 19 19 ((ls.map (Z1 ns hs)).take (ls.length - 1)) && Xt 1 16 ((ls.map (Z1 ns hs)).drop (ls.length - 1))) =
  (Xy ns (fun x=>x == 19) ls.dropLast && (ls.getLast?.map (Y7 ns) == some true)):=by
 have hne:ls≠[]:=by intro e;simp [e] at h1
 have e1:ls.take (ls.length - 1)=ls.dropLast:=(List.dropLast_eq_take).symm
 have e2:ls.drop (ls.length - 1)=[ls.getLast hne]:=by
  rw [List.drop_eq_getElem_cons (by omega),List.drop_of_length_le (by omega),List.getLast_eq_getElem]
 rw [← List.map_take,← List.map_drop,e1,e2,KI,Kh ns hs 1 16 _ (fun k=>Xn k 1 16) (fun k=>KT k 1 16),List.getLast?_eq_some_getLast hne]
 congr 1
 simp only [Xy,Bool.and_true,Option.map_some]
 unfold Y7
 cases Xn (X4 ns (ls.getLast hne)) 1 16 <;> rfl
set_option maxHeartbeats 1000000 in
theorem Tr.ok_eq (ns:List Tr.Nd) (hs:List Nat) (k:Int) (ls:List Nat) (hin:∀ x∈ls,x < ns.length):(Z4 k ls.length && Ys k (ls.map (Z1 ns hs)))=Xm ns k ls:=by
 have he:=Zu ns ls
 by_cases h9:k=9
 ·subst h9
  have c:Z4 9 ls.length=decide (0≤(ls.length:Int)∧(ls.length:Int)≤200):=rfl
  have f:Ys 9 (ls.map (Z1 ns hs))=(Xt 17 17 (ls.map (Z1 ns hs)) && YW (ls.map (Z1 ns hs))):=rfl
  have g:Xm ns 9 ls=(Xy ns (fun x=>x == 17) ls && decide ((ls.length:Int)≤200) && Z6 ns ls):=rfl
  rw [c,f,g,KI,Tr.differ_G ns hs ls hin]
  rw [Bool.eq_iff_iff];simp;grind
 by_cases h12:k=12
 ·subst h12
  have c:Z4 12 ls.length=decide (1≤(ls.length:Int)∧(ls.length:Int)≤9):=rfl
  have g:Xm ns 12 ls=(Xy ns (fun x=>x == 18) (ls.drop (XE ns ls)) && decide (1≤(XE ns ls:Int)) && decide ((ls.length:Int) - 1≤8) && Z6 ns (ls.drop (XE ns ls))):=rfl
  have hf:=JY ns ls
  by_cases h1:1≤ls.length
  ·have q:=Tr.call_ok ns hs ls hin h1
   have f:Ys 12 (ls.map (Z1 ns hs))=(Xt 1 16 ((ls.map (Z1 ns hs)).take (Yw (ls.map (Z1 ns hs)))) && Xt 18 18 ((ls.map (Z1 ns hs)).drop (Yw (ls.map (Z1 ns hs)))) && YW ((ls.map (Z1 ns hs)).drop (Yw (ls.map (Z1 ns hs))))):=rfl
   rw [c,f,g,q]
   have e1:decide (1≤(ls.length:Int)∧(ls.length:Int)≤9)=decide ((ls.length:Int) - 1≤8):=by rw [Bool.eq_iff_iff];simp;omega
   rw [e1]
   cases decide ((ls.length:Int) - 1≤8) <;> simp
  ·have e1:decide (1≤(ls.length:Int)∧(ls.length:Int)≤9)=false:=by simp;omega
   have e2:decide (1≤(XE ns ls:Int))=false:=by simp;omega
   rw [c,g,e1,e2];simp
 by_cases h15:k=15∨k=20
 ·have c:Z4 k ls.length=decide (1≤(ls.length:Int)∧(ls.length:Int)≤9):=by rcases h15 with rfl | rfl <;> rfl
  have g:Xm ns k ls=(Xy ns (fun x=>x == 19) ls.dropLast && (ls.getLast?.map (Y7 ns) == some true) && decide ((ls.length:Int) - 1≤8)):=by rcases h15 with rfl | rfl <;> rfl
  have f:Ys k (ls.map (Z1 ns hs))=(Xt 19 19 ((ls.map (Z1 ns hs)).take ((ls.map (Z1 ns hs)).length - 1)) && Xt 1 16 ((ls.map (Z1 ns hs)).drop ((ls.map (Z1 ns hs)).length - 1))):=by rcases h15 with rfl | rfl <;> rfl
  rw [List.length_map] at f
  by_cases h1:1≤ls.length
  ·rw [c,f,g,Tr.last_ok ns hs ls h1]
   have e1:decide (1≤(ls.length:Int)∧(ls.length:Int)≤9)=decide ((ls.length:Int) - 1≤8):=by rw [Bool.eq_iff_iff];simp;omega
   rw [e1]
   cases decide ((ls.length:Int) - 1≤8) <;> simp
  ·have e1:decide (1≤(ls.length:Int)∧(ls.length:Int)≤9)=false:=by simp;omega
   have e0:ls=[]:=List.eq_nil_of_length_eq_zero (by omega)
   rw [c,g,e1,e0];simp
 by_cases h23:k=23
 ·subst h23
  have c:Z4 23 ls.length=decide (1≤(ls.length:Int)∧(ls.length:Int)≤200):=rfl
  have f:Ys 23 (ls.map (Z1 ns hs))=Xt 5 5 (ls.map (Z1 ns hs)):=rfl
  have g:Xm ns 23 ls=(Xy ns (fun x=>x == 5) ls && Xn ls.length 1 200):=rfl
  rw [c,f,g,KI,KT,Bool.decide_and,Bool.and_comm]
 by_cases h24:k=24
 ·subst h24
  have c:Z4 24 ls.length=decide (0≤(ls.length:Int)∧(ls.length:Int)≤200):=rfl
  have f:Ys 24 (ls.map (Z1 ns hs))=Xt 20 23 (ls.map (Z1 ns hs)):=rfl
  have g:Xm ns 24 ls=(Xy ns (fun x=>Xn x 20 23) ls && decide ((ls.length:Int)≤200)):=rfl
  rw [c,f,g,Kh ns hs 20 23 _ (fun k=>Xn k 20 23) (fun k=>KT k 20 23)]
  rw [Bool.eq_iff_iff];simp;grind
 have f:Ys k (ls.map (Z1 ns hs))=decide (XL ns ls=ls.length):=by
  unfold Ys
  rw [if_neg h9,if_neg h12,if_neg h15,if_neg h23,if_neg h24,Tr.between_E]
 rw [f]
 unfold Z4 Xm
 simp only [h9,h12,h23,h24,if_false,false_or,or_false]
 have a0:=not_or.1 h15
 simp only [a0.1,a0.2,if_false,or_self]
 by_cases a1:k=1∨k=2∨k=3∨k=4∨k=5
 ·simp only [a1,if_true];rw [Bool.eq_iff_iff];simp only [Bool.and_eq_true,decide_eq_true_iff];omega
 simp only [a1,if_false]
 by_cases a2:k=6∨k=11∨k=17∨k=18∨k=21∨k=22
 ·simp only [a2,if_true];rw [Bool.eq_iff_iff];simp only [Bool.and_eq_true,decide_eq_true_iff];omega
 simp only [a2,if_false]
 by_cases a3:k=7∨k=10∨k=14
 ·simp only [a3,if_true];rw [Bool.eq_iff_iff];simp only [Bool.and_eq_true,decide_eq_true_iff];omega
 simp only [a3,if_false]
 by_cases a4:k=13
 ·simp only [a4,if_true];rw [Bool.eq_iff_iff];simp only [Bool.and_eq_true,decide_eq_true_iff];omega
 simp only [a4,if_false]
 by_cases a5:k=16
 ·simp only [a5,if_true];rw [Bool.eq_iff_iff];simp only [Bool.and_eq_true,decide_eq_true_iff];omega
 simp only [a5,if_false]
 by_cases a6:k=19
 ·simp only [a6,if_true];rw [Bool.eq_iff_iff];simp only [Bool.and_eq_true,decide_eq_true_iff];omega
 simp only [a6,if_false]
 by_cases a7:k=8
 ·simp only [a7,if_true];rw [Bool.eq_iff_iff];simp only [Bool.and_eq_true,decide_eq_true_iff];omega
 simp only [a7,if_false]
 rw [Bool.eq_iff_iff];simp only [Bool.and_eq_true,decide_eq_true_iff,Bool.false_eq_true,iff_false];omega
end Go.Proofs.YtimbaebigjjkaaaGreatDoor
