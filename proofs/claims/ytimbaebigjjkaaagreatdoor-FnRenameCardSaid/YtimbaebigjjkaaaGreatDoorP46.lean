/- Jf, Nm, Kz, Gi, Gn, Rp, Jp. -/
import Derived.Test.YtimbaebigjjkaaaGreatDoorP45
import Derived.Test.YtimbaebigjjkaaaGreatDoorP43
import Derived.Test.YtimbaebigjjkaaaGreatDoorP44
import Derived.Test.YtimbaebigjjkaaaGreatDoorP02
import Derived.Test.YtimbaebigjjkaaaGreatDoorP16
import Derived.BigQuiet
import Derived.Test.YtimbaebigjjkaaaGreatDoorP01
import Derived.OwnWalk
namespace Go.Proofs.YtimbaebigjjkaaaGreatDoor
open Go.RowKit
def Qy (ns:List Tr.Nd):List (Tr.Nd × List Nat)→Bool
 | []=>true
 | (d,k) :: r=>X9 d && Xm ns d.kind k && Qy ns r
def Zm:List (List Nat)→List Nat→List Nat
 | [],hs=>hs
 | k :: r,hs=>Zm r (hs++[Y6 hs k 0])
theorem Tr.hrun_pre (ks:List (List Nat)) (hs:List Nat):∃ t,Zm ks hs=hs++t∧t.length=ks.length:=by
 induction ks generalizing hs with
 | nil=>exact ⟨[],by simp [Zm]⟩
 | cons k r ih =>
  obtain ⟨t,h1,h2⟩:=ih (hs++[Y6 hs k 0])
  exact ⟨Y6 hs k 0 :: t,by rw [Zm,h1];simp,by simp [h2]⟩
theorem Tr.vgo_eq (ns:List Tr.Nd) (ds:List Tr.Nd) (ks:List (List Nat)) (hs:List Nat) (h:ds.length=ks.length) (h50:∀ x∈hs,x≤50) :
  (Zz ns (ds.zip ks) hs=true)↔(Qy ns (ds.zip ks)=true∧∀ x∈Zm ks hs,x≤50):=by
 induction ds generalizing ks hs with
 | nil =>
  cases ks with
  | nil=>simp [Zz,Qy,Zm];exact h50
  | cons k r=>simp at h
 | cons d r ih =>
  cases ks with
  | nil=>simp at h
  | cons k t =>
   simp only [List.zip_cons_cons,Zz,Qy,Zm,Bool.and_eq_true]
   by_cases hc:50 < Y6 hs k 0
   ·have e:(!decide (50 < Y6 hs k 0))=false:=by simp [hc]
    rw [e]
    simp only [Bool.false_eq_true,false_and,false_iff]
    rintro ⟨_,q⟩
    obtain ⟨u,h1,_⟩:=Tr.hrun_pre t (hs++[Y6 hs k 0])
    have:=q (Y6 hs k 0) (by rw [h1];simp)
    omega
   ·have e:(!decide (50 < Y6 hs k 0))=true:=by simp;omega
    rw [e,ih t (hs++[Y6 hs k 0]) (by simpa using h) (fun x hx=>by
     rcases List.mem_append.1 hx with hx | hx
     ·exact h50 x hx
     ·have:x=Y6 hs k 0:=by simpa using hx
      omega)]
    simp only [true_and,and_assoc]
theorem Tr.G_more (ns:List Tr.Nd) (hs:List Nat) (y x:Nat) (h:x < hs.length):Z1 ns (hs++[y]) x=Z1 ns hs x:=by
 unfold Z1;rw [List.getElem?_append_left h]
theorem Tr.irun_eq (ns:List Tr.Nd):∀ (m i:Nat) (op hs:List Nat),m=ns.length - i→i≤ns.length→hs.length=i→(∀ x∈op,x < i) →
  Ze (ns.drop i) (op.map (Z1 ns hs))=match (Xw (ns.drop i) i op).2 with
   | none=>none
   | some fin=>if Qy ns ((ns.drop i).zip (Xw (ns.drop i) i op).1)=true then some (fin.map (Z1 ns (Zm (Xw (ns.drop i) i op).1 hs))) else none:=by
 intro m
 induction m with
 | zero =>
  intro i op hs hm hi hl a
  have e:ns.drop i=[]:=List.drop_of_length_le (by omega)
  rw [e];rfl
 | succ m ih =>
  intro i op hs hm hi hl a
  have b:i < ns.length:=by omega
  rw [List.drop_eq_getElem_cons b]
  by_cases hk:ns[i].kids < 0∨(op.length:Int) < ns[i].kids
  ·rw [Ze,if_pos (by rw [List.length_map];exact hk),Xw,if_pos hk]
  ·obtain ⟨k,hk1⟩:∃ k:Nat,ns[i].kids=k:=⟨ns[i].kids.toNat,by omega⟩
   rw [Ze,if_neg (by rw [List.length_map];exact hk),Xw,if_neg hk]
   have a2:(op.map (Z1 ns hs)).length - ns[i].kids.toNat=op.length - ns[i].kids.toNat:=by rw [List.length_map]
   rw [a2]
   generalize hq:op.length - ns[i].kids.toNat=q
   have hql:(op.drop q).length=k:=by simp;omega
   have hin:∀ x∈op.drop q,x < ns.length:=fun x hx=>Nat.lt_trans (a x (List.mem_of_mem_drop hx)) b
   rw [← List.map_drop,← List.map_take]
   have hok:YN ns[i] ((op.drop q).map (Z1 ns hs))=(X9 ns[i] && Xm ns ns[i].kind (op.drop q)):=by
    unfold YN
    rw [Bool.and_assoc,hk1,← hql,Tr.ok_eq ns hs _ _ hin]
   rw [hok]
   have a1:(op.take q).map (Z1 ns hs)++[(⟨ns[i],Yo ((op.drop q).map (Z1 ns hs)) 0⟩:Tr.Gr)]=(op.take q++[i]).map (Z1 ns (hs++[Y6 hs (op.drop q) 0])):=by
    rw [List.map_append]
    congr 1
    ·apply List.map_congr_left
     intro x hx
     rw [Tr.G_more _ _ _ _ (by rw [hl];exact a x (List.mem_of_mem_take hx))]
    ·have h3:Z1 ns (hs++[Y6 hs (op.drop q) 0]) i=⟨ns[i],Y6 hs (op.drop q) 0⟩:=by
      unfold Z1
      rw [List.getElem?_eq_getElem b,List.getElem?_append_right (by omega),hl,Nat.sub_self];rfl
     rw [Tr.over_G,List.map_cons,List.map_nil,h3]
   have a0:=ih (i+1) (op.take q++[i]) (hs++[Y6 hs (op.drop q) 0]) (by omega) (by omega) (by simp [hl]) (fun x hx=>by
    rcases List.mem_append.1 hx with hx | hx
    ·have:=a x (List.mem_of_mem_take hx);omega
    ·have:x=i:=by simpa using hx
     omega)
   simp only [List.zip_cons_cons,Qy,Zm]
   by_cases hc:(X9 ns[i] && Xm ns ns[i].kind (op.drop q))=true
   ·rw [if_pos hc,a1,a0]
    simp only [hc,Bool.true_and]
   ·rw [if_neg hc]
    have hc2:(X9 ns[i] && Xm ns ns[i].kind (op.drop q))=false:=by simpa using hc
    simp only [hc2,Bool.false_and,Bool.false_eq_true,if_false]
    cases (Xw (ns.drop (i+1)) (i+1) (op.take q++[i])).2 <;> rfl
theorem Tr.hmax_ge (hs ls:List Nat) (h:Nat):h≤Y6 hs ls h∧∀ x∈ls,hs[x]?.getD 0+1≤Y6 hs ls h:=by
 induction ls generalizing h with
 | nil=>simp [Y6]
 | cons y r ih =>
  rw [Y6]
  have q:=ih (if h < hs[y]?.getD 0+1 then hs[y]?.getD 0+1 else h)
  have g1:h≤(if h < hs[y]?.getD 0+1 then hs[y]?.getD 0+1 else h)∧hs[y]?.getD 0+1≤(if h < hs[y]?.getD 0+1 then hs[y]?.getD 0+1 else h):=by split <;> omega
  refine ⟨by omega,fun x hx=>?_⟩
  rcases List.mem_cons.1 hx with rfl | hx
  ·omega
  ·exact q.2 x hx
theorem Tr.high_open (ds:List Tr.Nd):∀ (i:Nat) (op hs:List Nat),hs.length=i→(∀ x∈op,x < i)→(∀ y∈hs,∃ x∈op,y≤hs[x]?.getD 0) →
  ∀ fin,(Xw ds i op).2=some fin→∀ y∈Zm (Xw ds i op).1 hs,∃ x∈fin,y≤(Zm (Xw ds i op).1 hs)[x]?.getD 0:=by
 induction ds with
 | nil =>
  intro i op hs _ _ h fin hf
  simp only [Xw,Option.some.injEq] at hf
  subst hf
  exact h
 | cons d r ih =>
  intro i op hs hl hop h fin hf
  by_cases hk:d.kids < 0∨(op.length:Int) < d.kids
  ·rw [Xw,if_pos hk] at hf;cases hf
  ·rw [Xw,if_neg hk] at hf ⊢
   generalize hq:op.length - d.kids.toNat=q at *
   simp only [Zm]
   refine ih (i+1) (op.take q++[i]) (hs++[Y6 hs (op.drop q) 0]) (by simp [hl]) ?_ ?_ fin hf
   ·intro x hx
    rcases List.mem_append.1 hx with hx | hx
    ·have:=hop x (List.mem_of_mem_take hx);omega
    ·have:x=i:=by simpa using hx
     omega
   ·intro y hy
    have a0:(hs++[Y6 hs (op.drop q) 0])[i]?.getD 0=Y6 hs (op.drop q) 0:=by simp [← hl]
    rcases List.mem_append.1 hy with hy | hy
    ·obtain ⟨x,hx,hle⟩:=h y hy
     have hxl:x < hs.length:=by rw [hl];exact hop x hx
     rw [← List.take_append_drop q op] at hx
     rcases List.mem_append.1 hx with hx | hx
     ·exact ⟨x,by simp [hx],by rw [List.getElem?_append_left hxl];exact hle⟩
     ·have:=(Tr.hmax_ge hs (op.drop q) 0).2 x hx
      exact ⟨i,by simp,by rw [a0];omega⟩
    ·have:y=Y6 hs (op.drop q) 0:=by simpa using hy
     exact ⟨i,by simp,by rw [a0];omega⟩
theorem Tr.krun_last (ds:List Tr.Nd):∀ (i:Nat) (op:List Nat),(ds=[]→op.getLast?=some (i - 1)∧1≤i)→∀ fin,(Xw ds i op).2=some fin→fin.getLast?=some (i+ds.length - 1):=by
 induction ds with
 | nil =>
  intro i op h fin hf
  simp only [Xw,Option.some.injEq] at hf
  subst hf
  simpa using (h rfl).1
 | cons d r ih =>
  intro i op h fin hf
  by_cases hk:d.kids < 0∨(op.length:Int) < d.kids
  ·rw [Xw,if_pos hk] at hf;cases hf
  ·rw [Xw,if_neg hk] at hf
   have:=ih (i+1) _ (fun _=>⟨by simp,by omega⟩) fin hf
   rw [this,List.length_cons]
   congr 1;omega
theorem JT (ns:List Tr.Nd):Yj ns=XS ns:=by
 have hI:=Tr.irun_eq ns ns.length 0 [] [] (by simp) (Nat.zero_le _) rfl (fun x h=>by cases h)
 rw [List.drop_zero,List.map_nil] at hI
 unfold Yj XS
 by_cases h0:ns=[]
 ·subst h0;rfl
 have hpos:1≤ns.length:=by
  cases ns with
  | nil=>exact absurd rfl h0
  | cons x r=>simp
 have e1:Xn ns.length 1 5000=decide (ns.length≤5000):=by unfold Xn;rw [Bool.eq_iff_iff];simp;omega
 rw [e1,hI,Bool.and_assoc,Bool.and_assoc]
 congr 1
 have hkg:XY ns=match (Xw ns 0 []).2 with
  | none=>false
  | some op=>op.length == 1:=rfl
 have hkd:Xf ns=(Xw ns 0 []).1:=rfl
 have a2:=Tr.krun_len ns 0 []
 have hho:=Tr.high_open ns 0 [] [] rfl (fun x h=>by cases h) (fun x h=>by cases h)
 have hla:=Tr.krun_last ns 0 [] (fun h=>absurd h h0)
 rw [hkg,hkd]
 generalize hkr:Xw ns 0 []=kr at *
 obtain ⟨ks,fo⟩:=kr
 cases fo with
 | none=>simp [Qd]
 | some fin =>
  have hkl:ks.length=ns.length:=a2.2 (by simp)
  have hv:=Tr.vgo_eq ns ns ks [] hkl.symm (fun x h=>by cases h)
  have c:=hla fin rfl
  have a0:=hho fin rfl
  simp only at hv a0 ⊢
  match fin,c with
  | [r],c =>
   have hr:r=ns.length - 1:=by simpa using c
   have hlk:YP ns=(Z1 ns (Zm ks []) r).nd.kind:=by
    rw [Tr.G_kind,hr]
    unfold YP X4
    rw [List.getLast?_eq_getElem?]
    cases ns[ns.length - 1]? <;> rfl
   have a3:(Zm ks [])[r]?.getD 0∈Zm ks []:=by
    obtain ⟨t,h1,h2⟩:=Tr.hrun_pre ks []
    have hl:r < (Zm ks []).length:=by rw [h1];simp;omega
    rw [List.getElem?_eq_getElem hl]
    exact List.getElem_mem hl
   have a1:(∀ x∈Zm ks [],x≤50)↔(Z1 ns (Zm ks []) r).high≤50:=by
    constructor
    ·intro h;exact h _ a3
    ·intro h x hx
     obtain ⟨y,hy,hle⟩:=a0 x hx
     have:y=r:=by simpa using hy
     subst this
     exact Nat.le_trans hle h
   rw [hlk]
   by_cases hN:Qy ns (ns.zip ks)=true
   ·rw [if_pos hN]
    simp only [List.map_cons,List.map_nil,Qd]
    rw [Bool.eq_iff_iff]
    simp only [Bool.and_eq_true,decide_eq_true_iff,hv,a1,hN,true_and]
    simp
   ·rw [if_neg hN]
    have:Zz ns (ns.zip ks) []=false:=by
     rw [Bool.eq_false_iff]
     intro h
     exact hN (hv.1 h).1
    simp [Qd,this]
  | [],c=>simp at c
  | a :: b :: t,_ =>
   have e2:((a :: b :: t).length == 1)=false:=by simp
   rw [e2]
   simp only [Bool.false_and,Bool.and_false]
   split <;> simp [Qd]
set_option maxRecDepth 100000 in
set_option maxHeartbeats 1000000 in
theorem icheck_any (ns:List Tr.Nd) (tg tc:Nat) (w:World) (hn:ns.length≤1048576) (hx:∀ x∈ns,x.text.size≤1048576) (hG:GlobB w) (ht:NodesAt w tg ns) :
  Calls Tryz.prog 16 #[.agg #[.slice (some ⟨tg,0,none⟩) ns.length tc]] w fun e w'=>e = .returned (.agg #[.int .i64 (Xk ns).1,.int .i64 (Xk ns).2])∧Below w.heap.size w w':=by
 have r2:Below w.heap.size w ((w.alloc (.cells #[.slice (some ⟨tg,0,none⟩) ns.length tc] 25)).alloc (.cells #[.int .i64 0,.int .i64 0] 37)):=(bA _).alloc (by simp) _
 have HV:=X1 (ivalid_any ns tg tc _ hn hx (ht.below r2))
 rw [JT ns] at HV
 have HT:=X1 ht
 have HG:=X1 hG
 have HX:=X1 hx
 clear ht hG hx
 cases hv:XS ns
 ·have HC:Hid (Xk ns=(11,0)):=X1 (by unfold Xk;rw [hv];rfl)
  rw [hv] at HV
  rw [HC.o]
  go_enter Tryz.func16,Tryz.ntmps16
  go_wp2_with fail
  refine HV.o.mono ?_
  rintro e w1 ⟨rfl,a⟩
  rw [World.size_alloc,World.size_alloc] at a
  obtain ⟨b0,b1,b2,b3,b4⟩:=boxes a
  have b:=r2.trans (a.mono (by omega))
  clear a
  go_wp2
  refine bodyPost_ret (v:= .agg #[.int .i64 11,.int .i64 0]) (by simp [results,Tryz.results16,go_sem,b1,b2]) rfl ⟨rfl,?_⟩
  exact (b.setCell (p:=⟨w.heap.size+1,0,none⟩) (by simp) _).setCell (p:=⟨w.heap.size+1,1,none⟩) (by simp) _
 ·obtain ⟨hn1,hn5,a2,a3⟩:=Yx hv
  have HC:=X1 (Tr.ilook_eq hv).1
  rw [hv] at HV
  have HLK:=X1 (fun w' (hb:Below w.heap.size w w')=>JK ns tg tc w' hn1 hn5 a2 a3 HX.o (HG.o.below hb) (HT.o.below hb))
  clear a3
  go_enter Tryz.func16,Tryz.ntmps16
  go_wp2_with fail
  refine HV.o.mono ?_
  rintro e w1 ⟨rfl,a⟩
  rw [World.size_alloc,World.size_alloc] at a
  obtain ⟨b0,_⟩:=boxes a
  have b:=r2.trans (a.mono (by omega))
  have hz1:w.heap.size+1+1≤w1.heap.size:=by have:=a.size;simpa using this
  go_wp2_with fail
  refine (HLK.o _ b).mono ?_
  rintro e w2 ⟨wb,kg,kc,cg,bg,rfl,hF,hD,hcg,hbg,c⟩
  have a0:=a.trans (c.mono hz1)
  have hB2:=b.trans (c.mono b.size)
  have hz2:w.heap.size+1+1≤w2.heap.size:=Nat.le_trans hz1 c.size
  have d:=X1 (QP ns _ wb tg tc kg kc cg bg _ w2 hn5 hF hD)
  rw [show XT (XW ns (Xf ns) ns.length (ns.length - 1) [YX] (YV ns.length)).codes 0=Xk ns from HC.o] at d
  clear hF hD c HV HLK
  go_wp2_with fail
  refine d.o.mono ?_
  rintro e w3 ⟨rfl,f⟩
  have a1:=a0.trans (f.mono hz2)
  obtain ⟨b0',b1,b2,b3,b4⟩:=boxes a1
  have hB3:=hB2.trans (f.mono hB2.size)
  clear a a0 a1 f d b0
  go_wp2
  refine bodyPost_ret (v:= .agg #[.int .i64 (Xk ns).1,.int .i64 (Xk ns).2]) (by simp [results,Tryz.results16,go_sem,b1,b2]) rfl ⟨rfl,?_⟩
  exact (hB3.setCell (p:=⟨w.heap.size+1,0,none⟩) (by simp) _).setCell (p:=⟨w.heap.size+1,1,none⟩) (by simp) _
set_option maxRecDepth 100000 in
set_option maxHeartbeats 1000000 in
theorem ibinds_any (ns:List Tr.Nd) (tg tc:Nat) (w:World) (hn:ns.length≤1048576) (hx:∀ x∈ns,x.text.size≤1048576) (hG:GlobB w) (ht:NodesAt w tg ns) :
  Calls Tryz.prog 8 #[.agg #[.slice (some ⟨tg,0,none⟩) ns.length tc]] w fun e w'=>Below w.heap.size w w'∧((Xz ns=false∧e = .returned (.slice none 0 0))∨Xz ns=true∧(Xe ns).length=ns.length∧∃ g,e = .returned (.slice (some ⟨g,0,none⟩) (Xe ns).length (Xe ns).length)∧w.heap.size≤g∧w'.ownsRow 0 3 1 (.slice (some ⟨g,0,none⟩) (Xe ns).length (Xe ns).length) (Xe ns).length ((Xe ns).map vi)):=by
 have r1:Below w.heap.size w (w.alloc (.cells #[.slice (some ⟨tg,0,none⟩) ns.length tc] 25)):=bA _
 have HV:=X1 (ivalid_any ns tg tc _ hn hx (ht.below r1))
 rw [JT ns] at HV
 have HT:=X1 ht
 have HG:=X1 hG
 have HX:=X1 hx
 clear ht hG hx
 cases hv:XS ns
 ·have HC:Hid (Xz ns=false):=X1 (by
   cases hf:Xz ns
   ·rfl
   ·rw [YH hf] at hv;cases hv)
  rw [hv] at HV
  go_enter Tryz.func8,Tryz.ntmps8
  go_wp2_with fail
  refine HV.o.mono ?_
  rintro e w1 ⟨rfl,d⟩
  have c:=r1.trans (d.mono (by simp))
  clear d
  go_wp2
  go_ret
  exact ⟨c,.inl ⟨HC.o,rfl⟩⟩
 ·obtain ⟨hn1,hn5,a0,a1⟩:=Yx hv
  have HC:=X1 (Tr.ilook_eq hv)
  rw [hv] at HV
  have HLK:=X1 (fun w' (hb:Below w.heap.size w w')=>JK ns tg tc w' hn1 hn5 a0 a1 HX.o (HG.o.below hb) (HT.o.below hb))
  have f:=X1 (Qk (ns:=ns))
  clear a1
  go_enter Tryz.func8,Tryz.ntmps8
  go_wp2_with fail
  refine HV.o.mono ?_
  rintro e w1 ⟨rfl,d⟩
  have b0:w1.cell? ⟨w.heap.size,0,none⟩=some (.slice (some ⟨tg,0,none⟩) ns.length tc):=(d.cell (p:=⟨w.heap.size,0,none⟩) (by simp)).trans (by simp)
  have c:=r1.trans (d.mono (by simp))
  clear d
  go_wp2_with fail
  refine (HLK.o _ c).mono ?_
  rintro e w2 ⟨wb,kg,kc,cg,bg,rfl,hF,hD,hcg,hbg,hb2⟩
  have hB2:=c.trans (hb2.mono c.size)
  have k:=X1 (QP ns _ wb tg tc kg kc cg bg _ w2 hn5 hF hD)
  rw [show XT (XW ns (Xf ns) ns.length (ns.length - 1) [YX] (YV ns.length)).codes 0=Xk ns from HC.o.1] at k
  have HFX:=X1 hF
  have HDX:=X1 hD
  have hz1:=c.size
  clear hF hD hb2 HV HLK b0
  go_wp2_with fail
  refine k.o.mono ?_
  rintro e w3 ⟨rfl,j⟩
  have l:=hB2.trans (j.mono hB2.size)
  have HF3:=X1 (HFX.o.kept (Kp.of_below j))
  have HD3:=X1 (HDX.o.below j)
  have f2:=HF3.o.f2
  have hne:=Qk (ns:=ns)
  clear j k HFX HDX
  cases hf:Xz ns
  ·have a:¬ ((Xk ns).1=0∧(Xk ns).2=0):=fun h=>by
    have:=f.o.2 (Prod.ext h.1 h.2)
    rw [hf] at this;cases this
   have i:Hid (Xz ns=false):=X1 hf
   clear hne f HC hf
   by_cases h0:(Xk ns).1=0
   ·have h1:¬ ((Xk ns).2:Int)=0:=fun h=>a ⟨h0,by omega⟩
    clear a
    rw [h0]
    go_wp2
    all_goals
     go_ret
     exact ⟨l,.inl ⟨i.o,rfl⟩⟩
   ·clear a
    go_wp2
    all_goals
     go_ret
     exact ⟨l,.inl ⟨i.o,rfl⟩⟩
  ·have a:=f.o.1 hf
   have HBI:=X1 (HC.o.2 hf)
   have i:Hid (Xz ns=true):=X1 hf
   have h0:(Xk ns).1=0:=by rw [a]
   have h1:(Xk ns).2=0:=by rw [a]
   have HLN:=X1 HD3.o.lens.2
   clear hne f HC hf a
   rw [h0,h1]
   go_wp2
   go_ret
   have m:(Xe ns).length=ns.length:=by rw [← HBI.o];exact HLN.o
   refine ⟨l,.inr ⟨i.o,m,bg,by rw [m];rfl,by omega,?_⟩⟩
   rw [m,← HBI.o]
   exact HD3.o.b
end Go.Proofs.YtimbaebigjjkaaaGreatDoor
namespace Go.Proofs.YtimbaebigjjkaaaGreatDoor
def Tr.KnOk (ns:List Tr.Nd) (kn:List Tr.Kn):Prop:=∀ p∈kn,p.2 < ns.length∧p.1=Xb ns p.2
def Tr.BdOk (ns:List Tr.Nd) (i:Nat) (b:Int):Prop:=b = -1∨(X4 ns i=5∧(b = -2∨∃ a:Nat,b=a∧a < ns.length∧Xb ns a=Xb ns i))
def Tr.StOk (ns:List Tr.Nd) (s:Tr.St):Prop:=s.binds.length=ns.length∧∀ i b,s.binds[i]?=some b→Tr.BdOk ns i b
theorem Tr.kind_lt {ns:List Tr.Nd} {k:Nat} (h:X4 ns k≠0):k < ns.length:=by
 rcases Nat.lt_or_ge k ns.length with h1 | h1
 ·exact h1
 ·exact absurd (by unfold X4;rw [List.getElem?_eq_none h1]) h
theorem Tr.KnOk.snoc {ns:List Tr.Nd} {kn:List Tr.Kn} (h:Tr.KnOk ns kn) {k:Nat} (hk:k < ns.length):Tr.KnOk ns (kn++[(Xb ns k,k)]):=fun p hp=>by
 rcases List.mem_append.mp hp with h1 | h1
 ·exact h p h1
 ·rw [List.mem_singleton.mp h1];exact ⟨hk,rfl⟩
theorem Tr.look_mem {x:ByteArray} {kn:List Tr.Kn} {a:Nat} (h:XH x kn=some a):(x,a)∈kn:=by
 induction kn with
 | nil=>cases h
 | cons p r ih =>
  rw [XH] at h
  cases hr:XH x r with
  | some b=>rw [hr] at h;cases h;exact List.mem_cons_of_mem _ (ih hr)
  | none =>
   rw [hr] at h
   simp only at h
   split at h
   ·rename_i hp;cases h;rw [← hp];exact List.mem_cons_self
   ·cases h
theorem Tr.StOk.fault {ns:List Tr.Nd} {s:Tr.St} (h:Tr.StOk ns s) (k:Nat) (c:Int):Tr.StOk ns (Xg k c s):=by
 unfold Xg
 split
 ·exact h
 ·exact h
theorem Tr.StOk.set {ns:List Tr.Nd} {s:Tr.St} (h:Tr.StOk ns s) (k:Nat) (b:Int) (hb:Tr.BdOk ns k b):Tr.StOk ns {s with binds:=s.binds.set k b}:=by
 refine ⟨by simpa using h.1,fun i x hx=>?_⟩
 simp only [List.getElem?_set] at hx
 split at hx
 ·rename_i hk
  subst hk
  split at hx
  ·cases hx;exact hb
  ·cases hx
 ·exact h.2 i x hx
theorem Tr.StOk.use {ns:List Tr.Nd} {s:Tr.St} (h:Tr.StOk ns s) {k:Nat} {kn:List Tr.Kn} (hk:Tr.KnOk ns kn) (h5:X4 ns k=5):Tr.StOk ns (YJ ns k kn s):=by
 unfold YJ
 cases hl:XH (Xb ns k) kn with
 | some a =>
  obtain ⟨h1,h2⟩:=hk _ (Tr.look_mem hl)
  exact h.set k a (.inr ⟨h5,.inr ⟨a,rfl,h1,h2.symm⟩⟩)
 | none =>
  simp only
  split
  ·exact h.set k (-2) (.inr ⟨h5,.inl rfl⟩)
  ·exact h.fault _ _
theorem Tr.StOk.fold {α:Type} {ns:List Tr.Nd} (f:Tr.St→α→Tr.St) (hf:∀ s x,Tr.StOk ns s→Tr.StOk ns (f s x)):∀ (l:List α) (s:Tr.St),Tr.StOk ns s→Tr.StOk ns (l.foldl f s)
 | [],_,h=>h
 | x :: r,s,h=>Tr.StOk.fold f hf r (f s x) (hf s x h)
theorem Tr.StOk.dup {ns:List Tr.Nd} {s:Tr.St} (h:Tr.StOk ns s) (p:Nat) (seen:List Nat):Tr.StOk ns (Ye ns p seen s) :=
 Tr.StOk.fold _ (fun s x hs=>by
  show Tr.StOk ns (if _ then _ else _)
  split
  ·exact hs.fault _ _
  ·exact hs) seen s h
section
variable {ns:List Tr.Nd} {ks:List (List Nat)} {G:Nat→List Tr.Kn→Tr.St→Tr.St}
theorem Tr.StOk.par (hG:∀ k kn s,Tr.KnOk ns kn→Tr.StOk ns s→Tr.StOk ns (G k kn s)) {s:Tr.St} (h:Tr.StOk ns s) (p:Nat) (seen:List Nat) {kn:List Tr.Kn} (hk:Tr.KnOk ns kn) (df:Bool):Tr.StOk ns (YG G ns ks p seen kn df s):=by
 unfold YG
 split
 ·split
  ·exact (h.dup p seen).fault _ _
  ·exact h.dup p seen
 ·exact hG _ _ _ hk (h.dup p seen)
theorem Tr.StOk.fn (hG:∀ k kn s,Tr.KnOk ns kn→Tr.StOk ns s→Tr.StOk ns (G k kn s)):∀ (l seen:List Nat) (kn:List Tr.Kn) (df:Bool) (s:Tr.St),(∀ x∈l,x < ns.length)→Tr.KnOk ns kn→Tr.StOk ns s→Tr.StOk ns (Yh G ns ks l seen kn df s)
 | [],_,_,_,_,_,_,h=>by rw [Yh];exact h
 | [x],_,_,_,_,_,hk,h=>by rw [Yh];exact hG _ _ _ hk h
 | p :: q :: r,seen,kn,df,s,hl,hk,h=>by
  rw [Yh]
  exact Tr.StOk.fn hG (q :: r) _ _ _ _ (fun x hx=>hl x (List.mem_cons_of_mem _ hx)) (hk.snoc (hl p List.mem_cons_self)) (Tr.StOk.par hG h p seen hk df)
theorem Tr.StOk.let_ (hG:∀ k kn s,Tr.KnOk ns kn→Tr.StOk ns s→Tr.StOk ns (G k kn s)) {kn more:List Tr.Kn} (hk:Tr.KnOk ns kn) (hm:Tr.KnOk ns more) {s:Tr.St} (h:Tr.StOk ns s) (l:List Nat):Tr.StOk ns (Zl G kn more s l):=by
 unfold Zl
 split
 ·exact h
 ·exact Tr.StOk.fold _ (fun s y hs=>hG y more s hm hs) _ _ (hG _ _ _ hk h)
end
theorem Tr.StOk.go {ns:List Tr.Nd} {ks:List (List Nat)} (hks:∀ k,∀ x∈X5 ks k,x < ns.length):∀ (f k:Nat) (kn:List Tr.Kn) (s:Tr.St),Tr.KnOk ns kn→Tr.StOk ns s→Tr.StOk ns (Xx ns ks f k kn s)
 | 0,_,_,_,_,h=>by rw [Xx];exact h
 | f+1,k,kn,s,hk,h=>by
  rw [Xx]
  split
  ·rename_i h5;exact h.use hk h5
  ·split
   ·exact h
   ·split
    ·exact Tr.StOk.fn (fun k kn s a b=>Tr.StOk.go hks f k kn s a b) _ _ _ _ _ (hks k) hk h
    ·split
     ·rename_i h14
      exact Tr.StOk.let_ (fun k kn s a b=>Tr.StOk.go hks f k kn s a b) hk (hk.snoc (Tr.kind_lt (by rcases h14 with e | e <;> rw [e] <;> decide))) h _
     ·exact Tr.StOk.fold _ (fun s y hs=>Tr.StOk.go hks f y kn s hk hs) _ _ h
theorem Tr.StOk.mk {ns:List Tr.Nd}:∀ (l:List Nat) (kn:List Tr.Kn) (s:Tr.St),(∀ x∈l,x < ns.length)→Tr.KnOk ns kn→Tr.StOk ns s→Tr.KnOk ns (YD ns l kn s).1∧Tr.StOk ns (YD ns l kn s).2
 | [],_,_,_,hk,h=>by rw [YD];exact ⟨hk,h⟩
 | x :: r,kn,s,hl,hk,h=>by
  rw [YD]
  refine Tr.StOk.mk r _ _ (fun y hy=>hl y (List.mem_cons_of_mem _ hy)) (hk.snoc (hl x List.mem_cons_self)) ?_
  exact Tr.StOk.fold _ (fun s p hs=>by
   show Tr.StOk ns (if _ then _ else _)
   split
   ·exact hs.fault _ _
   ·exact hs) kn s h
theorem Tr.StOk.start (ns:List Tr.Nd):Tr.StOk ns (YV ns.length):=by
 refine ⟨by simp [YV],fun i b hb=>?_⟩
 simp only [YV,List.getElem?_replicate] at hb
 split at hb
 ·cases hb;exact .inl rfl
 ·cases hb
theorem Tr.StOk.look {ns:List Tr.Nd} {ks:List (List Nat)} (hks:∀ k (h:k < ks.length),∀ x∈ks[k],x < ns.length):Tr.StOk ns (YT ns ks):=by
 have hk:∀ k,∀ x∈X5 ks k,x < ns.length:=by
  intro k x hx
  unfold X5 at hx
  rcases Nat.lt_or_ge k ks.length with h | h
  ·rw [List.getElem?_eq_getElem h] at hx;exact hks k h x hx
  ·rw [List.getElem?_eq_none h] at hx;cases hx
 unfold YT
 obtain ⟨h1,h2⟩:=Tr.StOk.mk (Xs ns ks (X5 ks (ns.length - 1))) [] _ (QV ns ks _ hks) (fun _ h=>by cases h) (Tr.StOk.start ns)
 exact Tr.StOk.go hk _ _ _ _ h1 h2
theorem QZ:∀ (l:List Int) (i:Nat),(XT l i).1=0→XT l i=(0,0)
 | [],_,_=>rfl
 | c :: r,i,h=>by
  rw [XT] at h ⊢
  split at h
  ·rename_i hc;rw [if_pos hc];exact QZ r (i+1) h
  ·rename_i hc;exact absurd h hc
theorem Tr.fits_iff (ns:List Tr.Nd):Xz ns=true↔Xk ns=(0,0):=by
 unfold Xz
 constructor
 ·intro h
  have h0:(Xk ns).1=0:=by simpa using h
  unfold Xk at h0 ⊢
  split at h0
  ·rename_i hv;rw [if_pos hv];exact QZ _ _ h0
  ·cases h0
 ·intro h;rw [h];rfl
theorem KD (ns:List Tr.Nd):(∀ i b,(Xe ns)[i]?=some b→Tr.BdOk ns i b)∧(Xz ns=true→(Xe ns).length=ns.length∧0 < ns.length)∧(Xz ns=false→Xe ns=[]):=by
 unfold Xe
 cases hf:Xz ns
 ·exact ⟨fun i b h=>by simp at h,(fun h=>by cases h),fun _=>rfl⟩
 ·have hv:=YH hf
  have a:=hv
  unfold XS at a
  simp only [Bool.and_eq_true] at a
  have hin:=Zh a.1.1.1
  have hkl:=Zs a.1.2
  have hs:=Tr.StOk.look (ns:=ns) (ks:=Xf ns) (fun k hk x hx=>by have:=K5 ns k hk x hx;omega)
  refine ⟨fun i b h=>hs.2 i b (by simpa using h),fun _=>⟨by simpa using hs.1,by omega⟩,(fun h=>by cases h)⟩
end Go.Proofs.YtimbaebigjjkaaaGreatDoor
namespace Go.Proofs.YtimbaebigjjkaaaGreatDoor
open Go.RowKit
theorem Tr.valid_none:XS []=false:=by rfl
theorem Jp:Xk []=(11,0):=by unfold Xk;rw [Tr.valid_none];rfl
theorem QB:Xz []=false:=by unfold Xz;rw [Jp];rfl
theorem Tr.binds_none:Xe []=[]:=by unfold Xe;rw [QB];rfl
set_option maxRecDepth 100000 in
set_option maxHeartbeats 1000000 in
theorem valid_nil (w:World):Calls Tryz.prog 30 #[.agg #[.slice none 0 0]] w fun e w'=>e = .returned (.bool false)∧Below w.heap.size w w':=by
 have r1:Below w.heap.size w (w.alloc (.cells #[.slice none 0 0] 25)):=bA _
 have hin:Xn 0 1 5000=false:=by decide
 go_enter Tryz.func30,Tryz.ntmps30
 go_wp2_with (go_at_call 22;refine (YI _ _ _ _).mono ?_;rintro e w' ⟨rfl,rfl⟩)
 go_ret
 exact ⟨rfl,r1⟩
set_option maxRecDepth 100000 in
set_option maxHeartbeats 1000000 in
theorem ivalid_nil (w:World):Calls Tryz.prog 27 #[.agg #[.slice none 0 0]] w fun e w'=>e = .returned (.bool false)∧Below w.heap.size w w':=by
 have r1:Below w.heap.size w (w.alloc (.cells #[.slice none 0 0] 25)):=bA _
 go_enter Tryz.func27,Tryz.ntmps27
 go_wp2_with fail
 refine (wordSet_any _).mono ?_
 rintro e w1 ⟨rfl,a0,a⟩
 have HB1:Hid (Below w.heap.size w w1):=X1 (r1.trans (a.mono (by simp)))
 have hbox:w1.cell? ⟨w.heap.size,0,none⟩=some (.slice none 0 0):=(a.cell (p:=⟨w.heap.size,0,none⟩) (by simp)).trans (by simp)
 clear a0 a
 rw [World.size_alloc] at *
 go_wp2
 go_loopw [4,17] (fun v4 t wr=>v4 = .slice none 0 0∧t = .int .i64 0∧Below w1.heap.size w1 wr) (fun _ _ _=>0)
 case atStart=>exact ⟨rfl,rfl,Below.refl _ _⟩
 case round =>
  obtain ⟨rfl,rfl,hB⟩:=hrel
  go_wp2
  go_ret
  exact ⟨rfl,HB1.o.trans (hB.mono HB1.o.size)⟩
set_option maxRecDepth 100000 in
set_option maxHeartbeats 1000000 in
theorem check_nil (w:World):Calls Tryz.prog 10 #[.agg #[.slice none 0 0]] w fun e w'=>e = .returned (.agg #[.int .i64 11,.int .i64 0])∧Below w.heap.size w w':=by
 have r2:Below w.heap.size w ((w.alloc (.cells #[.slice none 0 0] 25)).alloc (.cells #[.int .i64 0,.int .i64 0] 37)):=(bA _).alloc (by simp) _
 have HV:=X1 (valid_nil ((w.alloc (.cells #[.slice none 0 0] 25)).alloc (.cells #[.int .i64 0,.int .i64 0] 37)))
 go_enter Tryz.func10,Tryz.ntmps10
 go_wp2_with fail
 refine HV.o.mono ?_
 rintro e w1 ⟨rfl,a⟩
 rw [World.size_alloc,World.size_alloc] at a
 obtain ⟨b0,b1,b2,b3,b4⟩:=boxes a
 have hB1:=r2.trans (a.mono (by omega))
 clear a
 go_wp2
 refine bodyPost_ret (v:= .agg #[.int .i64 11,.int .i64 0]) (by simp [results,Tryz.results10,go_sem,b1,b2]) rfl ⟨rfl,?_⟩
 exact (hB1.setCell (p:=⟨w.heap.size+1,0,none⟩) (by simp) _).setCell (p:=⟨w.heap.size+1,1,none⟩) (by simp) _
set_option maxRecDepth 100000 in
set_option maxHeartbeats 1000000 in
theorem icheck_nil (w:World):Calls Tryz.prog 16 #[.agg #[.slice none 0 0]] w fun e w'=>e = .returned (.agg #[.int .i64 11,.int .i64 0])∧Below w.heap.size w w':=by
 have r2:Below w.heap.size w ((w.alloc (.cells #[.slice none 0 0] 25)).alloc (.cells #[.int .i64 0,.int .i64 0] 37)):=(bA _).alloc (by simp) _
 have HV:=X1 (ivalid_nil ((w.alloc (.cells #[.slice none 0 0] 25)).alloc (.cells #[.int .i64 0,.int .i64 0] 37)))
 go_enter Tryz.func16,Tryz.ntmps16
 go_wp2_with fail
 refine HV.o.mono ?_
 rintro e w1 ⟨rfl,a⟩
 rw [World.size_alloc,World.size_alloc] at a
 obtain ⟨b0,b1,b2,b3,b4⟩:=boxes a
 have hB1:=r2.trans (a.mono (by omega))
 clear a
 go_wp2
 refine bodyPost_ret (v:= .agg #[.int .i64 11,.int .i64 0]) (by simp [results,Tryz.results16,go_sem,b1,b2]) rfl ⟨rfl,?_⟩
 exact (hB1.setCell (p:=⟨w.heap.size+1,0,none⟩) (by simp) _).setCell (p:=⟨w.heap.size+1,1,none⟩) (by simp) _
set_option maxRecDepth 100000 in
set_option maxHeartbeats 1000000 in
theorem fits_nil (w:World):Calls Tryz.prog 21 #[.agg #[.slice none 0 0]] w fun e w'=>e = .returned (.bool false)∧Below w.heap.size w w':=by
 have r1:Below w.heap.size w (w.alloc (.cells #[.slice none 0 0] 25)):=bA _
 have HC:=X1 (check_nil (w.alloc (.cells #[.slice none 0 0] 25)))
 have hfc:=Jw 11 0
 go_enter Tryz.func21,Tryz.ntmps21
 go_wp2_with fail
 refine HC.o.mono ?_
 rintro e w1 ⟨rfl,hb1⟩
 go_wp2
 go_ret
 exact ⟨rfl,r1.trans (hb1.mono (by simp))⟩
set_option maxRecDepth 100000 in
set_option maxHeartbeats 1000000 in
theorem ibinds_nil (w:World):Calls Tryz.prog 8 #[.agg #[.slice none 0 0]] w fun e w'=>∃ v,e = .returned v∧w'.ownsRow 0 3 1 v 0 []∧Below w.heap.size w w':=by
 have r1:Below w.heap.size w (w.alloc (.cells #[.slice none 0 0] 25)):=bA _
 have HFT:=X1 (ivalid_nil (w.alloc (.cells #[.slice none 0 0] 25)))
 go_enter Tryz.func8,Tryz.ntmps8
 go_wp2_with fail
 refine HFT.o.mono ?_
 rintro e w1 ⟨rfl,hb1⟩
 have hB1:=r1.trans (hb1.mono (by simp))
 go_wp2
 go_ret
 exact ⟨_,rfl,World.ownsRow_nil _ _ _ _,hB1⟩
def BindsPost (w:World) (b:List Int) (e:Ending) (w':World):Prop:=∃ v,e = .returned v∧w'.ownsRow 0 3 1 v b.length (b.map vi)∧Below w.heap.size w w'
theorem NR.cases {w:World} {v:Value} {l:List Tr.Nd} (h:NR w v l):(v = .slice none 0 0∧l=[])∨∃ g c,v = .slice (some ⟨g,0,none⟩) l.length c∧NodesAt w g l:=by
 have h1:=h.1
 rcases h1.2 with ⟨hv,h0⟩ | ⟨g,c,cur,hv,_⟩
 ·exact .inl ⟨hv,List.length_eq_zero_iff.1 h0⟩
 ·subst hv;exact .inr ⟨g,c,rfl,QL h1⟩
theorem sh_big {l:List Tr.Nd} (h:Sh l):∀ x∈l,x.text.size≤1048576:=fun x hx=>Nat.le_trans (h x hx) (by omega)
theorem checkV (v:Value) (l:List Tr.Nd) (w:World) (h:NR w v l) (hl:l.length≤1048576):Calls Tryz.prog 10 #[.agg #[v]] w fun e w'=>e = .returned (.agg #[.int .i64 (Xk l).1,.int .i64 (Xk l).2])∧Below w.heap.size w w':=by
 rcases h.cases with ⟨rfl,rfl⟩ | ⟨g,c,rfl,hn⟩
 ·rw [Jp];exact check_nil w
 ·exact check_any l g c w hl hn
theorem ibindsV (v:Value) (l:List Tr.Nd) (w:World) (h:NR w v l) (hl:l.length≤1048576) (hG:GlobB w):Calls Tryz.prog 8 #[.agg #[v]] w fun e w'=>BindsPost w (Xe l) e w':=by
 have hs:=sh_big h.2
 rcases h.cases with ⟨rfl,rfl⟩ | ⟨g,c,rfl,hn⟩
 ·rw [Tr.binds_none];exact ibinds_nil w
 ·refine (ibinds_any l g c w hl hs hG hn).mono ?_
  rintro e w' ⟨hb,⟨hf,rfl⟩ | ⟨hf,hbl,g',rfl,_,hr⟩⟩
  ·refine ⟨_,rfl,?_,hb⟩
   rw [show Xe l=[] by unfold Xe;rw [hf];rfl]
   exact World.ownsRow_nil _ _ _ _
  ·exact ⟨_,rfl,hr,hb⟩
theorem Tr.text_at {l:List Tr.Nd} {i:Nat} (h:i < l.length):Xb l i=l[i].text:=by unfold Xb;rw [List.getElem?_eq_getElem h];rfl
set_option maxRecDepth 100000 in
set_option maxHeartbeats 1000000 in
theorem wFits_any (p:Option Addr) (n c:Nat) (l:List Tr.Nd) (w:World) (h:NR w (.slice p n c) l) (hl:l.length≤1048576):Calls Tryz.prog 9 #[.agg #[.slice p n c]] w fun e w'=>e = .returned (.bool (Xz l))∧Below w.heap.size w w':=by
 have r1:Below w.heap.size w (w.alloc (.cells #[.slice p n c] 25)):=bA _
 have HC:=X1 (checkV (.slice p n c) l (w.alloc (.cells #[.slice p n c] 25)) ⟨Yu h.1 r1,h.2⟩ hl)
 have HF:=X1 (Tr.fits_iff l)
 clear h
 generalize Xz l=b at *
 obtain ⟨x,y,hco⟩:∃ x y,Xk l=(x,y):=⟨_,_,rfl⟩
 rw [hco] at HC HF
 simp only at HC
 clear hco
 by_cases hx:x=0
 ·subst hx
  by_cases hy:y=0
  ·subst hy
   have hb:b=true:=HF.o.2 rfl
   subst hb
   go_enter Tryz.func9,Tryz.ntmps9
   go_wp2_with fail
   refine HC.o.mono ?_
   rintro e w1 ⟨rfl,a⟩
   go_wp2
   go_ret
   exact ⟨rfl,r1.trans (a.mono (by simp))⟩
  ·have hb:b=false:=by cases b with
    | false=>rfl
    | true=>exact absurd (congrArg Prod.snd (HF.o.1 rfl)) hy
   subst hb
   have hy1:((y:Int) == 0)=false:=by simpa using hy
   have hy2:¬ (y:Int)=0:=by omega
   go_enter Tryz.func9,Tryz.ntmps9
   go_wp2_with fail
   refine HC.o.mono ?_
   rintro e w1 ⟨rfl,a⟩
   go_wp2
   go_ret
   exact ⟨by first | rfl | simp [hy1,hy],r1.trans (a.mono (by simp))⟩
 ·have hb:b=false:=by cases b with
   | false=>rfl
   | true=>exact absurd (congrArg Prod.fst (HF.o.1 rfl)) hx
  subst hb
  have hx1:(x == 0)=false:=by simpa using hx
  go_enter Tryz.func9,Tryz.ntmps9
  go_wp2_with fail
  refine HC.o.mono ?_
  rintro e w1 ⟨rfl,a⟩
  go_wp2
  go_ret
  exact ⟨by first | rfl | simp [hx1,hx],r1.trans (a.mono (by simp))⟩
theorem binds_form {w:World} {v:Value} {b:List Int} (h:w.ownsRow 0 3 1 v b.length (b.map vi)) (h0:0 < b.length):∃ g c,v = .slice (some ⟨g,0,none⟩) b.length c∧g < w.heap.size∧∀ i (hi:i < b.length),w.cell? ⟨g,i,none⟩=some (.int .i64 b[i]):=by
 rcases h.2 with ⟨_,h1⟩ | ⟨g,c,cur,hv,_⟩
 ·omega
 ·subst hv
  refine ⟨g,c,rfl,(h.lt g rfl).2,fun i hi=>?_⟩
  exact ZK h (by rw [List.getElem?_map,List.getElem?_eq_getElem hi];rfl)
end Go.Proofs.YtimbaebigjjkaaaGreatDoor
namespace Go.Proofs.YtimbaebigjjkaaaGreatDoor
def Y2 (at_:Nat) (b:List Int) (nm:ByteArray) (i:Nat) (d:Tr.Nd):Tr.Nd:=if i=at_∨b[i]?.getD 0=(at_:Int) then {d with text:=nm} else d
def Xp (at_:Nat) (b:List Int) (nm:ByteArray):List Tr.Nd→Nat→List Tr.Nd
 | [],_=>[]
 | d :: r,i=>Y2 at_ b nm i d :: Xp at_ b nm r (i+1)
theorem ZT (at_:Nat) (b:List Int) (nm:ByteArray) (l:List Tr.Nd) (i:Nat):(Xp at_ b nm l i).length=l.length:=by
 induction l generalizing i with
 | nil=>rfl
 | cons d r ih=>rw [Xp,List.length_cons,List.length_cons,ih]
theorem Tr.renGo_snoc (at_:Nat) (b:List Int) (nm:ByteArray) (a:List Tr.Nd) (d:Tr.Nd) (k:Nat):Xp at_ b nm (a++[d]) k=Xp at_ b nm a k++[Y2 at_ b nm (k+a.length) d]:=by
 induction a generalizing k with
 | nil=>simp [Xp]
 | cons x r ih=>rw [List.cons_append,Xp,ih,Xp,List.cons_append,List.length_cons,show k+1+r.length=k+(r.length+1) from by omega]
def Z3 (ns:List Tr.Nd) (nm:ByteArray):Bool:=XZ nm && !decide (nm.data.toList∈Yd) && !ns.any (fun d=>decide (d.text=nm))
def Y3 (ns:List Tr.Nd) (at_:Int):Bool:=decide (0≤at_) && decide (at_ < ns.length) && Za (X4 ns at_.toNat)
def Xq (ns:List Tr.Nd) (at_:Int) (nm:ByteArray):List Tr.Nd × Int :=
 if Xz ns=false then ([],1)
 else if Y3 ns at_=false then ([],2)
 else if Z3 ns nm=false then ([],3)
 else (Xp at_.toNat (Xe ns) nm ns 0,0)
end Go.Proofs.YtimbaebigjjkaaaGreatDoor
namespace Go.Proofs.YtimbaebigjjkaaaGreatDoor
open Go.RowKit
theorem J1 (l:List Tr.Nd):(X2 l).length=l.length*5:=by
 induction l with
 | nil=>rfl
 | cons x r ih=>rw [show X2 (x :: r)=x.cells++X2 r from rfl,List.length_append,ih,List.length_cons];simp [Tr.Nd.cells];omega
theorem Jq (l:List Tr.Nd) (i:Nat) (h:i < l.length):(X2 l)[i*5]?=some (.int .i64 l[i].kind)∧(X2 l)[i*5+1]?=some (.int .i64 l[i].op)∧(X2 l)[i*5+2]?=some (.int .i64 l[i].n)∧(X2 l)[i*5+3]?=some (.string l[i].text)∧(X2 l)[i*5+4]?=some (.int .i64 l[i].kids):=by
 induction l generalizing i with
 | nil=>simp at h
 | cons x r ih =>
  rw [show X2 (x :: r)=x.cells++X2 r from rfl]
  match i,h with
  | 0,_=>simp [Tr.Nd.cells]
  | i+1,h =>
   have:=ih i (by simpa using h)
   have hl:x.cells.length=5:=rfl
   refine ⟨?_,?_,?_,?_,?_⟩
   all_goals rw [List.getElem?_append_right (by omega),hl]
   ·rw [show (i+1)*5 - 5=i*5 from by omega];exact this.1
   ·rw [show (i+1)*5+1 - 5=i*5+1 from by omega];exact this.2.1
   ·rw [show (i+1)*5+2 - 5=i*5+2 from by omega];exact this.2.2.1
   ·rw [show (i+1)*5+3 - 5=i*5+3 from by omega];exact this.2.2.2.1
   ·rw [show (i+1)*5+4 - 5=i*5+4 from by omega];exact this.2.2.2.2
theorem cell_new (X:World) (v:Value) (t:TypeId):(X.alloc (.cells #[v] t)).cell? ⟨X.heap.size,0,none⟩=some v∧(X.alloc (.cells #[v] t)).frozen? ⟨X.heap.size,0,none⟩=false:=by simp
theorem Qn (w:World) (a:Addr) (v:Value):(w.setCell a v).heap.size=w.heap.size:=by simp
theorem Tryz.infoNd:(Tryz.prog.info? 35).map (fun i=>(i.zero,i.size,i.bytes))=some (some (.agg #[.int .i64 0,.int .i64 0,.int .i64 0,.string ⟨#[]⟩,.int .i64 0]),5,48):=by kernel_rfl
end Go.Proofs.YtimbaebigjjkaaaGreatDoor
