/- Nf, Ng, Nh. -/
import Derived.Test.YtimbaebigjjkaaaGreatDoorP37
namespace Go.Proofs.YtimbaebigjjkaaaGreatDoor
open Go.RowKit
theorem row_sameV {w w':World} {base size:Nat} {e:TypeId} {v:Value} {n:Nat} {xs:List Value} (h:w.ownsRow base e size v n xs) (hb:∀ g,base≤g→g < w.heap.size→w'.heap[g]?=w.heap[g]?):w'.ownsRow base e size v n xs:=by
 refine ⟨h.1,?_⟩
 rcases h.2 with h1 | ⟨g',cap',cur,hv,h2,h3,h4⟩
 ·exact .inl h1
 ·exact .inr ⟨g',cap',cur,hv,h2,(hb g' h2 (Array.getElem?_eq_some_iff.1 h3).1).trans h3,h4⟩
theorem J0 (ns:List Tr.Nd) (a b:List Nat) (e:Tr.Sp × Tr.St):YA ns (a++b) e=YA ns b (YA ns a e):=by
 unfold YA;rw [List.foldl_append]
theorem Tr.ents_at (ns:List Tr.Nd) (ls:List Nat) (i:Nat) (e:Tr.Sp × Tr.St) (h:i < ls.length):YA ns (ls.take (i+1)) e=Y0 ns ls[i] (YA ns (ls.take i) e):=by
 rw [List.take_succ_eq_append_getElem h,J0];rfl
theorem Tr.ents_len (ns:List Tr.Nd) (ls:List Nat) (e:Tr.Sp × Tr.St):(YA ns ls e).1.length≤e.1.length+ls.length:=by
 unfold YA
 induction ls generalizing e with
 | nil=>simp
 | cons x r ih =>
  rw [List.foldl_cons]
  have h1:=ih (Y0 ns x e)
  have h2:=Jo ns x e
  rw [List.length_cons];omega
theorem Tr.flt_at (ns:List Tr.Nd) (ls:List Nat) (i:Nat) (h:i < ls.length):(ls.take (i+1)).filter (fun x=>X4 ns x != 23)=(ls.take i).filter (fun x=>X4 ns x != 23)++(if X4 ns ls[i]=23 then [] else [ls[i]]):=by
 rw [List.take_succ_eq_append_getElem h,List.filter_append]
 congr 1
 by_cases e:X4 ns ls[i]=23 <;> simp [e]
structure Fi (ns:List Tr.Nd) (cg bg:Nat) (w:World) (p:Option Addr) (sc:Tr.Sp) (s:Tr.St) (wr:World):Prop where
 kp:Kp cg bg w wr
 sz:w.heap.size+1 < wr.heap.size
 c0:wr.cell? ⟨w.heap.size+1,0,none⟩=some (.map (some w.heap.size))
 c1:wr.cell? ⟨w.heap.size+1,1,none⟩=some (.pointer p)
 sp:SpAt wr w.heap.size sc
 dy:Dy ns.length cg bg s wr
 l1:cg < w.heap.size
 l2:bg < w.heap.size
theorem Fi.start {ns:List Tr.Nd} {cg bg:Nat} {w:World} {p:Option Addr} {s:Tr.St} (hD:Dy ns.length cg bg s w):Fi ns cg bg w p [] s ((w.alloc (.map #[] 0)).alloc (scO w p)):=by
 obtain ⟨n0,n1,n2,n3,n4⟩:=sc_new w p
 exact ⟨Kp.of_below n3,by omega,n0,n1,n2,hD.below n3,(hD.c.lt cg rfl).2,(hD.b.lt bg rfl).2⟩
theorem Fi.enter {ns:List Tr.Nd} {cg bg:Nat} {w:World} {p:Option Addr} {sc sc':Tr.Sp} {s s':Tr.St} {wr wx:World} (h:Fi ns cg bg w p sc s wr) (hu:Ku cg bg w.heap.size wr wx) (hd:Dy ns.length cg bg s' wx) (hs:SpAt wx w.heap.size sc'):Fi ns cg bg w p sc' s' wx:=by
 have h1:=h.l1
 have h2:=h.l2
 refine ⟨Ku.kp h.kp hu (Nat.le_refl _),Nat.lt_of_lt_of_le h.sz hu.size,?_,?_,hs,hd,h.l1,h.l2⟩
 ·exact (hu.cell (p:=⟨w.heap.size+1,0,none⟩) h.sz (show w.heap.size+1≠cg by omega) (show w.heap.size+1≠bg by omega) (show w.heap.size+1≠w.heap.size by omega)).trans h.c0
 ·exact (hu.cell (p:=⟨w.heap.size+1,1,none⟩) h.sz (show w.heap.size+1≠cg by omega) (show w.heap.size+1≠bg by omega) (show w.heap.size+1≠w.heap.size by omega)).trans h.c1
theorem Fi.row {ns:List Tr.Nd} {cg bg:Nat} {w:World} {p:Option Addr} {sc:Tr.Sp} {s:Tr.St} {wr wx:World} (h:Fi ns cg bg w p sc s wr) (hu:Ku cg bg w.heap.size wr wx) {v:Value} {n:Nat} {xs:List Value} (ho:wr.ownsRow (w.heap.size+2) 3 1 v n xs):wx.ownsRow (w.heap.size+2) 3 1 v n xs:=by
 have h1:=h.l1
 have h2:=h.l2
 exact row_sameV ho fun g hg hl=>hu.block g hl (by omega) (by omega) (by omega)
theorem Fi.grown {ns:List Tr.Nd} {cg bg:Nat} {w:World} {p:Option Addr} {sc:Tr.Sp} {s:Tr.St} {wr wx:World} (h:Fi ns cg bg w p sc s wr) {row:Option Nat} (hg:wr.grownBy wx row) (hr:∀ q,row=some q→w.heap.size+2≤q):Fi ns cg bg w p sc s wx:=by
 have h1:=h.l1
 have h2:=h.l2
 have h3:=h.sz
 have hb:∀ b,b < w.heap.size+2→wx.heap[b]?=wr.heap[b]?:=fun b hb=>hg.block b (by omega) (fun e=>by have:=hr b e.symm;omega)
 exact ⟨h.kp.grown hg (fun q e=>by have:=hr q e;omega),Nat.lt_of_lt_of_le h.sz hg.size,(World.cell?_of_block (a:=⟨w.heap.size+1,0,none⟩) (hb (w.heap.size+1) (by omega))).trans h.c0,(World.cell?_of_block (a:=⟨w.heap.size+1,1,none⟩) (hb (w.heap.size+1) (by omega))).trans h.c1,h.sp.same (hb _ (by omega)),
  h.dy.grown hg (fun e=>by have:=hr _ e;omega) (fun e=>by have:=hr _ e;omega),h.l1,h.l2⟩
theorem Fi.alloc {ns:List Tr.Nd} {cg bg:Nat} {w:World} {p:Option Addr} {sc:Tr.Sp} {s:Tr.St} {wr:World} (h:Fi ns cg bg w p sc s wr) (o:Obj):Fi ns cg bg w p sc s (wr.alloc o) :=
 h.grown (World.grownBy_alloc wr o none) (fun q e=>by cases e)
theorem own_of {v:Value} {n:Nat} {w:World} {base:Nat} {e:TypeId} {size:Nat} {xs:List Value} (h:w.ownsRow base e size v n xs):∀ q,v.ownBlock=some q→base≤q:=fun q e=>(h.lt q e).1
theorem lens_of {v:Value} {n:Nat} {w:World} {base:Nat} {e:TypeId} {xs:List Value} (h:w.ownsRow base e 1 v n xs):∃ a c,v = .slice a n c:=by
 rcases h.2 with ⟨h1,h2⟩ | ⟨g',cap',cur,hv,_⟩
 ·refine ⟨none,0,?_⟩
  rw [h1]
  have:n=0:=by have:=h.1;simp [h2] at this;omega
  rw [this]
 ·exact ⟨_,_,hv⟩
theorem plv_of {cg bg:Nat} {w:World} {B:Nat} {v:Value} {ls:List Nat} (h:w.ownsRow B 3 1 v ls.length (ls.map vint)) (h1:cg < B) (h2:bg < B):PlV cg bg w v ls:=by
 have hh:=h
 rcases h.2 with ⟨h3,h4⟩ | ⟨g',cap',cur,hv,hb,_⟩
 ·exact .inl ⟨none,0,h3,by simpa using h4⟩
 ·subst hv
  exact .inr ⟨g',0,cap',rfl,by omega,by omega,(Z2 hh).1,Qa hh⟩
theorem flt_len (ns:List Tr.Nd) (ls:List Nat):(ls.filter fun x=>X4 ns x != 23).length≤ls.length:=List.length_filter_le _ _
theorem Tr.makes_len (ns:List Tr.Nd) (ks:List (List Nat)) (hkl:∀ k,(X5 ks k).length≤5000) (ls:List Nat):(Xs ns ks ls).length≤ls.length*5000:=by
 unfold Xs
 induction ls with
 | nil=>simp
 | cons x r ih =>
  rw [List.flatMap_cons,List.length_append,List.length_cons]
  have:(Ks ns ks x).length≤5000:=by
   unfold Ks
   split
   ·simp
   ·split
    ·exact hkl x
    ·simp
  omega
set_option maxRecDepth 100000 in
set_option maxHeartbeats 1000000 in
theorem ifile_some (ns:List Tr.Nd) (ks:List (List Nat)) (wb tg tc kg kc cg bg f:Nat) (G:Nat→List Tr.Sp→Tr.St→Tr.St) (hG:WkOk ns ks wb tg tc kg kc cg bg f G) (hn:ns.length≤5000) (ls:List Nat) (g o c:Nat) (ch:List Tr.Sp) (p:Option Addr) (s:Tr.St) (w:World)
  (hls:∀ x∈ls,x < f∧x < ns.length) (hl:ls.length≤5000) (hks:∀ k (h:k < ks.length),∀ x∈ks[k],x < ns.length) (hkl:∀ k,(X5 ks k).length≤5000)
  (hF:Ix ns ks wb tg tc kg kc cg bg w) (hD:Dy ns.length cg bg s w) (hC:Chain cg bg w w.heap.size p ch) (hg1:g≠cg) (hg2:g≠bg) (hI:IntsAt w g o ls) :
  Calls Tryz.prog 78 #[.pointer (some ⟨wb,0,none⟩),.slice (some ⟨g,o,none⟩) ls.length c,.pointer p] w fun e w'=>e = .returned (.tuple #[])∧Kp cg bg w w'∧Dy ns.length cg bg (KU G ns ks ls ch s) w':=by
 obtain ⟨iI,a1,hIz,hIs,hIb⟩:=info_parts Tryz.infoInt
 have HG:=X1 hG
 have HF:=X1 hF
 have HD:=X1 hD
 have HC:=X1 hC
 have HI:=X1 hI
 have HLS:=X1 hls
 have HKS:=X1 hks
 have HKL:=X1 hkl
 have HST:=X1 (Fi.start (p:=p) hD)
 clear hG hF hD hC hI hls hks hkl
 go_enter Tryz.func78,Tryz.ntmps78
 go_wp2_with fail
 refine (KQ p w).mono ?_
 rintro e w1 ⟨rfl,hw1⟩
 have a4:Hid (Fi ns cg bg w p [] s w1):=X1 (by rw [hw1];exact HST.o)
 clear hw1 HST
 go_wp2
 go_loopw [7,16] (fun v7 t wr=>∃ (i:Nat),i≤ls.length∧t = .int .i64 i∧Fi ns cg bg w p (YA ns (Xs ns ks (ls.take i)) ([],s)).1 (YA ns (Xs ns ks (ls.take i)) ([],s)).2 wr ∧
   wr.ownsRow (w.heap.size+2) 3 1 v7 ((ls.take i).filter (fun x=>X4 ns x != 23)).length (((ls.take i).filter (fun x=>X4 ns x != 23)).map vint)) (fun _ t _=>ls.length - (intOf t).toNat)
 case atStart=>exact ⟨0,Nat.zero_le _,rfl,a4.o,⟨rfl,.inl ⟨rfl,rfl⟩⟩⟩
 case round =>
  obtain ⟨i,hi,rfl,n,ho⟩:=hrel
  have hsz:=n.sz
  have hl1:=n.l1
  have hl2:=n.l2
  have d:=X1 n
  have HO:=X1 ho
  have v:=X1 (HF.o.kept n.kp)
  by_cases hlt:i < ls.length
  ·have hx:=(n.kp.cell (p:=⟨g,o+i,none⟩) HI.o.1 hg1 hg2).trans (HI.o.2 i hlt)
   have C:=HLS.o _ (List.getElem_mem hlt)
   have N:ls[i] < ks.length:=by rw [v.o.len];exact C.2
   have f0:=v.o.f0
   have f1:=v.o.f1
   obtain ⟨a0,_⟩:=v.o.nodes.2 ls[i] C.2
   obtain ⟨v2,a3,hpl⟩:=HF.o.kids ls[i] (by rw [HF.o.len];exact C.2)
   have hkc:=(n.kp.cell (p:=⟨kg,ls[i],none⟩) HF.o.klt HF.o.kg1 HF.o.kg2).trans a3
   obtain ⟨a7,c7,hv7⟩:=lens_of ho
   subst hv7
   clear a3
   have HM:=X1 (Jl ns ks ls i hlt)
   have A:=X1 (show Ks ns ks ls[i]=if ns[ls[i]].kind=20∨ns[ls[i]].kind=21 then [ls[i]] else if ns[ls[i]].kind=23 then ks[ls[i]] else [] by
    unfold Ks;rw [XJ C.2,show X5 ks ls[i]=ks[ls[i]] from by simp [X5,N]])
   have F:=X1 (show (ls.take (i+1)).filter (fun x=>X4 ns x != 23)=(ls.take i).filter (fun x=>X4 ns x != 23)++(if ns[ls[i]].kind=23 then [] else [ls[i]]) by rw [Tr.flt_at ns ls i hlt,XJ C.2])
   have M:=HKS.o ls[i] N
   have hk5:(ks[ls[i]]).length≤5000:=by have:=HKL.o ls[i];rwa [show X5 ks ls[i]=ks[ls[i]] from by simp [X5,N]] at this
   have D:=Tr.ents_len ns (Xs ns ks (ls.take i)) ([],s)
   have hml:=Tr.makes_len ns ks HKL.o (ls.take i)
   have hfl:=flt_len ns (ls.take i)
   rw [List.length_take,Nat.min_eq_left hi] at hml hfl
   have hsl:(YA ns (Xs ns ks (ls.take i)) ([],s)).1.length≤25000000:=by simp only [List.length_nil] at D;omega
   have HE:=X1 (J0 ns (Xs ns ks (ls.take i)) (Ks ns ks ls[i]) ([],s))
   rw [← HM.o] at HE
   clear n ho D hml HM
   generalize hee:YA ns (Xs ns ks (ls.take i)) ([],s)=ee at *
   obtain ⟨sc,si⟩:=ee
   clear hee
   simp only at hsl
   generalize (ls.take i).filter (fun x=>X4 ns x != 23)=fl at *
   generalize ns[ls[i]].kind=kx at *
   generalize ks[ls[i]]=kp at *
   generalize hyy:ls[i]=y at *
   by_cases h23:kx=23
   ·subst h23
    have u:Hid (YA ns (Xs ns ks (ls.take (i+1))) ([],s)=YA ns kp (sc,si)):=X1 (by rw [HE.o,A.o,if_neg (by omega),if_pos rfl])
    have l:Hid ((ls.take (i+1)).filter (fun x=>X4 ns x != 23)=fl):=X1 (by rw [F.o,if_pos rfl,List.append_nil])
    clear HE F A
    rcases hpl with ⟨a2,c2,rfl,rfl⟩ | ⟨g2,o2,c2,rfl,hq1,hq2,hq3,hq4⟩
    ·go_wp2
     go_loopw [38] (fun t wq=>t = .int .i64 0∧wq=wr) (fun _ _=>0)
     case atStart=>exact ⟨rfl,rfl⟩
     case round =>
      obtain ⟨rfl,rfl⟩:=hrel
      go_wp2
      go_roundw
      case rel=>exact ⟨i+1,by omega,by go_num,by rw [u.o];exact d.o,by rw [l.o];exact HO.o⟩
      case measure=>simp [intOf];omega
    ·have HQ4:=X1 hq4
     have HKK:=X1 M
     clear hq4 M
     go_wp2
     go_loopw [38] (fun t wq=>∃ j:Nat,j≤kp.length∧t = .int .i64 j∧Fi ns cg bg w p (YA ns (kp.take j) (sc,si)).1 (YA ns (kp.take j) (sc,si)).2 wq∧wq.ownsRow (w.heap.size+2) 3 1 (.slice a7 fl.length c7) fl.length (fl.map vint)) (fun t _=>kp.length - (intOf t).toNat)
     case atStart=>exact ⟨0,Nat.zero_le _,rfl,d.o,HO.o⟩
     case round =>
      obtain ⟨j,hj,rfl,q,O⟩:=hrel
      have H:=X1 q
      have HOQ:=X1 O
      by_cases hlj:j < kp.length
      ·have hxj:=(q.kp.cell (p:=⟨g2,o2+j,none⟩) HQ4.o.1 hq1 hq2).trans (HQ4.o.2 j hlj)
       have HA:=X1 (Tr.ents_at ns kp j (sc,si) hlj)
       have hkj:=HKK.o _ (List.getElem_mem hlj)
       have D:=Tr.ents_len ns (kp.take j) (sc,si)
       rw [List.length_take,Nat.min_eq_left hj] at D
       simp only at D
       have E:=X1 (Qq ns ks wb tg tc kg kc cg bg kp[j] (w.heap.size+1) w.heap.size _ _ _ hn hkj (HF.o.kept q.kp) q.dy q.c0 q.sp (by omega) (by omega) (by omega))
       clear q O
       generalize kp[j]=z at *
       go_wp2_with fail
       refine E.o.mono ?_
       rintro e w3 ⟨rfl,B,I,J⟩
       go_wp2
       go_roundw
       case rel=>exact ⟨j+1,by omega,by go_num,by rw [HA.o];exact H.o.enter B I J,H.o.row B HOQ.o⟩
       case measure=>simp [intOf];omega
      ·have ej:kp.take j=kp:=List.take_of_length_le (by omega)
       rw [ej] at H
       clear q O
       go_wp2
       go_roundw
       case rel=>exact ⟨i+1,by omega,by go_num,by rw [u.o];exact H.o,by rw [l.o];exact HOQ.o⟩
       case measure=>simp [intOf];omega
   ·have q23:(kx == 23)=false:=by simpa using h23
    have l:Hid ((ls.take (i+1)).filter (fun x=>X4 ns x != 23)=fl++[y]):=X1 (by rw [F.o,if_neg h23])
    clear F hpl hkc M
    by_cases h20:kx=20∨kx=21
    ·have u:Hid (YA ns (Xs ns ks (ls.take (i+1))) ([],s)=Y0 ns y (sc,si)):=X1 (by rw [HE.o,A.o,if_pos h20];rfl)
     have E:=X1 (Qq ns ks wb tg tc kg kc cg bg y (w.heap.size+1) w.heap.size sc si wr hn C.2 v.o d.o.dy d.o.c0 d.o.sp (by omega) (by omega) (by omega))
     clear HE A
     rcases h20 with rfl | rfl
     all_goals
      go_wp2_with fail
      refine E.o.mono ?_
      rintro e w3 ⟨rfl,B,I,J⟩
      have HF3:=X1 (d.o.enter B I J)
      have HO3:=X1 (d.o.row B HO.o)
      have hz3:=HF3.o.sz
      clear B I J E
      go_wp2_with (at_builtin;refine wpList_append_own_at _ rfl _ _ 31 rfl (w.heap.size+2) 3 iI (.int .i64 0) 1 8 Tryz.underlying31 a1 hIz hIs hIb rfl (by decide) (.slice a7 fl.length c7) fl.length (fl.map vint) rfl (HO3.o.alloc _) ⟨w3.heap.size,0,none⟩ 1 1 [.int .i64 y] rfl rfl (ZV _ _ _) (by simp [Value.oneCell']) (by unfold maxLen;omega) (by omega) (by simp;omega) ?_)
      intro v4 w4 b a m r
      have K:=X1 ((HF3.o.alloc _).grown a (own_of HO3.o))
      have L:Hid (w4.ownsRow (w.heap.size+2) 3 1 v4 (fl++[y]).length ((fl++[y]).map vint)):=X1 (by rw [List.map_append,List.length_append];exact b)
      clear a m r b
      go_wp2
      go_roundw
      case rel=>exact ⟨i+1,by omega,by go_num,by rw [u.o];exact K.o,by rw [l.o];exact L.o⟩
      case measure=>simp [intOf];omega
    ·have q20:(kx == 20)=false:=by simp;omega
     have q21:(kx == 21)=false:=by simp;omega
     have u:Hid (YA ns (Xs ns ks (ls.take (i+1))) ([],s)=(sc,si)):=X1 (by rw [HE.o,A.o,if_neg h20,if_neg h23];rfl)
     clear HE A
     go_wp2_with (at_builtin;refine wpList_append_own_at _ rfl _ _ 31 rfl (w.heap.size+2) 3 iI (.int .i64 0) 1 8 Tryz.underlying31 a1 hIz hIs hIb rfl (by decide) (.slice a7 fl.length c7) fl.length (fl.map vint) rfl (HO.o.alloc _) ⟨wr.heap.size,0,none⟩ 1 1 [.int .i64 y] rfl rfl (ZV _ _ _) (by simp [Value.oneCell']) (by unfold maxLen;omega) (by omega) (by simp;omega) ?_)
     intro v4 w4 b a m r
     have K:=X1 ((d.o.alloc _).grown a (own_of HO.o))
     have L:Hid (w4.ownsRow (w.heap.size+2) 3 1 v4 (fl++[y]).length ((fl++[y]).map vint)):=X1 (by rw [List.map_append,List.length_append];exact b)
     clear a m r b
     go_wp2
     go_roundw
     case rel=>exact ⟨i+1,by omega,by go_num,by rw [u.o];exact K.o,by rw [l.o];exact L.o⟩
     case measure=>simp [intOf];omega
  ·have e:ls.take i=ls:=List.take_of_length_le (by omega)
   rw [e] at d HO
   have HCH:=X1 (HC.o.inner d.o.kp d.o.c0 d.o.c1 d.o.sp d.o.sz hl1 hl2)
   have HAL:=X1 (JL ns ks wb tg tc kg kc cg bg f G HG.o (ls.filter fun x=>X4 ns x != 23) _ _ _ _ wr (fun x hx=>HLS.o x (List.mem_filter.1 hx).1) (by have:=flt_len ns ls;omega) v.o d.o.dy HCH.o (plv_of HO.o (by omega) (by omega)))
   have HKR:=X1 n.kp
   clear n ho
   go_wp2_with fail
   refine HAL.o.mono ?_
   rintro e w2 ⟨rfl,hk2,hd2⟩
   go_wp2
   (first | go_end0 | refine bodyPost_ret (results_none rfl _ _ _) rfl ?_)
   exact ⟨rfl,HKR.o.trans hk2,hd2⟩
set_option maxRecDepth 100000 in
set_option maxHeartbeats 400000 in
theorem ifile_nil (q:Value) (a:Option Addr) (c:Nat) (p:Option Addr) (w:World) :
  Calls Tryz.prog 78 #[q,.slice a 0 c,.pointer p] w fun e w'=>e = .returned (.tuple #[])∧Below w.heap.size w w':=by
 go_enter Tryz.func78,Tryz.ntmps78
 go_wp2_with fail
 refine (KQ p w).mono ?_
 rintro e w1 ⟨rfl,hw1⟩
 have HB:Hid (Below w.heap.size w w1):=X1 (by rw [hw1];exact (sc_new w p).2.2.2.1)
 clear hw1
 go_wp2
 go_loopw [7,16] (fun v7 t wr=>v7 = .slice none 0 0∧t = .int .i64 0∧wr=w1) (fun _ _ _=>0)
 case atStart=>exact ⟨rfl,rfl,rfl⟩
 case round =>
  obtain ⟨rfl,rfl,rfl⟩:=hrel
  go_wp2_with fail
  refine (all_nil q (.pointer (some ⟨w.heap.size+1,0,none⟩)) none 0 _).mono ?_
  rintro e w2 ⟨rfl,rfl⟩
  go_wp2
  (first | go_end0 | refine bodyPost_ret (results_none rfl _ _ _) rfl ?_)
  exact ⟨rfl,HB.o⟩
theorem ifile_any (ns:List Tr.Nd) (ks:List (List Nat)) (wb tg tc kg kc cg bg f:Nat) (G:Nat→List Tr.Sp→Tr.St→Tr.St) (hG:WkOk ns ks wb tg tc kg kc cg bg f G) (hn:ns.length≤5000) (ls:List Nat) (v:Value) (ch:List Tr.Sp) (p:Option Addr) (s:Tr.St) (w:World)
  (hls:∀ x∈ls,x < f∧x < ns.length) (hl:ls.length≤5000) (hks:∀ k (h:k < ks.length),∀ x∈ks[k],x < ns.length) (hkl:∀ k,(X5 ks k).length≤5000)
  (hF:Ix ns ks wb tg tc kg kc cg bg w) (hD:Dy ns.length cg bg s w) (hC:Chain cg bg w w.heap.size p ch) (hI:PlV cg bg w v ls) :
  Calls Tryz.prog 78 #[.pointer (some ⟨wb,0,none⟩),v,.pointer p] w fun e w'=>e = .returned (.tuple #[])∧Kp cg bg w w'∧Dy ns.length cg bg (KU G ns ks ls ch s) w':=by
 rcases hI with ⟨a,c,rfl,rfl⟩ | ⟨g,o,c,rfl,h1,h2,_,h3⟩
 ·refine (ifile_nil _ _ _ _ _).mono ?_
  rintro e w' ⟨rfl,hb⟩
  exact ⟨rfl,Kp.of_below hb,hD.below hb⟩
 ·exact ifile_some ns ks wb tg tc kg kc cg bg f G hG hn ls g o c ch p s w hls hl hks hkl hF hD hC h1 h2 h3
theorem PlV.tail {cg bg:Nat} {w:World} {g o c x:Nat} {r:List Nat} (h1:g≠cg) (h2:g≠bg) (hc:(x :: r).length≤c) (hI:IntsAt w g o (x :: r)):PlV cg bg w (.slice (if c=1 then some ⟨g,o,none⟩ else some ⟨g,o+1,none⟩) r.length (c - 1)) r:=by
 by_cases h:c=1
 ·have:r=[]:=by
   cases r with
   | nil=>rfl
   | cons _ _=>simp at hc;omega
  subst this
  exact .inl ⟨_,_,rfl,rfl⟩
 ·rw [if_neg h]
  exact .inr ⟨g,o+1,c - 1,rfl,h1,h2,by simp at hc;omega,hI.drop 1⟩
set_option maxRecDepth 100000 in
set_option maxHeartbeats 1000000 in
theorem walk_let (ns:List Tr.Nd) (ks:List (List Nat)) (wb tg tc kg kc cg bg f:Nat) (G:Nat→List Tr.Sp→Tr.St→Tr.St) (hG:WkOk ns ks wb tg tc kg kc cg bg f G) (hn:ns.length≤5000) (k:Nat) (kd:Int) (x:Nat) (r:List Nat) (g o c:Nat) (ch:List Tr.Sp) (p:Option Addr) (s:Tr.St) (w:World)
  (hkn:k < ns.length) (h14:kd=14∨kd=16) (hrow:w.cell? ⟨kg,k,none⟩=some (.slice (some ⟨g,o,none⟩) (r.length+1) c)) (n0:w.cell? ⟨tg,k*5,none⟩=some (.int .i64 kd)) (hF:Ix ns ks wb tg tc kg kc cg bg w) (hD:Dy ns.length cg bg s w) (hC:Chain cg bg w w.heap.size p ch)
  (hgc':r.length+1≤c) (hrl:r.length+1≤5000) (hx0:w.cell? ⟨g,o,none⟩=some (.int .i64 x)) (hls:∀ y∈x :: r,y < f∧y < ns.length) (hT:PlV cg bg w (.slice (if c=1 then some ⟨g,o,none⟩ else some ⟨g,o+1,none⟩) r.length (c - 1)) r) :
  Calls Tryz.prog 51 #[.pointer (some ⟨wb,0,none⟩),.int .i64 k,.pointer p] w fun e w'=>e = .returned (.tuple #[])∧Kp cg bg w w'∧Dy ns.length cg bg (Zb G r ([(Xb ns k,(k:Int))] :: ch) (G x ch s)) w':=by
 have f0:=hF.f0
 have f1:=hF.f1
 have HG:=X1 hG
 have HF:=X1 hF
 have HD:=X1 hD
 have HC:=X1 hC
 have HLS:=X1 hls
 have HT:=X1 hT
 have A:=hls x (by simp)
 have a0:Hid (∀ s1,Y0 ns k ([],s1)=([(Xb ns k,(k:Int))],s1)):=X1 (fun _=>rfl)
 clear hG hF hD hC hls hT
 have HTA:Hid (c=1→PlV cg bg w (.slice (some ⟨g,o,none⟩) r.length 0) r):=X1 (fun e=>by subst e;simpa using HT.o)
 have HTB:Hid (¬ c=1→PlV cg bg w (.slice (some ⟨g,o+1,none⟩) r.length (c - 1)) r):=X1 (fun e=>by have:=HT.o;rwa [if_neg e] at this)
 obtain ⟨vt,u,hvt⟩:∃ vt,Hid (PlV cg bg w vt r)∧(c=1∧vt = .slice (some ⟨g,o,none⟩) r.length 0∨¬ c=1∧vt = .slice (some ⟨g,o+1,none⟩) r.length (c - 1)):=by
  by_cases hc1:c=1
  ·exact ⟨_,X1 (HTA.o hc1),.inl ⟨hc1,rfl⟩⟩
  ·exact ⟨_,X1 (HTB.o hc1),.inr ⟨hc1,rfl⟩⟩
 clear HT HTA HTB
 rcases hvt with ⟨rfl,rfl⟩ | ⟨hc1,rfl⟩
 ·have hr0:r=[]:=by
   cases r with
   | nil=>rfl
   | cons _ _=>simp at hgc'
  subst hr0
  simp only [List.length_nil,Nat.zero_add] at hrow u
  clear hgc' hrl
  rcases h14 with rfl | rfl
  all_goals
   go_enter Tryz.func51,Tryz.ntmps51
   go_wp2_with fail
   refine (HG.o x p ch s w A.1 A.2 HF.o HD.o HC.o).mono ?_
   rintro e w2 ⟨rfl,i,j⟩
   have HD2:=X1 j
   have q:=X1 (HF.o.kept i)
   have t:=X1 (Fi.start (p:=p) j)
   clear j
   go_wp2_with fail
   refine (KQ p w2).mono ?_
   rintro e w3 ⟨rfl,z⟩
   have d:Hid (Fi ns cg bg w2 p [] (G x ch s) w3):=X1 (by rw [z];exact t.o)
   have F:=d.o.l1
   have H:=d.o.l2
   clear z t
   go_wp2_with fail
   refine (Qq ns ks wb tg tc kg kc cg bg k (w2.heap.size+1) w2.heap.size [] _ w3 hn hkn (q.o.kept d.o.kp) d.o.dy d.o.c0 d.o.sp (by omega) (by omega) (by simp)).mono ?_
   rintro e w4 ⟨rfl,v,l,m⟩
   rw [a0.o] at l m
   have a:=X1 (d.o.enter v l m)
   have n:=X1 (Chain.inner (Chain.kept i.size (fun b hb h1 h2=>i.block b hb h1 h2) HC.o) a.o.kp a.o.c0 a.o.c1 a.o.sp a.o.sz F H)
   have B:=X1 (JL ns ks wb tg tc kg kc cg bg f G HG.o [] _ _ _ _ w4 (fun y hy=>by cases hy) (by simp) (q.o.kept a.o.kp) a.o.dy n.o ((u.o.kept i).kept a.o.kp))
   have C:=X1 (i.trans a.o.kp)
   clear v l m d n u
   go_wp2_with fail
   refine B.o.mono ?_
   rintro e w5 ⟨rfl,E,D⟩
   go_wp2
   (first | go_end0 | refine bodyPost_ret (results_none rfl _ _ _) rfl ?_)
   exact ⟨rfl,C.o.trans E,D⟩
 rcases h14 with rfl | rfl
 all_goals
  go_enter Tryz.func51,Tryz.ntmps51
  go_wp2_with fail
  refine (HG.o x p ch s w A.1 A.2 HF.o HD.o HC.o).mono ?_
  rintro e w2 ⟨rfl,i,j⟩
  have HD2:=X1 j
  have q:=X1 (HF.o.kept i)
  have t:=X1 (Fi.start (p:=p) j)
  clear j
  go_wp2_with fail
  refine (KQ p w2).mono ?_
  rintro e w3 ⟨rfl,z⟩
  have d:Hid (Fi ns cg bg w2 p [] (G x ch s) w3):=X1 (by rw [z];exact t.o)
  have F:=d.o.l1
  have H:=d.o.l2
  clear z t
  go_wp2_with fail
  refine (Qq ns ks wb tg tc kg kc cg bg k (w2.heap.size+1) w2.heap.size [] _ w3 hn hkn (q.o.kept d.o.kp) d.o.dy d.o.c0 d.o.sp (by omega) (by omega) (by simp)).mono ?_
  rintro e w4 ⟨rfl,v,l,m⟩
  rw [a0.o] at l m
  have a:=X1 (d.o.enter v l m)
  have n:=X1 (Chain.inner (Chain.kept i.size (fun b hb h1 h2=>i.block b hb h1 h2) HC.o) a.o.kp a.o.c0 a.o.c1 a.o.sp a.o.sz F H)
  have B:=X1 (JL ns ks wb tg tc kg kc cg bg f G HG.o r _ _ _ _ w4 (fun y hy=>HLS.o y (by simp [hy])) (by omega) (q.o.kept a.o.kp) a.o.dy n.o ((u.o.kept i).kept a.o.kp))
  have C:=X1 (i.trans a.o.kp)
  clear v l m d n u
  go_wp2_with fail
  refine B.o.mono ?_
  rintro e w5 ⟨rfl,E,D⟩
  go_wp2
  (first | go_end0 | refine bodyPost_ret (results_none rfl _ _ _) rfl ?_)
  exact ⟨rfl,C.o.trans E,D⟩
set_option maxRecDepth 100000 in
set_option maxHeartbeats 2000000 in
theorem walk_step (ns:List Tr.Nd) (ks:List (List Nat)) (wb tg tc kg kc cg bg f:Nat) (hG:WkOk ns ks wb tg tc kg kc cg bg f (XW ns ks f)) (hn:ns.length≤5000) (hkid:∀ k (h:k < ks.length),∀ x∈ks[k],x < k)
  (hlen:∀ k (h:k < ks.length),(ks[k]).length≤5000∧(X4 ns k=14→(ks[k]).length=2)∧(X4 ns k=16→1≤(ks[k]).length)∧(X4 ns k=15∨X4 ns k=20→1≤(ks[k]).length)):WkOk ns ks wb tg tc kg kc cg bg (f+1) (XW ns ks (f+1)):=by
 intro k p ch s w hkf t hF hD hC
 have z:k < ks.length:=by rw [hF.len];exact t
 obtain ⟨n0,_⟩:=hF.nodes.2 k t
 obtain ⟨v2,a1,hpl⟩:=hF.kids k z
 have f0:=hF.f0
 have f1:=hF.f1
 have hcl:=(hD.c.lt cg rfl).2
 have hbl:=(hD.b.lt bg rfl).2
 have HG:=X1 hG
 have HF:=X1 hF
 have HD:=X1 hD
 have HC:=X1 hC
 have n:=X1 hpl
 have a:=hlen k z
 rw [XJ t] at a
 have m:∀ k (h:k < ks.length),(ks[k]).length≤5000:=fun k h=>(hlen k h).1
 have a0:∀ k,(X5 ks k).length≤5000:=by
  intro k
  unfold X5
  by_cases h:k < ks.length
  ·rw [List.getElem?_eq_getElem h];exact m k h
  ·rw [List.getElem?_eq_none (by omega)];simp
 have hks:∀ k (h:k < ks.length),∀ x∈ks[k],x < ns.length:=fun k h x hx=>by have:=hkid k h x hx;have:=hF.len;omega
 have HKD:=X1 hkid
 have HK2:=X1 m
 have HK3:=X1 a0
 have HKS:=X1 hks
 have hlt:=hkid k z
 have d:=X1 (show XW ns ks (f+1) k ch s=(if ns[k].kind=5 then QA ns k ch s
  else if ns[k].kind=14∨ns[k].kind=16 then JU (XW ns ks f) ns k ch s ks[k]
  else if ns[k].kind=15∨ns[k].kind=20 then Kt (XW ns ks f) ns ks ks[k] [] ch false s
  else if ns[k].kind=24 then KU (XW ns ks f) ns ks ks[k] ch s
  else Zb (XW ns ks f) ks[k] ch s) by
   rw [XW,XJ t,show X5 ks k=ks[k] from by simp [X5,z]])
 have v:Hid (∀ x∈ks[k],x < f∧x < ns.length):=X1 (fun x hx=>by have:=hlt x hx;omega)
 clear hG hF hD hC hpl hlen hkid m a0 hks hlt
 generalize ks[k]=ls at *
 generalize ns[k].kind=kd at *
 by_cases h5:kd=5
 ·subst h5
  have i:Hid (XW ns ks (f+1) k ch s=QA ns k ch s):=X1 (by rw [d.o,if_pos rfl])
  clear d
  go_enter Tryz.func51,Tryz.ntmps51
  go_wp2_with fail
  refine (iuse_any ns ks wb tg tc kg kc cg bg k w.heap.size ch p s w t HF.o HD.o HC.o).mono ?_
  rintro e w2 ⟨rfl,l,j⟩
  go_wp2
  (first | go_end0 | refine bodyPost_ret (results_none rfl _ _ _) rfl ?_)
  exact ⟨rfl,l,by rw [i.o];exact j⟩
 ·have q5:(kd == 5)=false:=by simpa using h5
  by_cases h14:kd=14∨kd=16
  ·have i:Hid (XW ns ks (f+1) k ch s=JU (XW ns ks f) ns k ch s ls):=X1 (by rw [d.o,if_neg h5,if_pos h14])
   clear d
   cases ls with
   | nil=>exfalso;simp at a;omega
   | cons x r =>
    obtain ⟨g,o,c,hv,A,B,y,q⟩:∃ g o c,v2 = .slice (some ⟨g,o,none⟩) (x :: r).length c∧g≠cg∧g≠bg∧(x :: r).length≤c∧IntsAt w g o (x :: r):=by
     rcases n.o with ⟨_,_,_,h⟩ | h
     ·cases h
     ·exact h
    subst hv
    have hx0:=q.2 0 (by simp)
    simp only [Nat.add_zero,List.getElem_cons_zero] at hx0
    have hxl:=v.o x (by simp)
    have a2:r.length+1≤c:=by simpa using y
    have hrl:r.length+1≤5000:=by have:=a.1;simpa using this
    have HT:=X1 (PlV.tail (w:=w) A B y q)
    have HSX:=X1 (show (x :: r).length=r.length+1 by simp)
    have HIL:=X1 (show JU (XW ns ks f) ns k ch s (x :: r)=Zb (XW ns ks f) r ([(Xb ns k,(k:Int))] :: ch) (XW ns ks f x ch s) from rfl)
    rw [HSX.o] at a1
    clear a y q n
    have HWL:=X1 (walk_let ns ks wb tg tc kg kc cg bg f (XW ns ks f) HG.o hn k kd x r g o c ch p s w t h14 a1 n0 HF.o HD.o HC.o a2 hrl hx0 v.o HT.o)
    refine HWL.o.mono ?_
    rintro e w2 ⟨rfl,l,j⟩
    exact ⟨rfl,l,by rw [i.o,HIL.o];exact j⟩
  ·have q14:(kd == 14)=false:=by simp;omega
   have q16:(kd == 16)=false:=by simp;omega
   by_cases h15:kd=15∨kd=20
   ·have i:Hid (XW ns ks (f+1) k ch s=Kt (XW ns ks f) ns ks ls [] ch false s):=X1 (by rw [d.o,if_neg h5,if_neg h14,if_pos h15])
    clear d
    have hl1:1≤ls.length:=a.2.2.2 h15
    have hl5:=a.1
    obtain ⟨g,o,c,hv,A,B,y,q⟩:∃ g o c,v2 = .slice (some ⟨g,o,none⟩) ls.length c∧g≠cg∧g≠bg∧ls.length≤c∧IntsAt w g o ls:=by
     rcases n.o with ⟨_,_,_,h⟩ | h
     ·subst h;simp at hl1
     ·exact h
    subst hv
    have u:=X1 (ifn_any ns ks wb tg tc kg kc cg bg f _ HG.o hn ls g o c ch p s w v.o hl5 hl1 HKD.o HK2.o HF.o HD.o HC.o A B y q)
    clear a q n
    rcases h15 with rfl | rfl
    all_goals
     go_enter Tryz.func51,Tryz.ntmps51
     go_wp2_with fail
     refine u.o.mono ?_
     rintro e w2 ⟨rfl,l,j⟩
     go_wp2
     (first | go_end0 | refine bodyPost_ret (results_none rfl _ _ _) rfl ?_)
     exact ⟨rfl,l,by rw [i.o];exact j⟩
   ·have q15:(kd == 15)=false:=by simp;omega
    have q20:(kd == 20)=false:=by simp;omega
    by_cases h24:kd=24
    ·have i:Hid (XW ns ks (f+1) k ch s=KU (XW ns ks f) ns ks ls ch s):=X1 (by rw [d.o,if_neg h5,if_neg h14,if_neg h15,if_pos h24])
     subst h24
     have u:=X1 (ifile_any ns ks wb tg tc kg kc cg bg f _ HG.o hn ls v2 ch p s w v.o a.1 HKS.o HK3.o HF.o HD.o HC.o n.o)
     clear d a
     go_enter Tryz.func51,Tryz.ntmps51
     go_wp2_with fail
     refine u.o.mono ?_
     rintro e w2 ⟨rfl,l,j⟩
     go_wp2
     (first | go_end0 | refine bodyPost_ret (results_none rfl _ _ _) rfl ?_)
     exact ⟨rfl,l,by rw [i.o];exact j⟩
    ·have q24:(kd == 24)=false:=by simpa using h24
     have i:Hid (XW ns ks (f+1) k ch s=Zb (XW ns ks f) ls ch s):=X1 (by rw [d.o,if_neg h5,if_neg h14,if_neg h15,if_neg h24])
     have hl5:=a.1
     have u:=X1 (JL ns ks wb tg tc kg kc cg bg f _ HG.o ls v2 ch p s w v.o (by omega) HF.o HD.o HC.o n.o)
     clear d a
     go_enter Tryz.func51,Tryz.ntmps51
     go_wp2_with fail
     refine u.o.mono ?_
     rintro e w2 ⟨rfl,l,j⟩
     go_wp2
     (first | go_end0 | refine bodyPost_ret (results_none rfl _ _ _) rfl ?_)
     exact ⟨rfl,l,by rw [i.o];exact j⟩
theorem walk_any (ns:List Tr.Nd) (ks:List (List Nat)) (wb tg tc kg kc cg bg:Nat) (hn:ns.length≤5000) (hkid:∀ k (h:k < ks.length),∀ x∈ks[k],x < k)
  (hlen:∀ k (h:k < ks.length),(ks[k]).length≤5000∧(X4 ns k=14→(ks[k]).length=2)∧(X4 ns k=16→1≤(ks[k]).length)∧(X4 ns k=15∨X4 ns k=20→1≤(ks[k]).length)) (f:Nat):WkOk ns ks wb tg tc kg kc cg bg f (XW ns ks f):=by
 induction f with
 | zero=>intro k p ch s w hkf;omega
 | succ f ih=>exact walk_step ns ks wb tg tc kg kc cg bg f ih hn hkid hlen
end Go.Proofs.YtimbaebigjjkaaaGreatDoor
