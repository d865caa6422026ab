/- Ra, Ki, Me. -/
import Derived.Test.YtimbaebigjjkaaaGreatDoorP44
import Derived.Test.YtimbaebigjjkaaaGreatDoorP46
import Derived.Deep.CutRange
import Derived.Test.YtimbaebigjjkaaaGreatDoorP43
import Derived.Test.YtimbaebigjjkaaaGreatDoorP39
import Derived.Maps.OwnSet
namespace Go.Proofs.YtimbaebigjjkaaaGreatDoor
open Go.RowKit
def RowN (w:World) (B:Nat) (v:Value) (l:List Tr.Nd):Prop:=(v = .slice none 0 0∧l=[])∨∃ g c,v = .slice (some ⟨g,0,none⟩) l.length c∧B≤g∧w.ownsRow 0 35 5 v l.length (X2 l)
theorem two_box (w:World) (t:Value):((w.alloc (.cells #[t] 25)).alloc (.cells #[.slice none 0 0] 25)).cell? ⟨w.heap.size,0,none⟩=some t∧((w.alloc (.cells #[t] 25)).alloc (.cells #[.slice none 0 0] 25)).cell? ⟨w.heap.size+1,0,none⟩=some (.slice none 0 0)∧((w.alloc (.cells #[t] 25)).alloc (.cells #[.slice none 0 0] 25)).frozen? ⟨w.heap.size+1,0,none⟩=false:=by
 have h:=cell_new (w.alloc (.cells #[t] 25)) (.slice none 0 0) 25
 rw [World.size_alloc] at h
 have hb:=(Below.refl (w.heap.size+1) (w.alloc (.cells #[t] 25))).alloc (by simp) (.cells #[.slice none 0 0] 25)
 exact ⟨(hb.cell (p:=⟨w.heap.size,0,none⟩) (Nat.lt_succ_self _)).trans (by simp),h.1,h.2⟩
theorem row_sameV' {w w':World} {base size:Nat} {e:TypeId} {v:Value} {n:Nat} {xs:List Value} (h:w.ownsRow base e size v n xs) (hb:∀ g,base≤g→g < w.heap.size→w'.heap[g]?=w.heap[g]?):w'.ownsRow base e size v n xs:=by
 refine ⟨h.1,?_⟩
 rcases h.2 with h1 | ⟨g',cap',cur,hv,h2,h3,h4⟩
 ·exact .inl h1
 ·exact .inr ⟨g',cap',cur,hv,h2,(hb g' h2 (Array.getElem?_eq_some_iff.1 h3).1).trans h3,h4⟩
structure RnI (ns:List Tr.Nd) (tg tc a:Nat) (b:List Int) (nm:ByteArray) (gs:Nat) (w:World) (q i:Nat) (v9:Value) (wr:World):Prop where
 B:Below w.heap.size w wr
 z9:q < wr.heap.size
 c9:wr.cell? ⟨q,0,none⟩=some v9
 f9:wr.frozen? ⟨q,0,none⟩=false
 x0:wr.cell? ⟨w.heap.size,0,none⟩=some (.slice (some ⟨tg,0,none⟩) ns.length tc)
 x1:wr.cell? ⟨w.heap.size+1,0,none⟩=some (.slice none 0 0)
 x2:wr.frozen? ⟨w.heap.size+1,0,none⟩=false
 bs:∀ j (h:j < b.length),wr.cell? ⟨gs,j,none⟩=some (.int .i64 b[j])
 row:wr.ownsRow (q+1) 35 5 v9 i (X2 (Xp a b nm (ns.take i) 0))
 no:∀ d∈ns.take i,d.text≠nm
def Tr.Ln (G:Nat→List Tr.Kn→Tr.St→Tr.St):Prop:=∀ k kn s,(G k kn s).binds.length=s.binds.length
theorem Tr.Ln.fold {G:Nat→List Tr.Kn→Tr.St→Tr.St} (h:Tr.Ln G) (kn:List Tr.Kn) (ls:List Nat) (s:Tr.St):(ls.foldl (fun s y=>G y kn s) s).binds.length=s.binds.length:=by
 induction ls generalizing s with
 | nil=>rfl
 | cons x r ih=>rw [List.foldl_cons,ih,h]
theorem Tr.Ln.dup (ns:List Tr.Nd) (p:Nat) (seen:List Nat) (s:Tr.St):(Ye ns p seen s).binds.length=s.binds.length:=by
 rw [Tr.dupS_if];split
 ·rw [Y1]
 ·rfl
theorem Tr.Ln.par {G:Nat→List Tr.Kn→Tr.St→Tr.St} (h:Tr.Ln G) (ns:List Tr.Nd) (ks:List (List Nat)) (p:Nat) (seen:List Nat) (kn:List Tr.Kn) (df:Bool) (s:Tr.St):(YG G ns ks p seen kn df s).binds.length=s.binds.length:=by
 unfold YG
 cases X5 ks p with
 | nil =>
  simp only
  split
  ·rw [Y1,Tr.Ln.dup]
  ·exact Tr.Ln.dup _ _ _ _
 | cons c r=>simp only;rw [h,Tr.Ln.dup]
theorem Tr.Ln.fn {G:Nat→List Tr.Kn→Tr.St→Tr.St} (h:Tr.Ln G) (ns:List Tr.Nd) (ks:List (List Nat)):∀ (ls seen:List Nat) (kn:List Tr.Kn) (df:Bool) (s:Tr.St),(Yh G ns ks ls seen kn df s).binds.length=s.binds.length
 | [],_,_,_,_=>rfl
 | [x],_,_,_,_=>h x _ _
 | p :: q :: r,seen,kn,df,s=>by rw [Yh,Tr.Ln.fn h ns ks (q :: r),h.par]
theorem Tr.Ln.go (ns:List Tr.Nd) (ks:List (List Nat)) (f:Nat):Tr.Ln (Xx ns ks f):=by
 induction f with
 | zero=>intro _ _ _;rfl
 | succ f ih =>
  intro k kn s
  rw [Xx]
  split
  ·unfold YJ
   cases XH (Xb ns k) kn with
   | some a=>simp
   | none=>simp only;split <;> simp [Y1]
  ·split
   ·rfl
   ·split
    ·exact ih.fn ns ks _ _ _ _ _
    ·split
     ·unfold Zl
      cases X5 ks k with
      | nil=>rfl
      | cons x r=>simp only;rw [ih.fold,ih]
     ·exact ih.fold _ _ _
theorem Tr.Ln.mk (ns:List Tr.Nd):∀ (ms:List Nat) (kn:List Tr.Kn) (s:Tr.St),(YD ns ms kn s).2.binds.length=s.binds.length
 | [],_,_=>rfl
 | x :: r,kn,s=>by
  rw [YD,Tr.Ln.mk ns r,Tr.dupK_if]
  split
  ·rw [Y1]
  ·rfl
theorem J2 {ns:List Tr.Nd} (hf:Xz ns=true):(Xe ns).length=ns.length:=by
 unfold Xe
 rw [if_pos hf]
 unfold YT
 rw [Tr.Ln.go,Tr.Ln.mk]
 simp [YV]
theorem cells_lit (W:World) (cs:List Value) (t:TypeId):∀ (j:Nat) (u:Value),cs[j]?=some u→(W.alloc (.cells cs.toArray t)).cell? ((⟨W.heap.size,0,none⟩:Addr).add j)=some u:=by
 intro j u hu
 rw [ZS,Nat.zero_add,World.cell?,Xi]
 simpa using hu
theorem Jf (d:Tr.Nd):∀ u∈d.cells,u.oneCell'=true:=by
 intro u hu
 simp only [Tr.Nd.cells,List.mem_cons,List.not_mem_nil,or_false] at hu
 rcases hu with rfl | rfl | rfl | rfl | rfl <;> rfl
theorem JF {w:World} {b size:Nat} {e:TypeId} {v:Value} {n:Nat} {xs:List Value} (h:w.ownsRow b e size v n xs) (hs:0 < n * size):∃ g c,v = .slice (some ⟨g,0,none⟩) n c:=by
 rcases h.2 with ⟨_,h2⟩ | ⟨g,c,_,h2,_⟩
 ·rw [h2] at hs;simp at hs
 ·exact ⟨g,c,h2⟩
theorem RnI.next {ns:List Tr.Nd} {tg tc a:Nat} {b:List Int} {nm:ByteArray} {gs:Nat} {w:World} {q i:Nat} {v9 v10:Value} {wr w5:World} {o1 o2:Obj} {d:Tr.Nd} (h:RnI ns tg tc a b nm gs w q i v9 wr) (hlt:i < ns.length) (hd:d=ns[i]) (hne:ns[i].text≠nm) (hgs:gs < q) (hq:w.heap.size+1 < q)
  (hown:w5.ownsRow (q+1) 35 5 v10 (i+1) (X2 (Xp a b nm (ns.take i) 0)++(Y2 a b nm i d).cells)) (hg:((wr.alloc o1).alloc o2).grownBy w5 v9.ownBlock) :
  RnI ns tg tc a b nm gs w q (i+1) v10 (w5.setCell ⟨q,0,none⟩ v10):=by
 have hb:∀ x,x < q+1→w5.heap[x]?=wr.heap[x]?:=by
  intro x hx
  have hz:=h.z9
  have h2:((wr.alloc o1).alloc o2).heap[x]?=wr.heap[x]?:=(((Below.refl wr.heap.size wr).alloc (Nat.le_refl _) o1).alloc (by simp) o2).block x (by omega)
  refine (hg.block x (by simp;omega) (fun e=>?_)).trans h2
  have:=(h.row.lt x e.symm).1
  omega
 have hc:∀ x y,x < q→(w5.setCell ⟨q,0,none⟩ v10).cell? ⟨x,y,none⟩=wr.cell? ⟨x,y,none⟩:=fun x y hx=>(World.cell?_of_block (a:=⟨x,y,none⟩) ((Below.heap_setCell _ _ _ _ (show x≠q by omega)).trans (hb x (by omega))))
 have hf:∀ x y,x < q→(w5.setCell ⟨q,0,none⟩ v10).frozen? ⟨x,y,none⟩=wr.frozen? ⟨x,y,none⟩:=fun x y hx=>(World.frozen?_of_block (a:=⟨x,y,none⟩) ((Below.heap_setCell _ _ _ _ (show x≠q by omega)).trans (hb x (by omega))))
 have hz9:=h.z9
 have hs5:wr.heap.size≤w5.heap.size:=by have:=hg.size;simp at this;omega
 have hB5:Below w.heap.size w w5:=((h.B.alloc h.B.size o1).alloc (by have:=h.B.size;simp;omega) o2).grown hg (by have:=h.B.size;simp;omega) (fun x e=>by have:=(h.row.lt x e).1;omega)
 have hc9:=(World.cell?_of_block (a:=⟨q,0,none⟩) (hb q (by omega))).trans h.c9
 have hf9:=(World.frozen?_of_block (a:=⟨q,0,none⟩) (hb q (by omega))).trans h.f9
 have htk:Xp a b nm (ns.take (i+1)) 0=Xp a b nm (ns.take i) 0++[Y2 a b nm i d]:=by
  rw [List.take_succ_eq_append_getElem hlt,Tr.renGo_snoc,List.length_take,Nat.min_eq_left (by omega),Nat.zero_add,hd]
 refine ⟨hB5.setCell (p:=⟨q,0,none⟩) (by simp;omega) _,by rw [Qn];omega,?_,?_,(hc _ _ (by omega)).trans h.x0,(hc _ _ (by omega)).trans h.x1,(hf _ _ (by omega)).trans h.x2,fun j hj=>(hc _ _ hgs).trans (h.bs j hj),?_,?_⟩
 ·exact World.cell?_setCell_same _ _ _ hc9
 ·rw [World.frozen?_setCell];exact hf9
 ·rw [htk,show X2 (Xp a b nm (ns.take i) 0++[Y2 a b nm i d])=X2 (Xp a b nm (ns.take i) 0)++(Y2 a b nm i d).cells from by unfold X2;rw [List.flatMap_append];simp]
  exact row_sameV' hown (fun g hg' hl=>Below.heap_setCell _ _ _ _ (show g≠q by omega))
 ·intro x hx
  rw [List.take_succ_eq_append_getElem hlt,List.mem_append] at hx
  rcases hx with hx | hx
  ·exact h.no x hx
  ·have:x=ns[i]:=by simpa using hx
   rw [this];exact hne
set_option maxRecDepth 100000 in
set_option maxHeartbeats 1000000 in
theorem rename_any (ns:List Tr.Nd) (tg tc:Nat) (at_:Int) (nm:ByteArray) (w:World) (hn:ns.length≤1048576) (ht:NodesAt w tg ns) :
  Calls Tryz.prog 6 #[.agg #[.slice (some ⟨tg,0,none⟩) ns.length tc],.int .i64 at_,.string nm] w fun e w'=>∃ v,e = .returned (.tuple #[.agg #[v],.int .i64 (Xq ns at_ nm).2])∧RowN w' w.heap.size v (Xq ns at_ nm).1∧Below w.heap.size w w':=by
 obtain ⟨iN,hN,a3,a2,Z⟩:=info_parts Tryz.infoNd
 have r2:Below w.heap.size w ((w.alloc (.cells #[.slice (some ⟨tg,0,none⟩) ns.length tc] 25)).alloc (.cells #[.slice none 0 0] 25)):=(bA _).alloc (by simp) _
 obtain ⟨x0,x1,x2⟩:=two_box w (.slice (some ⟨tg,0,none⟩) ns.length tc)
 have U:=X1 (fits_any ns tg tc _ hn (ht.below r2))
 have HT:=X1 ht
 have HX0:=X1 x0
 have HX1:=X1 x1
 have HX2:=X1 x2
 clear ht x0 x1 x2
 cases hf:Xz ns
 ·have k:=U.o
  rw [show ((Xk ns).1 == 0)=false from hf] at k
  replace k:=X1 k
  have HR:Hid (Xq ns at_ nm=([],1)):=X1 (by unfold Xq;rw [hf];rfl)
  rw [HR.o]
  go_enter Tryz.func6,Tryz.ntmps6
  go_wp2_with fail
  refine k.o.mono ?_
  rintro e w1 ⟨rfl,r⟩
  rw [World.size_alloc,World.size_alloc] at r
  have A:=r2.trans (r.mono (by omega))
  have y1:=(r.cell (p:=⟨w.heap.size+1,0,none⟩) (show w.heap.size+1 < w.heap.size+1+1 by omega)).trans HX1.o
  have y2:=(r.frozen (p:=⟨w.heap.size+1,0,none⟩) (show w.heap.size+1 < w.heap.size+1+1 by omega)).trans HX2.o
  clear r
  go_wp2
  refine bodyPost_ret (v:= .tuple #[.agg #[.slice none 0 0],.int .i64 1]) (by simp [results,Tryz.results6,go_sem,y1]) rfl ⟨_,rfl,.inl ⟨rfl,rfl⟩,?_⟩
  exact A.setCell (p:=⟨w.heap.size+1,0,none⟩) (by simp) _
 ·have k:=U.o
  rw [show ((Xk ns).1 == 0)=true from hf] at k
  replace k:=X1 k
  have hn1:=(Yx (YH hf)).1
  have hn5:=(Yx (YH hf)).2.1
  have V:=X1 (fun W=>YI at_ 0 ((ns.length:Int) - 1) W)
  have X:=X1 (show Xn at_ 0 ((ns.length:Int) - 1)=decide (0≤at_∧at_≤(ns.length:Int) - 1) from rfl)
  go_enter Tryz.func6,Tryz.ntmps6
  go_wp2_with fail
  refine k.o.mono ?_
  rintro e w1 ⟨rfl,r⟩
  rw [World.size_alloc,World.size_alloc] at r
  have A:=r2.trans (r.mono (by omega))
  have hz1:w.heap.size+1+1≤w1.heap.size:=by have:=r.size;simpa using this
  have y0:=(r.cell (p:=⟨w.heap.size,0,none⟩) (show w.heap.size < w.heap.size+1+1 by omega)).trans HX0.o
  have y1:=(r.cell (p:=⟨w.heap.size+1,0,none⟩) (show w.heap.size+1 < w.heap.size+1+1 by omega)).trans HX1.o
  have y2:=(r.frozen (p:=⟨w.heap.size+1,0,none⟩) (show w.heap.size+1 < w.heap.size+1+1 by omega)).trans HX2.o
  clear r U k
  by_cases hr:0≤at_∧at_ < ns.length
  ·obtain ⟨a,rfl⟩:∃ a:Nat,at_=a:=⟨at_.toNat,by omega⟩
   have ha:a < ns.length:=by omega
   have g:=V.o w1
   rw [show Xn (a:Int) 0 ((ns.length:Int) - 1)=true from by rw [X.o];exact decide_eq_true ⟨by omega,by omega⟩] at g
   replace g:=X1 g
   obtain ⟨k0,_⟩:=(HT.o.below A).2 a ha
   have N:Hid (Y3 ns (a:Int)=Za ns[a].kind):=X1 (by unfold Y3;rw [Int.toNat_natCast,XJ ha,decide_eq_true (by omega:(0:Int)≤a),decide_eq_true (by omega:(a:Int) < ns.length)];rfl)
   have P:=X1 (show Xq ns (a:Int) nm=(if Y3 ns (a:Int)=false then ([],2) else if Z3 ns nm=false then ([],3) else (Xp a (Xe ns) nm ns 0,0)) by unfold Xq;rw [hf];rfl)
   by_cases hloc:ns[a].kind=14∨ns[a].kind=16
   ·have z:Hid (Xq ns (a:Int) nm=if Z3 ns nm=false then ([],3) else (Xp a (Xe ns) nm ns 0,0)):=X1 (by rw [P.o,N.o,if_neg (by rcases hloc with e | e <;> (rw [e];decide))])
    clear P N
    have I:=X1 (YU nm w1)
    have M:=X1 (show Z3 ns nm=(XZ nm && !decide (nm.data.toList∈Yd) && !ns.any (fun d=>decide (d.text=nm))) from rfl)
    have hkl:(ns[a].kind == 14)=true∨(ns[a].kind == 14)=false∧(ns[a].kind == 16)=true:=by
     rcases hloc with e | e <;> simp [e]
    have hk1:(ns[a].kind != 14)=!(ns[a].kind == 14):=rfl
    have hk2:(ns[a].kind != 16)=!(ns[a].kind == 16):=rfl
    generalize ns[a].kind=kd at *
    go_upto_region 3 with fail
    go_cut [40] from 16 to 40 (fun v40 wx=>v40 = .bool false∧wx=w1)
    case first =>
     rcases hloc with rfl | rfl
     all_goals
      go_wp2_with fail
      refine g.o.mono ?_
      rintro e w' ⟨rfl,rfl⟩
      go_wp2_with fail
      go_meet
      case rel=>exact ⟨rfl,rfl⟩
    case rest =>
     obtain ⟨rfl,hwc⟩:=hcut
     rw [hwc]
     clear hkl hk1 hk2 hloc k0 g V X hwc
     cases hnk:XZ nm
     ·have C:Hid (Xq ns (a:Int) nm=([],3)):=X1 (by rw [z.o,M.o,hnk];rfl)
      rw [hnk] at I
      go_wp2_with fail
      refine I.o.mono ?_
      rintro e w2 ⟨rfl,x⟩
      have Q:=A.trans (x.mono A.size)
      have z1:=(x.cell (p:=⟨w.heap.size+1,0,none⟩) (show w.heap.size+1 < w1.heap.size by omega)).trans y1
      have z2:=(x.frozen (p:=⟨w.heap.size+1,0,none⟩) (show w.heap.size+1 < w1.heap.size by omega)).trans y2
      clear x
      go_wp2
      refine bodyPost_ret (v:= .tuple #[.agg #[.slice none 0 0],.int .i64 3]) (by simp [results,Tryz.results6,go_sem,z1]) rfl ⟨_,by rw [C.o],by rw [C.o];exact .inl ⟨rfl,rfl⟩,?_⟩
      exact Q.setCell (p:=⟨w.heap.size+1,0,none⟩) (by simp) _
     ·rw [hnk] at I
      go_wp2_with fail
      refine I.o.mono ?_
      rintro e w2 ⟨rfl,x⟩
      have Q:=A.trans (x.mono A.size)
      have hz2:w.heap.size+1+1≤w2.heap.size:=Nat.le_trans hz1 x.size
      have z0:=(x.cell (p:=⟨w.heap.size,0,none⟩) (show w.heap.size < w1.heap.size by omega)).trans y0
      have z1:=(x.cell (p:=⟨w.heap.size+1,0,none⟩) (show w.heap.size+1 < w1.heap.size by omega)).trans y1
      have z2:=(x.frozen (p:=⟨w.heap.size+1,0,none⟩) (show w.heap.size+1 < w1.heap.size by omega)).trans y2
      clear x y0 y1 y2
      go_wp2_with fail
      refine (Jz w2).mono ?_
      rintro e w3 ⟨rfl,L,hz3,hl3⟩
      have S:=Q.trans (L.mono Q.size)
      have u0:=(L.cell (p:=⟨w.heap.size,0,none⟩) (show w.heap.size < w2.heap.size by omega)).trans z0
      have u1:=(L.cell (p:=⟨w.heap.size+1,0,none⟩) (show w.heap.size+1 < w2.heap.size by omega)).trans z1
      have u2:=(L.frozen (p:=⟨w.heap.size+1,0,none⟩) (show w.heap.size+1 < w2.heap.size by omega)).trans z2
      have H:=X1 (has_builts nm w3 w2.heap.size hl3)
      clear L z0 z1 z2 hl3
      cases hbt:decide (nm.data.toList∈Yd)
      ·rw [hbt] at H
       go_wp2_with fail
       refine H.o.mono ?_
       rintro e w' ⟨rfl,hw'⟩
       rw [hw']
       clear hw'
       have C:Hid (Xq ns (a:Int) nm=if ns.any (fun d=>decide (d.text=nm))=true then ([],3) else (Xp a (Xe ns) nm ns 0,0)):=X1 (by
        rw [z.o,M.o,hnk,hbt]
        cases ns.any (fun d=>decide (d.text=nm)) <;> rfl)
       have HBS:=X1 (binds_any ns tg tc w3 hn (HT.o.below S))
       clear H I M z
       go_wp2_with fail
       refine HBS.o.mono ?_
       rintro e w4 ⟨gs,rfl,hgs,a7,D⟩
       have hB4:=S.trans (D.mono S.size)
       have t0:=(D.cell (p:=⟨w.heap.size,0,none⟩) (show w.heap.size < w3.heap.size by omega)).trans u0
       have t1:=(D.cell (p:=⟨w.heap.size+1,0,none⟩) (show w.heap.size+1 < w3.heap.size by omega)).trans u1
       have t2:=(D.frozen (p:=⟨w.heap.size+1,0,none⟩) (show w.heap.size+1 < w3.heap.size by omega)).trans u2
       have hz4:w.heap.size+1+1≤w4.heap.size:=by have:=D.size;omega
       have HO4:=X1 a7
       have a1:=(a7.lt gs rfl).2
       have hbl:(Xe ns).length=ns.length:=J2 hf
       clear D u0 u1 u2 HBS a7
       generalize Xe ns=b at *
       have q4:Below w4.heap.size w4 (w4.alloc (.cells #[.slice none 0 0] 25)):=bA _
       have a6:=cell_new w4 (.slice none 0 0) 25
       have HS0:Hid (RnI ns tg tc a b nm gs w w4.heap.size 0 (.slice none 0 0) (w4.alloc (.cells #[.slice none 0 0] 25))):=X1 ⟨hB4.trans (q4.mono hB4.size),by simp,a6.1,a6.2,(q4.cell (p:=⟨w.heap.size,0,none⟩) (show w.heap.size < w4.heap.size by omega)).trans t0,(q4.cell (p:=⟨w.heap.size+1,0,none⟩) (show w.heap.size+1 < w4.heap.size by omega)).trans t1,(q4.frozen (p:=⟨w.heap.size+1,0,none⟩) (show w.heap.size+1 < w4.heap.size by omega)).trans t2,fun j hj=>by
        rw [q4.cell (p:=⟨gs,j,none⟩) a1,HO4.o.cellAt j (by omega)];simp [hj,vi],World.ownsRow_nil _ _ _ _,fun d hd=>by cases hd⟩
       clear t0 t1 t2 HO4 q4 a6
       go_wp2
       go_loopw [10] (fun t wr=>∃ (i:Nat) (v9:Value),i≤ns.length∧t = .int .i64 i∧RnI ns tg tc a b nm gs w w4.heap.size i v9 wr) (fun t _=>ns.length - (intOf t).toNat)
       case atStart=>exact ⟨0,_,Nat.zero_le _,rfl,HS0.o⟩
       case round =>
        obtain ⟨i,v9,hi,rfl,hR⟩:=hrel
        have q:=X1 hR
        have s0:=hR.x0
        have s1:=hR.x1
        have s2:=hR.x2
        have s9:=hR.c9
        have f9:=hR.f9
        have hB:=hR.B
        have E:=hR.z9
        have hbj:=hR.bs
        clear hR
        by_cases hlt:i < ns.length
        ·obtain ⟨n0,n1,n2,n3,n4⟩:=(HT.o.below hB).2 i hlt
         have hbi:=hbj i (by omega)
         have hbg:b[i]?.getD 0=b[i]'(by omega):=by rw [List.getElem?_eq_getElem (by omega)];rfl
         have O:=X1 (show ∀ d,Y2 a b nm i d=if i=a∨b[i]'(by omega)=(a:Int) then {d with text:=nm} else d from fun d=>by unfold Y2;rw [hbg])
         have hqz:w.heap.size+1 < w4.heap.size:=by omega
         have a4:=ba_eq ns[i].text nm
         have a0:=X1 (List.getElem_mem hlt)
         have Y:=X1 (fun (d:Tr.Nd) (hd:d=ns[i]) (hne:ns[i].text≠nm) (v10:Value) (w5:World) (o1 o2:Obj)=>RnI.next (v10:=v10) (w5:=w5) (o1:=o1) (o2:=o2) q.o hlt hd hne a1 hqz)
         clear hbj hbg
         cases hq:(ns[i].text.toList == nm.toList)
         ·have hne:ns[i].text≠nm:=fun e=>by rw [a4.2 e] at hq;cases hq
          have m:=X1 (fun v10 w5 o1 o2=>Y.o ns[i] rfl hne v10 w5 o1 o2)
          clear Y a4 a0 hne
          generalize b[i]'(by omega)=bi at *
          generalize ns[i]=d at *
          have hbi':(wr.alloc (.cells #[.int .i64 d.kind,.int .i64 d.op,.int .i64 d.n,.string d.text,.int .i64 d.kids] 35)).cell? ⟨gs,i,none⟩=some (.int .i64 bi):=(((Below.refl wr.heap.size wr).alloc (Nat.le_refl _) _).cell (p:=⟨gs,i,none⟩) (show gs < wr.heap.size by omega)).trans hbi
          by_cases hia:i=a
          ·subst hia
           have F:Hid (Y2 i b nm i d={d with text:=nm}):=X1 (by rw [O.o,if_pos (.inl rfl)])
           rw [F.o] at m
           go_wp2_with (at_builtin;refine wpList_append_own_at _ rfl _ _ 23 rfl (w4.heap.size+1) 35 iN _ 5 48 Tryz.underlying23 hN a3 a2 Z rfl (by decide) v9 i _ rfl ((q.o.row.alloc _).alloc _) ⟨wr.heap.size+1,0,none⟩ 1 1 ({d with text:=nm}:Tr.Nd).cells rfl rfl (by have:=cells_lit (wr.alloc (.cells #[.int .i64 d.kind,.int .i64 d.op,.int .i64 d.n,.string nm,.int .i64 d.kids] 35)) ({d with text:=nm}:Tr.Nd).cells 35;rw [World.size_alloc] at this;exact this) (Jf _) (by unfold maxLen;omega) (by omega) (by simp;omega) ?_)
           intro v10 w5 f c l u;obtain ⟨g10,c10,y⟩:=JF f (by omega);subst y
           have J:=X1 (m.o _ w5 _ _ f c)
           have s95:w5.cell? ⟨w4.heap.size,0,none⟩=some v9:=(World.cell?_of_block (c.block w4.heap.size (by simp;omega) (fun e=>by have:=(q.o.row.lt _ e.symm).1;omega))).trans ((((Below.refl wr.heap.size wr).alloc (Nat.le_refl _) _).alloc (by simp) _).cell (p:=⟨w4.heap.size,0,none⟩) E |>.trans s9)
           have f95:w5.frozen? ⟨w4.heap.size,0,none⟩=false:=(World.frozen?_of_block (c.block w4.heap.size (by simp;omega) (fun e=>by have:=(q.o.row.lt _ e.symm).1;omega))).trans ((((Below.refl wr.heap.size wr).alloc (Nat.le_refl _) _).alloc (by simp) _).frozen (p:=⟨w4.heap.size,0,none⟩) E |>.trans f9)
           clear f c l u
           go_wp2
           go_roundw
           case rel=>exact ⟨i+1,_,by omega,by go_num,J.o⟩
           case measure=>simp [intOf];omega
          ·have hiai:((i:Int) == (a:Int))=false:=by simp;omega
           cases hbb:(bi == (a:Int))
           ·have F:Hid (Y2 a b nm i d=d):=X1 (by rw [O.o,if_neg (by rintro (h | h);exact hia h;rw [h] at hbb;simp at hbb)])
            rw [F.o] at m
            go_wp2_with (at_builtin;refine wpList_append_own_at _ rfl _ _ 23 rfl (w4.heap.size+1) 35 iN _ 5 48 Tryz.underlying23 hN a3 a2 Z rfl (by decide) v9 i _ rfl ((q.o.row.alloc _).alloc _) ⟨wr.heap.size+1,0,none⟩ 1 1 d.cells rfl rfl (by have:=cells_lit (wr.alloc (.cells #[.int .i64 d.kind,.int .i64 d.op,.int .i64 d.n,.string d.text,.int .i64 d.kids] 35)) d.cells 35;rw [World.size_alloc] at this;exact this) (Jf _) (by unfold maxLen;omega) (by omega) (by simp;omega) ?_)
            intro v10 w5 f c l u;obtain ⟨g10,c10,y⟩:=JF f (by omega);subst y
            have J:=X1 (m.o _ w5 _ _ f c)
            have s95:w5.cell? ⟨w4.heap.size,0,none⟩=some v9:=(World.cell?_of_block (c.block w4.heap.size (by simp;omega) (fun e=>by have:=(q.o.row.lt _ e.symm).1;omega))).trans ((((Below.refl wr.heap.size wr).alloc (Nat.le_refl _) _).alloc (by simp) _).cell (p:=⟨w4.heap.size,0,none⟩) E |>.trans s9)
            have f95:w5.frozen? ⟨w4.heap.size,0,none⟩=false:=(World.frozen?_of_block (c.block w4.heap.size (by simp;omega) (fun e=>by have:=(q.o.row.lt _ e.symm).1;omega))).trans ((((Below.refl wr.heap.size wr).alloc (Nat.le_refl _) _).alloc (by simp) _).frozen (p:=⟨w4.heap.size,0,none⟩) E |>.trans f9)
            clear f c l u
            go_wp2
            go_roundw
            case rel=>exact ⟨i+1,_,by omega,by go_num,J.o⟩
            case measure=>simp [intOf];omega
           ·have F:Hid (Y2 a b nm i d={d with text:=nm}):=X1 (by rw [O.o,if_pos (.inr (by simpa using hbb))])
            rw [F.o] at m
            go_wp2_with (at_builtin;refine wpList_append_own_at _ rfl _ _ 23 rfl (w4.heap.size+1) 35 iN _ 5 48 Tryz.underlying23 hN a3 a2 Z rfl (by decide) v9 i _ rfl ((q.o.row.alloc _).alloc _) ⟨wr.heap.size+1,0,none⟩ 1 1 ({d with text:=nm}:Tr.Nd).cells rfl rfl (by have:=cells_lit (wr.alloc (.cells #[.int .i64 d.kind,.int .i64 d.op,.int .i64 d.n,.string nm,.int .i64 d.kids] 35)) ({d with text:=nm}:Tr.Nd).cells 35;rw [World.size_alloc] at this;exact this) (Jf _) (by unfold maxLen;omega) (by omega) (by simp;omega) ?_)
            intro v10 w5 f c l u;obtain ⟨g10,c10,y⟩:=JF f (by omega);subst y
            have J:=X1 (m.o _ w5 _ _ f c)
            have s95:w5.cell? ⟨w4.heap.size,0,none⟩=some v9:=(World.cell?_of_block (c.block w4.heap.size (by simp;omega) (fun e=>by have:=(q.o.row.lt _ e.symm).1;omega))).trans ((((Below.refl wr.heap.size wr).alloc (Nat.le_refl _) _).alloc (by simp) _).cell (p:=⟨w4.heap.size,0,none⟩) E |>.trans s9)
            have f95:w5.frozen? ⟨w4.heap.size,0,none⟩=false:=(World.frozen?_of_block (c.block w4.heap.size (by simp;omega) (fun e=>by have:=(q.o.row.lt _ e.symm).1;omega))).trans ((((Below.refl wr.heap.size wr).alloc (Nat.le_refl _) _).alloc (by simp) _).frozen (p:=⟨w4.heap.size,0,none⟩) E |>.trans f9)
            clear f c l u
            go_wp2
            go_roundw
            case rel=>exact ⟨i+1,_,by omega,by go_num,J.o⟩
            case measure=>simp [intOf];omega
         ·have K:Hid (Xq ns (a:Int) nm=([],3)):=X1 (by
           rw [C.o,if_pos]
           rw [List.any_eq_true]
           exact ⟨_,a0.o,decide_eq_true (a4.1 hq)⟩)
          clear Y O
          generalize ns[i]=d at *
          have s1':(wr.alloc (.cells #[.int .i64 d.kind,.int .i64 d.op,.int .i64 d.n,.string d.text,.int .i64 d.kids] 35)).cell? ⟨w.heap.size+1,0,none⟩=some (.slice none 0 0):=(((Below.refl wr.heap.size wr).alloc (Nat.le_refl _) _).cell (p:=⟨w.heap.size+1,0,none⟩) (show w.heap.size+1 < wr.heap.size by omega)).trans s1
          have s2':(wr.alloc (.cells #[.int .i64 d.kind,.int .i64 d.op,.int .i64 d.n,.string d.text,.int .i64 d.kids] 35)).frozen? ⟨w.heap.size+1,0,none⟩=false:=(((Below.refl wr.heap.size wr).alloc (Nat.le_refl _) _).frozen (p:=⟨w.heap.size+1,0,none⟩) (show w.heap.size+1 < wr.heap.size by omega)).trans s2
          go_wp2
          refine bodyPost_ret (v:= .tuple #[.agg #[.slice none 0 0],.int .i64 3]) (by simp [results,Tryz.results6,go_sem,s1']) rfl ⟨_,by rw [K.o],by rw [K.o];exact .inl ⟨rfl,rfl⟩,?_⟩
          exact (hB.alloc hB.size _).setCell (p:=⟨w.heap.size+1,0,none⟩) (by simp) _
        ·obtain rfl:i=ns.length:=by omega
         have K:Hid (Xq ns (a:Int) nm=(Xp a b nm ns 0,0)):=X1 (by
          rw [C.o,if_neg]
          rw [List.any_eq_true]
          rintro ⟨d,hd,he⟩
          exact q.o.no d (by rw [List.take_length];exact hd) (of_decide_eq_true he))
         have s:=q.o.row
         rw [List.take_length] at s
         obtain ⟨g9,c9,hv9⟩:=JF s (by omega)
         subst hv9
         have a5:(Xp a b nm ns 0).length=ns.length:=ZT _ _ _ _ _
         have HRW:Hid (RowN (wr.setCell ⟨w.heap.size+1,0,none⟩ (.slice (some ⟨g9,0,none⟩) ns.length c9)) w.heap.size (.slice (some ⟨g9,0,none⟩) ns.length c9) (Xp a b nm ns 0)):=X1 (by
          have hg9:=(s.lt g9 rfl).1
          refine .inr ⟨g9,c9,by rw [a5],by omega,?_⟩
          rw [a5]
          exact ZE (Y5 s (Below.heap_setCell _ _ _ _ (show g9≠w.heap.size+1 by omega))) (Nat.zero_le _))
         clear s a5 q
         go_wp2
         refine bodyPost_ret (v:= .tuple #[.agg #[.slice (some ⟨g9,0,none⟩) ns.length c9],.int .i64 0]) (by simp [results,Tryz.results6,go_sem,s1]) rfl ⟨_,by rw [K.o],by rw [K.o];exact HRW.o,?_⟩
         exact hB.setCell (p:=⟨w.heap.size+1,0,none⟩) (by simp) _
      ·have C:Hid (Xq ns (a:Int) nm=([],3)):=X1 (by rw [z.o,M.o,hnk,hbt];rfl)
       rw [hbt] at H
       go_wp2_with fail
       refine H.o.mono ?_
       rintro e w' ⟨rfl,rfl⟩
       go_wp2
       refine bodyPost_ret (v:= .tuple #[.agg #[.slice none 0 0],.int .i64 3]) (by simp [results,Tryz.results6,go_sem,u1]) rfl ⟨_,by rw [C.o],by rw [C.o];exact .inl ⟨rfl,rfl⟩,?_⟩
       exact S.setCell (p:=⟨w.heap.size+1,0,none⟩) (by simp) _
   ·have z:Hid (Xq ns (a:Int) nm=([],2)):=X1 (by rw [P.o,N.o,if_pos (by simpa [Za] using hloc)])
    have q14:(ns[a].kind != 14)=true:=by simp;omega
    have q16:(ns[a].kind != 16)=true:=by simp;omega
    generalize ns[a].kind=kd at *
    clear P N hloc
    go_wp2_with fail
    refine g.o.mono ?_
    rintro e w' ⟨rfl,rfl⟩
    go_wp2
    refine bodyPost_ret (v:= .tuple #[.agg #[.slice none 0 0],.int .i64 2]) (by simp [results,Tryz.results6,go_sem,y1]) rfl ⟨_,by rw [z.o],by rw [z.o];exact .inl ⟨rfl,rfl⟩,?_⟩
    exact A.setCell (p:=⟨w.heap.size+1,0,none⟩) (by simp) _
  ·have hin:Xn at_ 0 ((ns.length:Int) - 1)=false:=by rw [X.o];exact decide_eq_false (by omega)
   have z:Hid (Xq ns at_ nm=([],2)):=X1 (by
    have:Y3 ns at_=false:=by
     unfold Y3
     by_cases h1:0≤at_
     ·rw [decide_eq_false (by omega:¬ at_ < ns.length)];simp
     ·rw [decide_eq_false h1];simp
    unfold Xq;rw [hf,this];rfl)
   have g:=V.o w1
   rw [hin] at g
   replace g:=X1 g
   go_wp2_with fail
   refine g.o.mono ?_
   rintro e w' ⟨rfl,rfl⟩
   go_wp2
   refine bodyPost_ret (v:= .tuple #[.agg #[.slice none 0 0],.int .i64 2]) (by simp [results,Tryz.results6,go_sem,y1]) rfl ⟨_,by rw [z.o],by rw [z.o];exact .inl ⟨rfl,rfl⟩,?_⟩
   exact A.setCell (p:=⟨w.heap.size+1,0,none⟩) (by simp) _
set_option maxRecDepth 100000 in
set_option maxHeartbeats 2000000 in
theorem locals_any (ns:List Tr.Nd) (tg tc:Nat) (w:World) (hn:ns.length≤1048576) (ht:NodesAt w tg ns) :
  Calls Tryz.prog 13 #[.agg #[.slice (some ⟨tg,0,none⟩) ns.length tc]] w fun e w'=>∃ g c,e = .returned (.slice (some ⟨g,0,none⟩) (Y9 ns).length c)∧w.heap.size≤g∧w'.ownsRow w.heap.size 3 1 (.slice (some ⟨g,0,none⟩) (Y9 ns).length c) (Y9 ns).length ((Y9 ns).map vint)∧Below w.heap.size w w':=by
 obtain ⟨iI,hI,hIz,hIs,hIb⟩:=info_parts Tryz.infoInt
 have r2:Below w.heap.size w ((w.alloc (.cells #[.slice (some ⟨tg,0,none⟩) ns.length tc] 25)).alloc (.cells #[] 3)):=(bA _).alloc (by simp) _
 have j:((w.alloc (.cells #[.slice (some ⟨tg,0,none⟩) ns.length tc] 25)).alloc (.cells #[] 3)).ownsRow (w.heap.size+1) 3 1 (.slice (some ⟨w.heap.size+1,0,none⟩) 0 0) 0 []:=by
  have:=World.ownsRow_lit (base:=w.heap.size+1) (e:=3) (size:=1) (w.alloc (.cells #[.slice (some ⟨tg,0,none⟩) ns.length tc] 25)) #[] 0 (by simp) (Nat.zero_le _) rfl
  rwa [World.size_alloc] at this
 have bx:((w.alloc (.cells #[.slice (some ⟨tg,0,none⟩) ns.length tc] 25)).alloc (.cells #[] 3)).cell? ⟨w.heap.size,0,none⟩=some (.slice (some ⟨tg,0,none⟩) ns.length tc):=by
  have h1:=(Zy (w.alloc (.cells #[.slice (some ⟨tg,0,none⟩) ns.length tc] 25)) (.cells #[] 3)).cell (p:=⟨w.heap.size,0,none⟩) (by simp)
  rw [h1];simp
 have HFT:=X1 (fits_any ns tg tc _ hn (ht.below r2))
 have HT:=X1 ht
 clear ht
 cases hf:Xz ns
 ·have b:=HFT.o
  rw [show ((Xk ns).1 == 0)=false from hf] at b
  replace b:=X1 b
  have HB:Hid (Y9 ns=[]):=X1 (by unfold Y9;rw [hf];rfl)
  go_enter Tryz.func13,Tryz.ntmps13
  go_wp2_with fail
  refine b.o.mono ?_
  rintro e w1 ⟨rfl,k⟩
  have m:=r2.trans (k.mono r2.size)
  go_wp2
  go_ret
  refine ⟨w.heap.size+1,0,by rw [HB.o];rfl,by omega,?_,m⟩
  rw [HB.o]
  exact ZE (Y5 j (k.block _ (by simp))) (by omega)
 ·have b:=HFT.o
  rw [show ((Xk ns).1 == 0)=true from hf] at b
  replace b:=X1 b
  have HB:Hid (Y9 ns=XB ns 0):=X1 (by unfold Y9;rw [hf];rfl)
  go_enter Tryz.func13,Tryz.ntmps13
  go_wp2_with fail
  refine b.o.mono ?_
  rintro e w1 ⟨rfl,k⟩
  have m:=r2.trans (k.mono r2.size)
  have a2:=Y5 j (k.block (w.heap.size+1) (by simp))
  have bx1:=(k.cell (p:=⟨w.heap.size,0,none⟩) (by simp;omega)).trans bx
  have HR1:=X1 a2
  have hz1:w.heap.size+1+1≤w1.heap.size:=by have:=k.size;simpa using this
  clear k j a2 bx
  go_wp2
  go_loopw [3,4] (fun v3 t wr=>∃ (i g c:Nat) (f:List Nat),i≤ns.length∧t = .int .i64 i∧v3 = .slice (some ⟨g,0,none⟩) f.length c∧w.heap.size < g∧f.length≤i∧wr.ownsRow (w.heap.size+1) 3 1 (.slice (some ⟨g,0,none⟩) f.length c) f.length (f.map vint)∧Below w.heap.size w wr∧w.heap.size < wr.heap.size∧wr.cell? ⟨w.heap.size,0,none⟩=some (.slice (some ⟨tg,0,none⟩) ns.length tc)∧XB ns 0=f++XB (ns.drop i) i) (fun _ t _=>ns.length - (intOf t).toNat)
  case atStart=>exact ⟨0,w.heap.size+1,0,[],Nat.zero_le _,rfl,rfl,by omega,Nat.le_refl _,HR1.o,m,by omega,bx1,rfl⟩
  case round =>
   obtain ⟨i,g,c,f,hi,rfl,rfl,hg,hol,ho,hB,hzr,bxr,he⟩:=hrel
   have HO:=X1 ho
   have HE:=X1 he
   clear ho he
   by_cases hlt:i < ns.length
   ·obtain ⟨n0,_⟩:=(HT.o.below hB).2 i hlt
    have HS:=X1 (Tr.localsGo_at ns i hlt)
    generalize ns[i].kind=kd at *
    by_cases hk:kd=14∨kd=16
    ·have l:Hid (XB ns 0=(f++[i])++XB (ns.drop (i+1)) (i+1)):=X1 (by rw [HE.o,HS.o,if_pos (by rcases hk with rfl | rfl <;> rfl)];simp)
     rcases hk with rfl | rfl
     all_goals
      go_wp2_with (at_builtin;refine wpList_append_own_at _ rfl _ _ 31 rfl (w.heap.size+1) 3 iI (.int .i64 0) 1 8 Tryz.underlying31 hI hIz hIs hIb rfl (by decide) (.slice (some ⟨g,0,none⟩) f.length c) f.length (f.map vint) rfl (HO.o.alloc _) ⟨wr.heap.size,0,none⟩ 1 1 [.int .i64 i] rfl rfl (ZV _ _ _) (by simp [Value.oneCell']) (by unfold maxLen;omega) (by omega) (by simp;omega) ?_)
      intro v2 w2 a1 d a0 a3
      obtain ⟨g2,c2,rfl,hg2⟩:=Z9 a1 a0 (by simpa [Value.ownBlock] using a3)
      have hB2:Below w.heap.size w w2:=(hB.alloc hB.size _).grown d (by have:=hB.size;simp;omega) (fun q e=>by simp [Value.ownBlock] at e;omega)
      have bx2:=(World.cell?_of_block (a:=⟨w.heap.size,0,none⟩) (Zq d w.heap.size hzr (by simp [Value.ownBlock];omega))).trans bxr
      have hz2:w.heap.size < w2.heap.size:=Nat.lt_of_lt_of_le (by simp;omega) d.size
      have a4:w.heap.size < g2:=by rcases hg2 with h | h <;> omega
      clear d a0 a3
      go_wp2
      go_roundw
      case rel =>
       refine ⟨i+1,g2,c2,f++[i],by omega,by go_num,by simp,a4,by simp;omega,?_,hB2,hz2,bx2,l.o⟩
       rw [List.map_append,List.length_append];exact a1
      case measure=>simp [intOf];omega
    ·have l:Hid (XB ns 0=f++XB (ns.drop (i+1)) (i+1)):=X1 (by rw [HE.o,HS.o,if_neg (by simp [Za];omega)];rfl)
     have q14:(kd == 14)=false:=by simp;omega
     have q16:(kd == 16)=false:=by simp;omega
     go_wp2
     go_roundw
     case rel=>exact ⟨i+1,g,c,f,by omega,by go_num,rfl,hg,by omega,HO.o,hB,hzr,bxr,l.o⟩
     case measure=>simp [intOf];omega
   ·go_wp2
    go_ret
    have e:Y9 ns=f:=by rw [HB.o,HE.o,List.drop_of_length_le (by omega)];simp [XB]
    rw [e]
    exact ⟨g,c,rfl,by omega,ZE HO.o (by omega),hB⟩
theorem Tr.localsGo_snoc (a:List Tr.Nd) (d:Tr.Nd) (k:Nat):XB (a++[d]) k=XB a k++(if Za d.kind=true then [k+a.length] else []):=by
 induction a generalizing k with
 | nil=>simp [XB]
 | cons x r ih=>rw [List.cons_append,XB,ih,XB,List.append_assoc,List.length_cons,show k+1+r.length=k+(r.length+1) from by omega]
def Zc (l:List Nat):List Lit:=l.map fun (k:Nat)=>Lit.int .i64 (k:Int)
theorem Tr.keysI_ok (l:List Nat):∀ x∈Zc l,WideAt.IsKeyLit x:=by
 intro x hx
 simp only [Zc,List.mem_map] at hx
 obtain ⟨y,_,rfl⟩:=hx
 trivial
theorem lawI:Maps.Keyed Tryz.prog 3:=Maps.int_keyed Tryz.underlying3
theorem wfI (k:Nat) (h:k≤1048576):(Lit.int .i64 (k:Int)).wf=true:=by
 have h1:IntKind.i64.min = -9223372036854775808:=by decide
 have h2:IntKind.i64.max=9223372036854775807:=by decide
 simp [Lit.wf,h1,h2]
 omega
theorem zeroUI (w:World):(zeroValue 46).run Tryz.prog w = .ok (.agg #[]) w:=by kernel_rfl
set_option maxRecDepth 100000 in
set_option maxHeartbeats 1000000 in
theorem localPlaces_any (ns:List Tr.Nd) (tg tc:Nat) (w:World) (hn:ns.length≤5000) (ht:NodesAt w tg ns) :
  Calls Tryz.prog 17 #[.slice (some ⟨tg,0,none⟩) ns.length tc] w fun e w'=>e = .returned (.map (some w.heap.size))∧w'.ownsMap (H:=Unit) Tryz.prog 3 unitElem w.heap.size ns.length (Maps.setOf (.agg []) (Zc (XB ns 0)))∧Below w.heap.size w w':=by
 have hmm:=@run_makeMap Tryz.prog
 have hm0:=World.ownsMap_made (H:=Unit) w Tryz.prog 3 unitElem
 have hb0:Below w.heap.size w (w.alloc (.map #[] 0)):=bA _
 have HT:=X1 ht
 have HM:=X1 hm0
 clear ht hm0
 go_enter Tryz.func17,Tryz.ntmps17
 go_wp2
 go_loopw [9] (fun t wr=>∃ i:Nat,i≤ns.length∧t = .int .i64 i∧Below w.heap.size w wr∧w.heap.size < wr.heap.size∧wr.ownsMap (H:=Unit) Tryz.prog 3 unitElem w.heap.size i (Maps.setOf (.agg []) (Zc (XB (ns.take i) 0)))) (fun t _=>ns.length - (intOf t).toNat)
 case atStart=>exact ⟨0,Nat.zero_le _,rfl,hb0,by simp,HM.o⟩
 case round =>
  obtain ⟨i,hi,rfl,hB,hz,a2⟩:=hrel
  have HO:=X1 a2
  clear a2
  by_cases hlt:i < ns.length
  ·obtain ⟨c0,c1,c2,c3,c4⟩:=(HT.o.below hB).2 i hlt
   have HK:=X1 (show XB (ns.take (i+1)) 0=XB (ns.take i) 0++(if Za ns[i].kind=true then [i] else []) by
    rw [List.take_succ_eq_append_getElem hlt,Tr.localsGo_snoc,List.length_take,Nat.min_eq_left hi,Nat.zero_add])
   have HY:Hid (keyOf Tryz.prog 3 (.int .i64 (i:Int))=some (.int .i64 (i:Int))):=X1 (Maps.keyOf_int_mk Tryz.underlying3 (wfI i (by omega)))
   by_cases hloc:ns[i].kind=14∨ns[i].kind=16
   ·have hK2:Maps.setOf (H:=Unit) (.agg []) (Zc (XB (ns.take (i+1)) 0))=(Maps.setOf (.agg []) (Zc (XB (ns.take i) 0))).put (.int .i64 (i:Int)) (.agg []):=by
     rw [HK.o,if_pos (by rcases hloc with e | e <;> (rw [e];rfl)),← Maps.setOf_snoc];congr 1;simp [Zc]
    have a:=X1 hK2
    clear hK2 HK
    generalize ns[i].kind=kd at *
    generalize XB (ns.take i) 0=L at *
    rcases hloc with rfl | rfl
    all_goals
     go_wp2_with (at_mapUpdate;refine wpList_mapUpdate_own _ rfl _ _ _ 48 rfl 3 46 lawI Tryz.underlying48 _ w.heap.size i _ rfl (HO.o.alloc _) (by unfold maxLen;omega) _ _ _ rfl rfl HY.o _ [] unitElem_mk ?_)
     intro w1 a1 a0
     have hB1:Below w.heap.size w w1:=(hB.alloc hB.size _).grown a0 (by simp;omega) (fun k e=>by cases e;exact Nat.le_refl _)
     have hz1:w.heap.size < w1.heap.size:=by have:=a0.size;simp at this;omega
     rw [← a.o] at a1
     go_wp2
     go_roundw
     case rel=>exact ⟨i+1,by omega,by go_num,hB1,hz1,a1⟩
     case measure=>simp [intOf];omega
   ·have a:Hid (XB (ns.take (i+1)) 0=XB (ns.take i) 0):=X1 (by
     rw [HK.o,if_neg (by intro h;apply hloc;simpa [Za] using h),List.append_nil])
    have q14:(ns[i].kind == 14)=false:=by simp;omega
    have q16:(ns[i].kind == 16)=false:=by simp;omega
    clear HK
    go_wp2
    go_roundw
    case rel=>exact ⟨i+1,by omega,by go_num,hB.alloc hB.size _,by rw [World.size_alloc];omega,by rw [a.o];exact (HO.o.alloc _).mono (by omega)⟩
    case measure=>simp [intOf];omega
  ·go_wp2
   go_ret
   obtain rfl:i=ns.length:=by omega
   have:=HO.o
   rw [List.take_length] at this
   exact ⟨rfl,this,hB⟩
/-! ### what is sorted -/
end Go.Proofs.YtimbaebigjjkaaaGreatDoor
