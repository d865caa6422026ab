/- Cu. -/
import Derived.Test.YtimbaebigjjkaaaGreatDoorP20
namespace Go.Proofs.YtimbaebigjjkaaaGreatDoor
open Go.RowKit
def Qm:Value→Nat
 | .slice _ n _=>n
 | _=>0
def Rq [LB] (rb:Nat) (vb:Value) (n q:Nat) (w:World):Prop:=∃ p,p≤q∧Rd w rb vb n p
section
variable {rb:Nat} {vb:Value} {n q:Nat} {w w':World}
theorem Rq.mono [LB] (h:Rq rb vb n q w) {q':Nat} (hq:q≤q'):Rq rb vb n q' w:=by
 obtain ⟨p,hp,hr⟩:=h
 exact ⟨p,by omega,hr⟩
theorem Rq.below [LB] (h:Rq rb vb n q w) (hb:Below w.heap.size w w'):Rq rb vb n q w':=by
 obtain ⟨p,hp,hr⟩:=h
 exact ⟨p,hp,hr.keep hb⟩
theorem Rq.lt [LB] (h:Rq rb vb n q w):rb < w.heap.size:=by
 obtain ⟨p,hp,hr⟩:=h
 exact hr.lt
theorem Rq.pf [LB] {B:Nat} (h:Rq rb vb n q w) (hb:Pf B w w') (hB:rb < B):Rq rb vb n q w':=by
 obtain ⟨p,hp,hr⟩:=h
 have hl:=hr.lt
 exact ⟨p,hp,hr.upto (fun b hq=>hb.block b (by omega) (.inl (by omega)))⟩
theorem Rq.set [LB] {b o:Nat} {v:Value} (h:Rq rb vb n q w) (hb:rb < b):Rq rb vb n q (w.setCell ⟨b,o,none⟩ v):=by
 obtain ⟨p,hp,hr⟩:=h
 exact ⟨p,hp,hr.upto (fun x hx=>Below.heap_setCell _ _ _ _ (show x≠b by omega))⟩
theorem Rq.pick [LB] (h:Rq rb vb n q w) (hq:q≤900000000) (m:Int) (h1:1≤m) (h2:m≤1000000):Calls Tryz.prog 14 #[.pointer (some ⟨rb,0,none⟩),.int .i64 m] w fun e w'=>∃ z:Nat,(z:Int) < m∧e = .returned (.int .i64 (z:Int))∧Rq rb vb n (q+1) w'∧Ty w w':=by
 obtain ⟨p,hp,hr⟩:=h
 refine (JG rb n p vb m w hr (by omega) h1 h2).mono ?_
 rintro e w1 ⟨z,hz,rfl,hr1,hd⟩
 exact ⟨z,hz,rfl,⟨p+1,by omega,hr1⟩,.dr hd hr.own⟩
theorem Ty.same [LB] (h:Ty w w') {b:Nat} {cs:Array Value} {t:TypeId} (hb:w.heap[b]?=some (.cells cs t)) (ht:¬ Mine (some t)):w'.heap[b]?=some (.cells cs t):=by
 have hl:b < w.heap.size:=by
  rcases Nat.lt_or_ge b w.heap.size with h | h
  ·exact h
  ·rw [Array.getElem?_eq_none h] at hb;cases hb
 exact (h.block b hl (by unfold tyAt;rw [hb];exact ht)).trans hb
theorem Pf.same [LB] {B:Nat} (h:Pf B w w') {b:Nat} {cs:Array Value} {t:TypeId} (hb:w.heap[b]?=some (.cells cs t)) (ht:t≠23):w'.heap[b]?=some (.cells cs t):=by
 have hl:b < w.heap.size:=by
  rcases Nat.lt_or_ge b w.heap.size with h | h
  ·exact h
  ·rw [Array.getElem?_eq_none h] at hb;cases hb
 exact (h.block b hl (.inr (by unfold tyAt;rw [hb];exact fun e=>ht (Option.some.inj e)))).trans hb
theorem KM [LB] {b o:Nat} {v:Value} {W:World} (h:Ty w W) (hb:w.heap.size≤b):Ty w (W.setCell ⟨b,o,none⟩ v):=by
 have k:=(Below.refl 0 W).setCell (p:=⟨b,o,none⟩) (Nat.zero_le _) v
 have e:∀ q,q < w.heap.size→(W.setCell ⟨b,o,none⟩ v).heap[q]?=W.heap[q]?:=fun q hq=>Below.heap_setCell _ _ _ _ (show q≠b by omega)
 exact ⟨k.os.trans h.os,k.tape.trans h.tape,k.output.trans h.output,Nat.le_trans h.size k.size,fun q h1 h2=>(e q h1).trans (h.block q h1 h2),fun hn q h1 h2=>by
  obtain ⟨x1,x2⟩:=h.two hn q h1 h2
  exact ⟨(XX (e q h1)).trans x1,(World.cell?_of_block (a:=⟨q,2,none⟩) (e q h1)).trans x2⟩,fun q h1 h2=>(e q h1).trans (h.old q h1 h2)⟩
end
theorem TyM.same [LB] {w w':World} {b:Nat} {o:Obj} (hb:w.heap[b]?=some o) (h:Below w.heap.size w w'):w'.heap[b]?=some o:=by
 have hl:b < w.heap.size:=by
  rcases Nat.lt_or_ge b w.heap.size with h | h
  ·exact h
  ·rw [Array.getElem?_eq_none h] at hb;cases hb
 exact (h.block b hl).trans hb
theorem Xv [LB]:¬ Mine (some 25):=by unfold Mine;simp
theorem KN [LB] {w:World} {b:Nat} {cs:Array Value} {t:TypeId} (h:w.heap[b]?=some (.cells cs t)) (o:Nat) (v:Value):(w.setCell ⟨b,o,none⟩ v).heap[b]?=some (.cells (cs.setIfInBounds o v) t):=by
 unfold World.setCell
 simp only [Array.getElem?_modify,h]
 rfl
def NX (c:Nat) (w:World) (v:Value) (l:List Tr.Nd):Prop:=w.ownsRow c 35 5 v l.length (X2 l)∧Sh l
def PX (c B:Nat) (w:World) (v:Value) (ls:List (List Tr.Nd)):Prop:=∃ vs:List Value,w.ownsRow B 23 1 v ls.length vs∧∀ i (h:i < ls.length),∃ u,vs[i]?=some u∧NX c w u ls[i]∧0 < ls[i].length
theorem PX.pw [LB] {c B:Nat} {w:World} {v:Value} {ls:List (List Tr.Nd)} (h:PX c B w v ls):PW B w v ls:=by
 obtain ⟨vs,h1,h2⟩:=h
 exact ⟨vs,h1,fun i hi=>by obtain ⟨u,a,b,d⟩:=h2 i hi;exact ⟨u,a,⟨ZN b.1 (Nat.zero_le _),b.2⟩,d⟩⟩
theorem PX.ty [LB] {c B:Nat} {w w':World} {v:Value} {ls:List (List Tr.Nd)} (h:PX c B w v ls) (hb:Ty w w'):PX c B w' v ls:=by
 obtain ⟨vs,h1,h2⟩:=h
 exact ⟨vs,XO h1 hb Qw,fun i hi=>by obtain ⟨u,a,b,d⟩:=h2 i hi;exact ⟨u,a,⟨XO b.1 hb K9,b.2⟩,d⟩⟩
theorem PX.set [LB] {c B b o:Nat} {w:World} {v u:Value} {ls:List (List Tr.Nd)} (h:PX c B w v ls) (hb:b < c) (ht:tyAt w b≠some 23):PX c B (w.setCell ⟨b,o,none⟩ u) v ls:=by
 obtain ⟨vs,h1,h2⟩:=h
 exact ⟨vs,Yb h1 ht,fun i hi=>by obtain ⟨u',a,k,d⟩:=h2 i hi;exact ⟨u',a,⟨ownsRow_setCell_below k.1 hb _,k.2⟩,d⟩⟩
theorem pushedX [LB] {c B:Nat} {W W':World} {O:Obj} {v v' u:Value} {l:List Tr.Nd} {ls:List (List Tr.Nd)} {vs:List Value} (h1:W.ownsRow B 23 1 v ls.length vs) (h2:∀ i (h:i < ls.length),∃ u,vs[i]?=some u∧NX c W u ls[i]∧0 < ls[i].length) (hu:NX c W u l) (hl:0 < l.length) (hx:W'.ownsRow B 23 1 v' (ls.length+1) (vs++[u])) (hg:(W.alloc O).grownBy W' v.ownBlock):PX c B W' v' (ls++[l])∧Pf B W W':=by
 obtain ⟨_,f⟩:=pushed h1 (fun i hi=>by obtain ⟨u,a,b,d⟩:=h2 i hi;exact ⟨u,a,⟨ZN b.1 (Nat.zero_le _),b.2⟩,d⟩) ⟨ZN hu.1 (Nat.zero_le _),hu.2⟩ hl hx hg
 have hvl:vs.length=ls.length:=by have:=h1.1;omega
 refine ⟨⟨vs++[u],by rw [List.length_append];exact hx,fun i hi=>?_⟩,f⟩
 by_cases hk:i < ls.length
 ·obtain ⟨u',a,b,d⟩:=h2 i hk
  rw [List.getElem_append_left hk]
  exact ⟨u',by rw [List.getElem?_append_left (by omega)];exact a,⟨f.row b.1 (by decide),b.2⟩,d⟩
 ·have hi':i=ls.length:=by simp only [List.length_append,List.length_cons,List.length_nil] at hi;omega
  subst hi'
  have e:(ls++[l])[ls.length]'hi=l:=by simp
  rw [e]
  exact ⟨u,by rw [List.getElem?_append_right (by omega),hvl];simp,⟨f.row hu.1 (by decide),hu.2⟩,hl⟩
def RTk [LB] (rb:Nat) (vb:Value) (n q m:Nat) (w:World) (e:Ending) (w':World):Prop:=∃ v l,e = .returned (.agg #[v])∧NR w' v l∧l.length≤m∧Rq rb vb n (q+m) w'∧Tf w w'
variable (rb:Nat) (vb:Value) (n:Nat)
set_option maxRecDepth 100000 in
set_option maxHeartbeats 8000000 in
theorem edge_any [LB] (q:Nat) (w:World) (h:Rq rb vb n q w) (hq:q≤800000000):Calls Tryz.prog 34 #[.pointer (some ⟨rb,0,none⟩)] w fun e w'=>RTk rb vb n q 300 w e w':=by
 obtain ⟨iP,hP,d3,d2,d1⟩:=info_parts Tryz.infoNdsC
 have Z:rb < w.heap.size:=h.lt
 have b1:Below w.heap.size w (w.alloc (.cells #[.slice none 0 0] 25)):=bA _
 have b2:Below w.heap.size w ((w.alloc (.cells #[.slice none 0 0] 25)).alloc (.cells #[] 23)):=b1.alloc b1.size _
 have b3:Below w.heap.size w (((w.alloc (.cells #[.slice none 0 0] 25)).alloc (.cells #[] 23)).alloc (.cells #[.int .i64 8,.int .i64 0,.int .i64 0,.string ⟨#[]⟩,.int .i64 0] 35)):=b2.alloc b2.size _
 have HR0:=X1 (h.below b3)
 have HT0:Hid (Ty w (((w.alloc (.cells #[.slice none 0 0] 25)).alloc (.cells #[] 23)).alloc (.cells #[.int .i64 8,.int .i64 0,.int .i64 0,.string ⟨#[]⟩,.int .i64 0] 35))):=X1 (.of b3)
 have p1:PW w.heap.size ((w.alloc (.cells #[.slice none 0 0] 25)).alloc (.cells #[] 23)) (.slice (some ⟨w.heap.size+1,0,none⟩) 0 0) []:=by
  have:=PW.new (B:=w.heap.size) (w.alloc (.cells #[.slice none 0 0] 25)) b1.size
  rwa [World.size_alloc] at this
 have HP0:Hid (PX (w.heap.size+3) w.heap.size (((w.alloc (.cells #[.slice none 0 0] 25)).alloc (.cells #[] 23)).alloc (.cells #[.int .i64 8,.int .i64 0,.int .i64 0,.string ⟨#[]⟩,.int .i64 0] 35)) (.slice (some ⟨w.heap.size+1,0,none⟩) 0 0) []):=X1 (by obtain ⟨vs,a,_⟩:=p1.below (bA (.cells #[.int .i64 8,.int .i64 0,.int .i64 0,.string ⟨#[]⟩,.int .i64 0] 35));exact ⟨vs,a,fun _ hi=>absurd hi (Nat.not_lt_zero _)⟩)
 have x1:((w.alloc (.cells #[.slice none 0 0] 25)).alloc (.cells #[] 23)).heap[w.heap.size]?=some (.cells #[.slice none 0 0] 25):=TyM.same (Xi w (.cells #[.slice none 0 0] 25)) (bA _)
 have HX0:Hid ((((w.alloc (.cells #[.slice none 0 0] 25)).alloc (.cells #[] 23)).alloc (.cells #[.int .i64 8,.int .i64 0,.int .i64 0,.string ⟨#[]⟩,.int .i64 0] 35)).heap[w.heap.size]?=some (.cells #[.slice none 0 0] 25)):=X1 (TyM.same x1 (bA _))
 have HY0:Hid ((((w.alloc (.cells #[.slice none 0 0] 25)).alloc (.cells #[] 23)).alloc (.cells #[.int .i64 8,.int .i64 0,.int .i64 0,.string ⟨#[]⟩,.int .i64 0] 35)).heap[w.heap.size+2]?=some (.cells #[.int .i64 8,.int .i64 0,.int .i64 0,.string ⟨#[]⟩,.int .i64 0] 35)):=X1 (by
  have:=Xi ((w.alloc (.cells #[.slice none 0 0] 25)).alloc (.cells #[] 23)) (.cells #[.int .i64 8,.int .i64 0,.int .i64 0,.string ⟨#[]⟩,.int .i64 0] 35)
  simpa using this)
 clear b1 b2 b3 p1 x1 h
 go_enter Tryz.func34,Tryz.ntmps34
 go_wp2_with fail
 refine (Rq.pick HR0.o (by omega) 4 (by omega) (by omega)).mono ?_
 rintro e w1 ⟨z,hz,rfl,hr1,b9⟩
 have c8:=X1 hr1
 have c9:=X1 (HT0.o.trans b9)
 have d7:=X1 (HP0.o.ty b9)
 have d0:=X1 (Ty.same b9 HX0.o Xv)
 have d8:=X1 (Ty.same b9 HY0.o K9)
 clear hr1 b9 HR0 HT0 HP0 HX0 HY0
 by_cases hz0:z=0
 ·subst hz0
  go_wp2_with fail
  refine (Rq.pick c8.o (by omega) 2 (by omega) (by omega)).mono ?_
  rintro e w2 ⟨z2,c2,rfl,K,g⟩
  have HR2:=X1 K
  have HT2:=X1 (c9.o.trans g)
  have HX2:=X1 (Ty.same g d0.o Xv)
  clear K g
  have HD:=X1 (fun w0=>deep_any (50+z2) w0 (by omega) (by omega))
  rw [show ((50+z2:Nat):Int)=50+(z2:Int) from by omega] at HD
  go_wp2_with fail
  refine (HD.o _).mono ?_
  rintro e w3 ⟨v3,l3,rfl,d6,p3,m3,b3⟩
  obtain ⟨g3,c3,hv3⟩:=d6.form p3
  subst hv3
  have d4:=TyM.same HX2.o b3
  have t0:=(Xo d4).1
  have ft:=(Xo d4).2
  have a7:tyAt w3 w.heap.size≠some 35:=by unfold tyAt;rw [d4];decide
  have HN3:Hid (NR (w3.setCell ⟨w.heap.size,0,none⟩ (.slice (some ⟨g3,0,none⟩) l3.length c3)) (.slice (some ⟨g3,0,none⟩) l3.length c3) l3):=X1 ⟨Yb d6.1 a7,d6.2⟩
  have HR3:=X1 (Rq.set (o:=0) (v:= .slice (some ⟨g3,0,none⟩) l3.length c3) (HR2.o.below b3) Z)
  have HT3:=X1 (KM (o:=0) (v:= .slice (some ⟨g3,0,none⟩) l3.length c3) (HT2.o.trans (.of b3)) (Nat.le_refl _))
  clear d6 b3 d4
  go_wp2
  exact bodyPost_ret (v:= .agg #[.slice (some ⟨g3,0,none⟩) l3.length c3]) (by simp [results,Tryz.results34,go_sem,t0]) rfl ⟨_,_,rfl,HN3.o,by omega,HR3.o.mono (by omega),HT3.o.tf⟩
 have hb0:((z:Int) == 0)=false:=by simp;omega
 by_cases hz1:z=1
 ·subst hz1
  go_wp2_with fail
  refine (Rq.pick c8.o (by omega) 2 (by omega) (by omega)).mono ?_
  rintro e w2 ⟨z2,c2,rfl,K,g⟩
  have D:=X1 (K.mono (show q+1+1≤q+2 by omega))
  have E:=X1 (c9.o.trans g)
  have V:=X1 (d7.o.ty g)
  have a1:=X1 V.o.pw
  have I:=X1 (Ty.same g d0.o Xv)
  have k:=X1 (Ty.same g d8.o K9)
  clear K g
  have en:(200:Int)+(z2:Int)=((200+z2:Nat):Int):=by omega
  have hn3:200+z2≤290:=by omega
  generalize 200+z2=N at *
  go_wp2_with fail
  go_loopw [3] (fun sv wr=>∃ (ls:List (List Tr.Nd)),ls.length≤N∧ls.flatten.length≤ls.length∧PW w.heap.size wr sv ls∧Rq rb vb n (q+2) wr∧Ty w wr∧wr.heap[w.heap.size]?=some (.cells #[.slice none 0 0] 25)∧wr.heap[w.heap.size+2]?=some (.cells #[.int .i64 8,.int .i64 0,.int .i64 0,.string ⟨#[]⟩,.int .i64 0] 35)) (fun sv _=>N - Qm sv)
  case atStart=>exact ⟨_,Nat.zero_le _,Nat.le_refl _,a1.o,D.o,E.o,I.o,k.o⟩
  case round =>
   obtain ⟨ls,d9,d5,Y,hR,hT,hX,hY⟩:=hrel
   have A:=X1 Y
   have C:=X1 hR
   have l:=X1 hT
   have H:=X1 hX
   have d:=X1 hY
   obtain ⟨e9,P,c7⟩:=Y
   obtain ⟨e3,e2,a5⟩:=Xc P
   subst a5
   clear P c7 hR hT hX hY
   by_cases hlt:(ls.length:Int) < ((N:Nat):Int)
   ·have hwz:=l.o.size
    go_wp2_with fail
    refine (ZF 3 _).mono ?_
    rintro e4 w4 ⟨v4,l4,rfl,f,p4,m4,b4⟩
    obtain ⟨g4,c4,L⟩:=f.form p4
    subst L
    have a9:=X1 f
    have r:=X1 (C.o.below b4)
    have j:=X1 (l.o.trans (.of b4))
    have x:=X1 (TyM.same H.o b4)
    have a3:=X1 (TyM.same d.o b4)
    obtain ⟨a8,Q,S⟩:=A.o.below b4
    have F:=X1 Q
    have a2:=X1 S
    clear f b4 Q S
    go_wp2_with (at_builtin;refine wpList_append_own_at _ rfl _ _ 106 rfl w.heap.size 23 iP _ 1 24 Tryz.underlying106 hP d3 d2 d1 rfl (by decide) _ ls.length a8 rfl (F.o.alloc _) ⟨w4.heap.size,0,none⟩ 1 1 [.slice (some ⟨g4,0,none⟩) l4.length c4] rfl rfl (XK _ [_] _ _ rfl) (by simp [Value.oneCell']) (by unfold maxLen;omega) (by omega) (by have:=j.o.size;simp;omega) ?_)
    intro v5 w5 ra U rc rd
    obtain ⟨J,c⟩:=pushed F.o a2.o a9.o p4 ra U
    obtain ⟨e8,e7,a6⟩:=Xc ra
    subst a6
    have a0:=X1 J
    have s:=X1 (r.o.pf c Z)
    have t:=X1 (c.tyM j.o (Nat.le_refl _))
    have y:=X1 (c.same x.o (by decide))
    have a4:=X1 (c.same a3.o (by decide))
    clear J c ra U rc rd
    go_wp2
    go_roundw
    case rel=>exact ⟨_,by rw [List.length_append];simp only [List.length_cons,List.length_nil];omega,by rw [List.flatten_append,List.length_append,List.length_append,fl1];simp only [List.length_cons,List.length_nil];omega,a0.o,s.o,t.o,y.o,a4.o⟩
    case measure=>simp only [Qm];omega
   ·have HO:=X1 (XF ⟨8,0,0,⟨#[]⟩,0⟩ ls _ _ N A.o.pr (by omega) (by omega) (by omega))
    unfold ndV at HO
    have y0:wr.cell? ⟨w.heap.size+2,0,none⟩=some (.int .i64 8):=by rw [World.cell?,d.o];rfl
    have y1:wr.cell? ⟨w.heap.size+2,1,none⟩=some (.int .i64 0):=by rw [World.cell?,d.o];rfl
    have y2:wr.cell? ⟨w.heap.size+2,2,none⟩=some (.int .i64 0):=by rw [World.cell?,d.o];rfl
    have y3:wr.cell? ⟨w.heap.size+2,3,none⟩=some (.string ⟨#[]⟩):=by rw [World.cell?,d.o];rfl
    have y4:wr.cell? ⟨w.heap.size+2,4,none⟩=some (.int .i64 0):=by rw [World.cell?,d.o];rfl
    go_wp2_with fail
    refine HO.o.mono ?_
    rintro e4 w4 ⟨v4,l4,rfl,f,p4,m4,b4⟩
    obtain ⟨g4,c4,L⟩:=f.form p4
    subst L
    have W:=X1 (XF ⟨21,0,0,⟨#[120]⟩,0⟩ [_] _ _ (N+1) (pr1 f p4) (by rw [fl1];omega) (by omega) (by simp))
    unfold ndV at W
    have r:=X1 ((C.o.below b4).below (bA (.cells #[.slice (some ⟨g4,0,none⟩) l4.length c4] 23)))
    have j:=X1 ((l.o.trans (.of b4)).trans (.of (bA (.cells #[.slice (some ⟨g4,0,none⟩) l4.length c4] 23))))
    have x:=X1 (TyM.same (TyM.same H.o b4) (bA (.cells #[.slice (some ⟨g4,0,none⟩) l4.length c4] 23)))
    clear f b4
    go_wp2_with fail
    refine W.o.mono ?_
    rintro e5 w5 ⟨v5,l5,rfl,O,p5,m5,b5⟩
    obtain ⟨g5,c5,c0⟩:=O.form p5
    subst c0
    have X:=X1 (XF ⟨24,0,0,⟨#[]⟩,0⟩ [_] _ _ (N+2) (pr1 O p5) (by rw [fl1];omega) (by omega) (by simp))
    unfold ndV at X
    have s:=X1 ((r.o.below b5).below (bA (.cells #[.slice (some ⟨g5,0,none⟩) l5.length c5] 23)))
    have t:=X1 ((j.o.trans (.of b5)).trans (.of (bA (.cells #[.slice (some ⟨g5,0,none⟩) l5.length c5] 23))))
    have y:=X1 (TyM.same (TyM.same x.o b5) (bA (.cells #[.slice (some ⟨g5,0,none⟩) l5.length c5] 23)))
    clear O b5
    go_wp2_with fail
    refine X.o.mono ?_
    rintro e6 w6 ⟨v6,l6,rfl,p,p6,m6,b6⟩
    obtain ⟨g6,c6,c1⟩:=p.form p6
    subst c1
    have m:=TyM.same y.o b6
    have t0:=(Xo m).1
    have ft:=(Xo m).2
    have a7:tyAt w6 w.heap.size≠some 35:=by unfold tyAt;rw [m];decide
    have b0:Hid (NR (w6.setCell ⟨w.heap.size,0,none⟩ (.slice (some ⟨g6,0,none⟩) l6.length c6)) (.slice (some ⟨g6,0,none⟩) l6.length c6) l6):=X1 ⟨Yb p.1 a7,p.2⟩
    have b7:=X1 (Rq.set (o:=0) (v:= .slice (some ⟨g6,0,none⟩) l6.length c6) (s.o.below b6) Z)
    have b8:=X1 (KM (o:=0) (v:= .slice (some ⟨g6,0,none⟩) l6.length c6) (t.o.trans (.of b6)) (Nat.le_refl _))
    clear p b6 m
    go_wp2
    exact bodyPost_ret (v:= .agg #[.slice (some ⟨g6,0,none⟩) l6.length c6]) (by simp [results,Tryz.results34,go_sem,t0]) rfl ⟨_,_,rfl,b0.o,by omega,b7.o.mono (by omega),b8.o.tf⟩
 have hb1:((z:Int) == 1)=false:=by simp;omega
 by_cases c2:z=2
 ·subst c2
  go_wp2_with fail
  refine (Rq.pick c8.o (by omega) 2 (by omega) (by omega)).mono ?_
  rintro e w2 ⟨z2,c2,rfl,K,g⟩
  have D:=X1 (K.mono (show q+1+1≤q+2 by omega))
  have E:=X1 (c9.o.trans g)
  have V:=X1 (d7.o.ty g)
  have a1:=X1 V.o.pw
  have I:=X1 (Ty.same g d0.o Xv)
  have k:=X1 (Ty.same g d8.o K9)
  clear K g
  have e1:tyAt w2 (w.heap.size+2)≠some 23:=by unfold tyAt;rw [k.o];decide
  have y0s:w2.cell? ⟨w.heap.size+2,0,none⟩=some (.int .i64 8):=by rw [World.cell?,k.o];rfl
  have f0s:w2.frozen? ⟨w.heap.size+2,0,none⟩=false:=by rw [World.frozen?,k.o];simp
  have k:Hid ((w2.setCell ⟨w.heap.size+2,0,none⟩ (.int .i64 12)).heap[w.heap.size+2]?=some (.cells #[.int .i64 12,.int .i64 0,.int .i64 0,.string ⟨#[]⟩,.int .i64 0] 35)):=X1 (KN k.o 0 (.int .i64 12))
  have I:=X1 ((Below.heap_setCell w2 ⟨w.heap.size+2,0,none⟩ (.int .i64 12) w.heap.size (show w.heap.size≠w.heap.size+2 by omega)).trans I.o)
  have E:=X1 (KM (o:=0) (v:= .int .i64 12) (b:=w.heap.size+2) E.o (by omega))
  have D:=X1 (Rq.set (o:=0) (v:= .int .i64 12) (b:=w.heap.size+2) D.o (by omega))
  have a1:=X1 ((PX.set (o:=0) (u:= .int .i64 12) V.o (show w.heap.size+2 < w.heap.size+3 by omega) e1).pw)
  have en:(8:Int)+(z2:Int)+1=((8+z2+1:Nat):Int):=by omega
  have hn3:8+z2+1≤290:=by omega
  generalize 8+z2+1=N at *
  go_wp2_with fail
  go_loopw [3] (fun sv wr=>∃ (ls:List (List Tr.Nd)),ls.length≤N∧ls.flatten.length≤ls.length∧PW w.heap.size wr sv ls∧Rq rb vb n (q+2) wr∧Ty w wr∧wr.heap[w.heap.size]?=some (.cells #[.slice none 0 0] 25)∧wr.heap[w.heap.size+2]?=some (.cells #[.int .i64 12,.int .i64 0,.int .i64 0,.string ⟨#[]⟩,.int .i64 0] 35)) (fun sv _=>N - Qm sv)
  case atStart=>exact ⟨_,Nat.zero_le _,Nat.le_refl _,a1.o,D.o,E.o,I.o,k.o⟩
  case round =>
   obtain ⟨ls,d9,d5,Y,hR,hT,hX,hY⟩:=hrel
   have A:=X1 Y
   have C:=X1 hR
   have l:=X1 hT
   have H:=X1 hX
   have d:=X1 hY
   obtain ⟨e9,P,c7⟩:=Y
   obtain ⟨e3,e2,a5⟩:=Xc P
   subst a5
   clear P c7 hR hT hX hY
   by_cases hlt:(ls.length:Int) < ((N:Nat):Int)
   ·have hwz:=l.o.size
    go_wp2_with fail
    refine (ZF 3 _).mono ?_
    rintro e4 w4 ⟨v4,l4,rfl,f,p4,m4,b4⟩
    obtain ⟨g4,c4,L⟩:=f.form p4
    subst L
    have a9:=X1 f
    have r:=X1 (C.o.below b4)
    have j:=X1 (l.o.trans (.of b4))
    have x:=X1 (TyM.same H.o b4)
    have a3:=X1 (TyM.same d.o b4)
    obtain ⟨a8,Q,S⟩:=A.o.below b4
    have F:=X1 Q
    have a2:=X1 S
    clear f b4 Q S
    go_wp2_with (at_builtin;refine wpList_append_own_at _ rfl _ _ 106 rfl w.heap.size 23 iP _ 1 24 Tryz.underlying106 hP d3 d2 d1 rfl (by decide) _ ls.length a8 rfl (F.o.alloc _) ⟨w4.heap.size,0,none⟩ 1 1 [.slice (some ⟨g4,0,none⟩) l4.length c4] rfl rfl (XK _ [_] _ _ rfl) (by simp [Value.oneCell']) (by unfold maxLen;omega) (by omega) (by have:=j.o.size;simp;omega) ?_)
    intro v5 w5 ra U rc rd
    obtain ⟨J,c⟩:=pushed F.o a2.o a9.o p4 ra U
    obtain ⟨e8,e7,a6⟩:=Xc ra
    subst a6
    have a0:=X1 J
    have s:=X1 (r.o.pf c Z)
    have t:=X1 (c.tyM j.o (Nat.le_refl _))
    have y:=X1 (c.same x.o (by decide))
    have a4:=X1 (c.same a3.o (by decide))
    clear J c ra U rc rd
    go_wp2
    go_roundw
    case rel=>exact ⟨_,by rw [List.length_append];simp only [List.length_cons,List.length_nil];omega,by rw [List.flatten_append,List.length_append,List.length_append,fl1];simp only [List.length_cons,List.length_nil];omega,a0.o,s.o,t.o,y.o,a4.o⟩
    case measure=>simp only [Qm];omega
   ·have HO:=X1 (XF ⟨12,0,0,⟨#[]⟩,0⟩ ls _ _ N A.o.pr (by omega) (by omega) (by omega))
    unfold ndV at HO
    have y0:wr.cell? ⟨w.heap.size+2,0,none⟩=some (.int .i64 12):=by rw [World.cell?,d.o];rfl
    have y1:wr.cell? ⟨w.heap.size+2,1,none⟩=some (.int .i64 0):=by rw [World.cell?,d.o];rfl
    have y2:wr.cell? ⟨w.heap.size+2,2,none⟩=some (.int .i64 0):=by rw [World.cell?,d.o];rfl
    have y3:wr.cell? ⟨w.heap.size+2,3,none⟩=some (.string ⟨#[]⟩):=by rw [World.cell?,d.o];rfl
    have y4:wr.cell? ⟨w.heap.size+2,4,none⟩=some (.int .i64 0):=by rw [World.cell?,d.o];rfl
    go_wp2_with fail
    refine HO.o.mono ?_
    rintro e4 w4 ⟨v4,l4,rfl,f,p4,m4,b4⟩
    obtain ⟨g4,c4,L⟩:=f.form p4
    subst L
    have W:=X1 (XF ⟨21,0,0,⟨#[120]⟩,0⟩ [_] _ _ (N+1) (pr1 f p4) (by rw [fl1];omega) (by omega) (by simp))
    unfold ndV at W
    have r:=X1 ((C.o.below b4).below (bA (.cells #[.slice (some ⟨g4,0,none⟩) l4.length c4] 23)))
    have j:=X1 ((l.o.trans (.of b4)).trans (.of (bA (.cells #[.slice (some ⟨g4,0,none⟩) l4.length c4] 23))))
    have x:=X1 (TyM.same (TyM.same H.o b4) (bA (.cells #[.slice (some ⟨g4,0,none⟩) l4.length c4] 23)))
    clear f b4
    go_wp2_with fail
    refine W.o.mono ?_
    rintro e5 w5 ⟨v5,l5,rfl,O,p5,m5,b5⟩
    obtain ⟨g5,c5,c0⟩:=O.form p5
    subst c0
    have X:=X1 (XF ⟨24,0,0,⟨#[]⟩,0⟩ [_] _ _ (N+2) (pr1 O p5) (by rw [fl1];omega) (by omega) (by simp))
    unfold ndV at X
    have s:=X1 ((r.o.below b5).below (bA (.cells #[.slice (some ⟨g5,0,none⟩) l5.length c5] 23)))
    have t:=X1 ((j.o.trans (.of b5)).trans (.of (bA (.cells #[.slice (some ⟨g5,0,none⟩) l5.length c5] 23))))
    have y:=X1 (TyM.same (TyM.same x.o b5) (bA (.cells #[.slice (some ⟨g5,0,none⟩) l5.length c5] 23)))
    clear O b5
    go_wp2_with fail
    refine X.o.mono ?_
    rintro e6 w6 ⟨v6,l6,rfl,p,p6,m6,b6⟩
    obtain ⟨g6,c6,c1⟩:=p.form p6
    subst c1
    have m:=TyM.same y.o b6
    have t0:=(Xo m).1
    have ft:=(Xo m).2
    have a7:tyAt w6 w.heap.size≠some 35:=by unfold tyAt;rw [m];decide
    have b0:Hid (NR (w6.setCell ⟨w.heap.size,0,none⟩ (.slice (some ⟨g6,0,none⟩) l6.length c6)) (.slice (some ⟨g6,0,none⟩) l6.length c6) l6):=X1 ⟨Yb p.1 a7,p.2⟩
    have b7:=X1 (Rq.set (o:=0) (v:= .slice (some ⟨g6,0,none⟩) l6.length c6) (s.o.below b6) Z)
    have b8:=X1 (KM (o:=0) (v:= .slice (some ⟨g6,0,none⟩) l6.length c6) (t.o.trans (.of b6)) (Nat.le_refl _))
    clear p b6 m
    go_wp2
    exact bodyPost_ret (v:= .agg #[.slice (some ⟨g6,0,none⟩) l6.length c6]) (by simp [results,Tryz.results34,go_sem,t0]) rfl ⟨_,_,rfl,b0.o,by omega,b7.o.mono (by omega),b8.o.tf⟩
 have hb2:((z:Int) == 2)=false:=by simp;omega
 go_wp2_with fail
 refine (Rq.pick c8.o (by omega) 2 (by omega) (by omega)).mono ?_
 rintro e w2 ⟨z2,c2,rfl,K,g⟩
 have D:=X1 (K.mono (show q+1+1≤q+2 by omega))
 have E:=X1 (c9.o.trans g)
 have V:=X1 (d7.o.ty g)
 have a1:=X1 V.o.pw
 have I:=X1 (Ty.same g d0.o Xv)
 have k:=X1 (Ty.same g d8.o K9)
 clear K g
 have en:(8:Int)+(z2:Int)=((8+z2:Nat):Int):=by omega
 have hn3:8+z2≤280:=by omega
 generalize 8+z2=M at *
 go_wp2_with fail
 go_loopw [3,6] (fun sv tv wr=>∃ (i:Nat) (ls:List (List Tr.Nd)),i≤M∧tv = .int .i64 (i:Int)∧ls.length≤i∧ls.flatten.length≤ls.length∧PX (w.heap.size+3) w.heap.size wr sv ls∧Rq rb vb n (q+2) wr∧Ty w wr∧wr.heap[w.heap.size]?=some (.cells #[.slice none 0 0] 25)∧wr.heap[w.heap.size+2]?=some (.cells #[.int .i64 8,.int .i64 0,.int .i64 0,.string ⟨#[]⟩,.int .i64 0] 35)) (fun _ tv _=>M - (intOf tv).toNat)
 case atStart=>exact ⟨0,[],Nat.zero_le _,rfl,Nat.le_refl _,Nat.le_refl _,V.o,D.o,E.o,I.o,k.o⟩
 case round =>
  obtain ⟨i,ls,hi,rfl,d9,d5,hPX,hR,hT,hX,hY⟩:=hrel
  have A:=X1 hPX
  have C:=X1 hR
  have l:=X1 hT
  have H:=X1 hX
  have d:=X1 hY
  have hyl:w.heap.size+2 < wr.heap.size:=World.block_lt_of_cell? wr ⟨w.heap.size+2,0,none⟩ (u:= .int .i64 8) (by rw [World.cell?,hY];rfl)
  obtain ⟨e9,P,_⟩:=hPX
  obtain ⟨e3,e2,a5⟩:=Xc P
  subst a5
  clear P hR hT hX hY
  by_cases hlt:(i:Int) < (M:Int)
  ·have HDC:=X1 (ZU i wr (by omega))
   have hdl:=Zi i
   generalize YB i=dc at *
   have hsz2:(⟨dc.toArray⟩:ByteArray).size≤1000:=by show dc.toArray.size≤_;simp;omega
   go_wp2_with fail
   refine HDC.o.mono ?_
   rintro e4 w4 ⟨rfl,b4⟩
   have e0:((⟨#[112]⟩:ByteArray)++⟨dc.toArray⟩).size≤1000000:=by rw [ByteArray.size_append];show 1+_≤_;omega
   generalize hst:(⟨#[112]⟩:ByteArray)++⟨dc.toArray⟩=st at *
   have hw4:=b4.size
   have B5:Below w4.heap.size w4 (w4.alloc (.cells #[.int .i64 19,.int .i64 0,.int .i64 0,.string st,.int .i64 0] 35)):=bA _
   have HNW:Hid (NX (w.heap.size+3) (w4.alloc (.cells #[.int .i64 19,.int .i64 0,.int .i64 0,.string st,.int .i64 0] 35)) (.slice (some ⟨w4.heap.size,0,none⟩) 1 1) [(⟨19,0,0,st,0⟩:Tr.Nd)]):=X1 ⟨World.ownsRow_lit (base:=w.heap.size+3) (e:=35) (size:=5) w4 #[.int .i64 19,.int .i64 0,.int .i64 0,.string st,.int .i64 0] 1 (by omega) (by unfold maxLen;omega) rfl,sh_one e0⟩
   have r:=X1 ((C.o.below b4).below B5)
   have j:=X1 ((l.o.trans (.of b4)).trans (.of B5))
   have x:=X1 (TyM.same (TyM.same H.o b4) B5)
   have a3:=X1 (TyM.same (TyM.same d.o b4) B5)
   obtain ⟨a8,Q,S⟩:=(A.o.ty (.of b4)).ty (.of B5)
   have F:=X1 Q
   have a2:=X1 S
   have HZ5:Hid ((w4.alloc (.cells #[.int .i64 19,.int .i64 0,.int .i64 0,.string st,.int .i64 0] 35)).heap.size=w4.heap.size+1):=X1 (by simp)
   have hz6:=j.o.size
   rw [HZ5.o] at hz6
   clear b4 B5 Q S
   go_wp2_with (at_builtin;refine wpList_append_own_at _ rfl _ _ 106 rfl w.heap.size 23 iP _ 1 24 Tryz.underlying106 hP d3 d2 d1 rfl (by decide) _ ls.length a8 rfl (F.o.alloc _) ⟨w4.heap.size+1,0,none⟩ 1 1 [.slice (some ⟨w4.heap.size,0,none⟩) 1 1] rfl rfl (XK _ [_] _ _ HZ5.o.symm) (by simp [Value.oneCell']) (by unfold maxLen;omega) (by omega) (by simp;omega) ?_)
   intro v5 w5 ra U rc rd
   obtain ⟨J,c⟩:=pushedX F.o a2.o HNW.o (by simp) ra U
   obtain ⟨e8,e7,a6⟩:=Xc ra
   subst a6
   have a0:=X1 J
   have s:=X1 (r.o.pf c Z)
   have t:=X1 (c.tyM j.o (Nat.le_refl _))
   have y:=X1 (c.same x.o (by decide))
   have a4:=X1 (c.same a3.o (by decide))
   clear J c ra U rc rd
   go_wp2
   go_roundw
   case rel=>exact ⟨i+1,_,by omega,by go_num,by rw [List.length_append];simp only [List.length_cons,List.length_nil];omega,by rw [List.flatten_append,List.length_append,List.length_append,fl1];simp only [List.length_cons,List.length_nil];omega,a0.o,s.o,t.o,y.o,a4.o⟩
   case measure=>simp [intOf];omega
  ·have V:=A
   have D:=C
   have E:=l
   have I:=H
   have k:=d
   have e1:tyAt wr (w.heap.size+2)≠some 23:=by unfold tyAt;rw [k.o];decide
   have y0s:wr.cell? ⟨w.heap.size+2,0,none⟩=some (.int .i64 8):=by rw [World.cell?,k.o];rfl
   have f0s:wr.frozen? ⟨w.heap.size+2,0,none⟩=false:=by rw [World.frozen?,k.o];simp
   have k:Hid ((wr.setCell ⟨w.heap.size+2,0,none⟩ (.int .i64 15)).heap[w.heap.size+2]?=some (.cells #[.int .i64 15,.int .i64 0,.int .i64 0,.string ⟨#[]⟩,.int .i64 0] 35)):=X1 (KN k.o 0 (.int .i64 15))
   have I:=X1 ((Below.heap_setCell wr ⟨w.heap.size+2,0,none⟩ (.int .i64 15) w.heap.size (show w.heap.size≠w.heap.size+2 by omega)).trans I.o)
   have E:=X1 (KM (o:=0) (v:= .int .i64 15) (b:=w.heap.size+2) E.o (by omega))
   have D:=X1 (Rq.set (o:=0) (v:= .int .i64 15) (b:=w.heap.size+2) D.o (by omega))
   have a1:=X1 ((PX.set (o:=0) (u:= .int .i64 15) V.o (show w.heap.size+2 < w.heap.size+3 by omega) e1).pw)
   have en2:(M:Int)+1=((M+1:Nat):Int):=by omega
   have hn4:M+1≤290:=by omega
   have hlM:ls.length≤M+1:=by omega
   generalize M+1=N at *
   go_wp2_with fail
   go_loopw [3] (fun sv wr=>∃ (ls:List (List Tr.Nd)),ls.length≤N∧ls.flatten.length≤ls.length∧PW w.heap.size wr sv ls∧Rq rb vb n (q+2) wr∧Ty w wr∧wr.heap[w.heap.size]?=some (.cells #[.slice none 0 0] 25)∧wr.heap[w.heap.size+2]?=some (.cells #[.int .i64 15,.int .i64 0,.int .i64 0,.string ⟨#[]⟩,.int .i64 0] 35)) (fun sv _=>N - Qm sv)
   case atStart=>exact ⟨_,hlM,d5,a1.o,D.o,E.o,I.o,k.o⟩
   case round =>
    obtain ⟨ls,d9,d5,Y,hR,hT,hX,hY⟩:=hrel
    have A:=X1 Y
    have C:=X1 hR
    have l:=X1 hT
    have H:=X1 hX
    have d:=X1 hY
    obtain ⟨e9,P,c7⟩:=Y
    obtain ⟨e3,e2,a5⟩:=Xc P
    subst a5
    clear P c7 hR hT hX hY
    by_cases hlt:(ls.length:Int) < ((N:Nat):Int)
    ·have hwz:=l.o.size
     go_wp2_with fail
     refine (ZF 3 _).mono ?_
     rintro e4 w4 ⟨v4,l4,rfl,f,p4,m4,b4⟩
     obtain ⟨g4,c4,L⟩:=f.form p4
     subst L
     have a9:=X1 f
     have r:=X1 (C.o.below b4)
     have j:=X1 (l.o.trans (.of b4))
     have x:=X1 (TyM.same H.o b4)
     have a3:=X1 (TyM.same d.o b4)
     obtain ⟨a8,Q,S⟩:=A.o.below b4
     have F:=X1 Q
     have a2:=X1 S
     clear f b4 Q S
     go_wp2_with (at_builtin;refine wpList_append_own_at _ rfl _ _ 106 rfl w.heap.size 23 iP _ 1 24 Tryz.underlying106 hP d3 d2 d1 rfl (by decide) _ ls.length a8 rfl (F.o.alloc _) ⟨w4.heap.size,0,none⟩ 1 1 [.slice (some ⟨g4,0,none⟩) l4.length c4] rfl rfl (XK _ [_] _ _ rfl) (by simp [Value.oneCell']) (by unfold maxLen;omega) (by omega) (by have:=j.o.size;simp;omega) ?_)
     intro v5 w5 ra U rc rd
     obtain ⟨J,c⟩:=pushed F.o a2.o a9.o p4 ra U
     obtain ⟨e8,e7,a6⟩:=Xc ra
     subst a6
     have a0:=X1 J
     have s:=X1 (r.o.pf c Z)
     have t:=X1 (c.tyM j.o (Nat.le_refl _))
     have y:=X1 (c.same x.o (by decide))
     have a4:=X1 (c.same a3.o (by decide))
     clear J c ra U rc rd
     go_wp2
     go_roundw
     case rel=>exact ⟨_,by rw [List.length_append];simp only [List.length_cons,List.length_nil];omega,by rw [List.flatten_append,List.length_append,List.length_append,fl1];simp only [List.length_cons,List.length_nil];omega,a0.o,s.o,t.o,y.o,a4.o⟩
     case measure=>simp only [Qm];omega
    ·have HO:=X1 (XF ⟨15,0,0,⟨#[]⟩,0⟩ ls _ _ N A.o.pr (by omega) (by omega) (by omega))
     unfold ndV at HO
     have y0:wr.cell? ⟨w.heap.size+2,0,none⟩=some (.int .i64 15):=by rw [World.cell?,d.o];rfl
     have y1:wr.cell? ⟨w.heap.size+2,1,none⟩=some (.int .i64 0):=by rw [World.cell?,d.o];rfl
     have y2:wr.cell? ⟨w.heap.size+2,2,none⟩=some (.int .i64 0):=by rw [World.cell?,d.o];rfl
     have y3:wr.cell? ⟨w.heap.size+2,3,none⟩=some (.string ⟨#[]⟩):=by rw [World.cell?,d.o];rfl
     have y4:wr.cell? ⟨w.heap.size+2,4,none⟩=some (.int .i64 0):=by rw [World.cell?,d.o];rfl
     go_wp2_with fail
     refine HO.o.mono ?_
     rintro e4 w4 ⟨v4,l4,rfl,f,p4,m4,b4⟩
     obtain ⟨g4,c4,L⟩:=f.form p4
     subst L
     have W:=X1 (XF ⟨21,0,0,⟨#[120]⟩,0⟩ [_] _ _ (N+1) (pr1 f p4) (by rw [fl1];omega) (by omega) (by simp))
     unfold ndV at W
     have r:=X1 ((C.o.below b4).below (bA (.cells #[.slice (some ⟨g4,0,none⟩) l4.length c4] 23)))
     have j:=X1 ((l.o.trans (.of b4)).trans (.of (bA (.cells #[.slice (some ⟨g4,0,none⟩) l4.length c4] 23))))
     have x:=X1 (TyM.same (TyM.same H.o b4) (bA (.cells #[.slice (some ⟨g4,0,none⟩) l4.length c4] 23)))
     clear f b4
     go_wp2_with fail
     refine W.o.mono ?_
     rintro e5 w5 ⟨v5,l5,rfl,O,p5,m5,b5⟩
     obtain ⟨g5,c5,c0⟩:=O.form p5
     subst c0
     have X:=X1 (XF ⟨24,0,0,⟨#[]⟩,0⟩ [_] _ _ (N+2) (pr1 O p5) (by rw [fl1];omega) (by omega) (by simp))
     unfold ndV at X
     have s:=X1 ((r.o.below b5).below (bA (.cells #[.slice (some ⟨g5,0,none⟩) l5.length c5] 23)))
     have t:=X1 ((j.o.trans (.of b5)).trans (.of (bA (.cells #[.slice (some ⟨g5,0,none⟩) l5.length c5] 23))))
     have y:=X1 (TyM.same (TyM.same x.o b5) (bA (.cells #[.slice (some ⟨g5,0,none⟩) l5.length c5] 23)))
     clear O b5
     go_wp2_with fail
     refine X.o.mono ?_
     rintro e6 w6 ⟨v6,l6,rfl,p,p6,m6,b6⟩
     obtain ⟨g6,c6,c1⟩:=p.form p6
     subst c1
     have m:=TyM.same y.o b6
     have t0:=(Xo m).1
     have ft:=(Xo m).2
     have a7:tyAt w6 w.heap.size≠some 35:=by unfold tyAt;rw [m];decide
     have b0:Hid (NR (w6.setCell ⟨w.heap.size,0,none⟩ (.slice (some ⟨g6,0,none⟩) l6.length c6)) (.slice (some ⟨g6,0,none⟩) l6.length c6) l6):=X1 ⟨Yb p.1 a7,p.2⟩
     have b7:=X1 (Rq.set (o:=0) (v:= .slice (some ⟨g6,0,none⟩) l6.length c6) (s.o.below b6) Z)
     have b8:=X1 (KM (o:=0) (v:= .slice (some ⟨g6,0,none⟩) l6.length c6) (t.o.trans (.of b6)) (Nat.le_refl _))
     clear p b6 m
     go_wp2
     exact bodyPost_ret (v:= .agg #[.slice (some ⟨g6,0,none⟩) l6.length c6]) (by simp [results,Tryz.results34,go_sem,t0]) rfl ⟨_,_,rfl,b0.o,by omega,b7.o.mono (by omega),b8.o.tf⟩
end Go.Proofs.YtimbaebigjjkaaaGreatDoor
