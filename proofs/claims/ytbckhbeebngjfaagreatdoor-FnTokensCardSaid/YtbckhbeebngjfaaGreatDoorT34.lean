/- Cu. -/
import Derived.Test.YtbckhbeebngjfaaGreatDoorT33
namespace Go.Proofs.YtbckhbeebngjfaaGreatDoor
open Go.RowKit
def sliceLen:Value→Nat
 | .slice _ n _=>n
 | _=>0
def Rq [Inhabited Bs] (rb:Nat) (vb:Value) (n q:Nat) (w:World):Prop:=∃ p,p≤q∧Rd w rb vb n p
section
variable {rb:Nat} {vb:Value} {n q:Nat} {w w':World}
theorem Rq.mono [Inhabited Bs] (h:Rq rb vb n q w) {q':Nat} (hq:q≤q'):Rq rb vb n q' w:=by
 obtain ⟨p,hp,hr⟩:=h
 exact ⟨p,by omega,hr⟩
theorem Rq.below [Inhabited Bs] (h:Rq rb vb n q w) (hb:Below w.heap.size w w'):Rq rb vb n q w':=by
 obtain ⟨p,hp,hr⟩:=h
 exact ⟨p,hp,hr.keep hb⟩
theorem Rq.lt [Inhabited Bs] (h:Rq rb vb n q w):rb < w.heap.size:=by
 obtain ⟨p,hp,hr⟩:=h
 exact hr.lt
theorem Rq.pf [Inhabited Bs] {B:Nat} (h:Rq rb vb n q w) (hb:Pf B w w') (hB:rb < B):Rq rb vb n q w':=by
 obtain ⟨p,hp,hr⟩:=h
 have hl:=hr.lt
 exact ⟨p,hp,hr.upto (fun b hq=>hb.block b (by omega) (.inl (by omega)))⟩
theorem Rq.set [Inhabited Bs] {b o:Nat} {v:Value} (h:Rq rb vb n q w) (hb:rb < b):Rq rb vb n q (w.setCell ⟨b,o,none⟩ v):=by
 obtain ⟨p,hp,hr⟩:=h
 exact ⟨p,hp,hr.upto (fun x hx=>Below.heap_setCell _ _ _ _ (show x≠b by omega))⟩
theorem Rq.pick [Inhabited Bs] (h:Rq rb vb n q w) (hq:q≤900000000) (m:Int) (h1:1≤m) (h2:m≤1000000):Calls Tryz.prog 8 #[.pointer (some ⟨rb,0,none⟩),.int .i64 m] w fun e w'=>∃ z:Nat,(z:Int) < m∧e = .returned (.int .i64 (z:Int))∧Rq rb vb n (q+1) w'∧Ty w w':=by
 obtain ⟨p,hp,hr⟩:=h
 refine (pick_any rb n p vb m w hr (by omega) h1 h2).mono ?_
 rintro e w1 ⟨z,hz,rfl,hr1,hd⟩
 exact ⟨z,hz,rfl,⟨p+1,by omega,hr1⟩,.dr hd hr.own⟩
theorem Ty.same [Inhabited Bs] (h:Ty w w') {b:Nat} {cs:Array Value} {t:TypeId} (hb:w.heap[b]?=some (.cells cs t)) (ht:¬ Mine (some t)):w'.heap[b]?=some (.cells cs t):=by
 have hl:b < w.heap.size:=by
  rcases Nat.lt_or_ge b w.heap.size with h | h
  ·exact h
  ·rw [Array.getElem?_eq_none h] at hb;cases hb
 exact (h.block b hl (by unfold tyAt;rw [hb];exact ht)).trans hb
theorem Pf.same [Inhabited Bs] {B:Nat} (h:Pf B w w') {b:Nat} {cs:Array Value} {t:TypeId} (hb:w.heap[b]?=some (.cells cs t)) (ht:t≠48):w'.heap[b]?=some (.cells cs t):=by
 have hl:b < w.heap.size:=by
  rcases Nat.lt_or_ge b w.heap.size with h | h
  ·exact h
  ·rw [Array.getElem?_eq_none h] at hb;cases hb
 exact (h.block b hl (.inr (by unfold tyAt;rw [hb];exact fun e=>ht (Option.some.inj e)))).trans hb
theorem set_above [Inhabited Bs] {b o:Nat} {v:Value} {W:World} (h:Ty w W) (hb:w.heap.size≤b):Ty w (W.setCell ⟨b,o,none⟩ v):=by
 have k:=(Below.refl 0 W).setCell (p:=⟨b,o,none⟩) (Nat.zero_le _) v
 have e:∀ q,q < w.heap.size→(W.setCell ⟨b,o,none⟩ v).heap[q]?=W.heap[q]?:=fun q hq=>Below.heap_setCell _ _ _ _ (show q≠b by omega)
 exact ⟨k.os.trans h.os,k.tape.trans h.tape,k.output.trans h.output,Nat.le_trans h.size k.size,fun q h1 h2=>(e q h1).trans (h.block q h1 h2),fun hn q h1 h2=>by
  obtain ⟨x1,x2⟩:=h.two hn q h1 h2
  exact ⟨(tyAt_block (e q h1)).trans x1,(World.cell?_of_block (a:=⟨q,2,none⟩) (e q h1)).trans x2⟩,fun q h1 h2=>(e q h1).trans (h.old q h1 h2)⟩
end
theorem TyM.same [Inhabited Bs] {w w':World} {b:Nat} {o:Obj} (hb:w.heap[b]?=some o) (h:Below w.heap.size w w'):w'.heap[b]?=some o:=by
 have hl:b < w.heap.size:=by
  rcases Nat.lt_or_ge b w.heap.size with h | h
  ·exact h
  ·rw [Array.getElem?_eq_none h] at hb;cases hb
 exact (h.block b hl).trans hb
theorem mine_tree [Inhabited Bs]:¬ Mine (some 50):=by unfold Mine;simp
theorem heap_setC [Inhabited Bs] {w:World} {b:Nat} {cs:Array Value} {t:TypeId} (h:w.heap[b]?=some (.cells cs t)) (o:Nat) (v:Value):(w.setCell ⟨b,o,none⟩ v).heap[b]?=some (.cells (cs.setIfInBounds o v) t):=by
 unfold World.setCell
 simp only [Array.getElem?_modify,h]
 rfl
def NX (c:Nat) (w:World) (v:Value) (l:List Tr.Nd):Prop:=w.ownsRow c 82 5 v l.length (Tr.cellsOf l)∧Sh l
def PX (c B:Nat) (w:World) (v:Value) (ls:List (List Tr.Nd)):Prop:=∃ vs:List Value,w.ownsRow B 48 1 v ls.length vs∧∀ i (h:i < ls.length),∃ u,vs[i]?=some u∧NX c w u ls[i]∧0 < ls[i].length
theorem PX.pw [Inhabited Bs] {c B:Nat} {w:World} {v:Value} {ls:List (List Tr.Nd)} (h:PX c B w v ls):PW B w v ls:=by
 obtain ⟨vs,h1,h2⟩:=h
 exact ⟨vs,h1,fun i hi=>by obtain ⟨u,a,b,d⟩:=h2 i hi;exact ⟨u,a,⟨rowLeC b.1 (Nat.zero_le _),b.2⟩,d⟩⟩
theorem PX.ty [Inhabited Bs] {c B:Nat} {w w':World} {v:Value} {ls:List (List Tr.Nd)} (h:PX c B w v ls) (hb:Ty w w'):PX c B w' v ls:=by
 obtain ⟨vs,h1,h2⟩:=h
 exact ⟨vs,row_ty h1 hb mine_nodes,fun i hi=>by obtain ⟨u,a,b,d⟩:=h2 i hi;exact ⟨u,a,⟨row_ty b.1 hb mine_node,b.2⟩,d⟩⟩
theorem PX.set [Inhabited Bs] {c B b o:Nat} {w:World} {v u:Value} {ls:List (List Tr.Nd)} (h:PX c B w v ls) (hb:b < c) (ht:tyAt w b≠some 48):PX c B (w.setCell ⟨b,o,none⟩ u) v ls:=by
 obtain ⟨vs,h1,h2⟩:=h
 exact ⟨vs,row_setC h1 ht,fun i hi=>by obtain ⟨u',a,k,d⟩:=h2 i hi;exact ⟨u',a,⟨ownsRow_setCell_below k.1 hb _,k.2⟩,d⟩⟩
theorem pushedX [Inhabited Bs] {c B:Nat} {W W':World} {O:Obj} {v v' u:Value} {l:List Tr.Nd} {ls:List (List Tr.Nd)} {vs:List Value} (h1:W.ownsRow B 48 1 v ls.length vs) (h2:∀ i (h:i < ls.length),∃ u,vs[i]?=some u∧NX c W u ls[i]∧0 < ls[i].length) (hu:NX c W u l) (hl:0 < l.length) (hx:W'.ownsRow B 48 1 v' (ls.length+1) (vs++[u])) (hg:(W.alloc O).grownBy W' v.ownBlock):PX c B W' v' (ls++[l])∧Pf B W W':=by
 obtain ⟨_,hpf⟩:=pushed h1 (fun i hi=>by obtain ⟨u,a,b,d⟩:=h2 i hi;exact ⟨u,a,⟨rowLeC b.1 (Nat.zero_le _),b.2⟩,d⟩) ⟨rowLeC hu.1 (Nat.zero_le _),hu.2⟩ hl hx hg
 have hvl:vs.length=ls.length:=by have:=h1.1;omega
 refine ⟨⟨vs++[u],by rw [List.length_append];exact hx,fun i hi=>?_⟩,hpf⟩
 by_cases hk:i < ls.length
 ·obtain ⟨u',a,b,d⟩:=h2 i hk
  rw [List.getElem_append_left hk]
  exact ⟨u',by rw [List.getElem?_append_left (by omega)];exact a,⟨hpf.row b.1 (by decide),b.2⟩,d⟩
 ·have hi':i=ls.length:=by simp only [List.length_append,List.length_cons,List.length_nil] at hi;omega
  subst hi'
  have e:(ls++[l])[ls.length]'hi=l:=by simp
  rw [e]
  exact ⟨u,by rw [List.getElem?_append_right (by omega),hvl];simp,⟨hpf.row hu.1 (by decide),hu.2⟩,hl⟩
def RTk [Inhabited Bs] (rb:Nat) (vb:Value) (n q m:Nat) (w:World) (e:Ending) (w':World):Prop:=∃ v l,e = .returned (.agg #[v])∧NR w' v l∧l.length≤m∧Rq rb vb n (q+m) w'∧Tf w w'
variable (rb:Nat) (vb:Value) (n:Nat)
set_option maxRecDepth 100000 in
set_option maxHeartbeats 8000000 in
theorem edge_any [Inhabited Bs] (q:Nat) (w:World) (h:Rq rb vb n q w) (hq:q≤800000000):Calls Tryz.prog 39 #[.pointer (some ⟨rb,0,none⟩)] w fun e w'=>RTk rb vb n q 300 w e w':=by
 obtain ⟨iP,hP,hPz,hPs,hPb⟩:=info_parts Tryz.infoNdsC
 have hrw:rb < w.heap.size:=h.lt
 have b1:Below w.heap.size w (w.alloc (.cells #[.slice none 0 0] 50)):=bA _
 have b2:Below w.heap.size w ((w.alloc (.cells #[.slice none 0 0] 50)).alloc (.cells #[] 48)):=b1.alloc b1.size _
 have b3:Below w.heap.size w (((w.alloc (.cells #[.slice none 0 0] 50)).alloc (.cells #[] 48)).alloc (.cells #[.int .i64 8,.int .i64 0,.int .i64 0,.string ⟨#[]⟩,.int .i64 0] 82)):=b2.alloc b2.size _
 have HR0:=hide (h.below b3)
 have HT0:Hid (Ty w (((w.alloc (.cells #[.slice none 0 0] 50)).alloc (.cells #[] 48)).alloc (.cells #[.int .i64 8,.int .i64 0,.int .i64 0,.string ⟨#[]⟩,.int .i64 0] 82))):=hide (.of b3)
 have p1:PW w.heap.size ((w.alloc (.cells #[.slice none 0 0] 50)).alloc (.cells #[] 48)) (.slice (some ⟨w.heap.size+1,0,none⟩) 0 0) []:=by
  have:=PW.new (B:=w.heap.size) (w.alloc (.cells #[.slice none 0 0] 50)) b1.size
  rwa [World.size_alloc] at this
 have HP0:Hid (PX (w.heap.size+3) w.heap.size (((w.alloc (.cells #[.slice none 0 0] 50)).alloc (.cells #[] 48)).alloc (.cells #[.int .i64 8,.int .i64 0,.int .i64 0,.string ⟨#[]⟩,.int .i64 0] 82)) (.slice (some ⟨w.heap.size+1,0,none⟩) 0 0) []):=hide (by obtain ⟨vs,a,_⟩:=p1.below (bA (.cells #[.int .i64 8,.int .i64 0,.int .i64 0,.string ⟨#[]⟩,.int .i64 0] 82));exact ⟨vs,a,fun _ hi=>absurd hi (Nat.not_lt_zero _)⟩)
 have x1:((w.alloc (.cells #[.slice none 0 0] 50)).alloc (.cells #[] 48)).heap[w.heap.size]?=some (.cells #[.slice none 0 0] 50):=TyM.same (heap_alloc_new' w (.cells #[.slice none 0 0] 50)) (bA _)
 have HX0:Hid ((((w.alloc (.cells #[.slice none 0 0] 50)).alloc (.cells #[] 48)).alloc (.cells #[.int .i64 8,.int .i64 0,.int .i64 0,.string ⟨#[]⟩,.int .i64 0] 82)).heap[w.heap.size]?=some (.cells #[.slice none 0 0] 50)):=hide (TyM.same x1 (bA _))
 have HY0:Hid ((((w.alloc (.cells #[.slice none 0 0] 50)).alloc (.cells #[] 48)).alloc (.cells #[.int .i64 8,.int .i64 0,.int .i64 0,.string ⟨#[]⟩,.int .i64 0] 82)).heap[w.heap.size+2]?=some (.cells #[.int .i64 8,.int .i64 0,.int .i64 0,.string ⟨#[]⟩,.int .i64 0] 82)):=hide (by
  have:=heap_alloc_new' ((w.alloc (.cells #[.slice none 0 0] 50)).alloc (.cells #[] 48)) (.cells #[.int .i64 8,.int .i64 0,.int .i64 0,.string ⟨#[]⟩,.int .i64 0] 82)
  simpa using this)
 clear b1 b2 b3 p1 x1 h
 go_enter Tryz.func39,Tryz.ntmps39
 go_wp2_with fail
 refine (Rq.pick HR0.out (by omega) 4 (by omega) (by omega)).mono ?_
 rintro e w1 ⟨z,hz,rfl,hr1,ht1⟩
 have HR1:=hide hr1
 have HT1:=hide (HT0.out.trans ht1)
 have HP1:=hide (HP0.out.ty ht1)
 have HX1:=hide (Ty.same ht1 HX0.out mine_tree)
 have HY1:=hide (Ty.same ht1 HY0.out mine_node)
 clear hr1 ht1 HR0 HT0 HP0 HX0 HY0
 by_cases hz0:z=0
 ·subst hz0
  go_wp2_with fail
  refine (Rq.pick HR1.out (by omega) 2 (by omega) (by omega)).mono ?_
  rintro e w2 ⟨z2,hz2,rfl,hr2,ht2⟩
  have HR2:=hide hr2
  have HT2:=hide (HT1.out.trans ht2)
  have HX2:=hide (Ty.same ht2 HX1.out mine_tree)
  clear hr2 ht2
  have HD:=hide (fun w0=>deep_any (50+z2) w0 (by omega) (by omega))
  rw [show ((50+z2:Nat):Int)=50+(z2:Int) from by omega] at HD
  go_wp2_with fail
  refine (HD.out _).mono ?_
  rintro e w3 ⟨v3,l3,rfl,nr3,p3,m3,b3⟩
  obtain ⟨g3,c3,hv3⟩:=nr3.form p3
  subst hv3
  have hX3:=TyM.same HX2.out b3
  have t0:=(box_cell hX3).1
  have ft:=(box_cell hX3).2
  have hty:tyAt w3 w.heap.size≠some 82:=by unfold tyAt;rw [hX3];decide
  have HN3:Hid (NR (w3.setCell ⟨w.heap.size,0,none⟩ (.slice (some ⟨g3,0,none⟩) l3.length c3)) (.slice (some ⟨g3,0,none⟩) l3.length c3) l3):=hide ⟨row_setC nr3.1 hty,nr3.2⟩
  have HR3:=hide (Rq.set (o:=0) (v:= .slice (some ⟨g3,0,none⟩) l3.length c3) (HR2.out.below b3) hrw)
  have HT3:=hide (set_above (o:=0) (v:= .slice (some ⟨g3,0,none⟩) l3.length c3) (HT2.out.trans (.of b3)) (Nat.le_refl _))
  clear nr3 b3 hX3
  go_wp2
  exact bodyPost_ret (v:= .agg #[.slice (some ⟨g3,0,none⟩) l3.length c3]) (by simp [results,Tryz.results39,go_sem,t0]) rfl ⟨_,_,rfl,HN3.out,by omega,HR3.out.mono (by omega),HT3.out.tf⟩
 have hb0:((z:Int) == 0)=false:=by simp;omega
 by_cases hz1:z=1
 ·subst hz1
  go_wp2_with fail
  refine (Rq.pick HR1.out (by omega) 2 (by omega) (by omega)).mono ?_
  rintro e w2 ⟨z2,hz2,rfl,hr2,ht2⟩
  have HRs:=hide (hr2.mono (show q+1+1≤q+2 by omega))
  have HTs:=hide (HT1.out.trans ht2)
  have HPx:=hide (HP1.out.ty ht2)
  have HPs:=hide HPx.out.pw
  have HXs:=hide (Ty.same ht2 HX1.out mine_tree)
  have HYs:=hide (Ty.same ht2 HY1.out mine_node)
  clear hr2 ht2
  have en:(200:Int)+(z2:Int)=((200+z2:Nat):Int):=by omega
  have hn3:200+z2≤290:=by omega
  generalize 200+z2=N at *
  go_wp2_with fail
  go_loopw [3] (fun sv wr=>∃ (ls:List (List Tr.Nd)),ls.length≤N∧ls.flatten.length≤ls.length∧PW w.heap.size wr sv ls∧Rq rb vb n (q+2) wr∧Ty w wr∧wr.heap[w.heap.size]?=some (.cells #[.slice none 0 0] 50)∧wr.heap[w.heap.size+2]?=some (.cells #[.int .i64 8,.int .i64 0,.int .i64 0,.string ⟨#[]⟩,.int .i64 0] 82)) (fun sv _=>N - sliceLen sv)
  case atStart=>exact ⟨_,Nat.zero_le _,Nat.le_refl _,HPs.out,HRs.out,HTs.out,HXs.out,HYs.out⟩
  case round =>
   obtain ⟨ls,hle,hfl,hPW,hR,hT,hX,hY⟩:=hrel
   have HPr:=hide hPW
   have HRr:=hide hR
   have HTr:=hide hT
   have HXr:=hide hX
   have HYr:=hide hY
   obtain ⟨vs0,pv0,pw0⟩:=hPW
   obtain ⟨pp0,pc0,hp0⟩:=row_formP pv0
   subst hp0
   clear pv0 pw0 hR hT hX hY
   by_cases hlt:(ls.length:Int) < ((N:Nat):Int)
   ·have hwz:=HTr.out.size
    go_wp2_with fail
    refine (intN_any 3 _).mono ?_
    rintro e4 w4 ⟨v4,l4,rfl,nr4,p4,m4,b4⟩
    obtain ⟨g4,c4,hv4⟩:=nr4.form p4
    subst hv4
    have HN4:=hide nr4
    have HR4:=hide (HRr.out.below b4)
    have HT4:=hide (HTr.out.trans (.of b4))
    have HX4:=hide (TyM.same HXr.out b4)
    have HY4:=hide (TyM.same HYr.out b4)
    obtain ⟨vs4,pv4,pw4⟩:=HPr.out.below b4
    have HV4:=hide pv4
    have HW4:=hide pw4
    clear nr4 b4 pv4 pw4
    go_wp2_with (at_builtin;refine wpList_append_own_at _ rfl _ _ 94 rfl w.heap.size 48 iP _ 1 24 Tryz.underlying94 hP hPz hPs hPb rfl (by decide) _ ls.length vs4 rfl (HV4.out.alloc _) ⟨w4.heap.size,0,none⟩ 1 1 [.slice (some ⟨g4,0,none⟩) l4.length c4] rfl rfl (cells_litC _ [_] _ _ rfl) (by simp [Value.oneCell']) (by unfold maxLen;omega) (by omega) (by have:=HT4.out.size;simp;omega) ?_)
    intro v5 w5 ra rb_ rc rd
    obtain ⟨hp5,hpf5⟩:=pushed HV4.out HW4.out HN4.out p4 ra rb_
    obtain ⟨sp5,sc5,hs5⟩:=row_formP ra
    subst hs5
    have HP5:=hide hp5
    have HR5:=hide (HR4.out.pf hpf5 hrw)
    have HT5:=hide (hpf5.tyM HT4.out (Nat.le_refl _))
    have HX5:=hide (hpf5.same HX4.out (by decide))
    have HY5:=hide (hpf5.same HY4.out (by decide))
    clear hp5 hpf5 ra rb_ rc rd
    go_wp2
    go_roundw
    case rel=>exact ⟨_,by rw [List.length_append];simp only [List.length_cons,List.length_nil];omega,by rw [List.flatten_append,List.length_append,List.length_append,fl1];simp only [List.length_cons,List.length_nil];omega,HP5.out,HR5.out,HT5.out,HX5.out,HY5.out⟩
    case measure=>simp only [sliceLen];omega
   ·have HO:=hide (over_mk ⟨8,0,0,⟨#[]⟩,0⟩ ls _ _ N HPr.out.pr (by omega) (by omega) (by omega))
    unfold ndV at HO
    have y0:wr.cell? ⟨w.heap.size+2,0,none⟩=some (.int .i64 8):=by rw [World.cell?,HYr.out];rfl
    have y1:wr.cell? ⟨w.heap.size+2,1,none⟩=some (.int .i64 0):=by rw [World.cell?,HYr.out];rfl
    have y2:wr.cell? ⟨w.heap.size+2,2,none⟩=some (.int .i64 0):=by rw [World.cell?,HYr.out];rfl
    have y3:wr.cell? ⟨w.heap.size+2,3,none⟩=some (.string ⟨#[]⟩):=by rw [World.cell?,HYr.out];rfl
    have y4:wr.cell? ⟨w.heap.size+2,4,none⟩=some (.int .i64 0):=by rw [World.cell?,HYr.out];rfl
    go_wp2_with fail
    refine HO.out.mono ?_
    rintro e4 w4 ⟨v4,l4,rfl,nr4,p4,m4,b4⟩
    obtain ⟨g4,c4,hv4⟩:=nr4.form p4
    subst hv4
    have HO2:=hide (over_mk ⟨21,0,0,⟨#[120]⟩,0⟩ [_] _ _ (N+1) (pr1 nr4 p4) (by rw [fl1];omega) (by omega) (by simp))
    unfold ndV at HO2
    have HR4:=hide ((HRr.out.below b4).below (bA (.cells #[.slice (some ⟨g4,0,none⟩) l4.length c4] 48)))
    have HT4:=hide ((HTr.out.trans (.of b4)).trans (.of (bA (.cells #[.slice (some ⟨g4,0,none⟩) l4.length c4] 48))))
    have HX4:=hide (TyM.same (TyM.same HXr.out b4) (bA (.cells #[.slice (some ⟨g4,0,none⟩) l4.length c4] 48)))
    clear nr4 b4
    go_wp2_with fail
    refine HO2.out.mono ?_
    rintro e5 w5 ⟨v5,l5,rfl,nr5,p5,m5,b5⟩
    obtain ⟨g5,c5,hv5⟩:=nr5.form p5
    subst hv5
    have HO3:=hide (over_mk ⟨24,0,0,⟨#[]⟩,0⟩ [_] _ _ (N+2) (pr1 nr5 p5) (by rw [fl1];omega) (by omega) (by simp))
    unfold ndV at HO3
    have HR5:=hide ((HR4.out.below b5).below (bA (.cells #[.slice (some ⟨g5,0,none⟩) l5.length c5] 48)))
    have HT5:=hide ((HT4.out.trans (.of b5)).trans (.of (bA (.cells #[.slice (some ⟨g5,0,none⟩) l5.length c5] 48))))
    have HX5:=hide (TyM.same (TyM.same HX4.out b5) (bA (.cells #[.slice (some ⟨g5,0,none⟩) l5.length c5] 48)))
    clear nr5 b5
    go_wp2_with fail
    refine HO3.out.mono ?_
    rintro e6 w6 ⟨v6,l6,rfl,nr6,p6,m6,b6⟩
    obtain ⟨g6,c6,hv6⟩:=nr6.form p6
    subst hv6
    have hX6:=TyM.same HX5.out b6
    have t0:=(box_cell hX6).1
    have ft:=(box_cell hX6).2
    have hty:tyAt w6 w.heap.size≠some 82:=by unfold tyAt;rw [hX6];decide
    have HN6:Hid (NR (w6.setCell ⟨w.heap.size,0,none⟩ (.slice (some ⟨g6,0,none⟩) l6.length c6)) (.slice (some ⟨g6,0,none⟩) l6.length c6) l6):=hide ⟨row_setC nr6.1 hty,nr6.2⟩
    have HR6:=hide (Rq.set (o:=0) (v:= .slice (some ⟨g6,0,none⟩) l6.length c6) (HR5.out.below b6) hrw)
    have HT6:=hide (set_above (o:=0) (v:= .slice (some ⟨g6,0,none⟩) l6.length c6) (HT5.out.trans (.of b6)) (Nat.le_refl _))
    clear nr6 b6 hX6
    go_wp2
    exact bodyPost_ret (v:= .agg #[.slice (some ⟨g6,0,none⟩) l6.length c6]) (by simp [results,Tryz.results39,go_sem,t0]) rfl ⟨_,_,rfl,HN6.out,by omega,HR6.out.mono (by omega),HT6.out.tf⟩
 have hb1:((z:Int) == 1)=false:=by simp;omega
 by_cases hz2:z=2
 ·subst hz2
  go_wp2_with fail
  refine (Rq.pick HR1.out (by omega) 2 (by omega) (by omega)).mono ?_
  rintro e w2 ⟨z2,hz2,rfl,hr2,ht2⟩
  have HRs:=hide (hr2.mono (show q+1+1≤q+2 by omega))
  have HTs:=hide (HT1.out.trans ht2)
  have HPx:=hide (HP1.out.ty ht2)
  have HPs:=hide HPx.out.pw
  have HXs:=hide (Ty.same ht2 HX1.out mine_tree)
  have HYs:=hide (Ty.same ht2 HY1.out mine_node)
  clear hr2 ht2
  have hyt:tyAt w2 (w.heap.size+2)≠some 48:=by unfold tyAt;rw [HYs.out];decide
  have y0s:w2.cell? ⟨w.heap.size+2,0,none⟩=some (.int .i64 8):=by rw [World.cell?,HYs.out];rfl
  have f0s:w2.frozen? ⟨w.heap.size+2,0,none⟩=false:=by rw [World.frozen?,HYs.out];simp
  have HYs:Hid ((w2.setCell ⟨w.heap.size+2,0,none⟩ (.int .i64 12)).heap[w.heap.size+2]?=some (.cells #[.int .i64 12,.int .i64 0,.int .i64 0,.string ⟨#[]⟩,.int .i64 0] 82)):=hide (heap_setC HYs.out 0 (.int .i64 12))
  have HXs:=hide ((Below.heap_setCell w2 ⟨w.heap.size+2,0,none⟩ (.int .i64 12) w.heap.size (show w.heap.size≠w.heap.size+2 by omega)).trans HXs.out)
  have HTs:=hide (set_above (o:=0) (v:= .int .i64 12) (b:=w.heap.size+2) HTs.out (by omega))
  have HRs:=hide (Rq.set (o:=0) (v:= .int .i64 12) (b:=w.heap.size+2) HRs.out (by omega))
  have HPs:=hide ((PX.set (o:=0) (u:= .int .i64 12) HPx.out (show w.heap.size+2 < w.heap.size+3 by omega) hyt).pw)
  have en:(8:Int)+(z2:Int)+1=((8+z2+1:Nat):Int):=by omega
  have hn3:8+z2+1≤290:=by omega
  generalize 8+z2+1=N at *
  go_wp2_with fail
  go_loopw [3] (fun sv wr=>∃ (ls:List (List Tr.Nd)),ls.length≤N∧ls.flatten.length≤ls.length∧PW w.heap.size wr sv ls∧Rq rb vb n (q+2) wr∧Ty w wr∧wr.heap[w.heap.size]?=some (.cells #[.slice none 0 0] 50)∧wr.heap[w.heap.size+2]?=some (.cells #[.int .i64 12,.int .i64 0,.int .i64 0,.string ⟨#[]⟩,.int .i64 0] 82)) (fun sv _=>N - sliceLen sv)
  case atStart=>exact ⟨_,Nat.zero_le _,Nat.le_refl _,HPs.out,HRs.out,HTs.out,HXs.out,HYs.out⟩
  case round =>
   obtain ⟨ls,hle,hfl,hPW,hR,hT,hX,hY⟩:=hrel
   have HPr:=hide hPW
   have HRr:=hide hR
   have HTr:=hide hT
   have HXr:=hide hX
   have HYr:=hide hY
   obtain ⟨vs0,pv0,pw0⟩:=hPW
   obtain ⟨pp0,pc0,hp0⟩:=row_formP pv0
   subst hp0
   clear pv0 pw0 hR hT hX hY
   by_cases hlt:(ls.length:Int) < ((N:Nat):Int)
   ·have hwz:=HTr.out.size
    go_wp2_with fail
    refine (intN_any 3 _).mono ?_
    rintro e4 w4 ⟨v4,l4,rfl,nr4,p4,m4,b4⟩
    obtain ⟨g4,c4,hv4⟩:=nr4.form p4
    subst hv4
    have HN4:=hide nr4
    have HR4:=hide (HRr.out.below b4)
    have HT4:=hide (HTr.out.trans (.of b4))
    have HX4:=hide (TyM.same HXr.out b4)
    have HY4:=hide (TyM.same HYr.out b4)
    obtain ⟨vs4,pv4,pw4⟩:=HPr.out.below b4
    have HV4:=hide pv4
    have HW4:=hide pw4
    clear nr4 b4 pv4 pw4
    go_wp2_with (at_builtin;refine wpList_append_own_at _ rfl _ _ 94 rfl w.heap.size 48 iP _ 1 24 Tryz.underlying94 hP hPz hPs hPb rfl (by decide) _ ls.length vs4 rfl (HV4.out.alloc _) ⟨w4.heap.size,0,none⟩ 1 1 [.slice (some ⟨g4,0,none⟩) l4.length c4] rfl rfl (cells_litC _ [_] _ _ rfl) (by simp [Value.oneCell']) (by unfold maxLen;omega) (by omega) (by have:=HT4.out.size;simp;omega) ?_)
    intro v5 w5 ra rb_ rc rd
    obtain ⟨hp5,hpf5⟩:=pushed HV4.out HW4.out HN4.out p4 ra rb_
    obtain ⟨sp5,sc5,hs5⟩:=row_formP ra
    subst hs5
    have HP5:=hide hp5
    have HR5:=hide (HR4.out.pf hpf5 hrw)
    have HT5:=hide (hpf5.tyM HT4.out (Nat.le_refl _))
    have HX5:=hide (hpf5.same HX4.out (by decide))
    have HY5:=hide (hpf5.same HY4.out (by decide))
    clear hp5 hpf5 ra rb_ rc rd
    go_wp2
    go_roundw
    case rel=>exact ⟨_,by rw [List.length_append];simp only [List.length_cons,List.length_nil];omega,by rw [List.flatten_append,List.length_append,List.length_append,fl1];simp only [List.length_cons,List.length_nil];omega,HP5.out,HR5.out,HT5.out,HX5.out,HY5.out⟩
    case measure=>simp only [sliceLen];omega
   ·have HO:=hide (over_mk ⟨12,0,0,⟨#[]⟩,0⟩ ls _ _ N HPr.out.pr (by omega) (by omega) (by omega))
    unfold ndV at HO
    have y0:wr.cell? ⟨w.heap.size+2,0,none⟩=some (.int .i64 12):=by rw [World.cell?,HYr.out];rfl
    have y1:wr.cell? ⟨w.heap.size+2,1,none⟩=some (.int .i64 0):=by rw [World.cell?,HYr.out];rfl
    have y2:wr.cell? ⟨w.heap.size+2,2,none⟩=some (.int .i64 0):=by rw [World.cell?,HYr.out];rfl
    have y3:wr.cell? ⟨w.heap.size+2,3,none⟩=some (.string ⟨#[]⟩):=by rw [World.cell?,HYr.out];rfl
    have y4:wr.cell? ⟨w.heap.size+2,4,none⟩=some (.int .i64 0):=by rw [World.cell?,HYr.out];rfl
    go_wp2_with fail
    refine HO.out.mono ?_
    rintro e4 w4 ⟨v4,l4,rfl,nr4,p4,m4,b4⟩
    obtain ⟨g4,c4,hv4⟩:=nr4.form p4
    subst hv4
    have HO2:=hide (over_mk ⟨21,0,0,⟨#[120]⟩,0⟩ [_] _ _ (N+1) (pr1 nr4 p4) (by rw [fl1];omega) (by omega) (by simp))
    unfold ndV at HO2
    have HR4:=hide ((HRr.out.below b4).below (bA (.cells #[.slice (some ⟨g4,0,none⟩) l4.length c4] 48)))
    have HT4:=hide ((HTr.out.trans (.of b4)).trans (.of (bA (.cells #[.slice (some ⟨g4,0,none⟩) l4.length c4] 48))))
    have HX4:=hide (TyM.same (TyM.same HXr.out b4) (bA (.cells #[.slice (some ⟨g4,0,none⟩) l4.length c4] 48)))
    clear nr4 b4
    go_wp2_with fail
    refine HO2.out.mono ?_
    rintro e5 w5 ⟨v5,l5,rfl,nr5,p5,m5,b5⟩
    obtain ⟨g5,c5,hv5⟩:=nr5.form p5
    subst hv5
    have HO3:=hide (over_mk ⟨24,0,0,⟨#[]⟩,0⟩ [_] _ _ (N+2) (pr1 nr5 p5) (by rw [fl1];omega) (by omega) (by simp))
    unfold ndV at HO3
    have HR5:=hide ((HR4.out.below b5).below (bA (.cells #[.slice (some ⟨g5,0,none⟩) l5.length c5] 48)))
    have HT5:=hide ((HT4.out.trans (.of b5)).trans (.of (bA (.cells #[.slice (some ⟨g5,0,none⟩) l5.length c5] 48))))
    have HX5:=hide (TyM.same (TyM.same HX4.out b5) (bA (.cells #[.slice (some ⟨g5,0,none⟩) l5.length c5] 48)))
    clear nr5 b5
    go_wp2_with fail
    refine HO3.out.mono ?_
    rintro e6 w6 ⟨v6,l6,rfl,nr6,p6,m6,b6⟩
    obtain ⟨g6,c6,hv6⟩:=nr6.form p6
    subst hv6
    have hX6:=TyM.same HX5.out b6
    have t0:=(box_cell hX6).1
    have ft:=(box_cell hX6).2
    have hty:tyAt w6 w.heap.size≠some 82:=by unfold tyAt;rw [hX6];decide
    have HN6:Hid (NR (w6.setCell ⟨w.heap.size,0,none⟩ (.slice (some ⟨g6,0,none⟩) l6.length c6)) (.slice (some ⟨g6,0,none⟩) l6.length c6) l6):=hide ⟨row_setC nr6.1 hty,nr6.2⟩
    have HR6:=hide (Rq.set (o:=0) (v:= .slice (some ⟨g6,0,none⟩) l6.length c6) (HR5.out.below b6) hrw)
    have HT6:=hide (set_above (o:=0) (v:= .slice (some ⟨g6,0,none⟩) l6.length c6) (HT5.out.trans (.of b6)) (Nat.le_refl _))
    clear nr6 b6 hX6
    go_wp2
    exact bodyPost_ret (v:= .agg #[.slice (some ⟨g6,0,none⟩) l6.length c6]) (by simp [results,Tryz.results39,go_sem,t0]) rfl ⟨_,_,rfl,HN6.out,by omega,HR6.out.mono (by omega),HT6.out.tf⟩
 have hb2:((z:Int) == 2)=false:=by simp;omega
 go_wp2_with fail
 refine (Rq.pick HR1.out (by omega) 2 (by omega) (by omega)).mono ?_
 rintro e w2 ⟨z2,hz2,rfl,hr2,ht2⟩
 have HRs:=hide (hr2.mono (show q+1+1≤q+2 by omega))
 have HTs:=hide (HT1.out.trans ht2)
 have HPx:=hide (HP1.out.ty ht2)
 have HPs:=hide HPx.out.pw
 have HXs:=hide (Ty.same ht2 HX1.out mine_tree)
 have HYs:=hide (Ty.same ht2 HY1.out mine_node)
 clear hr2 ht2
 have en:(8:Int)+(z2:Int)=((8+z2:Nat):Int):=by omega
 have hn3:8+z2≤280:=by omega
 generalize 8+z2=M at *
 go_wp2_with fail
 go_loopw [3,6] (fun sv tv wr=>∃ (i:Nat) (ls:List (List Tr.Nd)),i≤M∧tv = .int .i64 (i:Int)∧ls.length≤i∧ls.flatten.length≤ls.length∧PX (w.heap.size+3) w.heap.size wr sv ls∧Rq rb vb n (q+2) wr∧Ty w wr∧wr.heap[w.heap.size]?=some (.cells #[.slice none 0 0] 50)∧wr.heap[w.heap.size+2]?=some (.cells #[.int .i64 8,.int .i64 0,.int .i64 0,.string ⟨#[]⟩,.int .i64 0] 82)) (fun _ tv _=>M - (intOf tv).toNat)
 case atStart=>exact ⟨0,[],Nat.zero_le _,rfl,Nat.le_refl _,Nat.le_refl _,HPx.out,HRs.out,HTs.out,HXs.out,HYs.out⟩
 case round =>
  obtain ⟨i,ls,hi,rfl,hle,hfl,hPX,hR,hT,hX,hY⟩:=hrel
  have HPr:=hide hPX
  have HRr:=hide hR
  have HTr:=hide hT
  have HXr:=hide hX
  have HYr:=hide hY
  have hyl:w.heap.size+2 < wr.heap.size:=World.block_lt_of_cell? wr ⟨w.heap.size+2,0,none⟩ (u:= .int .i64 8) (by rw [World.cell?,hY];rfl)
  obtain ⟨vs0,pv0,_⟩:=hPX
  obtain ⟨pp0,pc0,hp0⟩:=row_formP pv0
  subst hp0
  clear pv0 hR hT hX hY
  by_cases hlt:(i:Int) < (M:Int)
  ·have HDC:=hide (decC_any i wr (by omega))
   have hdl:=Tr.decC_len i
   generalize Tr.decC i=dc at *
   have hsz2:(⟨dc.toArray⟩:ByteArray).size≤1000:=by show dc.toArray.size≤_;simp;omega
   go_wp2_with fail
   refine HDC.out.mono ?_
   rintro e4 w4 ⟨rfl,b4⟩
   have hst9:((⟨#[112]⟩:ByteArray)++⟨dc.toArray⟩).size≤1000000:=by rw [ByteArray.size_append];show 1+_≤_;omega
   generalize hst:(⟨#[112]⟩:ByteArray)++⟨dc.toArray⟩=st at *
   have hw4:=b4.size
   have B5:Below w4.heap.size w4 (w4.alloc (.cells #[.int .i64 19,.int .i64 0,.int .i64 0,.string st,.int .i64 0] 82)):=bA _
   have HNW:Hid (NX (w.heap.size+3) (w4.alloc (.cells #[.int .i64 19,.int .i64 0,.int .i64 0,.string st,.int .i64 0] 82)) (.slice (some ⟨w4.heap.size,0,none⟩) 1 1) [(⟨19,0,0,st,0⟩:Tr.Nd)]):=hide ⟨World.ownsRow_lit (base:=w.heap.size+3) (e:=82) (size:=5) w4 #[.int .i64 19,.int .i64 0,.int .i64 0,.string st,.int .i64 0] 1 (by omega) (by unfold maxLen;omega) rfl,sh_one hst9⟩
   have HR4:=hide ((HRr.out.below b4).below B5)
   have HT4:=hide ((HTr.out.trans (.of b4)).trans (.of B5))
   have HX4:=hide (TyM.same (TyM.same HXr.out b4) B5)
   have HY4:=hide (TyM.same (TyM.same HYr.out b4) B5)
   obtain ⟨vs4,pv4,pw4⟩:=(HPr.out.ty (.of b4)).ty (.of B5)
   have HV4:=hide pv4
   have HW4:=hide pw4
   have HZ5:Hid ((w4.alloc (.cells #[.int .i64 19,.int .i64 0,.int .i64 0,.string st,.int .i64 0] 82)).heap.size=w4.heap.size+1):=hide (by simp)
   have hz6:=HT4.out.size
   rw [HZ5.out] at hz6
   clear b4 B5 pv4 pw4
   go_wp2_with (at_builtin;refine wpList_append_own_at _ rfl _ _ 94 rfl w.heap.size 48 iP _ 1 24 Tryz.underlying94 hP hPz hPs hPb rfl (by decide) _ ls.length vs4 rfl (HV4.out.alloc _) ⟨w4.heap.size+1,0,none⟩ 1 1 [.slice (some ⟨w4.heap.size,0,none⟩) 1 1] rfl rfl (cells_litC _ [_] _ _ HZ5.out.symm) (by simp [Value.oneCell']) (by unfold maxLen;omega) (by omega) (by simp;omega) ?_)
   intro v5 w5 ra rb_ rc rd
   obtain ⟨hp5,hpf5⟩:=pushedX HV4.out HW4.out HNW.out (by simp) ra rb_
   obtain ⟨sp5,sc5,hs5⟩:=row_formP ra
   subst hs5
   have HP5:=hide hp5
   have HR5:=hide (HR4.out.pf hpf5 hrw)
   have HT5:=hide (hpf5.tyM HT4.out (Nat.le_refl _))
   have HX5:=hide (hpf5.same HX4.out (by decide))
   have HY5:=hide (hpf5.same HY4.out (by decide))
   clear hp5 hpf5 ra rb_ rc rd
   go_wp2
   go_roundw
   case rel=>exact ⟨i+1,_,by omega,by go_num,by rw [List.length_append];simp only [List.length_cons,List.length_nil];omega,by rw [List.flatten_append,List.length_append,List.length_append,fl1];simp only [List.length_cons,List.length_nil];omega,HP5.out,HR5.out,HT5.out,HX5.out,HY5.out⟩
   case measure=>simp [intOf];omega
  ·have HPx:=HPr
   have HRs:=HRr
   have HTs:=HTr
   have HXs:=HXr
   have HYs:=HYr
   have hyt:tyAt wr (w.heap.size+2)≠some 48:=by unfold tyAt;rw [HYs.out];decide
   have y0s:wr.cell? ⟨w.heap.size+2,0,none⟩=some (.int .i64 8):=by rw [World.cell?,HYs.out];rfl
   have f0s:wr.frozen? ⟨w.heap.size+2,0,none⟩=false:=by rw [World.frozen?,HYs.out];simp
   have HYs:Hid ((wr.setCell ⟨w.heap.size+2,0,none⟩ (.int .i64 15)).heap[w.heap.size+2]?=some (.cells #[.int .i64 15,.int .i64 0,.int .i64 0,.string ⟨#[]⟩,.int .i64 0] 82)):=hide (heap_setC HYs.out 0 (.int .i64 15))
   have HXs:=hide ((Below.heap_setCell wr ⟨w.heap.size+2,0,none⟩ (.int .i64 15) w.heap.size (show w.heap.size≠w.heap.size+2 by omega)).trans HXs.out)
   have HTs:=hide (set_above (o:=0) (v:= .int .i64 15) (b:=w.heap.size+2) HTs.out (by omega))
   have HRs:=hide (Rq.set (o:=0) (v:= .int .i64 15) (b:=w.heap.size+2) HRs.out (by omega))
   have HPs:=hide ((PX.set (o:=0) (u:= .int .i64 15) HPx.out (show w.heap.size+2 < w.heap.size+3 by omega) hyt).pw)
   have en2:(M:Int)+1=((M+1:Nat):Int):=by omega
   have hn4:M+1≤290:=by omega
   have hlM:ls.length≤M+1:=by omega
   generalize M+1=N at *
   go_wp2_with fail
   go_loopw [3] (fun sv wr=>∃ (ls:List (List Tr.Nd)),ls.length≤N∧ls.flatten.length≤ls.length∧PW w.heap.size wr sv ls∧Rq rb vb n (q+2) wr∧Ty w wr∧wr.heap[w.heap.size]?=some (.cells #[.slice none 0 0] 50)∧wr.heap[w.heap.size+2]?=some (.cells #[.int .i64 15,.int .i64 0,.int .i64 0,.string ⟨#[]⟩,.int .i64 0] 82)) (fun sv _=>N - sliceLen sv)
   case atStart=>exact ⟨_,hlM,hfl,HPs.out,HRs.out,HTs.out,HXs.out,HYs.out⟩
   case round =>
    obtain ⟨ls,hle,hfl,hPW,hR,hT,hX,hY⟩:=hrel
    have HPr:=hide hPW
    have HRr:=hide hR
    have HTr:=hide hT
    have HXr:=hide hX
    have HYr:=hide hY
    obtain ⟨vs0,pv0,pw0⟩:=hPW
    obtain ⟨pp0,pc0,hp0⟩:=row_formP pv0
    subst hp0
    clear pv0 pw0 hR hT hX hY
    by_cases hlt:(ls.length:Int) < ((N:Nat):Int)
    ·have hwz:=HTr.out.size
     go_wp2_with fail
     refine (intN_any 3 _).mono ?_
     rintro e4 w4 ⟨v4,l4,rfl,nr4,p4,m4,b4⟩
     obtain ⟨g4,c4,hv4⟩:=nr4.form p4
     subst hv4
     have HN4:=hide nr4
     have HR4:=hide (HRr.out.below b4)
     have HT4:=hide (HTr.out.trans (.of b4))
     have HX4:=hide (TyM.same HXr.out b4)
     have HY4:=hide (TyM.same HYr.out b4)
     obtain ⟨vs4,pv4,pw4⟩:=HPr.out.below b4
     have HV4:=hide pv4
     have HW4:=hide pw4
     clear nr4 b4 pv4 pw4
     go_wp2_with (at_builtin;refine wpList_append_own_at _ rfl _ _ 94 rfl w.heap.size 48 iP _ 1 24 Tryz.underlying94 hP hPz hPs hPb rfl (by decide) _ ls.length vs4 rfl (HV4.out.alloc _) ⟨w4.heap.size,0,none⟩ 1 1 [.slice (some ⟨g4,0,none⟩) l4.length c4] rfl rfl (cells_litC _ [_] _ _ rfl) (by simp [Value.oneCell']) (by unfold maxLen;omega) (by omega) (by have:=HT4.out.size;simp;omega) ?_)
     intro v5 w5 ra rb_ rc rd
     obtain ⟨hp5,hpf5⟩:=pushed HV4.out HW4.out HN4.out p4 ra rb_
     obtain ⟨sp5,sc5,hs5⟩:=row_formP ra
     subst hs5
     have HP5:=hide hp5
     have HR5:=hide (HR4.out.pf hpf5 hrw)
     have HT5:=hide (hpf5.tyM HT4.out (Nat.le_refl _))
     have HX5:=hide (hpf5.same HX4.out (by decide))
     have HY5:=hide (hpf5.same HY4.out (by decide))
     clear hp5 hpf5 ra rb_ rc rd
     go_wp2
     go_roundw
     case rel=>exact ⟨_,by rw [List.length_append];simp only [List.length_cons,List.length_nil];omega,by rw [List.flatten_append,List.length_append,List.length_append,fl1];simp only [List.length_cons,List.length_nil];omega,HP5.out,HR5.out,HT5.out,HX5.out,HY5.out⟩
     case measure=>simp only [sliceLen];omega
    ·have HO:=hide (over_mk ⟨15,0,0,⟨#[]⟩,0⟩ ls _ _ N HPr.out.pr (by omega) (by omega) (by omega))
     unfold ndV at HO
     have y0:wr.cell? ⟨w.heap.size+2,0,none⟩=some (.int .i64 15):=by rw [World.cell?,HYr.out];rfl
     have y1:wr.cell? ⟨w.heap.size+2,1,none⟩=some (.int .i64 0):=by rw [World.cell?,HYr.out];rfl
     have y2:wr.cell? ⟨w.heap.size+2,2,none⟩=some (.int .i64 0):=by rw [World.cell?,HYr.out];rfl
     have y3:wr.cell? ⟨w.heap.size+2,3,none⟩=some (.string ⟨#[]⟩):=by rw [World.cell?,HYr.out];rfl
     have y4:wr.cell? ⟨w.heap.size+2,4,none⟩=some (.int .i64 0):=by rw [World.cell?,HYr.out];rfl
     go_wp2_with fail
     refine HO.out.mono ?_
     rintro e4 w4 ⟨v4,l4,rfl,nr4,p4,m4,b4⟩
     obtain ⟨g4,c4,hv4⟩:=nr4.form p4
     subst hv4
     have HO2:=hide (over_mk ⟨21,0,0,⟨#[120]⟩,0⟩ [_] _ _ (N+1) (pr1 nr4 p4) (by rw [fl1];omega) (by omega) (by simp))
     unfold ndV at HO2
     have HR4:=hide ((HRr.out.below b4).below (bA (.cells #[.slice (some ⟨g4,0,none⟩) l4.length c4] 48)))
     have HT4:=hide ((HTr.out.trans (.of b4)).trans (.of (bA (.cells #[.slice (some ⟨g4,0,none⟩) l4.length c4] 48))))
     have HX4:=hide (TyM.same (TyM.same HXr.out b4) (bA (.cells #[.slice (some ⟨g4,0,none⟩) l4.length c4] 48)))
     clear nr4 b4
     go_wp2_with fail
     refine HO2.out.mono ?_
     rintro e5 w5 ⟨v5,l5,rfl,nr5,p5,m5,b5⟩
     obtain ⟨g5,c5,hv5⟩:=nr5.form p5
     subst hv5
     have HO3:=hide (over_mk ⟨24,0,0,⟨#[]⟩,0⟩ [_] _ _ (N+2) (pr1 nr5 p5) (by rw [fl1];omega) (by omega) (by simp))
     unfold ndV at HO3
     have HR5:=hide ((HR4.out.below b5).below (bA (.cells #[.slice (some ⟨g5,0,none⟩) l5.length c5] 48)))
     have HT5:=hide ((HT4.out.trans (.of b5)).trans (.of (bA (.cells #[.slice (some ⟨g5,0,none⟩) l5.length c5] 48))))
     have HX5:=hide (TyM.same (TyM.same HX4.out b5) (bA (.cells #[.slice (some ⟨g5,0,none⟩) l5.length c5] 48)))
     clear nr5 b5
     go_wp2_with fail
     refine HO3.out.mono ?_
     rintro e6 w6 ⟨v6,l6,rfl,nr6,p6,m6,b6⟩
     obtain ⟨g6,c6,hv6⟩:=nr6.form p6
     subst hv6
     have hX6:=TyM.same HX5.out b6
     have t0:=(box_cell hX6).1
     have ft:=(box_cell hX6).2
     have hty:tyAt w6 w.heap.size≠some 82:=by unfold tyAt;rw [hX6];decide
     have HN6:Hid (NR (w6.setCell ⟨w.heap.size,0,none⟩ (.slice (some ⟨g6,0,none⟩) l6.length c6)) (.slice (some ⟨g6,0,none⟩) l6.length c6) l6):=hide ⟨row_setC nr6.1 hty,nr6.2⟩
     have HR6:=hide (Rq.set (o:=0) (v:= .slice (some ⟨g6,0,none⟩) l6.length c6) (HR5.out.below b6) hrw)
     have HT6:=hide (set_above (o:=0) (v:= .slice (some ⟨g6,0,none⟩) l6.length c6) (HT5.out.trans (.of b6)) (Nat.le_refl _))
     clear nr6 b6 hX6
     go_wp2
     exact bodyPost_ret (v:= .agg #[.slice (some ⟨g6,0,none⟩) l6.length c6]) (by simp [results,Tryz.results39,go_sem,t0]) rfl ⟨_,_,rfl,HN6.out,by omega,HR6.out.mono (by omega),HT6.out.tf⟩
end Go.Proofs.YtbckhbeebngjfaaGreatDoor
