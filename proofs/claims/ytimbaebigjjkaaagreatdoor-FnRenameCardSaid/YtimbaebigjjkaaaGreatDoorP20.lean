/- Co, Cs. -/
import Derived.Test.YtimbaebigjjkaaaGreatDoorP19
namespace Go.Proofs.YtimbaebigjjkaaaGreatDoor
open Go.RowKit
def PW (B:Nat) (w:World) (v:Value) (ls:List (List Tr.Nd)):Prop:=∃ vs:List Value,w.ownsRow B 23 1 v ls.length vs∧∀ i (h:i < ls.length),∃ u,vs[i]?=some u∧NR w u ls[i]∧0 < ls[i].length
theorem PW.pr [LB] {B:Nat} {w:World} {v:Value} {ls:List (List Tr.Nd)} (h:PW B w v ls):PR w v ls:=by
 obtain ⟨vs,h1,h2⟩:=h
 exact ⟨vs,ZN h1 (Nat.zero_le _),h2⟩
theorem PW.ty [LB] {B:Nat} {w w':World} {v:Value} {ls:List (List Tr.Nd)} (h:PW B w v ls) (hb:Ty w w'):PW B w' v ls:=by
 obtain ⟨vs,h1,h2⟩:=h
 exact ⟨vs,XO h1 hb Qw,fun i hi=>by obtain ⟨u,a,b,c⟩:=h2 i hi;exact ⟨u,a,b.ty hb,c⟩⟩
theorem PW.tf [LB] {B:Nat} {w w':World} {v:Value} {ls:List (List Tr.Nd)} (h:PW B w v ls) (hb:Tf w w'):PW B w' v ls:=by
 obtain ⟨vs,h1,h2⟩:=h
 exact ⟨vs,XO h1 hb mineF_nodes,fun i hi=>by obtain ⟨u,a,b,c⟩:=h2 i hi;exact ⟨u,a,b.tf hb,c⟩⟩
theorem PW.below [LB] {B:Nat} {w w':World} {v:Value} {ls:List (List Tr.Nd)} (h:PW B w v ls) (hb:Below w.heap.size w w'):PW B w' v ls:=h.ty (.of hb)
theorem PW.new [LB] {B:Nat} (w:World) (hB:B≤w.heap.size):PW B (w.alloc (.cells #[] 23)) (.slice (some ⟨w.heap.size,0,none⟩) 0 0) [] :=
 ⟨[],World.ownsRow_lit (base:=B) (e:=23) (size:=1) w #[] 0 hB (Nat.zero_le _) rfl,fun _ hi=>absurd hi (Nat.not_lt_zero _)⟩
theorem PW.one [LB] {B:Nat} {w:World} {v1:Value} {l1:List Tr.Nd} (h1:NR w v1 l1) (k1:0 < l1.length) (hB:B≤w.heap.size):PW B (w.alloc (.cells #[v1] 23)) (.slice (some ⟨w.heap.size,0,none⟩) 1 1) [l1] :=
 ⟨[v1],World.ownsRow_lit (base:=B) (e:=23) (size:=1) w #[v1] 1 hB (by unfold maxLen;omega) rfl,fun i hi=>by
  obtain rfl:i=0:=by simpa using hi
  exact ⟨_,rfl,h1.below (bA _),k1⟩⟩
structure Pf (B:Nat) (w w':World):Prop where
 os:w'.os=w.os
 tape:w'.tape=w.tape
 output:w'.output=w.output
 size:w.heap.size≤w'.heap.size
 block:∀ b,b < w.heap.size→(b < B∨tyAt w b≠some 23)→w'.heap[b]?=w.heap[b]?
theorem Pf.row [LB] {B base size:Nat} {w w':World} {e:TypeId} {v:Value} {m:Nat} {xs:List Value} (h:Pf B w w') (hr:w.ownsRow base e size v m xs) (he:e≠23):w'.ownsRow base e size v m xs :=
 YZ hr (fun q hq ht=>h.block q hq (.inr (by rw [ht];exact fun e'=>he (Option.some.inj e'))))
theorem Pf.nr [LB] {B:Nat} {w w':World} {v:Value} {l:List Tr.Nd} (h:Pf B w w') (hr:NR w v l):NR w' v l:=⟨h.row hr.1 (by decide),hr.2⟩
theorem Pf.tyM [LB] {B:Nat} {M:Option TypeId→Prop} {w W W':World} (h:Pf B W W') (ht:TyM M w W) (hB:w.heap.size≤B):TyM M w W' :=
 ⟨h.os.trans ht.os,h.tape.trans ht.tape,h.output.trans ht.output,Nat.le_trans ht.size h.size,fun q h1 h2=>(h.block q (Nat.lt_of_lt_of_le h1 ht.size) (.inl (Nat.lt_of_lt_of_le h1 hB))).trans (ht.block q h1 h2),fun hn q h1 h2=>by
  obtain ⟨x1,x2⟩:=ht.two hn q h1 h2
  have e:=h.block q (Nat.lt_of_lt_of_le h1 ht.size) (.inl (Nat.lt_of_lt_of_le h1 hB))
  exact ⟨(XX e).trans x1,(World.cell?_of_block (a:=⟨q,2,none⟩) e).trans x2⟩,fun q h1 h2=>(h.block q (Nat.lt_of_lt_of_le h1 ht.size) (.inl (Nat.lt_of_lt_of_le h1 hB))).trans (ht.old q h1 h2)⟩
theorem Pf.gn [LB] {B gb rb n q k:Nat} {vb:Value} {w w':World} (h:Pf B w w') (hg:Gn gb rb vb n q k w) (hB:rb < B):Gn gb rb vb n q k w':=by
 have kt:∀ t,t≠23→∀ q,q < w.heap.size→tyAt w q=some t→w'.heap[q]?=w.heap[q]?:=fun t ht q hq hty=>h.block q hq (.inr (by rw [hty];exact fun e=>ht (Option.some.inj e)))
 have eb:=kt _ (by decide) gb hg.lt hg.ty
 have cb:∀ j,w'.cell? ⟨gb,j,none⟩=w.cell? ⟨gb,j,none⟩:=fun j=>World.cell?_of_block (a:=⟨gb,j,none⟩) eb
 have hlt:=hg.lt
 have hup:=hg.up
 obtain ⟨p,hp,hr⟩:=hg.R
 obtain ⟨v,xs,n1,n2,n3⟩:=hg.nm
 obtain ⟨vf,m,ys,f1,f2,f3,f4⟩:=hg.fn
 obtain ⟨c,hc,h5⟩:=hg.ct
 obtain ⟨z,hz,hz1,h6⟩:=hg.sz
 exact ⟨⟨p,hp,hr.upto (fun b hb=>h.block b (by omega) (.inl (by omega)))⟩,hup,(XX eb).trans hg.ty,(cb 0).trans hg.c0,⟨v,xs,(cb 1).trans n1,YZ n2 (kt _ (by decide)),n3⟩,⟨vf,m,ys,(cb 2).trans f1,YZ f2 (kt _ (by decide)),f3,f4.keep (kt _ (by decide))⟩,⟨c,hc,(cb 3).trans h5⟩,⟨z,hz,hz1,(cb 4).trans h6⟩,fun j=>(World.frozen?_of_block (a:=⟨gb,j,none⟩) eb).trans (hg.fr j),hg.km⟩
theorem pushed [LB] {B:Nat} {W W':World} {O:Obj} {v v' u:Value} {l:List Tr.Nd} {ls:List (List Tr.Nd)} {vs:List Value} (h1:W.ownsRow B 23 1 v ls.length vs) (h2:∀ i (h:i < ls.length),∃ u,vs[i]?=some u∧NR W u ls[i]∧0 < ls[i].length) (hu:NR W u l) (hl:0 < l.length) (hx:W'.ownsRow B 23 1 v' (ls.length+1) (vs++[u])) (hg:(W.alloc O).grownBy W' v.ownBlock):PW B W' v' (ls++[l])∧Pf B W W':=by
 have hb:=(Below.refl W.heap.size W).alloc (Nat.le_refl _) O
 have f:Pf B W W':=⟨hg.os.trans hb.os,hg.tape.trans hb.tape,hg.output.trans hb.output,Nat.le_trans hb.size hg.size,fun b hq hc=>by
  refine (hg.block b (Nat.lt_of_lt_of_le hq hb.size) (fun e=>?_)).trans (hb.block b hq)
  have h3:=h1.lt b e.symm
  have h4:=XV h1 e.symm
  rcases hc with hc | hc
  ·omega
  ·exact hc h4⟩
 have hvl:vs.length=ls.length:=by have:=h1.1;omega
 refine ⟨⟨vs++[u],by rw [List.length_append];exact hx,fun i hi=>?_⟩,f⟩
 by_cases hk:i < ls.length
 ·obtain ⟨u',a,b,c⟩:=h2 i hk
  rw [List.getElem_append_left hk]
  exact ⟨u',by rw [List.getElem?_append_left (by omega)];exact a,f.nr b,c⟩
 ·have hi':i=ls.length:=by simp only [List.length_append,List.length_cons,List.length_nil] at hi;omega
  subst hi'
  have e:(ls++[l])[ls.length]'hi=l:=by simp
  rw [e]
  exact ⟨u,by rw [List.getElem?_append_right (by omega),hvl];simp,f.nr hu,hl⟩
variable (gb rb:Nat) (vb:Value) (n:Nat)
def CallAt [LB] (d kd:Nat):Prop:=∀ (q k:Nat) (kind:Int) (w:World),Gn gb rb vb n q k w→q+5 * kd+40≤700000000→k+1+d≤900→Calls Tryz.prog 106 #[.pointer (some ⟨gb,0,none⟩),.int .i64 kind,.int .i64 ((d:Int)+1)] w fun e w'=>GOk gb rb vb n q (4 * kd+30) k w e w'
theorem pick_keep [LB] {q k:Nat} {w:World} (h:Gn gb rb vb n q k w) (hq:q≤900000000) (m:Nat) (h2:m≤1000000):Calls Tryz.prog 14 #[.pointer (some ⟨rb,0,none⟩),.int .i64 m] w fun e w'=>∃ z:Nat,(0 < m→z < m)∧e = .returned (.int .i64 (z:Int))∧Gn gb rb vb n (q+1) k w'∧Ty w w'∧z≤m∧∀ b,b < w.heap.size→b≠rb→w'.heap[b]?=w.heap[b]?:=by
 obtain ⟨p,hp,hr⟩:=h.R
 rcases Nat.eq_zero_or_pos m with rfl | hm
 ·refine (pick_none rb n p vb w hr (by omega)).mono ?_
  rintro e w1 ⟨rfl,a,hd⟩
  exact ⟨0,fun h=>h,rfl,h.keep (by omega) hd.block ⟨p+1,by omega,a⟩,.dr hd hr.own,Nat.le_refl _,hd.block⟩
 ·refine (JG rb n p vb m w hr (by omega) (by omega) (by omega)).mono ?_
  rintro e w1 ⟨z,hz,rfl,a,hd⟩
  exact ⟨z,fun _=>by omega,rfl,h.keep (by omega) hd.block ⟨p+1,by omega,a⟩,.dr hd hr.own,by omega,hd.block⟩
def TMk (w:World) (m:Nat) (e:Ending) (w':World):Prop:=∃ v l,e = .returned (.agg #[v])∧NR w' v l∧0 < l.length∧l.length≤m∧Below w.heap.size w w'
theorem Xo [LB] {w:World} {b:Nat} {v:Value} {t:TypeId} (h:w.heap[b]?=some (.cells #[v] t)):w.cell? ⟨b,0,none⟩=some v∧w.frozen? ⟨b,0,none⟩=false:=⟨by rw [World.cell?,h];rfl,by rw [World.frozen?,h];simp⟩
set_option maxRecDepth 100000 in
set_option maxHeartbeats 2000000 in
theorem deep_any [LB] (m:Nat) (w:World) (hm2:2≤m) (hm:m≤100):Calls Tryz.prog 61 #[.int .i64 (m:Int)] w fun e w'=>TMk w 110 e w':=by
 have hwm:IntKind.i64.wrap ((m:Int) - 2)=(m:Int) - 2:=by rw [IntKind.wrap_i64];omega
 have X0:Hid ((w.alloc (.cells #[.slice none 0 0] 25)).heap[w.heap.size]?=some (.cells #[.slice none 0 0] 25)):=X1 (Xi _ _)
 have B0:Hid (Below w.heap.size w (w.alloc (.cells #[.slice none 0 0] 25))):=X1 (bA _)
 have L0:Hid (w.heap.size < (w.alloc (.cells #[.slice none 0 0] 25)).heap.size):=X1 (by simp)
 go_enter Tryz.func61,Tryz.ntmps61
 go_wp2_with fail
 refine (ZF 1 _).mono ?_
 rintro e w1 ⟨v1,l1,rfl,n,p1,m1,b1⟩
 obtain ⟨g1,c1,hv1⟩:=n.form p1
 subst hv1
 have HN1:=X1 n
 have HB1:=X1 (B0.o.trans (b1.mono B0.o.size))
 have HX1:=X1 ((b1.block _ L0.o).trans X0.o)
 clear n b1
 go_wp2_with fail
 go_loopw [3,4] (fun sv tv wr=>∃ (i:Nat) (l:List Tr.Nd),i+2≤m∧tv = .int .i64 (i:Int)∧NR wr sv l∧0 < l.length∧l.length≤i+1∧Below w.heap.size w wr∧wr.heap[w.heap.size]?=some (.cells #[.slice none 0 0] 25)) (fun _ tv _=>m - (intOf tv).toNat)
 case atStart=>exact ⟨0,_,by omega,rfl,HN1.o,p1,m1,HB1.o,HX1.o⟩
 case round =>
  obtain ⟨i,l,hi,rfl,hn,hp,hl,hB,hX⟩:=hrel
  obtain ⟨g,c,hv⟩:=hn.form hp
  subst hv
  have hxl:w.heap.size < wr.heap.size:=World.block_lt_of_cell? wr ⟨w.heap.size,0,none⟩ (Xo hX).1
  have HB:=X1 hB
  have HX:=X1 hX
  by_cases hlt:(i:Int) < (m:Int) - 2
  ·have HO:=X1 (XF ⟨6,2,0,⟨#[]⟩,0⟩ [_] _ _ (i+1) (pr1 hn hp) (by rw [fl1];omega) (by omega) (by simp))
   unfold ndV at HO
   clear hn hB hX
   go_wp2_with fail
   refine HO.o.mono ?_
   rintro e2 w2 ⟨v2,l2,rfl,a,p2,m2,b2⟩
   obtain ⟨g2,c2,k⟩:=a.form p2
   subst k
   have HN2:=X1 a
   have b:=X1 ((HB.o.alloc (HB.o.size) (.cells #[.slice (some ⟨g,0,none⟩) l.length c] 23)).trans (b2.mono (Nat.le_trans HB.o.size (by simp))))
   have d:=X1 ((b2.block _ (by simp;omega)).trans (((bA (.cells #[.slice (some ⟨g,0,none⟩) l.length c] 23)).block _ hxl).trans HX.o))
   clear a b2
   go_wp2
   go_roundw
   case rel=>exact ⟨i+1,_,by omega,by go_num,HN2.o,p2,by omega,b.o,d.o⟩
   case measure=>simp [intOf];omega
  ·have HO:=X1 (XF ⟨21,0,0,⟨#[120]⟩,0⟩ [_] _ _ (i+1) (pr1 hn hp) (by rw [fl1];omega) (by omega) (by simp))
   unfold ndV at HO
   clear hn hB hX
   go_wp2_with fail
   refine HO.o.mono ?_
   rintro e2 w2 ⟨v2,l2,rfl,a,p2,m2,b2⟩
   obtain ⟨g2,c2,k⟩:=a.form p2
   subst k
   have b:=X1 ((HB.o.alloc (HB.o.size) (.cells #[.slice (some ⟨g,0,none⟩) l.length c] 23)).trans (b2.mono (Nat.le_trans HB.o.size (by simp))))
   have d:=X1 ((b2.block _ (by simp;omega)).trans (((bA (.cells #[.slice (some ⟨g,0,none⟩) l.length c] 23)).block _ hxl).trans HX.o))
   have hx2:w.heap.size < w2.heap.size:=World.block_lt_of_cell? w2 ⟨w.heap.size,0,none⟩ (Xo d.o).1
   have HO2:=X1 (XF ⟨24,0,0,⟨#[]⟩,0⟩ [_] _ _ (i+2) (pr1 a p2) (by rw [fl1];omega) (by omega) (by simp))
   unfold ndV at HO2
   clear a b2
   go_wp2_with fail
   refine HO2.o.mono ?_
   rintro e3 w3 ⟨v3,l3,rfl,j,p3,m3,b3⟩
   obtain ⟨g3,c3,hv3⟩:=j.form p3
   subst hv3
   have HB3:=X1 ((b.o.alloc (b.o.size) (.cells #[.slice (some ⟨g2,0,none⟩) l2.length c2] 23)).trans (b3.mono (Nat.le_trans b.o.size (by simp))))
   have f:=(b3.block _ (by simp;omega)).trans (((bA (.cells #[.slice (some ⟨g2,0,none⟩) l2.length c2] 23)).block _ hx2).trans d.o)
   have t0:=(Xo f).1
   have ft:=(Xo f).2
   have hty:tyAt w3 w.heap.size≠some 35:=by unfold tyAt;rw [f];decide
   have HN3:Hid (NR (w3.setCell ⟨w.heap.size,0,none⟩ (.slice (some ⟨g3,0,none⟩) l3.length c3)) (.slice (some ⟨g3,0,none⟩) l3.length c3) l3):=X1 ⟨Yb j.1 hty,j.2⟩
   clear j b3 f
   go_wp2
   refine bodyPost_ret (v:= .agg #[.slice (some ⟨g3,0,none⟩) l3.length c3]) (by simp [results,Tryz.results61,go_sem,t0]) rfl ⟨_,_,rfl,HN3.o,p3,by omega,HB3.o.setCell (p:=⟨w.heap.size,0,none⟩) (Nat.le_refl _) _⟩
end Go.Proofs.YtimbaebigjjkaaaGreatDoor
