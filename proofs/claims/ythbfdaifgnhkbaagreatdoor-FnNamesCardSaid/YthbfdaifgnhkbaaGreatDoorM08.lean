/- Cf, Co, Cs. -/
import Derived.Test.YthbfdaifgnhkbaaGreatDoorM07
namespace Go.Proofs.YthbfdaifgnhkbaaGreatDoor
open Go.RowKit
theorem Tryz.infoSeen:(Tryz.prog.info? 132).map (fun i=>(i.zero,i.size,i.bytes))=some (some (.agg #[.string ⟨#[]⟩,.int .i64 0]),2,24):=by kernel_rfl
theorem SeenC.snoc [Inhabited Bs] {xs:List Value} {k:Nat} (h:SeenC xs k) (hl:xs.length=k*2) (s:Short) (z:Int):SeenC (xs++[.string s,.int .i64 z]) (k+1):=fun i hi=>by
 by_cases hk:i < k
 ·obtain ⟨s',z',h1,h2⟩:=h i hk
  exact ⟨s',z',by rw [List.getElem?_append_left (by omega)];exact h1,by rw [List.getElem?_append_left (by omega)];exact h2⟩
 ·obtain rfl:i=k:=by omega
  exact ⟨s,z,by rw [List.getElem?_append_right (by omega),hl];simp,by rw [List.getElem?_append_right (by omega),hl,show i*2+1 - i*2=1 from by omega];rfl⟩
theorem SeenC.take [Inhabited Bs] {xs:List Value} {k m:Nat} (h:SeenC xs k) (hm:m≤k):SeenC (xs.take (m*2)) m:=fun i hi=>by
 obtain ⟨s',z',h1,h2⟩:=h i (by omega)
 exact ⟨s',z',by rw [List.getElem?_take_of_lt (by omega)];exact h1,by rw [List.getElem?_take_of_lt (by omega)];exact h2⟩
theorem row_prefix [Inhabited Bs] {w:World} {B g c k m:Nat} {e:TypeId} {size:Nat} {xs:List Value} (h:w.ownsRow B e size (.slice (some ⟨g,0,none⟩) k c) k xs) (hm:m≤k):w.ownsRow B e size (.slice (some ⟨g,0,none⟩) m c) m (xs.take (m * size)):=by
 have hms:m * size≤k * size:=Nat.mul_le_mul_right _ hm
 refine ⟨by rw [List.length_take,h.1];omega,?_⟩
 rcases h.2 with ⟨h1,_⟩ | ⟨g',cap',cur,hv,h2,h3,h4,h5,h6,h7⟩
 ·cases h1
 ·cases hv
  exact .inr ⟨g,c,cur,rfl,h2,h3,by omega,h5,h6,by rw [← h7,List.take_take,Nat.min_eq_left hms]⟩
theorem Qw [Inhabited Bs] {w:World} {B g c k:Nat} {e:TypeId} {size:Nat} {xs:List Value} (h:w.ownsRow B e size (.slice (some ⟨g,0,none⟩) k c) k xs):k≤c∧c≤maxLen:=by
 rcases h.2 with ⟨h1,_⟩ | ⟨g',cap',cur,hv,h2,h3,h4,h5,_⟩
 ·cases h1
 ·cases hv
  exact ⟨h4,h5⟩
variable (gb rb:Nat) (vb:Value) (n:Nat)
def EAt [Inhabited Bs] (d kd:Nat):Prop:=∀ (q k:Nat) (kind:Int) (w:World),Gn gb rb vb n q k w→q+kd≤700000000→k+d≤900→Calls Tryz.prog 87 #[.pointer (some ⟨gb,0,none⟩),.int .i64 kind,.int .i64 (d:Int)] w fun e w'=>GMk gb rb vb n q kd k w e w'
set_option maxRecDepth 100000 in
set_option maxHeartbeats 4000000 in
theorem insideG_any [Inhabited Bs] (d kd:Nat) (HE:EAt gb rb vb n d kd) (q k:Nat) (s:Short) (kind want:Int) (w:World) (h:Gn gb rb vb n q k w) (hq:q+kd≤700000000) (hk:k+1+d≤900):Calls Tryz.prog 96 #[.pointer (some ⟨gb,0,none⟩),.string s,.int .i64 kind,.int .i64 want,.int .i64 (d:Int)] w fun e w'=>GMk gb rb vb n q kd k w e w':=by
 obtain ⟨iN,hN,hNz,hNs,hNb⟩:=info_parts Tryz.infoSeen
 obtain ⟨v,xs,n1,n2,n3⟩:=h.nm
 obtain ⟨vp,vc,rfl⟩:=Xc n2
 have hlx:=n2.1
 have hlt:=h.lt
 have hup:=h.up
 have bx:=(Below.refl w.heap.size w).alloc (Nat.le_refl _) (.cells #[.string s,.int .i64 kind] 132)
 have HGa:=X1 (h.below bx)
 have n1a:=(bx.cell (p:=⟨gb,1,none⟩) hlt).trans n1
 have HRa:=X1 (n2.alloc (.cells #[.string s,.int .i64 kind] 132))
 have HS:=X1 (n3.snoc hlx s kind)
 have HTa:Hid (Ty w (w.alloc (.cells #[.string s,.int .i64 kind] 132))):=X1 (.of bx)
 have f1:=h.fr 1
 have HE':=X1 HE
 clear h n2 n3 bx HE
 go_enter Tryz.func96,Tryz.ntmps96
 go_wp2_with (at_builtin;refine wpList_append_own_at _ rfl _ _ 108 rfl (rb+1) 132 iN _ 2 24 Tryz.underlying108 hN hNz hNs hNb rfl (by decide) _ k xs rfl HRa.out ⟨w.heap.size,0,none⟩ 1 1 [.string s,.int .i64 kind] rfl rfl (Xz _ [_,_] _ _ rfl) (by simp [Value.oneCell']) (by unfold maxLen;omega) (by omega) (by simp;omega) ?_)
 intro v5 w5 r1 r2 r3 r4
 have q5:=(World.cell?_of_block (a:=⟨gb,1,none⟩) (r2.block gb HGa.out.lt (fun e=>by have h1:=XM HRa.out e.symm;rw [HGa.out.ty] at h1;cases h1))).trans n1a
 have q6:=(World.frozen?_of_block (a:=⟨gb,1,none⟩) (r2.block gb HGa.out.lt (fun e=>by have h1:=XM HRa.out e.symm;rw [HGa.out.ty] at h1;cases h1))).trans (HGa.out.fr 1)
 obtain ⟨g5,c5,hv5⟩:∃ g c,v5 = .slice (some ⟨g,0,none⟩) (k+1) c:=by
  rcases r1.2 with ⟨_,h0⟩ | ⟨g,c,_,h2,_⟩
  ·omega
  ·exact ⟨g,c,h2⟩
 subst hv5
 have HG5:=X1 (HGa.out.push n1a r2 r1 HS.out (by omega))
 have HT5:Hid (Ty w (w5.setCell ⟨gb,1,none⟩ (.slice (some ⟨g5,0,none⟩) (k+1) c5))):=X1 ((HTa.out.trans (.grown r2 (fun b hb=>by rw [XM HRa.out hb];exact .inr (.inr rfl)) (fun b hb=>by rw [XM HRa.out hb];decide) (fun b hb=>Nat.le_trans HGa.out.lo (Nat.le_of_succ_le (HRa.out.lt b hb).1)))).trans (.set (by rw [XS (r2.block gb HGa.out.lt (fun e=>by have h1:=XM HRa.out e.symm;rw [HGa.out.ty] at h1;cases h1))];exact HGa.out.mine) (by decide)))
 clear r1 r2 r3 r4
 go_wp2_with fail
 refine (HE'.out _ _ _ _ HG5.out (by omega) (by omega)).mono ?_
 rintro e w6 ⟨v6,l6,rfl,nr6,p6,m6,hg6,ht6⟩
 obtain ⟨gq,cq,hvq⟩:=nr6.form p6
 subst hvq
 obtain ⟨v7,xs7,n17,n27,n37⟩:=hg6.nm
 obtain ⟨g7,c7,hv7⟩:∃ g c,v7 = .slice (some ⟨g,0,none⟩) (k+1) c:=by
  rcases n27.2 with ⟨_,h0⟩ | ⟨g,c,_,h2,_⟩
  ·omega
  ·exact ⟨g,c,h2⟩
 subst hv7
 have hcap:=Qw n27
 have hkc:k≤c7:=by omega
 have hcm:c7≤9223372036854775807:=by have:=hcap.2;unfold maxLen at this;omega
 have f17:=hg6.fr 1
 have HG7:=X1 (hg6.names (row_prefix n27 (m:=k) (by omega)) (n37.take (by omega)) (by omega))
 have HT7:Hid (Ty w (w6.setCell ⟨gb,1,none⟩ (.slice (some ⟨g7,0,none⟩) k c7))):=X1 ((HT5.out.trans ht6).trans (.set hg6.mine (by decide)))
 have HN7:Hid (NR (w6.setCell ⟨gb,1,none⟩ (.slice (some ⟨g7,0,none⟩) k c7)) _ _):=X1 (nr6.ty (.set hg6.mine (by decide)))
 clear hg6 ht6 nr6 n27 n37 hcap
 go_wp2
 go_ret
 exact ⟨_,_,rfl,HN7.out,p6,m6,HG7.out,HT7.out⟩
def PW (B:Nat) (w:World) (v:Value) (ls:List (List Tr.Nd)):Prop:=∃ vs:List Value,w.ownsRow B 23 1 v ls.length vs∧∀ i (h:i < ls.length),∃ u,vs[i]?=some u∧NR w u ls[i]∧0 < ls[i].length
theorem PW.pr [Inhabited Bs] {B:Nat} {w:World} {v:Value} {ls:List (List Tr.Nd)} (h:PW B w v ls):PR w v ls:=by
 obtain ⟨vs,h1,h2⟩:=h
 exact ⟨vs,Zs h1 (Nat.zero_le _),h2⟩
theorem PW.ty [Inhabited Bs] {B:Nat} {w w':World} {v:Value} {ls:List (List Tr.Nd)} (h:PW B w v ls) (hb:Ty w w'):PW B w' v ls:=by
 obtain ⟨vs,h1,h2⟩:=h
 exact ⟨vs,XH h1 hb KU,fun i hi=>by obtain ⟨u,a,b,c⟩:=h2 i hi;exact ⟨u,a,b.ty hb,c⟩⟩
theorem PW.tf [Inhabited Bs] {B:Nat} {w w':World} {v:Value} {ls:List (List Tr.Nd)} (h:PW B w v ls) (hb:Tf w w'):PW B w' v ls:=by
 obtain ⟨vs,h1,h2⟩:=h
 exact ⟨vs,XH h1 hb mineF_nodes,fun i hi=>by obtain ⟨u,a,b,c⟩:=h2 i hi;exact ⟨u,a,b.tf hb,c⟩⟩
theorem PW.below [Inhabited Bs] {B:Nat} {w w':World} {v:Value} {ls:List (List Tr.Nd)} (h:PW B w v ls) (hb:Below w.heap.size w w'):PW B w' v ls:=h.ty (.of hb)
theorem PW.new [Inhabited Bs] {B:Nat} (w:World) (hB:B≤w.heap.size):PW B (w.alloc (.cells #[] 23)) (.slice (some ⟨w.heap.size,0,none⟩) 0 0) [] :=
 ⟨[],World.ownsRow_lit (base:=B) (e:=23) (size:=1) w #[] 0 hB (Nat.zero_le _) rfl,fun _ hi=>absurd hi (Nat.not_lt_zero _)⟩
theorem PW.one [Inhabited Bs] {B:Nat} {w:World} {v1:Value} {l1:List Tr.Nd} (h1:NR w v1 l1) (k1:0 < l1.length) (hB:B≤w.heap.size):PW B (w.alloc (.cells #[v1] 23)) (.slice (some ⟨w.heap.size,0,none⟩) 1 1) [l1] :=
 ⟨[v1],World.ownsRow_lit (base:=B) (e:=23) (size:=1) w #[v1] 1 hB (by unfold maxLen;omega) rfl,fun i hi=>by
  obtain rfl:i=0:=by simpa using hi
  exact ⟨_,rfl,h1.below (bA _),k1⟩⟩
structure Pf (B:Nat) (w w':World):Prop where
 os:w'.os=w.os
 tape:w'.tape=w.tape
 output:w'.output=w.output
 size:w.heap.size≤w'.heap.size
 block:∀ b,b < w.heap.size→(b < B∨tyAt w b≠some 23)→w'.heap[b]?=w.heap[b]?
theorem Pf.row [Inhabited Bs] {B base size:Nat} {w w':World} {e:TypeId} {v:Value} {m:Nat} {xs:List Value} (h:Pf B w w') (hr:w.ownsRow base e size v m xs) (he:e≠23):w'.ownsRow base e size v m xs :=
 YF hr (fun q hq ht=>h.block q hq (.inr (by rw [ht];exact fun e'=>he (Option.some.inj e'))))
theorem Pf.nr [Inhabited Bs] {B:Nat} {w w':World} {v:Value} {l:List Tr.Nd} (h:Pf B w w') (hr:NR w v l):NR w' v l:=⟨h.row hr.1 (by decide),hr.2⟩
theorem Pf.tyM [Inhabited Bs] {B:Nat} {M:Option TypeId→Prop} {w W W':World} (h:Pf B W W') (ht:TyM M w W) (hB:w.heap.size≤B):TyM M w W' :=
 ⟨h.os.trans ht.os,h.tape.trans ht.tape,h.output.trans ht.output,Nat.le_trans ht.size h.size,fun q h1 h2=>(h.block q (Nat.lt_of_lt_of_le h1 ht.size) (.inl (Nat.lt_of_lt_of_le h1 hB))).trans (ht.block q h1 h2),fun hn q h1 h2=>by
  obtain ⟨x1,x2⟩:=ht.two hn q h1 h2
  have e:=h.block q (Nat.lt_of_lt_of_le h1 ht.size) (.inl (Nat.lt_of_lt_of_le h1 hB))
  exact ⟨(XS e).trans x1,(World.cell?_of_block (a:=⟨q,2,none⟩) e).trans x2⟩,fun q h1 h2=>(h.block q (Nat.lt_of_lt_of_le h1 ht.size) (.inl (Nat.lt_of_lt_of_le h1 hB))).trans (ht.old q h1 h2)⟩
theorem Pf.gn [Inhabited Bs] {B gb rb n q k:Nat} {vb:Value} {w w':World} (h:Pf B w w') (hg:Gn gb rb vb n q k w) (hB:rb < B):Gn gb rb vb n q k w':=by
 have kt:∀ t,t≠23→∀ q,q < w.heap.size→tyAt w q=some t→w'.heap[q]?=w.heap[q]?:=fun t ht q hq hty=>h.block q hq (.inr (by rw [hty];exact fun e=>ht (Option.some.inj e)))
 have eb:=kt _ (by decide) gb hg.lt hg.ty
 have cb:∀ j,w'.cell? ⟨gb,j,none⟩=w.cell? ⟨gb,j,none⟩:=fun j=>World.cell?_of_block (a:=⟨gb,j,none⟩) eb
 have hlt:=hg.lt
 have hup:=hg.up
 obtain ⟨p,hp,hr⟩:=hg.R
 obtain ⟨v,xs,n1,n2,n3⟩:=hg.nm
 obtain ⟨vf,m,ys,f1,f2,f3,f4⟩:=hg.fn
 obtain ⟨c,hc,h5⟩:=hg.ct
 obtain ⟨z,hz,hz1,h6⟩:=hg.sz
 exact ⟨⟨p,hp,hr.upto (fun b hb=>h.block b (by omega) (.inl (by omega)))⟩,hup,(XS eb).trans hg.ty,(cb 0).trans hg.c0,⟨v,xs,(cb 1).trans n1,YF n2 (kt _ (by decide)),n3⟩,⟨vf,m,ys,(cb 2).trans f1,YF f2 (kt _ (by decide)),f3,f4.keep (kt _ (by decide))⟩,⟨c,hc,(cb 3).trans h5⟩,⟨z,hz,hz1,(cb 4).trans h6⟩,fun j=>(World.frozen?_of_block (a:=⟨gb,j,none⟩) eb).trans (hg.fr j),hg.km⟩
theorem pushed [Inhabited Bs] {B:Nat} {W W':World} {O:Obj} {v v' u:Value} {l:List Tr.Nd} {ls:List (List Tr.Nd)} {vs:List Value} (h1:W.ownsRow B 23 1 v ls.length vs) (h2:∀ i (h:i < ls.length),∃ u,vs[i]?=some u∧NR W u ls[i]∧0 < ls[i].length) (hu:NR W u l) (hl:0 < l.length) (hx:W'.ownsRow B 23 1 v' (ls.length+1) (vs++[u])) (hg:(W.alloc O).grownBy W' v.ownBlock):PW B W' v' (ls++[l])∧Pf B W W':=by
 have hb:=(Below.refl W.heap.size W).alloc (Nat.le_refl _) O
 have hpf:Pf B W W':=⟨hg.os.trans hb.os,hg.tape.trans hb.tape,hg.output.trans hb.output,Nat.le_trans hb.size hg.size,fun b hq hc=>by
  refine (hg.block b (Nat.lt_of_lt_of_le hq hb.size) (fun e=>?_)).trans (hb.block b hq)
  have h3:=h1.lt b e.symm
  have h4:=XM h1 e.symm
  rcases hc with hc | hc
  ·omega
  ·exact hc h4⟩
 have hvl:vs.length=ls.length:=by have:=h1.1;omega
 refine ⟨⟨vs++[u],by rw [List.length_append];exact hx,fun i hi=>?_⟩,hpf⟩
 by_cases hk:i < ls.length
 ·obtain ⟨u',a,b,c⟩:=h2 i hk
  rw [List.getElem_append_left hk]
  exact ⟨u',by rw [List.getElem?_append_left (by omega)];exact a,hpf.nr b,c⟩
 ·have hi':i=ls.length:=by simp only [List.length_append,List.length_cons,List.length_nil] at hi;omega
  subst hi'
  have e:(ls++[l])[ls.length]'hi=l:=by simp
  rw [e]
  exact ⟨u,by rw [List.getElem?_append_right (by omega),hvl];simp,hpf.nr hu,hl⟩
variable (gb rb:Nat) (vb:Value) (n:Nat)
def CallAt [Inhabited Bs] (d kd:Nat):Prop:=∀ (q k:Nat) (kind:Int) (w:World),Gn gb rb vb n q k w→q+5 * kd+40≤700000000→k+1+d≤900→Calls Tryz.prog 97 #[.pointer (some ⟨gb,0,none⟩),.int .i64 kind,.int .i64 ((d:Int)+1)] w fun e w'=>GOk gb rb vb n q (4 * kd+30) k w e w'
theorem pick_keep [Inhabited Bs] {q k:Nat} {w:World} (h:Gn gb rb vb n q k w) (hq:q≤900000000) (m:Nat) (h2:m≤1000000):Calls Tryz.prog 19 #[.pointer (some ⟨rb,0,none⟩),.int .i64 m] w fun e w'=>∃ z:Nat,(0 < m→z < m)∧e = .returned (.int .i64 (z:Int))∧Gn gb rb vb n (q+1) k w'∧Ty w w'∧z≤m∧∀ b,b < w.heap.size→b≠rb→w'.heap[b]?=w.heap[b]?:=by
 obtain ⟨p,hp,hr⟩:=h.R
 rcases Nat.eq_zero_or_pos m with rfl | hm
 ·refine (pick_none rb n p vb w hr (by omega)).mono ?_
  rintro e w1 ⟨rfl,hr1,hd⟩
  exact ⟨0,fun h=>h,rfl,h.keep (by omega) hd.block ⟨p+1,by omega,hr1⟩,.dr hd hr.own,Nat.le_refl _,hd.block⟩
 ·refine (J0 rb n p vb m w hr (by omega) (by omega) (by omega)).mono ?_
  rintro e w1 ⟨z,hz,rfl,hr1,hd⟩
  exact ⟨z,fun _=>by omega,rfl,h.keep (by omega) hd.block ⟨p+1,by omega,hr1⟩,.dr hd hr.own,by omega,hd.block⟩
def TMk (w:World) (m:Nat) (e:Ending) (w':World):Prop:=∃ v l,e = .returned (.agg #[v])∧NR w' v l∧0 < l.length∧l.length≤m∧Below w.heap.size w w'
theorem XI [Inhabited Bs] {w:World} {b:Nat} {v:Value} {t:TypeId} (h:w.heap[b]?=some (.cells #[v] t)):w.cell? ⟨b,0,none⟩=some v∧w.frozen? ⟨b,0,none⟩=false:=⟨by rw [World.cell?,h];rfl,by rw [World.frozen?,h];simp⟩
set_option maxRecDepth 100000 in
set_option maxHeartbeats 2000000 in
theorem deep_any [Inhabited Bs] (m:Nat) (w:World) (hm2:2≤m) (hm:m≤100):Calls Tryz.prog 60 #[.int .i64 (m:Int)] w fun e w'=>TMk w 110 e w':=by
 have hwm:IntKind.i64.wrap ((m:Int) - 2)=(m:Int) - 2:=by rw [IntKind.wrap_i64];omega
 have X0:Hid ((w.alloc (.cells #[.slice none 0 0] 25)).heap[w.heap.size]?=some (.cells #[.slice none 0 0] 25)):=X1 (Xf _ _)
 have B0:Hid (Below w.heap.size w (w.alloc (.cells #[.slice none 0 0] 25))):=X1 (bA _)
 have L0:Hid (w.heap.size < (w.alloc (.cells #[.slice none 0 0] 25)).heap.size):=X1 (by simp)
 go_enter Tryz.func60,Tryz.ntmps60
 go_wp2_with fail
 refine (Zj 1 _).mono ?_
 rintro e w1 ⟨v1,l1,rfl,nr1,p1,m1,b1⟩
 obtain ⟨g1,c1,hv1⟩:=nr1.form p1
 subst hv1
 have HN1:=X1 nr1
 have HB1:=X1 (B0.out.trans (b1.mono B0.out.size))
 have HX1:=X1 ((b1.block _ L0.out).trans X0.out)
 clear nr1 b1
 go_wp2_with fail
 go_loopw [3,4] (fun sv tv wr=>∃ (i:Nat) (l:List Tr.Nd),i+2≤m∧tv = .int .i64 (i:Int)∧NR wr sv l∧0 < l.length∧l.length≤i+1∧Below w.heap.size w wr∧wr.heap[w.heap.size]?=some (.cells #[.slice none 0 0] 25)) (fun _ tv _=>m - (intOf tv).toNat)
 case atStart=>exact ⟨0,_,by omega,rfl,HN1.out,p1,m1,HB1.out,HX1.out⟩
 case round =>
  obtain ⟨i,l,hi,rfl,hn,hp,hl,hB,hX⟩:=hrel
  obtain ⟨g,c,hv⟩:=hn.form hp
  subst hv
  have hxl:w.heap.size < wr.heap.size:=World.block_lt_of_cell? wr ⟨w.heap.size,0,none⟩ (XI hX).1
  have HB:=X1 hB
  have HX:=X1 hX
  by_cases hlt:(i:Int) < (m:Int) - 2
  ·have HO:=X1 (Xx ⟨6,2,0,⟨#[]⟩,0⟩ [_] _ _ (i+1) (pr1 hn hp) (by rw [fl1];omega) (by omega) (by simp))
   unfold ndV at HO
   clear hn hB hX
   go_wp2_with fail
   refine HO.out.mono ?_
   rintro e2 w2 ⟨v2,l2,rfl,nr2,p2,m2,b2⟩
   obtain ⟨g2,c2,hv2⟩:=nr2.form p2
   subst hv2
   have HN2:=X1 nr2
   have HB2:=X1 ((HB.out.alloc (HB.out.size) (.cells #[.slice (some ⟨g,0,none⟩) l.length c] 23)).trans (b2.mono (Nat.le_trans HB.out.size (by simp))))
   have HX2:=X1 ((b2.block _ (by simp;omega)).trans (((bA (.cells #[.slice (some ⟨g,0,none⟩) l.length c] 23)).block _ hxl).trans HX.out))
   clear nr2 b2
   go_wp2
   go_roundw
   case rel=>exact ⟨i+1,_,by omega,by go_num,HN2.out,p2,by omega,HB2.out,HX2.out⟩
   case measure=>simp [intOf];omega
  ·have HO:=X1 (Xx ⟨21,0,0,⟨#[120]⟩,0⟩ [_] _ _ (i+1) (pr1 hn hp) (by rw [fl1];omega) (by omega) (by simp))
   unfold ndV at HO
   clear hn hB hX
   go_wp2_with fail
   refine HO.out.mono ?_
   rintro e2 w2 ⟨v2,l2,rfl,nr2,p2,m2,b2⟩
   obtain ⟨g2,c2,hv2⟩:=nr2.form p2
   subst hv2
   have HB2:=X1 ((HB.out.alloc (HB.out.size) (.cells #[.slice (some ⟨g,0,none⟩) l.length c] 23)).trans (b2.mono (Nat.le_trans HB.out.size (by simp))))
   have HX2:=X1 ((b2.block _ (by simp;omega)).trans (((bA (.cells #[.slice (some ⟨g,0,none⟩) l.length c] 23)).block _ hxl).trans HX.out))
   have hx2:w.heap.size < w2.heap.size:=World.block_lt_of_cell? w2 ⟨w.heap.size,0,none⟩ (XI HX2.out).1
   have HO2:=X1 (Xx ⟨24,0,0,⟨#[]⟩,0⟩ [_] _ _ (i+2) (pr1 nr2 p2) (by rw [fl1];omega) (by omega) (by simp))
   unfold ndV at HO2
   clear nr2 b2
   go_wp2_with fail
   refine HO2.out.mono ?_
   rintro e3 w3 ⟨v3,l3,rfl,nr3,p3,m3,b3⟩
   obtain ⟨g3,c3,hv3⟩:=nr3.form p3
   subst hv3
   have HB3:=X1 ((HB2.out.alloc (HB2.out.size) (.cells #[.slice (some ⟨g2,0,none⟩) l2.length c2] 23)).trans (b3.mono (Nat.le_trans HB2.out.size (by simp))))
   have hX3:=(b3.block _ (by simp;omega)).trans (((bA (.cells #[.slice (some ⟨g2,0,none⟩) l2.length c2] 23)).block _ hx2).trans HX2.out)
   have t0:=(XI hX3).1
   have ft:=(XI hX3).2
   have hty:tyAt w3 w.heap.size≠some 33:=by unfold tyAt;rw [hX3];decide
   have HN3:Hid (NR (w3.setCell ⟨w.heap.size,0,none⟩ (.slice (some ⟨g3,0,none⟩) l3.length c3)) (.slice (some ⟨g3,0,none⟩) l3.length c3) l3):=X1 ⟨XW nr3.1 hty,nr3.2⟩
   clear nr3 b3 hX3
   go_wp2
   refine bodyPost_ret (v:= .agg #[.slice (some ⟨g3,0,none⟩) l3.length c3]) (by simp [results,Tryz.results60,go_sem,t0]) rfl ⟨_,_,rfl,HN3.out,p3,by omega,HB3.out.setCell (p:=⟨w.heap.size,0,none⟩) (Nat.le_refl _) _⟩
end Go.Proofs.YthbfdaifgnhkbaaGreatDoor
