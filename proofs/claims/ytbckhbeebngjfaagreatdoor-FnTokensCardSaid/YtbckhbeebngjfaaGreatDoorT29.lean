/- Cc, Cd, Ce. -/
import Derived.Test.YtbckhbeebngjfaaGreatDoorT28
import Derived.BigQuiet
namespace Go.Proofs.YtbckhbeebngjfaaGreatDoor
open Go.RowKit
def SeenC (xs:List Value) (k:Nat):Prop:=∀ i,i < k→∃ (s:Short) (z:Int),xs[i*2]?=some (.string s)∧xs[i*2+1]?=some (.int .i64 z)
def FnC (w:World) (ys:List Value) (m:Nat):Prop:=∀ i,i < m→∃ (s:Short) (pv:Value) (ps:List Int) (f z:Int),ys[i*4]?=some (.string s)∧ys[i*4+1]?=some pv∧ys[i*4+2]?=some (.int .i64 f)∧ys[i*4+3]?=some (.int .i64 z)∧w.ownsRow 0 3 1 pv ps.length (ps.map (Value.int .i64))∧ps.length≤3∧0≤f∧f≤3
theorem FnC.keep [Inhabited Bs] {w w':World} {ys:List Value} {m:Nat} (h:FnC w ys m) (hb:∀ q,q < w.heap.size→tyAt w q=some 3→w'.heap[q]?=w.heap[q]?):FnC w' ys m:=fun i hi=>by
 obtain ⟨s,pv,ps,f,z,h1,h2,h3,h4,h5,h6⟩:=h i hi
 exact ⟨s,pv,ps,f,z,h1,h2,h3,h4,row_tyM h5 hb,h6⟩
structure Gn [Inhabited Bs] (gb rb:Nat) (vb:Value) (n q k:Nat) (w:World):Prop where
 R:∃ p,p≤q∧Rd w rb vb n p
 up:rb < gb
 ty:tyAt w gb=some 103
 c0:w.cell? ⟨gb,0,none⟩=some (.pointer (some ⟨rb,0,none⟩))
 nm:∃ v xs,w.cell? ⟨gb,1,none⟩=some v∧w.ownsRow (rb+1) 123 2 v k xs∧SeenC xs k
 fn:∃ v m ys,w.cell? ⟨gb,2,none⟩=some v∧w.ownsRow (rb+1) 127 4 v m ys∧m≤1000∧FnC w ys m
 ct:∃ c:Nat,c≤q∧w.cell? ⟨gb,3,none⟩=some (.int .i64 c)
 sz:∃ c:Int,-(q:Int)≤c∧c≤1000∧w.cell? ⟨gb,4,none⟩=some (.int .i64 c)
 fr:∀ j,w.frozen? ⟨gb,j,none⟩=false
 km:k≤1000
section
variable {gb rb:Nat} {vb:Value} {n q k:Nat} {w w':World}
theorem Gn.lt [Inhabited Bs] (h:Gn gb rb vb n q k w):gb < w.heap.size:=World.block_lt_of_cell? w ⟨gb,0,none⟩ h.c0
theorem Gn.rty [Inhabited Bs] (h:Gn gb rb vb n q k w):tyAt w rb=some 45:=by obtain ⟨p,_,hr⟩:=h.R;exact hr.ty
theorem Gn.ne [Inhabited Bs] (h:Gn gb rb vb n q k w):gb≠rb:=fun e=>by have:=h.up;omega
theorem Gn.mono [Inhabited Bs] (h:Gn gb rb vb n q k w) {q':Nat} (hq:q≤q'):Gn gb rb vb n q' k w:=by
 obtain ⟨⟨p,hp,hr⟩,h0,h1,h2,h3,h4,⟨c,hc,h5⟩,⟨z,hz,hz1,h6⟩,h7,h8⟩:=h
 exact ⟨⟨p,by omega,hr⟩,h0,h1,h2,h3,h4,⟨c,by omega,h5⟩,⟨z,by omega,hz1,h6⟩,h7,h8⟩
theorem Gn.keep [Inhabited Bs] (h:Gn gb rb vb n q k w) {q':Nat} (hq:q≤q') (hb:∀ b,b < w.heap.size→b≠rb→w'.heap[b]?=w.heap[b]?) (hr:∃ p,p≤q'∧Rd w' rb vb n p):Gn gb rb vb n q' k w':=by
 have hl:=h.lt
 have hne:=h.ne
 have hrt:=h.rty
 have eb:=hb gb hl hne
 have cb:∀ j,w'.cell? ⟨gb,j,none⟩=w.cell? ⟨gb,j,none⟩:=fun j=>World.cell?_of_block (a:=⟨gb,j,none⟩) eb
 have kt:∀ t,t≠45→∀ q,q < w.heap.size→tyAt w q=some t→w'.heap[q]?=w.heap[q]?:=fun t ht q hq hty=>hb q hq (fun e=>by rw [e,hrt] at hty;exact ht (Option.some.inj hty).symm)
 obtain ⟨v,xs,n1,n2,n3⟩:=h.nm
 obtain ⟨vf,m,ys,f1,f2,f3,f4⟩:=h.fn
 obtain ⟨c,hc,h5⟩:=h.ct
 obtain ⟨z,hz,hz1,h6⟩:=h.sz
 exact ⟨hr,h.up,(tyAt_block eb).trans h.ty,(cb 0).trans h.c0,⟨v,xs,(cb 1).trans n1,row_tyM n2 (kt _ (by decide)),n3⟩,⟨vf,m,ys,(cb 2).trans f1,row_tyM f2 (kt _ (by decide)),f3,f4.keep (kt _ (by decide))⟩,⟨c,by omega,(cb 3).trans h5⟩,⟨z,by omega,hz1,(cb 4).trans h6⟩,fun j=>(World.frozen?_of_block (a:=⟨gb,j,none⟩) eb).trans (h.fr j),h.km⟩
theorem Gn.below [Inhabited Bs] (h:Gn gb rb vb n q k w) (hb:Below w.heap.size w w'):Gn gb rb vb n q k w' :=
 h.keep (Nat.le_refl _) (fun b hq _=>hb.block b hq) (by obtain ⟨p,hp,hr⟩:=h.R;exact ⟨p,hp,hr.keep hb⟩)
theorem Rd.upto [Inhabited Bs] {p:Nat} (h:Rd w rb vb n p) (hb:∀ b,b≤rb→w'.heap[b]?=w.heap[b]?):Rd w' rb vb n p:=by
 have eb:=hb rb (Nat.le_refl _)
 refine ⟨(World.cell?_of_block (a:=⟨rb,0,none⟩) eb).trans h.c0,(World.cell?_of_block (a:=⟨rb,1,none⟩) eb).trans h.c1,(World.frozen?_of_block (a:=⟨rb,1,none⟩) eb).trans h.f1,(tyAt_block eb).trans h.ty,h.lo,?_⟩
 rcases h.by_ with h | ⟨g,o,c,h1,h2,h3,h4,h6⟩
 ·exact .inl h
 ·refine .inr ⟨g,o,c,h1,h2,h3,h4,fun i hi=>?_⟩
  obtain ⟨k,hk,hc⟩:=h6 i hi
  exact ⟨k,hk,(World.cell?_of_block (a:=⟨g,o+i,none⟩) (hb g (by omega))).trans hc⟩
theorem row_setC [Inhabited Bs] {base size b o:Nat} {e:TypeId} {v:Value} {m:Nat} {xs:List Value} {u:Value} (h:w.ownsRow base e size v m xs) (ht:tyAt w b≠some e):(w.setCell ⟨b,o,none⟩ u).ownsRow base e size v m xs :=
 row_tyM h (fun q _ hq=>Below.heap_setCell _ _ _ _ (fun e'=>ht (by rw [← hq,e'])))
theorem Gn.count [Inhabited Bs] (h:Gn gb rb vb n q k w) {c:Nat} (hc:c≤q+1):Gn gb rb vb n (q+1) k (w.setCell ⟨gb,3,none⟩ (.int .i64 c)):=by
 have hty:=h.ty
 have hup:=h.up
 have oth:∀ j,j≠3→(w.setCell ⟨gb,3,none⟩ (.int .i64 c)).cell? ⟨gb,j,none⟩=w.cell? ⟨gb,j,none⟩:=fun j hj=>World.cell?_setCell_other _ _ _ _ (fun e=>hj (congrArg Addr.off e).symm)
 obtain ⟨p,hp,hr⟩:=h.R
 obtain ⟨v,xs,n1,n2,n3⟩:=h.nm
 obtain ⟨vf,m,ys,f1,f2,f3,f4⟩:=h.fn
 obtain ⟨c',hc',h5⟩:=h.ct
 obtain ⟨z,hz,hz1,h6⟩:=h.sz
 exact ⟨⟨p,by omega,hr.upto (fun b hb=>Below.heap_setCell _ _ _ _ (show b≠gb by omega))⟩,hup,by rw [tyAt_set];exact hty,(oth 0 (by decide)).trans h.c0,⟨v,xs,(oth 1 (by decide)).trans n1,row_setC n2 (by rw [hty];decide),n3⟩,⟨vf,m,ys,(oth 2 (by decide)).trans f1,row_setC f2 (by rw [hty];decide),f3,f4.keep (fun q' _ hq'=>Below.heap_setCell _ _ _ _ (fun e=>by have e':q'=gb:=e;rw [e',hty] at hq';cases hq'))⟩,⟨c,by omega,World.cell?_setCell_same _ _ _ h5⟩,⟨z,by omega,hz1,(oth 4 (by decide)).trans h6⟩,fun j=>by rw [World.frozen?_setCell];exact h.fr j,h.km⟩
theorem Gn.down [Inhabited Bs] (h:Gn gb rb vb n q k w) {c:Int} (hc:-((q:Int)+1)≤c) (hc1:c≤1000):Gn gb rb vb n (q+1) k (w.setCell ⟨gb,4,none⟩ (.int .i64 c)):=by
 have hty:=h.ty
 have hup:=h.up
 have oth:∀ j,j≠4→(w.setCell ⟨gb,4,none⟩ (.int .i64 c)).cell? ⟨gb,j,none⟩=w.cell? ⟨gb,j,none⟩:=fun j hj=>World.cell?_setCell_other _ _ _ _ (fun e=>hj (congrArg Addr.off e).symm)
 obtain ⟨p,hp,hr⟩:=h.R
 obtain ⟨v,xs,n1,n2,n3⟩:=h.nm
 obtain ⟨vf,m,ys,f1,f2,f3,f4⟩:=h.fn
 obtain ⟨c',hc',h5⟩:=h.ct
 obtain ⟨z,hz,hz1,h6⟩:=h.sz
 exact ⟨⟨p,by omega,hr.upto (fun b hb=>Below.heap_setCell _ _ _ _ (show b≠gb by omega))⟩,hup,by rw [tyAt_set];exact hty,(oth 0 (by decide)).trans h.c0,⟨v,xs,(oth 1 (by decide)).trans n1,row_setC n2 (by rw [hty];decide),n3⟩,⟨vf,m,ys,(oth 2 (by decide)).trans f1,row_setC f2 (by rw [hty];decide),f3,f4.keep (fun q' _ hq'=>Below.heap_setCell _ _ _ _ (fun e=>by have e':q'=gb:=e;rw [e',hty] at hq';cases hq'))⟩,⟨c',by omega,(oth 3 (by decide)).trans h5⟩,⟨c,by omega,hc1,World.cell?_setCell_same _ _ _ h6⟩,fun j=>by rw [World.frozen?_setCell];exact h.fr j,h.km⟩
theorem Gn.names [Inhabited Bs] (h:Gn gb rb vb n q k w) {v':Value} {k':Nat} {xs:List Value} (hx:w.ownsRow (rb+1) 123 2 v' k' xs) (hs:SeenC xs k') (hk:k'≤1000):Gn gb rb vb n q k' (w.setCell ⟨gb,1,none⟩ v'):=by
 have hty:=h.ty
 have hup:=h.up
 have oth:∀ j,j≠1→(w.setCell ⟨gb,1,none⟩ v').cell? ⟨gb,j,none⟩=w.cell? ⟨gb,j,none⟩:=fun j hj=>World.cell?_setCell_other _ _ _ _ (fun e=>hj (congrArg Addr.off e).symm)
 obtain ⟨p,hp,hr⟩:=h.R
 obtain ⟨v,_,n1,_,_⟩:=h.nm
 obtain ⟨vf,m,ys,f1,f2,f3,f4⟩:=h.fn
 obtain ⟨c',hc',h5⟩:=h.ct
 obtain ⟨z,hz,hz1,h6⟩:=h.sz
 exact ⟨⟨p,by omega,hr.upto (fun b hb=>Below.heap_setCell _ _ _ _ (show b≠gb by omega))⟩,hup,by rw [tyAt_set];exact hty,(oth 0 (by decide)).trans h.c0,⟨v',xs,World.cell?_setCell_same _ _ _ n1,row_setC hx (by rw [hty];decide),hs⟩,⟨vf,m,ys,(oth 2 (by decide)).trans f1,row_setC f2 (by rw [hty];decide),f3,f4.keep (fun q' _ hq'=>Below.heap_setCell _ _ _ _ (fun e=>by have e':q'=gb:=e;rw [e',hty] at hq';cases hq'))⟩,⟨c',by omega,(oth 3 (by decide)).trans h5⟩,⟨z,by omega,hz1,(oth 4 (by decide)).trans h6⟩,fun j=>by rw [World.frozen?_setCell];exact h.fr j,hk⟩
theorem Gn.push [Inhabited Bs] (h:Gn gb rb vb n q k w) {v v':Value} (hv:w.cell? ⟨gb,1,none⟩=some v) (hg:w.grownBy w' v.ownBlock) {k':Nat} {xs:List Value} (hx:w'.ownsRow (rb+1) 123 2 v' k' xs) (hs:SeenC xs k') (hk:k'≤1000):Gn gb rb vb n q k' (w'.setCell ⟨gb,1,none⟩ v'):=by
 have hl:=h.lt
 have hup:=h.up
 obtain ⟨v0,xs0,n1,n2,n3⟩:=h.nm
 obtain rfl:v0=v:=by rw [n1] at hv;exact Option.some.inj hv
 have own:∀ b,v0.ownBlock=some b→rb+1≤b∧tyAt w b=some 123:=fun b hb=>⟨(n2.lt b hb).1,row_tyAt n2 hb⟩
 have kt:∀ t,t≠123→∀ q,q < w.heap.size→tyAt w q=some t→w'.heap[q]?=w.heap[q]?:=fun t ht q hq hty=>hg.block q hq (fun e=>by have:=(own q e.symm).2;rw [hty] at this;exact ht (Option.some.inj this))
 have eb:=kt _ (by decide) gb hl h.ty
 have hty:tyAt w' gb=some 103:=(tyAt_block eb).trans h.ty
 have cb:∀ j,j≠1→(w'.setCell ⟨gb,1,none⟩ v').cell? ⟨gb,j,none⟩=w.cell? ⟨gb,j,none⟩:=fun j hj=>(World.cell?_setCell_other _ _ _ _ (fun e=>hj (congrArg Addr.off e).symm)).trans (World.cell?_of_block (a:=⟨gb,j,none⟩) eb)
 have sb:∀ b,b≠gb→(w'.setCell ⟨gb,1,none⟩ v').heap[b]?=w'.heap[b]?:=fun b hb=>Below.heap_setCell _ _ _ _ hb
 have kt2:∀ t,t≠123→t≠103→∀ q,q < w.heap.size→tyAt w q=some t→(w'.setCell ⟨gb,1,none⟩ v').heap[q]?=w.heap[q]?:=fun t h1 h2 q hq hq2=>(sb q (fun e=>by rw [e,h.ty] at hq2;exact h2 (Option.some.inj hq2).symm)).trans (kt t h1 q hq hq2)
 obtain ⟨p,hp,hr⟩:=h.R
 obtain ⟨vf,m,ys,f1,f2,f3,f4⟩:=h.fn
 obtain ⟨c,hc,h5⟩:=h.ct
 obtain ⟨z,hz,hz1,h6⟩:=h.sz
 exact ⟨⟨p,hp,hr.upto (fun b hb=>(sb b (by omega)).trans (hg.block b (by omega) (fun e=>by have:=(own b e.symm).1;omega)))⟩,hup,by rw [tyAt_set];exact hty,(cb 0 (by decide)).trans h.c0,⟨v',xs,World.cell?_setCell_same _ _ _ ((World.cell?_of_block (a:=⟨gb,1,none⟩) eb).trans n1),row_setC hx (by rw [hty];decide),hs⟩,⟨vf,m,ys,(cb 2 (by decide)).trans f1,row_tyM f2 (kt2 _ (by decide) (by decide)),f3,f4.keep (kt2 _ (by decide) (by decide))⟩,⟨c,by omega,(cb 3 (by decide)).trans h5⟩,⟨z,by omega,hz1,(cb 4 (by decide)).trans h6⟩,fun j=>by rw [World.frozen?_setCell];exact (World.frozen?_of_block (a:=⟨gb,j,none⟩) eb).trans (h.fr j),hk⟩
theorem Gn.pick [Inhabited Bs] (h:Gn gb rb vb n q k w) (hq:q≤900000000) (m:Int) (h1:1≤m) (h2:m≤1000000):Calls Tryz.prog 8 #[.pointer (some ⟨rb,0,none⟩),.int .i64 m] w fun e w'=>∃ z:Nat,(z:Int) < m∧e = .returned (.int .i64 (z:Int))∧Gn gb rb vb n (q+1) k w'∧Ty w w':=by
 obtain ⟨p,hp,hr⟩:=h.R
 refine (pick_any rb n p vb m w hr (by omega) h1 h2).mono ?_
 rintro e w1 ⟨z,hz,rfl,hr1,hd⟩
 exact ⟨z,hz,rfl,h.keep (by omega) hd.block ⟨p+1,by omega,hr1⟩,.dr hd hr.own⟩
theorem Gn.pick0 [Inhabited Bs] (h:Gn gb rb vb n q k w) (hq:q≤900000000) (m:Nat) (h2:m≤1000000):Calls Tryz.prog 8 #[.pointer (some ⟨rb,0,none⟩),.int .i64 m] w fun e w'=>∃ z:Nat,(0 < m→z < m)∧e = .returned (.int .i64 (z:Int))∧Gn gb rb vb n (q+1) k w'∧Ty w w'∧z≤m:=by
 rcases Nat.eq_zero_or_pos m with rfl | hm
 ·obtain ⟨p,hp,hr⟩:=h.R
  refine (pick_none rb n p vb w hr (by omega)).mono ?_
  rintro e w1 ⟨rfl,hr1,hd⟩
  exact ⟨0,fun h=>h,rfl,h.keep (by omega) hd.block ⟨p+1,by omega,hr1⟩,.dr hd hr.own,Nat.le_refl _⟩
 ·refine (h.pick hq m (by omega) (by omega)).mono ?_
  rintro e w1 ⟨z,hz,rfl,a,b⟩
  exact ⟨z,fun _=>by omega,rfl,a,b,by omega⟩
theorem Gn.text [Inhabited Bs] (h:Gn gb rb vb n q k w) (hq:q≤900000000):Calls Tryz.prog 22 #[.pointer (some ⟨rb,0,none⟩)] w fun e w'=>∃ t:Short,e = .returned (.string t)∧Gn gb rb vb n (q+7) k w'∧Ty w w':=by
 obtain ⟨p,hp,hr⟩:=h.R
 refine (drawText_any rb n p vb w hr (by omega)).mono ?_
 rintro e w1 ⟨t,p',rfl,hp',hr1,hd⟩
 exact ⟨t,rfl,h.keep (by omega) hd.block ⟨p',by omega,hr1⟩,.dr hd hr.own⟩
theorem Gn.lo [Inhabited Bs] (h:Gn gb rb vb n q k w):lowB≤rb:=by obtain ⟨p,_,hr⟩:=h.R;exact hr.lo
theorem Gn.mine [Inhabited Bs] (h:Gn gb rb vb n q k w):Mine (tyAt w gb)∧lowB≤gb:=⟨by rw [h.ty];exact .inr (.inl rfl),by have:=h.lo;have:=h.up;omega⟩
end
theorem Tr.decC_short [Inhabited Bs]:∀ (k n:Nat),n < 10 ^ (k+1)→(Tr.decC n).length≤k+1:=by
 intro k
 induction k with
 | zero=>intro n hn;rw [Tr.decC,dif_pos (by simpa using hn)];exact Nat.le_refl _
 | succ k ih =>
  intro n hn
  rw [Tr.decC]
  split
  ·show 1≤_;omega
  ·rw [List.length_append]
   have:=ih (n / 10) (by rw [Nat.div_lt_iff_lt_mul (by omega)];rw [Nat.pow_succ] at hn;exact hn)
   show _+1≤_
   omega
variable (gb rb:Nat) (vb:Value) (n:Nat)
set_option maxRecDepth 100000 in
set_option maxHeartbeats 1000000 in
theorem fresh_any [Inhabited Bs] (q k:Nat) (w:World) (h:Gn gb rb vb n q k w) (hq:q≤900000000):Calls Tryz.prog 91 #[.pointer (some ⟨gb,0,none⟩)] w fun e w'=>∃ t:Short,e = .returned (.string t)∧Gn gb rb vb n (q+1) k w'∧Ty w w':=by
 obtain ⟨c,hc,h3⟩:=h.ct
 have f3:=h.fr 3
 have HG:=hide (h.count (c:=c+1) (by omega))
 have HT:Hid (Ty w (w.setCell ⟨gb,3,none⟩ (.int .i64 ((c+1:Nat):Int)))):=hide (.set h.mine (by decide))
 have d3:(w.setCell ⟨gb,3,none⟩ (.int .i64 ((c:Int)+1))).cell? ⟨gb,3,none⟩=some (.int .i64 ((c:Int)+1)):=World.cell?_setCell_same _ _ _ h3
 have hcl:=Tr.decC_short 8 (c+1) (by show c+1 < 1000000000;omega)
 have HD:=hide (decC_any (c+1) (w.setCell ⟨gb,3,none⟩ (.int .i64 ((c+1:Nat):Int))) (by omega))
 rw [show ((c+1:Nat):Int)=(c:Int)+1 from by omega] at HD HG HT
 generalize Tr.decC (c+1)=dc at *
 clear h
 go_enter Tryz.func91,Tryz.ntmps91
 go_wp2_with fail
 refine HD.out.mono ?_
 rintro e w1 ⟨rfl,hb⟩
 have hsz:(⟨dc.toArray⟩:ByteArray).size≤1000:=by show dc.toArray.size≤_;simp;omega
 go_wp2
 go_ret
 exact ⟨⟨(⟨#[110]⟩:ByteArray)++⟨dc.toArray⟩,by rw [ByteArray.size_append];show 1+(⟨dc.toArray⟩:ByteArray).size≤_;omega⟩,rfl,HG.out.below hb,HT.out.trans (.of hb)⟩
variable (gb rb:Nat) (vb:Value) (n:Nat)
theorem row2_cells [Inhabited Bs] {w:World} {B g c k:Nat} {e:TypeId} {xs:List Value} (h:w.ownsRow B e 2 (.slice (some ⟨g,0,none⟩) k c) k xs) {j:Nat} {u:Value} (hu:xs[j]?=some u):w.cell? ⟨g,j,none⟩=some u:=by
 have:=h.cells rfl j u hu
 rwa [add_plainP,Nat.zero_add] at this
def GMk [Inhabited Bs] (q m k:Nat) (w:World) (e:Ending) (w':World):Prop:=∃ v l,e = .returned v∧NR w' v l∧0 < l.length∧l.length≤m∧Gn gb rb vb n (q+m) k w'∧Ty w w'
def GOk [Inhabited Bs] (q m k:Nat) (w:World) (e:Ending) (w':World):Prop:=∃ v l b,e = .returned (.tuple #[v,.bool b])∧(b=true→NR w' v l∧0 < l.length∧l.length≤m)∧(b=false→Gn gb rb vb n (q+1) k w')∧Gn gb rb vb n (q+m) k w'∧Ty w w'∧∃ p i c,v = .slice p i c
set_option maxRecDepth 100000 in
set_option maxHeartbeats 2000000 in
theorem namedG_any [Inhabited Bs] (q k:Nat) (kind:Int) (w:World) (h:Gn gb rb vb n q k w) (hq:q≤800000000):Calls Tryz.prog 103 #[.pointer (some ⟨gb,0,none⟩),.int .i64 kind] w fun e w'=>GOk gb rb vb n q 1 k w e w':=by
 have c0:=h.c0
 obtain ⟨v,xs,n1,n2,n3⟩:=h.nm
 obtain ⟨vp,vc,rfl⟩:=row_formP n2
 have hkm:=h.km
 have HP:=hide (h.pick0 (by omega) k (by omega))
 clear n2 n3 h
 go_enter Tryz.func103,Tryz.ntmps103
 go_wp2_with fail
 refine HP.out.mono ?_
 rintro e w1 ⟨z,hz,rfl,hg1,ht1,hzk⟩
 have HG1:=hide hg1
 have HT1:=hide ht1
 clear hg1 ht1 HP c0 n1
 go_wp2_with fail
 go_loopw [8] (fun t wr=>∃ (i:Nat),i≤k∧t = .int .i64 i∧Gn gb rb vb n (q+1) k wr∧Ty w wr) (fun t _=>k - (intOf t).toNat)
 case atStart=>exact ⟨0,Nat.zero_le _,rfl,HG1.out,HT1.out⟩
 case round =>
  obtain ⟨i,hi,rfl,hG,hT⟩:=hrel
  by_cases hlt:i < k
  ·obtain ⟨v,xs,n1,n2,n3⟩:=hG.nm
   obtain ⟨g,c,hv⟩:∃ g c,v = .slice (some ⟨g,0,none⟩) k c:=by
    rcases n2.2 with ⟨_,h0⟩ | ⟨g,c,_,h2,_⟩
    ·omega
    ·exact ⟨g,c,h2⟩
   subst hv
   have hi1:(z+i) % k < k:=Nat.mod_lt _ (by omega)
   have e1:((z:Int)+(i:Int)) % (k:Int)=(((z+i) % k:Nat):Int):=by simp
   have e2:((z:Int)+(i:Int)).tmod (k:Int)=(((z+i) % k:Nat):Int):=by rw [Int.tmod_eq_emod_of_nonneg (by omega)];exact e1
   have e3:IntKind.i64.wrap ((z:Int)+(i:Int))=(z:Int)+(i:Int):=by rw [IntKind.wrap_i64];omega
   have hk0:¬ k=0:=by omega
   generalize (z+i) % k=x at *
   obtain ⟨s,zz,x1,x2⟩:=n3 x hi1
   have d1:=row2_cells n2 x1
   have d2:=row2_cells n2 x2
   have bx:=(Below.refl wr.heap.size wr).alloc (Nat.le_refl _) (.cells #[.string ⟨#[]⟩,.int .i64 0] 123)
   have n1':=(bx.cell (p:=⟨gb,1,none⟩) hG.lt).trans n1
   have d1':=(bx.cell (p:=⟨g,x*2,none⟩) ((n2.lt g rfl).2)).trans d1
   have d2':=(bx.cell (p:=⟨g,x*2+1,none⟩) ((n2.lt g rfl).2)).trans d2
   have HG:=hide hG
   have HT:=hide hT
   have HX:=hide bx
   clear hG hT n2 n3 x1 x2 bx
   by_cases hkk:zz=kind
   ·subst hkk
    go_wp2_with fail
    go_region
    all_goals
     have HB9:Hid (Below wr.heap.size wr (wr.alloc (.cells #[.string s,.int .i64 zz] 123)).drew):=hide (bA _).drew
     go_wp2_with fail
     refine (nameN_any s _).mono ?_
     rintro e w9 ⟨v9,l9,rfl,a9,k9,m9,b9⟩
     obtain ⟨g9,c9,hv9⟩:=a9.form k9
     subst hv9
     have HG9:=hide ((HG.out.below HB9.out).below b9)
     have HT9:=hide ((HT.out.trans (.of HB9.out)).trans (.of b9))
     have HA9:=hide a9
     clear a9 b9
     go_wp2
     go_ret2
     exact ⟨_,l9,true,rfl,fun _=>⟨HA9.out,k9,m9⟩,fun _=>HG9.out,HG9.out,HT9.out,_,_,_,rfl⟩
   ·have hkb:(zz == kind)=false:=by simpa using hkk
    go_wp2_with fail
    go_region
    all_goals
     have HB9:Hid (Below wr.heap.size wr (wr.alloc (.cells #[.string s,.int .i64 zz] 123)).drew):=hide (bA _).drew
     go_wp2
     go_roundw
     case rel=>exact ⟨i+1,by omega,by go_num,HG.out.below HB9.out,HT.out.trans (.of HB9.out)⟩
     case measure=>simp [intOf];omega
  ·have hie:i=k:=by omega
   subst hie
   have HG:=hide hG
   have HT:=hide hT
   clear hG hT
   go_wp2
   go_ret2
   exact ⟨_,[],false,rfl,(fun h=>by cases h),fun _=>HG.out.below (bA _),HG.out.below (bA _),HT.out.trans (.of (bA _)),_,_,_,rfl⟩
variable (gb rb:Nat) (vb:Value) (n:Nat)
set_option maxRecDepth 100000 in
set_option maxHeartbeats 4000000 in
theorem leaf_any [Inhabited Bs] (q k:Nat) (kind:Int) (w:World) (h:Gn gb rb vb n q k w) (hq:q≤700000000):Calls Tryz.prog 90 #[.pointer (some ⟨gb,0,none⟩),.int .i64 kind] w fun e w'=>GMk gb rb vb n q 30 k w e w':=by
 have HG0:=hide h
 have HT0:Hid (Ty w w):=hide (.refl w)
 clear h
 go_enter Tryz.func90,Tryz.ntmps90
 go_wp2_with fail
 refine (namedG_any gb rb vb n q k kind w HG0.out (by omega)).mono ?_
 rintro e w1 ⟨v1,l1,bb,rfl,hok,_,hg1,ht1,sp1,si1,sc1,hv1⟩
 subst hv1
 have HOK:=hide hok
 have HG1:=hide hg1
 have HT1:=hide ht1
 have c0:=hg1.c0
 clear hok hg1 ht1 HG0 HT0
 cases bb
 ·clear HOK
  by_cases hk0:kind=0
  ·subst hk0
   have HLA:=hide (World.ownsRow_lit (base:=0) (e:=2) (size:=1) w1 #[.int .i64 0,.int .i64 1,.int .i64 2,.int .i64 3,.int .i64 7,.int .i64 200,.int .i64 9223372036854775807] 7 (Nat.zero_le _) (by unfold maxLen;omega) rfl)
   simp only [] at HLA
   have c0b:=(HG1.out.below (bA (.cells #[.int .i64 0,.int .i64 1,.int .i64 2,.int .i64 3,.int .i64 7,.int .i64 200,.int .i64 9223372036854775807] 2))).c0
   go_wp2_with fail
   refine (Gn.pick (HG1.out.below (bA _)) (by omega) 7 (by omega) (by omega)).mono ?_
   rintro e11 w11 ⟨z11,hz11,rfl,hg11,ht11⟩
   have HR11:=hide (TyM.trans (TyM.of (M:=Mine) (bA _)) ht11)
   have HG11:=hide hg11
   have HT11:=hide (HT1.out.trans HR11.out)
   have HLA_11:=hide (row_ty HLA.out ht11 (by unfold Mine;simp))
   have c0_11:=HG11.out.c0
   clear hg11 ht11
   obtain ⟨u12,hu12⟩:∃ u,([.int .i64 0,.int .i64 1,.int .i64 2,.int .i64 3,.int .i64 7,.int .i64 200,.int .i64 9223372036854775807]:List Value)[z11]?=some (.int .i64 u):=by
    have:z11=0∨z11=1∨z11=2∨z11=3∨z11=4∨z11=5∨z11=6:=by omega
    rcases this with rfl | rfl | rfl | rfl | rfl | rfl | rfl <;> exact ⟨_,rfl⟩
   have cl12:=HLA_11.out.cells rfl z11 _ hu12
   rw [add_plainP,Nat.zero_add] at cl12
   clear hu12
   go_wp2_with fail
   refine (intN_any _ _).mono ?_
   rintro e13 w13 ⟨v13,l13,rfl,nr13,pn13,mn13,b13⟩
   have HR13:=hide (TyM.of (M:=Mine) b13)
   have HG13:=hide (HG11.out.below b13)
   have HT13:=hide (HT11.out.trans HR13.out)
   have c0_13:=HG13.out.c0
   clear b13
   obtain ⟨gq13,cq13,hv13⟩:=nr13.form pn13
   subst hv13
   have HNr_13:=hide nr13
   clear nr13
   go_wp2
   go_ret
   exact ⟨_,_,rfl,HNr_13.out,pn13,by omega,HG13.out.mono (by omega),HT13.out⟩
  by_cases hk1:kind=1
  ·subst hk1
   go_wp2_with fail
   refine (Gn.text HG1.out (by omega)).mono ?_
   rintro e14 w14 ⟨t14,rfl,hg14,ht14⟩
   have HR14:=hide ht14
   have HG14:=hide hg14
   have HT14:=hide (HT1.out.trans HR14.out)
   have c0_14:=HG14.out.c0
   clear hg14 ht14
   go_wp2_with fail
   refine (textN_any _ _).mono ?_
   rintro e15 w15 ⟨v15,l15,rfl,nr15,pn15,mn15,b15⟩
   have HR15:=hide (TyM.of (M:=Mine) b15)
   have HG15:=hide (HG14.out.below b15)
   have HT15:=hide (HT14.out.trans HR15.out)
   have c0_15:=HG15.out.c0
   clear b15
   obtain ⟨gq15,cq15,hv15⟩:=nr15.form pn15
   subst hv15
   have HNr_15:=hide nr15
   clear nr15
   go_wp2
   go_ret
   exact ⟨_,_,rfl,HNr_15.out,pn15,by omega,HG15.out.mono (by omega),HT15.out⟩
  by_cases hk2:kind=2
  ·subst hk2
   go_wp2_with fail
   refine (Gn.pick HG1.out (by omega) 2 (by omega) (by omega)).mono ?_
   rintro e16 w16 ⟨z16,hz16,rfl,hg16,ht16⟩
   have HR16:=hide ht16
   have HG16:=hide hg16
   have HT16:=hide (HT1.out.trans HR16.out)
   have c0_16:=HG16.out.c0
   clear hg16 ht16
   go_wp2
   go_ret
   exact ⟨_,_,rfl,nr_new _ ⟨2,0,z16,⟨#[]⟩,0⟩,by simp,by simp,(HG16.out.below (bA _)).mono (by omega),HT16.out.trans (.of (bA _))⟩
  by_cases hk3:kind=3
  ·subst hk3
   go_wp2_with fail
   refine (textN_any _ _).mono ?_
   rintro e17 w17 ⟨v17,l17,rfl,nr17,pn17,mn17,b17⟩
   have HR17:=hide (TyM.of (M:=Mine) b17)
   have HG17:=hide (HG1.out.below b17)
   have HT17:=hide (HT1.out.trans HR17.out)
   have c0_17:=HG17.out.c0
   clear b17
   obtain ⟨gq17,cq17,hv17⟩:=nr17.form pn17
   subst hv17
   have HNa_17:=hide nr17
   clear nr17
   go_wp2_with fail
   refine (textN_any _ _).mono ?_
   rintro e18 w18 ⟨v18,l18,rfl,nr18,pn18,mn18,b18⟩
   have HR18:=hide (TyM.of (M:=Mine) b18)
   have HG18:=hide (HG17.out.below b18)
   have HT18:=hide (HT17.out.trans HR18.out)
   have HNa_18:=hide (HNa_17.out.ty HR18.out)
   have c0_18:=HG18.out.c0
   clear b18
   obtain ⟨gq18,cq18,hv18⟩:=nr18.form pn18
   subst hv18
   have HNb_18:=hide nr18
   clear nr18
   go_wp2_with fail
   have HO:=hide (over_mk ⟨8,0,0,⟨#[]⟩,0⟩ [_,_] _ _ (2) (pr2 HNa_18.out HNb_18.out pn17 pn18) (by rw [fl2];omega) (by omega) (by simp))
   unfold ndV at HO
   refine (HO.out).mono ?_
   rintro e19 w19 ⟨v19,l19,rfl,nr19,pn19,mn19,b19⟩
   have HR19:=hide (TyM.trans (TyM.of (M:=Mine) (bA _)) (TyM.of (M:=Mine) b19))
   have HG19:=hide ((HG18.out.below (bA _)).below b19)
   have HT19:=hide (HT18.out.trans HR19.out)
   have c0_19:=HG19.out.c0
   clear b19
   obtain ⟨gq19,cq19,hv19⟩:=nr19.form pn19
   subst hv19
   have HNr_19:=hide nr19
   clear nr19
   go_wp2
   go_ret
   exact ⟨_,_,rfl,HNr_19.out,pn19,by omega,HG19.out.mono (by omega),HT19.out⟩
  by_cases hk4:kind=4
  ·subst hk4
   go_wp2_with fail
   refine (intN_any _ _).mono ?_
   rintro e20 w20 ⟨v20,l20,rfl,nr20,pn20,mn20,b20⟩
   have HR20:=hide (TyM.of (M:=Mine) b20)
   have HG20:=hide (HG1.out.below b20)
   have HT20:=hide (HT1.out.trans HR20.out)
   have c0_20:=HG20.out.c0
   clear b20
   obtain ⟨gq20,cq20,hv20⟩:=nr20.form pn20
   subst hv20
   have HNa_20:=hide nr20
   clear nr20
   go_wp2_with fail
   have HO:=hide (over_mk ⟨17,0,0,⟨#[97]⟩,0⟩ [_] _ _ (1) (pr1 HNa_20.out pn20) (by rw [fl1];omega) (by omega) (by simp))
   unfold ndV at HO
   refine (HO.out).mono ?_
   rintro e21 w21 ⟨v21,l21,rfl,nr21,pn21,mn21,b21⟩
   have HR21:=hide (TyM.trans (TyM.of (M:=Mine) (bA _)) (TyM.of (M:=Mine) b21))
   have HG21:=hide ((HG20.out.below (bA _)).below b21)
   have HT21:=hide (HT20.out.trans HR21.out)
   have c0_21:=HG21.out.c0
   clear b21
   obtain ⟨gq21,cq21,hv21⟩:=nr21.form pn21
   subst hv21
   have HNf_21:=hide nr21
   clear nr21
   go_wp2_with fail
   have HO:=hide (over_mk ⟨9,0,0,⟨#[]⟩,0⟩ [_] _ _ (2) (pr1 HNf_21.out pn21) (by rw [fl1];omega) (by omega) (by simp))
   unfold ndV at HO
   refine (HO.out).mono ?_
   rintro e22 w22 ⟨v22,l22,rfl,nr22,pn22,mn22,b22⟩
   have HR22:=hide (TyM.trans (TyM.of (M:=Mine) (bA _)) (TyM.of (M:=Mine) b22))
   have HG22:=hide ((HG21.out.below (bA _)).below b22)
   have HT22:=hide (HT21.out.trans HR22.out)
   have c0_22:=HG22.out.c0
   clear b22
   obtain ⟨gq22,cq22,hv22⟩:=nr22.form pn22
   subst hv22
   have HNr_22:=hide nr22
   clear nr22
   go_wp2
   go_ret
   exact ⟨_,_,rfl,HNr_22.out,pn22,by omega,HG22.out.mono (by omega),HT22.out⟩
  have kb0:(kind == 0)=false:=by simpa using hk0
  have kb1:(kind == 1)=false:=by simpa using hk1
  have kb2:(kind == 2)=false:=by simpa using hk2
  have kb3:(kind == 3)=false:=by simpa using hk3
  have kb4:(kind == 4)=false:=by simpa using hk4
  go_wp2
  go_ret
  exact ⟨_,_,rfl,nr_new _ ⟨1,0,0,⟨#[]⟩,0⟩,by simp,by simp,(HG1.out.below (bA _)).mono (by omega),HT1.out.trans (.of (bA _))⟩
 ·obtain ⟨nr0,p0,m0⟩:=HOK.out rfl
  have HN0:=hide nr0
  clear nr0 HOK
  go_wp2_with fail
  refine (Gn.pick HG1.out (by omega) 3 (by omega) (by omega)).mono ?_
  rintro e w2 ⟨z2,hz2,rfl,hg2,ht2⟩
  have HG2:=hide hg2
  have HT2:=hide (HT1.out.trans ht2)
  have HN2:=hide (HN0.out.ty ht2)
  have c0_2:=hg2.c0
  clear hg2 ht2 HG1 HT1 HN0
  by_cases hp:0 < z2
  ·have hp':(0:Int) < (z2:Int):=by omega
   go_wp2
   go_ret
   exact ⟨_,_,rfl,HN2.out,p0,by omega,HG2.out.mono (by omega),HT2.out⟩
  ·obtain rfl:z2=0:=by omega
   clear HN2
   by_cases hk0:kind=0
   ·subst hk0
    have HLA:=hide (World.ownsRow_lit (base:=0) (e:=2) (size:=1) w2 #[.int .i64 0,.int .i64 1,.int .i64 2,.int .i64 3,.int .i64 7,.int .i64 200,.int .i64 9223372036854775807] 7 (Nat.zero_le _) (by unfold maxLen;omega) rfl)
    simp only [] at HLA
    have c0b:=(HG2.out.below (bA (.cells #[.int .i64 0,.int .i64 1,.int .i64 2,.int .i64 3,.int .i64 7,.int .i64 200,.int .i64 9223372036854775807] 2))).c0
    go_wp2_with fail
    refine (Gn.pick (HG2.out.below (bA _)) (by omega) 7 (by omega) (by omega)).mono ?_
    rintro e23 w23 ⟨z23,hz23,rfl,hg23,ht23⟩
    have HR23:=hide (TyM.trans (TyM.of (M:=Mine) (bA _)) ht23)
    have HG23:=hide hg23
    have HT23:=hide (HT2.out.trans HR23.out)
    have HLA_23:=hide (row_ty HLA.out ht23 (by unfold Mine;simp))
    have c0_23:=HG23.out.c0
    clear hg23 ht23
    obtain ⟨u24,hu24⟩:∃ u,([.int .i64 0,.int .i64 1,.int .i64 2,.int .i64 3,.int .i64 7,.int .i64 200,.int .i64 9223372036854775807]:List Value)[z23]?=some (.int .i64 u):=by
     have:z23=0∨z23=1∨z23=2∨z23=3∨z23=4∨z23=5∨z23=6:=by omega
     rcases this with rfl | rfl | rfl | rfl | rfl | rfl | rfl <;> exact ⟨_,rfl⟩
    have cl24:=HLA_23.out.cells rfl z23 _ hu24
    rw [add_plainP,Nat.zero_add] at cl24
    clear hu24
    go_wp2_with fail
    refine (intN_any _ _).mono ?_
    rintro e25 w25 ⟨v25,l25,rfl,nr25,pn25,mn25,b25⟩
    have HR25:=hide (TyM.of (M:=Mine) b25)
    have HG25:=hide (HG23.out.below b25)
    have HT25:=hide (HT23.out.trans HR25.out)
    have c0_25:=HG25.out.c0
    clear b25
    obtain ⟨gq25,cq25,hv25⟩:=nr25.form pn25
    subst hv25
    have HNr_25:=hide nr25
    clear nr25
    go_wp2
    go_ret
    exact ⟨_,_,rfl,HNr_25.out,pn25,by omega,HG25.out.mono (by omega),HT25.out⟩
   by_cases hk1:kind=1
   ·subst hk1
    go_wp2_with fail
    refine (Gn.text HG2.out (by omega)).mono ?_
    rintro e26 w26 ⟨t26,rfl,hg26,ht26⟩
    have HR26:=hide ht26
    have HG26:=hide hg26
    have HT26:=hide (HT2.out.trans HR26.out)
    have c0_26:=HG26.out.c0
    clear hg26 ht26
    go_wp2_with fail
    refine (textN_any _ _).mono ?_
    rintro e27 w27 ⟨v27,l27,rfl,nr27,pn27,mn27,b27⟩
    have HR27:=hide (TyM.of (M:=Mine) b27)
    have HG27:=hide (HG26.out.below b27)
    have HT27:=hide (HT26.out.trans HR27.out)
    have c0_27:=HG27.out.c0
    clear b27
    obtain ⟨gq27,cq27,hv27⟩:=nr27.form pn27
    subst hv27
    have HNr_27:=hide nr27
    clear nr27
    go_wp2
    go_ret
    exact ⟨_,_,rfl,HNr_27.out,pn27,by omega,HG27.out.mono (by omega),HT27.out⟩
   by_cases hk2:kind=2
   ·subst hk2
    go_wp2_with fail
    refine (Gn.pick HG2.out (by omega) 2 (by omega) (by omega)).mono ?_
    rintro e28 w28 ⟨z28,hz28,rfl,hg28,ht28⟩
    have HR28:=hide ht28
    have HG28:=hide hg28
    have HT28:=hide (HT2.out.trans HR28.out)
    have c0_28:=HG28.out.c0
    clear hg28 ht28
    go_wp2
    go_ret
    exact ⟨_,_,rfl,nr_new _ ⟨2,0,z28,⟨#[]⟩,0⟩,by simp,by simp,(HG28.out.below (bA _)).mono (by omega),HT28.out.trans (.of (bA _))⟩
   by_cases hk3:kind=3
   ·subst hk3
    go_wp2_with fail
    refine (textN_any _ _).mono ?_
    rintro e29 w29 ⟨v29,l29,rfl,nr29,pn29,mn29,b29⟩
    have HR29:=hide (TyM.of (M:=Mine) b29)
    have HG29:=hide (HG2.out.below b29)
    have HT29:=hide (HT2.out.trans HR29.out)
    have c0_29:=HG29.out.c0
    clear b29
    obtain ⟨gq29,cq29,hv29⟩:=nr29.form pn29
    subst hv29
    have HNa_29:=hide nr29
    clear nr29
    go_wp2_with fail
    refine (textN_any _ _).mono ?_
    rintro e30 w30 ⟨v30,l30,rfl,nr30,pn30,mn30,b30⟩
    have HR30:=hide (TyM.of (M:=Mine) b30)
    have HG30:=hide (HG29.out.below b30)
    have HT30:=hide (HT29.out.trans HR30.out)
    have HNa_30:=hide (HNa_29.out.ty HR30.out)
    have c0_30:=HG30.out.c0
    clear b30
    obtain ⟨gq30,cq30,hv30⟩:=nr30.form pn30
    subst hv30
    have HNb_30:=hide nr30
    clear nr30
    go_wp2_with fail
    have HO:=hide (over_mk ⟨8,0,0,⟨#[]⟩,0⟩ [_,_] _ _ (2) (pr2 HNa_30.out HNb_30.out pn29 pn30) (by rw [fl2];omega) (by omega) (by simp))
    unfold ndV at HO
    refine (HO.out).mono ?_
    rintro e31 w31 ⟨v31,l31,rfl,nr31,pn31,mn31,b31⟩
    have HR31:=hide (TyM.trans (TyM.of (M:=Mine) (bA _)) (TyM.of (M:=Mine) b31))
    have HG31:=hide ((HG30.out.below (bA _)).below b31)
    have HT31:=hide (HT30.out.trans HR31.out)
    have c0_31:=HG31.out.c0
    clear b31
    obtain ⟨gq31,cq31,hv31⟩:=nr31.form pn31
    subst hv31
    have HNr_31:=hide nr31
    clear nr31
    go_wp2
    go_ret
    exact ⟨_,_,rfl,HNr_31.out,pn31,by omega,HG31.out.mono (by omega),HT31.out⟩
   by_cases hk4:kind=4
   ·subst hk4
    go_wp2_with fail
    refine (intN_any _ _).mono ?_
    rintro e32 w32 ⟨v32,l32,rfl,nr32,pn32,mn32,b32⟩
    have HR32:=hide (TyM.of (M:=Mine) b32)
    have HG32:=hide (HG2.out.below b32)
    have HT32:=hide (HT2.out.trans HR32.out)
    have c0_32:=HG32.out.c0
    clear b32
    obtain ⟨gq32,cq32,hv32⟩:=nr32.form pn32
    subst hv32
    have HNa_32:=hide nr32
    clear nr32
    go_wp2_with fail
    have HO:=hide (over_mk ⟨17,0,0,⟨#[97]⟩,0⟩ [_] _ _ (1) (pr1 HNa_32.out pn32) (by rw [fl1];omega) (by omega) (by simp))
    unfold ndV at HO
    refine (HO.out).mono ?_
    rintro e33 w33 ⟨v33,l33,rfl,nr33,pn33,mn33,b33⟩
    have HR33:=hide (TyM.trans (TyM.of (M:=Mine) (bA _)) (TyM.of (M:=Mine) b33))
    have HG33:=hide ((HG32.out.below (bA _)).below b33)
    have HT33:=hide (HT32.out.trans HR33.out)
    have c0_33:=HG33.out.c0
    clear b33
    obtain ⟨gq33,cq33,hv33⟩:=nr33.form pn33
    subst hv33
    have HNf_33:=hide nr33
    clear nr33
    go_wp2_with fail
    have HO:=hide (over_mk ⟨9,0,0,⟨#[]⟩,0⟩ [_] _ _ (2) (pr1 HNf_33.out pn33) (by rw [fl1];omega) (by omega) (by simp))
    unfold ndV at HO
    refine (HO.out).mono ?_
    rintro e34 w34 ⟨v34,l34,rfl,nr34,pn34,mn34,b34⟩
    have HR34:=hide (TyM.trans (TyM.of (M:=Mine) (bA _)) (TyM.of (M:=Mine) b34))
    have HG34:=hide ((HG33.out.below (bA _)).below b34)
    have HT34:=hide (HT33.out.trans HR34.out)
    have c0_34:=HG34.out.c0
    clear b34
    obtain ⟨gq34,cq34,hv34⟩:=nr34.form pn34
    subst hv34
    have HNr_34:=hide nr34
    clear nr34
    go_wp2
    go_ret
    exact ⟨_,_,rfl,HNr_34.out,pn34,by omega,HG34.out.mono (by omega),HT34.out⟩
   have kb0:(kind == 0)=false:=by simpa using hk0
   have kb1:(kind == 1)=false:=by simpa using hk1
   have kb2:(kind == 2)=false:=by simpa using hk2
   have kb3:(kind == 3)=false:=by simpa using hk3
   have kb4:(kind == 4)=false:=by simpa using hk4
   go_wp2
   go_ret
   exact ⟨_,_,rfl,nr_new _ ⟨1,0,0,⟨#[]⟩,0⟩,by simp,by simp,(HG2.out.below (bA _)).mono (by omega),HT2.out.trans (.of (bA _))⟩
end Go.Proofs.YtbckhbeebngjfaaGreatDoor
