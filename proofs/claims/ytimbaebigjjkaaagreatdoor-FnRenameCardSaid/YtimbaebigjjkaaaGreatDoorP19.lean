/- Cc, Cd, Ce, Cf. -/
import Derived.Test.YtimbaebigjjkaaaGreatDoorP18
import Derived.BigQuiet
namespace Go.Proofs.YtimbaebigjjkaaaGreatDoor
open Go.RowKit
def SeenC (xs:List Value) (k:Nat):Prop:=∀ i,i < k→∃ (s:Short) (z:Int),xs[i*2]?=some (.string s)∧xs[i*2+1]?=some (.int .i64 z)
def FnC (w:World) (ys:List Value) (m:Nat):Prop:=∀ i,i < m→∃ (s:Short) (pv:Value) (ps:List Int) (f z:Int),ys[i*4]?=some (.string s)∧ys[i*4+1]?=some pv∧ys[i*4+2]?=some (.int .i64 f)∧ys[i*4+3]?=some (.int .i64 z)∧w.ownsRow 0 3 1 pv ps.length (ps.map (Value.int .i64))∧ps.length≤3∧0≤f∧f≤3
theorem FnC.keep [LB] {w w':World} {ys:List Value} {m:Nat} (h:FnC w ys m) (hb:∀ q,q < w.heap.size→tyAt w q=some 3→w'.heap[q]?=w.heap[q]?):FnC w' ys m:=fun i hi=>by
 obtain ⟨s,pv,ps,f,z,h1,h2,h3,h4,h5,h6⟩:=h i hi
 exact ⟨s,pv,ps,f,z,h1,h2,h3,h4,YZ h5 hb,h6⟩
structure Gn [LB] (gb rb:Nat) (vb:Value) (n q k:Nat) (w:World):Prop where
 R:∃ p,p≤q∧Rd w rb vb n p
 up:rb < gb
 ty:tyAt w gb=some 116
 c0:w.cell? ⟨gb,0,none⟩=some (.pointer (some ⟨rb,0,none⟩))
 nm:∃ v xs,w.cell? ⟨gb,1,none⟩=some v∧w.ownsRow (rb+1) 142 2 v k xs∧SeenC xs k
 fn:∃ v m ys,w.cell? ⟨gb,2,none⟩=some v∧w.ownsRow (rb+1) 148 4 v m ys∧m≤1000∧FnC w ys m
 ct:∃ c:Nat,c≤q∧w.cell? ⟨gb,3,none⟩=some (.int .i64 c)
 sz:∃ c:Int,-(q:Int)≤c∧c≤1000∧w.cell? ⟨gb,4,none⟩=some (.int .i64 c)
 fr:∀ j,w.frozen? ⟨gb,j,none⟩=false
 km:k≤1000
section
variable {gb rb:Nat} {vb:Value} {n q k:Nat} {w w':World}
theorem Gn.lt [LB] (h:Gn gb rb vb n q k w):gb < w.heap.size:=World.block_lt_of_cell? w ⟨gb,0,none⟩ h.c0
theorem Gn.rty [LB] (h:Gn gb rb vb n q k w):tyAt w rb=some 68:=by obtain ⟨p,_,hr⟩:=h.R;exact hr.ty
theorem Gn.ne [LB] (h:Gn gb rb vb n q k w):gb≠rb:=fun e=>by have:=h.up;omega
theorem Gn.mono [LB] (h:Gn gb rb vb n q k w) {q':Nat} (hq:q≤q'):Gn gb rb vb n q' k w:=by
 obtain ⟨⟨p,hp,hr⟩,h0,h1,h2,h3,h4,⟨c,hc,h5⟩,⟨z,hz,hz1,h6⟩,h7,h8⟩:=h
 exact ⟨⟨p,by omega,hr⟩,h0,h1,h2,h3,h4,⟨c,by omega,h5⟩,⟨z,by omega,hz1,h6⟩,h7,h8⟩
theorem Gn.keep [LB] (h:Gn gb rb vb n q k w) {q':Nat} (hq:q≤q') (hb:∀ b,b < w.heap.size→b≠rb→w'.heap[b]?=w.heap[b]?) (hr:∃ p,p≤q'∧Rd w' rb vb n p):Gn gb rb vb n q' k w':=by
 have hl:=h.lt
 have hne:=h.ne
 have hrt:=h.rty
 have eb:=hb gb hl hne
 have cb:∀ j,w'.cell? ⟨gb,j,none⟩=w.cell? ⟨gb,j,none⟩:=fun j=>World.cell?_of_block (a:=⟨gb,j,none⟩) eb
 have kt:∀ t,t≠68→∀ q,q < w.heap.size→tyAt w q=some t→w'.heap[q]?=w.heap[q]?:=fun t ht q hq hty=>hb q hq (fun e=>by rw [e,hrt] at hty;exact ht (Option.some.inj hty).symm)
 obtain ⟨v,xs,n1,n2,n3⟩:=h.nm
 obtain ⟨vf,m,ys,f1,f2,f3,f4⟩:=h.fn
 obtain ⟨c,hc,h5⟩:=h.ct
 obtain ⟨z,hz,hz1,h6⟩:=h.sz
 exact ⟨hr,h.up,(XX eb).trans h.ty,(cb 0).trans h.c0,⟨v,xs,(cb 1).trans n1,YZ n2 (kt _ (by decide)),n3⟩,⟨vf,m,ys,(cb 2).trans f1,YZ f2 (kt _ (by decide)),f3,f4.keep (kt _ (by decide))⟩,⟨c,by omega,(cb 3).trans h5⟩,⟨z,by omega,hz1,(cb 4).trans h6⟩,fun j=>(World.frozen?_of_block (a:=⟨gb,j,none⟩) eb).trans (h.fr j),h.km⟩
theorem Gn.below [LB] (h:Gn gb rb vb n q k w) (hb:Below w.heap.size w w'):Gn gb rb vb n q k w' :=
 h.keep (Nat.le_refl _) (fun b hq _=>hb.block b hq) (by obtain ⟨p,hp,hr⟩:=h.R;exact ⟨p,hp,hr.keep hb⟩)
theorem Rd.upto [LB] {p:Nat} (h:Rd w rb vb n p) (hb:∀ b,b≤rb→w'.heap[b]?=w.heap[b]?):Rd w' rb vb n p:=by
 have eb:=hb rb (Nat.le_refl _)
 refine ⟨(World.cell?_of_block (a:=⟨rb,0,none⟩) eb).trans h.c0,(World.cell?_of_block (a:=⟨rb,1,none⟩) eb).trans h.c1,(World.frozen?_of_block (a:=⟨rb,1,none⟩) eb).trans h.f1,(XX eb).trans h.ty,h.lo,?_⟩
 rcases h.by_ with h | ⟨g,o,c,h1,h2,h3,h4,h6⟩
 ·exact .inl h
 ·refine .inr ⟨g,o,c,h1,h2,h3,h4,fun i hi=>?_⟩
  obtain ⟨k,hk,hc⟩:=h6 i hi
  exact ⟨k,hk,(World.cell?_of_block (a:=⟨g,o+i,none⟩) (hb g (by omega))).trans hc⟩
theorem Yb [LB] {base size b o:Nat} {e:TypeId} {v:Value} {m:Nat} {xs:List Value} {u:Value} (h:w.ownsRow base e size v m xs) (ht:tyAt w b≠some e):(w.setCell ⟨b,o,none⟩ u).ownsRow base e size v m xs :=
 YZ h (fun q _ hq=>Below.heap_setCell _ _ _ _ (fun e'=>ht (by rw [← hq,e'])))
theorem Gn.count [LB] (h:Gn gb rb vb n q k w) {c:Nat} (hc:c≤q+1):Gn gb rb vb n (q+1) k (w.setCell ⟨gb,3,none⟩ (.int .i64 c)):=by
 have a:=h.ty
 have hup:=h.up
 have d:∀ j,j≠3→(w.setCell ⟨gb,3,none⟩ (.int .i64 c)).cell? ⟨gb,j,none⟩=w.cell? ⟨gb,j,none⟩:=fun j hj=>World.cell?_setCell_other _ _ _ _ (fun e=>hj (congrArg Addr.off e).symm)
 obtain ⟨p,hp,hr⟩:=h.R
 obtain ⟨v,xs,n1,n2,n3⟩:=h.nm
 obtain ⟨vf,m,ys,f1,f2,f3,f4⟩:=h.fn
 obtain ⟨c',hc',h5⟩:=h.ct
 obtain ⟨z,hz,hz1,h6⟩:=h.sz
 exact ⟨⟨p,by omega,hr.upto (fun b hb=>Below.heap_setCell _ _ _ _ (show b≠gb by omega))⟩,hup,by rw [Ky];exact a,(d 0 (by decide)).trans h.c0,⟨v,xs,(d 1 (by decide)).trans n1,Yb n2 (by rw [a];decide),n3⟩,⟨vf,m,ys,(d 2 (by decide)).trans f1,Yb f2 (by rw [a];decide),f3,f4.keep (fun q' _ hq'=>Below.heap_setCell _ _ _ _ (fun e=>by have e':q'=gb:=e;rw [e',a] at hq';cases hq'))⟩,⟨c,by omega,World.cell?_setCell_same _ _ _ h5⟩,⟨z,by omega,hz1,(d 4 (by decide)).trans h6⟩,fun j=>by rw [World.frozen?_setCell];exact h.fr j,h.km⟩
theorem Gn.down [LB] (h:Gn gb rb vb n q k w) {c:Int} (hc:-((q:Int)+1)≤c) (hc1:c≤1000):Gn gb rb vb n (q+1) k (w.setCell ⟨gb,4,none⟩ (.int .i64 c)):=by
 have a:=h.ty
 have hup:=h.up
 have d:∀ j,j≠4→(w.setCell ⟨gb,4,none⟩ (.int .i64 c)).cell? ⟨gb,j,none⟩=w.cell? ⟨gb,j,none⟩:=fun j hj=>World.cell?_setCell_other _ _ _ _ (fun e=>hj (congrArg Addr.off e).symm)
 obtain ⟨p,hp,hr⟩:=h.R
 obtain ⟨v,xs,n1,n2,n3⟩:=h.nm
 obtain ⟨vf,m,ys,f1,f2,f3,f4⟩:=h.fn
 obtain ⟨c',hc',h5⟩:=h.ct
 obtain ⟨z,hz,hz1,h6⟩:=h.sz
 exact ⟨⟨p,by omega,hr.upto (fun b hb=>Below.heap_setCell _ _ _ _ (show b≠gb by omega))⟩,hup,by rw [Ky];exact a,(d 0 (by decide)).trans h.c0,⟨v,xs,(d 1 (by decide)).trans n1,Yb n2 (by rw [a];decide),n3⟩,⟨vf,m,ys,(d 2 (by decide)).trans f1,Yb f2 (by rw [a];decide),f3,f4.keep (fun q' _ hq'=>Below.heap_setCell _ _ _ _ (fun e=>by have e':q'=gb:=e;rw [e',a] at hq';cases hq'))⟩,⟨c',by omega,(d 3 (by decide)).trans h5⟩,⟨c,by omega,hc1,World.cell?_setCell_same _ _ _ h6⟩,fun j=>by rw [World.frozen?_setCell];exact h.fr j,h.km⟩
theorem Gn.names [LB] (h:Gn gb rb vb n q k w) {v':Value} {k':Nat} {xs:List Value} (hx:w.ownsRow (rb+1) 142 2 v' k' xs) (hs:SeenC xs k') (hk:k'≤1000):Gn gb rb vb n q k' (w.setCell ⟨gb,1,none⟩ v'):=by
 have a:=h.ty
 have hup:=h.up
 have c:∀ j,j≠1→(w.setCell ⟨gb,1,none⟩ v').cell? ⟨gb,j,none⟩=w.cell? ⟨gb,j,none⟩:=fun j hj=>World.cell?_setCell_other _ _ _ _ (fun e=>hj (congrArg Addr.off e).symm)
 obtain ⟨p,hp,hr⟩:=h.R
 obtain ⟨v,_,n1,_,_⟩:=h.nm
 obtain ⟨vf,m,ys,f1,f2,f3,f4⟩:=h.fn
 obtain ⟨c',hc',h5⟩:=h.ct
 obtain ⟨z,hz,hz1,h6⟩:=h.sz
 exact ⟨⟨p,by omega,hr.upto (fun b hb=>Below.heap_setCell _ _ _ _ (show b≠gb by omega))⟩,hup,by rw [Ky];exact a,(c 0 (by decide)).trans h.c0,⟨v',xs,World.cell?_setCell_same _ _ _ n1,Yb hx (by rw [a];decide),hs⟩,⟨vf,m,ys,(c 2 (by decide)).trans f1,Yb f2 (by rw [a];decide),f3,f4.keep (fun q' _ hq'=>Below.heap_setCell _ _ _ _ (fun e=>by have e':q'=gb:=e;rw [e',a] at hq';cases hq'))⟩,⟨c',by omega,(c 3 (by decide)).trans h5⟩,⟨z,by omega,hz1,(c 4 (by decide)).trans h6⟩,fun j=>by rw [World.frozen?_setCell];exact h.fr j,hk⟩
theorem Gn.push [LB] (h:Gn gb rb vb n q k w) {v v':Value} (hv:w.cell? ⟨gb,1,none⟩=some v) (hg:w.grownBy w' v.ownBlock) {k':Nat} {xs:List Value} (hx:w'.ownsRow (rb+1) 142 2 v' k' xs) (hs:SeenC xs k') (hk:k'≤1000):Gn gb rb vb n q k' (w'.setCell ⟨gb,1,none⟩ v'):=by
 have hl:=h.lt
 have hup:=h.up
 obtain ⟨v0,xs0,n1,n2,n3⟩:=h.nm
 obtain rfl:v0=v:=by rw [n1] at hv;exact Option.some.inj hv
 have own:∀ b,v0.ownBlock=some b→rb+1≤b∧tyAt w b=some 142:=fun b hb=>⟨(n2.lt b hb).1,XV n2 hb⟩
 have kt:∀ t,t≠142→∀ q,q < w.heap.size→tyAt w q=some t→w'.heap[q]?=w.heap[q]?:=fun t ht q hq d=>hg.block q hq (fun e=>by have:=(own q e.symm).2;rw [d] at this;exact ht (Option.some.inj this))
 have eb:=kt _ (by decide) gb hl h.ty
 have d:tyAt w' gb=some 116:=(XX eb).trans h.ty
 have cb:∀ j,j≠1→(w'.setCell ⟨gb,1,none⟩ v').cell? ⟨gb,j,none⟩=w.cell? ⟨gb,j,none⟩:=fun j hj=>(World.cell?_setCell_other _ _ _ _ (fun e=>hj (congrArg Addr.off e).symm)).trans (World.cell?_of_block (a:=⟨gb,j,none⟩) eb)
 have sb:∀ b,b≠gb→(w'.setCell ⟨gb,1,none⟩ v').heap[b]?=w'.heap[b]?:=fun b hb=>Below.heap_setCell _ _ _ _ hb
 have kt2:∀ t,t≠142→t≠116→∀ q,q < w.heap.size→tyAt w q=some t→(w'.setCell ⟨gb,1,none⟩ v').heap[q]?=w.heap[q]?:=fun t h1 h2 q hq hq2=>(sb q (fun e=>by rw [e,h.ty] at hq2;exact h2 (Option.some.inj hq2).symm)).trans (kt t h1 q hq hq2)
 obtain ⟨p,hp,hr⟩:=h.R
 obtain ⟨vf,m,ys,f1,f2,f3,f4⟩:=h.fn
 obtain ⟨c,hc,h5⟩:=h.ct
 obtain ⟨z,hz,hz1,h6⟩:=h.sz
 exact ⟨⟨p,hp,hr.upto (fun b hb=>(sb b (by omega)).trans (hg.block b (by omega) (fun e=>by have:=(own b e.symm).1;omega)))⟩,hup,by rw [Ky];exact d,(cb 0 (by decide)).trans h.c0,⟨v',xs,World.cell?_setCell_same _ _ _ ((World.cell?_of_block (a:=⟨gb,1,none⟩) eb).trans n1),Yb hx (by rw [d];decide),hs⟩,⟨vf,m,ys,(cb 2 (by decide)).trans f1,YZ f2 (kt2 _ (by decide) (by decide)),f3,f4.keep (kt2 _ (by decide) (by decide))⟩,⟨c,by omega,(cb 3 (by decide)).trans h5⟩,⟨z,by omega,hz1,(cb 4 (by decide)).trans h6⟩,fun j=>by rw [World.frozen?_setCell];exact (World.frozen?_of_block (a:=⟨gb,j,none⟩) eb).trans (h.fr j),hk⟩
theorem Gn.pick [LB] (h:Gn gb rb vb n q k w) (hq:q≤900000000) (m:Int) (h1:1≤m) (h2:m≤1000000):Calls Tryz.prog 14 #[.pointer (some ⟨rb,0,none⟩),.int .i64 m] w fun e w'=>∃ z:Nat,(z:Int) < m∧e = .returned (.int .i64 (z:Int))∧Gn gb rb vb n (q+1) k w'∧Ty w w':=by
 obtain ⟨p,hp,hr⟩:=h.R
 refine (JG rb n p vb m w hr (by omega) h1 h2).mono ?_
 rintro e w1 ⟨z,hz,rfl,hr1,hd⟩
 exact ⟨z,hz,rfl,h.keep (by omega) hd.block ⟨p+1,by omega,hr1⟩,.dr hd hr.own⟩
theorem Gn.pick0 [LB] (h:Gn gb rb vb n q k w) (hq:q≤900000000) (m:Nat) (h2:m≤1000000):Calls Tryz.prog 14 #[.pointer (some ⟨rb,0,none⟩),.int .i64 m] w fun e w'=>∃ z:Nat,(0 < m→z < m)∧e = .returned (.int .i64 (z:Int))∧Gn gb rb vb n (q+1) k w'∧Ty w w'∧z≤m:=by
 rcases Nat.eq_zero_or_pos m with rfl | hm
 ·obtain ⟨p,hp,hr⟩:=h.R
  refine (pick_none rb n p vb w hr (by omega)).mono ?_
  rintro e w1 ⟨rfl,hr1,hd⟩
  exact ⟨0,fun h=>h,rfl,h.keep (by omega) hd.block ⟨p+1,by omega,hr1⟩,.dr hd hr.own,Nat.le_refl _⟩
 ·refine (h.pick hq m (by omega) (by omega)).mono ?_
  rintro e w1 ⟨z,hz,rfl,a,b⟩
  exact ⟨z,fun _=>by omega,rfl,a,b,by omega⟩
theorem Gn.text [LB] (h:Gn gb rb vb n q k w) (hq:q≤900000000):Calls Tryz.prog 114 #[.pointer (some ⟨rb,0,none⟩)] w fun e w'=>∃ t:Short,e = .returned (.string t)∧Gn gb rb vb n (q+7) k w'∧Ty w w':=by
 obtain ⟨p,hp,hr⟩:=h.R
 refine (drawText_any rb n p vb w hr (by omega)).mono ?_
 rintro e w1 ⟨t,p',rfl,hp',hr1,hd⟩
 exact ⟨t,rfl,h.keep (by omega) hd.block ⟨p',by omega,hr1⟩,.dr hd hr.own⟩
theorem Gn.lo [LB] (h:Gn gb rb vb n q k w):lowB≤rb:=by obtain ⟨p,_,hr⟩:=h.R;exact hr.lo
theorem Gn.mine [LB] (h:Gn gb rb vb n q k w):Mine (tyAt w gb)∧lowB≤gb:=⟨by rw [h.ty];exact .inr (.inl rfl),by have:=h.lo;have:=h.up;omega⟩
end
theorem Tr.decC_short [LB]:∀ (k n:Nat),n < 10 ^ (k+1)→(YB n).length≤k+1:=by
 intro k
 induction k with
 | zero=>intro n hn;rw [YB,dif_pos (by simpa using hn)];exact Nat.le_refl _
 | succ k ih =>
  intro n hn
  rw [YB]
  split
  ·show 1≤_;omega
  ·rw [List.length_append]
   have:=ih (n / 10) (by rw [Nat.div_lt_iff_lt_mul (by omega)];rw [Nat.pow_succ] at hn;exact hn)
   show _+1≤_
   omega
variable (gb rb:Nat) (vb:Value) (n:Nat)
set_option maxRecDepth 100000 in
set_option maxHeartbeats 1000000 in
theorem KO [LB] (q k:Nat) (w:World) (h:Gn gb rb vb n q k w) (hq:q≤900000000):Calls Tryz.prog 104 #[.pointer (some ⟨gb,0,none⟩)] w fun e w'=>∃ t:Short,e = .returned (.string t)∧Gn gb rb vb n (q+1) k w'∧Ty w w':=by
 obtain ⟨c,hc,h3⟩:=h.ct
 have f3:=h.fr 3
 have HG:=X1 (h.count (c:=c+1) (by omega))
 have HT:Hid (Ty w (w.setCell ⟨gb,3,none⟩ (.int .i64 ((c+1:Nat):Int)))):=X1 (.set h.mine (by decide))
 have d3:(w.setCell ⟨gb,3,none⟩ (.int .i64 ((c:Int)+1))).cell? ⟨gb,3,none⟩=some (.int .i64 ((c:Int)+1)):=World.cell?_setCell_same _ _ _ h3
 have hcl:=Tr.decC_short 8 (c+1) (by show c+1 < 1000000000;omega)
 have HD:=X1 (ZU (c+1) (w.setCell ⟨gb,3,none⟩ (.int .i64 ((c+1:Nat):Int))) (by omega))
 rw [show ((c+1:Nat):Int)=(c:Int)+1 from by omega] at HD HG HT
 generalize YB (c+1)=dc at *
 clear h
 go_enter Tryz.func104,Tryz.ntmps104
 go_wp2_with fail
 refine HD.o.mono ?_
 rintro e w1 ⟨rfl,hb⟩
 have hsz:(⟨dc.toArray⟩:ByteArray).size≤1000:=by show dc.toArray.size≤_;simp;omega
 go_wp2
 go_ret
 exact ⟨⟨(⟨#[110]⟩:ByteArray)++⟨dc.toArray⟩,by rw [ByteArray.size_append];show 1+(⟨dc.toArray⟩:ByteArray).size≤_;omega⟩,rfl,HG.o.below hb,HT.o.trans (.of hb)⟩
variable (gb rb:Nat) (vb:Value) (n:Nat)
theorem row2_cells [LB] {w:World} {B g c k:Nat} {e:TypeId} {xs:List Value} (h:w.ownsRow B e 2 (.slice (some ⟨g,0,none⟩) k c) k xs) {j:Nat} {u:Value} (hu:xs[j]?=some u):w.cell? ⟨g,j,none⟩=some u:=by
 have:=h.cells rfl j u hu
 rwa [Xl,Nat.zero_add] at this
def GMk [LB] (q m k:Nat) (w:World) (e:Ending) (w':World):Prop:=∃ v l,e = .returned v∧NR w' v l∧0 < l.length∧l.length≤m∧Gn gb rb vb n (q+m) k w'∧Ty w w'
def GOk [LB] (q m k:Nat) (w:World) (e:Ending) (w':World):Prop:=∃ v l b,e = .returned (.tuple #[v,.bool b])∧(b=true→NR w' v l∧0 < l.length∧l.length≤m)∧(b=false→Gn gb rb vb n (q+1) k w')∧Gn gb rb vb n (q+m) k w'∧Ty w w'∧∃ p i c,v = .slice p i c
set_option maxRecDepth 100000 in
set_option maxHeartbeats 2000000 in
theorem namedG_any [LB] (q k:Nat) (kind:Int) (w:World) (h:Gn gb rb vb n q k w) (hq:q≤800000000):Calls Tryz.prog 112 #[.pointer (some ⟨gb,0,none⟩),.int .i64 kind] w fun e w'=>GOk gb rb vb n q 1 k w e w':=by
 have c0:=h.c0
 obtain ⟨v,xs,n1,n2,n3⟩:=h.nm
 obtain ⟨vp,vc,rfl⟩:=Xc n2
 have hkm:=h.km
 have HP:=X1 (h.pick0 (by omega) k (by omega))
 clear n2 n3 h
 go_enter Tryz.func112,Tryz.ntmps112
 go_wp2_with fail
 refine HP.o.mono ?_
 rintro e w1 ⟨z,hz,rfl,hg1,ht1,hzk⟩
 have HG1:=X1 hg1
 have HT1:=X1 ht1
 clear hg1 ht1 HP c0 n1
 go_wp2_with fail
 go_loopw [8] (fun t wr=>∃ (i:Nat),i≤k∧t = .int .i64 i∧Gn gb rb vb n (q+1) k wr∧Ty w wr) (fun t _=>k - (intOf t).toNat)
 case atStart=>exact ⟨0,Nat.zero_le _,rfl,HG1.o,HT1.o⟩
 case round =>
  obtain ⟨i,hi,rfl,hG,hT⟩:=hrel
  by_cases hlt:i < k
  ·obtain ⟨v,xs,n1,n2,n3⟩:=hG.nm
   obtain ⟨g,c,hv⟩:∃ g c,v = .slice (some ⟨g,0,none⟩) k c:=by
    rcases n2.2 with ⟨_,h0⟩ | ⟨g,c,_,h2,_⟩
    ·omega
    ·exact ⟨g,c,h2⟩
   subst hv
   have hi1:(z+i) % k < k:=Nat.mod_lt _ (by omega)
   have e1:((z:Int)+(i:Int)) % (k:Int)=(((z+i) % k:Nat):Int):=by simp
   have e2:((z:Int)+(i:Int)).tmod (k:Int)=(((z+i) % k:Nat):Int):=by rw [Int.tmod_eq_emod_of_nonneg (by omega)];exact e1
   have e3:IntKind.i64.wrap ((z:Int)+(i:Int))=(z:Int)+(i:Int):=by rw [IntKind.wrap_i64];omega
   have hk0:¬ k=0:=by omega
   generalize (z+i) % k=x at *
   obtain ⟨s,zz,x1,x2⟩:=n3 x hi1
   have d1:=row2_cells n2 x1
   have d2:=row2_cells n2 x2
   have bx:=(Below.refl wr.heap.size wr).alloc (Nat.le_refl _) (.cells #[.string ⟨#[]⟩,.int .i64 0] 142)
   have n1':=(bx.cell (p:=⟨gb,1,none⟩) hG.lt).trans n1
   have d1':=(bx.cell (p:=⟨g,x*2,none⟩) ((n2.lt g rfl).2)).trans d1
   have d2':=(bx.cell (p:=⟨g,x*2+1,none⟩) ((n2.lt g rfl).2)).trans d2
   have HG:=X1 hG
   have HT:=X1 hT
   have HX:=X1 bx
   clear hG hT n2 n3 x1 x2 bx
   by_cases hkk:zz=kind
   ·subst hkk
    go_wp2_with fail
    go_region
    all_goals
     have a:Hid (Below wr.heap.size wr (wr.alloc (.cells #[.string s,.int .i64 zz] 142)).drew):=X1 (bA _).drew
     go_wp2_with fail
     refine (Jb s _).mono ?_
     rintro e w9 ⟨v9,l9,rfl,a9,k9,m9,b9⟩
     obtain ⟨g9,c9,hv9⟩:=a9.form k9
     subst hv9
     have HG9:=X1 ((HG.o.below a.o).below b9)
     have HT9:=X1 ((HT.o.trans (.of a.o)).trans (.of b9))
     have HA9:=X1 a9
     clear a9 b9
     go_wp2
     go_ret2
     exact ⟨_,l9,true,rfl,fun _=>⟨HA9.o,k9,m9⟩,fun _=>HG9.o,HG9.o,HT9.o,_,_,_,rfl⟩
   ·have hkb:(zz == kind)=false:=by simpa using hkk
    go_wp2_with fail
    go_region
    all_goals
     have a:Hid (Below wr.heap.size wr (wr.alloc (.cells #[.string s,.int .i64 zz] 142)).drew):=X1 (bA _).drew
     go_wp2
     go_roundw
     case rel=>exact ⟨i+1,by omega,by go_num,HG.o.below a.o,HT.o.trans (.of a.o)⟩
     case measure=>simp [intOf];omega
  ·have hie:i=k:=by omega
   subst hie
   have HG:=X1 hG
   have HT:=X1 hT
   clear hG hT
   go_wp2
   go_ret2
   exact ⟨_,[],false,rfl,(fun h=>by cases h),fun _=>HG.o.below (bA _),HG.o.below (bA _),HT.o.trans (.of (bA _)),_,_,_,rfl⟩
variable (gb rb:Nat) (vb:Value) (n:Nat)
set_option maxRecDepth 100000 in
set_option maxHeartbeats 4000000 in
theorem Qo [LB] (q k:Nat) (kind:Int) (w:World) (h:Gn gb rb vb n q k w) (hq:q≤700000000):Calls Tryz.prog 103 #[.pointer (some ⟨gb,0,none⟩),.int .i64 kind] w fun e w'=>GMk gb rb vb n q 30 k w e w':=by
 have HG0:=X1 h
 have HT0:Hid (Ty w w):=X1 (.refl w)
 clear h
 go_enter Tryz.func103,Tryz.ntmps103
 go_wp2_with fail
 refine (namedG_any gb rb vb n q k kind w HG0.o (by omega)).mono ?_
 rintro e w1 ⟨v1,l1,bb,rfl,hok,_,m1,ht1,sp1,si1,sc1,hv1⟩
 subst hv1
 have I:=X1 hok
 have a:=X1 m1
 have f:=X1 ht1
 have c0:=m1.c0
 clear hok m1 ht1 HG0 HT0
 cases bb
 ·clear I
  by_cases hk0:kind=0
  ·subst hk0
   have H:=X1 (World.ownsRow_lit (base:=0) (e:=2) (size:=1) w1 #[.int .i64 0,.int .i64 1,.int .i64 2,.int .i64 3,.int .i64 7,.int .i64 200,.int .i64 9223372036854775807] 7 (Nat.zero_le _) (by unfold maxLen;omega) rfl)
   simp only [] at H
   have c0b:=(a.o.below (bA (.cells #[.int .i64 0,.int .i64 1,.int .i64 2,.int .i64 3,.int .i64 7,.int .i64 200,.int .i64 9223372036854775807] 2))).c0
   go_wp2_with fail
   refine (Gn.pick (a.o.below (bA _)) (by omega) 7 (by omega) (by omega)).mono ?_
   rintro e11 w11 ⟨b,hz11,rfl,e5,i⟩
   have h3:=X1 (TyM.trans (TyM.of (M:=Mine) (bA _)) i)
   have c1:=X1 e5
   have j3:=X1 (f.o.trans h3.o)
   have a0:=X1 (XO H.o i (by unfold Mine;simp))
   have c0_11:=c1.o.c0
   clear e5 i
   obtain ⟨u12,f5⟩:∃ u,([.int .i64 0,.int .i64 1,.int .i64 2,.int .i64 3,.int .i64 7,.int .i64 200,.int .i64 9223372036854775807]:List Value)[b]?=some (.int .i64 u):=by
    have:b=0∨b=1∨b=2∨b=3∨b=4∨b=5∨b=6:=by omega
    rcases this with rfl | rfl | rfl | rfl | rfl | rfl | rfl <;> exact ⟨_,rfl⟩
   have l8:=a0.o.cells rfl b _ f5
   rw [Xl,Nat.zero_add] at l8
   clear f5
   go_wp2_with fail
   refine (ZF _ _).mono ?_
   rintro e13 w13 ⟨v13,l13,rfl,l,f7,mn13,J⟩
   have h4:=X1 (TyM.of (M:=Mine) J)
   have c2:=X1 (c1.o.below J)
   have j4:=X1 (j3.o.trans h4.o)
   have c0_13:=c2.o.c0
   clear J
   obtain ⟨gq13,cq13,m4⟩:=l.form f7
   subst m4
   have b2:=X1 l
   clear l
   go_wp2
   go_ret
   exact ⟨_,_,rfl,b2.o,f7,by omega,c2.o.mono (by omega),j4.o⟩
  by_cases hk1:kind=1
  ·subst hk1
   go_wp2_with fail
   refine (Gn.text a.o (by omega)).mono ?_
   rintro e14 w14 ⟨t14,rfl,e6,f1⟩
   have h5:=X1 f1
   have c3:=X1 e6
   have j5:=X1 (f.o.trans h5.o)
   have c0_14:=c3.o.c0
   clear e6 f1
   go_wp2_with fail
   refine (ZJ _ _).mono ?_
   rintro e15 w15 ⟨v15,l15,rfl,m,f8,mn15,K⟩
   have h6:=X1 (TyM.of (M:=Mine) K)
   have c4:=X1 (c3.o.below K)
   have j6:=X1 (j5.o.trans h6.o)
   have c0_15:=c4.o.c0
   clear K
   obtain ⟨gq15,cq15,m5⟩:=m.form f8
   subst m5
   have b3:=X1 m
   clear m
   go_wp2
   go_ret
   exact ⟨_,_,rfl,b3.o,f8,by omega,c4.o.mono (by omega),j6.o⟩
  by_cases hk2:kind=2
  ·subst hk2
   go_wp2_with fail
   refine (Gn.pick a.o (by omega) 2 (by omega) (by omega)).mono ?_
   rintro e16 w16 ⟨z16,hz16,rfl,e7,f2⟩
   have h7:=X1 f2
   have c5:=X1 e7
   have j7:=X1 (f.o.trans h7.o)
   have c0_16:=c5.o.c0
   clear e7 f2
   go_wp2
   go_ret
   exact ⟨_,_,rfl,Qg _ ⟨2,0,z16,⟨#[]⟩,0⟩,by simp,by simp,(c5.o.below (bA _)).mono (by omega),j7.o.trans (.of (bA _))⟩
  by_cases hk3:kind=3
  ·subst hk3
   go_wp2_with fail
   refine (ZJ _ _).mono ?_
   rintro e17 w17 ⟨v17,l17,rfl,p,f9,mn17,L⟩
   have h8:=X1 (TyM.of (M:=Mine) L)
   have c6:=X1 (a.o.below L)
   have j8:=X1 (f.o.trans h8.o)
   have c0_17:=c6.o.c0
   clear L
   obtain ⟨gq17,cq17,m6⟩:=p.form f9
   subst m6
   have a2:=X1 p
   clear p
   go_wp2_with fail
   refine (ZJ _ _).mono ?_
   rintro e18 w18 ⟨v18,l18,rfl,r,g0,mn18,N⟩
   have e3:=X1 (TyM.of (M:=Mine) N)
   have c7:=X1 (c6.o.below N)
   have j9:=X1 (j8.o.trans e3.o)
   have a3:=X1 (a2.o.ty e3.o)
   have c0_18:=c7.o.c0
   clear N
   obtain ⟨gq18,cq18,m7⟩:=r.form g0
   subst m7
   have a8:=X1 r
   clear r
   go_wp2_with fail
   have HO:=X1 (XF ⟨8,0,0,⟨#[]⟩,0⟩ [_,_] _ _ (2) (pr2 a3.o a8.o f9 g0) (by rw [fl2];omega) (by omega) (by simp))
   unfold ndV at HO
   refine (HO.o).mono ?_
   rintro e19 w19 ⟨v19,l19,rfl,s,g1,mn19,O⟩
   have h9:=X1 (TyM.trans (TyM.of (M:=Mine) (bA _)) (TyM.of (M:=Mine) O))
   have c8:=X1 ((c7.o.below (bA _)).below O)
   have k0:=X1 (j9.o.trans h9.o)
   have c0_19:=c8.o.c0
   clear O
   obtain ⟨gq19,cq19,m8⟩:=s.form g1
   subst m8
   have b4:=X1 s
   clear s
   go_wp2
   go_ret
   exact ⟨_,_,rfl,b4.o,g1,by omega,c8.o.mono (by omega),k0.o⟩
  by_cases hk4:kind=4
  ·subst hk4
   go_wp2_with fail
   refine (ZF _ _).mono ?_
   rintro e20 w20 ⟨v20,l20,rfl,t,g2,mn20,P⟩
   have i0:=X1 (TyM.of (M:=Mine) P)
   have c9:=X1 (a.o.below P)
   have k1:=X1 (f.o.trans i0.o)
   have c0_20:=c9.o.c0
   clear P
   obtain ⟨gq20,cq20,m9⟩:=t.form g2
   subst m9
   have a4:=X1 t
   clear t
   go_wp2_with fail
   have HO:=X1 (XF ⟨17,0,0,⟨#[97]⟩,0⟩ [_] _ _ (1) (pr1 a4.o g2) (by rw [fl1];omega) (by omega) (by simp))
   unfold ndV at HO
   refine (HO.o).mono ?_
   rintro e21 w21 ⟨v21,l21,rfl,v,g3,mn21,Q⟩
   have i1:=X1 (TyM.trans (TyM.of (M:=Mine) (bA _)) (TyM.of (M:=Mine) Q))
   have d0:=X1 ((c9.o.below (bA _)).below Q)
   have k2:=X1 (k1.o.trans i1.o)
   have c0_21:=d0.o.c0
   clear Q
   obtain ⟨gq21,cq21,n0⟩:=v.form g3
   subst n0
   have b0:=X1 v
   clear v
   go_wp2_with fail
   have HO:=X1 (XF ⟨9,0,0,⟨#[]⟩,0⟩ [_] _ _ (2) (pr1 b0.o g3) (by rw [fl1];omega) (by omega) (by simp))
   unfold ndV at HO
   refine (HO.o).mono ?_
   rintro e22 w22 ⟨v22,l22,rfl,x,g4,mn22,S⟩
   have i2:=X1 (TyM.trans (TyM.of (M:=Mine) (bA _)) (TyM.of (M:=Mine) S))
   have d1:=X1 ((d0.o.below (bA _)).below S)
   have k3:=X1 (k2.o.trans i2.o)
   have c0_22:=d1.o.c0
   clear S
   obtain ⟨gq22,cq22,n1⟩:=x.form g4
   subst n1
   have b5:=X1 x
   clear x
   go_wp2
   go_ret
   exact ⟨_,_,rfl,b5.o,g4,by omega,d1.o.mono (by omega),k3.o⟩
  have kb0:(kind == 0)=false:=by simpa using hk0
  have kb1:(kind == 1)=false:=by simpa using hk1
  have kb2:(kind == 2)=false:=by simpa using hk2
  have kb3:(kind == 3)=false:=by simpa using hk3
  have kb4:(kind == 4)=false:=by simpa using hk4
  go_wp2
  go_ret
  exact ⟨_,_,rfl,Qg _ ⟨1,0,0,⟨#[]⟩,0⟩,by simp,by simp,(a.o.below (bA _)).mono (by omega),f.o.trans (.of (bA _))⟩
 ·obtain ⟨nr0,p0,m0⟩:=I.o rfl
  have HN0:=X1 nr0
  clear nr0 I
  go_wp2_with fail
  refine (Gn.pick a.o (by omega) 3 (by omega) (by omega)).mono ?_
  rintro e w2 ⟨z2,hz2,rfl,m2,m3⟩
  have d:=X1 m2
  have g:=X1 (f.o.trans m3)
  have HN2:=X1 (HN0.o.ty m3)
  have c0_2:=m2.c0
  clear m2 m3 a f HN0
  by_cases hp:0 < z2
  ·have hp':(0:Int) < (z2:Int):=by omega
   go_wp2
   go_ret
   exact ⟨_,_,rfl,HN2.o,p0,by omega,d.o.mono (by omega),g.o⟩
  ·obtain rfl:z2=0:=by omega
   clear HN2
   by_cases hk0:kind=0
   ·subst hk0
    have H:=X1 (World.ownsRow_lit (base:=0) (e:=2) (size:=1) w2 #[.int .i64 0,.int .i64 1,.int .i64 2,.int .i64 3,.int .i64 7,.int .i64 200,.int .i64 9223372036854775807] 7 (Nat.zero_le _) (by unfold maxLen;omega) rfl)
    simp only [] at H
    have c0b:=(d.o.below (bA (.cells #[.int .i64 0,.int .i64 1,.int .i64 2,.int .i64 3,.int .i64 7,.int .i64 200,.int .i64 9223372036854775807] 2))).c0
    go_wp2_with fail
    refine (Gn.pick (d.o.below (bA _)) (by omega) 7 (by omega) (by omega)).mono ?_
    rintro e23 w23 ⟨c,hz23,rfl,e8,j⟩
    have i3:=X1 (TyM.trans (TyM.of (M:=Mine) (bA _)) j)
    have d2:=X1 e8
    have k4:=X1 (g.o.trans i3.o)
    have a1:=X1 (XO H.o j (by unfold Mine;simp))
    have c0_23:=d2.o.c0
    clear e8 j
    obtain ⟨u24,f6⟩:∃ u,([.int .i64 0,.int .i64 1,.int .i64 2,.int .i64 3,.int .i64 7,.int .i64 200,.int .i64 9223372036854775807]:List Value)[c]?=some (.int .i64 u):=by
     have:c=0∨c=1∨c=2∨c=3∨c=4∨c=5∨c=6:=by omega
     rcases this with rfl | rfl | rfl | rfl | rfl | rfl | rfl <;> exact ⟨_,rfl⟩
    have l9:=a1.o.cells rfl c _ f6
    rw [Xl,Nat.zero_add] at l9
    clear f6
    go_wp2_with fail
    refine (ZF _ _).mono ?_
    rintro e25 w25 ⟨v25,l25,rfl,y,g5,mn25,U⟩
    have i4:=X1 (TyM.of (M:=Mine) U)
    have d3:=X1 (d2.o.below U)
    have k5:=X1 (k4.o.trans i4.o)
    have c0_25:=d3.o.c0
    clear U
    obtain ⟨gq25,cq25,n2⟩:=y.form g5
    subst n2
    have b6:=X1 y
    clear y
    go_wp2
    go_ret
    exact ⟨_,_,rfl,b6.o,g5,by omega,d3.o.mono (by omega),k5.o⟩
   by_cases hk1:kind=1
   ·subst hk1
    go_wp2_with fail
    refine (Gn.text d.o (by omega)).mono ?_
    rintro e26 w26 ⟨t26,rfl,e9,f3⟩
    have i5:=X1 f3
    have d4:=X1 e9
    have k6:=X1 (g.o.trans i5.o)
    have c0_26:=d4.o.c0
    clear e9 f3
    go_wp2_with fail
    refine (ZJ _ _).mono ?_
    rintro e27 w27 ⟨v27,l27,rfl,z,g6,mn27,V⟩
    have i6:=X1 (TyM.of (M:=Mine) V)
    have d5:=X1 (d4.o.below V)
    have k7:=X1 (k6.o.trans i6.o)
    have c0_27:=d5.o.c0
    clear V
    obtain ⟨gq27,cq27,n3⟩:=z.form g6
    subst n3
    have b7:=X1 z
    clear z
    go_wp2
    go_ret
    exact ⟨_,_,rfl,b7.o,g6,by omega,d5.o.mono (by omega),k7.o⟩
   by_cases hk2:kind=2
   ·subst hk2
    go_wp2_with fail
    refine (Gn.pick d.o (by omega) 2 (by omega) (by omega)).mono ?_
    rintro e28 w28 ⟨z28,hz28,rfl,f0,f4⟩
    have i7:=X1 f4
    have d6:=X1 f0
    have k8:=X1 (g.o.trans i7.o)
    have c0_28:=d6.o.c0
    clear f0 f4
    go_wp2
    go_ret
    exact ⟨_,_,rfl,Qg _ ⟨2,0,z28,⟨#[]⟩,0⟩,by simp,by simp,(d6.o.below (bA _)).mono (by omega),k8.o.trans (.of (bA _))⟩
   by_cases hk3:kind=3
   ·subst hk3
    go_wp2_with fail
    refine (ZJ _ _).mono ?_
    rintro e29 w29 ⟨v29,l29,rfl,A,g7,mn29,W⟩
    have i8:=X1 (TyM.of (M:=Mine) W)
    have d7:=X1 (d.o.below W)
    have k9:=X1 (g.o.trans i8.o)
    have c0_29:=d7.o.c0
    clear W
    obtain ⟨gq29,cq29,n4⟩:=A.form g7
    subst n4
    have a5:=X1 A
    clear A
    go_wp2_with fail
    refine (ZJ _ _).mono ?_
    rintro e30 w30 ⟨v30,l30,rfl,B,g8,mn30,X⟩
    have e4:=X1 (TyM.of (M:=Mine) X)
    have d8:=X1 (d7.o.below X)
    have l0:=X1 (k9.o.trans e4.o)
    have a6:=X1 (a5.o.ty e4.o)
    have c0_30:=d8.o.c0
    clear X
    obtain ⟨gq30,cq30,n5⟩:=B.form g8
    subst n5
    have a9:=X1 B
    clear B
    go_wp2_with fail
    have HO:=X1 (XF ⟨8,0,0,⟨#[]⟩,0⟩ [_,_] _ _ (2) (pr2 a6.o a9.o g7 g8) (by rw [fl2];omega) (by omega) (by simp))
    unfold ndV at HO
    refine (HO.o).mono ?_
    rintro e31 w31 ⟨v31,l31,rfl,C,g9,mn31,Y⟩
    have i9:=X1 (TyM.trans (TyM.of (M:=Mine) (bA _)) (TyM.of (M:=Mine) Y))
    have d9:=X1 ((d8.o.below (bA _)).below Y)
    have l2:=X1 (l0.o.trans i9.o)
    have c0_31:=d9.o.c0
    clear Y
    obtain ⟨gq31,cq31,n6⟩:=C.form g9
    subst n6
    have b8:=X1 C
    clear C
    go_wp2
    go_ret
    exact ⟨_,_,rfl,b8.o,g9,by omega,d9.o.mono (by omega),l2.o⟩
   by_cases hk4:kind=4
   ·subst hk4
    go_wp2_with fail
    refine (ZF _ _).mono ?_
    rintro e32 w32 ⟨v32,l32,rfl,D,h0,mn32,Z⟩
    have j0:=X1 (TyM.of (M:=Mine) Z)
    have e0:=X1 (d.o.below Z)
    have l3:=X1 (g.o.trans j0.o)
    have c0_32:=e0.o.c0
    clear Z
    obtain ⟨gq32,cq32,n7⟩:=D.form h0
    subst n7
    have a7:=X1 D
    clear D
    go_wp2_with fail
    have HO:=X1 (XF ⟨17,0,0,⟨#[97]⟩,0⟩ [_] _ _ (1) (pr1 a7.o h0) (by rw [fl1];omega) (by omega) (by simp))
    unfold ndV at HO
    refine (HO.o).mono ?_
    rintro e33 w33 ⟨v33,l33,rfl,E,h1,mn33,l6⟩
    have j1:=X1 (TyM.trans (TyM.of (M:=Mine) (bA _)) (TyM.of (M:=Mine) l6))
    have e1:=X1 ((e0.o.below (bA _)).below l6)
    have l4:=X1 (l3.o.trans j1.o)
    have c0_33:=e1.o.c0
    clear l6
    obtain ⟨gq33,cq33,n8⟩:=E.form h1
    subst n8
    have b1:=X1 E
    clear E
    go_wp2_with fail
    have HO:=X1 (XF ⟨9,0,0,⟨#[]⟩,0⟩ [_] _ _ (2) (pr1 b1.o h1) (by rw [fl1];omega) (by omega) (by simp))
    unfold ndV at HO
    refine (HO.o).mono ?_
    rintro e34 w34 ⟨v34,l34,rfl,F,h2,mn34,l7⟩
    have j2:=X1 (TyM.trans (TyM.of (M:=Mine) (bA _)) (TyM.of (M:=Mine) l7))
    have e2:=X1 ((e1.o.below (bA _)).below l7)
    have l5:=X1 (l4.o.trans j2.o)
    have c0_34:=e2.o.c0
    clear l7
    obtain ⟨gq34,cq34,n9⟩:=F.form h2
    subst n9
    have b9:=X1 F
    clear F
    go_wp2
    go_ret
    exact ⟨_,_,rfl,b9.o,h2,by omega,e2.o.mono (by omega),l5.o⟩
   have kb0:(kind == 0)=false:=by simpa using hk0
   have kb1:(kind == 1)=false:=by simpa using hk1
   have kb2:(kind == 2)=false:=by simpa using hk2
   have kb3:(kind == 3)=false:=by simpa using hk3
   have kb4:(kind == 4)=false:=by simpa using hk4
   go_wp2
   go_ret
   exact ⟨_,_,rfl,Qg _ ⟨1,0,0,⟨#[]⟩,0⟩,by simp,by simp,(d.o.below (bA _)).mono (by omega),g.o.trans (.of (bA _))⟩
theorem Tryz.infoSeen:(Tryz.prog.info? 142).map (fun i=>(i.zero,i.size,i.bytes))=some (some (.agg #[.string ⟨#[]⟩,.int .i64 0]),2,24):=by kernel_rfl
theorem SeenC.snoc [LB] {xs:List Value} {k:Nat} (h:SeenC xs k) (hl:xs.length=k*2) (s:Short) (z:Int):SeenC (xs++[.string s,.int .i64 z]) (k+1):=fun i hi=>by
 by_cases hk:i < k
 ·obtain ⟨s',z',h1,h2⟩:=h i hk
  exact ⟨s',z',by rw [List.getElem?_append_left (by omega)];exact h1,by rw [List.getElem?_append_left (by omega)];exact h2⟩
 ·obtain rfl:i=k:=by omega
  exact ⟨s,z,by rw [List.getElem?_append_right (by omega),hl];simp,by rw [List.getElem?_append_right (by omega),hl,show i*2+1 - i*2=1 from by omega];rfl⟩
theorem SeenC.take [LB] {xs:List Value} {k m:Nat} (h:SeenC xs k) (hm:m≤k):SeenC (xs.take (m*2)) m:=fun i hi=>by
 obtain ⟨s',z',h1,h2⟩:=h i (by omega)
 exact ⟨s',z',by rw [List.getElem?_take_of_lt (by omega)];exact h1,by rw [List.getElem?_take_of_lt (by omega)];exact h2⟩
theorem row_prefix [LB] {w:World} {B g c k m:Nat} {e:TypeId} {size:Nat} {xs:List Value} (h:w.ownsRow B e size (.slice (some ⟨g,0,none⟩) k c) k xs) (hm:m≤k):w.ownsRow B e size (.slice (some ⟨g,0,none⟩) m c) m (xs.take (m * size)):=by
 have hms:m * size≤k * size:=Nat.mul_le_mul_right _ hm
 refine ⟨by rw [List.length_take,h.1];omega,?_⟩
 rcases h.2 with ⟨h1,_⟩ | ⟨g',cap',cur,hv,h2,h3,h4,h5,h6,h7⟩
 ·cases h1
 ·cases hv
  exact .inr ⟨g,c,cur,rfl,h2,h3,by omega,h5,h6,by rw [← h7,List.take_take,Nat.min_eq_left hms]⟩
theorem J8 [LB] {w:World} {B g c k:Nat} {e:TypeId} {size:Nat} {xs:List Value} (h:w.ownsRow B e size (.slice (some ⟨g,0,none⟩) k c) k xs):k≤c∧c≤maxLen:=by
 rcases h.2 with ⟨h1,_⟩ | ⟨g',cap',cur,hv,h2,h3,h4,h5,_⟩
 ·cases h1
 ·cases hv
  exact ⟨h4,h5⟩
variable (gb rb:Nat) (vb:Value) (n:Nat)
def EAt [LB] (d kd:Nat):Prop:=∀ (q k:Nat) (kind:Int) (w:World),Gn gb rb vb n q k w→q+kd≤700000000→k+d≤900→Calls Tryz.prog 94 #[.pointer (some ⟨gb,0,none⟩),.int .i64 kind,.int .i64 (d:Int)] w fun e w'=>GMk gb rb vb n q kd k w e w'
set_option maxRecDepth 100000 in
set_option maxHeartbeats 4000000 in
theorem insideG_any [LB] (d kd:Nat) (HE:EAt gb rb vb n d kd) (q k:Nat) (s:Short) (kind want:Int) (w:World) (h:Gn gb rb vb n q k w) (hq:q+kd≤700000000) (hk:k+1+d≤900):Calls Tryz.prog 105 #[.pointer (some ⟨gb,0,none⟩),.string s,.int .i64 kind,.int .i64 want,.int .i64 (d:Int)] w fun e w'=>GMk gb rb vb n q kd k w e w':=by
 obtain ⟨iN,hN,hNz,hNs,hNb⟩:=info_parts Tryz.infoSeen
 obtain ⟨v,xs,n1,n2,n3⟩:=h.nm
 obtain ⟨vp,vc,rfl⟩:=Xc n2
 have hlx:=n2.1
 have hlt:=h.lt
 have hup:=h.up
 have bx:=(Below.refl w.heap.size w).alloc (Nat.le_refl _) (.cells #[.string s,.int .i64 kind] 142)
 have f:=X1 (h.below bx)
 have n1a:=(bx.cell (p:=⟨gb,1,none⟩) hlt).trans n1
 have i:=X1 (n2.alloc (.cells #[.string s,.int .i64 kind] 142))
 have HS:=X1 (n3.snoc hlx s kind)
 have HTa:Hid (Ty w (w.alloc (.cells #[.string s,.int .i64 kind] 142))):=X1 (.of bx)
 have f1:=h.fr 1
 have HE':=X1 HE
 clear h n2 n3 bx HE
 go_enter Tryz.func105,Tryz.ntmps105
 go_wp2_with (at_builtin;refine wpList_append_own_at _ rfl _ _ 113 rfl (rb+1) 142 iN _ 2 24 Tryz.underlying113 hN hNz hNs hNb rfl (by decide) _ k xs rfl i.o ⟨w.heap.size,0,none⟩ 1 1 [.string s,.int .i64 kind] rfl rfl (XK _ [_,_] _ _ rfl) (by simp [Value.oneCell']) (by unfold maxLen;omega) (by omega) (by simp;omega) ?_)
 intro v5 w5 r1 r2 r3 r4
 have q5:=(World.cell?_of_block (a:=⟨gb,1,none⟩) (r2.block gb f.o.lt (fun e=>by have h1:=XV i.o e.symm;rw [f.o.ty] at h1;cases h1))).trans n1a
 have q6:=(World.frozen?_of_block (a:=⟨gb,1,none⟩) (r2.block gb f.o.lt (fun e=>by have h1:=XV i.o e.symm;rw [f.o.ty] at h1;cases h1))).trans (f.o.fr 1)
 obtain ⟨g5,c5,hv5⟩:∃ g c,v5 = .slice (some ⟨g,0,none⟩) (k+1) c:=by
  rcases r1.2 with ⟨_,h0⟩ | ⟨g,c,_,h2,_⟩
  ·omega
  ·exact ⟨g,c,h2⟩
 subst hv5
 have HG5:=X1 (f.o.push n1a r2 r1 HS.o (by omega))
 have HT5:Hid (Ty w (w5.setCell ⟨gb,1,none⟩ (.slice (some ⟨g5,0,none⟩) (k+1) c5))):=X1 ((HTa.o.trans (.grown r2 (fun b hb=>by rw [XV i.o hb];exact .inr (.inr rfl)) (fun b hb=>by rw [XV i.o hb];decide) (fun b hb=>Nat.le_trans f.o.lo (Nat.le_of_succ_le (i.o.lt b hb).1)))).trans (.set (by rw [XX (r2.block gb f.o.lt (fun e=>by have h1:=XV i.o e.symm;rw [f.o.ty] at h1;cases h1))];exact f.o.mine) (by decide)))
 clear r1 r2 r3 r4
 go_wp2_with fail
 refine (HE'.o _ _ _ _ HG5.o (by omega) (by omega)).mono ?_
 rintro e w6 ⟨v6,l6,rfl,r,p6,m6,j,ht6⟩
 obtain ⟨gq,cq,hvq⟩:=r.form p6
 subst hvq
 obtain ⟨v7,xs7,n17,l,n37⟩:=j.nm
 obtain ⟨g7,c7,hv7⟩:∃ g c,v7 = .slice (some ⟨g,0,none⟩) (k+1) c:=by
  rcases l.2 with ⟨_,h0⟩ | ⟨g,c,_,h2,_⟩
  ·omega
  ·exact ⟨g,c,h2⟩
 subst hv7
 have a0:=J8 l
 have hkc:k≤c7:=by omega
 have hcm:c7≤9223372036854775807:=by have:=a0.2;unfold maxLen at this;omega
 have f17:=j.fr 1
 have HG7:=X1 (j.names (row_prefix l (m:=k) (by omega)) (n37.take (by omega)) (by omega))
 have HT7:Hid (Ty w (w6.setCell ⟨gb,1,none⟩ (.slice (some ⟨g7,0,none⟩) k c7))):=X1 ((HT5.o.trans ht6).trans (.set j.mine (by decide)))
 have HN7:Hid (NR (w6.setCell ⟨gb,1,none⟩ (.slice (some ⟨g7,0,none⟩) k c7)) _ _):=X1 (r.ty (.set j.mine (by decide)))
 clear j ht6 r l n37 a0
 go_wp2
 go_ret
 exact ⟨_,_,rfl,HN7.o,p6,m6,HG7.o,HT7.o⟩
end Go.Proofs.YtimbaebigjjkaaaGreatDoor
