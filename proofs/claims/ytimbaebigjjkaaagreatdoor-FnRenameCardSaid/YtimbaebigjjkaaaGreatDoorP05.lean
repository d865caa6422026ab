/- Hd, He, Hf. -/
import Derived.Test.YtimbaebigjjkaaaGreatDoorP04
import Derived.OwnWalk
import Derived.Deep.RegionLaw
namespace Go.Proofs.YtimbaebigjjkaaaGreatDoor
open Go.RowKit
structure Pr.Mv (P:Nat→Prop) (w w':World):Prop where
 os:w'.os=w.os
 tape:w'.tape=w.tape
 output:w'.output=w.output
 size:w.heap.size≤w'.heap.size
 block:∀ q,q < w.heap.size→¬ P q→w'.heap[q]?=w.heap[q]?
theorem Pr.Mv.below {P:Nat→Prop} {w w':World} (hb:Below w.heap.size w w'):Pr.Mv P w w':=⟨hb.os,hb.tape,hb.output,hb.size,fun q hq _=>hb.block q hq⟩
theorem Pr.Mv.grown {P:Nat→Prop} {w w':World} {r:Option Nat} (hg:w.grownBy w' r) (hP:∀ q,r=some q→P q):Pr.Mv P w w':=⟨hg.os,hg.tape,hg.output,hg.size,fun q hq hn=>hg.block q hq (fun e=>hn (hP q e.symm))⟩
theorem Pr.Mv.trans {P Q R:Nat→Prop} {a b c:World} (h:Pr.Mv P a b) (k:Pr.Mv Q b c) (hP:∀ q,q < a.heap.size→P q→R q) (hQ:∀ q,q < a.heap.size→Q q→R q):Pr.Mv R a c :=
 ⟨k.os.trans h.os,k.tape.trans h.tape,k.output.trans h.output,Nat.le_trans h.size k.size,fun q hq hn=>(k.block q (Nat.lt_of_lt_of_le hq h.size) (fun e=>hn (hQ q hq e))).trans (h.block q hq (fun e=>hn (hP q hq e)))⟩
structure Pr.Gr (b:Nat) (v v':Value) (w w':World):Prop where
 mv:Pr.Mv (fun q=>q=b∨v.ownBlock=some q) w w'
 own:v'.ownBlock=v.ownBlock∨∀ q,v'.ownBlock=some q→w.heap.size≤q
theorem Pr.Gr.below {b:Nat} {v:Value} {w w':World} (hb:Below w.heap.size w w'):Pr.Gr b v v w w':=⟨.below hb,.inl rfl⟩
theorem Pr.Gr.refl (b:Nat) (v:Value) (w:World):Pr.Gr b v v w w:= .below (Below.refl _ _)
theorem Pr.Gr.trans {b:Nat} {v v' v'':Value} {w w' w'':World} (h:Pr.Gr b v v' w w') (k:Pr.Gr b v' v'' w' w''):Pr.Gr b v v'' w w'':=by
 refine ⟨h.mv.trans k.mv (fun _ _ e=>e) ?_,?_⟩
 ·rintro q hq (e | e)
  ·exact .inl e
  ·rcases h.own with h1 | h1
   ·exact .inr (h1.symm.trans e)
   ·exact absurd (h1 q e) (by omega)
 ·rcases k.own with k1 | k1
  ·rw [k1];exact h.own
  ·exact .inr fun q e=>Nat.le_trans h.mv.size (k1 q e)
theorem Pr.Gr.cell {b:Nat} {v v':Value} {w w':World} (h:Pr.Gr b v v' w w') {q:Nat} (hq:q < w.heap.size) (hb:q≠b) (hv:v.ownBlock≠some q) (j:Nat):w'.cell? ⟨q,j,none⟩=w.cell? ⟨q,j,none⟩:=World.cell?_of_block (a:=⟨q,j,none⟩) (h.mv.block q hq (fun e=>e.elim hb hv))
theorem J7 {w w':World} {base size:Nat} {e:TypeId} {v:Value} {n:Nat} {xs:List Value} (h:w.ownsRow base e size v n xs) (hb:∀ g,base≤g→g < w.heap.size→w'.heap[g]?=w.heap[g]?):w'.ownsRow base e size v n xs:=by
 refine ⟨h.1,?_⟩
 rcases h.2 with h1 | ⟨g',cap',cur,hv,h2,h3,h4⟩
 ·exact .inl h1
 ·exact .inr ⟨g',cap',cur,hv,h2,(hb g' h2 (Array.getElem?_eq_some_iff.1 h3).1).trans h3,h4⟩
theorem Yu {w w':World} {base size:Nat} {e:TypeId} {v:Value} {n:Nat} {xs:List Value} (h:w.ownsRow base e size v n xs) (hb:Below w.heap.size w w'):w'.ownsRow base e size v n xs:=J7 h (fun g _ hg=>hb.block g hg)
def Yf (x:Sc.T):Value:= .agg #[.int .i64 x.kind,.string ⟨x.text.toArray⟩,.int .i64 x.n,.int .i64 x.place]
structure DK (b tg tc:Nat) (ts:List Sc.T) (sz:Nat) (v:Value) (s:Pr.Dk) (w:World):Prop where
 c0:w.cell? ⟨b,0,none⟩=some (.slice (some ⟨tg,0,none⟩) ts.length tc)
 c1:w.cell? ⟨b,1,none⟩=some (.int .i64 sz)
 c2:w.cell? ⟨b,2,none⟩=some (.int .i64 s.p)
 c3:w.cell? ⟨b,3,none⟩=some (.bool s.bad)
 c4:w.cell? ⟨b,4,none⟩=some (.int .i64 s.place)
 c5:w.cell? ⟨b,5,none⟩=some v
 fr:∀ j,w.frozen? ⟨b,j,none⟩=false
 tk:tg < b
 ks:∀ (i:Nat) (h:i < ts.length),w.cell? ⟨tg,i*4,none⟩=some (.int .i64 ts[i].kind)∧w.cell? ⟨tg,i*4+1,none⟩=some (.string ⟨ts[i].text.toArray⟩)∧w.cell? ⟨tg,i*4+2,none⟩=some (.int .i64 ts[i].n)∧w.cell? ⟨tg,i*4+3,none⟩=some (.int .i64 ts[i].place)
 le:s.p≤ts.length
 most:ts.length≤1048576
 row:w.ownsRow (b+1) 35 5 v s.o.length (X2 s.o)
section
variable {b tg tc:Nat} {ts:List Sc.T} {sz:Nat} {v:Value} {s:Pr.Dk} {w w':World}
theorem DK.lt (h:DK b tg tc ts sz v s w):b < w.heap.size:=World.block_lt_of_cell? w ⟨b,0,none⟩ h.c0
theorem DK.own (h:DK b tg tc ts sz v s w) {q:Nat} (hq:v.ownBlock=some q):b < q∧q < w.heap.size:=⟨(h.row.lt q hq).1,(h.row.lt q hq).2⟩
theorem DK.below (h:DK b tg tc ts sz v s w) (hb:Below w.heap.size w w'):DK b tg tc ts sz v s w':=by
 have hl:=h.lt
 have ht:=h.tk
 have cb:∀ q j,q≤b→w'.cell? ⟨q,j,none⟩=w.cell? ⟨q,j,none⟩:=fun q j hq=>hb.cell (p:=⟨q,j,none⟩) (show q < w.heap.size by omega)
 exact ⟨(cb b _ (Nat.le_refl _)).trans h.c0,(cb b _ (Nat.le_refl _)).trans h.c1,(cb b _ (Nat.le_refl _)).trans h.c2,(cb b _ (Nat.le_refl _)).trans h.c3,(cb b _ (Nat.le_refl _)).trans h.c4,(cb b _ (Nat.le_refl _)).trans h.c5,fun j=>(hb.frozen (p:=⟨b,j,none⟩) hl).trans (h.fr j),h.tk,
  fun i hi=>⟨(cb tg _ (by omega)).trans (h.ks i hi).1,(cb tg _ (by omega)).trans (h.ks i hi).2.1,(cb tg _ (by omega)).trans (h.ks i hi).2.2.1,(cb tg _ (by omega)).trans (h.ks i hi).2.2.2⟩,h.le,h.most,Yu h.row hb⟩
theorem DK.set (h:DK b tg tc ts sz v s w) (j:Nat) (u:Value) (s':Pr.Dk) (hj:j=2∧u = .int .i64 s'.p∧s'.bad=s.bad∧s'.place=s.place∨j=3∧u = .bool s'.bad∧s'.p=s.p∧s'.place=s.place∨j=4∧u = .int .i64 s'.place∧s'.p=s.p∧s'.bad=s.bad) (ho:s'.o=s.o) (hp:s'.p≤ts.length):DK b tg tc ts sz v s' (w.setCell ⟨b,j,none⟩ u):=by
 have hl:=h.lt
 have ht:=h.tk
 have ne:∀ k,k≠j→(w.setCell ⟨b,j,none⟩ u).cell? ⟨b,k,none⟩=w.cell? ⟨b,k,none⟩:=fun k hk=>World.cell?_setCell_other _ _ _ _ (fun e=>hk (congrArg Addr.off e).symm)
 have tn:∀ k,(w.setCell ⟨b,j,none⟩ u).cell? ⟨tg,k,none⟩=w.cell? ⟨tg,k,none⟩:=fun k=>World.cell?_setCell_other _ _ _ _ (fun e=>by have:=congrArg Addr.block e;simp at this;omega)
 have hr:(w.setCell ⟨b,j,none⟩ u).ownsRow (b+1) 35 5 v s'.o.length (X2 s'.o):=by
  rw [ho];exact J7 h.row (fun g hg _=>Below.heap_setCell _ _ _ _ (show g≠b by omega))
 have a:∀ k,(w.setCell ⟨b,j,none⟩ u).frozen? ⟨b,k,none⟩=false:=fun k=>by rw [World.frozen?_setCell];exact h.fr k
 have c:∀ (i:Nat) (h:i < ts.length),(w.setCell ⟨b,j,none⟩ u).cell? ⟨tg,i*4,none⟩=some (.int .i64 ts[i].kind)∧(w.setCell ⟨b,j,none⟩ u).cell? ⟨tg,i*4+1,none⟩=some (.string ⟨ts[i].text.toArray⟩)∧(w.setCell ⟨b,j,none⟩ u).cell? ⟨tg,i*4+2,none⟩=some (.int .i64 ts[i].n)∧(w.setCell ⟨b,j,none⟩ u).cell? ⟨tg,i*4+3,none⟩=some (.int .i64 ts[i].place) :=
  fun i hi=>⟨(tn _).trans (h.ks i hi).1,(tn _).trans (h.ks i hi).2.1,(tn _).trans (h.ks i hi).2.2.1,(tn _).trans (h.ks i hi).2.2.2⟩
 rcases hj with ⟨rfl,rfl,e1,e2⟩ | ⟨rfl,rfl,e1,e2⟩ | ⟨rfl,rfl,e1,e2⟩
 ·exact ⟨(ne 0 (by decide)).trans h.c0,(ne 1 (by decide)).trans h.c1,World.cell?_setCell_same _ _ _ h.c2,by rw [e1];exact (ne 3 (by decide)).trans h.c3,by rw [e2];exact (ne 4 (by decide)).trans h.c4,(ne 5 (by decide)).trans h.c5,a,ht,c,hp,h.most,hr⟩
 ·exact ⟨(ne 0 (by decide)).trans h.c0,(ne 1 (by decide)).trans h.c1,by rw [e1];exact (ne 2 (by decide)).trans h.c2,World.cell?_setCell_same _ _ _ h.c3,by rw [e2];exact (ne 4 (by decide)).trans h.c4,(ne 5 (by decide)).trans h.c5,a,ht,c,hp,h.most,hr⟩
 ·exact ⟨(ne 0 (by decide)).trans h.c0,(ne 1 (by decide)).trans h.c1,by rw [e1];exact (ne 2 (by decide)).trans h.c2,by rw [e2];exact (ne 3 (by decide)).trans h.c3,World.cell?_setCell_same _ _ _ h.c4,(ne 5 (by decide)).trans h.c5,a,ht,c,hp,h.most,hr⟩
theorem Pr.grown_set (w:World) (b j:Nat) (v:Value):w.grownBy (w.setCell ⟨b,j,none⟩ v) (some b):=by
 refine ⟨rfl,rfl,rfl,Nat.le_of_eq (by simp [World.setCell]),fun k _ hne=>?_⟩
 exact Below.heap_setCell _ _ _ _ (fun e=>hne (by rw [e]))
theorem Pr.Gr.set (v:Value) (w:World) (b j:Nat) (u:Value):Pr.Gr b v v w (w.setCell ⟨b,j,none⟩ u):=⟨.grown (Pr.grown_set w b j u) (fun q e=>by cases e;exact .inl rfl),.inl rfl⟩
theorem DK.tokAt (h:DK b tg tc ts sz v s w) (hp:s.p < ts.length):w.cell? ⟨tg,s.p*4,none⟩=some (.int .i64 (X3 ts sz s).kind)∧w.cell? ⟨tg,s.p*4+1,none⟩=some (.string ⟨(X3 ts sz s).text.toArray⟩)∧w.cell? ⟨tg,s.p*4+2,none⟩=some (.int .i64 (X3 ts sz s).n)∧w.cell? ⟨tg,s.p*4+3,none⟩=some (.int .i64 (X3 ts sz s).place):=by
 have e:X3 ts sz s=ts[s.p]:=by unfold X3;rw [List.getElem?_eq_getElem hp];rfl
 rw [e];exact h.ks s.p hp
end
set_option maxRecDepth 100000 in
set_option maxHeartbeats 1000000 in
theorem Zv {b tg tc:Nat} {ts:List Sc.T} {sz:Nat} {v:Value} {s:Pr.Dk} {w:World} (h:DK b tg tc ts sz v s w) :
  Calls Tryz.prog 91 #[.pointer (some ⟨b,0,none⟩)] w fun e w'=>e = .returned (Yf (X3 ts sz s))∧Below w.heap.size w w':=by
 have hl:=h.lt
 have hlt:=h.tk
 have hle:=h.le
 have hm:=h.most
 have hne:w.heap.size≠b:=by omega
 have hnt:w.heap.size≠tg:=by omega
 have bb:Below w.heap.size w (w.alloc (.cells #[.int .i64 0,.string ⟨#[]⟩,.int .i64 0,.int .i64 0] 132)):=bA _
 have h':=h.below bb
 have c0:=h'.c0
 have c1:=h'.c1
 have c2:=h'.c2
 by_cases hp:s.p < ts.length
 ·obtain ⟨k0,k1,k2,k3⟩:=h'.tokAt hp
  have hpi:(s.p:Int) < ts.length:=by omega
  clear h'
  go_enter Tryz.func91,Tryz.ntmps91
  go_wp2
  go_region
  go_wp2
  go_region
  go_wp2
  refine bodyPost_ret (v:=Yf (X3 ts sz s)) (by simp [results,Tryz.results91,go_sem,Yf]) rfl ⟨rfl,?_⟩
  repeat (first | (refine Below.setCell ?_ (by show w.heap.size≤w.heap.size;exact Nat.le_refl _) _) | (refine Below.drew ?_))
  exact bA _
 ·have hpi:¬ (s.p:Int) < ts.length:=by omega
  have ht:X3 ts sz s=⟨0,[],0,sz⟩:=by unfold X3;rw [List.getElem?_eq_none (by omega)];rfl
  rw [ht]
  clear h'
  go_enter Tryz.func91,Tryz.ntmps91
  go_wp2
  go_region
  go_wp2
  refine bodyPost_ret (v:=Yf ⟨0,[],0,sz⟩) (by simp [results,Tryz.results91,go_sem,Yf]) rfl ⟨rfl,?_⟩
  repeat (first | (refine Below.setCell ?_ (by show w.heap.size≤w.heap.size;exact Nat.le_refl _) _) | (refine Below.drew ?_))
  exact bA _
theorem KK (k n q:Int) (t:ByteArray) (W:World):Sem.run Tryz.prog (Instr.field 132 (Value.agg #[.int .i64 k,.string t,.int .i64 n,.int .i64 q]) 0) W = .ok (.int .i64 k) W:=by kernel_rfl
theorem tokField3 (k n q:Int) (t:ByteArray) (W:World):Sem.run Tryz.prog (Instr.field 132 (Value.agg #[.int .i64 k,.string t,.int .i64 n,.int .i64 q]) 3) W = .ok (.int .i64 q) W:=by kernel_rfl
def Jt (b tg tc:Nat) (ts:List Sc.T) (sz:Nat) (v:Value) (w:World) (r:Pr.Dk) (w':World):Prop:=∃ v',DK b tg tc ts sz v' r w'∧Pr.Gr b v v' w w'
set_option maxRecDepth 100000 in
set_option maxHeartbeats 1000000 in
theorem stop_any {b tg tc:Nat} {ts:List Sc.T} {sz:Nat} {v:Value} {s:Pr.Dk} {w:World} (h:DK b tg tc ts sz v s w) :
  Calls Tryz.prog 92 #[.pointer (some ⟨b,0,none⟩)] w fun e w'=>e = .returned (.tuple #[])∧DK b tg tc ts sz v (Yt ts sz s) w'∧Pr.Gr b v v w w':=by
 have c3:=h.c3
 have f3:=h.fr 3
 cases hb:s.bad
 ·rw [hb] at c3
  have h1:=h.set 3 (.bool true) {s with bad:=true} (.inr (.inl ⟨rfl,rfl,rfl,rfl⟩)) rfl h.le
  have HT:=X1 (Zv h1)
  have HH:=X1 h1
  have HH0:=X1 h
  have a:Yt ts sz s={s with bad:=true,place:=(X3 ts sz s).place}:=by unfold Yt;rw [hb];rfl
  have hsm:X3 ts sz {s with bad:=true}=X3 ts sz s:=rfl
  rw [a]
  have HE:=X1 hsm
  clear h1 h a hsm
  go_enter Tryz.func92,Tryz.ntmps92
  go_wp2_with fail
  refine HT.o.mono ?_
  rintro e w1 ⟨rfl,d⟩
  have c:=HH.o.below d
  have c4:=c.c4
  have f4:=c.fr 4
  have HD:=X1 c
  have HB:=X1 d
  rw [HE.o]
  unfold Yf
  clear c d
  have hf3:=tokField3 (X3 ts sz s).kind (X3 ts sz s).n (X3 ts sz s).place ⟨(X3 ts sz s).text.toArray⟩
  go_wp2
  (first | go_end0 | refine bodyPost_ret (results_none rfl _ _ _) rfl ?_)
  refine ⟨rfl,HD.o.set 4 _ _ (.inr (.inr ⟨rfl,rfl,rfl,rfl⟩)) rfl HD.o.le,?_⟩
  exact ((Pr.Gr.set v w b 3 _).trans (.below HB.o)).trans (.set v _ b 4 _)
 ·rw [hb] at c3
  have HH0:=X1 h
  have a:Yt ts sz s=s:=by unfold Yt;rw [hb];rfl
  rw [a]
  clear h a
  go_enter Tryz.func92,Tryz.ntmps92
  go_wp2
  (first | go_end0 | refine bodyPost_ret (results_none rfl _ _ _) rfl ?_)
  exact ⟨rfl,HH0.o,.refl _ _ _⟩
set_option maxRecDepth 100000 in
set_option maxHeartbeats 1000000 in
theorem is_any {b tg tc:Nat} {ts:List Sc.T} {sz:Nat} {v:Value} {s:Pr.Dk} {w:World} (h:DK b tg tc ts sz v s w) (t:ByteArray) :
  Calls Tryz.prog 101 #[.pointer (some ⟨b,0,none⟩),.string t] w fun e w'=>e = .returned (.bool (Xa ts sz s t.data.toList))∧Below w.heap.size w w':=by
 have HT:=X1 (Zv h)
 have HH:=X1 h
 have hl:=h.lt
 clear h
 go_enter Tryz.func101,Tryz.ntmps101
 go_wp2_with fail
 refine HT.o.mono ?_
 rintro e w1 ⟨rfl,a⟩
 have hz:=a.size
 have bb:=a.trans (((Below.refl w1.heap.size w1).alloc (Nat.le_refl _) (.cells #[.int .i64 (X3 ts sz s).kind,.string ⟨(X3 ts sz s).text.toArray⟩,.int .i64 (X3 ts sz s).n,.int .i64 (X3 ts sz s).place] 132)).mono hz)
 have hd:=HH.o.below bb
 have c3:=hd.c3
 have HB1:=X1 a
 unfold Yf
 have HP:Hid (Xa ts sz s t.data.toList=(!s.bad && ((X3 ts sz s).kind == 2 || (X3 ts sz s).kind == 5) && (X3 ts sz s).text == t.data.toList)):=X1 rfl
 clear hd bb a
 generalize X3 ts sz s=x at *
 obtain ⟨k,tx,n,pl⟩:=x
 go_wp2
 all_goals
  go_ret
  refine ⟨?_,HB1.o.alloc hz _⟩
  rw [HP.o]
  simp_all [Lib.toList_data]
  try (intro h;omega)
theorem DK.adv {b tg tc:Nat} {ts:List Sc.T} {sz:Nat} {v:Value} {s:Pr.Dk} {w:World} (h:DK b tg tc ts sz v s w) (hp:s.p < ts.length):DK b tg tc ts sz v (X7 s) (w.setCell ⟨b,2,none⟩ (.int .i64 ((s.p:Int)+1))):=h.set 2 _ (X7 s) (.inl ⟨rfl,rfl,rfl,rfl⟩) rfl hp
set_option maxRecDepth 100000 in
set_option maxHeartbeats 1000000 in
theorem take_any {b tg tc:Nat} {ts:List Sc.T} {sz:Nat} {v:Value} {s:Pr.Dk} {w:World} (h:DK b tg tc ts sz v s w) (t:ByteArray) :
  Calls Tryz.prog 86 #[.pointer (some ⟨b,0,none⟩),.string t] w fun e w'=>e = .returned (.bool (Xa ts sz s t.data.toList))∧DK b tg tc ts sz v (Qe ts sz s t.data.toList) w'∧Pr.Gr b v v w w':=by
 have HI:=X1 (is_any h t)
 have HH:=X1 h
 have hm:=h.most
 clear h
 unfold Qe
 cases hi:Xa ts sz s t.data.toList
 ·rw [hi] at HI
  go_enter Tryz.func86,Tryz.ntmps86
  go_wp2_with fail
  refine HI.o.mono ?_
  rintro e w1 ⟨rfl,a⟩
  have HB:=X1 a
  clear a
  go_wp2
  go_ret
  exact ⟨rfl,HH.o.below HB.o,.below HB.o⟩
 ·have hp:=XG hi
  rw [hi] at HI
  go_enter Tryz.func86,Tryz.ntmps86
  go_wp2_with fail
  refine HI.o.mono ?_
  rintro e w1 ⟨rfl,a⟩
  have hd:=HH.o.below a
  have c2:=hd.c2
  have f2:=hd.fr 2
  have HD:=X1 hd
  have HB:=X1 a
  clear a hd
  go_wp2
  go_ret
  exact ⟨rfl,HD.o.adv hp,(Pr.Gr.below HB.o).trans (.set _ _ _ _ _)⟩
set_option maxRecDepth 100000 in
set_option maxHeartbeats 1000000 in
theorem need_any {b tg tc:Nat} {ts:List Sc.T} {sz:Nat} {v:Value} {s:Pr.Dk} {w:World} (h:DK b tg tc ts sz v s w) (t:ByteArray) :
  Calls Tryz.prog 89 #[.pointer (some ⟨b,0,none⟩),.string t] w fun e w'=>e = .returned (.tuple #[])∧DK b tg tc ts sz v (Xr ts sz s t.data.toList) w'∧Pr.Gr b v v w w':=by
 have HI:=X1 (take_any h t)
 clear h
 unfold Xr
 cases hi:Xa ts sz s t.data.toList
 ·have ht:Qe ts sz s t.data.toList=s:=by unfold Qe;rw [hi];rfl
  rw [hi,ht] at HI
  go_enter Tryz.func89,Tryz.ntmps89
  go_wp2_with fail
  refine HI.o.mono ?_
  rintro e w1 ⟨rfl,c,a⟩
  have HS:=X1 (stop_any c)
  have HG:=X1 a
  clear c a
  go_wp2_with fail
  refine HS.o.mono ?_
  rintro e w2 ⟨rfl,hd2,hg2⟩
  have HD2:=X1 hd2
  have HG2:=X1 hg2
  clear hd2 hg2
  go_wp2
  (first | go_end0 | refine bodyPost_ret (results_none rfl _ _ _) rfl ?_)
  exact ⟨rfl,HD2.o,HG.o.trans HG2.o⟩
 ·have ht:Qe ts sz s t.data.toList=X7 s:=by unfold Qe;rw [hi];rfl
  rw [hi,ht] at HI
  go_enter Tryz.func89,Tryz.ntmps89
  go_wp2_with fail
  refine HI.o.mono ?_
  rintro e w1 ⟨rfl,c,a⟩
  have HD:=X1 c
  have HG:=X1 a
  clear c a
  go_wp2
  (first | go_end0 | refine bodyPost_ret (results_none rfl _ _ _) rfl ?_)
  exact ⟨rfl,HD.o,HG.o⟩
set_option maxRecDepth 100000 in
set_option maxHeartbeats 1000000 in
theorem name_any {b tg tc:Nat} {ts:List Sc.T} {sz:Nat} {v:Value} {s:Pr.Dk} {w:World} (h:DK b tg tc ts sz v s w) :
  Calls Tryz.prog 87 #[.pointer (some ⟨b,0,none⟩)] w fun e w'=>e = .returned (.string ⟨(Xd ts sz s).toArray⟩)∧DK b tg tc ts sz v (XP ts sz s) w'∧Pr.Gr b v v w w':=by
 have HT:=X1 (Zv h)
 have HS:=X1 (fun W (hb:Below w.heap.size w W)=>stop_any (h.below hb))
 have HH:=X1 h
 have hm:=h.most
 have c3:=h.c3
 clear h
 unfold XP Xd
 cases hi:Ke ts sz s
 ·cases hb:s.bad
  ·rw [hb] at c3
   have hk:¬ ((X3 ts sz s).kind:Int)=1:=by unfold Ke at hi;rw [hb] at hi;simp at hi;omega
   have hf0:=KK (X3 ts sz s).kind (X3 ts sz s).n (X3 ts sz s).place ⟨(X3 ts sz s).text.toArray⟩
   go_enter Tryz.func87,Tryz.ntmps87
   go_wp2_with fail
   refine HT.o.mono ?_
   rintro e w1 ⟨rfl,c⟩
   have HB:=X1 c
   clear c
   unfold Yf
   go_wp2_with fail
   refine (HS.o _ HB.o).mono ?_
   rintro e w2 ⟨rfl,f,d⟩
   have i:=X1 f
   have j:=X1 d
   clear f d
   go_wp2
   go_ret
   exact ⟨rfl,i.o,(Pr.Gr.below HB.o).trans j.o⟩
  ·rw [hb] at c3
   go_enter Tryz.func87,Tryz.ntmps87
   go_wp2_with fail
   refine (HS.o _ (Below.refl _ _)).mono ?_
   rintro e w2 ⟨rfl,f,d⟩
   have i:=X1 f
   have j:=X1 d
   clear f d
   go_wp2
   go_ret
   exact ⟨rfl,i.o,j.o⟩
 ·have hp:=U9 hi
  have hb:s.bad=false:=by unfold Ke at hi;simp at hi;exact hi.1
  have hk:((X3 ts sz s).kind:Int)=1:=by unfold Ke at hi;simp at hi;omega
  rw [hb] at c3
  have hf0:=KK 1 (X3 ts sz s).n (X3 ts sz s).place ⟨(X3 ts sz s).text.toArray⟩
  go_enter Tryz.func87,Tryz.ntmps87
  go_wp2_with fail
  refine HT.o.mono ?_
  rintro e w1 ⟨rfl,c⟩
  have hd:=HH.o.below c
  have c2:=hd.c2
  have f2:=hd.fr 2
  have g:=hd.adv hp
  have d0:=g.c0
  have d2:=g.c2
  have hne:tg≠b:=by have:=hd.tk;omega
  have d5:=((World.cell?_setCell_other (w:=w1) (a:=⟨b,2,none⟩) (b:=⟨tg,s.p*4+1,none⟩) (.int .i64 ((s.p:Int)+1)) (fun e=>hne (congrArg Addr.block e).symm))).trans (hd.tokAt (sz:=sz) hp).2.1
  have HD:=X1 g
  have HB:=X1 c
  clear c hd g
  unfold Yf
  rw [hk]
  go_wp2
  go_region
  go_wp2
  go_ret
  exact ⟨rfl,HD.o.below (Below.refl _ _).drew,((Pr.Gr.below HB.o).trans (.set _ _ _ _ _)).trans (.below (Below.refl _ _).drew)⟩
theorem Ya {P:Program} {ops:Array Oper} {o:Oper} {a:Act} {w:World} {K:Act→World→Prop} {Q:Exit→Act→World→Prop} {E:Prop}
  (hgd:o.guard=none) (s x:Operand) (t:TypeId) (ho:o.op = .call {callee:= .builtin .append,args:=#[s,x],argTypes:=#[t,t]})
  (base:Nat) (e:TypeId) (i:TypeInfo) (z:Value) (size bytes:Nat) (ht:P.underlying t=some (.slice e)) (hi:P.info? e=some i) (hz:i.zero=some z)
  (hsize:i.size=size) (hby:i.bytes=bytes) (hzs:z.cells.size=size) (hsz:0 < size)
  (v:Value) (n:Nat) (xs:List Value) (hs:a.eval s=v) (hown:w.ownsRow base e size v n xs)
  (ad:Addr) (m c:Nat) (news:List Value) (hx:a.eval x = .slice (some ad) m c) (hl:news.length=m * size) (hnews:∀ j u,news[j]?=some u→w.cell? (ad.add j)=some u) (h1:∀ u∈news,u.oneCell'=true)
  (h63:n+m≤maxLen) (hbytes:(n+m) * bytes≤140737488355328) (hbase:base≤w.heap.size)
  (hK:∀ v' w',w'.ownsRow base e size v' (n+m) (xs++news)→w.grownBy w' v.ownBlock→(v' = .slice none 0 0↔v = .slice none 0 0∧m=0)→(v'.ownBlock=v.ownBlock∨v'.ownBlock=some w.heap.size)→K (a.put o.dst v') w') :
  if Region.wanted o (yielded ops a.tmps)=true then Oper.wp P o a w K Q else E:=by
 have hw:Region.wanted o (yielded ops a.tmps)=true:=by simp [Region.wanted,hgd]
 rw [if_pos hw]
 obtain ⟨v',w',hr,h2,h3,h4,h5⟩:=run_append_own_at (P:=P) w base t o.type e i z size bytes ht hi hz hsize hby hzs hsz v n xs hown ad m c news hl hnews h1 h63 hbytes hbase
 unfold Oper.wp execOp
 simp only [ho,resolve,invoke,builtin,Sem.run_bind,Sem.run_pure,Result.andThen_ok,List.map_toArray,List.map_cons,List.map_nil,hs,hx,hr]
 exact hK _ _ h2 h3 h4 h5
theorem Tryz.infoNdP:(Tryz.prog.info? 35).map (fun i=>(i.zero,i.size,i.bytes))=some (some (.agg #[.int .i64 0,.int .i64 0,.int .i64 0,.string ⟨#[]⟩,.int .i64 0]),5,48):=by kernel_rfl
theorem Tr.cellsOf_snocP (l:List Tr.Nd) (d:Tr.Nd):X2 (l++[d])=X2 l++d.cells:=by unfold X2;rw [List.flatMap_append];simp
theorem Tr.nd_oneP (d:Tr.Nd):∀ u∈d.cells,u.oneCell'=true:=by
 intro u hu
 simp only [Tr.Nd.cells,List.mem_cons,List.not_mem_nil,or_false] at hu
 rcases hu with rfl | rfl | rfl | rfl | rfl <;> rfl
theorem Xl (b i j:Nat):(⟨b,i,none⟩:Addr).add j=⟨b,i+j,none⟩:=by unfold Addr.add;split <;> simp_all
theorem Jy (W:World) (cs:List Value) (t:TypeId) (q:Nat) (hq:q=W.heap.size):∀ (j:Nat) (u:Value),cs[j]?=some u→((W.alloc (.cells cs.toArray t)).drew).cell? ((⟨q,0,none⟩:Addr).add j)=some u:=by
 intro j u hu
 subst hq
 show (W.alloc (.cells cs.toArray t)).cell? _=_
 rw [Xl,Nat.zero_add,World.cell?,Xi]
 simpa using hu
theorem Xc {w:World} {B e size n:Nat} {v:Value} {xs:List Value} (h:w.ownsRow B e size v n xs):∃ p c,v = .slice p n c:=by
 rcases h.2 with ⟨h1,h2⟩ | ⟨g,c,_,h2,_⟩
 ·exact ⟨none,0,by rw [h2];exact h1⟩
 ·exact ⟨_,c,h2⟩
theorem DK.putd {b tg tc:Nat} {ts:List Sc.T} {sz:Nat} {v v':Value} {s s':Pr.Dk} {w w':World} (h:DK b tg tc ts sz v s w) (hg:w.grownBy w' v.ownBlock) (hp:s'.p=s.p) (hb:s'.bad=s.bad) (ha:s'.place=s.place) (ho:w'.ownsRow (b+1) 35 5 v' s'.o.length (X2 s'.o)) :
  DK b tg tc ts sz v' s' (w'.setCell ⟨b,5,none⟩ v'):=by
 have hl:=h.lt
 have ht:=h.tk
 have hob:v.ownBlock≠some b:=fun e=>by have:=(h.own e).1;omega
 have hot:v.ownBlock≠some tg:=fun e=>by have:=(h.own e).1;omega
 have eb:w'.heap[b]?=w.heap[b]?:=hg.block b hl (fun e=>hob e.symm)
 have et:w'.heap[tg]?=w.heap[tg]?:=hg.block tg (by omega) (fun e=>hot e.symm)
 have cb:∀ j,w'.cell? ⟨b,j,none⟩=w.cell? ⟨b,j,none⟩:=fun j=>World.cell?_of_block (a:=⟨b,j,none⟩) eb
 have ct:∀ j,(w'.setCell ⟨b,5,none⟩ v').cell? ⟨tg,j,none⟩=w.cell? ⟨tg,j,none⟩:=fun j=>(World.cell?_setCell_other _ _ _ _ (fun e=>by have:=congrArg Addr.block e;simp at this;omega)).trans (World.cell?_of_block (a:=⟨tg,j,none⟩) et)
 have ne:∀ k,k≠5→(w'.setCell ⟨b,5,none⟩ v').cell? ⟨b,k,none⟩=w.cell? ⟨b,k,none⟩:=fun k hk=>(World.cell?_setCell_other _ _ _ _ (fun e=>hk (congrArg Addr.off e).symm)).trans (cb k)
 refine ⟨(ne 0 (by decide)).trans h.c0,(ne 1 (by decide)).trans h.c1,?_,?_,?_,World.cell?_setCell_same _ _ _ ((cb 5).trans h.c5),fun j=>?_,ht,fun i hi=>⟨(ct _).trans (h.ks i hi).1,(ct _).trans (h.ks i hi).2.1,(ct _).trans (h.ks i hi).2.2.1,(ct _).trans (h.ks i hi).2.2.2⟩,by rw [hp];exact h.le,h.most,?_⟩
 ·rw [hp];exact (ne 2 (by decide)).trans h.c2
 ·rw [hb];exact (ne 3 (by decide)).trans h.c3
 ·rw [ha];exact (ne 4 (by decide)).trans h.c4
 ·rw [World.frozen?_setCell];exact (World.frozen?_of_block (a:=⟨b,j,none⟩) eb).trans (h.fr j)
 ·exact J7 ho (fun g hg' _=>Below.heap_setCell _ _ _ _ (show g≠b by omega))
theorem Pr.Gr.grown {b:Nat} {v v':Value} {w w':World} (hg:w.grownBy w' v.ownBlock) (ho:v'.ownBlock=v.ownBlock∨v'.ownBlock=some w.heap.size):Pr.Gr b v v' w w' :=
 ⟨.grown hg (fun _ e => .inr e),ho.imp id (fun e q h=>by rw [e] at h;cases h;exact Nat.le_refl _)⟩
set_option maxRecDepth 100000 in
set_option maxHeartbeats 1000000 in
theorem XR {b tg tc:Nat} {ts:List Sc.T} {sz:Nat} {v:Value} {s:Pr.Dk} {w:World} (h:DK b tg tc ts sz v s w) (hn:s.o.length≤100000000) (k o n:Int) (t:List UInt8) (c:Nat) :
  Calls Tryz.prog 60 #[.pointer (some ⟨b,0,none⟩),.agg #[.int .i64 k,.int .i64 o,.int .i64 n,.string ⟨t.toArray⟩,.int .i64 c]] w fun e w'=>e = .returned (.tuple #[])∧Jt b tg tc ts sz v w (Xj s k o n t c) w':=by
 obtain ⟨iN,hN,hNz,hNs,hNb⟩:=info_parts Tryz.infoNdP
 have hl:=h.lt
 have bb:Below w.heap.size w (w.alloc (.cells #[.int .i64 k,.int .i64 o,.int .i64 n,.string ⟨t.toArray⟩,.int .i64 c] 35)):=bA _
 have h1:=h.below bb
 have c5:=h1.c5
 have f5:=h1.fr 5
 have hz1:(w.alloc (.cells #[.int .i64 k,.int .i64 o,.int .i64 n,.string ⟨t.toArray⟩,.int .i64 c] 35)).heap.size=w.heap.size+1:=by simp
 have h2:=h1.below (bA (.cells #[.int .i64 k,.int .i64 o,.int .i64 n,.string ⟨t.toArray⟩,.int .i64 c] 35))
 have h3:=h2.below (Below.refl _ _).drew
 have g3:Pr.Gr b v v w _:=(Pr.Gr.below bb).trans ((Pr.Gr.below (bA (.cells #[.int .i64 k,.int .i64 o,.int .i64 n,.string ⟨t.toArray⟩,.int .i64 c] 35))).trans (.below (Below.refl _ _).drew))
 have H3:=X1 h3
 have G3:=X1 g3
 clear h h1 h2 h3 g3 bb
 go_enter Tryz.func60,Tryz.ntmps60
 go_wp2_with fail
 go_region_law ((refine Ya rfl (.tmp 8) (.tmp 10) 23 rfl (b+1) 35 iN _ 5 48 Tryz.underlying23 hN hNz hNs hNb rfl (by decide) v s.o.length (X2 s.o) (by simp [Act.eval]) H3.o.row ⟨w.heap.size+1,0,none⟩ 1 1 [.int .i64 k,.int .i64 o,.int .i64 n,.string ⟨t.toArray⟩,.int .i64 c] (by simp [Act.eval]) rfl (Jy _ [_,_,_,_,_] _ _ (by simp)) (by simp [Value.oneCell']) (by unfold maxLen;omega) (by omega) (by have:=H3.o.lt;omega) ?_;intro v5 w5 r1 r2 r3 r4;obtain ⟨p5,c5',rfl⟩:=Xc r1;have q5:=(World.cell?_of_block (a:=⟨b,5,none⟩) (r2.block b H3.o.lt (fun e=>by have:=(H3.o.own e.symm).1;omega))).trans H3.o.c5;have q6:=(World.frozen?_of_block (a:=⟨b,5,none⟩) (r2.block b H3.o.lt (fun e=>by have:=(H3.o.own e.symm).1;omega))).trans (H3.o.fr 5)))
 all_goals
  have HR1:=X1 r1
  have HR2:=X1 r2
  have HR4:=X1 r4
  clear r1 r2 r3 r4
  go_wp2
  (first | go_end0 | refine bodyPost_ret (results_none rfl _ _ _) rfl ?_)
  refine ⟨rfl,_,H3.o.putd HR2.o rfl rfl rfl ?_,(G3.o.trans (.grown HR2.o HR4.o)).trans (.set _ _ _ _ _)⟩
  show w5.ownsRow (b+1) 35 5 _ (s.o++[_]).length (X2 (s.o++[_]))
  rw [Tr.cellsOf_snocP,List.length_append]
  exact HR1.o
def QF (ts:List Sc.T) (s:Pr.Dk):Nat:=s.o.length+4*(ts.length - s.p)
theorem Pr.Stp.phi {ts:List Sc.T} {s r:Pr.Dk} {x:Int} (h:Pr.Stp ts s r x) (hx:x≤0) (h0:s.p≤ts.length) (hN:QF ts s≤1000000):QF ts r≤1000000:=by
 obtain ⟨a,b,c,d⟩:=h
 unfold QF at *
 omega
theorem Pr.Stp.len {ts:List Sc.T} {s r:Pr.Dk} {x:Int} (h:Pr.Stp ts s r x) (hx:x≤100) (h0:s.p≤ts.length) (hN:QF ts s≤1000000):r.o.length≤100000000:=by
 obtain ⟨a,b,c,d⟩:=h
 unfold QF at *
 omega
section
variable {b tg tc:Nat} {ts:List Sc.T} {sz:Nat} {v:Value} {s:Pr.Dk} {w:World}
theorem YC (h:DK b tg tc ts sz v s w) (t:List UInt8) (a:Array UInt8) (ha:a.toList=t) (hi:Xa ts sz s t=true) :
  Calls Tryz.prog 86 #[.pointer (some ⟨b,0,none⟩),.string ⟨a⟩] w fun e w'=>e = .returned (.bool true)∧Jt b tg tc ts sz v w (X7 s) w':=by
 have:=take_any h ⟨a⟩
 simp only [ha,hi,Qe,if_true] at this
 exact this.mono fun _ _ ⟨h1,h2,h3⟩=>⟨h1,v,h2,h3⟩
theorem XU (h:DK b tg tc ts sz v s w) (t:List UInt8) (a:Array UInt8) (ha:a.toList=t) (hi:Xa ts sz s t=false) :
  Calls Tryz.prog 86 #[.pointer (some ⟨b,0,none⟩),.string ⟨a⟩] w fun e w'=>e = .returned (.bool false)∧Jt b tg tc ts sz v w s w':=by
 have:=take_any h ⟨a⟩
 simp only [ha,hi,Qe,Bool.false_eq_true,if_false] at this
 exact this.mono fun _ _ ⟨h1,h2,h3⟩=>⟨h1,v,h2,h3⟩
theorem Yc (h:DK b tg tc ts sz v s w) (t:List UInt8) (a:Array UInt8) (ha:a.toList=t) :
  Calls Tryz.prog 89 #[.pointer (some ⟨b,0,none⟩),.string ⟨a⟩] w fun e w'=>e = .returned (.tuple #[])∧Jt b tg tc ts sz v w (Xr ts sz s t) w':=by
 have:=need_any h ⟨a⟩
 simp only [ha] at this
 exact this.mono fun _ _ ⟨h1,h2,h3⟩=>⟨h1,v,h2,h3⟩
theorem Q0 (h:DK b tg tc ts sz v s w) :
  Calls Tryz.prog 87 #[.pointer (some ⟨b,0,none⟩)] w fun e w'=>e = .returned (.string ⟨(Xd ts sz s).toArray⟩)∧Jt b tg tc ts sz v w (XP ts sz s) w' :=
 (name_any h).mono fun _ _ ⟨h1,h2,h3⟩=>⟨h1,v,h2,h3⟩
end
def Kx (b tg tc:Nat) (ts:List Sc.T) (sz:Nat) (f:FuncId) (xs:List Value) (ret:Nat→Value) (c:Pr.Cmd) (s:Pr.Dk):Prop :=
 ∀ (v:Value) (w:World),DK b tg tc ts sz v s w→QF ts s≤1000000→Calls Tryz.prog f (Value.pointer (some ⟨b,0,none⟩) :: xs).toArray w fun e w'=>∃ r:Pr.Dk × Nat,e = .returned (ret r.2)∧Pr.Cv ts sz c s r∧Jt b tg tc ts sz v w r.1 w'
def Pr.un (_:Nat):Value:= .tuple #[]
def Ki (n:Nat):Value:= .int .i64 n
abbrev Pr.SE (b tg tc:Nat) (ts:List Sc.T) (sz:Nat) (s:Pr.Dk):Prop:=Kx b tg tc ts sz 90 [] Pr.un .e s
abbrev Pr.SP (b tg tc:Nat) (ts:List Sc.T) (sz:Nat) (s:Pr.Dk):Prop:=Kx b tg tc ts sz 88 [] Ki .params s
abbrev Pr.SO (b tg tc:Nat) (ts:List Sc.T) (sz:Nat) (r:Nat) (s:Pr.Dk):Prop:=Kx b tg tc ts sz 102 [.int .i64 r] Pr.un (.ops r) s
abbrev Pr.ST (b tg tc:Nat) (ts:List Sc.T) (sz:Nat) (s:Pr.Dk):Prop:=Kx b tg tc ts sz 110 [] Pr.un .post s
abbrev Pr.SA (b tg tc:Nat) (ts:List Sc.T) (sz:Nat) (s:Pr.Dk):Prop:=Kx b tg tc ts sz 122 [] Ki .args s
abbrev Pr.SL (b tg tc:Nat) (ts:List Sc.T) (sz:Nat) (s:Pr.Dk):Prop:=Kx b tg tc ts sz 125 [] Pr.un .list s
abbrev Pr.SR (b tg tc:Nat) (ts:List Sc.T) (sz:Nat) (s:Pr.Dk):Prop:=Kx b tg tc ts sz 126 [] Pr.un .record s
abbrev Pr.SI (b tg tc:Nat) (ts:List Sc.T) (sz:Nat) (s:Pr.Dk):Prop:=Kx b tg tc ts sz 121 [] Pr.un .single s
set_option maxRecDepth 100000 in
set_option maxHeartbeats 1000000 in
theorem e_says {b tg tc:Nat} {ts:List Sc.T} {sz:Nat} {s:Pr.Dk} (ihE:∀ q:Pr.Dk,s.p < q.p→q.p≤ts.length→Pr.SE b tg tc ts sz q) (ihP:∀ q:Pr.Dk,s.p < q.p→q.p≤ts.length→Pr.SP b tg tc ts sz q) (ihO:Pr.SO b tg tc ts sz 1 s):Pr.SE b tg tc ts sz s:=by
 intro v0 w0 a9 hN
 have h0:=a9.le
 have W:=X1 a9
 have a6:=X1 (Pr.Gr.refl b v0 w0)
 have a2:=X1 (Pr.Stp.refl h0)
 clear a9
 cases hi1:Xa ts sz s YS
 ·cases hi2:Xa ts sz s Zo
  ·cases hi3:Xa ts sz s Pr.sFn
   ·go_enter Tryz.func90,Tryz.ntmps90
    have Q1:=X1 (XU W.o YS #[108,101,116] rfl hi1)
    go_wp2_with fail
    refine Q1.o.mono ?_
    rintro e1 w1 ⟨rfl,v1,g,j⟩
    have J:=X1 g
    have I:=X1 (a6.o.trans j)
    have A:=X1 (a2.o)
    clear g j Q1
    have Q2:=X1 (XU J.o Zo #[105,102] rfl hi2)
    go_wp2_with fail
    refine Q2.o.mono ?_
    rintro e2 w2 ⟨rfl,v2,i,l⟩
    have O:=X1 i
    have N:=X1 (I.o.trans l)
    have d:=X1 (A.o)
    clear i l Q2
    have Q3:=X1 (XU O.o Pr.sFn #[102,110] rfl hi3)
    go_wp2_with fail
    refine Q3.o.mono ?_
    rintro e3 w3 ⟨rfl,v3,f,r⟩
    have P:=X1 f
    have H:=X1 (N.o.trans r)
    have a:=X1 (d.o)
    clear f r Q3
    have Q4:=X1 (ihO _ _ P.o (a.o.phi (by first | omega | (simp only [X6];omega)) h0 hN))
    go_wp2_with fail
    refine Q4.o.mono ?_
    rintro e4 w4 ⟨r4,rfl,c,v4,k,n⟩
    have S:=X1 c
    have K:=X1 k
    have Q:=X1 (H.o.trans n)
    have u:=X1 (a.o.trans (c.stp a.o.le))
    clear c k n Q4
    go_wp2
    (first | go_end0 | refine bodyPost_ret (results_none rfl _ _ _) rfl ?_)
    exact ⟨r4,rfl,Pr.Cv.e_ops hi1 hi2 hi3 S.o,v4,K.o,Q.o⟩
   ·go_enter Tryz.func90,Tryz.ntmps90
    have Q1:=X1 (XU W.o YS #[108,101,116] rfl hi1)
    go_wp2_with fail
    refine Q1.o.mono ?_
    rintro e1 w1 ⟨rfl,v1,g,j⟩
    have J:=X1 g
    have I:=X1 (a6.o.trans j)
    have A:=X1 (a2.o)
    clear g j Q1
    have Q2:=X1 (XU J.o Zo #[105,102] rfl hi2)
    go_wp2_with fail
    refine Q2.o.mono ?_
    rintro e2 w2 ⟨rfl,v2,i,l⟩
    have O:=X1 i
    have N:=X1 (I.o.trans l)
    have d:=X1 (A.o)
    clear i l Q2
    have Q3:=X1 (YC O.o Pr.sFn #[102,110] rfl hi3)
    go_wp2_with fail
    refine Q3.o.mono ?_
    rintro e3 w3 ⟨rfl,v3,f,r⟩
    have P:=X1 f
    have H:=X1 (N.o.trans r)
    have a:=X1 (d.o.adv hi3)
    clear f r Q3
    have y:=X1 (Pr.Stp.refl a.o.le)
    have Q4:=X1 (ihP _ y.o.ge a.o.le _ _ P.o (a.o.phi (by first | omega | (simp only [X6];omega)) h0 hN))
    go_wp2_with fail
    refine Q4.o.mono ?_
    rintro e4 w4 ⟨r4,rfl,c,v4,k,n⟩
    have S:=X1 c
    have K:=X1 k
    have Q:=X1 (H.o.trans n)
    have u:=X1 (a.o.trans (c.stp a.o.le))
    have M:=X1 (y.o.trans (c.stp y.o.le))
    clear c k n Q4
    have hn1:=S.o.num rfl (XG hi3)
    have hl1:=u.o.le
    have hm:=W.o.most
    simp only [YE] at hn1
    unfold Ki
    have Q5:=X1 (Yc K.o [61,62] #[61,62] rfl)
    go_wp2_with fail
    refine Q5.o.mono ?_
    rintro e5 w5 ⟨rfl,v5,z,E⟩
    have U:=X1 z
    have X:=X1 (Q.o.trans E)
    have m:=X1 (u.o.need (sz:=sz) [61,62])
    have v:=X1 (M.o.need (sz:=sz) [61,62])
    clear z E Q5
    have Q6:=X1 (ihE _ v.o.ge m.o.le _ _ U.o (m.o.phi (by first | omega | (simp only [X6];omega)) h0 hN))
    go_wp2_with fail
    refine Q6.o.mono ?_
    rintro e6 w6 ⟨r6,rfl,x,v6,C,F⟩
    have a8:=X1 x
    have a0:=X1 C
    have a1:=X1 (X.o.trans F)
    have t:=X1 (m.o.trans (x.stp m.o.le))
    have L:=X1 (v.o.trans (x.stp v.o.le))
    clear x C F Q6
    have Q7:=X1 (XR a0.o (t.o.len (by first | omega | (simp only [X6];omega)) h0 hN) 15 0 0 [] (r4.2+1))
    go_wp2_with fail
    refine Q7.o.mono ?_
    rintro e7 w7 ⟨rfl,v7,D,B⟩
    have Y:=X1 D
    have Z:=X1 (a1.o.trans B)
    have a5:=X1 (t.o.put 15 0 0 [] (r4.2+1))
    have b0:=X1 (L.o.put 15 0 0 [] (r4.2+1))
    clear D B Q7
    go_wp2
    (first | go_end0 | refine bodyPost_ret (results_none rfl _ _ _) rfl ?_)
    exact ⟨(_,0),rfl,Pr.Cv.e_fn hi1 hi2 hi3 S.o a8.o,v7,Y.o,Z.o⟩
  ·go_enter Tryz.func90,Tryz.ntmps90
   have Q1:=X1 (XU W.o YS #[108,101,116] rfl hi1)
   go_wp2_with fail
   refine Q1.o.mono ?_
   rintro e1 w1 ⟨rfl,v1,g,j⟩
   have J:=X1 g
   have I:=X1 (a6.o.trans j)
   have A:=X1 (a2.o)
   clear g j Q1
   have Q2:=X1 (YC J.o Zo #[105,102] rfl hi2)
   go_wp2_with fail
   refine Q2.o.mono ?_
   rintro e2 w2 ⟨rfl,v2,i,l⟩
   have O:=X1 i
   have N:=X1 (I.o.trans l)
   have d:=X1 (A.o.adv hi2)
   clear i l Q2
   have V:=X1 (Pr.Stp.refl d.o.le)
   have Q3:=X1 (ihE _ V.o.ge d.o.le _ _ O.o (d.o.phi (by first | omega | (simp only [X6];omega)) h0 hN))
   go_wp2_with fail
   refine Q3.o.mono ?_
   rintro e3 w3 ⟨r3,rfl,a4,v3,f,r⟩
   have HC3:=X1 a4
   have P:=X1 f
   have H:=X1 (N.o.trans r)
   have a:=X1 (d.o.trans (a4.stp d.o.le))
   have y:=X1 (V.o.trans (a4.stp V.o.le))
   clear a4 f r Q3
   have Q4:=X1 (Yc P.o J4 #[116,104,101,110] rfl)
   go_wp2_with fail
   refine Q4.o.mono ?_
   rintro e4 w4 ⟨rfl,v4,k,n⟩
   have K:=X1 k
   have Q:=X1 (H.o.trans n)
   have u:=X1 (a.o.need (sz:=sz) J4)
   have M:=X1 (y.o.need (sz:=sz) J4)
   clear k n Q4
   have Q5:=X1 (ihE _ M.o.ge u.o.le _ _ K.o (u.o.phi (by first | omega | (simp only [X6];omega)) h0 hN))
   go_wp2_with fail
   refine Q5.o.mono ?_
   rintro e5 w5 ⟨r5,rfl,a7,v5,z,E⟩
   have HC5:=X1 a7
   have U:=X1 z
   have X:=X1 (Q.o.trans E)
   have m:=X1 (u.o.trans (a7.stp u.o.le))
   have v:=X1 (M.o.trans (a7.stp M.o.le))
   clear a7 z E Q5
   have Q6:=X1 (Yc U.o J5 #[101,108,115,101] rfl)
   go_wp2_with fail
   refine Q6.o.mono ?_
   rintro e6 w6 ⟨rfl,v6,C,F⟩
   have a0:=X1 C
   have a1:=X1 (X.o.trans F)
   have t:=X1 (m.o.need (sz:=sz) J5)
   have L:=X1 (v.o.need (sz:=sz) J5)
   clear C F Q6
   have Q7:=X1 (ihE _ L.o.ge t.o.le _ _ a0.o (t.o.phi (by first | omega | (simp only [X6];omega)) h0 hN))
   go_wp2_with fail
   refine Q7.o.mono ?_
   rintro e7 w7 ⟨r7,rfl,a3,v7,D,B⟩
   have HC7:=X1 a3
   have Y:=X1 D
   have Z:=X1 (a1.o.trans B)
   have a5:=X1 (t.o.trans (a3.stp t.o.le))
   have b0:=X1 (L.o.trans (a3.stp L.o.le))
   clear a3 D B Q7
   have Q8:=X1 (XR Y.o (a5.o.len (by first | omega | (simp only [X6];omega)) h0 hN) 13 0 0 [] 3)
   go_wp2_with fail
   refine Q8.o.mono ?_
   rintro e8 w8 ⟨rfl,v8,hd8,hg8⟩
   have HD8:=X1 hd8
   have HG8:=X1 (Z.o.trans hg8)
   have HS8:=X1 (a5.o.put 13 0 0 [] 3)
   have HA8:=X1 (b0.o.put 13 0 0 [] 3)
   clear hd8 hg8 Q8
   go_wp2
   (first | go_end0 | refine bodyPost_ret (results_none rfl _ _ _) rfl ?_)
   exact ⟨(_,0),rfl,Pr.Cv.e_if hi1 hi2 HC3.o HC5.o HC7.o,v8,HD8.o,HG8.o⟩
 ·go_enter Tryz.func90,Tryz.ntmps90
  have Q1:=X1 (YC W.o YS #[108,101,116] rfl hi1)
  go_wp2_with fail
  refine Q1.o.mono ?_
  rintro e1 w1 ⟨rfl,v1,g,j⟩
  have J:=X1 g
  have I:=X1 (a6.o.trans j)
  have A:=X1 (a2.o.adv hi1)
  clear g j Q1
  have HA1:=X1 (Pr.Stp.refl A.o.le)
  have Q2:=X1 (Q0 J.o)
  go_wp2_with fail
  refine Q2.o.mono ?_
  rintro e2 w2 ⟨rfl,v2,i,l⟩
  have O:=X1 i
  have N:=X1 (I.o.trans l)
  have d:=X1 (A.o.name (sz:=sz))
  have V:=X1 (HA1.o.name (sz:=sz))
  clear i l Q2
  have Q3:=X1 (Yc O.o [61] #[61] rfl)
  go_wp2_with fail
  refine Q3.o.mono ?_
  rintro e3 w3 ⟨rfl,v3,f,r⟩
  have P:=X1 f
  have H:=X1 (N.o.trans r)
  have a:=X1 (d.o.need (sz:=sz) [61])
  have y:=X1 (V.o.need (sz:=sz) [61])
  clear f r Q3
  have Q4:=X1 (ihE _ y.o.ge a.o.le _ _ P.o (a.o.phi (by first | omega | (simp only [X6];omega)) h0 hN))
  go_wp2_with fail
  refine Q4.o.mono ?_
  rintro e4 w4 ⟨r4,rfl,c,v4,k,n⟩
  have S:=X1 c
  have K:=X1 k
  have Q:=X1 (H.o.trans n)
  have u:=X1 (a.o.trans (c.stp a.o.le))
  have M:=X1 (y.o.trans (c.stp y.o.le))
  clear c k n Q4
  have Q5:=X1 (Yc K.o ZD #[105,110] rfl)
  go_wp2_with fail
  refine Q5.o.mono ?_
  rintro e5 w5 ⟨rfl,v5,z,E⟩
  have U:=X1 z
  have X:=X1 (Q.o.trans E)
  have m:=X1 (u.o.need (sz:=sz) ZD)
  have v:=X1 (M.o.need (sz:=sz) ZD)
  clear z E Q5
  have Q6:=X1 (ihE _ v.o.ge m.o.le _ _ U.o (m.o.phi (by first | omega | (simp only [X6];omega)) h0 hN))
  go_wp2_with fail
  refine Q6.o.mono ?_
  rintro e6 w6 ⟨r6,rfl,x,v6,C,F⟩
  have a8:=X1 x
  have a0:=X1 C
  have a1:=X1 (X.o.trans F)
  have t:=X1 (m.o.trans (x.stp m.o.le))
  have L:=X1 (v.o.trans (x.stp v.o.le))
  clear x C F Q6
  have Q7:=X1 (XR a0.o (t.o.len (by first | omega | (simp only [X6];omega)) h0 hN) 14 0 0 (Xd ts sz (X7 s)) 2)
  go_wp2_with fail
  refine Q7.o.mono ?_
  rintro e7 w7 ⟨rfl,v7,D,B⟩
  have Y:=X1 D
  have Z:=X1 (a1.o.trans B)
  have a5:=X1 (t.o.put 14 0 0 (Xd ts sz (X7 s)) 2)
  have b0:=X1 (L.o.put 14 0 0 (Xd ts sz (X7 s)) 2)
  clear D B Q7
  go_wp2
  (first | go_end0 | refine bodyPost_ret (results_none rfl _ _ _) rfl ?_)
  exact ⟨(_,0),rfl,Pr.Cv.e_let hi1 S.o a8.o,v7,Y.o,Z.o⟩
end Go.Proofs.YtimbaebigjjkaaaGreatDoor
