/- Hd, He. -/
import Derived.Test.YtbckhbeebngjfaaGreatDoorT05
import Derived.OwnWalk
import Derived.Deep.RegionLaw
namespace Go.Proofs.YtbckhbeebngjfaaGreatDoor
open Go.RowKit
structure Pr.Mv (P:Nat→Prop) (w w':World):Prop where
 os:w'.os=w.os
 tape:w'.tape=w.tape
 output:w'.output=w.output
 size:w.heap.size≤w'.heap.size
 block:∀ q,q < w.heap.size→¬ P q→w'.heap[q]?=w.heap[q]?
theorem Pr.Mv.below {P:Nat→Prop} {w w':World} (hb:Below w.heap.size w w'):Pr.Mv P w w':=⟨hb.os,hb.tape,hb.output,hb.size,fun q hq _=>hb.block q hq⟩
theorem Pr.Mv.grown {P:Nat→Prop} {w w':World} {r:Option Nat} (hg:w.grownBy w' r) (hP:∀ q,r=some q→P q):Pr.Mv P w w':=⟨hg.os,hg.tape,hg.output,hg.size,fun q hq hn=>hg.block q hq (fun e=>hn (hP q e.symm))⟩
theorem Pr.Mv.trans {P Q R:Nat→Prop} {a b c:World} (h:Pr.Mv P a b) (k:Pr.Mv Q b c) (hP:∀ q,q < a.heap.size→P q→R q) (hQ:∀ q,q < a.heap.size→Q q→R q):Pr.Mv R a c :=
 ⟨k.os.trans h.os,k.tape.trans h.tape,k.output.trans h.output,Nat.le_trans h.size k.size,fun q hq hn=>(k.block q (Nat.lt_of_lt_of_le hq h.size) (fun e=>hn (hQ q hq e))).trans (h.block q hq (fun e=>hn (hP q hq e)))⟩
structure Pr.Gr (b:Nat) (v v':Value) (w w':World):Prop where
 mv:Pr.Mv (fun q=>q=b∨v.ownBlock=some q) w w'
 own:v'.ownBlock=v.ownBlock∨∀ q,v'.ownBlock=some q→w.heap.size≤q
theorem Pr.Gr.below {b:Nat} {v:Value} {w w':World} (hb:Below w.heap.size w w'):Pr.Gr b v v w w':=⟨.below hb,.inl rfl⟩
theorem Pr.Gr.refl (b:Nat) (v:Value) (w:World):Pr.Gr b v v w w:= .below (Below.refl _ _)
theorem Pr.Gr.trans {b:Nat} {v v' v'':Value} {w w' w'':World} (h:Pr.Gr b v v' w w') (k:Pr.Gr b v' v'' w' w''):Pr.Gr b v v'' w w'':=by
 refine ⟨h.mv.trans k.mv (fun _ _ e=>e) ?_,?_⟩
 ·rintro q hq (e | e)
  ·exact .inl e
  ·rcases h.own with h1 | h1
   ·exact .inr (h1.symm.trans e)
   ·exact absurd (h1 q e) (by omega)
 ·rcases k.own with k1 | k1
  ·rw [k1];exact h.own
  ·exact .inr fun q e=>Nat.le_trans h.mv.size (k1 q e)
theorem Pr.Gr.cell {b:Nat} {v v':Value} {w w':World} (h:Pr.Gr b v v' w w') {q:Nat} (hq:q < w.heap.size) (hb:q≠b) (hv:v.ownBlock≠some q) (j:Nat):w'.cell? ⟨q,j,none⟩=w.cell? ⟨q,j,none⟩:=World.cell?_of_block (a:=⟨q,j,none⟩) (h.mv.block q hq (fun e=>e.elim hb hv))
theorem Pr.Gr.froz {b:Nat} {v v':Value} {w w':World} (h:Pr.Gr b v v' w w') {q:Nat} (hq:q < w.heap.size) (hb:q≠b) (hv:v.ownBlock≠some q) (j:Nat):w'.frozen? ⟨q,j,none⟩=w.frozen? ⟨q,j,none⟩:=World.frozen?_of_block (a:=⟨q,j,none⟩) (h.mv.block q hq (fun e=>e.elim hb hv))
theorem row_sameP {w w':World} {base size:Nat} {e:TypeId} {v:Value} {n:Nat} {xs:List Value} (h:w.ownsRow base e size v n xs) (hb:∀ g,base≤g→g < w.heap.size→w'.heap[g]?=w.heap[g]?):w'.ownsRow base e size v n xs:=by
 refine ⟨h.1,?_⟩
 rcases h.2 with h1 | ⟨g',cap',cur,hv,h2,h3,h4⟩
 ·exact .inl h1
 ·exact .inr ⟨g',cap',cur,hv,h2,(hb g' h2 (Array.getElem?_eq_some_iff.1 h3).1).trans h3,h4⟩
theorem row_belowP {w w':World} {base size:Nat} {e:TypeId} {v:Value} {n:Nat} {xs:List Value} (h:w.ownsRow base e size v n xs) (hb:Below w.heap.size w w'):w'.ownsRow base e size v n xs:=row_sameP h (fun g _ hg=>hb.block g hg)
def Pr.tokCells (x:Sc.T):List Value:=[.int .i64 x.kind,.string ⟨x.text.toArray⟩,.int .i64 x.n,.int .i64 x.place]
def Pr.tokV (x:Sc.T):Value:= .agg #[.int .i64 x.kind,.string ⟨x.text.toArray⟩,.int .i64 x.n,.int .i64 x.place]
structure DK (b tg tc:Nat) (ts:List Sc.T) (sz:Nat) (v:Value) (s:Pr.Dk) (w:World):Prop where
 c0:w.cell? ⟨b,0,none⟩=some (.slice (some ⟨tg,0,none⟩) ts.length tc)
 c1:w.cell? ⟨b,1,none⟩=some (.int .i64 sz)
 c2:w.cell? ⟨b,2,none⟩=some (.int .i64 s.p)
 c3:w.cell? ⟨b,3,none⟩=some (.bool s.bad)
 c4:w.cell? ⟨b,4,none⟩=some (.int .i64 s.place)
 c5:w.cell? ⟨b,5,none⟩=some v
 fr:∀ j,w.frozen? ⟨b,j,none⟩=false
 tk:tg < b
 ks:∀ (i:Nat) (h:i < ts.length),w.cell? ⟨tg,i*4,none⟩=some (.int .i64 ts[i].kind)∧w.cell? ⟨tg,i*4+1,none⟩=some (.string ⟨ts[i].text.toArray⟩)∧w.cell? ⟨tg,i*4+2,none⟩=some (.int .i64 ts[i].n)∧w.cell? ⟨tg,i*4+3,none⟩=some (.int .i64 ts[i].place)
 le:s.p≤ts.length
 most:ts.length≤1048576
 row:w.ownsRow (b+1) 82 5 v s.out.length (Tr.cellsOf s.out)
section
variable {b tg tc:Nat} {ts:List Sc.T} {sz:Nat} {v:Value} {s:Pr.Dk} {w w':World}
theorem DK.lt (h:DK b tg tc ts sz v s w):b < w.heap.size:=World.block_lt_of_cell? w ⟨b,0,none⟩ h.c0
theorem DK.own (h:DK b tg tc ts sz v s w) {q:Nat} (hq:v.ownBlock=some q):b < q∧q < w.heap.size:=⟨(h.row.lt q hq).1,(h.row.lt q hq).2⟩
theorem DK.below (h:DK b tg tc ts sz v s w) (hb:Below w.heap.size w w'):DK b tg tc ts sz v s w':=by
 have hl:=h.lt
 have ht:=h.tk
 have cb:∀ q j,q≤b→w'.cell? ⟨q,j,none⟩=w.cell? ⟨q,j,none⟩:=fun q j hq=>hb.cell (p:=⟨q,j,none⟩) (show q < w.heap.size by omega)
 exact ⟨(cb b _ (Nat.le_refl _)).trans h.c0,(cb b _ (Nat.le_refl _)).trans h.c1,(cb b _ (Nat.le_refl _)).trans h.c2,(cb b _ (Nat.le_refl _)).trans h.c3,(cb b _ (Nat.le_refl _)).trans h.c4,(cb b _ (Nat.le_refl _)).trans h.c5,fun j=>(hb.frozen (p:=⟨b,j,none⟩) hl).trans (h.fr j),h.tk,
  fun i hi=>⟨(cb tg _ (by omega)).trans (h.ks i hi).1,(cb tg _ (by omega)).trans (h.ks i hi).2.1,(cb tg _ (by omega)).trans (h.ks i hi).2.2.1,(cb tg _ (by omega)).trans (h.ks i hi).2.2.2⟩,h.le,h.most,row_belowP h.row hb⟩
theorem DK.set (h:DK b tg tc ts sz v s w) (j:Nat) (u:Value) (s':Pr.Dk) (hj:j=2∧u = .int .i64 s'.p∧s'.bad=s.bad∧s'.place=s.place∨j=3∧u = .bool s'.bad∧s'.p=s.p∧s'.place=s.place∨j=4∧u = .int .i64 s'.place∧s'.p=s.p∧s'.bad=s.bad) (ho:s'.out=s.out) (hp:s'.p≤ts.length):DK b tg tc ts sz v s' (w.setCell ⟨b,j,none⟩ u):=by
 have hl:=h.lt
 have ht:=h.tk
 have ne:∀ k,k≠j→(w.setCell ⟨b,j,none⟩ u).cell? ⟨b,k,none⟩=w.cell? ⟨b,k,none⟩:=fun k hk=>World.cell?_setCell_other _ _ _ _ (fun e=>hk (congrArg Addr.off e).symm)
 have tn:∀ k,(w.setCell ⟨b,j,none⟩ u).cell? ⟨tg,k,none⟩=w.cell? ⟨tg,k,none⟩:=fun k=>World.cell?_setCell_other _ _ _ _ (fun e=>by have:=congrArg Addr.block e;simp at this;omega)
 have hr:(w.setCell ⟨b,j,none⟩ u).ownsRow (b+1) 82 5 v s'.out.length (Tr.cellsOf s'.out):=by
  rw [ho];exact row_sameP h.row (fun g hg _=>Below.heap_setCell _ _ _ _ (show g≠b by omega))
 have hfr:∀ k,(w.setCell ⟨b,j,none⟩ u).frozen? ⟨b,k,none⟩=false:=fun k=>by rw [World.frozen?_setCell];exact h.fr k
 have hks:∀ (i:Nat) (h:i < ts.length),(w.setCell ⟨b,j,none⟩ u).cell? ⟨tg,i*4,none⟩=some (.int .i64 ts[i].kind)∧(w.setCell ⟨b,j,none⟩ u).cell? ⟨tg,i*4+1,none⟩=some (.string ⟨ts[i].text.toArray⟩)∧(w.setCell ⟨b,j,none⟩ u).cell? ⟨tg,i*4+2,none⟩=some (.int .i64 ts[i].n)∧(w.setCell ⟨b,j,none⟩ u).cell? ⟨tg,i*4+3,none⟩=some (.int .i64 ts[i].place) :=
  fun i hi=>⟨(tn _).trans (h.ks i hi).1,(tn _).trans (h.ks i hi).2.1,(tn _).trans (h.ks i hi).2.2.1,(tn _).trans (h.ks i hi).2.2.2⟩
 rcases hj with ⟨rfl,rfl,e1,e2⟩ | ⟨rfl,rfl,e1,e2⟩ | ⟨rfl,rfl,e1,e2⟩
 ·exact ⟨(ne 0 (by decide)).trans h.c0,(ne 1 (by decide)).trans h.c1,World.cell?_setCell_same _ _ _ h.c2,by rw [e1];exact (ne 3 (by decide)).trans h.c3,by rw [e2];exact (ne 4 (by decide)).trans h.c4,(ne 5 (by decide)).trans h.c5,hfr,ht,hks,hp,h.most,hr⟩
 ·exact ⟨(ne 0 (by decide)).trans h.c0,(ne 1 (by decide)).trans h.c1,by rw [e1];exact (ne 2 (by decide)).trans h.c2,World.cell?_setCell_same _ _ _ h.c3,by rw [e2];exact (ne 4 (by decide)).trans h.c4,(ne 5 (by decide)).trans h.c5,hfr,ht,hks,hp,h.most,hr⟩
 ·exact ⟨(ne 0 (by decide)).trans h.c0,(ne 1 (by decide)).trans h.c1,by rw [e1];exact (ne 2 (by decide)).trans h.c2,by rw [e2];exact (ne 3 (by decide)).trans h.c3,World.cell?_setCell_same _ _ _ h.c4,(ne 5 (by decide)).trans h.c5,hfr,ht,hks,hp,h.most,hr⟩
theorem Pr.grown_set (w:World) (b j:Nat) (v:Value):w.grownBy (w.setCell ⟨b,j,none⟩ v) (some b):=by
 refine ⟨rfl,rfl,rfl,Nat.le_of_eq (by simp [World.setCell]),fun k _ hne=>?_⟩
 exact Below.heap_setCell _ _ _ _ (fun e=>hne (by rw [e]))
theorem Pr.Gr.set (v:Value) (w:World) (b j:Nat) (u:Value):Pr.Gr b v v w (w.setCell ⟨b,j,none⟩ u):=⟨.grown (Pr.grown_set w b j u) (fun q e=>by cases e;exact .inl rfl),.inl rfl⟩
theorem DK.tokAt (h:DK b tg tc ts sz v s w) (hp:s.p < ts.length):w.cell? ⟨tg,s.p*4,none⟩=some (.int .i64 (Pr.tok ts sz s).kind)∧w.cell? ⟨tg,s.p*4+1,none⟩=some (.string ⟨(Pr.tok ts sz s).text.toArray⟩)∧w.cell? ⟨tg,s.p*4+2,none⟩=some (.int .i64 (Pr.tok ts sz s).n)∧w.cell? ⟨tg,s.p*4+3,none⟩=some (.int .i64 (Pr.tok ts sz s).place):=by
 have e:Pr.tok ts sz s=ts[s.p]:=by unfold Pr.tok;rw [List.getElem?_eq_getElem hp];rfl
 rw [e];exact h.ks s.p hp
end
set_option maxRecDepth 100000 in
set_option maxHeartbeats 1000000 in
theorem tok_any {b tg tc:Nat} {ts:List Sc.T} {sz:Nat} {v:Value} {s:Pr.Dk} {w:World} (h:DK b tg tc ts sz v s w) :
  Calls Tryz.prog 80 #[.pointer (some ⟨b,0,none⟩)] w fun e w'=>e = .returned (Pr.tokV (Pr.tok ts sz s))∧Below w.heap.size w w':=by
 have hl:=h.lt
 have hlt:=h.tk
 have hle:=h.le
 have hm:=h.most
 have hne:w.heap.size≠b:=by omega
 have hnt:w.heap.size≠tg:=by omega
 have bb:Below w.heap.size w (w.alloc (.cells #[.int .i64 0,.string ⟨#[]⟩,.int .i64 0,.int .i64 0] 30)):=bA _
 have h':=h.below bb
 have c0:=h'.c0
 have c1:=h'.c1
 have c2:=h'.c2
 by_cases hp:s.p < ts.length
 ·obtain ⟨k0,k1,k2,k3⟩:=h'.tokAt hp
  have hpi:(s.p:Int) < ts.length:=by omega
  clear h'
  go_enter Tryz.func80,Tryz.ntmps80
  go_wp2
  go_region
  go_wp2
  go_region
  go_wp2
  refine bodyPost_ret (v:=Pr.tokV (Pr.tok ts sz s)) (by simp [results,Tryz.results80,go_sem,Pr.tokV]) rfl ⟨rfl,?_⟩
  repeat (first | (refine Below.setCell ?_ (by show w.heap.size≤w.heap.size;exact Nat.le_refl _) _) | (refine Below.drew ?_))
  exact bA _
 ·have hpi:¬ (s.p:Int) < ts.length:=by omega
  have ht:Pr.tok ts sz s=⟨0,[],0,sz⟩:=by unfold Pr.tok;rw [List.getElem?_eq_none (by omega)];rfl
  rw [ht]
  clear h'
  go_enter Tryz.func80,Tryz.ntmps80
  go_wp2
  go_region
  go_wp2
  refine bodyPost_ret (v:=Pr.tokV ⟨0,[],0,sz⟩) (by simp [results,Tryz.results80,go_sem,Pr.tokV]) rfl ⟨rfl,?_⟩
  repeat (first | (refine Below.setCell ?_ (by show w.heap.size≤w.heap.size;exact Nat.le_refl _) _) | (refine Below.drew ?_))
  exact bA _
theorem tokField0 (k n q:Int) (t:ByteArray) (W:World):Sem.run Tryz.prog (Instr.field 30 (Value.agg #[.int .i64 k,.string t,.int .i64 n,.int .i64 q]) 0) W = .ok (.int .i64 k) W:=by kernel_rfl
theorem tokField3 (k n q:Int) (t:ByteArray) (W:World):Sem.run Tryz.prog (Instr.field 30 (Value.agg #[.int .i64 k,.string t,.int .i64 n,.int .i64 q]) 3) W = .ok (.int .i64 q) W:=by kernel_rfl
def DPost (b tg tc:Nat) (ts:List Sc.T) (sz:Nat) (v:Value) (w:World) (r:Pr.Dk) (w':World):Prop:=∃ v',DK b tg tc ts sz v' r w'∧Pr.Gr b v v' w w'
set_option maxRecDepth 100000 in
set_option maxHeartbeats 1000000 in
theorem stop_any {b tg tc:Nat} {ts:List Sc.T} {sz:Nat} {v:Value} {s:Pr.Dk} {w:World} (h:DK b tg tc ts sz v s w) :
  Calls Tryz.prog 81 #[.pointer (some ⟨b,0,none⟩)] w fun e w'=>e = .returned (.tuple #[])∧DK b tg tc ts sz v (Pr.stop ts sz s) w'∧Pr.Gr b v v w w':=by
 have c3:=h.c3
 have f3:=h.fr 3
 cases hb:s.bad
 ·rw [hb] at c3
  have h1:=h.set 3 (.bool true) {s with bad:=true} (.inr (.inl ⟨rfl,rfl,rfl,rfl⟩)) rfl h.le
  have HT:=hide (tok_any h1)
  have HH:=hide h1
  have HH0:=hide h
  have hst:Pr.stop ts sz s={s with bad:=true,place:=(Pr.tok ts sz s).place}:=by unfold Pr.stop;rw [hb];rfl
  have hsm:Pr.tok ts sz {s with bad:=true}=Pr.tok ts sz s:=rfl
  rw [hst]
  have HE:=hide hsm
  clear h1 h hst hsm
  go_enter Tryz.func81,Tryz.ntmps81
  go_wp2_with fail
  refine HT.out.mono ?_
  rintro e w1 ⟨rfl,hb1⟩
  have hd1:=HH.out.below hb1
  have c4:=hd1.c4
  have f4:=hd1.fr 4
  have HD:=hide hd1
  have HB:=hide hb1
  rw [HE.out]
  unfold Pr.tokV
  clear hd1 hb1
  have hf3:=tokField3 (Pr.tok ts sz s).kind (Pr.tok ts sz s).n (Pr.tok ts sz s).place ⟨(Pr.tok ts sz s).text.toArray⟩
  go_wp2
  (first | go_end0 | refine bodyPost_ret (results_none rfl _ _ _) rfl ?_)
  refine ⟨rfl,HD.out.set 4 _ _ (.inr (.inr ⟨rfl,rfl,rfl,rfl⟩)) rfl HD.out.le,?_⟩
  exact ((Pr.Gr.set v w b 3 _).trans (.below HB.out)).trans (.set v _ b 4 _)
 ·rw [hb] at c3
  have HH0:=hide h
  have hst:Pr.stop ts sz s=s:=by unfold Pr.stop;rw [hb];rfl
  rw [hst]
  clear h hst
  go_enter Tryz.func81,Tryz.ntmps81
  go_wp2
  (first | go_end0 | refine bodyPost_ret (results_none rfl _ _ _) rfl ?_)
  exact ⟨rfl,HH0.out,.refl _ _ _⟩
set_option maxRecDepth 100000 in
set_option maxHeartbeats 1000000 in
theorem is_any {b tg tc:Nat} {ts:List Sc.T} {sz:Nat} {v:Value} {s:Pr.Dk} {w:World} (h:DK b tg tc ts sz v s w) (t:ByteArray) :
  Calls Tryz.prog 88 #[.pointer (some ⟨b,0,none⟩),.string t] w fun e w'=>e = .returned (.bool (Pr.is ts sz s t.data.toList))∧Below w.heap.size w w':=by
 have HT:=hide (tok_any h)
 have HH:=hide h
 have hl:=h.lt
 clear h
 go_enter Tryz.func88,Tryz.ntmps88
 go_wp2_with fail
 refine HT.out.mono ?_
 rintro e w1 ⟨rfl,hb1⟩
 have hz:=hb1.size
 have bb:=hb1.trans (((Below.refl w1.heap.size w1).alloc (Nat.le_refl _) (.cells #[.int .i64 (Pr.tok ts sz s).kind,.string ⟨(Pr.tok ts sz s).text.toArray⟩,.int .i64 (Pr.tok ts sz s).n,.int .i64 (Pr.tok ts sz s).place] 30)).mono hz)
 have hd:=HH.out.below bb
 have c3:=hd.c3
 have HB1:=hide hb1
 unfold Pr.tokV
 have HP:Hid (Pr.is ts sz s t.data.toList=(!s.bad && ((Pr.tok ts sz s).kind == 2 || (Pr.tok ts sz s).kind == 5) && (Pr.tok ts sz s).text == t.data.toList)):=hide rfl
 clear hd bb hb1
 generalize Pr.tok ts sz s=x at *
 obtain ⟨k,tx,n,pl⟩:=x
 go_wp2
 all_goals
  go_ret
  refine ⟨?_,HB1.out.alloc hz _⟩
  rw [HP.out]
  simp_all [Lib.toList_data]
  try (intro h;omega)
theorem DK.adv {b tg tc:Nat} {ts:List Sc.T} {sz:Nat} {v:Value} {s:Pr.Dk} {w:World} (h:DK b tg tc ts sz v s w) (hp:s.p < ts.length):DK b tg tc ts sz v (Pr.adv s) (w.setCell ⟨b,2,none⟩ (.int .i64 ((s.p:Int)+1))):=h.set 2 _ (Pr.adv s) (.inl ⟨rfl,rfl,rfl,rfl⟩) rfl hp
set_option maxRecDepth 100000 in
set_option maxHeartbeats 1000000 in
theorem take_any {b tg tc:Nat} {ts:List Sc.T} {sz:Nat} {v:Value} {s:Pr.Dk} {w:World} (h:DK b tg tc ts sz v s w) (t:ByteArray) :
  Calls Tryz.prog 75 #[.pointer (some ⟨b,0,none⟩),.string t] w fun e w'=>e = .returned (.bool (Pr.is ts sz s t.data.toList))∧DK b tg tc ts sz v (Pr.take ts sz s t.data.toList) w'∧Pr.Gr b v v w w':=by
 have HI:=hide (is_any h t)
 have HH:=hide h
 have hm:=h.most
 clear h
 unfold Pr.take
 cases hi:Pr.is ts sz s t.data.toList
 ·rw [hi] at HI
  go_enter Tryz.func75,Tryz.ntmps75
  go_wp2_with fail
  refine HI.out.mono ?_
  rintro e w1 ⟨rfl,hb1⟩
  have HB:=hide hb1
  clear hb1
  go_wp2
  go_ret
  exact ⟨rfl,HH.out.below HB.out,.below HB.out⟩
 ·have hp:=Pr.is_lt hi
  rw [hi] at HI
  go_enter Tryz.func75,Tryz.ntmps75
  go_wp2_with fail
  refine HI.out.mono ?_
  rintro e w1 ⟨rfl,hb1⟩
  have hd:=HH.out.below hb1
  have c2:=hd.c2
  have f2:=hd.fr 2
  have HD:=hide hd
  have HB:=hide hb1
  clear hb1 hd
  go_wp2
  go_ret
  exact ⟨rfl,HD.out.adv hp,(Pr.Gr.below HB.out).trans (.set _ _ _ _ _)⟩
set_option maxRecDepth 100000 in
set_option maxHeartbeats 1000000 in
theorem need_any {b tg tc:Nat} {ts:List Sc.T} {sz:Nat} {v:Value} {s:Pr.Dk} {w:World} (h:DK b tg tc ts sz v s w) (t:ByteArray) :
  Calls Tryz.prog 78 #[.pointer (some ⟨b,0,none⟩),.string t] w fun e w'=>e = .returned (.tuple #[])∧DK b tg tc ts sz v (Pr.need ts sz s t.data.toList) w'∧Pr.Gr b v v w w':=by
 have HI:=hide (take_any h t)
 clear h
 unfold Pr.need
 cases hi:Pr.is ts sz s t.data.toList
 ·have ht:Pr.take ts sz s t.data.toList=s:=by unfold Pr.take;rw [hi];rfl
  rw [hi,ht] at HI
  go_enter Tryz.func78,Tryz.ntmps78
  go_wp2_with fail
  refine HI.out.mono ?_
  rintro e w1 ⟨rfl,hd1,hg1⟩
  have HS:=hide (stop_any hd1)
  have HG:=hide hg1
  clear hd1 hg1
  go_wp2_with fail
  refine HS.out.mono ?_
  rintro e w2 ⟨rfl,hd2,hg2⟩
  have HD2:=hide hd2
  have HG2:=hide hg2
  clear hd2 hg2
  go_wp2
  (first | go_end0 | refine bodyPost_ret (results_none rfl _ _ _) rfl ?_)
  exact ⟨rfl,HD2.out,HG.out.trans HG2.out⟩
 ·have ht:Pr.take ts sz s t.data.toList=Pr.adv s:=by unfold Pr.take;rw [hi];rfl
  rw [hi,ht] at HI
  go_enter Tryz.func78,Tryz.ntmps78
  go_wp2_with fail
  refine HI.out.mono ?_
  rintro e w1 ⟨rfl,hd1,hg1⟩
  have HD:=hide hd1
  have HG:=hide hg1
  clear hd1 hg1
  go_wp2
  (first | go_end0 | refine bodyPost_ret (results_none rfl _ _ _) rfl ?_)
  exact ⟨rfl,HD.out,HG.out⟩
set_option maxRecDepth 100000 in
set_option maxHeartbeats 1000000 in
theorem name_any {b tg tc:Nat} {ts:List Sc.T} {sz:Nat} {v:Value} {s:Pr.Dk} {w:World} (h:DK b tg tc ts sz v s w) :
  Calls Tryz.prog 76 #[.pointer (some ⟨b,0,none⟩)] w fun e w'=>e = .returned (.string ⟨(Pr.nameT ts sz s).toArray⟩)∧DK b tg tc ts sz v (Pr.name ts sz s) w'∧Pr.Gr b v v w w':=by
 have HT:=hide (tok_any h)
 have HS:=hide (fun W (hb:Below w.heap.size w W)=>stop_any (h.below hb))
 have HH:=hide h
 have hm:=h.most
 have c3:=h.c3
 clear h
 unfold Pr.name Pr.nameT
 cases hi:Pr.isName ts sz s
 ·cases hb:s.bad
  ·rw [hb] at c3
   have hk:¬ ((Pr.tok ts sz s).kind:Int)=1:=by unfold Pr.isName at hi;rw [hb] at hi;simp at hi;omega
   have hf0:=tokField0 (Pr.tok ts sz s).kind (Pr.tok ts sz s).n (Pr.tok ts sz s).place ⟨(Pr.tok ts sz s).text.toArray⟩
   go_enter Tryz.func76,Tryz.ntmps76
   go_wp2_with fail
   refine HT.out.mono ?_
   rintro e w1 ⟨rfl,hb1⟩
   have HB:=hide hb1
   clear hb1
   unfold Pr.tokV
   go_wp2_with fail
   refine (HS.out _ HB.out).mono ?_
   rintro e w2 ⟨rfl,hd2,hg2⟩
   have HD2:=hide hd2
   have HG2:=hide hg2
   clear hd2 hg2
   go_wp2
   go_ret
   exact ⟨rfl,HD2.out,(Pr.Gr.below HB.out).trans HG2.out⟩
  ·rw [hb] at c3
   go_enter Tryz.func76,Tryz.ntmps76
   go_wp2_with fail
   refine (HS.out _ (Below.refl _ _)).mono ?_
   rintro e w2 ⟨rfl,hd2,hg2⟩
   have HD2:=hide hd2
   have HG2:=hide hg2
   clear hd2 hg2
   go_wp2
   go_ret
   exact ⟨rfl,HD2.out,HG2.out⟩
 ·have hp:=Pr.isName_lt hi
  have hb:s.bad=false:=by unfold Pr.isName at hi;simp at hi;exact hi.1
  have hk:((Pr.tok ts sz s).kind:Int)=1:=by unfold Pr.isName at hi;simp at hi;omega
  rw [hb] at c3
  have hf0:=tokField0 1 (Pr.tok ts sz s).n (Pr.tok ts sz s).place ⟨(Pr.tok ts sz s).text.toArray⟩
  go_enter Tryz.func76,Tryz.ntmps76
  go_wp2_with fail
  refine HT.out.mono ?_
  rintro e w1 ⟨rfl,hb1⟩
  have hd:=HH.out.below hb1
  have c2:=hd.c2
  have f2:=hd.fr 2
  have hdA:=hd.adv hp
  have d0:=hdA.c0
  have d2:=hdA.c2
  have hne:tg≠b:=by have:=hd.tk;omega
  have d5:=((World.cell?_setCell_other (w:=w1) (a:=⟨b,2,none⟩) (b:=⟨tg,s.p*4+1,none⟩) (.int .i64 ((s.p:Int)+1)) (fun e=>hne (congrArg Addr.block e).symm))).trans (hd.tokAt (sz:=sz) hp).2.1
  have HD:=hide hdA
  have HB:=hide hb1
  clear hb1 hd hdA
  unfold Pr.tokV
  rw [hk]
  go_wp2
  go_region
  go_wp2
  go_ret
  exact ⟨rfl,HD.out.below (Below.refl _ _).drew,((Pr.Gr.below HB.out).trans (.set _ _ _ _ _)).trans (.below (Below.refl _ _).drew)⟩
theorem step_append_ownP {P:Program} {ops:Array Oper} {o:Oper} {a:Act} {w:World} {K:Act→World→Prop} {Q:Exit→Act→World→Prop} {E:Prop}
  (hgd:o.guard=none) (s x:Operand) (t:TypeId) (ho:o.op = .call {callee:= .builtin .append,args:=#[s,x],argTypes:=#[t,t]})
  (base:Nat) (e:TypeId) (i:TypeInfo) (z:Value) (size bytes:Nat) (ht:P.underlying t=some (.slice e)) (hi:P.info? e=some i) (hz:i.zero=some z)
  (hsize:i.size=size) (hby:i.bytes=bytes) (hzs:z.cells.size=size) (hsz:0 < size)
  (v:Value) (n:Nat) (xs:List Value) (hs:a.eval s=v) (hown:w.ownsRow base e size v n xs)
  (ad:Addr) (m c:Nat) (news:List Value) (hx:a.eval x = .slice (some ad) m c) (hl:news.length=m * size) (hnews:∀ j u,news[j]?=some u→w.cell? (ad.add j)=some u) (h1:∀ u∈news,u.oneCell'=true)
  (h63:n+m≤maxLen) (hbytes:(n+m) * bytes≤140737488355328) (hbase:base≤w.heap.size)
  (hK:∀ v' w',w'.ownsRow base e size v' (n+m) (xs++news)→w.grownBy w' v.ownBlock→(v' = .slice none 0 0↔v = .slice none 0 0∧m=0)→(v'.ownBlock=v.ownBlock∨v'.ownBlock=some w.heap.size)→K (a.put o.dst v') w') :
  if Region.wanted o (yielded ops a.tmps)=true then Oper.wp P o a w K Q else E:=by
 have hw:Region.wanted o (yielded ops a.tmps)=true:=by simp [Region.wanted,hgd]
 rw [if_pos hw]
 obtain ⟨v',w',hr,h2,h3,h4,h5⟩:=run_append_own_at (P:=P) w base t o.type e i z size bytes ht hi hz hsize hby hzs hsz v n xs hown ad m c news hl hnews h1 h63 hbytes hbase
 unfold Oper.wp execOp
 simp only [ho,resolve,invoke,builtin,Sem.run_bind,Sem.run_pure,Result.andThen_ok,List.map_toArray,List.map_cons,List.map_nil,hs,hx,hr]
 exact hK _ _ h2 h3 h4 h5
theorem Tryz.infoNdP:(Tryz.prog.info? 82).map (fun i=>(i.zero,i.size,i.bytes))=some (some (.agg #[.int .i64 0,.int .i64 0,.int .i64 0,.string ⟨#[]⟩,.int .i64 0]),5,48):=by kernel_rfl
theorem Tr.cellsOf_snocP (l:List Tr.Nd) (d:Tr.Nd):Tr.cellsOf (l++[d])=Tr.cellsOf l++d.cells:=by unfold Tr.cellsOf;rw [List.flatMap_append];simp
theorem Tr.nd_oneP (d:Tr.Nd):∀ u∈d.cells,u.oneCell'=true:=by
 intro u hu
 simp only [Tr.Nd.cells,List.mem_cons,List.not_mem_nil,or_false] at hu
 rcases hu with rfl | rfl | rfl | rfl | rfl <;> rfl
theorem add_plainP (b i j:Nat):(⟨b,i,none⟩:Addr).add j=⟨b,i+j,none⟩:=by unfold Addr.add;split <;> simp_all
theorem cells_litP (W:World) (cs:List Value) (t:TypeId) (q:Nat) (hq:q=W.heap.size):∀ (j:Nat) (u:Value),cs[j]?=some u→((W.alloc (.cells cs.toArray t)).drew).cell? ((⟨q,0,none⟩:Addr).add j)=some u:=by
 intro j u hu
 subst hq
 show (W.alloc (.cells cs.toArray t)).cell? _=_
 rw [add_plainP,Nat.zero_add,World.cell?,heap_alloc_new']
 simpa using hu
theorem row_formP {w:World} {B e size n:Nat} {v:Value} {xs:List Value} (h:w.ownsRow B e size v n xs):∃ p c,v = .slice p n c:=by
 rcases h.2 with ⟨h1,h2⟩ | ⟨g,c,_,h2,_⟩
 ·exact ⟨none,0,by rw [h2];exact h1⟩
 ·exact ⟨_,c,h2⟩
theorem DK.putd {b tg tc:Nat} {ts:List Sc.T} {sz:Nat} {v v':Value} {s s':Pr.Dk} {w w':World} (h:DK b tg tc ts sz v s w) (hg:w.grownBy w' v.ownBlock) (hp:s'.p=s.p) (hb:s'.bad=s.bad) (ha:s'.place=s.place) (ho:w'.ownsRow (b+1) 82 5 v' s'.out.length (Tr.cellsOf s'.out)) :
  DK b tg tc ts sz v' s' (w'.setCell ⟨b,5,none⟩ v'):=by
 have hl:=h.lt
 have ht:=h.tk
 have hob:v.ownBlock≠some b:=fun e=>by have:=(h.own e).1;omega
 have hot:v.ownBlock≠some tg:=fun e=>by have:=(h.own e).1;omega
 have eb:w'.heap[b]?=w.heap[b]?:=hg.block b hl (fun e=>hob e.symm)
 have et:w'.heap[tg]?=w.heap[tg]?:=hg.block tg (by omega) (fun e=>hot e.symm)
 have cb:∀ j,w'.cell? ⟨b,j,none⟩=w.cell? ⟨b,j,none⟩:=fun j=>World.cell?_of_block (a:=⟨b,j,none⟩) eb
 have ct:∀ j,(w'.setCell ⟨b,5,none⟩ v').cell? ⟨tg,j,none⟩=w.cell? ⟨tg,j,none⟩:=fun j=>(World.cell?_setCell_other _ _ _ _ (fun e=>by have:=congrArg Addr.block e;simp at this;omega)).trans (World.cell?_of_block (a:=⟨tg,j,none⟩) et)
 have ne:∀ k,k≠5→(w'.setCell ⟨b,5,none⟩ v').cell? ⟨b,k,none⟩=w.cell? ⟨b,k,none⟩:=fun k hk=>(World.cell?_setCell_other _ _ _ _ (fun e=>hk (congrArg Addr.off e).symm)).trans (cb k)
 refine ⟨(ne 0 (by decide)).trans h.c0,(ne 1 (by decide)).trans h.c1,?_,?_,?_,World.cell?_setCell_same _ _ _ ((cb 5).trans h.c5),fun j=>?_,ht,fun i hi=>⟨(ct _).trans (h.ks i hi).1,(ct _).trans (h.ks i hi).2.1,(ct _).trans (h.ks i hi).2.2.1,(ct _).trans (h.ks i hi).2.2.2⟩,by rw [hp];exact h.le,h.most,?_⟩
 ·rw [hp];exact (ne 2 (by decide)).trans h.c2
 ·rw [hb];exact (ne 3 (by decide)).trans h.c3
 ·rw [ha];exact (ne 4 (by decide)).trans h.c4
 ·rw [World.frozen?_setCell];exact (World.frozen?_of_block (a:=⟨b,j,none⟩) eb).trans (h.fr j)
 ·exact row_sameP ho (fun g hg' _=>Below.heap_setCell _ _ _ _ (show g≠b by omega))
theorem Pr.Gr.grown {b:Nat} {v v':Value} {w w':World} (hg:w.grownBy w' v.ownBlock) (ho:v'.ownBlock=v.ownBlock∨v'.ownBlock=some w.heap.size):Pr.Gr b v v' w w' :=
 ⟨.grown hg (fun _ e => .inr e),ho.imp id (fun e q h=>by rw [e] at h;cases h;exact Nat.le_refl _)⟩
set_option maxRecDepth 100000 in
set_option maxHeartbeats 1000000 in
theorem put_any {b tg tc:Nat} {ts:List Sc.T} {sz:Nat} {v:Value} {s:Pr.Dk} {w:World} (h:DK b tg tc ts sz v s w) (hn:s.out.length≤100000000) (k o n:Int) (t:List UInt8) (c:Nat) :
  Calls Tryz.prog 58 #[.pointer (some ⟨b,0,none⟩),.agg #[.int .i64 k,.int .i64 o,.int .i64 n,.string ⟨t.toArray⟩,.int .i64 c]] w fun e w'=>e = .returned (.tuple #[])∧DPost b tg tc ts sz v w (Pr.put s k o n t c) w':=by
 obtain ⟨iN,hN,hNz,hNs,hNb⟩:=info_parts Tryz.infoNdP
 have hl:=h.lt
 have bb:Below w.heap.size w (w.alloc (.cells #[.int .i64 k,.int .i64 o,.int .i64 n,.string ⟨t.toArray⟩,.int .i64 c] 82)):=bA _
 have h1:=h.below bb
 have c5:=h1.c5
 have f5:=h1.fr 5
 have hz1:(w.alloc (.cells #[.int .i64 k,.int .i64 o,.int .i64 n,.string ⟨t.toArray⟩,.int .i64 c] 82)).heap.size=w.heap.size+1:=by simp
 have h2:=h1.below (bA (.cells #[.int .i64 k,.int .i64 o,.int .i64 n,.string ⟨t.toArray⟩,.int .i64 c] 82))
 have h3:=h2.below (Below.refl _ _).drew
 have g3:Pr.Gr b v v w _:=(Pr.Gr.below bb).trans ((Pr.Gr.below (bA (.cells #[.int .i64 k,.int .i64 o,.int .i64 n,.string ⟨t.toArray⟩,.int .i64 c] 82))).trans (.below (Below.refl _ _).drew))
 have H3:=hide h3
 have G3:=hide g3
 clear h h1 h2 h3 g3 bb
 go_enter Tryz.func58,Tryz.ntmps58
 go_wp2_with fail
 go_region_law ((refine step_append_ownP rfl (.tmp 8) (.tmp 10) 48 rfl (b+1) 82 iN _ 5 48 Tryz.underlying48 hN hNz hNs hNb rfl (by decide) v s.out.length (Tr.cellsOf s.out) (by simp [Act.eval]) H3.out.row ⟨w.heap.size+1,0,none⟩ 1 1 [.int .i64 k,.int .i64 o,.int .i64 n,.string ⟨t.toArray⟩,.int .i64 c] (by simp [Act.eval]) rfl (cells_litP _ [_,_,_,_,_] _ _ (by simp)) (by simp [Value.oneCell']) (by unfold maxLen;omega) (by omega) (by have:=H3.out.lt;omega) ?_;intro v5 w5 r1 r2 r3 r4;obtain ⟨p5,c5',rfl⟩:=row_formP r1;have q5:=(World.cell?_of_block (a:=⟨b,5,none⟩) (r2.block b H3.out.lt (fun e=>by have:=(H3.out.own e.symm).1;omega))).trans H3.out.c5;have q6:=(World.frozen?_of_block (a:=⟨b,5,none⟩) (r2.block b H3.out.lt (fun e=>by have:=(H3.out.own e.symm).1;omega))).trans (H3.out.fr 5)))
 all_goals
  have HR1:=hide r1
  have HR2:=hide r2
  have HR4:=hide r4
  clear r1 r2 r3 r4
  go_wp2
  (first | go_end0 | refine bodyPost_ret (results_none rfl _ _ _) rfl ?_)
  refine ⟨rfl,_,H3.out.putd HR2.out rfl rfl rfl ?_,(G3.out.trans (.grown HR2.out HR4.out)).trans (.set _ _ _ _ _)⟩
  show w5.ownsRow (b+1) 82 5 _ (s.out++[_]).length (Tr.cellsOf (s.out++[_]))
  rw [Tr.cellsOf_snocP,List.length_append]
  exact HR1.out
end Go.Proofs.YtbckhbeebngjfaaGreatDoor
