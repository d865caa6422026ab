/- Fv7, Fv8, Jh. -/
import Derived.Test.YthbojbbmpcmoaaaGreatDoorZ26
import Derived.Test.YthbojbbmpcmoaaaGreatDoorZ16
import Derived.Test.YthbojbbmpcmoaaaGreatDoorZ21
namespace Go.Proofs.YthbojbbmpcmoaaaGreatDoor.Vl
open Go.RowKit T.atoms T.ok T.high T.good T.allPlain DatAt T.ord
set_option maxHeartbeats 400000 in
theorem eitherMk (n d:Nat) (hn:0 < n) (w:World) (hd:d < w.heap.size) (h0:w.cell? ⟨d,0,none⟩=some (.int .i64 2)):Calls Tryz.prog 50 #[.slice (some ⟨d,0,none⟩) n n] w fun e w'=>e = .returned (deedV 2 109 w.heap.size)∧w'.cell? ⟨w.heap.size,0,none⟩=some (.slice (some ⟨d,0,none⟩) n n)∧Below w.heap.size w w'∧w.heap.size < w'.heap.size:=by
 have hsf:=run_store_func Tryz.prog
 have hB:Below w.heap.size w ((w.alloc (.cells #[.slice (some ⟨d,0,none⟩) n n] 172)).alloc (.cells #[.int .i64 0,.nilFunc] 90)):=(bA _).alloc (by simp) _
 have h0':=(hB.cell (p:=⟨d,0,none⟩) hd).trans h0
 go_enter Tryz.func50,Tryz.ntmps50
 go_wp2
 refine bodyPost_ret (v:=deedV 2 109 w.heap.size) (by simp [results,Tryz.results50,go_sem,deedV]) rfl ⟨rfl,?_,?_,by simp;omega⟩
 ·exact (((Below.refl (w.heap.size+1) (w.alloc (.cells #[.slice (some ⟨d,0,none⟩) n n] 172))).alloc (by simp) _).cell (p:=⟨w.heap.size,0,none⟩) (Nat.lt_succ_self _)).trans (by simp)
 ·exact (bA _).alloc (by simp) _
theorem deedE {lo hi:Nat} {w:World} (ds:List (Nat × Nat)) (Rs:List (T→T→Out)) (hl:Rs.length=ds.length) (hl9:ds.length≤100) (d b:Nat) (hd1:lo≤d) (hd2:d < hi) (hb1:lo≤b) (hb2:b < hi) (hz:hi≤w.heap.size) (hbc:w.cell? ⟨b,0,none⟩=some (.slice (some ⟨d,0,none⟩) ds.length ds.length))
  (hcs:∀ i (h:i < ds.length),w.cell? ⟨d,i*2,none⟩=some (.int .i64 2)∧w.cell? ⟨d,i*2+1,none⟩=some (.func (.func (ds[i]).1) #[] #[.pointer (some ⟨(ds[i]).2,0,none⟩)]))
  (hD:∀ i (h:i < ds.length) (h':i < Rs.length),DeedAt lo hi w (ds[i]).1 (ds[i]).2 Rs[i]):DeedAt lo hi w 109 b (fun t u=>eitherOut (Rs.map fun R=>R t u)):=by
 refine ⟨hz,en_of Tryz.func109 (by kernel_rfl) (by kernel_rfl),fun W hs hG t u hg hg' hc hc' hi1 hi2 gg cc x y xa xb h1 h2 h3 h4 h5=>?_⟩
 refine either1_any ds (Rs.map fun R=>R t u) (by simpa using hl) hl9 d b gg W (Nat.lt_of_lt_of_le hd2 hs.1) ((hs.cell b 0 hb1 hb2).trans hbc) (fun i h=>?_) (fun i h=>(hD i h (by omega)).en) (fun i h ho W' hB=>?_)
 ·obtain ⟨a1,a2⟩:=hcs i h
  exact ⟨(hs.cell d (i*2) hd1 hd2).trans a1,(hs.cell d (i*2+1) hd1 hd2).trans a2⟩
 ·have h':i < Rs.length:=by omega
  have:=(hD i h h').does W' (hs.below hB) (hG.below hB) t u hg hg' hc hc' hi1 hi2 gg cc x y xa xb (Nat.lt_of_lt_of_le h1 hB.size) ((hB.cell (p:=⟨gg,0,none⟩) h1).trans h2) ((hB.cell (p:=⟨gg,1,none⟩) h1).trans h3) (h4.moves (Moves.below hB)) (h5.moves (Moves.below hB))
  simpa using this
def alike (hb:Int→Bool) (t u:T):Out:=eitherOut ([cmpsB hb,cmpsI hb,cmpsT hb,tyR].map fun R=>R t u)
theorem eight_new (W:World) (l:List Value) (t:TypeId):∀ j v,l[j]?=some v→(W.alloc (.cells l.toArray t)).cell? ⟨W.heap.size,j,none⟩=some v:=by
 intro j v h
 rw [World.cell?,heap_alloc_new]
 simpa using h
def AlikePost (hb:Int→Bool) (w:World) (e:Ending) (w':World):Prop:=∃ b,e = .returned (deedV 2 109 b)∧DeedAt w.heap.size w'.heap.size w' 109 b (alike hb)∧Below w.heap.size w w'
theorem Same.set {lo hi:Nat} {w W:World} (h:Same lo hi w W) (p:Addr) (hp:p.block < lo) (v:Value):Same lo hi w (W.setCell p v):=⟨by simpa using h.1,fun q a b=>(Below.heap_setCell _ _ _ _ (by omega)).trans (h.2 q a b)⟩
set_option maxRecDepth 100000 in
set_option maxHeartbeats 1000000 in
theorem alike_any (h:FuncId) (hb:Int→Bool) (w:World) (hen:∀ args w,(callFunc h args).run Tryz.prog w = .ok (.enter h args) w) (HH:Holds h hb):Calls Tryz.prog 45 #[.func (.func h) #[] #[]] w (AlikePost hb w):=by
 have hsf:=run_store_func Tryz.prog
 have hq:Below w.heap.size w (w.alloc (.cells #[.int .i64 0,.nilFunc] 90)):=bA _
 have D0:=hide (two_new w (.int .i64 0) .nilFunc 90)
 have FZ:=hide (frozen_new2 w (.int .i64 0) .nilFunc 90)
 have HQ:=hide hq
 clear hq
 go_enter Tryz.func45,Tryz.ntmps45
 go_wp2_with fail
 refine (cmpsB_any h _).mono ?_
 rintro e w1 ⟨rfl,c0,c1,b1,z1⟩
 have dB:=hide (deedCB hen HH c0 c1 z1)
 have B1:=HQ.out.trans (b1.mono (by simp))
 have K1:=hide b1
 clear c0 c1 b1
 unfold deedV
 go_wp2_with fail
 refine (cmpsI_any h _).mono ?_
 rintro e w2 ⟨rfl,c0,c1,b2,z2⟩
 have dI:=hide (deedCI hen HH c0 c1 z2)
 have B2:=B1.trans (b2.mono B1.size)
 have K2:=hide b2
 clear c0 c1 b2
 unfold deedV
 go_wp2_with fail
 refine (cmpsT_any h _).mono ?_
 rintro e w3 ⟨rfl,c0,c1,b3,z3⟩
 have dT:=hide (deedCT hen HH c0 c1 z3)
 have B3:=B2.trans (b3.mono B2.size)
 have K3:=hide b3
 clear c0 c1 b3
 unfold deedV
 go_wp2_with fail
 refine (cmpsL_any h _).mono ?_
 rintro e w4 ⟨rfl,c0,c1,b4,z4⟩
 have dL:=hide (deedCL z4)
 have B4:=B3.trans (b4.mono B3.size)
 have K4:=hide b4
 clear c0 c1 b4
 unfold deedV
 have hz4:=B4.size
 have hd4:w4.heap.size < (w4.alloc (.cells #[.int .i64 2,.func (.func 101) #[] #[.pointer (some ⟨w.heap.size+1+1+1,0,none⟩)],.int .i64 2,.func (.func 116) #[] #[.pointer (some ⟨w1.heap.size+1+1,0,none⟩)],.int .i64 2,.func (.func 110) #[] #[.pointer (some ⟨w2.heap.size+1+1,0,none⟩)],.int .i64 2,.func (.func 119) #[] #[.pointer (some ⟨w3.heap.size+1+1,0,none⟩)]] 90)).heap.size:=by simp
 have E8:=hide (eight_new w4 [.int .i64 2,.func (.func 101) #[] #[.pointer (some ⟨w.heap.size+1+1+1,0,none⟩)],.int .i64 2,.func (.func 116) #[] #[.pointer (some ⟨w1.heap.size+1+1,0,none⟩)],.int .i64 2,.func (.func 110) #[] #[.pointer (some ⟨w2.heap.size+1+1,0,none⟩)],.int .i64 2,.func (.func 119) #[] #[.pointer (some ⟨w3.heap.size+1+1,0,none⟩)]] 90)
 go_wp2_with fail
 refine (eitherMk 4 w4.heap.size (by omega) _ hd4 (E8.out 0 _ rfl)).mono ?_
 rintro e w5 ⟨rfl,cb,b5,z5⟩
 simp only [World.size_alloc] at cb b5 z5
 have b45:Below w4.heap.size w4 w5:=(bA _).trans (b5.mono (Nat.le_succ _))
 have e8:∀ j v,([.int .i64 2,.func (.func 101) #[] #[.pointer (some ⟨w.heap.size+1+1+1,0,none⟩)],.int .i64 2,.func (.func 116) #[] #[.pointer (some ⟨w1.heap.size+1+1,0,none⟩)],.int .i64 2,.func (.func 110) #[] #[.pointer (some ⟨w2.heap.size+1+1,0,none⟩)],.int .i64 2,.func (.func 119) #[] #[.pointer (some ⟨w3.heap.size+1+1,0,none⟩)]]:List Value)[j]?=some v→w5.cell? ⟨w4.heap.size,j,none⟩=some v:=fun j v hj=>(b5.cell (p:=⟨w4.heap.size,j,none⟩) (Nat.lt_succ_self _)).trans (E8.out j v hj)
 have HE8:=hide e8
 have hs1:=K2.out.size
 have hs2:=K3.out.size
 have hs3:=K4.out.size
 have hs4:=b45.size
 simp only [World.size_alloc] at z1
 have B5:=B4.trans (b45.mono B4.size)
 have S1:Same (w.heap.size+1) (w.heap.size+1+1+1+1) w1 w5:=((((Same.refl (by omega)).below K2.out).below K3.out).below K4.out).below b45
 have S2:Same w1.heap.size (w1.heap.size+1+1+1) w2 w5:=(((Same.refl (by omega)).below K3.out).below K4.out).below b45
 have S3:Same w2.heap.size (w2.heap.size+1+1+1) w3 w5:=((Same.refl (by omega)).below K4.out).below b45
 have S4:Same w3.heap.size (w3.heap.size+1+1+1) w4 w5:=(Same.refl (by omega)).below b45
 have HS:=hide (And.intro S1 (And.intro S2 (And.intro S3 S4)))
 have hsz0:w.heap.size < w1.heap.size:=by omega
 have q0:=(K1.out.cell (p:=⟨w.heap.size,0,none⟩) (by simp)).trans (D0.out 0 _ rfl)
 have q1:=(K1.out.cell (p:=⟨w.heap.size,1,none⟩) (by simp)).trans (D0.out 1 _ rfl)
 have p0:=(K1.out.frozen (p:=⟨w.heap.size,0,none⟩) (by simp)).trans (FZ.out 0)
 have p1:=(K1.out.frozen (p:=⟨w.heap.size,1,none⟩) (by simp)).trans (FZ.out 1)
 have b15:Below w1.heap.size w1 w5:=((K2.out.trans (K3.out.mono hs1)).trans (K4.out.mono (by omega))).trans (b45.mono (by omega))
 have r0:=(b15.cell (p:=⟨w.heap.size,0,none⟩) hsz0).trans q0
 have r1:=(b15.cell (p:=⟨w.heap.size,1,none⟩) hsz0).trans q1
 have f0:=(b15.frozen (p:=⟨w.heap.size,0,none⟩) hsz0).trans p0
 have f1:=(b15.frozen (p:=⟨w.heap.size,1,none⟩) hsz0).trans p1
 have HCB:=hide cb
 clear cb b5 e8 S1 S2 S3 S4 q0 q1 p0 p1 b15 E8 hd4
 unfold deedV
 go_wp2
 obtain ⟨t0,t1⟩:=two_cells (x:= .int .i64 2) (y:= .func (.func 109) #[] #[.pointer (some ⟨w4.heap.size+1,0,none⟩)]) r0 r1
 have hk:∀ b,b≠w.heap.size→((w5.setCell ⟨w.heap.size,0,none⟩ (.int .i64 2)).setCell ⟨w.heap.size,1,none⟩ (.func (.func 109) #[] #[.pointer (some ⟨w4.heap.size+1,0,none⟩)])).heap[b]?=w5.heap[b]?:=fun b hb=>(Below.heap_setCell _ _ _ _ hb).trans (Below.heap_setCell _ _ _ _ hb)
 obtain ⟨S1,S2,S3,S4⟩:=HS.out
 have hzf:((w5.setCell ⟨w.heap.size,0,none⟩ (.int .i64 2)).setCell ⟨w.heap.size,1,none⟩ (.func (.func 109) #[] #[.pointer (some ⟨w4.heap.size+1,0,none⟩)])).heap.size=w5.heap.size:=by simp
 refine bodyPost_ret (v:=deedV 2 109 (w4.heap.size+1)) (by simp [results,Tryz.results45,go_sem,deedV,t0,t1]) rfl ⟨_,rfl,?_,(B5.setCell (p:=⟨w.heap.size,0,none⟩) (Nat.le_refl _) _).setCell (p:=⟨w.heap.size,1,none⟩) (Nat.le_refl _) _⟩
 have ce:∀ b o,b≠w.heap.size→((w5.setCell ⟨w.heap.size,0,none⟩ (.int .i64 2)).setCell ⟨w.heap.size,1,none⟩ (.func (.func 109) #[] #[.pointer (some ⟨w4.heap.size+1,0,none⟩)])).cell? ⟨b,o,none⟩=w5.cell? ⟨b,o,none⟩:=fun b o hb=>World.cell?_of_block (a:=⟨b,o,none⟩) (hk b hb)
 rw [hzf]
 refine deedE [(101,w.heap.size+1+1+1),(116,w1.heap.size+1+1),(110,w2.heap.size+1+1),(119,w3.heap.size+1+1)] [cmpsB hb,cmpsI hb,cmpsT hb,tyR] rfl (by simp) w4.heap.size (w4.heap.size+1) (by omega) (by omega) (by omega) z5 (by rw [hzf];omega) ((ce _ _ (by omega)).trans HCB.out) ?_ ?_
 ·intro i hi
  match i,hi with
  | 0,_=>exact ⟨(ce _ _ (by omega)).trans (HE8.out 0 _ rfl),(ce _ _ (by omega)).trans (HE8.out 1 _ rfl)⟩
  | 1,_=>exact ⟨(ce _ _ (by omega)).trans (HE8.out 2 _ rfl),(ce _ _ (by omega)).trans (HE8.out 3 _ rfl)⟩
  | 2,_=>exact ⟨(ce _ _ (by omega)).trans (HE8.out 4 _ rfl),(ce _ _ (by omega)).trans (HE8.out 5 _ rfl)⟩
  | 3,_=>exact ⟨(ce _ _ (by omega)).trans (HE8.out 6 _ rfl),(ce _ _ (by omega)).trans (HE8.out 7 _ rfl)⟩
 ·have hdB:=dB.out
  simp only [World.size_alloc] at hdB
  intro i hi hi'
  match i,hi,hi' with
  | 0,_,_=>exact (hdB.same ((S1.set ⟨w.heap.size,0,none⟩ (Nat.lt_succ_self _) _).set ⟨w.heap.size,1,none⟩ (Nat.lt_succ_self _) _)).wide (by omega) (by omega) (by rw [hzf];omega)
  | 1,_,_=>exact (dI.out.same ((S2.set ⟨w.heap.size,0,none⟩ hsz0 _).set ⟨w.heap.size,1,none⟩ hsz0 _)).wide (by omega) (by omega) (by rw [hzf];omega)
  | 2,_,_=>exact (dT.out.same ((S3.set ⟨w.heap.size,0,none⟩ (by show w.heap.size < _;omega) _).set ⟨w.heap.size,1,none⟩ (by show w.heap.size < _;omega) _)).wide (by omega) (by omega) (by rw [hzf];omega)
  | 3,_,_=>exact (dL.out.same ((S4.set ⟨w.heap.size,0,none⟩ (by show w.heap.size < _;omega) _).set ⟨w.heap.size,1,none⟩ (by show w.heap.size < _;omega) _)).wide (by omega) (by omega) (by rw [hzf];omega)
end Go.Proofs.YthbojbbmpcmoaaaGreatDoor.Vl
namespace Go.Proofs.YthbojbbmpcmoaaaGreatDoor.Vl
open Go.RowKit T.atoms T.ok T.high T.good T.allPlain DatAt T.ord
set_option maxHeartbeats 400000 in
theorem newText_any (s:ByteArray) (w:World):Calls Tryz.prog 118 #[.string s] w fun e w'=>e = .returned (.tuple #[.iface 100 (.string s),.bool (decide ((s.size:Int)≤1000))])∧w'=w:=by
 go_enter Tryz.func118,Tryz.ntmps118
 go_wp2
 go_ret2
 exact ⟨rfl,rfl⟩
theorem datText {w:World} {x:Nat} (t:T) (hk:t.kind=4):DatAt w x t (.iface 100 (.string t.text)):=by
 cases t with
 | mk k n s ks=>exact (by unfold DatAt;exact .inr (.inr (.inr (.inl ⟨hk,rfl⟩))))
theorem bool_of {w:World} {x:Nat} {t:T} {b:Bool} (h:DatAt w x t (.iface 92 (.bool b))):b=(t.num == 1):=by
 cases t with
 | mk k n s ks =>
  rw [DatAt] at h
  rcases h with ⟨_,e⟩ | ⟨_,e⟩ | ⟨_,e⟩ | ⟨_,e⟩ | ⟨_,p,c,vs,e,_⟩ | ⟨_,p,c,m,vs,_,e,_⟩ <;> first | (cases e;rfl) | cases e
theorem int_of {w:World} {x:Nat} {t:T} {n:Int} (h:DatAt w x t (.iface 115 (.int .i64 n))):n=t.num:=by
 cases t with
 | mk k n s ks =>
  rw [DatAt] at h
  rcases h with ⟨_,e⟩ | ⟨_,e⟩ | ⟨_,e⟩ | ⟨_,e⟩ | ⟨_,p,c,vs,e,_⟩ | ⟨_,p,c,m,vs,_,e,_⟩ <;> first | (cases e;rfl) | cases e
theorem text_of {w:World} {x:Nat} {t:T} {s:ByteArray} (h:DatAt w x t (.iface 100 (.string s))):s=t.text:=by
 cases t with
 | mk k n s ks =>
  rw [DatAt] at h
  rcases h with ⟨_,e⟩ | ⟨_,e⟩ | ⟨_,e⟩ | ⟨_,e⟩ | ⟨_,p,c,vs,e,_⟩ | ⟨_,p,c,m,vs,_,e,_⟩ <;> first | (cases e;rfl) | cases e
set_option maxHeartbeats 400000 in
theorem or_do (a b:Bool) (w:World):Calls Tryz.prog 40 #[.bool a,.bool b] w (TupPost fun dv s w'=>dv = .iface 92 (.bool (a || b))∧s=⟨#[]⟩∧Below w.heap.size w w'):=by
 cases a
 all_goals
  go_enter Tryz.func40,Tryz.ntmps40
  go_wp2
  go_ret2
  exact ⟨_,_,rfl,rfl,rfl,Below.refl _ _⟩
set_option maxHeartbeats 400000 in
theorem and_do (a b:Bool) (w:World):Calls Tryz.prog 41 #[.bool a,.bool b] w (TupPost fun dv s w'=>dv = .iface 92 (.bool (a && b))∧s=⟨#[]⟩∧Below w.heap.size w w'):=by
 cases a
 all_goals
  go_enter Tryz.func41,Tryz.ntmps41
  go_wp2
  go_ret2
  exact ⟨_,_,rfl,rfl,rfl,Below.refl _ _⟩
def orR (t u:T):Out:= .inr (boolT ((t.num == 1) || (u.num == 1)))
def andR (t u:T):Out:= .inr (boolT ((t.num == 1) && (u.num == 1)))
theorem leaf_or:LeafBB 40 orR:=fun W t u x y a b _ _ _ _ _ _ _ h4 h5=>by
 have e1:=bool_of h4
 have e2:=bool_of h5
 subst e1 e2
 exact (or_do _ _ W).mono tup_bool
theorem leaf_and:LeafBB 41 andR:=fun W t u x y a b _ _ _ _ _ _ _ h4 h5=>by
 have e1:=bool_of h4
 have e2:=bool_of h5
 subst e1 e2
 exact (and_do _ _ W).mono tup_bool
set_option maxHeartbeats 400000 in
theorem holds3:Holds 43 (fun n=>decide (n=0)):=fun n w=>by
 by_cases h:n=0
 all_goals
  have hh:=h
  go_enter Tryz.func43,Tryz.ntmps43
  go_wp2
  go_ret
  exact ⟨ret_bool (by simp [h]),rfl⟩
set_option maxHeartbeats 400000 in
theorem holds4:Holds 44 (fun n=>decide (n≠0)):=fun n w=>by
 by_cases h:n=0
 all_goals
  have hh:=h
  go_enter Tryz.func44,Tryz.ntmps44
  go_wp2
  go_ret
  exact ⟨ret_bool (by simp [h]),rfl⟩
set_option maxHeartbeats 400000 in
theorem holds5:Holds 46 (fun n=>decide (n < 0)):=fun n w=>by
 by_cases h:n < 0
 all_goals
  have hh:=h
  go_enter Tryz.func46,Tryz.ntmps46
  go_wp2
  go_ret
  exact ⟨ret_bool (by simp [h]),rfl⟩
set_option maxHeartbeats 400000 in
theorem holds6:Holds 47 (fun n=>decide (n≤0)):=fun n w=>by
 by_cases h:n≤0
 all_goals
  have hh:=h
  go_enter Tryz.func47,Tryz.ntmps47
  go_wp2
  go_ret
  exact ⟨ret_bool (by simp [h]),rfl⟩
set_option maxHeartbeats 400000 in
theorem holds7:Holds 48 (fun n=>decide (0 < n)):=fun n w=>by
 by_cases h:0 < n
 all_goals
  have hh:=h
  go_enter Tryz.func48,Tryz.ntmps48
  go_wp2
  go_ret
  exact ⟨ret_bool (by simp [h]),rfl⟩
set_option maxHeartbeats 400000 in
theorem holds8:Holds 49 (fun n=>decide (0≤n)):=fun n w=>by
 by_cases h:0≤n
 all_goals
  have hh:=h
  go_enter Tryz.func49,Tryz.ntmps49
  go_wp2
  go_ret
  exact ⟨ret_bool (by simp [h]),rfl⟩
def intT (z:Int):T:= .mk 3 z ⟨#[]⟩ []
theorem intT_good (z:Int):(intT z).good=true:=by
 rw [T.good_eq];simp [intT,plain,T.kind,T.num,T.text,T.ks,highL,goodL];rfl
theorem intT_count (z:Int):(intT z).count=1:=by simp [intT,T.count,T.atoms,atomsL]
theorem intT_dat (w:World) (x:Nat) (z:Int):DatAt w x (intT z) (.iface 115 (.int .i64 z)):=by
 unfold intT DatAt
 exact .inr (.inr (.inl ⟨rfl,rfl⟩))
def numOut (r:Option Int) (l:List UInt8):Out:=match r with
 | some z => .inr (intT z)
 | none => .inl l
theorem tup_num {W:World} {r:Option Int} {l:List UInt8} (e:Ending) (w':World) (h:e = .returned (numV r l)∧w'=W):TupPost (DoK W (numOut r l)) e w':=by
 obtain ⟨rfl,rfl⟩:=h
 cases r with
 | some z=>exact ⟨_,_,rfl,Below.refl _ _,rfl,intT_good z,by rw [intT_count];omega,0,intT_dat _ _ _⟩
 | none=>exact ⟨_,_,rfl,Below.refl _ _,rfl,rfl⟩
def addR (t u:T):Out:=numOut (fit64 (t.num+u.num)) [114,97,110,103,101]
def subR (t u:T):Out:=numOut (fit64 (t.num - u.num)) [114,97,110,103,101]
def mulR (t u:T):Out:=numOut (fit64 (t.num * u.num)) [114,97,110,103,101]
def quoR (t u:T):Out:=if u.num=0 then .inl [100,105,118,105,100,101] else if t.num = -9223372036854775808∧u.num = -1 then .inl [114,97,110,103,101] else .inr (intT (quoV t.num u.num))
def remR (t u:T):Out:=if u.num=0 then .inl [100,105,118,105,100,101] else .inr (intT (remV t.num u.num))
theorem leaf_add:LeafII 58 addR:=fun W t u x y a b _ _ _ _ _ hi hi' h4 h5=>by
 have e1:=int_of h4
 have e2:=int_of h5
 subst e1 e2
 exact (addNumbers_any _ _ W hi hi').mono tup_num
theorem leaf_sub:LeafII 64 subR:=fun W t u x y a b _ _ _ _ _ hi hi' h4 h5=>by
 have e1:=int_of h4
 have e2:=int_of h5
 subst e1 e2
 exact (subtract_any _ _ W hi hi').mono tup_num
theorem leaf_mul:LeafII 65 mulR:=fun W t u x y a b _ _ _ _ _ hi hi' h4 h5=>by
 have e1:=int_of h4
 have e2:=int_of h5
 subst e1 e2
 exact (multiply_any _ _ W hi hi').mono tup_num
theorem leaf_quo:LeafII 66 quoR:=fun W t u x y a b _ _ _ _ _ hi hi' h4 h5=>by
 have e1:=int_of h4
 have e2:=int_of h5
 subst e1 e2
 refine (quotient_any _ _ W hi hi').mono ?_
 intro e w' h
 unfold quoR
 by_cases h0:u.num=0
 ·rw [if_pos h0] at h ⊢;exact tup_num (r:=none) e w' h
 ·rw [if_neg h0] at h ⊢
  by_cases h1:t.num = -9223372036854775808∧u.num = -1
  ·rw [if_pos h1] at h ⊢;exact tup_num (r:=none) e w' h
  ·rw [if_neg h1] at h ⊢;exact tup_num (r:=some _) (l:=[]) e w' h
theorem leaf_rem:LeafII 67 remR:=fun W t u x y a b _ _ _ _ _ _ hi' h4 h5=>by
 have e1:=int_of h4
 have e2:=int_of h5
 subst e1 e2
 refine (remainder_any _ _ W hi').mono ?_
 intro e w' h
 unfold remR
 by_cases h0:u.num=0
 ·rw [if_pos h0] at h ⊢;exact tup_num (r:=none) e w' h
 ·rw [if_neg h0] at h ⊢;exact tup_num (r:=some _) (l:=[]) e w' h
set_option maxHeartbeats 400000 in
theorem unless_yes (y:TypeId) (v:Value) (w:World):Calls Tryz.prog 117 #[.iface y v,.bool true] w fun e w'=>e = .returned (.tuple #[.iface y v,.string ⟨#[]⟩])∧w'=w:=by
 go_enter Tryz.func117,Tryz.ntmps117
 go_wp2
 go_ret2
 exact ⟨rfl,rfl⟩
set_option maxHeartbeats 400000 in
theorem unless_no (v:Value) (w:World):Calls Tryz.prog 117 #[v,.bool false] w fun e w'=>e = .returned (.tuple #[.nilIface,.string ⟨#[108,97,114,103,101]⟩])∧w'=w:=by
 go_enter Tryz.func117,Tryz.ntmps117
 go_wp2
 go_ret2
 exact ⟨rfl,rfl⟩
def lgW:List UInt8:=[108,97,114,103,101]
def catT (t u:T):T:= .mk 4 0 (t.text++u.text) []
def catR (t u:T):Out:=if (t.text++u.text).size≤1000 then .inr (catT t u) else .inl lgW
theorem textT_good {s:ByteArray} (h:s.size≤1000):(T.mk 4 0 s []).good=true:=by
 rw [T.good_eq]
 simp [plain,T.kind,T.num,T.text,T.ks,highL,goodL,h]
theorem catT_good {t u:T} (h:(t.text++u.text).size≤1000):(catT t u).good=true:=textT_good h
theorem catT_count (t u:T):(catT t u).count=1:=by simp [catT,T.count,T.atoms,atomsL]
theorem text_size {t:T} (hk:t.kind=4) (hg:t.good=true):t.text.size≤1000:=by
 cases t with
 | mk k n s ks =>
  obtain rfl:k=4:=hk
  rw [T.good_eq] at hg
  simp only [Bool.and_eq_true] at hg
  have h:=hg.1.1
  unfold plain at h
  simp only [Bool.and_eq_true,T.kind,T.num,T.text,T.ks] at h
  have h:=h.2
  simp at h
  exact of_decide_eq_true h
set_option maxRecDepth 100000 in
set_option maxHeartbeats 1000000 in
theorem leaf_cat:LeafTT 59 catR:=fun W t u x y a b _ hg hg' _ _ _ _ h4 h5=>by
 have e1:=text_of h4
 have e2:=text_of h5
 subst e1 e2
 have k1:t.kind=4:=by
  apply Classical.byContradiction
  intro h
  obtain ⟨y1,u1,e,hy⟩:=(formT h4).2 h
  cases e;exact hy rfl
 have k2:u.kind=4:=by
  apply Classical.byContradiction
  intro h
  obtain ⟨y1,u1,e,hy⟩:=(formT h5).2 h
  cases e;exact hy rfl
 have s1:=text_size k1 hg
 have s2:=text_size k2 hg'
 have hsum:(t.text++u.text).size=t.text.size+u.text.size:=ByteArray.size_append
 have hlen:¬ 9223372036854775807 < t.text.size+u.text.size:=by omega
 have HN:=hide (fun w=>newText_any (t.text++u.text) w)
 unfold catR
 by_cases h:(t.text++u.text).size≤1000
 ·rw [if_pos h]
  rw [decide_eq_true (show (((t.text++u.text).size:Nat):Int)≤1000 by omega)] at HN
  have HG:=hide (catT_good h)
  have HD:=hide (show ∀ w,DatAt w 0 (catT t u) (.iface 100 (.string (t.text++u.text))) from fun w=>datText (catT t u) rfl)
  have HC:=hide (catT_count t u)
  generalize catT t u=ct at *
  clear h hsum s1 s2 k1 k2 h4 h5 hg hg'
  generalize t.text=ta at *
  generalize u.text=tb at *
  go_enter Tryz.func59,Tryz.ntmps59
  go_wp2_with fail
  refine (HN.out _).mono ?_
  rintro e w1 ⟨rfl,rfl⟩
  go_wp2_with fail
  refine (unless_yes _ _ _).mono ?_
  rintro e w2 ⟨rfl,rfl⟩
  go_wp2
  go_ret2
  exact ⟨_,_,rfl,Below.refl _ _,rfl,HG.out,by rw [HC.out];omega,0,HD.out _⟩
 ·rw [if_neg h]
  rw [decide_eq_false (show ¬ (((t.text++u.text).size:Nat):Int)≤1000 by omega)] at HN
  clear h hsum s1 s2 k1 k2 h4 h5 hg hg'
  generalize t.text=ta at *
  generalize u.text=tb at *
  go_enter Tryz.func59,Tryz.ntmps59
  go_wp2_with fail
  refine (HN.out _).mono ?_
  rintro e w1 ⟨rfl,rfl⟩
  go_wp2_with fail
  refine (unless_no _ _).mono ?_
  rintro e w2 ⟨rfl,rfl⟩
  go_wp2
  go_ret2
  exact ⟨_,_,rfl,Below.refl _ _,rfl,rfl⟩
def containsR (t u:T):Out:= .inr (boolT (Lib.contains t.text.data.toList u.text.data.toList))
theorem text_kind {w:World} {x:Nat} {t:T} {s:ByteArray} (h:DatAt w x t (.iface 100 (.string s))):t.kind=4:=by
 apply Classical.byContradiction
 intro hk
 obtain ⟨y1,u1,e,hy⟩:=(formT h).2 hk
 cases e;exact hy rfl
theorem contains_any (s sub:ByteArray) (w:World) (hs:s.size < 4294967281) (hG:GI w) :
  Calls Tryz.prog 111 #[.string s,.string sub] w fun e w'=>e = .returned (.bool (Lib.contains s.data.toList sub.data.toList))∧w'=w:=by
 obtain ⟨m,hm⟩:=hG
 exact Any.strings_Contains Tryz.lays144 s sub m w hs hm
set_option maxRecDepth 100000 in
set_option maxHeartbeats 1000000 in
theorem leaf_contains:LeafTT 52 containsR:=fun W t u x y a b hG hg _ _ _ _ _ h4 h5=>by
 have k1:=text_kind h4
 have e1:=text_of h4
 have e2:=text_of h5
 subst e1 e2
 have s1:=text_size k1 hg
 have HC:=hide (contains_any t.text u.text W (by omega) hG)
 unfold containsR
 generalize Lib.contains t.text.data.toList u.text.data.toList=cb at *
 clear k1 h4 h5 hg
 refine Calls.mono ?_ tup_bool
 go_enter Tryz.func52,Tryz.ntmps52
 go_wp2_with fail
 refine HC.out.mono ?_
 rintro e w1 ⟨rfl,rfl⟩
 go_wp2
 go_ret2
 exact ⟨_,_,rfl,rfl,rfl,Below.refl _ _⟩
end Go.Proofs.YthbojbbmpcmoaaaGreatDoor.Vl
namespace Go.Proofs.YthbojbbmpcmoaaaGreatDoor
open Go.RowKit
theorem below_box {w w1:World} {o:Obj} (h:Below (w.alloc o).heap.size (w.alloc o) w1):Below w.heap.size w w1:=(bA _).trans (h.mono (by simp))
theorem Tr.fits_12 (l:List Tr.Gr):Tr.fits 12 l=(Tr.between 1 16 (l.take (Tr.plainN l)) && Tr.between 18 18 (l.drop (Tr.plainN l)) && Tr.differ (l.drop (Tr.plainN l))):=rfl
theorem Tr.fits_fn (k:Int) (l:List Tr.Gr) (h:k=15∨k=20):Tr.fits k l=(Tr.between 19 19 (l.take (l.length - 1)) && Tr.between 1 16 (l.drop (l.length - 1))):=by
 rcases h with rfl | rfl <;> rfl
theorem Tr.fits_o (k:Int) (l:List Tr.Gr) (h9:k≠9) (h12:k≠12) (h15:k≠15) (h20:k≠20) (h23:k≠23) (h24:k≠24):Tr.fits k l=Tr.between 1 16 l:=by
 unfold Tr.fits
 rw [if_neg h9,if_neg h12,if_neg (by omega),if_neg h23,if_neg h24]
set_option maxRecDepth 100000 in
set_option maxHeartbeats 1000000 in
theorem kidsFit_12 (op n m:Int) (s:ByteArray) (l:List Tr.Gr) (g o c:Nat) (w:World) (hl:l.length≤1048576) (h1:1≤l.length) (hcap:l.length≤c) (hh:∀ x∈l,x.nd.text.size≤1048576) (ht:GrAt w g o l) :
  Calls Tryz.prog 96 #[.agg #[.int .i64 12,.int .i64 op,.int .i64 n,.string s,.int .i64 m],.slice (some ⟨g,o,none⟩) l.length c] w fun e w'=>e = .returned (.bool (Tr.fits 12 l))∧Below w.heap.size w w':=by
 have HT:=hide (ht.below (bA (.cells #[.int .i64 12,.int .i64 op,.int .i64 n,.string s,.int .i64 m] 64)))
 have HH:=hide hh
 clear hh ht
 go_enter Tryz.func96,Tryz.ntmps96
 go_wp2
 go_loop [5] (fun t=>∃ p:Nat,1≤p∧p≤l.length∧t = .int .i64 p∧Tr.plainN l=p+((l.drop p).takeWhile fun g=>g.nd.kind != 18).length) (fun t=>l.length - (intOf t).toNat)
 case atStart=>exact ⟨1,Nat.le_refl _,h1,rfl,rfl⟩
 case round =>
  obtain ⟨p,hp1,hp,rfl,he⟩:=hrel
  have HE:=hide he
  clear he
  have HTV:=hide (HT.out.takeV hp hcap)
  have HDV:=hide (HT.out.dropQ (n:=l.length - p) hp hcap rfl)
  have hlT:(l.take p).length≤1048576:=by rw [List.length_take];omega
  have hlD:(l.drop p).length≤1048576:=by rw [List.length_drop];omega
  have HHD:Hid (∀ x∈l.drop p,x.nd.text.size≤1048576):=hide fun x hx=>HH.out x (List.mem_of_mem_drop hx)
  have hpl:((l.length - p:Nat):Int)=(l.length:Int) - p:=by omega
  by_cases hlt:p < l.length
  ·obtain ⟨c0,c1,c2,c3,c4,c5⟩:=HT.out.2 p hlt
   have HD:=hide (List.drop_eq_getElem_cons hlt)
   cases hk:(l[p].nd.kind != 18)
   ·have HP:=hide (show Tr.plainN l=p by rw [HE.out,HD.out,List.takeWhile_cons,hk];simp)
    generalize l[p].nd.kind=kp at *
    clear HE HD
    cases hA:Tr.between 1 16 (l.take p)
    ·go_wp2_with fail
     refine (kinds_any (l.take p) _ 1 16 _ hlT HTV.out).mono ?_
     rintro e w1 ⟨rfl,hb1⟩
     go_wp2
     go_ret
     exact ⟨ret_bool (by rw [Tr.fits_12,HP.out,hA];rfl),below_box hb1⟩
    ·cases hB:Tr.between 18 18 (l.drop p)
     ·go_wp2_with fail
      refine (kinds_any (l.take p) _ 1 16 _ hlT HTV.out).mono ?_
      rintro e w1 ⟨rfl,hb1⟩
      go_wp2_with fail
      refine (kinds_any (l.drop p) _ 18 18 _ hlD ((HDV.out _ (.inl rfl)).below hb1)).mono ?_
      rintro e w2 ⟨rfl,hb2⟩
      go_wp2
      go_ret
      exact ⟨ret_bool (by rw [Tr.fits_12,HP.out,hA,hB];rfl),(below_box hb1).trans (hb2.mono (below_box hb1).size)⟩
     ·go_wp2_with fail
      refine (kinds_any (l.take p) _ 1 16 _ hlT HTV.out).mono ?_
      rintro e w1 ⟨rfl,hb1⟩
      go_wp2_with fail
      refine (kinds_any (l.drop p) _ 18 18 _ hlD ((HDV.out _ (.inl rfl)).below hb1)).mono ?_
      rintro e w2 ⟨rfl,hb2⟩
      go_wp2_with fail
      refine (texts_any (l.drop p) _ _ hlD HHD.out (((HDV.out _ (.inl rfl)).below hb1).below hb2)).mono ?_
      rintro e w3 ⟨rfl,hb3⟩
      go_wp2
      go_ret
      have q2:=(below_box hb1).trans (hb2.mono (below_box hb1).size)
      exact ⟨ret_bool (by rw [Tr.fits_12,HP.out,hA,hB];rfl),q2.trans (hb3.mono q2.size)⟩
   ·have HP:=hide (show Tr.plainN l=(p+1)+((l.drop (p+1)).takeWhile fun g=>g.nd.kind != 18).length by rw [HE.out,HD.out,List.takeWhile_cons,hk];simp;omega)
    generalize l[p].nd.kind=kp at *
    clear HE HD HTV HDV
    go_wp2
    go_round
    case rel=>exact ⟨p+1,by omega,by omega,by go_num,HP.out⟩
    case measure=>simp [intOf];omega
  ·have HP:=hide (show Tr.plainN l=p by rw [HE.out,List.drop_of_length_le (by omega)];rfl)
   clear HE HDV HHD
   obtain rfl:p=l.length:=by omega
   have HF:Hid (Tr.fits 12 l=Tr.between 1 16 l):=hide (by
    rw [Tr.fits_12,HP.out,List.take_length,List.drop_length]
    rw [show Tr.between 18 18 []=true from rfl,show Tr.differ []=true from rfl];simp)
   have HLV:Hid (GrV (w.alloc (.cells #[.int .i64 12,.int .i64 op,.int .i64 n,.string s,.int .i64 m] 64)) (.slice (some ⟨g,o,none⟩) l.length c) l):=hide (by have:=HTV.out;rwa [List.take_length] at this)
   clear HTV HP hpl hlT hlD
   by_cases hcp:c=l.length
   ·subst hcp
    cases hA:Tr.between 1 16 l
    ·go_wp2_with fail
     refine (kinds_any l _ 1 16 _ hl HLV.out).mono ?_
     rintro e w1 ⟨rfl,hb1⟩
     go_wp2
     go_ret
     exact ⟨ret_bool (by rw [HF.out,hA]),below_box hb1⟩
    ·go_wp2_with fail
     refine (kinds_any l _ 1 16 _ hl HLV.out).mono ?_
     rintro e w1 ⟨rfl,hb1⟩
     go_wp2_with fail
     refine (kinds_nil _ _ 18 18 _).mono ?_
     rintro e w2 ⟨rfl,hb2⟩
     go_wp2_with fail
     refine (texts_nil _ _ _).mono ?_
     rintro e w3 ⟨rfl,hb3⟩
     go_wp2
     go_ret
     have q2:=(below_box hb1).trans (hb2.mono (below_box hb1).size)
     exact ⟨ret_bool (by rw [HF.out,hA]),q2.trans (hb3.mono q2.size)⟩
   ·cases hA:Tr.between 1 16 l
    ·go_wp2_with fail
     refine (kinds_any l _ 1 16 _ hl HLV.out).mono ?_
     rintro e w1 ⟨rfl,hb1⟩
     go_wp2
     go_ret
     exact ⟨ret_bool (by rw [HF.out,hA]),below_box hb1⟩
    ·go_wp2_with fail
     refine (kinds_any l _ 1 16 _ hl HLV.out).mono ?_
     rintro e w1 ⟨rfl,hb1⟩
     go_wp2_with fail
     refine (kinds_nil _ _ 18 18 _).mono ?_
     rintro e w2 ⟨rfl,hb2⟩
     go_wp2_with fail
     refine (texts_nil _ _ _).mono ?_
     rintro e w3 ⟨rfl,hb3⟩
     go_wp2
     go_ret
     have q2:=(below_box hb1).trans (hb2.mono (below_box hb1).size)
     exact ⟨ret_bool (by rw [HF.out,hA]),q2.trans (hb3.mono q2.size)⟩
set_option maxRecDepth 100000 in
set_option maxHeartbeats 1000000 in
theorem kidsFit_fn (k op n m:Int) (s:ByteArray) (l:List Tr.Gr) (g o c:Nat) (w:World) (hk:k=15∨k=20) (hl:l.length≤1048576) (h1:1≤l.length) (hcap:l.length≤c) (ht:GrAt w g o l) :
  Calls Tryz.prog 96 #[.agg #[.int .i64 k,.int .i64 op,.int .i64 n,.string s,.int .i64 m],.slice (some ⟨g,o,none⟩) l.length c] w fun e w'=>e = .returned (.bool (Tr.fits k l))∧Below w.heap.size w w':=by
 have HF:=hide (Tr.fits_fn k l hk)
 have HT:=hide (ht.below (bA (.cells #[.int .i64 k,.int .i64 op,.int .i64 n,.string s,.int .i64 m] 64)))
 obtain ⟨p,hp⟩:∃ p,l.length=p+1:=⟨l.length - 1,by omega⟩
 have HTV:=hide (HT.out.takeV (c:=c) (p:=p) (by omega) hcap)
 have HDV:=hide (HT.out.dropQ (c:=c) (n:=1) (p:=p) (by omega) hcap (by omega))
 have hlT:(l.take p).length≤1048576:=by rw [List.length_take];omega
 have hlD:(l.drop p).length≤1048576:=by rw [List.length_drop];omega
 rw [hp,Nat.add_sub_cancel] at HF
 clear ht HT
 rcases hk with rfl | rfl
 all_goals
  cases hA:Tr.between 19 19 (l.take p)
  ·go_enter Tryz.func96,Tryz.ntmps96
   go_wp2_with fail
   refine (kinds_any (l.take p) _ 19 19 _ hlT HTV.out).mono ?_
   rintro e w1 ⟨rfl,hb1⟩
   go_wp2
   go_ret
   exact ⟨ret_bool (by rw [HF.out,hA];rfl),below_box hb1⟩
  ·go_enter Tryz.func96,Tryz.ntmps96
   go_wp2_with fail
   refine (kinds_any (l.take p) _ 19 19 _ hlT HTV.out).mono ?_
   rintro e w1 ⟨rfl,hb1⟩
   go_wp2_with fail
   refine (kinds_any (l.drop p) _ 1 16 _ hlD ((HDV.out _ (.inl rfl)).below hb1)).mono ?_
   rintro e w2 ⟨rfl,hb2⟩
   go_wp2
   go_ret
   exact ⟨ret_bool (by rw [HF.out,hA];rfl),(below_box hb1).trans (hb2.mono (below_box hb1).size)⟩
set_option maxRecDepth 100000 in
set_option maxHeartbeats 1000000 in
theorem kidsFit_9 (op n m:Int) (s:ByteArray) (l:List Tr.Gr) (v:Value) (w:World) (hl:l.length≤1048576) (hh:∀ x∈l,x.nd.text.size≤1048576) (ht:GrV w v l) :
  Calls Tryz.prog 96 #[.agg #[.int .i64 9,.int .i64 op,.int .i64 n,.string s,.int .i64 m],v] w fun e w'=>e = .returned (.bool (Tr.fits 9 l))∧Below w.heap.size w w':=by
 have HT:=hide (ht.below (bA (.cells #[.int .i64 9,.int .i64 op,.int .i64 n,.string s,.int .i64 m] 64)))
 have HH:=hide hh
 clear hh ht
 cases hA:Tr.between 17 17 l
 ·go_enter Tryz.func96,Tryz.ntmps96
  go_wp2_with fail
  refine (kinds_any l _ 17 17 _ hl HT.out).mono ?_
  rintro e w1 ⟨rfl,hb1⟩
  go_wp2
  go_ret
  exact ⟨ret_bool (by rw [show Tr.fits 9 l=(Tr.between 17 17 l && Tr.differ l) from rfl,hA];rfl),below_box hb1⟩
 ·go_enter Tryz.func96,Tryz.ntmps96
  go_wp2_with fail
  refine (kinds_any l _ 17 17 _ hl HT.out).mono ?_
  rintro e w1 ⟨rfl,hb1⟩
  go_wp2_with fail
  refine (texts_any l _ _ hl HH.out (HT.out.below hb1)).mono ?_
  rintro e w2 ⟨rfl,hb2⟩
  go_wp2
  go_ret
  exact ⟨ret_bool (by rw [show Tr.fits 9 l=(Tr.between 17 17 l && Tr.differ l) from rfl,hA];rfl),(below_box hb1).trans (hb2.mono (below_box hb1).size)⟩
set_option maxRecDepth 100000 in
set_option maxHeartbeats 1000000 in
theorem kidsFit_o (k op n m:Int) (s:ByteArray) (l:List Tr.Gr) (v:Value) (w:World) (hl:l.length≤1048576) (ht:GrV w v l) (h9:k≠9) (h12:k≠12) (h15:k≠15) (h20:k≠20) :
  Calls Tryz.prog 96 #[.agg #[.int .i64 k,.int .i64 op,.int .i64 n,.string s,.int .i64 m],v] w fun e w'=>e = .returned (.bool (Tr.fits k l))∧Below w.heap.size w w':=by
 have HT:=hide (ht.below (bA (.cells #[.int .i64 k,.int .i64 op,.int .i64 n,.string s,.int .i64 m] 64)))
 clear ht
 by_cases h23:k=23
 ·subst h23
  go_enter Tryz.func96,Tryz.ntmps96
  go_wp2_with fail
  refine (kinds_any l _ 5 5 _ hl HT.out).mono ?_
  rintro e w1 ⟨rfl,hb1⟩
  go_wp2
  go_ret
  exact ⟨rfl,below_box hb1⟩
 ·by_cases h24:k=24
  ·subst h24
   go_enter Tryz.func96,Tryz.ntmps96
   go_wp2_with fail
   refine (kinds_any l _ 20 23 _ hl HT.out).mono ?_
   rintro e w1 ⟨rfl,hb1⟩
   go_wp2
   go_ret
   exact ⟨rfl,below_box hb1⟩
  ·have HF:=hide (Tr.fits_o k l h9 h12 h15 h20 h23 h24)
   have q9:(k == 9)=false:=by simp;omega
   have q12:(k == 12)=false:=by simp;omega
   have q15:(k == 15)=false:=by simp;omega
   have q20:(k == 20)=false:=by simp;omega
   have q23:(k == 23)=false:=by simp;omega
   have q24:(k == 24)=false:=by simp;omega
   go_enter Tryz.func96,Tryz.ntmps96
   go_wp2_with fail
   refine (kinds_any l _ 1 16 _ hl HT.out).mono ?_
   rintro e w1 ⟨rfl,hb1⟩
   go_wp2
   go_ret
   exact ⟨ret_bool HF.out.symm,below_box hb1⟩
theorem kidsFit_any (k op n m:Int) (s:ByteArray) (l:List Tr.Gr) (v:Value) (w:World) (hl:l.length≤1048576) (h1:k=12∨k=15∨k=20→1≤l.length) (hh:∀ x∈l,x.nd.text.size≤1048576) (ht:GrV w v l) :
  Calls Tryz.prog 96 #[.agg #[.int .i64 k,.int .i64 op,.int .i64 n,.string s,.int .i64 m],v] w fun e w'=>e = .returned (.bool (Tr.fits k l))∧Below w.heap.size w w':=by
 by_cases h9:k=9
 ·subst h9;exact kidsFit_9 op n m s l v w hl hh ht
 by_cases hx:k=12∨k=15∨k=20
 ·have hpos:=h1 hx
  rcases ht with ⟨p,c,_,rfl⟩ | ⟨g,o,c,rfl,hc,hg⟩
  ·simp at hpos
  ·by_cases h12:k=12
   ·subst h12;exact kidsFit_12 op n m s l g o c w hl hpos hc hh hg
   ·exact kidsFit_fn k op n m s l g o c w (by omega) hl hpos hc hg
 ·exact kidsFit_o k op n m s l v w hl ht h9 (by omega) (by omega) (by omega)
end Go.Proofs.YthbojbbmpcmoaaaGreatDoor
