/- Hl, Hq, Hr, Tkn, Jr, Jq, Sc1. -/
import Derived.Test.YtbckhbeebngjfaaGreatDoorT08
import Derived.Test.YtbckhbeebngjfaaGreatDoorT16
import Derived.Test.YtbckhbeebngjfaaGreatDoorT09
import Derived.Test.YtbckhbeebngjfaaGreatDoorT11
import Derived.Test.YtbckhbeebngjfaaGreatDoorT12
import Derived.Test.YtbckhbeebngjfaaGreatDoorT13
import Derived.Test.YtbckhbeebngjfaaGreatDoorT03
import Derived.Maps.OwnSet
import Derived.Lib.IndexAny
import Derived.Lib.IndexLaws
import Derived.Shelf.Small.Strs
import Derived.Shelf.LaysM
import Derived.Shelf.Strconv.Clone
import Derived.Shelf.LaysC
import Derived.Shelf.Strconv.ParseIntPublic10
import Derived.Lib.AtoiErrMem
namespace Go.Proofs.YtbckhbeebngjfaaGreatDoor
open Go.RowKit
theorem DK.tokNext {b tg tc:Nat} {ts:List Sc.T} {sz:Nat} {v:Value} {s:Pr.Dk} {w:World} (h:DK b tg tc ts sz v s w) (hp:s.p+1 < ts.length):w.cell? ⟨tg,(s.p+1)*4,none⟩=some (.int .i64 (Pr.tok ts sz (Pr.adv s)).kind)∧w.cell? ⟨tg,(s.p+1)*4+1,none⟩=some (.string ⟨(Pr.tok ts sz (Pr.adv s)).text.toArray⟩):=by
 have e:Pr.tok ts sz (Pr.adv s)=ts[s.p+1]:=by unfold Pr.tok;rw [Pr.adv_p,List.getElem?_eq_getElem hp];rfl
 rw [e];exact ⟨(h.ks _ hp).1,(h.ks _ hp).2.1⟩
def NmPost (w:World) (r:Bool) (e:Ending) (w':World):Prop:=e = .returned (.bool r)∧Below w.heap.size w w'
set_option maxRecDepth 100000 in
set_option maxHeartbeats 2000000 in
theorem named_4 {b tg tc:Nat} {ts:List Sc.T} {sz:Nat} {v:Value} {s:Pr.Dk} {w:World} (h:DK b tg tc ts sz v s w) (hk:((Pr.tok ts sz s).kind:Int)=1) (hp:s.p+1 < ts.length) (hk5:((Pr.tok ts sz (Pr.adv s)).kind:Int)=5) :
  Calls Tryz.prog 119 #[.pointer (some ⟨b,0,none⟩)] w (NmPost w ((Pr.tok ts sz (Pr.adv s)).text == [61])):=by
 haveI hne:Nonempty (KB w):=⟨⟨_,Below.refl _ _⟩⟩
 have hm:=h.most
 have hle:=h.le
 have hz01:(0:Int)≤(s.p:Int)+1:=by omega
 have hpi:(s.p:Int)+1 < ts.length:=by omega
 have HT:Hid (∀ w1,Below w.heap.size w w1→Calls Tryz.prog 80 #[.pointer (some ⟨b,0,none⟩)] w1 fun e w'=>e = .returned (.agg #[.int .i64 1,.string ⟨(Pr.tok ts sz s).text.toArray⟩,.int .i64 (Pr.tok ts sz s).n,.int .i64 (Pr.tok ts sz s).place])∧Below w1.heap.size w1 w'):=hide (fun w1 hb=>by
  have:=tok_any (h.below hb)
  unfold Pr.tokV at this
  rw [hk] at this;exact this)
 have hf0:=tokField0 1 (Pr.tok ts sz s).n (Pr.tok ts sz s).place ⟨(Pr.tok ts sz s).text.toArray⟩
 have d0:∀ q:KB w,q.w.cell? ⟨b,0,none⟩=some (.slice (some ⟨tg,0,none⟩) ts.length tc):=fun q=>(h.below q.below).c0
 have d2:∀ q:KB w,q.w.cell? ⟨b,2,none⟩=some (.int .i64 s.p):=fun q=>(h.below q.below).c2
 have x0:∀ q:KB w,q.w.cell? ⟨tg,(s.p+1)*4,none⟩=some (.int .i64 5):=fun q=>by have:=((h.below q.below).tokNext (sz:=sz) hp).1;rw [hk5] at this;exact this
 have x1:∀ q:KB w,q.w.cell? ⟨tg,(s.p+1)*4+1,none⟩=some (.string ⟨(Pr.tok ts sz (Pr.adv s)).text.toArray⟩):=fun q=>((h.below q.below).tokNext (sz:=sz) hp).2
 clear h
 go_enter Tryz.func119,Tryz.ntmps119
 go_wp2_with fail
 refine region_class (KB.w (w:=w)) (by kernel_rfl) (by kernel_rfl) ⟨⟨_,below_drewN (Below.refl _ _) _⟩,rfl⟩ ?_
 repeat (go_big_quiet_step ((go_at_call 80;exact kb_call HT.out _)))
 refine wpQuiet_nil ?_
 rintro _ ⟨q,rfl⟩
 have hBq:=q.below
 go_wp2
 go_ret
 refine ⟨?_,hBq⟩
 first | rfl | simp [Lib.toList_data]
set_option maxRecDepth 100000 in
set_option maxHeartbeats 2000000 in
theorem named_3 {b tg tc:Nat} {ts:List Sc.T} {sz:Nat} {v:Value} {s:Pr.Dk} {w:World} (h:DK b tg tc ts sz v s w) (hk:((Pr.tok ts sz s).kind:Int)=1) (hp:s.p+1 < ts.length) (hk5:¬ ((Pr.tok ts sz (Pr.adv s)).kind:Int)=5) :
  Calls Tryz.prog 119 #[.pointer (some ⟨b,0,none⟩)] w (NmPost w false):=by
 haveI hne:Nonempty (KB w):=⟨⟨_,Below.refl _ _⟩⟩
 have hm:=h.most
 have hle:=h.le
 have hk5d:decide (((Pr.tok ts sz (Pr.adv s)).kind:Int)=5)=false:=by simpa using hk5
 have hk5b:(((Pr.tok ts sz (Pr.adv s)).kind:Int) == 5)=false:=by simpa using hk5
 have hz01:(0:Int)≤(s.p:Int)+1:=by omega
 have hpi:(s.p:Int)+1 < ts.length:=by omega
 have HT:Hid (∀ w1,Below w.heap.size w w1→Calls Tryz.prog 80 #[.pointer (some ⟨b,0,none⟩)] w1 fun e w'=>e = .returned (.agg #[.int .i64 1,.string ⟨(Pr.tok ts sz s).text.toArray⟩,.int .i64 (Pr.tok ts sz s).n,.int .i64 (Pr.tok ts sz s).place])∧Below w1.heap.size w1 w'):=hide (fun w1 hb=>by
  have:=tok_any (h.below hb)
  unfold Pr.tokV at this
  rw [hk] at this;exact this)
 have hf0:=tokField0 1 (Pr.tok ts sz s).n (Pr.tok ts sz s).place ⟨(Pr.tok ts sz s).text.toArray⟩
 have d0:∀ q:KB w,q.w.cell? ⟨b,0,none⟩=some (.slice (some ⟨tg,0,none⟩) ts.length tc):=fun q=>(h.below q.below).c0
 have d2:∀ q:KB w,q.w.cell? ⟨b,2,none⟩=some (.int .i64 s.p):=fun q=>(h.below q.below).c2
 have x0:∀ q:KB w,q.w.cell? ⟨tg,(s.p+1)*4,none⟩=some (.int .i64 ((Pr.tok ts sz (Pr.adv s)).kind:Nat)):=fun q=>by have:=((h.below q.below).tokNext (sz:=sz) hp).1;exact this
 have x1:∀ q:KB w,q.w.cell? ⟨tg,(s.p+1)*4+1,none⟩=some (.string ⟨(Pr.tok ts sz (Pr.adv s)).text.toArray⟩):=fun q=>((h.below q.below).tokNext (sz:=sz) hp).2
 clear h
 go_enter Tryz.func119,Tryz.ntmps119
 go_wp2_with fail
 refine region_class (KB.w (w:=w)) (by kernel_rfl) (by kernel_rfl) ⟨⟨_,below_drewN (Below.refl _ _) _⟩,rfl⟩ ?_
 repeat (go_big_quiet_step ((go_at_call 80;exact kb_call HT.out _)))
 refine wpQuiet_nil ?_
 rintro _ ⟨q,rfl⟩
 have hBq:=q.below
 go_wp2
 go_ret
 refine ⟨?_,hBq⟩
 first | rfl | simp [Lib.toList_data]
set_option maxRecDepth 100000 in
set_option maxHeartbeats 2000000 in
theorem named_2 {b tg tc:Nat} {ts:List Sc.T} {sz:Nat} {v:Value} {s:Pr.Dk} {w:World} (h:DK b tg tc ts sz v s w) (hk:((Pr.tok ts sz s).kind:Int)=1) (hp:¬ s.p+1 < ts.length) :
  Calls Tryz.prog 119 #[.pointer (some ⟨b,0,none⟩)] w (NmPost w false):=by
 haveI hne:Nonempty (KB w):=⟨⟨_,Below.refl _ _⟩⟩
 have hm:=h.most
 have hle:=h.le
 have hpi:¬ (s.p:Int)+1 < ts.length:=by omega
 have hpd:decide ((s.p:Int)+1 < ts.length)=false:=by simpa using hpi
 have HT:Hid (∀ w1,Below w.heap.size w w1→Calls Tryz.prog 80 #[.pointer (some ⟨b,0,none⟩)] w1 fun e w'=>e = .returned (.agg #[.int .i64 1,.string ⟨(Pr.tok ts sz s).text.toArray⟩,.int .i64 (Pr.tok ts sz s).n,.int .i64 (Pr.tok ts sz s).place])∧Below w1.heap.size w1 w'):=hide (fun w1 hb=>by
  have:=tok_any (h.below hb)
  unfold Pr.tokV at this
  rw [hk] at this;exact this)
 have hf0:=tokField0 1 (Pr.tok ts sz s).n (Pr.tok ts sz s).place ⟨(Pr.tok ts sz s).text.toArray⟩
 have d0:∀ q:KB w,q.w.cell? ⟨b,0,none⟩=some (.slice (some ⟨tg,0,none⟩) ts.length tc):=fun q=>(h.below q.below).c0
 have d2:∀ q:KB w,q.w.cell? ⟨b,2,none⟩=some (.int .i64 s.p):=fun q=>(h.below q.below).c2
 clear h
 go_enter Tryz.func119,Tryz.ntmps119
 go_wp2_with fail
 refine region_class (KB.w (w:=w)) (by kernel_rfl) (by kernel_rfl) ⟨⟨_,below_drewN (Below.refl _ _) _⟩,rfl⟩ ?_
 repeat (go_big_quiet_step ((go_at_call 80;exact kb_call HT.out _)))
 refine wpQuiet_nil ?_
 rintro _ ⟨q,rfl⟩
 have hBq:=q.below
 go_wp2
 go_ret
 refine ⟨?_,hBq⟩
 first | rfl | simp [Lib.toList_data]
set_option maxRecDepth 100000 in
set_option maxHeartbeats 2000000 in
theorem named_1 {b tg tc:Nat} {ts:List Sc.T} {sz:Nat} {v:Value} {s:Pr.Dk} {w:World} (h:DK b tg tc ts sz v s w) (hk:¬ ((Pr.tok ts sz s).kind:Int)=1) :
  Calls Tryz.prog 119 #[.pointer (some ⟨b,0,none⟩)] w (NmPost w false):=by
 haveI hne:Nonempty (KB w):=⟨⟨_,Below.refl _ _⟩⟩
 have hm:=h.most
 have hle:=h.le
 have hkd:decide (((Pr.tok ts sz s).kind:Int)=1)=false:=by simpa using hk
 have hkb:(((Pr.tok ts sz s).kind:Int) == 1)=false:=by simpa using hk
 have HT:Hid (∀ w1,Below w.heap.size w w1→Calls Tryz.prog 80 #[.pointer (some ⟨b,0,none⟩)] w1 fun e w'=>e = .returned (.agg #[.int .i64 ((Pr.tok ts sz s).kind:Nat),.string ⟨(Pr.tok ts sz s).text.toArray⟩,.int .i64 (Pr.tok ts sz s).n,.int .i64 (Pr.tok ts sz s).place])∧Below w1.heap.size w1 w'):=hide (fun w1 hb=>by
  have:=tok_any (h.below hb)
  unfold Pr.tokV at this
  exact this)
 have hf0:=tokField0 ((Pr.tok ts sz s).kind:Nat) (Pr.tok ts sz s).n (Pr.tok ts sz s).place ⟨(Pr.tok ts sz s).text.toArray⟩
 clear h
 go_enter Tryz.func119,Tryz.ntmps119
 go_wp2_with fail
 refine region_class (KB.w (w:=w)) (by kernel_rfl) (by kernel_rfl) ⟨⟨_,below_drewN (Below.refl _ _) _⟩,rfl⟩ ?_
 repeat (go_big_quiet_step ((go_at_call 80;exact kb_call HT.out _)))
 refine wpQuiet_nil ?_
 rintro _ ⟨q,rfl⟩
 have hBq:=q.below
 go_wp2
 go_ret
 refine ⟨?_,hBq⟩
 first | rfl | simp [Lib.toList_data]
theorem named_any {b tg tc:Nat} {ts:List Sc.T} {sz:Nat} {v:Value} {s:Pr.Dk} {w:World} (h:DK b tg tc ts sz v s w) :
  Calls Tryz.prog 119 #[.pointer (some ⟨b,0,none⟩)] w (NmPost w (Pr.named ts sz s)):=by
 by_cases k1:(Pr.tok ts sz s).kind=1
 ·by_cases hp:s.p+1 < ts.length
  ·by_cases k5:(Pr.tok ts sz (Pr.adv s)).kind=5
   ·have e:Pr.named ts sz s=((Pr.tok ts sz (Pr.adv s)).text == [61]):=by unfold Pr.named;simp [k1,hp,k5]
    rw [e];exact named_4 h (by omega) hp (by omega)
   ·have e:Pr.named ts sz s=false:=by unfold Pr.named;simp [k5]
    rw [e];exact named_3 h (by omega) hp (by omega)
  ·have e:Pr.named ts sz s=false:=by unfold Pr.named;simp [hp]
   rw [e];exact named_2 h (by omega) hp
 ·have e:Pr.named ts sz s=false:=by unfold Pr.named;simp [k1]
  rw [e];exact named_1 h (by omega)
theorem Pr.SOi.cast {b tg tc:Nat} {ts:List Sc.T} {sz:Nat} {i j:Int} {r:Nat} {s:Pr.Dk} (h:Pr.SOi b tg tc ts sz i r s) (e:i=j):Pr.SOi b tg tc ts sz j r s:=e ▸ h
def Pr.ListSays (b tg tc:Nat) (ts:List Sc.T) (sz:Nat):Prop:=∀ s:Pr.Dk,(∀ q:Pr.Dk,s.p≤q.p→q.p≤ts.length→Pr.SE b tg tc ts sz q)→Pr.SL b tg tc ts sz s
def Pr.All (b tg tc:Nat) (ts:List Sc.T) (sz:Nat) (s:Pr.Dk):Prop:=Pr.SE b tg tc ts sz s∧∀ r:Nat,1≤r→r≤7→Pr.SOi b tg tc ts sz r r s
theorem Pr.all_at {b tg tc:Nat} {ts:List Sc.T} {sz:Nat} (hnm:Pr.Named b tg tc ts sz) (hls:Pr.ListSays b tg tc ts sz) (s:Pr.Dk) (ih:∀ q:Pr.Dk,s.p < q.p→q.p≤ts.length→Pr.All b tg tc ts sz q):Pr.All b tg tc ts sz s:=by
 have iE:∀ q:Pr.Dk,s.p < q.p→q.p≤ts.length→Pr.SE b tg tc ts sz q:=fun q h k=>(ih q h k).1
 have iP:∀ q:Pr.Dk,s.p < q.p→q.p≤ts.length→Pr.SP b tg tc ts sz q:=fun q h _=>params_says fun q' h' k'=>iE q' (Nat.lt_of_lt_of_le h h') k'
 have iA:∀ q:Pr.Dk,s.p < q.p→q.p≤ts.length→Pr.SA b tg tc ts sz q:=fun q h _=>args_says hnm fun q' h' k'=>iE q' (Nat.lt_of_lt_of_le h h') k'
 have iR:∀ q:Pr.Dk,s.p < q.p→q.p≤ts.length→Pr.SR b tg tc ts sz q:=fun q h _=>record_says fun q' h' k'=>iE q' (Nat.lt_of_lt_of_le h h') k'
 have iL:∀ q:Pr.Dk,s.p < q.p→q.p≤ts.length→Pr.SL b tg tc ts sz q:=fun q h _=>hls q fun q' h' k'=>iE q' (Nat.lt_of_lt_of_le h h') k'
 have sI:Pr.SI b tg tc ts sz s:=single_says iE iL iR
 have sT:Pr.ST b tg tc ts sz s:=post_says sI iE iA
 have o:∀ r:Nat,1≤r→r≤7→Pr.SOi b tg tc ts sz r r s:=by
  cases hb:s.bad
  ·have o7:Pr.SOi b tg tc ts sz 7 7 s:=ops_at7 hb (fun q h k=>(ih q h k).2 7 (by omega) (by omega)) sT
   have st:∀ r:Nat,1≤r→r≤6→r≠3→Pr.SOi b tg tc ts sz ((r+1:Nat):Int) (r+1) s→Pr.SOi b tg tc ts sz r r s:=fun r h1 h6 h3 h =>
    ops_at r h6 h3 hb (fun q hq k=>((ih q hq k).2 (r+1) (by omega) (by omega)).cast (by omega)) (h.cast (by omega))
   have o6:=st 6 (by omega) (by omega) (by omega) o7
   have o5:=st 5 (by omega) (by omega) (by omega) o6
   have o4:=st 4 (by omega) (by omega) (by omega) o5
   have o3:Pr.SOi b tg tc ts sz 3 3 s:=ops_at3 hb (fun q h k=>(ih q h k).2 3 (by omega) (by omega)) o4
   have o2:=st 2 (by omega) (by omega) (by omega) o3
   have o1:=st 1 (by omega) (by omega) (by omega) o2
   intro r h1 h7
   have hc:r=1∨r=2∨r=3∨r=4∨r=5∨r=6∨r=7:=by omega
   rcases hc with rfl | rfl | rfl | rfl | rfl | rfl | rfl
   ·exact o1
   ·exact o2
   ·exact o3
   ·exact o4
   ·exact o5
   ·exact o6
   ·exact o7
  ·exact fun r _ _=>ops_bad r hb
 exact ⟨e_says iE iP (o 1 (by omega) (by omega)),o⟩
theorem Pr.all_says {b tg tc:Nat} {ts:List Sc.T} {sz:Nat} (hnm:Pr.Named b tg tc ts sz) (hls:Pr.ListSays b tg tc ts sz):∀ (n:Nat) (s:Pr.Dk),s.p≤ts.length→ts.length - s.p≤n→Pr.All b tg tc ts sz s:=by
 intro n
 induction n with
 | zero=>intro s h hn;exact Pr.all_at hnm hls s fun q h1 h2=>by omega
 | succ n ih=>intro s h hn;exact Pr.all_at hnm hls s fun q h1 h2=>ih q h2 (by omega)
theorem Pr.statement_all {b tg tc:Nat} {ts:List Sc.T} {sz:Nat} (hnm:Pr.Named b tg tc ts sz) (hls:Pr.ListSays b tg tc ts sz) (s:Pr.Dk):Pr.SS b tg tc ts sz s :=
 statement_says (fun q _ h=>(Pr.all_says hnm hls _ q h (Nat.le_refl _)).1) (fun _ _ _=>params_says fun q' _ h'=>(Pr.all_says hnm hls _ q' h' (Nat.le_refl _)).1)
theorem Pr.named_yes (b tg tc:Nat) (ts:List Sc.T) (sz:Nat):Pr.Named b tg tc ts sz:=fun _ _ _ h=>named_any h
theorem Pr.list_yes (b tg tc:Nat) (ts:List Sc.T) (sz:Nat):Pr.ListSays b tg tc ts sz:=fun s ih=>by
 cases h:Pr.is ts sz s [93]
 ·exact list_says h ih
 ·exact list_nil h
theorem Pr.statement_any (b tg tc:Nat) (ts:List Sc.T) (sz:Nat) (s:Pr.Dk):Pr.SS b tg tc ts sz s:=Pr.statement_all (Pr.named_yes b tg tc ts sz) (Pr.list_yes b tg tc ts sz) s
theorem Sc.cellsOf_atP (l:List Sc.T) (i:Nat) (h:i < l.length):(Sc.cellsOf l)[i*4]?=some (.int .i64 l[i].kind)∧(Sc.cellsOf l)[i*4+1]?=some (.string ⟨l[i].text.toArray⟩)∧(Sc.cellsOf l)[i*4+2]?=some (.int .i64 l[i].n)∧(Sc.cellsOf l)[i*4+3]?=some (.int .i64 l[i].place):=by
 induction l generalizing i with
 | nil=>simp at h
 | cons x r ih =>
  have e:Sc.cellsOf (x :: r)=[.int .i64 x.kind,.string ⟨x.text.toArray⟩,.int .i64 x.n,.int .i64 x.place]++Sc.cellsOf r:=by simp [Sc.cellsOf,Sc.T.cells]
  rw [e]
  match i,h with
  | 0,_=>simp
  | i+1,h =>
   have:=ih i (by simpa using h)
   refine ⟨?_,?_,?_,?_⟩
   all_goals rw [List.getElem?_append_right (by simp;omega)]
   ·rw [show (i+1)*4 - ([.int .i64 x.kind,.string ⟨x.text.toArray⟩,.int .i64 x.n,.int .i64 x.place]:List Value).length=i*4 from by simp;omega];exact this.1
   ·rw [show (i+1)*4+1 - ([.int .i64 x.kind,.string ⟨x.text.toArray⟩,.int .i64 x.n,.int .i64 x.place]:List Value).length=i*4+1 from by simp;omega];exact this.2.1
   ·rw [show (i+1)*4+2 - ([.int .i64 x.kind,.string ⟨x.text.toArray⟩,.int .i64 x.n,.int .i64 x.place]:List Value).length=i*4+2 from by simp;omega];exact this.2.2.1
   ·rw [show (i+1)*4+3 - ([.int .i64 x.kind,.string ⟨x.text.toArray⟩,.int .i64 x.n,.int .i64 x.place]:List Value).length=i*4+3 from by simp;omega];exact this.2.2.2
def Pr.dk0:Pr.Dk:=⟨0,false,0,[]⟩
theorem DK.init {w:World} {B tg tc sz:Nat} {ts:List Sc.T} (h:w.ownsRow B 30 4 (.slice (some ⟨tg,0,none⟩) ts.length tc) ts.length (Sc.cellsOf ts)) (hn:ts.length≤1048576) :
  DK w.heap.size tg tc ts sz (.slice none 0 0) Pr.dk0 (w.alloc (.cells #[.slice (some ⟨tg,0,none⟩) ts.length tc,.int .i64 sz,.int .i64 0,.bool false,.int .i64 0,.slice none 0 0] 92)):=by
 have hl:tg < w.heap.size:=(h.lt tg rfl).2
 have hb:=(Below.refl w.heap.size w).alloc (Nat.le_refl _) (.cells #[.slice (some ⟨tg,0,none⟩) ts.length tc,.int .i64 sz,.int .i64 0,.bool false,.int .i64 0,.slice none 0 0] 92)
 have ct:∀ j u,(Sc.cellsOf ts)[j]?=some u→(w.alloc (.cells #[.slice (some ⟨tg,0,none⟩) ts.length tc,.int .i64 sz,.int .i64 0,.bool false,.int .i64 0,.slice none 0 0] 92)).cell? ⟨tg,j,none⟩=some u:=fun j u hu=>(hb.cell (p:=⟨tg,j,none⟩) hl).trans (row_cellP h hu)
 refine ⟨by simp,by simp,by simp [Pr.dk0],by simp [Pr.dk0],by simp [Pr.dk0],by simp,fun j=>by simp,hl,fun i hi=>?_,Nat.zero_le _,hn,World.ownsRow_nil _ _ _ _⟩
 obtain ⟨a,b,c,d⟩:=Sc.cellsOf_atP ts i hi
 exact ⟨ct _ _ a,ct _ _ b,ct _ _ c,ct _ _ d⟩
theorem Sc.scan_lenP:∀ (f k:Nat) (l:List UInt8),(Sc.scan f k l).1.length≤l.length
 | 0,_,_=>by simp [Sc.scan]
 | f+1,k,l=>by
  rw [Sc.scan]
  split
  ·simp
  ·split
   ·simp
   ·rename_i h1 h2
    have hc:(Sc.one (l.drop (Sc.gapLen false l))).code=0:=by omega
    have hs:=Sc.one_size _ hc
    have ih:=Sc.scan_lenP f (k+Sc.gapLen false l+(Sc.one (l.drop (Sc.gapLen false l))).size) ((l.drop (Sc.gapLen false l)).drop (Sc.one (l.drop (Sc.gapLen false l))).size)
    simp only [List.length_cons,List.length_drop] at *
    omega
theorem Sc.toks_lenP (s:ByteArray):(Sc.toks s).length≤8000:=by
 by_cases h:8000 < s.size
 ·rw [(code_big h).2.2];simp
 ·rw [(code_small h).2.2]
  split
  ·have:=Sc.scan_lenP (s.data.toList.length+1) 0 (s.data.toList.drop 0)
   simp only [List.drop_zero,Array.length_toList] at this
   unfold Sc.from_
   simp only [List.drop_zero,Array.length_toList]
   have e:s.data.size=s.size:=rfl
   omega
  ·simp
def Pr.Comes (s:ByteArray) (r:Pr.Dk × Nat):Prop:=Pr.Cv (Sc.toks s) s.size (.fileL 0) Pr.dk0 r
theorem Pr.Comes.same {s:ByteArray} {r q:Pr.Dk × Nat} (h:Pr.Comes s r) (k:Pr.Comes s q):r=q:=Pr.Cv.same h k
def Pr.result (r:Pr.Dk × Nat):List Tr.Nd × Nat × Nat :=
 if r.1.bad then ([],6,r.1.place)
 else if Tr.valid (r.1.out++[⟨24,0,0,⟨#[]⟩,r.2⟩]) then (r.1.out++[⟨24,0,0,⟨#[]⟩,r.2⟩],0,0)
 else ([],7,0)
def Sc.endT (s:ByteArray) (i:Nat):Nat:=((Sc.toks s)[i+1]?.map (·.place)).getD s.size
theorem Sc.endT_at (s:ByteArray) (i:Nat):Sc.EndAt (Sc.toks s) i (Sc.endT s i) s.size:=by
 unfold Sc.EndAt Sc.endT
 cases h:(Sc.toks s)[i+1]? with
 | none=>exact .inr ⟨rfl,rfl⟩
 | some u=>exact .inl ⟨u,rfl,rfl⟩
theorem Sc.code_toks {s:ByteArray} (h:(Sc.toks s)≠[]):Sc.code s=0:=by
 unfold Sc.toks at h
 unfold Sc.code
 by_cases h1:8000 < s.size
 ·rw [if_pos h1] at h;exact absurd rfl h
 ·rw [if_neg h1] at h ⊢
  by_cases h2:(Sc.from_ s.data.toList 0).2.1=0
  ·exact h2
  ·rw [if_neg h2] at h;exact absurd rfl h
theorem Sc.law_at {s:ByteArray} {i:Nat} (hi:i < (Sc.toks s).length):(Sc.toks s)[i].place < Sc.endT s i∧Sc.endT s i≤s.size∧Sc.code (s.extract (Sc.toks s)[i].place (Sc.endT s i))=0∧Sc.at_ (s.extract (Sc.toks s)[i].place (Sc.endT s i))=0∧Sc.toks (s.extract (Sc.toks s)[i].place (Sc.endT s i))=[⟨(Sc.toks s)[i].kind,(Sc.toks s)[i].text,(Sc.toks s)[i].n,0⟩] :=
 Sc.piece_alone (Sc.code_toks (by intro h;rw [h] at hi;cases hi)) (List.getElem?_eq_getElem hi) (Sc.endT_at s i)
theorem Sc.endT_next {s:ByteArray} {i:Nat} (hi:i+1 < (Sc.toks s).length):Sc.endT s i=(Sc.toks s)[i+1].place:=by
 unfold Sc.endT
 rw [List.getElem?_eq_getElem hi]
 rfl
theorem Sc.endT_last {s:ByteArray} {i:Nat} (hi:¬ i+1 < (Sc.toks s).length):Sc.endT s i=s.size:=by
 unfold Sc.endT
 rw [List.getElem?_eq_none (by omega)]
 rfl
def DrewPost (w:World) (e:Ending) (w':World):Prop:=∃ s:ByteArray,e = .returned (.string s)∧s.size≤300000∧Below w.heap.size w w'
theorem lawS:Maps.Keyed Tryz.prog 9:=Maps.string_keyed Tryz.underlying9
theorem zeroU (w:World):(zeroValue 75).run Tryz.prog w = .ok (.agg #[]) w:=by kernel_rfl
end Go.Proofs.YtbckhbeebngjfaaGreatDoor
namespace Go.Proofs
def Tryz.lays137_ren:Go.Shelf.Ren:=⟨fun | 137=>42 | 217=>63 | 266=>84 | n=>n,fun | 9=>9 | 5=>5 | 3=>3 | n=>n,fun | n=>n⟩
theorem Tryz.lays137:Go.Proofs.Lays.n137 Tryz.prog Tryz.lays137_ren:={
 mixed:=by kernel_rfl
 f137:=Tryz.func42.trans (congrArg some (by kernel_rfl))
 f217:=Tryz.func63.trans (congrArg some (by kernel_rfl))
 f266:=Tryz.func84.trans (congrArg some (by kernel_rfl))
 t3:=Tryz.underlying3
 a3:=Tryz.isAgg3
 z3:=Tryz.sizeOf3
 v3:=Tryz.zeroValue3
 t5:=Tryz.underlying5
 a5:=Tryz.isAgg5
 z5:=Tryz.sizeOf5
 v5:=Tryz.zeroValue5
 t9:=Tryz.underlying9
 a9:=Tryz.isAgg9
 z9:=Tryz.sizeOf9
 v9:=Tryz.zeroValue9}
open Go.RowKit in
theorem Tryz.strings_IndexByte (s:ByteArray) (c:Int) (w:World) :
  Calls Tryz.prog 42 #[.string s,.int .u8 c] w fun e w'=>e = .returned (.int .i64 (Lib.indexByte s.data.toList c.toNat.toUInt8))∧w'=w:=Any.strings_IndexByte Tryz.lays137 s c w
end Go.Proofs
namespace Go.Proofs.YtbckhbeebngjfaaGreatDoor
open Go.RowKit
set_option maxHeartbeats 400000 in
theorem idigit_any (b:UInt8) (w:World):Calls Tryz.prog 43 #[.int .u8 b.toNat] w fun e w'=>e = .returned (.bool (Sc.dig b))∧w'=w:=by
 by_cases h1:48≤(b.toNat:Int)
 all_goals by_cases h2:(b.toNat:Int)≤57
 all_goals
  go_enter Tryz.func43,Tryz.ntmps43
  go_wp2
  go_ret
  exact ⟨ret_bool (by simp [Sc.dig];omega),rfl⟩
set_option maxHeartbeats 400000 in
theorem iname_any (b:UInt8) (w:World):Calls Tryz.prog 45 #[.int .u8 b.toNat] w fun e w'=>e = .returned (.bool (Sc.nm b))∧w'=w:=by
 have hn:Sc.nm b=(Sc.beg b || Sc.dig b):=rfl
 rw [hn];clear hn
 have hb:Sc.beg b=(decide (97≤(b.toNat:Int)) && decide ((b.toNat:Int)≤122) || ((b.toNat:Int) == 95)):=by rw [Bool.eq_iff_iff];simp [Sc.beg];omega
 have HB:=hide hb
 clear hb
 by_cases h1:97≤(b.toNat:Int)
 all_goals by_cases h2:(b.toNat:Int)≤122
 all_goals cases h3:((b.toNat:Int) == 95)
 all_goals
  go_enter Tryz.func45,Tryz.ntmps45
  go_wp2_with (go_at_call 43;refine (idigit_any _ _).mono ?_;rintro e w' ⟨rfl,rfl⟩)
  go_ret
  exact ⟨ret_bool (by rw [HB.out];simp [h1,h2,h3];try omega),rfl⟩
theorem Tr.twc_neg {b:UInt8} {r:List UInt8} (h:Sc.nm b=false):(b :: r).takeWhile Sc.nm=[]:=by simp [h]
theorem Tr.twc_pos {b:UInt8} {r:List UInt8} (h:Sc.nm b=true):((b :: r).takeWhile Sc.nm).length=(r.takeWhile Sc.nm).length+1:=by simp [h]
set_option maxHeartbeats 400000 in
theorem nameSize_any (s:ByteArray) (w:World) (hs:s.size≤1048576) :
  Calls Tryz.prog 64 #[.string s] w fun e w'=>e = .returned (.int .i64 ((s.data.toList.takeWhile Sc.nm).length:Nat))∧w'=w:=by
 go_enter Tryz.func64,Tryz.ntmps64
 go_wp2
 go_loop [3] (fun t=>∃ j:Nat,j≤s.size∧t = .int .i64 j∧j+((s.data.toList.drop j).takeWhile Sc.nm).length=(s.data.toList.takeWhile Sc.nm).length) (fun t=>s.size - (intOf t).toNat)
 case atStart=>exact ⟨0,Nat.zero_le _,rfl,by simp⟩
 case round =>
  obtain ⟨j,hj,rfl,he⟩:=hrel
  have HE:=hide he
  clear he
  by_cases hlt:j < s.size
  ·have hd:=hide (Sc.drop_cons s j hlt)
   cases hn:Sc.nm s[j]
   ·go_wp2_with (go_at_call 45;refine (iname_any _ _).mono ?_;rintro e w' ⟨rfl,rfl⟩)
    go_ret
    refine ⟨ret_int ?_,rfl⟩
    have e:=HE.out
    rw [hd.out,Tr.twc_neg hn] at e
    simp at e
    omega
   ·go_wp2_with (go_at_call 45;refine (iname_any _ _).mono ?_;rintro e w' ⟨rfl,rfl⟩)
    go_round
    case rel =>
     refine ⟨j+1,by omega,by go_num,?_⟩
     have e:=HE.out
     rw [hd.out,Tr.twc_pos hn] at e
     omega
    case measure=>simp [intOf];omega
  ·go_wp2
   go_ret
   refine ⟨ret_int ?_,rfl⟩
   have e:=HE.out
   rw [List.drop_of_length_le (i:=j) (by simp;omega)] at e
   simp at e
   omega
def Sc.wordMap {H:Type}:DataW H:=Maps.setOf (.agg []) (Sc.words.map Lit.string)
theorem Sc.has_word {H:Type} (l:List UInt8):Maps.has (Sc.wordMap (H:=H)) (.string l)=decide (l∈Sc.words):=by
 unfold Sc.wordMap
 rw [Maps.has_setOf]
 ·rw [Bool.eq_iff_iff]
  simp [Lit.sameKey]
 ·intro x hx
  simp only [List.mem_map] at hx
  obtain ⟨y,_,rfl⟩:=hx
  trivial
theorem wpList_insert_own {H:Type} {P:Program} (w:World) {ops:Array Oper} {rest:List Oper} {o:Oper} {a:Act} {Q:Exit→Act→World→Prop}
  (hg:o.guard=none) (m x v:Operand) (t:TypeId) (hop:o.op=Op.insert t m x v)
  (k e:TypeId) (K:Maps.Keyed P k) (ht:P.underlying t=some (.map k e)) (R:Value→Option (DataW H × List MemPlace)) (b n:Nat) (D:DataW H)
  (hm:a.eval m = .map (some b)) (hown:w.ownsMap P k R b n D) (hn:n < maxLen) (key val:Value) (kl:Lit) (hx:a.eval x=key) (hv:a.eval v=val) (hkey:keyOf P k key=some kl)
  (d:DataW H) (ps:List MemPlace) (hval:R val=some (d,ps))
  (hK:∀ w',w'.ownsMap P k R b (n+1) (D.put kl d)→w.grownBy w' (some b)→wpList P ops Q rest (a.put o.dst undef) w') :
  wpList P ops Q (o :: rest) a w:=by
 refine wpList_plain hg fun K' hK'=>?_
 obtain ⟨w',hrun,r1,r2⟩:=hown.update K ht hn hkey hval
 unfold Oper.wp
 simp [execOp,hop,hm,hx,hv,hrun,Result.andThen]
 exact hK' _ _ (hK w' r1 r2)
set_option maxRecDepth 100000 in
set_option maxHeartbeats 1000000 in
theorem wordSet_any (w:World):Calls Tryz.prog 25 #[] w fun e w'=>e = .returned (.map (some w.heap.size))∧w'.ownsMap (H:=Unit) Tryz.prog 9 unitElem w.heap.size 17 Sc.wordMap∧Below w.heap.size w w':=by
 have hmm:=@run_makeMap Tryz.prog
 have hm0:=World.ownsMap_made (H:=Unit) w Tryz.prog 9 unitElem
 have hb0:Below w.heap.size w (w.alloc (.map #[] 0)):=bA _
 go_enter Tryz.func25,Tryz.ntmps25
 go_wp2_with (show wpList _ _ _ ({dst:=_,op:=Op.insert _ _ _ _,type:=_,pos:=_,after:=_,guard:=_} :: _) _ _;go_must (refine wpList_insert_own _ rfl _ _ _ 56 rfl 9 75 lawS Tryz.underlying56 _ w.heap.size _ _ rfl hm0 (by unfold maxLen;decide) _ _ _ rfl rfl (WideMaps.keyOf_string_mk Tryz.underlying9 (by unfold maxLen;decide)) _ [] unitElem_mk ?_);go_must (intro w1 hm1 hg1;replace hb0:=hb0.grown hg1 hb0.size (fun k e=>by cases e;exact Nat.le_refl _);replace hm0:=hm1;clear hm1 hg1))
 go_ret
 exact ⟨rfl,hm0,hb0⟩
theorem Tr.tw_all (l:List UInt8):Tr.allOf Sc.nm l=decide ((l.takeWhile Sc.nm).length=l.length):=by
 induction l with
 | nil=>rfl
 | cons b r ih =>
  rw [Tr.allOf_cons,ih]
  cases h:Sc.nm b
  ·simp [h]
  ·simp [h]
theorem Tr.beg_nm (b:UInt8) (h:Sc.nm b=true):Sc.beg b=!Sc.dig b:=by
 have hn:Sc.nm b=(Sc.beg b || Sc.dig b):=rfl
 have:Sc.beg b=true→Sc.dig b=false:=by intro h;simp [Sc.beg,Sc.dig] at h ⊢;omega
 cases hb:Sc.beg b
 ·rw [hn,hb] at h;simp at h;simp [h]
 ·rw [this hb];rfl
theorem Tr.nameOk_form (s:ByteArray) (h:0 < s.size):Tr.nameOk s=(!decide (30 < (s.size:Int)) && !Sc.dig s[0] && !decide (s.data.toList∈Sc.words) && decide ((s.data.toList.takeWhile Sc.nm).length=s.size)):=by
 have hd:s.data.toList=s[0] :: s.data.toList.drop 1:=by simpa using Sc.drop_cons s 0 h
 have hh:s.data.toList.head?=some s[0]:=by rw [hd];rfl
 have hl:s.data.toList.length=s.size:=by simp
 unfold Tr.nameOk
 rw [hh,Tr.tw_all,hl]
 have e1:Tr.inr s.size 1 30=!decide (30 < (s.size:Int)):=by unfold Tr.inr;rw [Bool.eq_iff_iff];simp;omega
 rw [e1]
 by_cases ha:(s.data.toList.takeWhile Sc.nm).length=s.size
 ·have hall:Tr.allOf Sc.nm s.data.toList=true:=by rw [Tr.tw_all,hl];simpa using ha
  rw [hd,Tr.allOf_cons,Bool.and_eq_true] at hall
  rw [Option.map_some,Tr.beg_nm _ hall.1]
  cases Sc.dig s[0] <;> simp
 ·simp [ha]
theorem Tr.nameOk_empty (s:ByteArray) (h:s.size=0):Tr.nameOk s=false:=by
 unfold Tr.nameOk
 rw [h];rfl
theorem ba_empty (s:ByteArray):(s.toList == [])=decide (s.size=0):=by
 rw [Lib.toList_data,Bool.eq_iff_iff]
 simp [← Array.size_eq_zero_iff]
end Go.Proofs.YtbckhbeebngjfaaGreatDoor
namespace Go.Proofs
open Go.Shelf
def Tryz.laysM316_ren:Go.Shelf.Ren:=⟨fun | 316=>100 | n=>n,fun | 9=>9 | 3=>3 | 4=>4 | 37=>22 | 0=>0 | 127=>147 | 5=>5 | n=>n,fun | n=>n⟩
theorem Tryz.laysM316:Go.Proofs.LaysM.n316 Tryz.prog Tryz.laysM316_ren:={
 mixed:=by kernel_rfl
 f316:=Tryz.func100.trans (congrArg some (by kernel_rfl))
 t0:=Tryz.underlying0
 a0:=Tryz.isAgg0
 z0:=Tryz.sizeOf0
 v0:=Tryz.zeroValue0
 t3:=Tryz.underlying3
 a3:=Tryz.isAgg3
 z3:=Tryz.sizeOf3
 v3:=Tryz.zeroValue3
 t4:=Tryz.underlying4
 a4:=Tryz.isAgg4
 z4:=Tryz.sizeOf4
 v4:=Tryz.zeroValue4
 t9:=Tryz.underlying9
 a9:=Tryz.isAgg9
 z9:=Tryz.sizeOf9
 v9:=Tryz.zeroValue9
 t37:=Tryz.underlying22
 a37:=Tryz.isAgg22
 z37:=Tryz.sizeOf22
 v37:=Tryz.zeroValue22
 t127:=Tryz.underlying147
 a127:=Tryz.isAgg147
 z127:=Tryz.sizeOf147
 v127:=Tryz.zeroValue147
 t5:=Tryz.underlying5
 a5:=Tryz.isAgg5
 z5:=Tryz.sizeOf5
 v5:=Tryz.zeroValue5
 i0:=by kernel_rfl
 i3:=by kernel_rfl
 i4:=by kernel_rfl
 i5:=by kernel_rfl
 i9:=by kernel_rfl
 i37:=by kernel_rfl
 i127:=by kernel_rfl}
open Go.RowKit in
theorem Tryz.stringslite_Clone (s:ByteArray) (w:World) (hlim:s.size≤281474976710656) :
  Calls Tryz.prog 100 #[.string s] w fun e w'=>e = .returned (.string s)∧Below w.heap.size w w':=Any.stringslite_Clone Tryz.laysM316 s w hlim
def Tryz.laysC174_ren:Go.Shelf.Ren:=⟨fun | 174=>65 | 247=>85 | 245=>86 | 287=>95 | 279=>96 | 280=>97 | 281=>98 | 282=>99 | 321=>110 | 322=>111 | 316=>100 | 171=>113 | 205=>112 | 243=>116 | 246=>120 | 283=>121 | 284=>122 | 285=>123 | 286=>124 | 129=>126 | 317=>125 | 318=>127 | 319=>128 | 320=>129 | 337=>130 | 338=>131 | n=>n,fun | 9=>9 | 3=>3 | 2=>2 | 75=>106 | 85=>107 | 4=>4 | 167=>132 | 5=>5 | 53=>78 | 175=>133 | 46=>135 | 168=>136 | 37=>22 | 0=>0 | 210=>145 | 21=>21 | 127=>147 | 145=>150 | 143=>148 | 171=>153 | 173=>156 | 212=>159 | 51=>160 | 20=>20 | 213=>161 | 232=>164 | 233=>165 | 80=>116 | n=>n,fun | 15=>1 | 16=>2 | 17=>3 | 18=>4 | 19=>5 | n=>n⟩
theorem Tryz.laysC174:Go.Proofs.LaysC.n174 Tryz.prog Tryz.laysC174_ren:={
 mixed:=by kernel_rfl
 f129:=Tryz.func126.trans (congrArg some (by kernel_rfl))
 f171:=Tryz.func113.trans (congrArg some (by kernel_rfl))
 f174:=Tryz.func65.trans (congrArg some (by kernel_rfl))
 f205:=Tryz.func112.trans (congrArg some (by kernel_rfl))
 f243:=Tryz.func116.trans (congrArg some (by kernel_rfl))
 f245:=Tryz.func86.trans (congrArg some (by kernel_rfl))
 f246:=Tryz.func120.trans (congrArg some (by kernel_rfl))
 f247:=Tryz.func85.trans (congrArg some (by kernel_rfl))
 f279:=Tryz.func96.trans (congrArg some (by kernel_rfl))
 f280:=Tryz.func97.trans (congrArg some (by kernel_rfl))
 f281:=Tryz.func98.trans (congrArg some (by kernel_rfl))
 f282:=Tryz.func99.trans (congrArg some (by kernel_rfl))
 f283:=Tryz.func121.trans (congrArg some (by kernel_rfl))
 f284:=Tryz.func122.trans (congrArg some (by kernel_rfl))
 f285:=Tryz.func123.trans (congrArg some (by kernel_rfl))
 f286:=Tryz.func124.trans (congrArg some (by kernel_rfl))
 f287:=Tryz.func95.trans (congrArg some (by kernel_rfl))
 f316:=Tryz.func100.trans (congrArg some (by kernel_rfl))
 f317:=Tryz.func125.trans (congrArg some (by kernel_rfl))
 f318:=Tryz.func127.trans (congrArg some (by kernel_rfl))
 f319:=Tryz.func128.trans (congrArg some (by kernel_rfl))
 f320:=Tryz.func129.trans (congrArg some (by kernel_rfl))
 f321:=Tryz.func110.trans (congrArg some (by kernel_rfl))
 f322:=Tryz.func111.trans (congrArg some (by kernel_rfl))
 f337:=Tryz.func130.trans (congrArg some (by kernel_rfl))
 f338:=Tryz.func131.trans (congrArg some (by kernel_rfl))
 t0:=Tryz.underlying0
 a0:=Tryz.isAgg0
 z0:=Tryz.sizeOf0
 v0:=Tryz.zeroValue0
 t2:=Tryz.underlying2
 a2:=Tryz.isAgg2
 z2:=Tryz.sizeOf2
 v2:=Tryz.zeroValue2
 t3:=Tryz.underlying3
 a3:=Tryz.isAgg3
 z3:=Tryz.sizeOf3
 v3:=Tryz.zeroValue3
 t4:=Tryz.underlying4
 a4:=Tryz.isAgg4
 z4:=Tryz.sizeOf4
 v4:=Tryz.zeroValue4
 t5:=Tryz.underlying5
 a5:=Tryz.isAgg5
 z5:=Tryz.sizeOf5
 v5:=Tryz.zeroValue5
 t9:=Tryz.underlying9
 a9:=Tryz.isAgg9
 z9:=Tryz.sizeOf9
 v9:=Tryz.zeroValue9
 t20:=Tryz.underlying20
 a20:=Tryz.isAgg20
 z20:=Tryz.sizeOf20
 v20:=Tryz.zeroValue20
 t21:=Tryz.underlying21
 a21:=Tryz.isAgg21
 z21:=Tryz.sizeOf21
 v21:=Tryz.zeroValue21
 t37:=Tryz.underlying22
 a37:=Tryz.isAgg22
 z37:=Tryz.sizeOf22
 v37:=Tryz.zeroValue22
 t46:=Tryz.underlying135
 a46:=Tryz.isAgg135
 z46:=Tryz.sizeOf135
 v46:=Tryz.zeroValue135
 t51:=Tryz.underlying160
 a51:=Tryz.isAgg160
 z51:=Tryz.sizeOf160
 v51:=Tryz.zeroValue160
 t53:=Tryz.underlying78
 a53:=Tryz.isAgg78
 z53:=Tryz.sizeOf78
 v53:=Tryz.zeroValue78
 t75:=Tryz.underlying106
 a75:=Tryz.isAgg106
 z75:=Tryz.sizeOf106
 v75:=Tryz.zeroValue106
 t85:=Tryz.underlying107
 a85:=Tryz.isAgg107
 z85:=Tryz.sizeOf107
 v85:=Tryz.zeroValue107
 t127:=Tryz.underlying147
 a127:=Tryz.isAgg147
 z127:=Tryz.sizeOf147
 v127:=Tryz.zeroValue147
 t143:=Tryz.underlying148
 a143:=Tryz.isAgg148
 z143:=Tryz.sizeOf148
 v143:=Tryz.zeroValue148
 t145:=Tryz.underlying150
 a145:=Tryz.isAgg150
 z145:=Tryz.sizeOf150
 v145:=Tryz.zeroValue150
 t167:=Tryz.underlying132
 a167:=Tryz.isAgg132
 z167:=Tryz.sizeOf132
 v167:=Tryz.zeroValue132
 t168:=Tryz.underlying136
 a168:=Tryz.isAgg136
 z168:=Tryz.sizeOf136
 v168:=Tryz.zeroValue136
 t171:=Tryz.underlying153
 a171:=Tryz.isAgg153
 z171:=Tryz.sizeOf153
 v171:=Tryz.zeroValue153
 t173:=Tryz.underlying156
 a173:=Tryz.isAgg156
 z173:=Tryz.sizeOf156
 v173:=Tryz.zeroValue156
 t175:=Tryz.underlying133
 a175:=Tryz.isAgg133
 z175:=Tryz.sizeOf133
 v175:=Tryz.zeroValue133
 t210:=Tryz.underlying145
 a210:=Tryz.isAgg145
 z210:=Tryz.sizeOf145
 v210:=Tryz.zeroValue145
 t212:=Tryz.underlying159
 a212:=Tryz.isAgg159
 z212:=Tryz.sizeOf159
 v212:=Tryz.zeroValue159
 t213:=Tryz.underlying161
 a213:=Tryz.isAgg161
 z213:=Tryz.sizeOf161
 t232:=Tryz.underlying164
 a232:=Tryz.isAgg164
 z232:=Tryz.sizeOf164
 v232:=Tryz.zeroValue164
 t233:=Tryz.underlying165
 a233:=Tryz.isAgg165
 z233:=Tryz.sizeOf165
 v233:=Tryz.zeroValue165
 g15:=by kernel_rfl
 g16:=by kernel_rfl
 g17:=by kernel_rfl
 g18:=by kernel_rfl
 g19:=by kernel_rfl
 t80:=Tryz.underlying116
 a80:=Tryz.isAgg116
 z80:=Tryz.sizeOf116
 v80:=Tryz.zeroValue116
 i0:=by kernel_rfl
 i2:=by kernel_rfl
 i3:=by kernel_rfl
 i4:=by kernel_rfl
 i5:=by kernel_rfl
 i9:=by kernel_rfl
 i20:=by kernel_rfl
 i21:=by kernel_rfl
 i37:=by kernel_rfl
 i46:=by kernel_rfl
 i51:=by kernel_rfl
 i53:=by kernel_rfl
 i75:=by kernel_rfl
 i80:=by kernel_rfl
 i85:=by kernel_rfl
 i127:=by kernel_rfl
 i143:=by kernel_rfl
 i145:=by kernel_rfl
 i167:=by kernel_rfl
 i168:=by kernel_rfl
 i171:=by kernel_rfl
 i173:=by kernel_rfl
 i175:=by kernel_rfl
 i210:=by kernel_rfl
 i212:=by kernel_rfl
 i232:=by kernel_rfl
 i233:=by kernel_rfl
 m15:=by kernel_rfl
 m16:=by kernel_rfl
 m17:=by kernel_rfl
 m18:=by kernel_rfl
 m19:=by kernel_rfl
 c0:=by kernel_rfl
 c2:=by kernel_rfl
 c3:=by kernel_rfl
 c4:=by kernel_rfl
 c5:=by kernel_rfl
 c9:=by kernel_rfl
 c20:=by kernel_rfl
 c21:=by kernel_rfl
 c37:=by kernel_rfl
 c46:=by kernel_rfl
 c51:=by kernel_rfl
 c53:=by kernel_rfl
 c75:=by kernel_rfl
 c80:=by kernel_rfl
 c85:=by kernel_rfl
 c127:=by kernel_rfl
 c143:=by kernel_rfl
 c145:=by kernel_rfl
 c167:=by kernel_rfl
 c168:=by kernel_rfl
 c171:=by kernel_rfl
 c173:=by kernel_rfl
 c175:=by kernel_rfl
 c210:=by kernel_rfl
 c212:=by kernel_rfl
 c213:=by kernel_rfl
 c232:=by kernel_rfl
 c233:=by kernel_rfl}
open Go.RowKit in
theorem Tryz.parse64 (s:ByteArray) (w:World) (ev1 ev2:Value) (hlim:s.size≤281474976710656) (hv1:w.cell? ⟨1,0,none⟩=some ev1) (hv2:w.cell? ⟨2,0,none⟩=some ev2) (he1:∃ te pe,ev1 = .iface te pe) (he2:∃ te pe,ev2 = .iface te pe) :
  Calls Tryz.prog 65 #[.string s,.int .i64 10,.int .i64 64] w fun e w'=>Below w.heap.size w w'∧((∃ v,Lib.parseIntB 64 s.data.toList = .ok v∧e = .returned (.tuple #[.int .i64 v,.nilIface]))∨((∀ v,Lib.parseIntB 64 s.data.toList≠ .ok v)∧∃ n N,e = .returned (.tuple #[.int .i64 n,.iface 136 (.pointer (some ⟨N,0,none⟩))]))):=by
 cases h:Lib.parseIntB 64 s.data.toList
 ·refine (Any.strconv_ParseInt_10_at64_ok Tryz.laysC174 s (by omega) _ h w).mono ?_
  rintro e w' ⟨rfl,hw⟩
  refine ⟨?_,.inl ⟨_,rfl,rfl⟩⟩
  rcases hw with rfl | ⟨t,rfl⟩
  ·exact Below.refl _ _
  ·exact Lib.bytesWorld_below _ _ _
 ·refine (Any.strconv_ParseInt_10_at64_syntax Tryz.laysC174 s hlim h ev1 w hv1 (.inr he1)).mono ?_
  rintro e w' ⟨N,rfl,_,_,hb⟩
  exact ⟨hb,.inr ⟨(by simp),_,N,rfl⟩⟩
 ·refine (Any.strconv_ParseInt_10_at64_range Tryz.laysC174 s hlim h ev2 w hv2 (.inr he2)).mono ?_
  rintro e w' ⟨N,rfl,_,_,hb⟩
  exact ⟨hb,.inr ⟨(by simp),_,N,rfl⟩⟩
end Go.Proofs
