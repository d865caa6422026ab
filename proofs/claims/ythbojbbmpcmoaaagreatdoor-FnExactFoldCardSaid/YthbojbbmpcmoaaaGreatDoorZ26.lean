/- Lb, Fv6. -/
import Derived.Test.YthbojbbmpcmoaaaGreatDoorProg
import Derived.Test.YthbojbbmpcmoaaaGreatDoorZ20
import Derived.WalkSpells
import Derived.WalkLawsBesides
import Derived.Deep.DeepFit
import Derived.Deep.DeepMust
import Derived.Deep.QuietTactic
import Derived.WalkSmall
import Derived.Test.YthbojbbmpcmoaaaGreatDoorZ25
namespace Go.Proofs.YthbojbbmpcmoaaaGreatDoor.Vl
open Go.RowKit
def nWord (l:List UInt8):ByteArray:=⟨l.toArray⟩
def numV (r:Option Int) (word:List UInt8):Value:=match r with
 | some n => .tuple #[.iface 115 (.int .i64 n),.string ⟨#[]⟩]
 | none => .tuple #[.nilIface,.string (nWord word)]
def fit64 (p:Int):Option Int:=if -9223372036854775808≤p∧p≤9223372036854775807 then some p else none
set_option maxHeartbeats 400000 in
theorem addNumbers_any (x y:Int) (w:World) (hx:in64 x) (hy:in64 y):Calls Tryz.prog 58 #[.int .i64 x,.int .i64 y] w fun e w'=>e = .returned (numV (fit64 (x+y)) [114,97,110,103,101])∧w'=w:=by
 unfold in64 at hx hy
 by_cases hf:-9223372036854775808≤x+y∧x+y≤9223372036854775807
 ·rw [show fit64 (x+y)=some (x+y) from if_pos hf]
  have hw:wrap64 (x+y)=x+y:=by unfold wrap64;omega
  by_cases h0:y < 0
  ·have hp:x+y < x:=by omega
   go_enter Tryz.func58,Tryz.ntmps58
   go_wp2
   go_ret2
   exact ⟨rfl,rfl⟩
  ·have hp:¬ x+y < x:=by omega
   go_enter Tryz.func58,Tryz.ntmps58
   go_wp2
   go_ret2
   exact ⟨rfl,rfl⟩
 ·rw [show fit64 (x+y)=none from if_neg hf]
  obtain ⟨z,hz⟩:∃ z,wrap64 (x+y)=z:=⟨_,rfl⟩
  by_cases h0:y < 0
  ·have hp:¬ z < x:=by rw [← hz];unfold wrap64;omega
   go_enter Tryz.func58,Tryz.ntmps58
   go_wp2
   go_ret2
   exact ⟨rfl,rfl⟩
  ·have hp:z < x:=by rw [← hz];unfold wrap64;omega
   go_enter Tryz.func58,Tryz.ntmps58
   go_wp2
   go_ret2
   exact ⟨rfl,rfl⟩
set_option maxHeartbeats 400000 in
theorem subtract_any (x y:Int) (w:World) (hx:in64 x) (hy:in64 y):Calls Tryz.prog 64 #[.int .i64 x,.int .i64 y] w fun e w'=>e = .returned (numV (fit64 (x - y)) [114,97,110,103,101])∧w'=w:=by
 unfold in64 at hx hy
 by_cases hf:-9223372036854775808≤x - y∧x - y≤9223372036854775807
 ·rw [show fit64 (x - y)=some (x - y) from if_pos hf]
  have hw:wrap64 (x - y)=x - y:=by unfold wrap64;omega
  by_cases h0:y < 0
  ·have hp:x < x - y:=by omega
   go_enter Tryz.func64,Tryz.ntmps64
   go_wp2
   go_ret2
   exact ⟨rfl,rfl⟩
  ·have hp:¬ x < x - y:=by omega
   go_enter Tryz.func64,Tryz.ntmps64
   go_wp2
   go_ret2
   exact ⟨rfl,rfl⟩
 ·rw [show fit64 (x - y)=none from if_neg hf]
  obtain ⟨z,hz⟩:∃ z,wrap64 (x - y)=z:=⟨_,rfl⟩
  by_cases h0:y < 0
  ·have hp:¬ x < z:=by rw [← hz];unfold wrap64;omega
   go_enter Tryz.func64,Tryz.ntmps64
   go_wp2
   go_ret2
   exact ⟨rfl,rfl⟩
  ·have hp:x < z:=by rw [← hz];unfold wrap64;omega
   go_enter Tryz.func64,Tryz.ntmps64
   go_wp2
   go_ret2
   exact ⟨rfl,rfl⟩
set_option maxHeartbeats 400000 in
theorem multiply_any (x y:Int) (w:World) (hx:in64 x) (hy:in64 y):Calls Tryz.prog 65 #[.int .i64 x,.int .i64 y] w fun e w'=>e = .returned (numV (fit64 (x * y)) [114,97,110,103,101])∧w'=w:=by
 by_cases h0:x=0
 ·subst h0
  go_enter Tryz.func65,Tryz.ntmps65
  go_wp2
  go_ret2
  exact ⟨by simp [numV,fit64],rfl⟩
 ·have hm:=mul_fits y x hy hx h0
  rw [Int.mul_comm y x] at hm
  obtain ⟨z,hz⟩:∃ z,wrap64 (x * y)=z:=⟨_,rfl⟩
  rw [hz] at hm
  obtain ⟨u,hu⟩:∃ u,wrap64 (z.tdiv x)=u:=⟨_,rfl⟩
  rw [hu] at hm
  have hxb:(x != 0)=true:=by simpa using h0
  by_cases hf:in64 (x * y)
  ·obtain ⟨h5,h2⟩:=hm.2 hf
   rw [h5] at hu
   clear h5
   have hzz:z=x * y:=by rw [← hz];unfold in64 at hf;unfold wrap64;omega
   have HR:Hid (numV (fit64 (x * y)) [114,97,110,103,101] = .tuple #[.iface 115 (.int .i64 z),.string ⟨#[]⟩]):=(by rw [hzz,show fit64 (x * y)=some (x * y) from if_pos hf];rfl)
   rw [show numV (fit64 (x * y)) [114,97,110,103,101] = .tuple #[.iface 115 (.int .i64 z),.string ⟨#[]⟩] from HR]
   clear HR hzz hm hf
   by_cases h1:x = -1
   ·subst h1
    have hz':wrap64 (-y)=z:=by rw [← hz];congr 1;omega
    have hu':wrap64 (-z)=y:=by rw [← hu,Int.tdiv_neg,Int.tdiv_one]
    have h3:¬ y = -9223372036854775808:=fun h=>h2 ⟨rfl,h⟩
    have h4:(y == -9223372036854775808)=false:=by simpa using h3
    clear h2
    go_enter Tryz.func65,Tryz.ntmps65
    go_wp2
    go_ret2
    exact ⟨rfl,rfl⟩
   ·have h4:(x == -1)=false:=by simpa using h1
    clear h2
    go_enter Tryz.func65,Tryz.ntmps65
    go_wp2
    go_ret2
    exact ⟨rfl,rfl⟩
  ·rw [show fit64 (x * y)=none from if_neg hf]
   have h2:¬ (u=y∧¬ (x = -1∧y = -9223372036854775808)):=fun h=>hf (hm.1 h)
   clear hm hf
   by_cases h1:u=y
   ·have h3:x = -1∧y = -9223372036854775808:=Classical.byContradiction fun h=>h2 ⟨h1,h⟩
    obtain ⟨rfl,rfl⟩:=h3
    have hmn:wrap64 9223372036854775808 = -9223372036854775808:=by unfold wrap64;omega
    clear h2 h1 hu hz
    go_enter Tryz.func65,Tryz.ntmps65
    go_wp2
    go_ret2
    exact ⟨rfl,rfl⟩
   ·have h4:(u != y)=true:=by simpa using h1
    clear h2
    go_enter Tryz.func65,Tryz.ntmps65
    go_wp2
    go_ret2
    exact ⟨rfl,rfl⟩
def mends (x y:Int):Bool:=(x.tmod y != 0) && (decide (x < 0) != decide (y < 0))
def quoV (x y:Int):Int:=if mends x y then x.tdiv y - 1 else x.tdiv y
def remV (x y:Int):Int:=if mends x y then x.tmod y+y else x.tmod y
set_option maxHeartbeats 400000 in
theorem quotient_any (x y:Int) (w:World) (hx:in64 x) (hy:in64 y):Calls Tryz.prog 66 #[.int .i64 x,.int .i64 y] w fun e w'=>e = .returned (if y=0 then numV none [100,105,118,105,100,101] else if x = -9223372036854775808∧y = -1 then numV none [114,97,110,103,101] else numV (some (quoV x y)) [])∧w'=w:=by
 by_cases h0:y=0
 ·subst h0
  rw [if_pos rfl]
  go_enter Tryz.func66,Tryz.ntmps66
  go_wp2
  go_ret2
  exact ⟨rfl,rfl⟩
 ·rw [if_neg h0]
  have h0b:(y == 0)=false:=by simpa using h0
  by_cases hm:x = -9223372036854775808∧y = -1
  ·rw [if_pos hm]
   obtain ⟨rfl,rfl⟩:=hm
   go_enter Tryz.func66,Tryz.ntmps66
   go_wp2
   go_ret2
   exact ⟨rfl,rfl⟩
  ·rw [if_neg hm]
   have hb:in64 (x.tdiv y):=by
    by_cases h1:y = -1
    ·subst h1;rw [Int.tdiv_neg,Int.tdiv_one];unfold in64 at *;omega
    ·exact tdiv_bound x y hx h0 h1
   have hw1:wrap64 (x.tdiv y)=x.tdiv y:=wrap_id hb
   have hmb:=tmod_bound x y h0
   have hdm:=Int.mul_tdiv_add_tmod x y
   have hpre:(x == -9223372036854775808 && y == -1)=false:=by
    cases h:(x == -9223372036854775808 && y == -1) with
    | false=>rfl
    | true=>simp at h;exact (hm h).elim
   have hxb:x = -9223372036854775808→(y == -1)=false:=fun hx'=>by
    cases h:(y == -1) with
    | false=>rfl
    | true=>exact (hm ⟨hx',by simpa using h⟩).elim
   have hsm:x.tmod y≠0→wrap64 (x.tdiv y - 1)=x.tdiv y - 1:=fun hr=>by
    refine wrap_id ?_
    have hne:y.natAbs≠1:=fun h1=>by omega
    have h2:=Int.natAbs_tdiv x y
    have h3:x.natAbs.div y.natAbs≤x.natAbs / 2:=Nat.div_le_div_left (by omega) (by omega)
    unfold in64 at *;omega
   unfold quoV mends
   clear hdm hmb hb
   obtain ⟨q,hq⟩:∃ q,x.tdiv y=q:=⟨_,rfl⟩
   obtain ⟨r,hrr⟩:∃ r,x.tmod y=r:=⟨_,rfl⟩
   rw [hq] at hw1 hsm
   rw [hrr] at hsm
   rw [hq,hrr]
   generalize hres:numV (some (if (r != 0 && decide (x < 0) != decide (y < 0))=true then q - 1 else q)) []=res
   have HRES:Hid (numV (some (if (r != 0 && decide (x < 0) != decide (y < 0))=true then q - 1 else q)) []=res):=hres
   clear hres
   have HT:∀ b:Bool,(x == -9223372036854775808)=b→(b && (y == -1))=false:=fun b hb=>by rw [← hb];exact hpre
   by_cases hr:r=0
   ·subst hr
    cases hxm:(x == -9223372036854775808)
    ·go_enter Tryz.func66,Tryz.ntmps66
     go_wp2
     go_ret2
     exact ⟨by rw [← HRES.out];simp [numV],rfl⟩
    ·have hy1:(y == -1)=false:=by have:=HT _ hxm;simpa using this
     go_enter Tryz.func66,Tryz.ntmps66
     go_wp2
     go_ret2
     exact ⟨by rw [← HRES.out];simp [numV],rfl⟩
   ·have hrb:(r != 0)=true:=by simpa using hr
    have hw3:=hsm hr
    clear hsm hpre hxb
    cases hxm:(x == -9223372036854775808)
    all_goals
     have hy1:=HT _ hxm
     simp only [Bool.false_and,Bool.true_and] at hy1
     cases hdx:decide (x < 0)
     all_goals cases hdy:decide (y < 0)
     all_goals
      have HDX:Hid (decide (x < 0)=_):=hdx
      have HDY:Hid (decide (y < 0)=_):=hdy
     ·have hx0:¬ x < 0:=by simpa using hdx
      have hy0:¬ y < 0:=by simpa using hdy
      go_enter Tryz.func66,Tryz.ntmps66
      go_wp2
      go_ret2
      refine ⟨?_,rfl⟩
      rw [← HRES.out,hrb,HDX.out,HDY.out]
      rfl
     ·have hx0:¬ x < 0:=by simpa using hdx
      have hy0:y < 0:=by simpa using hdy
      go_enter Tryz.func66,Tryz.ntmps66
      go_wp2
      go_ret2
      refine ⟨?_,rfl⟩
      rw [← HRES.out,hrb,HDX.out,HDY.out]
      rfl
     ·have hx0:x < 0:=by simpa using hdx
      have hy0:¬ y < 0:=by simpa using hdy
      go_enter Tryz.func66,Tryz.ntmps66
      go_wp2
      go_ret2
      refine ⟨?_,rfl⟩
      rw [← HRES.out,hrb,HDX.out,HDY.out]
      rfl
     ·have hx0:x < 0:=by simpa using hdx
      have hy0:y < 0:=by simpa using hdy
      go_enter Tryz.func66,Tryz.ntmps66
      go_wp2
      go_ret2
      refine ⟨?_,rfl⟩
      rw [← HRES.out,hrb,HDX.out,HDY.out]
      rfl
theorem tmod_sign (x y:Int):(x < 0→x.tmod y≤0)∧(¬ x < 0→0≤x.tmod y):=by
 refine ⟨fun h=>?_,fun h=>Int.tmod_nonneg _ (by omega)⟩
 have h1:0≤(-x).tmod y:=Int.tmod_nonneg _ (by omega)
 rw [Int.neg_tmod] at h1
 omega
set_option maxHeartbeats 400000 in
theorem remainder_any (x y:Int) (w:World) (hy:in64 y):Calls Tryz.prog 67 #[.int .i64 x,.int .i64 y] w fun e w'=>e = .returned (if y=0 then numV none [100,105,118,105,100,101] else numV (some (remV x y)) [])∧w'=w:=by
 by_cases h0:y=0
 ·subst h0
  rw [if_pos rfl]
  go_enter Tryz.func67,Tryz.ntmps67
  go_wp2
  go_ret2
  exact ⟨rfl,rfl⟩
 ·rw [if_neg h0]
  have h0b:(y == 0)=false:=by simpa using h0
  have hmb:=tmod_bound x y h0
  have hsg:=tmod_sign x y
  have hsm:x.tmod y≠0→¬ (x < 0↔y < 0)→wrap64 (x.tmod y+y)=x.tmod y+y:=fun hr hs=>by
   refine wrap_id ?_
   unfold in64 at *
   by_cases hx0:x < 0
   ·have:=hsg.1 hx0
    have:¬ y < 0:=fun h=>hs ⟨fun _=>h,fun _=>hx0⟩
    omega
   ·have:=hsg.2 hx0
    have:y < 0:=Classical.byContradiction fun h=>hs ⟨fun h'=>(hx0 h').elim,fun h'=>(h h').elim⟩
    omega
  unfold remV mends
  clear hmb hsg
  obtain ⟨r,hrr⟩:∃ r,x.tmod y=r:=⟨_,rfl⟩
  rw [hrr] at hsm
  rw [hrr]
  generalize hres:numV (some (if (r != 0 && decide (x < 0) != decide (y < 0))=true then r+y else r)) []=res
  have HRES:Hid (numV (some (if (r != 0 && decide (x < 0) != decide (y < 0))=true then r+y else r)) []=res):=hres
  clear hres
  by_cases hr:r=0
  ·subst hr
   go_enter Tryz.func67,Tryz.ntmps67
   go_wp2
   go_ret2
   exact ⟨by rw [← HRES.out];simp [numV],rfl⟩
  ·have hrb:(r != 0)=true:=by simpa using hr
   cases hdx:decide (x < 0)
   all_goals cases hdy:decide (y < 0)
   all_goals
    have HDX:Hid (decide (x < 0)=_):=hdx
    have HDY:Hid (decide (y < 0)=_):=hdy
   ·have hx0:¬ x < 0:=by simpa using hdx
    have hy0:¬ y < 0:=by simpa using hdy
    go_enter Tryz.func67,Tryz.ntmps67
    go_wp2
    go_ret2
    refine ⟨?_,rfl⟩
    rw [← HRES.out,hrb,HDX.out,HDY.out]
    rfl
   ·have hx0:¬ x < 0:=by simpa using hdx
    have hy0:y < 0:=by simpa using hdy
    have hw3:=hsm hr (by omega)
    go_enter Tryz.func67,Tryz.ntmps67
    go_wp2
    go_ret2
    refine ⟨?_,rfl⟩
    rw [← HRES.out,hrb,HDX.out,HDY.out]
    rfl
   ·have hx0:x < 0:=by simpa using hdx
    have hy0:¬ y < 0:=by simpa using hdy
    have hw3:=hsm hr (by omega)
    go_enter Tryz.func67,Tryz.ntmps67
    go_wp2
    go_ret2
    refine ⟨?_,rfl⟩
    rw [← HRES.out,hrb,HDX.out,HDY.out]
    rfl
   ·have hx0:x < 0:=by simpa using hdx
    have hy0:y < 0:=by simpa using hdy
    go_enter Tryz.func67,Tryz.ntmps67
    go_wp2
    go_ret2
    refine ⟨?_,rfl⟩
    rw [← HRES.out,hrb,HDX.out,HDY.out]
    rfl
end Go.Proofs.YthbojbbmpcmoaaaGreatDoor.Vl
namespace Go.Proofs.YthbojbbmpcmoaaaGreatDoor.Vl
open Go.RowKit T.atoms T.ok T.high T.good T.allPlain DatAt T.ord
theorem en_of {f:FuncId} {fn:Func} (hfn:Tryz.prog.funcs[f]?=some fn) (hne:(fn.name == "runtime.NumGoroutine")=false) (hbd:fn.body.isNone=false) (args:Array Value) (w:World):(callFunc f args).run Tryz.prog w = .ok (.enter f args) w:=by
 simp only [callFunc,Sem.run_bind,run_program,Result.andThen_ok,hfn,hne,hbd];rfl
def GI (W:World):Prop:=∃ m:Int,W.cell? ⟨1,0,none⟩=some (.int .i64 m)
theorem GI.below {W W':World} (h:GI W) (hb:Below W.heap.size W W'):GI W':=by
 obtain ⟨m,hm⟩:=h
 exact ⟨m,(hb.cell (p:=⟨1,0,none⟩) (World.block_lt_of_cell? W ⟨1,0,none⟩ hm)).trans hm⟩
def Same (lo hi:Nat) (w W:World):Prop:=hi≤W.heap.size∧∀ q,lo≤q→q < hi→W.heap[q]?=w.heap[q]?
theorem Same.refl {lo hi:Nat} {w:World} (h:hi≤w.heap.size):Same lo hi w w:=⟨h,fun _ _ _=>rfl⟩
theorem Same.trans {lo hi:Nat} {w W W':World} (h:Same lo hi w W) (h':Same lo hi W W'):Same lo hi w W':=⟨h'.1,fun q a b=>(h'.2 q a b).trans (h.2 q a b)⟩
theorem Same.below {lo hi:Nat} {w W W':World} (h:Same lo hi w W) (hb:Below W.heap.size W W'):Same lo hi w W':=⟨Nat.le_trans h.1 hb.size,fun q a b=>(hb.block q (Nat.lt_of_lt_of_le b h.1)).trans (h.2 q a b)⟩
theorem Same.grown {lo hi m:Nat} {w W W':World} (h:Same lo hi w W) (hg:W.grownBy W' (some m)) (hm:m < lo):Same lo hi w W':=⟨Nat.le_trans h.1 hg.size,fun q a b=>(hg.block q (Nat.lt_of_lt_of_le b h.1) (fun e=>by have:=Option.some.inj e;omega)).trans (h.2 q a b)⟩
theorem Same.sub {lo hi lo' hi':Nat} {w W:World} (h:Same lo hi w W) (h1:lo≤lo') (h2:hi'≤hi):Same lo' hi' w W:=⟨Nat.le_trans h2 h.1,fun q a b=>h.2 q (Nat.le_trans h1 a) (Nat.lt_of_lt_of_le b h2)⟩
theorem Same.cell {lo hi:Nat} {w W:World} (h:Same lo hi w W) (q o:Nat) (h1:lo≤q) (h2:q < hi):W.cell? ⟨q,o,none⟩=w.cell? ⟨q,o,none⟩:=World.cell?_of_block (a:=⟨q,o,none⟩) (h.2 q h1 h2)
structure DeedAt (lo hi:Nat) (w:World) (f b:Nat) (R:T→T→Out):Prop where
 size:hi≤w.heap.size
 en:∀ args w,(callFunc f args).run Tryz.prog w = .ok (.enter f args) w
 does:∀ W,Same lo hi w W→GI W→∀ t u,t.good=true→u.good=true→t.kind≤4→u.kind≤4→in64 t.num→in64 u.num→∀ (gg cc x y:Nat) (xa xb:Value),gg < W.heap.size→W.cell? ⟨gg,0,none⟩=some xa→W.cell? ⟨gg,1,none⟩=some xb→DatAt W x t xa→DatAt W y u xb→Calls Tryz.prog f #[.slice (some ⟨gg,0,none⟩) 2 cc,.pointer (some ⟨b,0,none⟩)] W (TupPost (DoK W (R t u)))
theorem DeedAt.same {lo hi:Nat} {w W:World} {f b:Nat} {R:T→T→Out} (h:DeedAt lo hi w f b R) (hs:Same lo hi w W):DeedAt lo hi W f b R:=⟨hs.1,h.en,fun W' hw=>h.does W' (hs.trans hw)⟩
theorem DeedAt.wide {lo hi lo' hi':Nat} {w:World} {f b:Nat} {R:T→T→Out} (h:DeedAt lo hi w f b R) (h1:lo'≤lo) (h2:hi≤hi') (h3:hi'≤w.heap.size):DeedAt lo' hi' w f b R:=⟨h3,h.en,fun W' hw=>h.does W' (hw.sub h1 h2)⟩
theorem tup_from {W W1:World} {out:Out} (hb:Below W.heap.size W W1) (e:Ending) (w':World) (h:TupPost (DoK W1 out) e w'):TupPost (DoK W out) e w':=by
 obtain ⟨dv,s,h1,h2⟩:=h
 exact ⟨dv,s,h1,h2.from hb⟩
theorem tup_type {W:World} (e:Ending) (w':World) (h:e = .returned (.tuple #[.nilIface,.string ⟨#[116,121,112,101]⟩])∧Below W.heap.size W w'):TupPost (DoK W (.inl tyW)) e w':=⟨_,_,h.1,h.2,rfl,rfl⟩
theorem formB {w:World} {x:Nat} {t:T} {v:Value} (h:DatAt w x t v):(t.kind=2→∃ b:Bool,v = .iface 92 (.bool b))∧(¬ t.kind=2→∃ y u,v = .iface y u∧¬ y=92):=by
 cases t with
 | mk k n s ks =>
  rw [DatAt] at h
  show (k=2→_)∧(¬ k=2→_)
  rcases h with ⟨rfl,rfl⟩ | ⟨rfl,rfl⟩ | ⟨rfl,rfl⟩ | ⟨rfl,rfl⟩ | ⟨rfl,p,c,vs,rfl,_⟩ | ⟨rfl,p,c,m,vs,_,rfl,_⟩
  all_goals
   refine ⟨fun h=>?_,fun h=>?_⟩
   all_goals first | (exfalso;revert h;decide) | exact ⟨_,rfl⟩ | exact ⟨_,_,_,_,_,rfl⟩ | exact ⟨_,_,rfl,by decide⟩
theorem formI {w:World} {x:Nat} {t:T} {v:Value} (h:DatAt w x t v):(t.kind=3→∃ n:Int,v = .iface 115 (.int .i64 n))∧(¬ t.kind=3→∃ y u,v = .iface y u∧¬ y=115):=by
 cases t with
 | mk k n s ks =>
  rw [DatAt] at h
  show (k=3→_)∧(¬ k=3→_)
  rcases h with ⟨rfl,rfl⟩ | ⟨rfl,rfl⟩ | ⟨rfl,rfl⟩ | ⟨rfl,rfl⟩ | ⟨rfl,p,c,vs,rfl,_⟩ | ⟨rfl,p,c,m,vs,_,rfl,_⟩
  all_goals
   refine ⟨fun h=>?_,fun h=>?_⟩
   all_goals first | (exfalso;revert h;decide) | exact ⟨_,rfl⟩ | exact ⟨_,_,_,_,_,rfl⟩ | exact ⟨_,_,rfl,by decide⟩
theorem formT {w:World} {x:Nat} {t:T} {v:Value} (h:DatAt w x t v):(t.kind=4→∃ s:ByteArray,v = .iface 100 (.string s))∧(¬ t.kind=4→∃ y u,v = .iface y u∧¬ y=100):=by
 cases t with
 | mk k n s ks =>
  rw [DatAt] at h
  show (k=4→_)∧(¬ k=4→_)
  rcases h with ⟨rfl,rfl⟩ | ⟨rfl,rfl⟩ | ⟨rfl,rfl⟩ | ⟨rfl,rfl⟩ | ⟨rfl,p,c,vs,rfl,_⟩ | ⟨rfl,p,c,m,vs,_,rfl,_⟩
  all_goals
   refine ⟨fun h=>?_,fun h=>?_⟩
   all_goals first | (exfalso;revert h;decide) | exact ⟨_,rfl⟩ | exact ⟨_,_,_,_,_,rfl⟩ | exact ⟨_,_,rfl,by decide⟩
def LeafBB (f:FuncId) (R:T→T→Out):Prop:=∀ (W:World) (t u:T) (x y:Nat) (xb:Bool) (zb:Bool),GI W→t.good=true→u.good=true→t.kind≤4→u.kind≤4→in64 t.num→in64 u.num→DatAt W x t (.iface 92 (.bool xb))→DatAt W y u (.iface 92 (.bool zb))→Calls Tryz.prog f #[.bool xb,.bool zb] W (TupPost (DoK W (R t u)))
def twoBB (R:T→T→Out) (t u:T):Out:=if t.kind=2∧u.kind=2 then R t u else .inl tyW
theorem deedBB {w w':World} {f:FuncId} {R:T→T→Out} (hen:∀ args w,(callFunc f args).run Tryz.prog w = .ok (.enter f args) w) (hm:w'.cell? ⟨w.heap.size,0,none⟩=some (.func (.func f) #[] #[])) (hz:w.heap.size < w'.heap.size) (hR:LeafBB f R):DeedAt w.heap.size (w.heap.size+1) w' 101 w.heap.size (twoBB R):=by
 refine ⟨hz,en_of Tryz.func101 (by kernel_rfl) (by kernel_rfl),fun W hs hG t u hg hg' hc hc' hi hi' gg cc x y xa xb h1 h2 h3 h4 h5=>?_⟩
 have hk:=(hs.cell w.heap.size 0 (Nat.le_refl _) (Nat.lt_succ_self _)).trans hm
 have hkl:w.heap.size < W.heap.size:=hs.1
 unfold twoBB
 by_cases ha:t.kind=2
 ·obtain ⟨xb,rfl⟩:=(formB h4).1 ha
  by_cases hb:u.kind=2
  ·obtain ⟨zb,rfl⟩:=(formB h5).1 hb
   rw [if_pos ⟨ha,hb⟩]
   exact twoBB_yes f xb zb gg w.heap.size _ W h2 h3 hk h1 hkl hen (hide (fun W' hb=>(hR W' t u x y xb zb (hG.below hb) hg hg' hc hc' hi hi' (h4.moves (Moves.below hb)) (h5.moves (Moves.below hb))).mono (tup_from hb)))
  ·obtain ⟨y1,u1,rfl,hy⟩:=(formB h5).2 hb
   rw [if_neg (fun h=>hb h.2)]
   exact (twoBB_no2 xb y1 u1 hy gg w.heap.size W h2 h3 h1).mono tup_type
 ·obtain ⟨y1,u1,rfl,hy⟩:=(formB h4).2 ha
  rw [if_neg (fun h=>ha h.1)]
  exact (twoBB_no1 y1 u1 hy gg w.heap.size W h2).mono tup_type
def LeafTT (f:FuncId) (R:T→T→Out):Prop:=∀ (W:World) (t u:T) (x y:Nat) (xs:ByteArray) (zs:ByteArray),GI W→t.good=true→u.good=true→t.kind≤4→u.kind≤4→in64 t.num→in64 u.num→DatAt W x t (.iface 100 (.string xs))→DatAt W y u (.iface 100 (.string zs))→Calls Tryz.prog f #[.string xs,.string zs] W (TupPost (DoK W (R t u)))
def twoTT (R:T→T→Out) (t u:T):Out:=if t.kind=4∧u.kind=4 then R t u else .inl tyW
theorem deedTT {w w':World} {f:FuncId} {R:T→T→Out} (hen:∀ args w,(callFunc f args).run Tryz.prog w = .ok (.enter f args) w) (hm:w'.cell? ⟨w.heap.size,0,none⟩=some (.func (.func f) #[] #[])) (hz:w.heap.size < w'.heap.size) (hR:LeafTT f R):DeedAt w.heap.size (w.heap.size+1) w' 110 w.heap.size (twoTT R):=by
 refine ⟨hz,en_of Tryz.func110 (by kernel_rfl) (by kernel_rfl),fun W hs hG t u hg hg' hc hc' hi hi' gg cc x y xa xb h1 h2 h3 h4 h5=>?_⟩
 have hk:=(hs.cell w.heap.size 0 (Nat.le_refl _) (Nat.lt_succ_self _)).trans hm
 have hkl:w.heap.size < W.heap.size:=hs.1
 unfold twoTT
 by_cases ha:t.kind=4
 ·obtain ⟨xs,rfl⟩:=(formT h4).1 ha
  by_cases hb:u.kind=4
  ·obtain ⟨zs,rfl⟩:=(formT h5).1 hb
   rw [if_pos ⟨ha,hb⟩]
   exact twoTT_yes f xs zs gg w.heap.size _ W h2 h3 hk h1 hkl hen (hide (fun W' hb=>(hR W' t u x y xs zs (hG.below hb) hg hg' hc hc' hi hi' (h4.moves (Moves.below hb)) (h5.moves (Moves.below hb))).mono (tup_from hb)))
  ·obtain ⟨y1,u1,rfl,hy⟩:=(formT h5).2 hb
   rw [if_neg (fun h=>hb h.2)]
   exact (twoTT_no2 xs y1 u1 hy gg w.heap.size W h2 h3 h1).mono tup_type
 ·obtain ⟨y1,u1,rfl,hy⟩:=(formT h4).2 ha
  rw [if_neg (fun h=>ha h.1)]
  exact (twoTT_no1 y1 u1 hy gg w.heap.size W h2).mono tup_type
def LeafII (f:FuncId) (R:T→T→Out):Prop:=∀ (W:World) (t u:T) (x y:Nat) (xn:Int) (zn:Int),GI W→t.good=true→u.good=true→t.kind≤4→u.kind≤4→in64 t.num→in64 u.num→DatAt W x t (.iface 115 (.int .i64 xn))→DatAt W y u (.iface 115 (.int .i64 zn))→Calls Tryz.prog f #[.int .i64 xn,.int .i64 zn] W (TupPost (DoK W (R t u)))
def twoII (R:T→T→Out) (t u:T):Out:=if t.kind=3∧u.kind=3 then R t u else .inl tyW
theorem deedII {w w':World} {f:FuncId} {R:T→T→Out} (hen:∀ args w,(callFunc f args).run Tryz.prog w = .ok (.enter f args) w) (hm:w'.cell? ⟨w.heap.size,0,none⟩=some (.func (.func f) #[] #[])) (hz:w.heap.size < w'.heap.size) (hR:LeafII f R):DeedAt w.heap.size (w.heap.size+1) w' 116 w.heap.size (twoII R):=by
 refine ⟨hz,en_of Tryz.func116 (by kernel_rfl) (by kernel_rfl),fun W hs hG t u hg hg' hc hc' hi hi' gg cc x y xa xb h1 h2 h3 h4 h5=>?_⟩
 have hk:=(hs.cell w.heap.size 0 (Nat.le_refl _) (Nat.lt_succ_self _)).trans hm
 have hkl:w.heap.size < W.heap.size:=hs.1
 unfold twoII
 by_cases ha:t.kind=3
 ·obtain ⟨xn,rfl⟩:=(formI h4).1 ha
  by_cases hb:u.kind=3
  ·obtain ⟨zn,rfl⟩:=(formI h5).1 hb
   rw [if_pos ⟨ha,hb⟩]
   exact twoII_yes f xn zn gg w.heap.size _ W h2 h3 hk h1 hkl hen (hide (fun W' hb=>(hR W' t u x y xn zn (hG.below hb) hg hg' hc hc' hi hi' (h4.moves (Moves.below hb)) (h5.moves (Moves.below hb))).mono (tup_from hb)))
  ·obtain ⟨y1,u1,rfl,hy⟩:=(formI h5).2 hb
   rw [if_neg (fun h=>hb h.2)]
   exact (twoII_no2 xn y1 u1 hy gg w.heap.size W h2 h3 h1).mono tup_type
 ·obtain ⟨y1,u1,rfl,hy⟩:=(formI h4).2 ha
  rw [if_neg (fun h=>ha h.1)]
  exact (twoII_no1 y1 u1 hy gg w.heap.size W h2).mono tup_type
def boolT (b:Bool):T:= .mk 2 (if b then 1 else 0) ⟨#[]⟩ []
theorem boolT_good (b:Bool):(boolT b).good=true:=by cases b <;> decide +kernel
theorem boolT_count (b:Bool):(boolT b).count=1:=by simp [boolT,T.count,T.atoms,atomsL]
theorem boolT_dat (w:World) (x:Nat) (b:Bool):DatAt w x (boolT b) (.iface 92 (.bool b)):=by
 unfold boolT DatAt
 exact .inr (.inl ⟨rfl,by cases b <;> rfl⟩)
theorem tup_bool {W:World} {b:Bool} (e:Ending) (w':World) (h:TupPost (fun dv s w'=>dv = .iface 92 (.bool b)∧s=⟨#[]⟩∧Below W.heap.size W w') e w'):TupPost (DoK W (.inr (boolT b))) e w':=by
 obtain ⟨dv,s,h1,rfl,rfl,h2⟩:=h
 exact ⟨_,_,h1,h2,rfl,boolT_good b,by rw [boolT_count];omega,0,boolT_dat _ _ _⟩
def Holds (h:FuncId) (hb:Int→Bool):Prop:=∀ n w,Calls Tryz.prog h #[.int .i64 n] w fun e w'=>e = .returned (.bool (hb n))∧w'=w
def cmpsD (hb:Int→Bool) (t u:T):Out:= .inr (boolT (hb (t.ord u)))
theorem deedCD {w w':World} {h:FuncId} {hb:Int→Bool} (hen:∀ args w,(callFunc h args).run Tryz.prog w = .ok (.enter h args) w) (HH:Holds h hb) (h0:w'.cell? ⟨w.heap.size,0,none⟩=some (.func (.func h) #[] #[])) (hm:w'.cell? ⟨w.heap.size+1+1,0,none⟩=some (.func (.func 103) #[] #[.pointer (some ⟨w.heap.size,0,none⟩)])) (hz:w.heap.size+1+1 < w'.heap.size):DeedAt w.heap.size (w.heap.size+1+1+1) w' 153 (w.heap.size+1+1) (cmpsD hb):=by
 refine ⟨hz,en_of Tryz.func153 (by kernel_rfl) (by kernel_rfl),fun W hs hG t u hg hg' hc hc' hi hi' gg cc x y xa xb h1 h2 h3 h4 h5=>?_⟩
 have hk:=(hs.cell (w.heap.size+1+1) 0 (by omega) (Nat.lt_succ_self _)).trans hm
 have hq:=(hs.cell w.heap.size 0 (Nat.le_refl _) (by omega)).trans h0
 have hkl:w.heap.size+1+1 < W.heap.size:=hs.1
 have hql:w.heap.size < W.heap.size:=by omega
 have he:=en_of Tryz.func103 (by kernel_rfl) (by kernel_rfl)
 unfold cmpsD
 obtain ⟨xy,xu,rfl,hdx⟩:=dty_of h4
 obtain ⟨zy,zu,rfl,hdz⟩:=dty_of h5
 exact twoDD_yesc 103 w.heap.size xy xu hdx zy zu hdz gg (w.heap.size+1+1) _ W h2 h3 hk h1 hkl he (hide (fun W' hB=>((cmpD_do xy xu zy zu h w.heap.size hb (t.ord u) W' hen (hide HH) (Nat.lt_of_lt_of_le hql hB.size) ((hB.cell (p:=⟨w.heap.size,0,none⟩) hql).trans hq) (hide (fun W2 hB2=>compare_any (t.count+1) t u _ _ x y W2 (Nat.lt_succ_self _) hc hc' hg hg' ((h4.moves (Moves.below hB)).moves (Moves.below hB2)) ((h5.moves (Moves.below hB)).moves (Moves.below hB2))))).mono tup_bool).mono (tup_from hB)))
def cmpsB (hb:Int→Bool) (t u:T):Out:=if t.kind=2∧u.kind=2 then .inr (boolT (hb (t.ord u))) else .inl tyW
theorem deedCB {w w':World} {h:FuncId} {hb:Int→Bool} (hen:∀ args w,(callFunc h args).run Tryz.prog w = .ok (.enter h args) w) (HH:Holds h hb) (h0:w'.cell? ⟨w.heap.size,0,none⟩=some (.func (.func h) #[] #[])) (hm:w'.cell? ⟨w.heap.size+1+1,0,none⟩=some (.func (.func 162) #[] #[.pointer (some ⟨w.heap.size,0,none⟩)])) (hz:w.heap.size+1+1 < w'.heap.size):DeedAt w.heap.size (w.heap.size+1+1+1) w' 101 (w.heap.size+1+1) (cmpsB hb):=by
 refine ⟨hz,en_of Tryz.func101 (by kernel_rfl) (by kernel_rfl),fun W hs hG t u hg hg' hc hc' hi hi' gg cc x y xa xb h1 h2 h3 h4 h5=>?_⟩
 have hk:=(hs.cell (w.heap.size+1+1) 0 (by omega) (Nat.lt_succ_self _)).trans hm
 have hq:=(hs.cell w.heap.size 0 (Nat.le_refl _) (by omega)).trans h0
 have hkl:w.heap.size+1+1 < W.heap.size:=hs.1
 have hql:w.heap.size < W.heap.size:=by omega
 have he:=en_of Tryz.func162 (by kernel_rfl) (by kernel_rfl)
 unfold cmpsB
 by_cases ha:t.kind=2
 ·obtain ⟨xb,rfl⟩:=(formB h4).1 ha
  by_cases hb':u.kind=2
  ·obtain ⟨zb,rfl⟩:=(formB h5).1 hb'
   rw [if_pos ⟨ha,hb'⟩]
   exact twoBB_yesc 162 w.heap.size xb zb gg (w.heap.size+1+1) _ W h2 h3 hk h1 hkl he (hide (fun W' hB=>((cmpB_do xb zb h w.heap.size hb (t.ord u) W' hen (hide HH) (Nat.lt_of_lt_of_le hql hB.size) ((hB.cell (p:=⟨w.heap.size,0,none⟩) hql).trans hq) (hide (fun W2 hB2=>compare_any (t.count+1) t u _ _ x y W2 (Nat.lt_succ_self _) hc hc' hg hg' ((h4.moves (Moves.below hB)).moves (Moves.below hB2)) ((h5.moves (Moves.below hB)).moves (Moves.below hB2))))).mono tup_bool).mono (tup_from hB)))
  ·obtain ⟨y1,u1,rfl,hy⟩:=(formB h5).2 hb'
   rw [if_neg (fun h=>hb' h.2)]
   exact (twoBB_no2 xb y1 u1 hy gg (w.heap.size+1+1) W h2 h3 h1).mono tup_type
 ·obtain ⟨y1,u1,rfl,hy⟩:=(formB h4).2 ha
  rw [if_neg (fun h=>ha h.1)]
  exact (twoBB_no1 y1 u1 hy gg (w.heap.size+1+1) W h2).mono tup_type
def cmpsI (hb:Int→Bool) (t u:T):Out:=if t.kind=3∧u.kind=3 then .inr (boolT (hb (t.ord u))) else .inl tyW
theorem deedCI {w w':World} {h:FuncId} {hb:Int→Bool} (hen:∀ args w,(callFunc h args).run Tryz.prog w = .ok (.enter h args) w) (HH:Holds h hb) (h0:w'.cell? ⟨w.heap.size,0,none⟩=some (.func (.func h) #[] #[])) (hm:w'.cell? ⟨w.heap.size+1+1,0,none⟩=some (.func (.func 163) #[] #[.pointer (some ⟨w.heap.size,0,none⟩)])) (hz:w.heap.size+1+1 < w'.heap.size):DeedAt w.heap.size (w.heap.size+1+1+1) w' 116 (w.heap.size+1+1) (cmpsI hb):=by
 refine ⟨hz,en_of Tryz.func116 (by kernel_rfl) (by kernel_rfl),fun W hs hG t u hg hg' hc hc' hi hi' gg cc x y xa xb h1 h2 h3 h4 h5=>?_⟩
 have hk:=(hs.cell (w.heap.size+1+1) 0 (by omega) (Nat.lt_succ_self _)).trans hm
 have hq:=(hs.cell w.heap.size 0 (Nat.le_refl _) (by omega)).trans h0
 have hkl:w.heap.size+1+1 < W.heap.size:=hs.1
 have hql:w.heap.size < W.heap.size:=by omega
 have he:=en_of Tryz.func163 (by kernel_rfl) (by kernel_rfl)
 unfold cmpsI
 by_cases ha:t.kind=3
 ·obtain ⟨xn,rfl⟩:=(formI h4).1 ha
  by_cases hb':u.kind=3
  ·obtain ⟨zn,rfl⟩:=(formI h5).1 hb'
   rw [if_pos ⟨ha,hb'⟩]
   exact twoII_yesc 163 w.heap.size xn zn gg (w.heap.size+1+1) _ W h2 h3 hk h1 hkl he (hide (fun W' hB=>((cmpI_do xn zn h w.heap.size hb (t.ord u) W' hen (hide HH) (Nat.lt_of_lt_of_le hql hB.size) ((hB.cell (p:=⟨w.heap.size,0,none⟩) hql).trans hq) (hide (fun W2 hB2=>compare_any (t.count+1) t u _ _ x y W2 (Nat.lt_succ_self _) hc hc' hg hg' ((h4.moves (Moves.below hB)).moves (Moves.below hB2)) ((h5.moves (Moves.below hB)).moves (Moves.below hB2))))).mono tup_bool).mono (tup_from hB)))
  ·obtain ⟨y1,u1,rfl,hy⟩:=(formI h5).2 hb'
   rw [if_neg (fun h=>hb' h.2)]
   exact (twoII_no2 xn y1 u1 hy gg (w.heap.size+1+1) W h2 h3 h1).mono tup_type
 ·obtain ⟨y1,u1,rfl,hy⟩:=(formI h4).2 ha
  rw [if_neg (fun h=>ha h.1)]
  exact (twoII_no1 y1 u1 hy gg (w.heap.size+1+1) W h2).mono tup_type
def cmpsT (hb:Int→Bool) (t u:T):Out:=if t.kind=4∧u.kind=4 then .inr (boolT (hb (t.ord u))) else .inl tyW
theorem deedCT {w w':World} {h:FuncId} {hb:Int→Bool} (hen:∀ args w,(callFunc h args).run Tryz.prog w = .ok (.enter h args) w) (HH:Holds h hb) (h0:w'.cell? ⟨w.heap.size,0,none⟩=some (.func (.func h) #[] #[])) (hm:w'.cell? ⟨w.heap.size+1+1,0,none⟩=some (.func (.func 164) #[] #[.pointer (some ⟨w.heap.size,0,none⟩)])) (hz:w.heap.size+1+1 < w'.heap.size):DeedAt w.heap.size (w.heap.size+1+1+1) w' 110 (w.heap.size+1+1) (cmpsT hb):=by
 refine ⟨hz,en_of Tryz.func110 (by kernel_rfl) (by kernel_rfl),fun W hs hG t u hg hg' hc hc' hi hi' gg cc x y xa xb h1 h2 h3 h4 h5=>?_⟩
 have hk:=(hs.cell (w.heap.size+1+1) 0 (by omega) (Nat.lt_succ_self _)).trans hm
 have hq:=(hs.cell w.heap.size 0 (Nat.le_refl _) (by omega)).trans h0
 have hkl:w.heap.size+1+1 < W.heap.size:=hs.1
 have hql:w.heap.size < W.heap.size:=by omega
 have he:=en_of Tryz.func164 (by kernel_rfl) (by kernel_rfl)
 unfold cmpsT
 by_cases ha:t.kind=4
 ·obtain ⟨xs,rfl⟩:=(formT h4).1 ha
  by_cases hb':u.kind=4
  ·obtain ⟨zs,rfl⟩:=(formT h5).1 hb'
   rw [if_pos ⟨ha,hb'⟩]
   exact twoTT_yesc 164 w.heap.size xs zs gg (w.heap.size+1+1) _ W h2 h3 hk h1 hkl he (hide (fun W' hB=>((cmpT_do xs zs h w.heap.size hb (t.ord u) W' hen (hide HH) (Nat.lt_of_lt_of_le hql hB.size) ((hB.cell (p:=⟨w.heap.size,0,none⟩) hql).trans hq) (hide (fun W2 hB2=>compare_any (t.count+1) t u _ _ x y W2 (Nat.lt_succ_self _) hc hc' hg hg' ((h4.moves (Moves.below hB)).moves (Moves.below hB2)) ((h5.moves (Moves.below hB)).moves (Moves.below hB2))))).mono tup_bool).mono (tup_from hB)))
  ·obtain ⟨y1,u1,rfl,hy⟩:=(formT h5).2 hb'
   rw [if_neg (fun h=>hb' h.2)]
   exact (twoTT_no2 xs y1 u1 hy gg (w.heap.size+1+1) W h2 h3 h1).mono tup_type
 ·obtain ⟨y1,u1,rfl,hy⟩:=(formT h4).2 ha
  rw [if_neg (fun h=>ha h.1)]
  exact (twoTT_no1 y1 u1 hy gg (w.heap.size+1+1) W h2).mono tup_type
def tyR (_ _:T):Out:= .inl tyW
theorem form4 {w:World} {x:Nat} {t:T} {v:Value} (h:DatAt w x t v) (hk:t.kind≤4):∃ y u,v = .iface y u∧¬ y=107∧¬ y=112:=by
 cases t with
 | mk k n s ks =>
  have hk:k≤4:=hk
  rw [DatAt] at h
  rcases h with ⟨rfl,rfl⟩ | ⟨rfl,rfl⟩ | ⟨rfl,rfl⟩ | ⟨rfl,rfl⟩ | ⟨rfl,_⟩ | ⟨rfl,_⟩
  all_goals first | (exfalso;revert hk;decide) | exact ⟨_,_,rfl,by decide,by decide⟩
theorem deedLD {w w':World} (hz:w.heap.size < w'.heap.size):DeedAt w.heap.size (w.heap.size+1) w' 112 (w.heap.size) tyR:=by
 refine ⟨hz,en_of Tryz.func112 (by kernel_rfl) (by kernel_rfl),fun W hs hG t u hg hg' hc hc' hi hi' gg cc x y xa xb h1 h2 h3 h4 h5=>?_⟩
 obtain ⟨y1,u1,rfl,hy,_⟩:=form4 h4 hc
 exact (twoLD_no1 y1 u1 (hy) gg (w.heap.size) W h2).mono tup_type
theorem deedRT {w w':World} (hz:w.heap.size < w'.heap.size):DeedAt w.heap.size (w.heap.size+1) w' 114 (w.heap.size) tyR:=by
 refine ⟨hz,en_of Tryz.func114 (by kernel_rfl) (by kernel_rfl),fun W hs hG t u hg hg' hc hc' hi hi' gg cc x y xa xb h1 h2 h3 h4 h5=>?_⟩
 obtain ⟨y1,u1,rfl,_,hy⟩:=form4 h4 hc
 exact (twoRT_no1 y1 u1 (hy) gg (w.heap.size) W h2).mono tup_type
theorem deedLL {w w':World} (hz:w.heap.size < w'.heap.size):DeedAt w.heap.size (w.heap.size+1) w' 119 (w.heap.size) tyR:=by
 refine ⟨hz,en_of Tryz.func119 (by kernel_rfl) (by kernel_rfl),fun W hs hG t u hg hg' hc hc' hi hi' gg cc x y xa xb h1 h2 h3 h4 h5=>?_⟩
 obtain ⟨y1,u1,rfl,hy,_⟩:=form4 h4 hc
 exact (twoLL_no1 y1 u1 (hy) gg (w.heap.size) W h2).mono tup_type
theorem deedRR {w w':World} (hz:w.heap.size < w'.heap.size):DeedAt w.heap.size (w.heap.size+1) w' 122 (w.heap.size) tyR:=by
 refine ⟨hz,en_of Tryz.func122 (by kernel_rfl) (by kernel_rfl),fun W hs hG t u hg hg' hc hc' hi hi' gg cc x y xa xb h1 h2 h3 h4 h5=>?_⟩
 obtain ⟨y1,u1,rfl,_,hy⟩:=form4 h4 hc
 exact (twoRR_no1 y1 u1 (hy) gg (w.heap.size) W h2).mono tup_type
theorem deedCL {w w':World} (hz:w.heap.size+1+1 < w'.heap.size):DeedAt w.heap.size (w.heap.size+1+1+1) w' 119 (w.heap.size+1+1) tyR:=by
 refine ⟨hz,en_of Tryz.func119 (by kernel_rfl) (by kernel_rfl),fun W hs hG t u hg hg' hc hc' hi hi' gg cc x y xa xb h1 h2 h3 h4 h5=>?_⟩
 obtain ⟨y1,u1,rfl,hy,_⟩:=form4 h4 hc
 exact (twoLL_no1 y1 u1 (hy) gg (w.heap.size+1+1) W h2).mono tup_type
end Go.Proofs.YthbojbbmpcmoaaaGreatDoor.Vl
