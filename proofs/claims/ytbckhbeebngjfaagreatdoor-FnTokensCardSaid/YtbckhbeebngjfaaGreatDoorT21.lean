/- Ca. -/
import Derived.Test.YtbckhbeebngjfaaGreatDoorT03
import Derived.Deep.RegionLaw
import Derived.Laws.Bits64
namespace Go.Proofs.YtbckhbeebngjfaaGreatDoor
open Go.RowKit
def Bs:Type:=Nat
def lowB [h:Inhabited Bs]:Nat:=h.default
def objTy:Obj→Option TypeId
 | .cells _ t _=>some t
 | _=>none
def tyAt (w:World) (q:Nat):Option TypeId:=(w.heap[q]?).bind objTy
theorem tyAt_block [Inhabited Bs] {w w':World} {q:Nat} (h:w'.heap[q]?=w.heap[q]?):tyAt w' q=tyAt w q:=by unfold tyAt;rw [h]
theorem tyAt_set [Inhabited Bs] (w:World) (a:Addr) (v:Value) (q:Nat):tyAt (w.setCell a v) q=tyAt w q:=by
 unfold tyAt World.setCell
 simp only [Array.getElem?_modify]
 by_cases h:a.block=q
 ·rw [if_pos h]
  cases w.heap[q]? with
  | none=>rfl
  | some o=>cases o <;> rfl
 ·rw [if_neg h]
theorem tyAt_new [Inhabited Bs] (w:World) (cs:Array Value) (t:TypeId):tyAt (w.alloc (.cells cs t)) w.heap.size=some t:=by unfold tyAt;rw [heap_alloc_new'];rfl
structure Dr (rb:Nat) (w w':World):Prop where
 os:w'.os=w.os
 tape:w'.tape=w.tape
 output:w'.output=w.output
 size:w.heap.size≤w'.heap.size
 block:∀ b,b < w.heap.size→b≠rb→w'.heap[b]?=w.heap[b]?
theorem Dr.refl [Inhabited Bs] (rb:Nat) (w:World):Dr rb w w:=⟨rfl,rfl,rfl,Nat.le_refl _,fun _ _ _=>rfl⟩
theorem Dr.trans [Inhabited Bs] {rb:Nat} {w w1 w2:World} (a:Dr rb w w1) (b:Dr rb w1 w2):Dr rb w w2 :=
 ⟨b.os.trans a.os,b.tape.trans a.tape,b.output.trans a.output,Nat.le_trans a.size b.size,fun q h1 h2=>(b.block q (Nat.lt_of_lt_of_le h1 a.size) h2).trans (a.block q h1 h2)⟩
theorem Dr.of [Inhabited Bs] {rb:Nat} {w w':World} (h:Below w.heap.size w w'):Dr rb w w':=⟨h.os,h.tape,h.output,h.size,fun b hb _=>h.block b hb⟩
theorem Dr.set [Inhabited Bs] (rb:Nat) (w:World) (o:Nat) (v:Value):Dr rb w (w.setCell ⟨rb,o,none⟩ v):=by
 have h:=(Below.refl 0 w).setCell (p:=⟨rb,o,none⟩) (Nat.zero_le _) v
 exact ⟨h.os,h.tape,h.output,h.size,fun b _ hb=>Below.heap_setCell _ _ _ _ hb⟩
theorem Dr.below [Inhabited Bs] {rb B:Nat} {w w':World} (h:Dr rb w w') (hB:B≤rb) (hs:B≤w.heap.size):Below B w w':=⟨h.os,h.tape,h.output,h.size,fun b hb=>h.block b (by omega) (by omega)⟩
theorem Dr.cell [Inhabited Bs] {rb:Nat} {w w':World} (h:Dr rb w w') {b o:Nat} (h1:b < w.heap.size) (h2:b≠rb):w'.cell? ⟨b,o,none⟩=w.cell? ⟨b,o,none⟩:=World.cell?_of_block (a:=⟨b,o,none⟩) (h.block b h1 h2)
structure Rd [Inhabited Bs] (w:World) (rb:Nat) (vb:Value) (n p:Nat):Prop where
 c0:w.cell? ⟨rb,0,none⟩=some vb
 c1:w.cell? ⟨rb,1,none⟩=some (.int .i64 (p:Int))
 f1:w.frozen? ⟨rb,1,none⟩=false
 ty:tyAt w rb=some 45
 lo:lowB≤rb
 by_:(∃ q c,vb = .slice q 0 c∧n=0)∨∃ g o c,vb = .slice (some ⟨g,o,none⟩) n c∧0 < n∧n≤2000∧g < rb∧∀ i,i < n→∃ k:Nat,k < 256∧w.cell? ⟨g,o+i,none⟩=some (.int .u8 (k:Int))
theorem Rd.own [Inhabited Bs] {w:World} {rb:Nat} {vb:Value} {n p:Nat} (h:Rd w rb vb n p):tyAt w rb=some 45∧lowB≤rb:=⟨h.ty,h.lo⟩
theorem Rd.lt [Inhabited Bs] {w:World} {rb:Nat} {vb:Value} {n p:Nat} (h:Rd w rb vb n p):rb < w.heap.size:=World.block_lt_of_cell? w ⟨rb,0,none⟩ h.c0
theorem Rd.set [Inhabited Bs] {w:World} {rb:Nat} {vb:Value} {n p:Nat} (h:Rd w rb vb n p) (q:Nat):Rd (w.setCell ⟨rb,1,none⟩ (.int .i64 (q:Int))) rb vb n q:=by
 refine ⟨(World.cell?_setCell_other _ _ _ _ (by simp)).trans h.c0,World.cell?_setCell_same _ _ _ h.c1,by simpa using h.f1,by rw [tyAt_set];exact h.ty,h.lo,?_⟩
 rcases h.by_ with h | ⟨g,o,c,h1,h2,h3,h4,h6⟩
 ·exact .inl h
 ·refine .inr ⟨g,o,c,h1,h2,h3,h4,fun i hi=>?_⟩
  obtain ⟨k,hk,hc⟩:=h6 i hi
  exact ⟨k,hk,(World.cell?_setCell_other _ _ _ _ (fun e=>Nat.ne_of_lt h4 (congrArg Addr.block e).symm)).trans hc⟩
theorem Rd.keep [Inhabited Bs] {w w':World} {rb:Nat} {vb:Value} {n p:Nat} (h:Rd w rb vb n p) (hb:Below w.heap.size w w'):Rd w' rb vb n p:=by
 have hl:=h.lt
 refine ⟨(hb.cell (p:=⟨rb,0,none⟩) hl).trans h.c0,(hb.cell (p:=⟨rb,1,none⟩) hl).trans h.c1,(hb.frozen (p:=⟨rb,1,none⟩) hl).trans h.f1,(tyAt_block (hb.block rb hl)).trans h.ty,h.lo,?_⟩
 rcases h.by_ with h | ⟨g,o,c,h1,h2,h3,h4,h6⟩
 ·exact .inl h
 ·refine .inr ⟨g,o,c,h1,h2,h3,h4,fun i hi=>?_⟩
  obtain ⟨k,hk,hc⟩:=h6 i hi
  exact ⟨k,hk,(hb.cell (p:=⟨g,o+i,none⟩) (by show g < _;omega)).trans hc⟩
theorem bits_xor_i64_nat [Inhabited Bs] (a b:Nat) (ha:a < 4611686018427387904) (hb:b < 4611686018427387904):bits .xor .i64 (a:Int) (b:Int)=((a ^^^ b:Nat):Int):=by
 have hx:a ^^^ b < 2 ^ 62:=Nat.xor_lt_two_pow (by omega) (by omega)
 have h1:(BitVec.ofInt 64 (a:Int)).toNat=a:=by
  rw [BitVec.ofInt_natCast,BitVec.toNat_ofNat];exact Nat.mod_eq_of_lt (by omega)
 have h2:(BitVec.ofInt 64 (b:Int)).toNat=b:=by
  rw [BitVec.ofInt_natCast,BitVec.toNat_ofNat];exact Nat.mod_eq_of_lt (by omega)
 show IntKind.i64.wrap ((BitVec.ofInt 64 (a:Int) ^^^ BitVec.ofInt 64 (b:Int)).toNat:Int)=_
 rw [BitVec.toNat_xor,h1,h2]
 generalize a ^^^ b=x at *
 rw [IntKind.wrap_i64]
 omega
def PickPost [Inhabited Bs] (rb:Nat) (vb:Value) (n p:Nat) (m:Int) (w:World) (e:Ending) (w':World):Prop:=∃ z:Nat,(z:Int) < m∧e = .returned (.int .i64 (z:Int))∧Rd w' rb vb n (p+1)∧Dr rb w w'
set_option maxRecDepth 100000 in
set_option maxHeartbeats 2000000 in
theorem pick_any [Inhabited Bs] (rb n p:Nat) (vb:Value) (m:Int) (w:World) (h:Rd w rb vb n p) (hp:p≤1000000000) (hm:1≤m) (hm2:m≤1000000) :
  Calls Tryz.prog 8 #[.pointer (some ⟨rb,0,none⟩),.int .i64 m] w fun e w'=>PickPost rb vb n p m w e w':=by
 have c0:=h.c0
 have c1:=h.c1
 have f1:=h.f1
 have hm1:¬ m < 1:=by omega
 rcases h.by_ with ⟨q,c,rfl,hn⟩ | ⟨g,o,c,rfl,hn1,hn2,hg,hB⟩
 ·subst hn
  go_enter Tryz.func8,Tryz.ntmps8
  go_wp2
  go_ret
  exact ⟨0,by omega,rfl,h.set (p+1),Dr.set _ _ _ _⟩
 ·have HB:=hide hB
  clear hB
  by_cases hk:p < n
  ·obtain ⟨k,hk1,hk2⟩:=HB.out p hk
   go_enter Tryz.func8,Tryz.ntmps8
   go_wp2
   go_ret
   have z0:0≤(k:Int) % m:=Int.emod_nonneg _ (by omega)
   have z1:(k:Int) % m < m:=Int.emod_lt_of_pos _ (by omega)
   exact ⟨((k:Int) % m).toNat,by omega,by rw [Int.toNat_of_nonneg z0];rfl,h.set (p+1),Dr.set _ _ _ _⟩
  ·have hi1:p % n < n:=Nat.mod_lt _ hn1
   have hi2:(p*7+3) % n < n:=Nat.mod_lt _ hn1
   obtain ⟨k1,hk1,hb1⟩:=HB.out _ hi1
   obtain ⟨k2,hk2,hb2⟩:=HB.out _ hi2
   have e1:(p:Int) % (n:Int)=((p % n:Nat):Int):=by simp
   have e2:((p:Int)*7+3) % (n:Int)=(((p*7+3) % n:Nat):Int):=by simp
   have e3:(p:Int) / (n:Int)=((p / n:Nat):Int):=by simp
   have hi3:p / n≤p:=Nat.div_le_self _ _
   generalize p % n=i1 at *
   generalize (p*7+3) % n=i2 at *
   generalize p / n=i3 at *
   have d0:(w.setCell ⟨rb,1,none⟩ (.int .i64 ((p:Int)+1))).cell? ⟨rb,0,none⟩=some (.slice (some ⟨g,o,none⟩) n c):=(World.cell?_setCell_other _ _ _ _ (by simp)).trans c0
   have d1:(w.setCell ⟨rb,1,none⟩ (.int .i64 ((p:Int)+1))).cell? ⟨g,o+i1,none⟩=some (.int .u8 (k1:Int)):=(World.cell?_setCell_other _ _ _ _ (fun e=>Nat.ne_of_lt hg (congrArg Addr.block e).symm)).trans hb1
   have d2:(w.setCell ⟨rb,1,none⟩ (.int .i64 ((p:Int)+1))).cell? ⟨g,o+i2,none⟩=some (.int .u8 (k2:Int)):=(World.cell?_setCell_other _ _ _ _ (fun e=>Nat.ne_of_lt hg (congrArg Addr.block e).symm)).trans hb2
   have eX:((k1:Int)*131+(k2:Int)*1117+(p:Int)*29+(i3:Int)*53)=((k1*131+k2*1117+p*29+i3*53:Nat):Int):=by omega
   have e4:bits .xor .i64 ((k1:Int)*131+(k2:Int)*1117+(p:Int)*29+(i3:Int)*53) (((k1:Int)*131+(k2:Int)*1117+(p:Int)*29+(i3:Int)*53) / 64)=(((k1*131+k2*1117+p*29+i3*53) ^^^ (k1*131+k2*1117+p*29+i3*53) / 64:Nat):Int):=by
    rw [eX]
    have:=bits_xor_i64_nat (k1*131+k2*1117+p*29+i3*53) ((k1*131+k2*1117+p*29+i3*53) / 64) (by omega) (by omega)
    rw [← this]
    congr 1
   generalize ((k1*131+k2*1117+p*29+i3*53) ^^^ (k1*131+k2*1117+p*29+i3*53) / 64)=y at *
   clear eX
   have hR:=hide (h.set (p+1))
   clear h
   go_enter Tryz.func8,Tryz.ntmps8
   go_wp2
   go_quiet (fail)
   go_wp2
   go_ret
   have z0:0≤(y:Int) % m:=Int.emod_nonneg _ (by omega)
   have z1:(y:Int) % m < m:=Int.emod_lt_of_pos _ (by omega)
   exact ⟨((y:Int) % m).toNat,by omega,by rw [Int.toNat_of_nonneg z0];rfl,hR.out.keep (below_drewN (Below.refl _ _) _),(Dr.set _ _ _ _).trans (Dr.of (below_drewN (Below.refl _ _) _))⟩
theorem pick_none [Inhabited Bs] (rb n p:Nat) (vb:Value) (w:World) (h:Rd w rb vb n p) (hp:p≤1000000000) :
  Calls Tryz.prog 8 #[.pointer (some ⟨rb,0,none⟩),.int .i64 0] w fun e w'=>e = .returned (.int .i64 0)∧Rd w' rb vb n (p+1)∧Dr rb w w':=by
 have c0:=h.c0
 have c1:=h.c1
 have f1:=h.f1
 go_enter Tryz.func8,Tryz.ntmps8
 go_wp2
 go_ret
 exact ⟨rfl,h.set (p+1),Dr.set _ _ _ _⟩
theorem Dr.frozen [Inhabited Bs] {rb:Nat} {w w':World} (h:Dr rb w w') {b o:Nat} (h1:b < w.heap.size) (h2:b≠rb):w'.frozen? ⟨b,o,none⟩=w.frozen? ⟨b,o,none⟩:=World.frozen?_of_block (h.block b h1 h2)
abbrev Short:={s:ByteArray // s.size≤1000000}
theorem Short.le [Inhabited Bs] (s:Short):s.val.size≤1000000:=s.2
theorem half_odd [Inhabited Bs] (a b j:Nat) (h:j % 2=1):(b+a)+(a+a)*(j / 2)=b+a * j:=by
 have e:j=2*(j / 2)+1:=by omega
 generalize j / 2=k at *
 subst e
 rw [Nat.mul_add,Nat.add_mul,Nat.mul_one,Nat.mul_comm 2 k,← Nat.mul_assoc,Nat.mul_two]
 omega
theorem half_even [Inhabited Bs] (a j:Nat) (h:¬ j % 2=1):(a+a)*(j / 2)=a * j:=by
 have e:j=2*(j / 2):=by omega
 generalize j / 2=k at *
 subst e
 rw [Nat.add_mul,Nat.mul_comm 2 k,← Nat.mul_assoc,Nat.mul_two]
set_option maxRecDepth 100000 in
set_option maxHeartbeats 1000000 in
theorem many_any [Inhabited Bs] (s:ByteArray) (n:Nat) (w:World) (hn9:n≤1000000) (hs:s.size * n≤1000000) :
  Calls Tryz.prog 10 #[.string s,.int .i64 (n:Int)] w fun e w'=>∃ t:Short,e = .returned (.string t)∧w'=w:=by
 go_enter Tryz.func10,Tryz.ntmps10
 go_wp2
 go_loop [0,1,5] (fun a t o=>∃ (j:Nat) (x y:ByteArray),j≤n∧a = .string x∧t = .int .i64 (j:Int)∧o = .string y∧y.size+x.size * j≤1000000) (fun _ t _=>(intOf t).toNat)
 case atStart=>exact ⟨n,s,_,Nat.le_refl _,rfl,rfl,rfl,by show 0+s.size * n≤1000000;omega⟩
 case round =>
  obtain ⟨j,x,y,hj,rfl,rfl,rfl,hb⟩:=hrel
  by_cases h0:0 < j
  ·have hxj:x.size≤x.size * j:=Nat.le_mul_of_pos_right _ h0
   have hx1:x.size≤1000000:=by omega
   have hy1:y.size≤1000000:=by omega
   have HB:=hide hb
   clear hb hxj
   by_cases h1:j % 2=1
   ·have HH:=hide (half_odd x.size y.size j h1)
    have e1:(j:Int) % 2=1:=by omega
    go_wp2
    go_round
    case rel=>exact ⟨j / 2,_,_,by omega,rfl,by go_num,rfl,by rw [ByteArray.size_append,ByteArray.size_append,HH.out];exact HB.out⟩
    case measure=>simp [intOf];omega
   ·have HH:=hide (half_even x.size j h1)
    have e1:((j:Int) % 2 == 1)=false:=by simp;omega
    go_wp2
    go_round
    case rel=>exact ⟨j / 2,_,_,by omega,rfl,by go_num,rfl,by rw [ByteArray.size_append,HH.out];exact HB.out⟩
    case measure=>simp [intOf];omega
  ·go_wp2
   go_ret
   exact ⟨⟨y,by omega,rfl⟩,rfl⟩
def TextPost [Inhabited Bs] (rb:Nat) (vb:Value) (n p k:Nat) (w:World) (e:Ending) (w':World):Prop:=∃ (t:Short) (q:Nat),e = .returned (.string t)∧q≤p+k∧Rd w' rb vb n q∧Dr rb w w'
set_option maxRecDepth 100000 in
set_option maxHeartbeats 2000000 in
theorem drawText_any [Inhabited Bs] (rb n p:Nat) (vb:Value) (w:World) (h:Rd w rb vb n p) (hp:p≤999999000) :
  Calls Tryz.prog 22 #[.pointer (some ⟨rb,0,none⟩)] w fun e w'=>TextPost rb vb n p 7 w e w':=by
 have HP:=hide (fun p w (h:Rd w rb vb n p) (hp:p≤1000000000) m (h1:1≤m) (h2:m≤1000000)=>pick_any rb n p vb m w h hp h1 h2)
 have HR:=hide h
 clear h
 go_enter Tryz.func22,Tryz.ntmps22
 go_wp2_with fail
 refine (HP.out p _ HR.out (by omega) 10 (by omega) (by omega)).mono ?_
 rintro e w1 ⟨z,hz,rfl,R1,D1⟩
 have HR1:=hide R1
 have HD1:=hide D1
 clear R1 D1 HR
 go_wp2_with fail
 all_goals first
  | (go_ret;exact ⟨⟨_,by exact Nat.le_of_ble_eq_true rfl⟩,p+1,rfl,by omega,HR1.out,HD1.out⟩)
  | skip
 refine (HP.out (p+1) _ HR1.out (by omega) 4 (by omega) (by omega)).mono ?_
 rintro e w2 ⟨z2,hz2,rfl,R2,D2⟩
 have HR2:=hide R2
 have HD2:=hide (HD1.out.trans D2)
 clear R2 D2 HR1 HD1
 go_wp2_with fail
 go_loopw [3,4] (fun o t wr=>∃ (j q:Nat) (x:ByteArray),o = .string x∧t = .int .i64 ((j:Int) - 1)∧x.size+j≤5∧j≤z2+1∧q+j≤p+3+z2∧Rd wr rb vb n q∧Dr rb w wr) (fun _ t _=>(intOf t+1).toNat)
 case atStart=>exact ⟨z2+1,p+1+1,_,rfl,by congr 1;omega,by show 0+(z2+1)≤5;omega,by omega,by omega,HR2.out,HD2.out⟩
 case round =>
  obtain ⟨j,q,x,rfl,rfl,hxj,hj,hq,hR,hD⟩:=hrel
  have hx5:x.size≤5:=by omega
  have HR3:=hide hR
  have HD3:=hide hD
  clear hR hD
  by_cases h0:1≤j
  ·have h1:(0:Int)≤(j:Int) - 1:=by omega
   go_wp2_with fail
   refine (HP.out q _ HR3.out (by omega) 4 (by omega) (by omega)).mono ?_
   rintro e w4 ⟨z4,hz4,rfl,R4,D4⟩
   have HR4:=hide R4
   have HD4:=hide (HD3.out.trans D4)
   clear R4 D4 HR3 HD3
   have h4:z4=0∨z4=1∨z4=2∨z4=3:=by omega
   rcases h4 with rfl | rfl | rfl | rfl
   all_goals
    go_wp2
    go_roundw
    case rel=>exact ⟨j - 1,q+1,_,rfl,by congr 1;omega,by rw [ByteArray.size_append];show x.size+1+(j - 1)≤5;omega,by omega,by omega,HR4.out,HD4.out⟩
    case measure=>simp [intOf];omega
  ·have h1:¬ (0:Int)≤(j:Int) - 1:=by omega
   go_wp2
   go_ret
   exact ⟨⟨x,by omega⟩,q,rfl,by omega,HR3.out,HD3.out⟩
def ByV (w:World) (v:Value) (n:Nat):Prop:=(∃ q c,v = .slice q 0 c∧n=0)∨∃ g o c,v = .slice (some ⟨g,o,none⟩) n c∧0 < n∧n≤c∧g < w.heap.size∧∀ i,i < n→∃ k:Nat,k < 256∧w.cell? ⟨g,o+i,none⟩=some (.int .u8 (k:Int))
def OpenPost [Inhabited Bs] (w:World) (e:Ending) (w':World):Prop:=∃ rb vb n,e = .returned (.pointer (some ⟨rb,0,none⟩))∧w.heap.size≤rb∧Rd w' rb vb n 0∧Below w.heap.size w w'
set_option maxRecDepth 100000 in
set_option maxHeartbeats 1000000 in
theorem open_any [Inhabited Bs] (n:Nat) (v:Value) (w:World) (h:ByV w v n) (hB:lowB≤w.heap.size):Calls Tryz.prog 7 #[v] w fun e w'=>OpenPost w e w':=by
 rcases h with ⟨q,c,rfl,rfl⟩ | ⟨g,o,c,rfl,h1,h2,h3,h4⟩
 ·go_enter Tryz.func7,Tryz.ntmps7
  go_wp2
  go_ret
  refine ⟨w.heap.size,.slice q 0 c,0,rfl,Nat.le_refl _,⟨by simp,by simp,by simp,tyAt_new _ _ _,hB,.inl ⟨q,c,rfl,rfl⟩⟩,bA _⟩
 ·have H4:=hide h4
  clear h4
  have hk:∀ (X:Obj) (m:Nat),m≤n→∀ i,i < m→∃ k:Nat,k < 256∧(w.alloc X).cell? ⟨g,o+i,none⟩=some (.int .u8 (k:Int)):=fun X m hm i hi=>by
   obtain ⟨k,hk,hc⟩:=H4.out i (by omega)
   exact ⟨k,hk,(((Below.refl w.heap.size w).alloc (Nat.le_refl _) X).cell (p:=⟨g,o+i,none⟩) h3).trans hc⟩
  have HK:=hide hk
  clear hk
  by_cases hb:(2000:Int) < (n:Int)
  ·go_enter Tryz.func7,Tryz.ntmps7
   go_wp2
   go_ret
   refine ⟨w.heap.size,.slice (some ⟨g,o,none⟩) 2000 c,2000,rfl,Nat.le_refl _,⟨by simp,by simp,by simp,tyAt_new _ _ _,hB,.inr ⟨g,o,c,rfl,by omega,by omega,by omega,HK.out _ 2000 (by omega)⟩⟩,bA _⟩
  ·go_enter Tryz.func7,Tryz.ntmps7
   go_wp2
   go_ret
   refine ⟨w.heap.size,.slice (some ⟨g,o,none⟩) n c,n,rfl,Nat.le_refl _,⟨by simp,by simp,by simp,tyAt_new _ _ _,hB,.inr ⟨g,o,c,rfl,by omega,by omega,by omega,HK.out _ n (by omega)⟩⟩,bA _⟩
def Mine (t:Option TypeId):Prop:=t=some 45∨t=some 103∨t=some 123
def MineF (t:Option TypeId):Prop:=Mine t∨t=some 127
structure TyM [Inhabited Bs] (M:Option TypeId→Prop) (w w':World):Prop where
 os:w'.os=w.os
 tape:w'.tape=w.tape
 output:w'.output=w.output
 size:w.heap.size≤w'.heap.size
 block:∀ q,q < w.heap.size→¬ M (tyAt w q)→w'.heap[q]?=w.heap[q]?
 two:¬ M (some 127)→∀ q,q < w.heap.size→tyAt w q=some 103→tyAt w' q=some 103∧w'.cell? ⟨q,2,none⟩=w.cell? ⟨q,2,none⟩
 old:∀ q,q < w.heap.size→q < lowB→w'.heap[q]?=w.heap[q]?
abbrev Ty [Inhabited Bs]:=TyM Mine
abbrev Tf [Inhabited Bs]:=TyM MineF
section
variable {M:Option TypeId→Prop}
theorem TyM.refl [Inhabited Bs] (w:World):TyM M w w:=⟨rfl,rfl,rfl,Nat.le_refl _,fun _ _ _=>rfl,fun _ _ _ h=>⟨h,rfl⟩,fun _ _ _=>rfl⟩
theorem TyM.trans [Inhabited Bs] {w w1 w2:World} (a:TyM M w w1) (b:TyM M w1 w2):TyM M w w2 :=
 ⟨b.os.trans a.os,b.tape.trans a.tape,b.output.trans a.output,Nat.le_trans a.size b.size,fun q h1 h2=>(b.block q (Nat.lt_of_lt_of_le h1 a.size) (by rw [tyAt_block (a.block q h1 h2)];exact h2)).trans (a.block q h1 h2),fun hn q h1 h2=>by
  obtain ⟨x1,x2⟩:=a.two hn q h1 h2
  obtain ⟨y1,y2⟩:=b.two hn q (Nat.lt_of_lt_of_le h1 a.size) x1
  exact ⟨y1,y2.trans x2⟩,fun q h1 h2=>(b.old q (Nat.lt_of_lt_of_le h1 a.size) h2).trans (a.old q h1 h2)⟩
theorem TyM.of [Inhabited Bs] {w w':World} (h:Below w.heap.size w w'):TyM M w w':=⟨h.os,h.tape,h.output,h.size,fun b hb _=>h.block b hb,fun _ q h1 h2=>⟨(tyAt_block (h.block q h1)).trans h2,h.cell (p:=⟨q,2,none⟩) h1⟩,fun q h1 _=>h.block q h1⟩
theorem TyM.set [Inhabited Bs] {w:World} {b o:Nat} {v:Value} (h:M (tyAt w b)∧lowB≤b) (ho:o≠2):TyM M w (w.setCell ⟨b,o,none⟩ v):=by
 have k:=(Below.refl 0 w).setCell (p:=⟨b,o,none⟩) (Nat.zero_le _) v
 exact ⟨k.os,k.tape,k.output,k.size,fun q _ hq=>Below.heap_setCell _ _ _ _ (fun e=>hq (by rw [e];exact h.1)),fun _ q _ h2=>⟨by rw [tyAt_set];exact h2,World.cell?_setCell_other _ _ _ _ (fun e=>ho (congrArg Addr.off e))⟩,fun q _ hq=>Below.heap_setCell _ _ _ _ (fun e=>by have h2:=h.2;have e':q=b:=e;omega)⟩
theorem TyM.grown [Inhabited Bs] {w w':World} {row:Option Nat} (hg:w.grownBy w' row) (hr:∀ q,row=some q→M (tyAt w q)) (hn:∀ q,row=some q→tyAt w q≠some 103) (hlo:∀ q,row=some q→lowB≤q):TyM M w w' :=
 ⟨hg.os,hg.tape,hg.output,hg.size,fun q h1 h2=>hg.block q h1 (fun e=>h2 (hr q e.symm)),fun _ q h1 h2=>by
  have e:=hg.block q h1 (fun e=>hn q e.symm h2)
  exact ⟨(tyAt_block e).trans h2,World.cell?_of_block (a:=⟨q,2,none⟩) e⟩,fun q h1 h2=>hg.block q h1 (fun e=>by have:=hlo q e.symm;omega)⟩
theorem row_lt [Inhabited Bs] {w:World} {base size:Nat} {e:TypeId} {g c n:Nat} {xs:List Value} {cur:Array Value} (_:w.ownsRow base e size (.slice (some ⟨g,0,none⟩) n c) n xs) (h3:w.heap[g]?=some (.cells cur e)):g < w.heap.size:=by
 rcases Nat.lt_or_ge g w.heap.size with h | h
 ·exact h
 ·rw [Array.getElem?_eq_none h] at h3;cases h3
theorem row_tyM [Inhabited Bs] {w w':World} {base size:Nat} {e:TypeId} {v:Value} {n:Nat} {xs:List Value} (h:w.ownsRow base e size v n xs) (hb:∀ q,q < w.heap.size→tyAt w q=some e→w'.heap[q]?=w.heap[q]?):w'.ownsRow base e size v n xs:=by
 refine ⟨h.1,?_⟩
 rcases h.2 with h1 | ⟨g',cap',cur,hv,h2,h3,h4⟩
 ·exact .inl h1
 ·have hl:g' < w.heap.size:=by
   rcases Nat.lt_or_ge g' w.heap.size with h | h
   ·exact h
   ·rw [Array.getElem?_eq_none h] at h3;cases h3
  exact .inr ⟨g',cap',cur,hv,h2,(hb g' hl (by unfold tyAt;rw [h3];rfl)).trans h3,h4⟩
theorem row_ty [Inhabited Bs] {w w':World} {base size:Nat} {e:TypeId} {v:Value} {n:Nat} {xs:List Value} (h:w.ownsRow base e size v n xs) (hb:TyM M w w') (he:¬ M (some e)):w'.ownsRow base e size v n xs :=
 row_tyM h (fun q hq ht=>hb.block q hq (by rw [ht];exact he))
theorem row_tyAt [Inhabited Bs] {w:World} {base size:Nat} {e:TypeId} {v:Value} {n:Nat} {xs:List Value} (h:w.ownsRow base e size v n xs) {q:Nat} (hq:v.ownBlock=some q):tyAt w q=some e:=by
 rcases h.2 with ⟨h1,_⟩ | ⟨g',cap',cur,hv,h2,h3,h4⟩
 ·rw [h1] at hq;cases hq
 ·rw [hv] at hq
  cases hq
  unfold tyAt
  rw [h3]
  rfl
end
theorem Ty.tf [Inhabited Bs] {w w':World} (h:Ty w w'):Tf w w':=⟨h.os,h.tape,h.output,h.size,fun q h1 h2=>h.block q h1 (fun e=>h2 (.inl e)),fun hn=>absurd (.inr rfl) hn,h.old⟩
theorem Ty.dr [Inhabited Bs] {rb:Nat} {w w':World} (h:Dr rb w w') (hT:tyAt w rb=some 45∧lowB≤rb):Ty w w':=by
 obtain ⟨ht,hlo⟩:=hT
 exact ⟨h.os,h.tape,h.output,h.size,fun q h1 h2=>h.block q h1 (fun e=>h2 (by rw [e];exact .inl ht)),fun _ q h1 h2=>by
  have e:=h.block q h1 (fun e=>by rw [e,ht] at h2;cases h2)
  exact ⟨(tyAt_block e).trans h2,World.cell?_of_block (a:=⟨q,2,none⟩) e⟩,fun q h1 h2=>h.block q h1 (by omega)⟩
def Sh (l:List Tr.Nd):Prop:=∀ x∈l,x.text.size≤1000000
def NR (w:World) (v:Value) (l:List Tr.Nd):Prop:=w.ownsRow 0 82 5 v l.length (Tr.cellsOf l)∧Sh l
theorem mine_node [Inhabited Bs]:¬ Mine (some 82):=by unfold Mine;simp
theorem mineF_node [Inhabited Bs]:¬ MineF (some 82):=by unfold MineF Mine;simp
theorem NR.ty [Inhabited Bs] {w w':World} {v:Value} {l:List Tr.Nd} (h:NR w v l) (hb:Ty w w'):NR w' v l:=⟨row_ty h.1 hb mine_node,h.2⟩
theorem NR.tf [Inhabited Bs] {w w':World} {v:Value} {l:List Tr.Nd} (h:NR w v l) (hb:Tf w w'):NR w' v l:=⟨row_ty h.1 hb mineF_node,h.2⟩
end Go.Proofs.YtbckhbeebngjfaaGreatDoor
