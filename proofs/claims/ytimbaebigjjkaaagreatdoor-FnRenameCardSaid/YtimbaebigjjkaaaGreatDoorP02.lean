/- Ca, Ha. -/
import Derived.Test.YtimbaebigjjkaaaGreatDoorP01
import Derived.Deep.RegionLaw
import Derived.Laws.Bits64
namespace Go.Proofs.YtimbaebigjjkaaaGreatDoor
open Go.RowKit
def Bs:Type:=Nat
abbrev LB:=Inhabited Bs
def lowB [h:LB]:Nat:=h.default
def objTy:Obj→Option TypeId
 | .cells _ t _=>some t
 | _=>none
def tyAt (w:World) (q:Nat):Option TypeId:=(w.heap[q]?).bind objTy
theorem XX [LB] {w w':World} {q:Nat} (h:w'.heap[q]?=w.heap[q]?):tyAt w' q=tyAt w q:=by unfold tyAt;rw [h]
theorem Ky [LB] (w:World) (a:Addr) (v:Value) (q:Nat):tyAt (w.setCell a v) q=tyAt w q:=by
 unfold tyAt World.setCell
 simp only [Array.getElem?_modify]
 by_cases h:a.block=q
 ·rw [if_pos h]
  cases w.heap[q]? with
  | none=>rfl
  | some o=>cases o <;> rfl
 ·rw [if_neg h]
theorem JD [LB] (w:World) (cs:Array Value) (t:TypeId):tyAt (w.alloc (.cells cs t)) w.heap.size=some t:=by unfold tyAt;rw [Xi];rfl
structure Dr (rb:Nat) (w w':World):Prop where
 os:w'.os=w.os
 tape:w'.tape=w.tape
 output:w'.output=w.output
 size:w.heap.size≤w'.heap.size
 block:∀ b,b < w.heap.size→b≠rb→w'.heap[b]?=w.heap[b]?
theorem Dr.trans [LB] {rb:Nat} {w w1 w2:World} (a:Dr rb w w1) (b:Dr rb w1 w2):Dr rb w w2 :=
 ⟨b.os.trans a.os,b.tape.trans a.tape,b.output.trans a.output,Nat.le_trans a.size b.size,fun q h1 h2=>(b.block q (Nat.lt_of_lt_of_le h1 a.size) h2).trans (a.block q h1 h2)⟩
theorem Dr.of [LB] {rb:Nat} {w w':World} (h:Below w.heap.size w w'):Dr rb w w':=⟨h.os,h.tape,h.output,h.size,fun b hb _=>h.block b hb⟩
theorem Dr.set [LB] (rb:Nat) (w:World) (o:Nat) (v:Value):Dr rb w (w.setCell ⟨rb,o,none⟩ v):=by
 have h:=(Below.refl 0 w).setCell (p:=⟨rb,o,none⟩) (Nat.zero_le _) v
 exact ⟨h.os,h.tape,h.output,h.size,fun b _ hb=>Below.heap_setCell _ _ _ _ hb⟩
structure Rd [LB] (w:World) (rb:Nat) (vb:Value) (n p:Nat):Prop where
 c0:w.cell? ⟨rb,0,none⟩=some vb
 c1:w.cell? ⟨rb,1,none⟩=some (.int .i64 (p:Int))
 f1:w.frozen? ⟨rb,1,none⟩=false
 ty:tyAt w rb=some 68
 lo:lowB≤rb
 by_:(∃ q c,vb = .slice q 0 c∧n=0)∨∃ g o c,vb = .slice (some ⟨g,o,none⟩) n c∧0 < n∧n≤2000∧g < rb∧∀ i,i < n→∃ k:Nat,k < 256∧w.cell? ⟨g,o+i,none⟩=some (.int .u8 (k:Int))
theorem Rd.own [LB] {w:World} {rb:Nat} {vb:Value} {n p:Nat} (h:Rd w rb vb n p):tyAt w rb=some 68∧lowB≤rb:=⟨h.ty,h.lo⟩
theorem Rd.lt [LB] {w:World} {rb:Nat} {vb:Value} {n p:Nat} (h:Rd w rb vb n p):rb < w.heap.size:=World.block_lt_of_cell? w ⟨rb,0,none⟩ h.c0
theorem Rd.set [LB] {w:World} {rb:Nat} {vb:Value} {n p:Nat} (h:Rd w rb vb n p) (q:Nat):Rd (w.setCell ⟨rb,1,none⟩ (.int .i64 (q:Int))) rb vb n q:=by
 refine ⟨(World.cell?_setCell_other _ _ _ _ (by simp)).trans h.c0,World.cell?_setCell_same _ _ _ h.c1,by simpa using h.f1,by rw [Ky];exact h.ty,h.lo,?_⟩
 rcases h.by_ with h | ⟨g,o,c,h1,h2,h3,h4,h6⟩
 ·exact .inl h
 ·refine .inr ⟨g,o,c,h1,h2,h3,h4,fun i hi=>?_⟩
  obtain ⟨k,hk,hc⟩:=h6 i hi
  exact ⟨k,hk,(World.cell?_setCell_other _ _ _ _ (fun e=>Nat.ne_of_lt h4 (congrArg Addr.block e).symm)).trans hc⟩
theorem Rd.keep [LB] {w w':World} {rb:Nat} {vb:Value} {n p:Nat} (h:Rd w rb vb n p) (hb:Below w.heap.size w w'):Rd w' rb vb n p:=by
 have hl:=h.lt
 refine ⟨(hb.cell (p:=⟨rb,0,none⟩) hl).trans h.c0,(hb.cell (p:=⟨rb,1,none⟩) hl).trans h.c1,(hb.frozen (p:=⟨rb,1,none⟩) hl).trans h.f1,(XX (hb.block rb hl)).trans h.ty,h.lo,?_⟩
 rcases h.by_ with h | ⟨g,o,c,h1,h2,h3,h4,h6⟩
 ·exact .inl h
 ·refine .inr ⟨g,o,c,h1,h2,h3,h4,fun i hi=>?_⟩
  obtain ⟨k,hk,hc⟩:=h6 i hi
  exact ⟨k,hk,(hb.cell (p:=⟨g,o+i,none⟩) (by show g < _;omega)).trans hc⟩
theorem bits_xor_i64_nat [LB] (a b:Nat) (ha:a < 4611686018427387904) (hb:b < 4611686018427387904):bits .xor .i64 (a:Int) (b:Int)=((a ^^^ b:Nat):Int):=by
 have hx:a ^^^ b < 2 ^ 62:=Nat.xor_lt_two_pow (by omega) (by omega)
 have h1:(BitVec.ofInt 64 (a:Int)).toNat=a:=by
  rw [BitVec.ofInt_natCast,BitVec.toNat_ofNat];exact Nat.mod_eq_of_lt (by omega)
 have h2:(BitVec.ofInt 64 (b:Int)).toNat=b:=by
  rw [BitVec.ofInt_natCast,BitVec.toNat_ofNat];exact Nat.mod_eq_of_lt (by omega)
 show IntKind.i64.wrap ((BitVec.ofInt 64 (a:Int) ^^^ BitVec.ofInt 64 (b:Int)).toNat:Int)=_
 rw [BitVec.toNat_xor,h1,h2]
 generalize a ^^^ b=x at *
 rw [IntKind.wrap_i64]
 omega
def PickPost [LB] (rb:Nat) (vb:Value) (n p:Nat) (m:Int) (w:World) (e:Ending) (w':World):Prop:=∃ z:Nat,(z:Int) < m∧e = .returned (.int .i64 (z:Int))∧Rd w' rb vb n (p+1)∧Dr rb w w'
set_option maxRecDepth 100000 in
set_option maxHeartbeats 2000000 in
theorem JG [LB] (rb n p:Nat) (vb:Value) (m:Int) (w:World) (h:Rd w rb vb n p) (hp:p≤1000000000) (hm:1≤m) (hm2:m≤1000000) :
  Calls Tryz.prog 14 #[.pointer (some ⟨rb,0,none⟩),.int .i64 m] w fun e w'=>PickPost rb vb n p m w e w':=by
 have c0:=h.c0
 have c1:=h.c1
 have f1:=h.f1
 have hm1:¬ m < 1:=by omega
 rcases h.by_ with ⟨q,c,rfl,hn⟩ | ⟨g,o,c,rfl,hn1,hn2,hg,hB⟩
 ·subst hn
  go_enter Tryz.func14,Tryz.ntmps14
  go_wp2
  go_ret
  exact ⟨0,by omega,rfl,h.set (p+1),Dr.set _ _ _ _⟩
 ·have HB:=X1 hB
  clear hB
  by_cases hk:p < n
  ·obtain ⟨k,hk1,hk2⟩:=HB.o p hk
   go_enter Tryz.func14,Tryz.ntmps14
   go_wp2
   go_ret
   have z0:0≤(k:Int) % m:=Int.emod_nonneg _ (by omega)
   have z1:(k:Int) % m < m:=Int.emod_lt_of_pos _ (by omega)
   exact ⟨((k:Int) % m).toNat,by omega,by rw [Int.toNat_of_nonneg z0];rfl,h.set (p+1),Dr.set _ _ _ _⟩
  ·have hi1:p % n < n:=Nat.mod_lt _ hn1
   have hi2:(p*7+3) % n < n:=Nat.mod_lt _ hn1
   obtain ⟨k1,hk1,hb1⟩:=HB.o _ hi1
   obtain ⟨k2,hk2,hb2⟩:=HB.o _ hi2
   have e1:(p:Int) % (n:Int)=((p % n:Nat):Int):=by simp
   have e2:((p:Int)*7+3) % (n:Int)=(((p*7+3) % n:Nat):Int):=by simp
   have e3:(p:Int) / (n:Int)=((p / n:Nat):Int):=by simp
   have hi3:p / n≤p:=Nat.div_le_self _ _
   generalize p % n=i1 at *
   generalize (p*7+3) % n=i2 at *
   generalize p / n=i3 at *
   have d0:(w.setCell ⟨rb,1,none⟩ (.int .i64 ((p:Int)+1))).cell? ⟨rb,0,none⟩=some (.slice (some ⟨g,o,none⟩) n c):=(World.cell?_setCell_other _ _ _ _ (by simp)).trans c0
   have d1:(w.setCell ⟨rb,1,none⟩ (.int .i64 ((p:Int)+1))).cell? ⟨g,o+i1,none⟩=some (.int .u8 (k1:Int)):=(World.cell?_setCell_other _ _ _ _ (fun e=>Nat.ne_of_lt hg (congrArg Addr.block e).symm)).trans hb1
   have d2:(w.setCell ⟨rb,1,none⟩ (.int .i64 ((p:Int)+1))).cell? ⟨g,o+i2,none⟩=some (.int .u8 (k2:Int)):=(World.cell?_setCell_other _ _ _ _ (fun e=>Nat.ne_of_lt hg (congrArg Addr.block e).symm)).trans hb2
   have eX:((k1:Int)*131+(k2:Int)*1117+(p:Int)*29+(i3:Int)*53)=((k1*131+k2*1117+p*29+i3*53:Nat):Int):=by omega
   have e4:bits .xor .i64 ((k1:Int)*131+(k2:Int)*1117+(p:Int)*29+(i3:Int)*53) (((k1:Int)*131+(k2:Int)*1117+(p:Int)*29+(i3:Int)*53) / 64)=(((k1*131+k2*1117+p*29+i3*53) ^^^ (k1*131+k2*1117+p*29+i3*53) / 64:Nat):Int):=by
    rw [eX]
    have:=bits_xor_i64_nat (k1*131+k2*1117+p*29+i3*53) ((k1*131+k2*1117+p*29+i3*53) / 64) (by omega) (by omega)
    rw [← this]
    congr 1
   generalize ((k1*131+k2*1117+p*29+i3*53) ^^^ (k1*131+k2*1117+p*29+i3*53) / 64)=y at *
   clear eX
   have hR:=X1 (h.set (p+1))
   clear h
   go_enter Tryz.func14,Tryz.ntmps14
   go_wp2
   go_quiet (fail)
   go_wp2
   go_ret
   have z0:0≤(y:Int) % m:=Int.emod_nonneg _ (by omega)
   have z1:(y:Int) % m < m:=Int.emod_lt_of_pos _ (by omega)
   exact ⟨((y:Int) % m).toNat,by omega,by rw [Int.toNat_of_nonneg z0];rfl,hR.o.keep (below_drewN (Below.refl _ _) _),(Dr.set _ _ _ _).trans (Dr.of (below_drewN (Below.refl _ _) _))⟩
theorem pick_none [LB] (rb n p:Nat) (vb:Value) (w:World) (h:Rd w rb vb n p) (hp:p≤1000000000) :
  Calls Tryz.prog 14 #[.pointer (some ⟨rb,0,none⟩),.int .i64 0] w fun e w'=>e = .returned (.int .i64 0)∧Rd w' rb vb n (p+1)∧Dr rb w w':=by
 have c0:=h.c0
 have c1:=h.c1
 have f1:=h.f1
 go_enter Tryz.func14,Tryz.ntmps14
 go_wp2
 go_ret
 exact ⟨rfl,h.set (p+1),Dr.set _ _ _ _⟩
abbrev Short:={s:ByteArray // s.size≤1000000}
theorem Short.le [LB] (s:Short):s.val.size≤1000000:=s.2
theorem half_odd [LB] (a b j:Nat) (h:j % 2=1):(b+a)+(a+a)*(j / 2)=b+a * j:=by
 have e:j=2*(j / 2)+1:=by omega
 generalize j / 2=k at *
 subst e
 rw [Nat.mul_add,Nat.add_mul,Nat.mul_one,Nat.mul_comm 2 k,← Nat.mul_assoc,Nat.mul_two]
 omega
theorem half_even [LB] (a j:Nat) (h:¬ j % 2=1):(a+a)*(j / 2)=a * j:=by
 have e:j=2*(j / 2):=by omega
 generalize j / 2=k at *
 subst e
 rw [Nat.add_mul,Nat.mul_comm 2 k,← Nat.mul_assoc,Nat.mul_two]
set_option maxRecDepth 100000 in
set_option maxHeartbeats 1000000 in
theorem many_any [LB] (s:ByteArray) (n:Nat) (w:World) (hn9:n≤1000000) (hs:s.size * n≤1000000) :
  Calls Tryz.prog 15 #[.string s,.int .i64 (n:Int)] w fun e w'=>∃ t:Short,e = .returned (.string t)∧w'=w:=by
 go_enter Tryz.func15,Tryz.ntmps15
 go_wp2
 go_loop [0,1,5] (fun a t o=>∃ (j:Nat) (x y:ByteArray),j≤n∧a = .string x∧t = .int .i64 (j:Int)∧o = .string y∧y.size+x.size * j≤1000000) (fun _ t _=>(intOf t).toNat)
 case atStart=>exact ⟨n,s,_,Nat.le_refl _,rfl,rfl,rfl,by show 0+s.size * n≤1000000;omega⟩
 case round =>
  obtain ⟨j,x,y,hj,rfl,rfl,rfl,hb⟩:=hrel
  by_cases h0:0 < j
  ·have hxj:x.size≤x.size * j:=Nat.le_mul_of_pos_right _ h0
   have hx1:x.size≤1000000:=by omega
   have hy1:y.size≤1000000:=by omega
   have HB:=X1 hb
   clear hb hxj
   by_cases h1:j % 2=1
   ·have HH:=X1 (half_odd x.size y.size j h1)
    have e1:(j:Int) % 2=1:=by omega
    go_wp2
    go_round
    case rel=>exact ⟨j / 2,_,_,by omega,rfl,by go_num,rfl,by rw [ByteArray.size_append,ByteArray.size_append,HH.o];exact HB.o⟩
    case measure=>simp [intOf];omega
   ·have HH:=X1 (half_even x.size j h1)
    have e1:((j:Int) % 2 == 1)=false:=by simp;omega
    go_wp2
    go_round
    case rel=>exact ⟨j / 2,_,_,by omega,rfl,by go_num,rfl,by rw [ByteArray.size_append,HH.o];exact HB.o⟩
    case measure=>simp [intOf];omega
  ·go_wp2
   go_ret
   exact ⟨⟨y,by omega,rfl⟩,rfl⟩
def TextPost [LB] (rb:Nat) (vb:Value) (n p k:Nat) (w:World) (e:Ending) (w':World):Prop:=∃ (t:Short) (q:Nat),e = .returned (.string t)∧q≤p+k∧Rd w' rb vb n q∧Dr rb w w'
set_option maxRecDepth 100000 in
set_option maxHeartbeats 2000000 in
theorem drawText_any [LB] (rb n p:Nat) (vb:Value) (w:World) (h:Rd w rb vb n p) (hp:p≤999999000) :
  Calls Tryz.prog 114 #[.pointer (some ⟨rb,0,none⟩)] w fun e w'=>TextPost rb vb n p 7 w e w':=by
 have HP:=X1 (fun p w (h:Rd w rb vb n p) (hp:p≤1000000000) m (h1:1≤m) (h2:m≤1000000)=>JG rb n p vb m w h hp h1 h2)
 have HR:=X1 h
 clear h
 go_enter Tryz.func114,Tryz.ntmps114
 go_wp2_with fail
 refine (HP.o p _ HR.o (by omega) 10 (by omega) (by omega)).mono ?_
 rintro e w1 ⟨z,hz,rfl,R1,D1⟩
 have l:=X1 R1
 have f:=X1 D1
 clear R1 D1 HR
 go_wp2_with fail
 all_goals first
  | (go_ret;exact ⟨⟨_,by exact Nat.le_of_ble_eq_true rfl⟩,p+1,rfl,by omega,l.o,f.o⟩)
  | skip
 refine (HP.o (p+1) _ l.o (by omega) 4 (by omega) (by omega)).mono ?_
 rintro e w2 ⟨z2,hz2,rfl,R2,D2⟩
 have HR2:=X1 R2
 have HD2:=X1 (f.o.trans D2)
 clear R2 D2 l f
 go_wp2_with fail
 go_loopw [3,4] (fun o t wr=>∃ (j q:Nat) (x:ByteArray),o = .string x∧t = .int .i64 ((j:Int) - 1)∧x.size+j≤5∧j≤z2+1∧q+j≤p+3+z2∧Rd wr rb vb n q∧Dr rb w wr) (fun _ t _=>(intOf t+1).toNat)
 case atStart=>exact ⟨z2+1,p+1+1,_,rfl,by congr 1;omega,by show 0+(z2+1)≤5;omega,by omega,by omega,HR2.o,HD2.o⟩
 case round =>
  obtain ⟨j,q,x,rfl,rfl,hxj,hj,hq,hR,hD⟩:=hrel
  have hx5:x.size≤5:=by omega
  have b:=X1 hR
  have d:=X1 hD
  clear hR hD
  by_cases h0:1≤j
  ·have h1:(0:Int)≤(j:Int) - 1:=by omega
   go_wp2_with fail
   refine (HP.o q _ b.o (by omega) 4 (by omega) (by omega)).mono ?_
   rintro e w4 ⟨z4,hz4,rfl,R4,D4⟩
   have HR4:=X1 R4
   have HD4:=X1 (d.o.trans D4)
   clear R4 D4 b d
   have h4:z4=0∨z4=1∨z4=2∨z4=3:=by omega
   rcases h4 with rfl | rfl | rfl | rfl
   all_goals
    go_wp2
    go_roundw
    case rel=>exact ⟨j - 1,q+1,_,rfl,by congr 1;omega,by rw [ByteArray.size_append];show x.size+1+(j - 1)≤5;omega,by omega,by omega,HR4.o,HD4.o⟩
    case measure=>simp [intOf];omega
  ·have h1:¬ (0:Int)≤(j:Int) - 1:=by omega
   go_wp2
   go_ret
   exact ⟨⟨x,by omega⟩,q,rfl,by omega,b.o,d.o⟩
def ByV (w:World) (v:Value) (n:Nat):Prop:=(∃ q c,v = .slice q 0 c∧n=0)∨∃ g o c,v = .slice (some ⟨g,o,none⟩) n c∧0 < n∧n≤c∧g < w.heap.size∧∀ i,i < n→∃ k:Nat,k < 256∧w.cell? ⟨g,o+i,none⟩=some (.int .u8 (k:Int))
def OpenPost [LB] (w:World) (e:Ending) (w':World):Prop:=∃ rb vb n,e = .returned (.pointer (some ⟨rb,0,none⟩))∧w.heap.size≤rb∧Rd w' rb vb n 0∧Below w.heap.size w w'
set_option maxRecDepth 100000 in
set_option maxHeartbeats 1000000 in
theorem open_any [LB] (n:Nat) (v:Value) (w:World) (h:ByV w v n) (hB:lowB≤w.heap.size):Calls Tryz.prog 11 #[v] w fun e w'=>OpenPost w e w':=by
 rcases h with ⟨q,c,rfl,rfl⟩ | ⟨g,o,c,rfl,h1,h2,h3,h4⟩
 ·go_enter Tryz.func11,Tryz.ntmps11
  go_wp2
  go_ret
  refine ⟨w.heap.size,.slice q 0 c,0,rfl,Nat.le_refl _,⟨by simp,by simp,by simp,JD _ _ _,hB,.inl ⟨q,c,rfl,rfl⟩⟩,bA _⟩
 ·have H4:=X1 h4
  clear h4
  have hk:∀ (X:Obj) (m:Nat),m≤n→∀ i,i < m→∃ k:Nat,k < 256∧(w.alloc X).cell? ⟨g,o+i,none⟩=some (.int .u8 (k:Int)):=fun X m hm i hi=>by
   obtain ⟨k,hk,hc⟩:=H4.o i (by omega)
   exact ⟨k,hk,(((Below.refl w.heap.size w).alloc (Nat.le_refl _) X).cell (p:=⟨g,o+i,none⟩) h3).trans hc⟩
  have HK:=X1 hk
  clear hk
  by_cases hb:(2000:Int) < (n:Int)
  ·go_enter Tryz.func11,Tryz.ntmps11
   go_wp2
   go_ret
   refine ⟨w.heap.size,.slice (some ⟨g,o,none⟩) 2000 c,2000,rfl,Nat.le_refl _,⟨by simp,by simp,by simp,JD _ _ _,hB,.inr ⟨g,o,c,rfl,by omega,by omega,by omega,HK.o _ 2000 (by omega)⟩⟩,bA _⟩
  ·go_enter Tryz.func11,Tryz.ntmps11
   go_wp2
   go_ret
   refine ⟨w.heap.size,.slice (some ⟨g,o,none⟩) n c,n,rfl,Nat.le_refl _,⟨by simp,by simp,by simp,JD _ _ _,hB,.inr ⟨g,o,c,rfl,by omega,by omega,by omega,HK.o _ n (by omega)⟩⟩,bA _⟩
def Mine (t:Option TypeId):Prop:=t=some 68∨t=some 116∨t=some 142
def MineF (t:Option TypeId):Prop:=Mine t∨t=some 148
structure TyM [LB] (M:Option TypeId→Prop) (w w':World):Prop where
 os:w'.os=w.os
 tape:w'.tape=w.tape
 output:w'.output=w.output
 size:w.heap.size≤w'.heap.size
 block:∀ q,q < w.heap.size→¬ M (tyAt w q)→w'.heap[q]?=w.heap[q]?
 two:¬ M (some 148)→∀ q,q < w.heap.size→tyAt w q=some 116→tyAt w' q=some 116∧w'.cell? ⟨q,2,none⟩=w.cell? ⟨q,2,none⟩
 old:∀ q,q < w.heap.size→q < lowB→w'.heap[q]?=w.heap[q]?
abbrev Ty [LB]:=TyM Mine
abbrev Tf [LB]:=TyM MineF
section
variable {M:Option TypeId→Prop}
theorem TyM.refl [LB] (w:World):TyM M w w:=⟨rfl,rfl,rfl,Nat.le_refl _,fun _ _ _=>rfl,fun _ _ _ h=>⟨h,rfl⟩,fun _ _ _=>rfl⟩
theorem TyM.trans [LB] {w w1 w2:World} (a:TyM M w w1) (b:TyM M w1 w2):TyM M w w2 :=
 ⟨b.os.trans a.os,b.tape.trans a.tape,b.output.trans a.output,Nat.le_trans a.size b.size,fun q h1 h2=>(b.block q (Nat.lt_of_lt_of_le h1 a.size) (by rw [XX (a.block q h1 h2)];exact h2)).trans (a.block q h1 h2),fun hn q h1 h2=>by
  obtain ⟨x1,x2⟩:=a.two hn q h1 h2
  obtain ⟨y1,y2⟩:=b.two hn q (Nat.lt_of_lt_of_le h1 a.size) x1
  exact ⟨y1,y2.trans x2⟩,fun q h1 h2=>(b.old q (Nat.lt_of_lt_of_le h1 a.size) h2).trans (a.old q h1 h2)⟩
theorem TyM.of [LB] {w w':World} (h:Below w.heap.size w w'):TyM M w w':=⟨h.os,h.tape,h.output,h.size,fun b hb _=>h.block b hb,fun _ q h1 h2=>⟨(XX (h.block q h1)).trans h2,h.cell (p:=⟨q,2,none⟩) h1⟩,fun q h1 _=>h.block q h1⟩
theorem TyM.set [LB] {w:World} {b o:Nat} {v:Value} (h:M (tyAt w b)∧lowB≤b) (ho:o≠2):TyM M w (w.setCell ⟨b,o,none⟩ v):=by
 have k:=(Below.refl 0 w).setCell (p:=⟨b,o,none⟩) (Nat.zero_le _) v
 exact ⟨k.os,k.tape,k.output,k.size,fun q _ hq=>Below.heap_setCell _ _ _ _ (fun e=>hq (by rw [e];exact h.1)),fun _ q _ h2=>⟨by rw [Ky];exact h2,World.cell?_setCell_other _ _ _ _ (fun e=>ho (congrArg Addr.off e))⟩,fun q _ hq=>Below.heap_setCell _ _ _ _ (fun e=>by have h2:=h.2;have e':q=b:=e;omega)⟩
theorem TyM.grown [LB] {w w':World} {row:Option Nat} (hg:w.grownBy w' row) (hr:∀ q,row=some q→M (tyAt w q)) (hn:∀ q,row=some q→tyAt w q≠some 116) (hlo:∀ q,row=some q→lowB≤q):TyM M w w' :=
 ⟨hg.os,hg.tape,hg.output,hg.size,fun q h1 h2=>hg.block q h1 (fun e=>h2 (hr q e.symm)),fun _ q h1 h2=>by
  have e:=hg.block q h1 (fun e=>hn q e.symm h2)
  exact ⟨(XX e).trans h2,World.cell?_of_block (a:=⟨q,2,none⟩) e⟩,fun q h1 h2=>hg.block q h1 (fun e=>by have:=hlo q e.symm;omega)⟩
theorem YZ [LB] {w w':World} {base size:Nat} {e:TypeId} {v:Value} {n:Nat} {xs:List Value} (h:w.ownsRow base e size v n xs) (hb:∀ q,q < w.heap.size→tyAt w q=some e→w'.heap[q]?=w.heap[q]?):w'.ownsRow base e size v n xs:=by
 refine ⟨h.1,?_⟩
 rcases h.2 with h1 | ⟨g',cap',cur,hv,h2,h3,h4⟩
 ·exact .inl h1
 ·have hl:g' < w.heap.size:=by
   rcases Nat.lt_or_ge g' w.heap.size with h | h
   ·exact h
   ·rw [Array.getElem?_eq_none h] at h3;cases h3
  exact .inr ⟨g',cap',cur,hv,h2,(hb g' hl (by unfold tyAt;rw [h3];rfl)).trans h3,h4⟩
theorem XO [LB] {w w':World} {base size:Nat} {e:TypeId} {v:Value} {n:Nat} {xs:List Value} (h:w.ownsRow base e size v n xs) (hb:TyM M w w') (he:¬ M (some e)):w'.ownsRow base e size v n xs :=
 YZ h (fun q hq ht=>hb.block q hq (by rw [ht];exact he))
theorem XV [LB] {w:World} {base size:Nat} {e:TypeId} {v:Value} {n:Nat} {xs:List Value} (h:w.ownsRow base e size v n xs) {q:Nat} (hq:v.ownBlock=some q):tyAt w q=some e:=by
 rcases h.2 with ⟨h1,_⟩ | ⟨g',cap',cur,hv,h2,h3,h4⟩
 ·rw [h1] at hq;cases hq
 ·rw [hv] at hq
  cases hq
  unfold tyAt
  rw [h3]
  rfl
end
theorem Ty.tf [LB] {w w':World} (h:Ty w w'):Tf w w':=⟨h.os,h.tape,h.output,h.size,fun q h1 h2=>h.block q h1 (fun e=>h2 (.inl e)),fun hn=>absurd (.inr rfl) hn,h.old⟩
theorem Ty.dr [LB] {rb:Nat} {w w':World} (h:Dr rb w w') (hT:tyAt w rb=some 68∧lowB≤rb):Ty w w':=by
 obtain ⟨ht,hlo⟩:=hT
 exact ⟨h.os,h.tape,h.output,h.size,fun q h1 h2=>h.block q h1 (fun e=>h2 (by rw [e];exact .inl ht)),fun _ q h1 h2=>by
  have e:=h.block q h1 (fun e=>by rw [e,ht] at h2;cases h2)
  exact ⟨(XX e).trans h2,World.cell?_of_block (a:=⟨q,2,none⟩) e⟩,fun q h1 h2=>h.block q h1 (by omega)⟩
def Sh (l:List Tr.Nd):Prop:=∀ x∈l,x.text.size≤1000000
def NR (w:World) (v:Value) (l:List Tr.Nd):Prop:=w.ownsRow 0 35 5 v l.length (X2 l)∧Sh l
theorem K9 [LB]:¬ Mine (some 35):=by unfold Mine;simp
theorem mineF_node [LB]:¬ MineF (some 35):=by unfold MineF Mine;simp
theorem NR.ty [LB] {w w':World} {v:Value} {l:List Tr.Nd} (h:NR w v l) (hb:Ty w w'):NR w' v l:=⟨XO h.1 hb K9,h.2⟩
theorem NR.tf [LB] {w w':World} {v:Value} {l:List Tr.Nd} (h:NR w v l) (hb:Tf w w'):NR w' v l:=⟨XO h.1 hb mineF_node,h.2⟩
end Go.Proofs.YtimbaebigjjkaaaGreatDoor
namespace Go.Proofs.YtimbaebigjjkaaaGreatDoor
structure Pr.Dk where
 p:Nat
 bad:Bool
 place:Nat
 o:List Tr.Nd
def X3 (ts:List Sc.T) (sz:Nat) (s:Pr.Dk):Sc.T:=ts[s.p]?.getD ⟨0,[],0,sz⟩
def X7 (s:Pr.Dk):Pr.Dk:={s with p:=s.p+1}
def Xj (s:Pr.Dk) (k o n:Int) (t:List UInt8) (c:Nat):Pr.Dk:={s with o:=s.o++[⟨k,o,n,⟨t.toArray⟩,c⟩]}
def Yt (ts:List Sc.T) (sz:Nat) (s:Pr.Dk):Pr.Dk:=if s.bad then s else {s with bad:=true,place:=(X3 ts sz s).place}
def Xa (ts:List Sc.T) (sz:Nat) (s:Pr.Dk) (t:List UInt8):Bool:=!s.bad && ((X3 ts sz s).kind == 2 || (X3 ts sz s).kind == 5) && (X3 ts sz s).text == t
def Qe (ts:List Sc.T) (sz:Nat) (s:Pr.Dk) (t:List UInt8):Pr.Dk:=if Xa ts sz s t then X7 s else s
def Xr (ts:List Sc.T) (sz:Nat) (s:Pr.Dk) (t:List UInt8):Pr.Dk:=if Xa ts sz s t then X7 s else Yt ts sz s
def Ke (ts:List Sc.T) (sz:Nat) (s:Pr.Dk):Bool:=!s.bad && (X3 ts sz s).kind == 1
def Xd (ts:List Sc.T) (sz:Nat) (s:Pr.Dk):List UInt8:=if Ke ts sz s then (X3 ts sz s).text else []
def XP (ts:List Sc.T) (sz:Nat) (s:Pr.Dk):Pr.Dk:=if Ke ts sz s then X7 s else Yt ts sz s
def U8 (op:Nat):List UInt8:=([[],[111,114],[97,110,100],[61,61],[33,61],[60],[60,61],[62],[62,61],[104,97,115],[43],[45],[42],[47],[37]]:List (List UInt8))[op]?.getD []
def Zx (op:Nat):Nat:=if op≤2 then op else if op≤9 then 4 else if op≤11 then 5 else 6
def Zp (ts:List Sc.T) (sz:Nat) (s:Pr.Dk) (r:Nat):Nat→Nat→Nat
 | 0,_=>0
 | f+1,o=>if Zx o == r && Xa ts sz s (U8 o) then o else Zp ts sz s r f (o+1)
def Kb (ts:List Sc.T) (sz:Nat) (s:Pr.Dk) (r:Nat):Nat:=Zp ts sz s r 14 1
def Ym (ts:List Sc.T) (sz:Nat) (s:Pr.Dk):Bool:=(X3 ts sz s).kind == 1 && decide (s.p+1 < ts.length) && (X3 ts sz (X7 s)).kind == 5 && (X3 ts sz (X7 s)).text == [61]
structure Pr.Cmd where
 mk ::
 (t n:Nat)
 (b:Bool)
abbrev Pr.Cmd.e:Pr.Cmd:=⟨0,0,false⟩
abbrev Pr.Cmd.params:Pr.Cmd:=⟨1,0,false⟩
abbrev Pr.Cmd.paramsL (n:Nat):Pr.Cmd:=⟨2,n,false⟩
abbrev Pr.Cmd.ops (r:Nat):Pr.Cmd:=⟨3,r,false⟩
abbrev Pr.Cmd.opsL (r:Nat):Pr.Cmd:=⟨4,r,false⟩
abbrev Pr.Cmd.post:Pr.Cmd:=⟨5,0,false⟩
abbrev Pr.Cmd.postL:Pr.Cmd:=⟨6,0,false⟩
abbrev Pr.Cmd.args:Pr.Cmd:=⟨7,0,false⟩
abbrev Pr.Cmd.argsL (n:Nat) (nm:Bool):Pr.Cmd:=⟨8,n,nm⟩
abbrev Pr.Cmd.list:Pr.Cmd:=⟨9,0,false⟩
abbrev Pr.Cmd.listL (n:Nat):Pr.Cmd:=⟨10,n,false⟩
abbrev Pr.Cmd.record:Pr.Cmd:=⟨11,0,false⟩
abbrev Pr.Cmd.recordL (n:Nat):Pr.Cmd:=⟨12,n,false⟩
abbrev Pr.Cmd.single:Pr.Cmd:=⟨13,0,false⟩
abbrev Pr.Cmd.loadL (n:Nat):Pr.Cmd:=⟨14,n,false⟩
abbrev Pr.Cmd.statement:Pr.Cmd:=⟨15,0,false⟩
abbrev Pr.Cmd.fileL (n:Nat):Pr.Cmd:=⟨16,n,false⟩
theorem Pr.Cmd.elim {m:Pr.Cmd→Prop} (e:∀n b,m ⟨0,n,b⟩) (params:∀n b,m ⟨1,n,b⟩) (paramsL:∀n b,m ⟨2,n,b⟩) (ops:∀n b,m ⟨3,n,b⟩) (opsL:∀n b,m ⟨4,n,b⟩) (post:∀n b,m ⟨5,n,b⟩) (postL:∀n b,m ⟨6,n,b⟩) (args:∀n b,m ⟨7,n,b⟩) (argsL:∀n b,m ⟨8,n,b⟩) (list:∀n b,m ⟨9,n,b⟩) (listL:∀n b,m ⟨10,n,b⟩) (record:∀n b,m ⟨11,n,b⟩) (recordL:∀n b,m ⟨12,n,b⟩) (single:∀n b,m ⟨13,n,b⟩) (loadL:∀n b,m ⟨14,n,b⟩) (statement:∀n b,m ⟨15,n,b⟩) (fileL:∀n t b,m ⟨t+16,n,b⟩) (c:Pr.Cmd):m c:=by
 obtain ⟨t,n,b⟩:=c
 match t with
 | 0=>exact e n b
 | 1=>exact params n b
 | 2=>exact paramsL n b
 | 3=>exact ops n b
 | 4=>exact opsL n b
 | 5=>exact post n b
 | 6=>exact postL n b
 | 7=>exact args n b
 | 8=>exact argsL n b
 | 9=>exact list n b
 | 10=>exact listL n b
 | 11=>exact record n b
 | 12=>exact recordL n b
 | 13=>exact single n b
 | 14=>exact loadL n b
 | 15=>exact statement n b
 | t+16=>exact fileL n t b
def YS:List UInt8:=[108,101,116]
def ZD:List UInt8:=[105,110]
def Zo:List UInt8:=[105,102]
def J4:List UInt8:=[116,104,101,110]
def J5:List UInt8:=[101,108,115,101]
def Pr.sFn:List UInt8:=[102,110]
def Ji:List UInt8:=[110,111,116]
def QE:List UInt8:=[102,111,114]
def Zd:List UInt8:=[110,111,110,101]
def Z8:List UInt8:=[102,97,108,115,101]
def ZI:List UInt8:=[116,114,117,101]
def ZM:List UInt8:=[100,101,102]
def ZY:List UInt8:=[101,109,105,116]
def KE:List UInt8:=[108,111,97,100]
section
variable (ts:List Sc.T) (sz:Nat)
def Xh:Nat→Pr.Cmd→Pr.Dk→Pr.Dk × Nat
 | 0,_,s=>(s,0)
 | f+1,⟨0,_,_⟩,s =>
  if Xa ts sz s YS then
   let s1:=(Xh f .e (Xr ts sz (XP ts sz (X7 s)) [61])).1
   let s2:=(Xh f .e (Xr ts sz s1 ZD)).1
   (Xj s2 14 0 0 (Xd ts sz (X7 s)) 2,0)
  else if Xa ts sz s Zo then
   let s1:=(Xh f .e (X7 s)).1
   let s2:=(Xh f .e (Xr ts sz s1 J4)).1
   let s3:=(Xh f .e (Xr ts sz s2 J5)).1
   (Xj s3 13 0 0 [] 3,0)
  else if Xa ts sz s Pr.sFn then
   let r1:=Xh f .params (X7 s)
   let s2:=(Xh f .e (Xr ts sz r1.1 [61,62])).1
   (Xj s2 15 0 0 [] (r1.2+1),0)
  else Xh f (.ops 1) s
 | f+1,⟨1,_,_⟩,s =>
  let r:=Xh f (.paramsL 0) (Xr ts sz s [40])
  (Xr ts sz r.1 [41],r.2)
 | f+1,⟨2,n,_⟩,s =>
  if s.bad then (s,n)
  else if n == 0 && Xa ts sz s [41] then (s,n)
  else
   let s1:=XP ts sz s
   let s2:=if Xa ts sz s1 [61] then (Xh f .e (X7 s1)).1 else s1
   let s3:=Xj s2 19 0 0 (Xd ts sz s) (if Xa ts sz s1 [61] then 1 else 0)
   if Xa ts sz s3 [44] then Xh f (.paramsL (n+1)) (X7 s3) else (s3,n+1)
 | f+1,⟨3,r,_⟩,s =>
  if s.bad then (s,0)
  else if r == 3 then
   if Xa ts sz s Ji then
    let s1:=(Xh f (.ops 3) (X7 s)).1
    (Xj s1 6 1 0 [] 1,0)
   else Xh f (.ops 4) s
  else if r == 7 then
   if Xa ts sz s [45] then
    let s1:=(Xh f (.ops 7) (X7 s)).1
    (Xj s1 6 2 0 [] 1,0)
   else Xh f .post s
  else
   let s1:=(Xh f (.ops (r+1)) s).1
   Xh f (.opsL r) s1
 | f+1,⟨4,r,_⟩,s =>
  if Kb ts sz s r == 0 then (s,0)
  else
   let s1:=(Xh f (.ops (r+1)) (X7 s)).1
   let s2:=Xj s1 7 (Kb ts sz s r) 0 [] 2
   if r == 4 then (s2,0) else Xh f (.opsL r) s2
 | f+1,⟨5,_,_⟩,s=>Xh f .postL (Xh f .single s).1
 | f+1,⟨6,_,_⟩,s =>
  if s.bad then (s,0)
  else if Xa ts sz s [40] then
   let r:=Xh f .args (X7 s)
   Xh f .postL (Xj r.1 12 0 0 [] (1+r.2))
  else if Xa ts sz s [91] then
   let s1:=(Xh f .e (X7 s)).1
   Xh f .postL (Xj (Xr ts sz s1 [93]) 10 0 0 [] 2)
  else if Xa ts sz s [46] then
   Xh f .postL (Xj (XP ts sz (X7 s)) 11 0 0 (Xd ts sz (X7 s)) 1)
  else (s,0)
 | f+1,⟨7,_,_⟩,s =>
  let r:=Xh f (.argsL 0 false) s
  (Xr ts sz r.1 [41],r.2)
 | f+1,⟨8,n,nm⟩,s =>
  if s.bad then (s,n)
  else if n == 0 && Xa ts sz s [41] then (s,n)
  else
   let b:=nm || Ym ts sz s
   let s1:=if b then Xj (Xh f .e (Xr ts sz (XP ts sz s) [61])).1 18 0 0 (Xd ts sz s) 1 else (Xh f .e s).1
   if Xa ts sz s1 [44] then Xh f (.argsL (n+1) b) (X7 s1) else (s1,n+1)
 | f+1,⟨9,_,_⟩,s =>
  if Xa ts sz s [93] then (Xj (X7 s) 8 0 0 [] 0,0)
  else
   let s1:=(Xh f .e s).1
   if Xa ts sz s1 QE then
    let s2:={X7 s1 with o:=s1.o.take s.o.length}
    let s3:=(Xh f .e (Xr ts sz (XP ts sz s2) ZD)).1
    let s4:={s3 with o:=s3.o++s1.o.drop s.o.length}
    let s5:=if Xa ts sz s4 Zo then (Xh f .e (X7 s4)).1 else s4
    (Xj (Xr ts sz s5 [93]) 16 0 0 (Xd ts sz s2) (if Xa ts sz s4 Zo then 3 else 2),0)
   else
    let r:=Xh f (.listL 1) s1
    (Xj (Xr ts sz r.1 [93]) 8 0 0 [] r.2,0)
 | f+1,⟨10,n,_⟩,s =>
  if Xa ts sz s [44] then Xh f (.listL (n+1)) (Xh f .e (X7 s)).1 else (s,n)
 | f+1,⟨11,_,_⟩,s =>
  let r:=Xh f (.recordL 0) s
  (if r.2 % 2 == 1 then r.1 else Xj (Xr ts sz r.1 [125]) 9 0 0 [] (r.2 / 2),0)
 | f+1,⟨12,n,_⟩,s =>
  if s.bad then (s,2 * n)
  else if n == 0 && Xa ts sz s [125] then (s,2 * n)
  else if (X3 ts sz s).kind == 1 || (X3 ts sz s).kind == 4 then
   let s1:=(Xh f .e (Xr ts sz (X7 s) [58])).1
   let s2:=Xj s1 17 0 0 (X3 ts sz s).text 1
   if Xa ts sz s2 [44] then Xh f (.recordL (n+1)) (X7 s2) else (s2,2*(n+1))
  else (Yt ts sz s,2 * n+1)
 | f+1,⟨13,_,_⟩,s =>
  if s.bad then (s,0)
  else if (X3 ts sz s).kind == 3 then (Xj (X7 s) 3 0 (X3 ts sz s).n [] 0,0)
  else if (X3 ts sz s).kind == 4 then (Xj (X7 s) 4 0 0 (X3 ts sz s).text 0,0)
  else if (X3 ts sz s).kind == 1 then (Xj (X7 s) 5 0 0 (X3 ts sz s).text 0,0)
  else if Xa ts sz s Zd then (Xj (X7 s) 1 0 0 [] 0,0)
  else if Xa ts sz s Z8 then (Xj (X7 s) 2 0 0 [] 0,0)
  else if Xa ts sz s ZI then (Xj (X7 s) 2 0 1 [] 0,0)
  else if Xa ts sz s [91] then Xh f .list (X7 s)
  else if Xa ts sz s [123] then Xh f .record (X7 s)
  else if Xa ts sz s [40] then (Xr ts sz (Xh f .e (X7 s)).1 [41],0)
  else (Yt ts sz s,0)
 | f+1,⟨14,n,_⟩,s =>
  if s.bad then (s,n)
  else
   let s1:=Xj (XP ts sz s) 5 0 0 (Xd ts sz s) 0
   if Xa ts sz s1 [44] then Xh f (.loadL (n+1)) (X7 s1) else (s1,n+1)
 | f+1,⟨15,_,_⟩,s =>
  if Xa ts sz s ZM then
   let s1:=XP ts sz (X7 s)
   let r:=Xh f .params s1
   let s2:=(Xh f .e (Xr ts sz r.1 [61])).1
   (Xr ts sz (Xj s2 20 0 0 (Xd ts sz (X7 s)) (r.2+1)) [59],0)
  else if Xa ts sz s YS then
   let s2:=(Xh f .e (Xr ts sz (XP ts sz (X7 s)) [61])).1
   (Xr ts sz (Xj s2 21 0 0 (Xd ts sz (X7 s)) 1) [59],0)
  else if Xa ts sz s ZY then
   (Xr ts sz (Xj (Xh f .e (X7 s)).1 22 0 0 [] 1) [59],0)
  else if Xa ts sz s KE then
   if (X3 ts sz (X7 s)).kind == 4 then
    let r:=Xh f (.loadL 0) (Xr ts sz (X7 (X7 s)) [58])
    (Xr ts sz (Xj r.1 23 0 0 (X3 ts sz (X7 s)).text r.2) [59],0)
   else (Yt ts sz (X7 s),0)
  else (Xr ts sz (Yt ts sz s) [59],0)
 | f+1,⟨_+16,n,_⟩,s =>
  if s.bad || decide (ts.length≤s.p) then (s,n)
  else Xh f (.fileL (n+1)) (Xh f .statement s).1
def Pr.Cv (c:Pr.Cmd) (s:Pr.Dk) (r:Pr.Dk × Nat):Prop:=∃ f0,∀ f,f0≤f→Xh ts sz f c s=r
end
end Go.Proofs.YtimbaebigjjkaaaGreatDoor
