/- Ch, Gd. -/
import Derived.Test.YtbckhbeebngjfaaGreatDoorT42
import Derived.Test.YtbckhbeebngjfaaGreatDoorT41
namespace Go.Proofs.YtbckhbeebngjfaaGreatDoor
open Go.RowKit
theorem len_cons [Inhabited Bs] {α:Type} {l:List α} {n:Nat} (h:l.length=n+1):∃ x t,l=x :: t∧t.length=n:=by
 cases l with
 | nil=>cases h
 | cons x t=>exact ⟨x,t,rfl,by simpa using h⟩
theorem arr48 [Inhabited Bs] {xs:Array Value} (h:xs.size=48):∃ x0 x1 x2 x3 x4 x5 x6 x7 x8 x9 x10 x11 x12 x13 x14 x15 x16 x17 x18 x19 x20 x21 x22 x23 x24 x25 x26 x27 x28 x29 x30 x31 x32 x33 x34 x35 x36 x37 x38 x39 x40 x41 x42 x43 x44 x45 x46 x47,xs=#[x0,x1,x2,x3,x4,x5,x6,x7,x8,x9,x10,x11,x12,x13,x14,x15,x16,x17,x18,x19,x20,x21,x22,x23,x24,x25,x26,x27,x28,x29,x30,x31,x32,x33,x34,x35,x36,x37,x38,x39,x40,x41,x42,x43,x44,x45,x46,x47]:=by
 obtain ⟨l⟩:=xs
 have h:l.length=48:=h
 obtain ⟨x0,l0,rfl,h0⟩:=len_cons h
 obtain ⟨x1,l1,rfl,h1⟩:=len_cons h0
 obtain ⟨x2,l2,rfl,h2⟩:=len_cons h1
 obtain ⟨x3,l3,rfl,h3⟩:=len_cons h2
 obtain ⟨x4,l4,rfl,h4⟩:=len_cons h3
 obtain ⟨x5,l5,rfl,h5⟩:=len_cons h4
 obtain ⟨x6,l6,rfl,h6⟩:=len_cons h5
 obtain ⟨x7,l7,rfl,h7⟩:=len_cons h6
 obtain ⟨x8,l8,rfl,h8⟩:=len_cons h7
 obtain ⟨x9,l9,rfl,h9⟩:=len_cons h8
 obtain ⟨x10,l10,rfl,h10⟩:=len_cons h9
 obtain ⟨x11,l11,rfl,h11⟩:=len_cons h10
 obtain ⟨x12,l12,rfl,h12⟩:=len_cons h11
 obtain ⟨x13,l13,rfl,h13⟩:=len_cons h12
 obtain ⟨x14,l14,rfl,h14⟩:=len_cons h13
 obtain ⟨x15,l15,rfl,h15⟩:=len_cons h14
 obtain ⟨x16,l16,rfl,h16⟩:=len_cons h15
 obtain ⟨x17,l17,rfl,h17⟩:=len_cons h16
 obtain ⟨x18,l18,rfl,h18⟩:=len_cons h17
 obtain ⟨x19,l19,rfl,h19⟩:=len_cons h18
 obtain ⟨x20,l20,rfl,h20⟩:=len_cons h19
 obtain ⟨x21,l21,rfl,h21⟩:=len_cons h20
 obtain ⟨x22,l22,rfl,h22⟩:=len_cons h21
 obtain ⟨x23,l23,rfl,h23⟩:=len_cons h22
 obtain ⟨x24,l24,rfl,h24⟩:=len_cons h23
 obtain ⟨x25,l25,rfl,h25⟩:=len_cons h24
 obtain ⟨x26,l26,rfl,h26⟩:=len_cons h25
 obtain ⟨x27,l27,rfl,h27⟩:=len_cons h26
 obtain ⟨x28,l28,rfl,h28⟩:=len_cons h27
 obtain ⟨x29,l29,rfl,h29⟩:=len_cons h28
 obtain ⟨x30,l30,rfl,h30⟩:=len_cons h29
 obtain ⟨x31,l31,rfl,h31⟩:=len_cons h30
 obtain ⟨x32,l32,rfl,h32⟩:=len_cons h31
 obtain ⟨x33,l33,rfl,h33⟩:=len_cons h32
 obtain ⟨x34,l34,rfl,h34⟩:=len_cons h33
 obtain ⟨x35,l35,rfl,h35⟩:=len_cons h34
 obtain ⟨x36,l36,rfl,h36⟩:=len_cons h35
 obtain ⟨x37,l37,rfl,h37⟩:=len_cons h36
 obtain ⟨x38,l38,rfl,h38⟩:=len_cons h37
 obtain ⟨x39,l39,rfl,h39⟩:=len_cons h38
 obtain ⟨x40,l40,rfl,h40⟩:=len_cons h39
 obtain ⟨x41,l41,rfl,h41⟩:=len_cons h40
 obtain ⟨x42,l42,rfl,h42⟩:=len_cons h41
 obtain ⟨x43,l43,rfl,h43⟩:=len_cons h42
 obtain ⟨x44,l44,rfl,h44⟩:=len_cons h43
 obtain ⟨x45,l45,rfl,h45⟩:=len_cons h44
 obtain ⟨x46,l46,rfl,h46⟩:=len_cons h45
 obtain ⟨x47,l47,rfl,h47⟩:=len_cons h46
 obtain rfl:=List.length_eq_zero_iff.1 h47
 exact ⟨x0,x1,x2,x3,x4,x5,x6,x7,x8,x9,x10,x11,x12,x13,x14,x15,x16,x17,x18,x19,x20,x21,x22,x23,x24,x25,x26,x27,x28,x29,x30,x31,x32,x33,x34,x35,x36,x37,x38,x39,x40,x41,x42,x43,x44,x45,x46,x47,rfl⟩
variable (gb rb:Nat) (vb:Value) (n:Nat)
set_option maxRecDepth 100000 in
set_option maxHeartbeats 8000000 in
theorem record_any [Inhabited Bs] (d kd:Nat) (HE:EAt gb rb vb n d kd) (hkd:kd≤1000000):RecAt gb rb vb n d kd:=fun q k w h hq hk=>by
 have hwd:IntKind.i64.wrap (d:Int)=(d:Int):=by rw [IntKind.wrap_i64];omega
 have hrw:rb < w.heap.size:=Nat.lt_trans h.up h.lt
 have b0:Below w.heap.size w (w.alloc (.cells #[] 48)):=bA _
 have HG0:=hide (h.below b0)
 have c0:=HG0.out.c0
 have HT0:Hid (Ty w (w.alloc (.cells #[] 48))):=hide (.of b0)
 have HP0:=hide (PW.new (B:=w.heap.size) w (Nat.le_refl _))
 have HE:=hide HE
 clear h b0
 go_enter Tryz.func109,Tryz.ntmps109
 go_wp2_with fail
 refine (Gn.pick HG0.out (by omega) 4 (by omega) (by omega)).mono ?_
 rintro e w0 ⟨z0,hz0,rfl,hg0,ht0⟩
 have HG1:=hide hg0
 have HT1:=hide (HT0.out.trans ht0)
 have HP1:=hide (HP0.out.ty ht0)
 clear hg0 ht0 HG0 HT0 HP0 c0
 go_wp2_with fail
 go_loopw [5,6] (fun sv tv wr=>∃ (i qq:Nat) (ls:List (List Tr.Nd)),i≤3∧tv = .int .i64 (i:Int)∧ls.length+i≤3∧ls.flatten.length+i*(kd+1)≤3*(kd+1)∧qq+i*(kd+2)≤q+1+3*(kd+2)∧PW w.heap.size wr sv ls∧Gn gb rb vb n qq k wr∧Ty w wr) (fun _ tv _=>(intOf tv).toNat)
 case atStart=>exact ⟨z0,q+1,[],by omega,rfl,by simp;omega,by simp only [List.flatten_nil,List.length_nil,Nat.zero_add];exact Nat.mul_le_mul_right _ (by omega),Nat.add_le_add_left (Nat.mul_le_mul_right _ (by omega)) _,HP1.out,HG1.out,HT1.out⟩
 case round =>
  obtain ⟨i,qq,ls,hi3,rfl,hll,hfl,hqq,hPW,hG,hT⟩:=hrel
  have HPr:=hide hPW
  have HGr:=hide hG
  have HTr:=hide hT
  have hsz:=hT.size
  obtain ⟨vs0,pv0,_⟩:=hPW
  obtain ⟨pp0,pc0,hp0⟩:=row_formP pv0
  subst hp0
  have c0:=hG.c0
  clear hG hT pv0
  match i,hi3,hll,hfl,hqq with
  | 0,hi3,hll,hfl,hqq =>
   have HO:=hide (over_mk ⟨9,0,0,⟨#[]⟩,0⟩ ls _ _ (3 * kd+3) HPr.out.pr (by omega) (by omega) (by omega))
   unfold ndV at HO
   go_wp2_with fail
   refine HO.out.mono ?_
   rintro e7 w7 ⟨v7,l7,rfl,nr7,p7,m7,b7⟩
   obtain ⟨g7,c7,hv7⟩:=nr7.form p7
   subst hv7
   have HG7:=hide (HGr.out.below b7)
   have HT7:=hide (HTr.out.trans (.of b7))
   have HN7:=hide nr7
   clear b7 nr7
   go_wp2
   go_ret
   exact ⟨_,_,rfl,HN7.out,p7,by omega,HG7.out.mono (by omega),HT7.out⟩
  | i+1,hi3,hll,hfl,hqq =>
   have hqa:qq+kd+10≤700000000:=by rw [Nat.add_mul,Nat.one_mul] at hqq;omega
   have HFL:=hide hfl
   have HQQ:=hide hqq
   clear hfl hqq
   have ei:((i+1:Nat):Int)=(i:Int)+1:=by omega
   rw [ei]
   have hil:i < 3:=by omega
   have hili:(i:Int) < 3:=by omega
   have hle:ls.length≤3:=by omega
   have hwi:IntKind.i64.wrap (i:Int)=(i:Int):=by rw [IntKind.wrap_i64];omega
   have hpos:(0:Int) < (i:Int)+1:=by omega
   have HGd:=hide (HGr.out.below ((Below.refl _ _).drew))
   have HTd:=hide (HTr.out.trans (.of ((Below.refl _ _).drew)))
   have HPd:=hide (HPr.out.below ((Below.refl _ _).drew))
   go_wp2_with fail
   refine wp_region_any (by kernel_rfl) ?_
   refine rec_region (gb:=gb) (rb:=rb) (vb:=vb) (n:=n) (W0:=w) (qq:=qq) (k:=k) (kd:=kd) (d:=d) (i:=i) (ls:=ls) ⟨_,rfl,rfl,rfl,rfl⟩ ⟨_,rfl,rfl,rfl,rfl⟩ ⟨_,rfl,rfl,rfl,rfl⟩ ⟨_,rfl,rfl,rfl,rfl⟩ ⟨_,rfl,rfl,rfl,rfl⟩ ⟨_,rfl,rfl,rfl,rfl⟩ ⟨_,rfl,rfl,rfl,rfl⟩ ⟨_,rfl,rfl,rfl,rfl⟩ ⟨_,rfl,rfl,rfl,rfl⟩ ⟨_,rfl,rfl,rfl,rfl⟩ ⟨_,rfl,rfl,rfl,rfl⟩ ⟨_,rfl,rfl,rfl,rfl⟩ ⟨_,rfl,rfl,rfl,rfl⟩ ⟨_,rfl,rfl,rfl,rfl⟩ ⟨_,rfl,rfl,rfl,rfl⟩ ⟨_,rfl,rfl,rfl,rfl⟩ ⟨_,rfl,rfl,rfl,rfl⟩ ⟨_,rfl,rfl,rfl,rfl⟩ ⟨_,rfl,rfl,rfl,rfl⟩ ⟨_,rfl,rfl,rfl,rfl⟩ ⟨_,rfl,rfl,rfl,rfl⟩ ⟨_,rfl,rfl,rfl,rfl⟩ ⟨_,rfl,rfl,rfl,rfl⟩ ⟨_,rfl,rfl,rfl,rfl⟩ ⟨_,rfl,rfl,rfl,rfl⟩ ⟨_,rfl,rfl,rfl,rfl⟩ ⟨_,rfl,rfl,rfl,rfl⟩ ⟨_,rfl,rfl,rfl,rfl⟩ ⟨_,rfl,rfl,rfl,rfl⟩ rfl (by kernel_rfl) (by kernel_rfl) (by kernel_rfl) (by kernel_rfl) (by kernel_rfl) (by kernel_rfl) (by kernel_rfl) (by kernel_rfl) (by kernel_rfl) (by kernel_rfl) (by kernel_rfl) (by kernel_rfl) (by kernel_rfl) (by kernel_rfl) (by kernel_rfl) (by kernel_rfl) (by kernel_rfl) (by kernel_rfl) (by kernel_rfl) (by kernel_rfl) (by kernel_rfl) (by kernel_rfl) (by kernel_rfl) (by kernel_rfl) (by kernel_rfl) (by kernel_rfl) (by kernel_rfl) (by kernel_rfl) (by kernel_rfl) (by kernel_rfl) HE.out hkd (by omega) (by omega) hil hle hrw rfl rfl rfl rfl ?_ rfl HTd.out HPd.out HGd.out
   intro a5 w5 h5
   obtain ⟨asz,adf,afr,l5,p5,p51,p52,p53,p54⟩:=h5
   obtain ⟨xs5,df5⟩:=a5
   obtain ⟨x0,x1,x2,x3,x4,x5,x6,x7,x8,x9,x10,x11,x12,x13,x14,x15,x16,x17,x18,x19,x20,x21,x22,x23,x24,x25,x26,x27,x28,x29,x30,x31,x32,x33,x34,x35,x36,x37,x38,x39,x40,x41,x42,x43,x44,x45,x46,x47,hx5⟩:=arr48 asz
   subst hx5
   obtain rfl:=adf
   have e0:=afr 0 (by decide) (by decide)
   simp only [List.getElem?_toArray,List.getElem?_cons_zero,Option.some.injEq] at e0
   subst e0
   have e1:=afr 1 (by decide) (by decide)
   simp only [List.getElem?_toArray,List.getElem?_cons_zero,List.getElem?_cons_succ,Option.some.injEq] at e1
   subst e1
   have e2:=afr 2 (by decide) (by decide)
   simp only [List.getElem?_toArray,List.getElem?_cons_zero,List.getElem?_cons_succ,Option.some.injEq] at e2
   subst e2
   have e3:=afr 3 (by decide) (by decide)
   simp only [List.getElem?_toArray,List.getElem?_cons_zero,List.getElem?_cons_succ,Option.some.injEq] at e3
   subst e3
   have e4:=afr 4 (by decide) (by decide)
   simp only [List.getElem?_toArray,List.getElem?_cons_zero,List.getElem?_cons_succ,Option.some.injEq] at e4
   subst e4
   have e6:=afr 6 (by decide) (by decide)
   simp only [List.getElem?_toArray,List.getElem?_cons_zero,List.getElem?_cons_succ,Option.some.injEq] at e6
   subst e6
   have e7:=afr 7 (by decide) (by decide)
   simp only [List.getElem?_toArray,List.getElem?_cons_zero,List.getElem?_cons_succ,Option.some.injEq] at e7
   subst e7
   have e8:=afr 8 (by decide) (by decide)
   simp only [List.getElem?_toArray,List.getElem?_cons_zero,List.getElem?_cons_succ,Option.some.injEq] at e8
   subst e8
   have e9:=afr 9 (by decide) (by decide)
   simp only [List.getElem?_toArray,List.getElem?_cons_zero,List.getElem?_cons_succ,Option.some.injEq] at e9
   subst e9
   have e10:=afr 10 (by decide) (by decide)
   simp only [List.getElem?_toArray,List.getElem?_cons_zero,List.getElem?_cons_succ,Option.some.injEq] at e10
   subst e10
   have e11:=afr 11 (by decide) (by decide)
   simp only [List.getElem?_toArray,List.getElem?_cons_zero,List.getElem?_cons_succ,Option.some.injEq] at e11
   subst e11
   have e12:=afr 12 (by decide) (by decide)
   simp only [List.getElem?_toArray,List.getElem?_cons_zero,List.getElem?_cons_succ,Option.some.injEq] at e12
   subst e12
   have e13:=afr 13 (by decide) (by decide)
   simp only [List.getElem?_toArray,List.getElem?_cons_zero,List.getElem?_cons_succ,Option.some.injEq] at e13
   subst e13
   have e14:=afr 14 (by decide) (by decide)
   simp only [List.getElem?_toArray,List.getElem?_cons_zero,List.getElem?_cons_succ,Option.some.injEq] at e14
   subst e14
   have e15:=afr 15 (by decide) (by decide)
   simp only [List.getElem?_toArray,List.getElem?_cons_zero,List.getElem?_cons_succ,Option.some.injEq] at e15
   subst e15
   have e16:=afr 16 (by decide) (by decide)
   simp only [List.getElem?_toArray,List.getElem?_cons_zero,List.getElem?_cons_succ,Option.some.injEq] at e16
   subst e16
   have e45:=afr 45 (by decide) (by decide)
   simp only [List.getElem?_toArray,List.getElem?_cons_zero,List.getElem?_cons_succ,Option.some.injEq] at e45
   subst e45
   have e46:=afr 46 (by decide) (by decide)
   simp only [List.getElem?_toArray,List.getElem?_cons_zero,List.getElem?_cons_succ,Option.some.injEq] at e46
   subst e46
   have e47:=afr 47 (by decide) (by decide)
   simp only [List.getElem?_toArray,List.getElem?_cons_zero,List.getElem?_cons_succ,Option.some.injEq] at e47
   subst e47
   have p5:PW w.heap.size w5 x5 (ls++[l5]):=p5
   have HP5:=hide p5
   have HG5:=hide p53
   have HT5:=hide p54
   obtain ⟨vs5,pv5,_⟩:=p5
   obtain ⟨sp5,sc5,hp5⟩:=row_formP pv5
   subst hp5
   clear pv5 p53 p54 afr asz
   go_wp2
   go_roundw
   case rel=>exact ⟨i,qq+(2+kd),_,by omega,by go_num,by rw [List.length_append];simp only [List.length_cons,List.length_nil];omega,by have:=HFL.out;rw [Nat.add_mul,Nat.one_mul] at this;rw [List.flatten_append,List.length_append,fl1];omega,by have:=HQQ.out;rw [Nat.add_mul,Nat.one_mul] at this;omega,HP5.out,HG5.out,HT5.out⟩
   case measure=>simp [intOf]
theorem mine_fn [Inhabited Bs]:¬ Mine (some 127):=by unfold Mine;simp
theorem mine_int [Inhabited Bs]:¬ Mine (some 3):=by unfold Mine;simp
structure FnK (gb rb B:Nat) (vf:Value) (m:Nat) (ys:List Value) (w:World):Prop where
 cell:w.cell? ⟨gb,2,none⟩=some vf
 row:w.ownsRow (rb+1) 127 4 vf m ys
 low:∀ b,vf.ownBlock=some b→b < B
 fnc:∀ i,i < m→∃ (s:Short) (pv:Value) (ps:List Int) (f z:Int),ys[i*4]?=some (.string s)∧ys[i*4+1]?=some pv∧ys[i*4+2]?=some (.int .i64 f)∧ys[i*4+3]?=some (.int .i64 z)∧w.ownsRow 0 3 1 pv ps.length (ps.map (Value.int .i64))∧ps.length≤3∧0≤f∧f≤3∧∀ b,pv.ownBlock=some b→b < B
theorem row_at [Inhabited Bs] {w w':World} {base size:Nat} {e:TypeId} {v:Value} {n:Nat} {xs:List Value} (h:w.ownsRow base e size v n xs) (hb:∀ q,v.ownBlock=some q→w'.heap[q]?=w.heap[q]?):w'.ownsRow base e size v n xs:=by
 refine ⟨h.1,?_⟩
 rcases h.2 with h1 | ⟨g',cap',cur,hv,h2,h3,h4⟩
 ·exact .inl h1
 ·exact .inr ⟨g',cap',cur,hv,h2,(hb g' (by rw [hv];rfl)).trans h3,h4⟩
theorem FnK.keep [Inhabited Bs] {gb rb B:Nat} {vf:Value} {m:Nat} {ys:List Value} {w w':World} (h:FnK gb rb B vf m ys w) (hc:w'.cell? ⟨gb,2,none⟩=w.cell? ⟨gb,2,none⟩) (hb:∀ b,b < B→b < w.heap.size→tyAt w b=some 127∨tyAt w b=some 3→w'.heap[b]?=w.heap[b]?):FnK gb rb B vf m ys w':=by
 refine ⟨hc.trans h.cell,row_at h.row (fun q hq=>hb q (h.low q hq) (h.row.lt q hq).2 (.inl (row_tyAt h.row hq))),h.low,fun i hi=>?_⟩
 obtain ⟨s,pv,ps,f,z,a1,a2,a3,a4,a5,a6,a7,a8,a9⟩:=h.fnc i hi
 exact ⟨s,pv,ps,f,z,a1,a2,a3,a4,row_at a5 (fun q hq=>hb q (a9 q hq) (a5.lt q hq).2 (.inr (row_tyAt a5 hq))),a6,a7,a8,a9⟩
theorem FnK.fn [Inhabited Bs] {gb rb B:Nat} {vf:Value} {m:Nat} {ys:List Value} {w:World} (h:FnK gb rb B vf m ys w) (hm:m≤1000):∃ v m ys,w.cell? ⟨gb,2,none⟩=some v∧w.ownsRow (rb+1) 127 4 v m ys∧m≤1000∧FnC w ys m :=
 ⟨vf,m,ys,h.cell,h.row,hm,fun i hi=>by
  obtain ⟨s,pv,ps,f,z,a1,a2,a3,a4,a5,a6,a7,a8,_⟩:=h.fnc i hi
  exact ⟨s,pv,ps,f,z,a1,a2,a3,a4,a5,a6,a7,a8⟩⟩
theorem Gn.other [Inhabited Bs] {gb rb:Nat} {vb:Value} {n q k:Nat} {w w':World} (h:Gn gb rb vb n q k w) (hl:∀ b,b≤rb→w'.heap[b]?=w.heap[b]?) (hk:∀ b,b < w.heap.size→tyAt w b=some 103∨tyAt w b=some 123→w'.heap[b]?=w.heap[b]?) (hf:∃ v m ys,w'.cell? ⟨gb,2,none⟩=some v∧w'.ownsRow (rb+1) 127 4 v m ys∧m≤1000∧FnC w' ys m):Gn gb rb vb n q k w':=by
 have eb:=hk gb h.lt (.inl h.ty)
 have cb:∀ j,w'.cell? ⟨gb,j,none⟩=w.cell? ⟨gb,j,none⟩:=fun j=>World.cell?_of_block (a:=⟨gb,j,none⟩) eb
 obtain ⟨p,hp,hr⟩:=h.R
 obtain ⟨v,xs,n1,n2,n3⟩:=h.nm
 obtain ⟨c,hc,h5⟩:=h.ct
 obtain ⟨z,hz,hz1,h6⟩:=h.sz
 exact ⟨⟨p,hp,hr.upto hl⟩,h.up,(tyAt_block eb).trans h.ty,(cb 0).trans h.c0,⟨v,xs,(cb 1).trans n1,row_tyM n2 (fun q hq ht=>hk q hq (.inr ht)),n3⟩,hf,⟨c,hc,(cb 3).trans h5⟩,⟨z,hz,hz1,(cb 4).trans h6⟩,fun j=>(World.frozen?_of_block (a:=⟨gb,j,none⟩) eb).trans (h.fr j),h.km⟩
section
variable (gb rb:Nat) (vb:Value) (n:Nat) (W0:World) (fb:Nat) (s:Short) (z:Int)
structure DS [Inhabited Bs] (vf:Value) (m:Nat) (ys:List Value) (q k:Nat) (free:Int) (pvv:Value) (ps:List Int) (pv:Value) (ls:List (List Tr.Nd)) (w:World):Prop where
 gn:Gn gb rb vb n q k w
 tf:Tf W0 w
 pw:PW W0.heap.size w pv ls
 box:w.heap[fb]?=some (.cells #[.string s,pvv,.int .i64 free,.int .i64 z] 127)
 prow:w.ownsRow fb 3 1 pvv ps.length (ps.map (Value.int .i64))
 fk:FnK gb rb fb vf m ys w
 hm:m≤500
 lo:rb < W0.heap.size∧W0.heap.size≤fb
end
section
variable {gb rb:Nat} {vb:Value} {n:Nat} {W0:World} {fb:Nat} {s:Short} {z:Int} {vf:Value} {m:Nat} {ys:List Value} {q k:Nat} {free:Int} {pvv:Value} {ps:List Int} {pv:Value} {ls:List (List Tr.Nd)} {w w':World}
theorem lt_heap [Inhabited Bs] {w:World} {b:Nat} {o:Obj} (h:w.heap[b]?=some o):b < w.heap.size:=by
 rcases Nat.lt_or_ge b w.heap.size with h1 | h1
 ·exact h1
 ·rw [Array.getElem?_eq_none h1] at h;cases h
theorem DS.flt [Inhabited Bs] (h:DS gb rb vb n W0 fb s z vf m ys q k free pvv ps pv ls w):fb < w.heap.size:=lt_heap h.box
theorem DS.fty [Inhabited Bs] (h:DS gb rb vb n W0 fb s z vf m ys q k free pvv ps pv ls w):tyAt w fb=some 127:=by unfold tyAt;rw [h.box];rfl
theorem DS.ty [Inhabited Bs] (h:DS gb rb vb n W0 fb s z vf m ys q k free pvv ps pv ls w) (ht:Ty w w') {q' k':Nat} (hg:Gn gb rb vb n q' k' w'):DS gb rb vb n W0 fb s z vf m ys q' k' free pvv ps pv ls w' :=
 ⟨hg,h.tf.trans (Ty.tf ht),h.pw.ty ht,(ht.block fb h.flt (by rw [h.fty];exact mine_fn)).trans h.box,row_ty h.prow ht mine_int,h.fk.keep (ht.two mine_fn gb h.gn.lt h.gn.ty).2 (fun b _ hb hty=>ht.block b hb (by rcases hty with e | e <;> rw [e];exact mine_fn;exact mine_int)),h.hm,h.lo⟩
theorem DS.below [Inhabited Bs] (h:DS gb rb vb n W0 fb s z vf m ys q k free pvv ps pv ls w) (hb:Below w.heap.size w w'):DS gb rb vb n W0 fb s z vf m ys q k free pvv ps pv ls w':=h.ty (.of hb) (h.gn.below hb)
theorem DS.pf [Inhabited Bs] (h:DS gb rb vb n W0 fb s z vf m ys q k free pvv ps pv ls w) (hp:Pf W0.heap.size w w') {pv':Value} {ls':List (List Tr.Nd)} (hw:PW W0.heap.size w' pv' ls'):DS gb rb vb n W0 fb s z vf m ys q k free pvv ps pv' ls' w' :=
 ⟨hp.gn h.gn h.lo.1,hp.tyM h.tf (Nat.le_refl _),hw,(hp.block fb h.flt (.inr (by rw [h.fty];decide))).trans h.box,hp.row h.prow (by decide),h.fk.keep (World.cell?_of_block (a:=⟨gb,2,none⟩) (hp.block gb h.gn.lt (.inr (by rw [h.gn.ty];decide)))) (fun b _ hb hty=>hp.block b hb (.inr (by rcases hty with e | e <;> rw [e] <;> decide))),h.hm,h.lo⟩
theorem DS.cells [Inhabited Bs] (h:DS gb rb vb n W0 fb s z vf m ys q k free pvv ps pv ls w):w.cell? ⟨fb,0,none⟩=some (.string s)∧w.cell? ⟨fb,1,none⟩=some pvv∧w.cell? ⟨fb,2,none⟩=some (.int .i64 free)∧w.cell? ⟨fb,3,none⟩=some (.int .i64 z)∧w.frozen? ⟨fb,1,none⟩=false∧w.frozen? ⟨fb,2,none⟩=false:=by
 refine ⟨?_,?_,?_,?_,?_,?_⟩
 ·rw [World.cell?,h.box];rfl
 ·rw [World.cell?,h.box];rfl
 ·rw [World.cell?,h.box];rfl
 ·rw [World.cell?,h.box];rfl
 ·rw [World.frozen?,h.box];simp
 ·rw [World.frozen?,h.box];simp
theorem ds_set [Inhabited Bs] (gn:Gn gb rb vb n q k w) (tf:Tf W0 w) (pw:PW W0.heap.size w pv ls) (box:w.heap[fb]?=some (.cells #[.string s,pvv,.int .i64 free,.int .i64 z] 127)) (fk0:FnK gb rb fb vf m ys w) (hm:m≤500) (lo:rb < W0.heap.size∧W0.heap.size≤fb) (o:Nat) (v:Value) {free':Int} {pvv':Value} {ps':List Int} (hbx:(#[.string s,pvv,.int .i64 free,.int .i64 z]:Array Value).setIfInBounds o v=#[.string s,pvv',.int .i64 free',.int .i64 z]) (hr:w.ownsRow fb 3 1 pvv' ps'.length (ps'.map (Value.int .i64))):DS gb rb vb n W0 fb s z vf m ys q k free' pvv' ps' pv ls (w.setCell ⟨fb,o,none⟩ v):=by
 have fty:tyAt w fb=some 127:=by unfold tyAt;rw [box];rfl
 have sb:∀ b,b≠fb→(w.setCell ⟨fb,o,none⟩ v).heap[b]?=w.heap[b]?:=fun b hb=>Below.heap_setCell _ _ _ _ hb
 have hgf:gb≠fb:=fun e=>by have h1:=gn.ty;rw [e,fty] at h1;cases h1
 have fk:FnK gb rb fb vf m ys (w.setCell ⟨fb,o,none⟩ v):=fk0.keep (World.cell?_of_block (a:=⟨gb,2,none⟩) (sb gb hgf)) (fun b hb _ _=>sb b (by omega))
 refine ⟨gn.other (fun b hb=>sb b (by omega)) (fun b _ ht=>sb b (fun e=>by rw [e,fty] at ht;rcases ht with ht | ht <;> cases ht)) (fk.fn (by omega)),set_aboveM tf lo.2,?_,?_,row_setC hr (by rw [fty];decide),fk,hm,lo⟩
 ·obtain ⟨vs,h1,h2⟩:=pw
  exact ⟨vs,row_setC h1 (by rw [fty];decide),fun i hi=>by obtain ⟨u,a,b,c⟩:=h2 i hi;exact ⟨u,a,⟨row_setC b.1 (by rw [fty];decide),b.2⟩,c⟩⟩
 ·rw [heap_setC box,hbx]
theorem DS.setFree [Inhabited Bs] (h:DS gb rb vb n W0 fb s z vf m ys q k free pvv ps pv ls w) (free':Int):DS gb rb vb n W0 fb s z vf m ys q k free' pvv ps pv ls (w.setCell ⟨fb,2,none⟩ (.int .i64 free')):=ds_set h.gn h.tf h.pw h.box h.fk h.hm h.lo 2 _ rfl h.prow
theorem DS.grown [Inhabited Bs] (h:DS gb rb vb n W0 fb s z vf m ys q k free pvv ps pv ls w) (hg:w.grownBy w' pvv.ownBlock) {pvv':Value} {ps':List Int} (hr:w'.ownsRow fb 3 1 pvv' ps'.length (ps'.map (Value.int .i64))):w'.heap[fb]?=w.heap[fb]?∧DS gb rb vb n W0 fb s z vf m ys q k free pvv' ps' pv ls (w'.setCell ⟨fb,1,none⟩ pvv'):=by
 have lo:=h.lo
 have own:∀ b,pvv.ownBlock=some b→fb≤b∧tyAt w b=some 3:=fun b hb=>⟨(h.prow.lt b hb).1,row_tyAt h.prow hb⟩
 have eb:∀ b,b < w.heap.size→tyAt w b≠some 3∨b < fb→w'.heap[b]?=w.heap[b]?:=fun b hb hc=>hg.block b hb (fun e=>by
  have:=own b e.symm
  rcases hc with hc | hc
  ·exact hc this.2
  ·omega)
 have e1:=eb fb h.flt (.inl (by rw [h.fty];decide))
 refine ⟨e1,?_⟩
 have hgl:=h.gn.lt
 have fk:FnK gb rb fb vf m ys w':=h.fk.keep (World.cell?_of_block (a:=⟨gb,2,none⟩) (eb gb hgl (.inl (by rw [h.gn.ty];decide)))) (fun b hb hs _=>eb b hs (.inr hb))
 have flt:=h.flt
 have gn:Gn gb rb vb n q k w':=h.gn.other (fun b hb=>eb b (by omega) (.inr (by omega))) (fun b hb ht=>eb b hb (.inl (by rcases ht with e | e <;> rw [e] <;> decide))) (fk.fn (by have:=h.hm;omega))
 have tf:Tf W0 w':=⟨hg.os.trans h.tf.os,hg.tape.trans h.tf.tape,hg.output.trans h.tf.output,Nat.le_trans h.tf.size hg.size,fun b h1 h2=>(eb b (Nat.lt_of_lt_of_le h1 h.tf.size) (.inr (by omega))).trans (h.tf.block b h1 h2),fun hn=>absurd (.inr rfl) hn,fun b h1 h2=>(eb b (Nat.lt_of_lt_of_le h1 h.tf.size) (.inr (by omega))).trans (h.tf.old b h1 h2)⟩
 have pw:PW W0.heap.size w' pv ls:=by
  obtain ⟨vs,h1,h2⟩:=h.pw
  exact ⟨vs,row_tyM h1 (fun b hb ht=>eb b hb (.inl (by rw [ht];decide))),fun i hi=>by obtain ⟨u,a,b,c⟩:=h2 i hi;exact ⟨u,a,⟨row_tyM b.1 (fun b hb ht=>eb b hb (.inl (by rw [ht];decide))),b.2⟩,c⟩⟩
 exact ds_set gn tf pw (e1.trans h.box) fk h.hm h.lo 1 pvv' rfl hr
end
section
variable (gb rb:Nat) (vb:Value) (n:Nat) (W0:World) (fb:Nat) (s:Short) (z:Int)
structure DT [Inhabited Bs] (M q k:Nat) (free:Int) (pvv:Value) (ps:List Int) (pv:Value) (ls:List (List Tr.Nd)) (w:World):Prop where
 gn:Gn gb rb vb n q k w
 tf:Tf W0 w
 pw:PW W0.heap.size w pv ls
 box:w.heap[fb]?=some (.cells #[.string s,pvv,.int .i64 free,.int .i64 z] 127)
 prow:w.ownsRow 0 3 1 pvv ps.length (ps.map (Value.int .i64))
 ne:∃ p m c,m≤M∧w.cell? ⟨gb,2,none⟩=some (.slice p m c)∧(Value.slice p m c).ownBlock≠some fb
 lo:rb < W0.heap.size∧W0.heap.size≤fb
 okp:ps.length≤3∧0≤free∧free≤3
end
section
variable {gb rb:Nat} {vb:Value} {n:Nat} {W0:World} {fb:Nat} {s:Short} {z:Int} {M:Nat} {q k:Nat} {free:Int} {pvv:Value} {ps:List Int} {pv:Value} {ls:List (List Tr.Nd)} {w w':World}
theorem DS.dt [Inhabited Bs] {vf:Value} {m:Nat} {ys:List Value} (h:DS gb rb vb n W0 fb s z vf m ys q k free pvv ps pv ls w) (hm:m≤M) (h1:ps.length≤3) (h2:0≤free) (h3:free≤3):DT gb rb vb n W0 fb s z M q k free pvv ps pv ls w:=by
 obtain ⟨p,c,hf⟩:=row_formP h.fk.row
 refine ⟨h.gn,h.tf,h.pw,h.box,rowLeC h.prow (Nat.zero_le _),⟨p,m,c,hm,by rw [← hf];exact h.fk.cell,fun e=>?_⟩,h.lo,h1,h2,h3⟩
 rw [← hf] at e
 have:=h.fk.low fb e
 omega
theorem DT.flt [Inhabited Bs] (h:DT gb rb vb n W0 fb s z M q k free pvv ps pv ls w):fb < w.heap.size:=lt_heap h.box
theorem DT.fty [Inhabited Bs] (h:DT gb rb vb n W0 fb s z M q k free pvv ps pv ls w):tyAt w fb=some 127:=by unfold tyAt;rw [h.box];rfl
theorem DT.ty [Inhabited Bs] (h:DT gb rb vb n W0 fb s z M q k free pvv ps pv ls w) (ht:Ty w w') {q' k':Nat} (hg:Gn gb rb vb n q' k' w'):DT gb rb vb n W0 fb s z M q' k' free pvv ps pv ls w':=by
 obtain ⟨p,m,c,h1,h2,h3⟩:=h.ne
 exact ⟨hg,h.tf.trans (Ty.tf ht),h.pw.ty ht,(ht.block fb h.flt (by rw [h.fty];exact mine_fn)).trans h.box,row_ty h.prow ht mine_int,⟨p,m,c,h1,(ht.two mine_fn gb h.gn.lt h.gn.ty).2.trans h2,h3⟩,h.lo,h.okp⟩
theorem DT.below [Inhabited Bs] (h:DT gb rb vb n W0 fb s z M q k free pvv ps pv ls w) (hb:Below w.heap.size w w'):DT gb rb vb n W0 fb s z M q k free pvv ps pv ls w':=h.ty (.of hb) (h.gn.below hb)
theorem DT.pf [Inhabited Bs] (h:DT gb rb vb n W0 fb s z M q k free pvv ps pv ls w) (hp:Pf W0.heap.size w w') {pv':Value} {ls':List (List Tr.Nd)} (hw:PW W0.heap.size w' pv' ls'):DT gb rb vb n W0 fb s z M q k free pvv ps pv' ls' w':=by
 obtain ⟨p,m,c,h1,h2,h3⟩:=h.ne
 exact ⟨hp.gn h.gn h.lo.1,hp.tyM h.tf (Nat.le_refl _),hw,(hp.block fb h.flt (.inr (by rw [h.fty];decide))).trans h.box,hp.row h.prow (by decide),⟨p,m,c,h1,(World.cell?_of_block (a:=⟨gb,2,none⟩) (hp.block gb h.gn.lt (.inr (by rw [h.gn.ty];decide)))).trans h2,h3⟩,h.lo,h.okp⟩
theorem DT.mono [Inhabited Bs] (h:DT gb rb vb n W0 fb s z M q k free pvv ps pv ls w) {M':Nat} (hM:M≤M'):DT gb rb vb n W0 fb s z M' q k free pvv ps pv ls w:=by
 obtain ⟨p,m,c,h1,h2,h3⟩:=h.ne
 exact ⟨h.gn,h.tf,h.pw,h.box,h.prow,⟨p,m,c,by omega,h2,h3⟩,h.lo,h.okp⟩
theorem DT.cells [Inhabited Bs] (h:DT gb rb vb n W0 fb s z M q k free pvv ps pv ls w):w.cell? ⟨fb,0,none⟩=some (.string s)∧w.cell? ⟨fb,1,none⟩=some pvv∧w.cell? ⟨fb,2,none⟩=some (.int .i64 free)∧w.cell? ⟨fb,3,none⟩=some (.int .i64 z):=by
 refine ⟨?_,?_,?_,?_⟩
 ·rw [World.cell?,h.box];rfl
 ·rw [World.cell?,h.box];rfl
 ·rw [World.cell?,h.box];rfl
 ·rw [World.cell?,h.box];rfl
theorem DT.push [Inhabited Bs] (h:DT gb rb vb n W0 fb s z M q k free pvv ps pv ls w) (hM:M≤900) {v:Value} {m:Nat} {ys:List Value} (hc:w.cell? ⟨gb,2,none⟩=some v) (hr0:w.ownsRow (rb+1) 127 4 v m ys) (hfc:FnC w ys m) (hg:w.grownBy w' v.ownBlock) {v':Value} (hr:w'.ownsRow (rb+1) 127 4 v' (m+1) (ys++[.string s,pvv,.int .i64 free,.int .i64 z])) (hv':v'.ownBlock=v.ownBlock∨v'.ownBlock=some w.heap.size):w'.heap[gb]?=w.heap[gb]?∧DT gb rb vb n W0 fb s z (M+1) q k free pvv ps pv ls (w'.setCell ⟨gb,2,none⟩ v'):=by
 obtain ⟨p,m0,c,h1,h2,h3⟩:=h.ne
 obtain rfl:v = .slice p m0 c:=by rw [h2] at hc;exact (Option.some.inj hc).symm
 obtain ⟨_,_,hf⟩:=row_formP hr0
 obtain rfl:m0=m:=by injection hf
 have own:∀ b,(Value.slice p m0 c).ownBlock=some b→tyAt w b=some 127∧b≠fb:=fun b hb=>⟨row_tyAt hr0 hb,fun e=>h3 (by rw [← e];exact hb)⟩
 have eb:∀ b,b < w.heap.size→tyAt w b≠some 127∨b=fb→w'.heap[b]?=w.heap[b]?:=fun b hb hcc=>hg.block b hb (fun e=>by
  have:=own b e.symm
  rcases hcc with hcc | hcc
  ·exact hcc this.1
  ·exact this.2 hcc)
 have eg:=eb gb h.gn.lt (.inl (by rw [h.gn.ty];decide))
 have hty:tyAt w' gb=some 103:=(tyAt_block eg).trans h.gn.ty
 refine ⟨eg,?_⟩
 have flt:=h.flt
 have hgf:fb≠gb:=fun e=>by have h1:=h.gn.ty;rw [← e,h.fty] at h1;cases h1
 have sb:∀ b,b≠gb→(w'.setCell ⟨gb,2,none⟩ v').heap[b]?=w'.heap[b]?:=fun b hb=>Below.heap_setCell _ _ _ _ hb
 have hp':w'.ownsRow 0 3 1 pvv ps.length (ps.map (Value.int .i64)):=row_tyM h.prow (fun b hb ht=>eb b hb (.inl (by rw [ht];decide)))
 have hfc':FnC w' (ys++[.string s,pvv,.int .i64 free,.int .i64 z]) (m0+1):=(hfc.keep (fun b hb ht=>eb b hb (.inl (by rw [ht];decide)))).snoc hr0.1 s pvv ps free z hp' h.okp.1 h.okp.2.1 h.okp.2.2
 have gn:=h.gn.pushFn hc hg hr hfc' (by omega)
 obtain ⟨p',c',hf'⟩:=row_formP hr
 have hsz:=hg.size
 refine ⟨gn,?_,?_,(sb fb hgf).trans ((eb fb flt (.inr rfl)).trans h.box),row_setC hp' (by rw [hty];decide),⟨p',m0+1,c',by omega,by rw [← hf'];exact World.cell?_setCell_same _ _ _ ((World.cell?_of_block (a:=⟨gb,2,none⟩) eg).trans hc),?_⟩,h.lo,h.okp⟩
 ·refine ⟨((Below.refl 0 w').setCell (p:=⟨gb,2,none⟩) (Nat.zero_le _) v').os.trans (hg.os.trans h.tf.os),((Below.refl 0 w').setCell (p:=⟨gb,2,none⟩) (Nat.zero_le _) v').tape.trans (hg.tape.trans h.tf.tape),((Below.refl 0 w').setCell (p:=⟨gb,2,none⟩) (Nat.zero_le _) v').output.trans (hg.output.trans h.tf.output),Nat.le_trans h.tf.size (Nat.le_trans hg.size ((Below.refl 0 w').setCell (p:=⟨gb,2,none⟩) (Nat.zero_le _) v').size),fun b b1 b2=>?_,fun hn=>absurd (.inr rfl) hn,fun b b1 b2=>((sb b (by have:=h.gn.lo;have:=h.gn.up;omega)).trans ((hg.block b (Nat.lt_of_lt_of_le b1 h.tf.size) (fun e=>by have h1:=(hr0.lt b e.symm).1;have h2:=h.gn.lo;omega)).trans (h.tf.old b b1 b2)))⟩
  have e0:=h.tf.block b b1 b2
  have t0:tyAt w b=tyAt W0 b:=tyAt_block e0
  have n1:tyAt w b≠some 127:=fun e=>b2 (by rw [← t0,e];exact .inr rfl)
  have n2:b≠gb:=fun e=>b2 (by rw [← t0,e,h.gn.ty];exact .inl (.inr (.inl rfl)))
  exact (sb b n2).trans ((eb b (Nat.lt_of_lt_of_le b1 h.tf.size) (.inl n1)).trans e0)
 ·obtain ⟨vs,r1,r2⟩:=h.pw
  have ng:∀ t,t≠127→t≠103→∀ b,b < w.heap.size→tyAt w b=some t→(w'.setCell ⟨gb,2,none⟩ v').heap[b]?=w.heap[b]?:=fun t ht1 ht2 b hb ht=>(sb b (fun e=>by rw [e,h.gn.ty] at ht;exact ht2 (Option.some.inj ht).symm)).trans (eb b hb (.inl (by rw [ht];exact fun e=>ht1 (Option.some.inj e))))
  exact ⟨vs,row_tyM r1 (ng _ (by decide) (by decide)),fun i hi=>by obtain ⟨u,a,b,c⟩:=r2 i hi;exact ⟨u,a,⟨row_tyM b.1 (ng _ (by decide) (by decide)),b.2⟩,c⟩⟩
 ·rw [← hf']
  rcases hv' with e | e <;> rw [e]
  ·exact h3
  ·intro e2
   have:=Option.some.inj e2
   omega
end
end Go.Proofs.YtbckhbeebngjfaaGreatDoor
