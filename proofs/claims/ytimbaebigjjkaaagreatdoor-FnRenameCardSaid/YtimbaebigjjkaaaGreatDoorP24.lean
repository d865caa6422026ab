/- Ck, Cm, Cj. -/
import Derived.Test.YtimbaebigjjkaaaGreatDoorP23
namespace Go.Proofs.YtimbaebigjjkaaaGreatDoor
open Go.RowKit
variable (gb rb:Nat) (vb:Value) (n:Nat)
theorem Yg [LB] {P:Program} {c:Prop} [Decidable c] {o:Oper} {a:Act} {K:Act→World→Prop} {Q:Exit→Act→World→Prop} {E:Prop} (X:World) (h:if c then Oper.wp P o a X K Q else E):if c then Oper.wp P o a X K Q else E:=h
theorem Qv [LB] {q k:Nat} {w:World} (h:Gn gb rb vb n q k w) (hq:q≤900000000) (m:Int) (h1:1≤m) (h2:m≤1000000):Calls Tryz.prog 14 #[.pointer (some ⟨rb,0,none⟩),.int .i64 m] w fun e w1=>∃ r,e = .returned r∧∃ z:Nat,(z:Int) < m∧r = .int .i64 (z:Int)∧Gn gb rb vb n (q+1) k w1∧Ty w w1:=(h.pick hq m h1 h2).mono fun _ _ ⟨z,a,b,c⟩=>⟨_,b,z,a,rfl,c⟩
set_option maxRecDepth 100000 in
set_option maxHeartbeats 16000000 in
theorem of_list [LB] (d kd:Nat) (HE:EAt gb rb vb n d kd) (HEA:JC gb rb vb n d kd) (HRE:Jr gb rb vb n d kd) (q k:Nat) (kind:Int) (w:World) (h:Gn gb rb vb n q k w) (hq:q+5 * kd+40≤700000000) (hk:k+1+d≤900) (hkd:kd≤1000000) (hkind:kind=3):Calls Tryz.prog 107 #[.pointer (some ⟨gb,0,none⟩),.int .i64 kind,.int .i64 ((d:Int)+1)] w fun e w'=>GMk gb rb vb n q (4 * kd+30) k w e w':=by
 have hwd:IntKind.i64.wrap (d:Int)=(d:Int):=by rw [IntKind.wrap_i64];omega
 have HG0:=X1 h
 have HT0:Hid (Ty w w):=X1 (.refl w)
 have c0:=h.c0
 have HEA:=X1 HEA
 have HRE:=X1 HRE
 have HE:=X1 HE
 clear h
 subst hkind
 go_enter Tryz.func107,Tryz.ntmps107
 go_wp2_with fail
 refine (Gn.pick HG0.o (by omega) 9 (by omega) (by omega)).mono ?_
 rintro e31 p ⟨c,hz31,rfl,f0,g1⟩
 have j4:=X1 g1
 have a:=X1 f0
 have b:=X1 (HT0.o.trans j4.o)
 have c0_31:=a.o.c0
 clear f0 g1
 by_cases hz_0:c=0
 ·subst hz_0
  go_wp2_with fail
  have HGd:=X1 (a.o.below (Below.refl _ _).drew)
  have HTd:=X1 (b.o.trans (.of (Below.refl _ _).drew))
  have hzd:p.drew.heap.size=p.heap.size:=rfl
  have HGa:=X1 (a.o.below (bA (.cells #[.string ⟨#[115,111,114,116,101,100]⟩,.string ⟨#[117,110,105,113,117,101]⟩] 9)).drew)
  have HTa:=X1 (b.o.trans (.of (bA (.cells #[.string ⟨#[115,111,114,116,101,100]⟩,.string ⟨#[117,110,105,113,117,101]⟩] 9)).drew))
  have HLd:Hid ((((p.alloc (.cells #[.string ⟨#[115,111,114,116,101,100]⟩,.string ⟨#[117,110,105,113,117,101]⟩] 9)).drew).ownsRow 0 9 1 (.slice (some ⟨p.heap.size,0,none⟩) 2 2) 2 [.string ⟨#[115,111,114,116,101,100]⟩,.string ⟨#[117,110,105,113,117,101]⟩])):=X1 (World.ownsRow_lit (base:=0) (e:=9) (size:=1) p #[.string ⟨#[115,111,114,116,101,100]⟩,.string ⟨#[117,110,105,113,117,101]⟩] 2 (Nat.zero_le _) (by unfold maxLen;omega) rfl)
  have L:Hid (¬ Mine (some 9)):=X1 (by unfold Mine;simp)
  go_wp2_with fail
  go_region_law (first
   | ((with_reducible refine Yg ((p.alloc (.cells #[.string ⟨#[115,111,114,116,101,100]⟩,.string ⟨#[117,110,105,113,117,101]⟩] 9)).drew) ?_);refine XM rfl 14 (.tmp 204) (.const (.int .i64 2)) _ _ rfl (.pointer (some ⟨rb,0,none⟩)) (.int .i64 2) (by first | (simp [Act.eval];done) | simp [Act.eval,Act.put]) (by first | (simp [Act.eval];done) | simp [Act.eval,Act.put]) Tryz.f14 Tryz.func14 (by kernel_rfl) (by kernel_rfl) _ (Qv gb rb vb n HGa.o (by omega) 2 (by omega) (by omega)) ?_;intro v1 w1 h1;obtain ⟨z1,hz1,n9,V,N⟩:=h1;subst n9;have Z:=X1 V;obtain ⟨u,hu⟩:∃ u:Short,([.string ⟨#[115,111,114,116,101,100]⟩,.string ⟨#[117,110,105,113,117,101]⟩]:List Value)[z1]?=some (.string u):=(by have hz:z1=0∨z1=1:=(by omega);rcases hz with rfl | rfl <;> exact ⟨⟨_,by exact Nat.le_of_ble_eq_true rfl⟩,rfl⟩);have j0:=X1 (HTa.o.trans N);have j2:=X1 (XO HLd.o N L.o);have a1:=j2.o.cells rfl z1 _ hu;rw [Xl,Nat.zero_add] at a1;clear V N)
   | ((with_reducible refine Yg (p.drew) ?_);refine XM rfl 14 (.tmp 204) (.const (.int .i64 2)) _ _ rfl (.pointer (some ⟨rb,0,none⟩)) (.int .i64 2) (by first | (simp [Act.eval];done) | simp [Act.eval,Act.put]) (by first | (simp [Act.eval];done) | simp [Act.eval,Act.put]) Tryz.f14 Tryz.func14 (by kernel_rfl) (by kernel_rfl) _ (Qv gb rb vb n HGd.o (by omega) 2 (by omega) (by omega)) ?_;intro v1 w1 h1;obtain ⟨z1,hz1,n9,V,N⟩:=h1;subst n9;have Z:=X1 V;obtain ⟨u,hu⟩:∃ u:Short,([.string ⟨#[115,111,114,116,101,100]⟩,.string ⟨#[117,110,105,113,117,101]⟩]:List Value)[z1]?=some (.string u):=(by have hz:z1=0∨z1=1:=(by omega);rcases hz with rfl | rfl <;> exact ⟨⟨_,by exact Nat.le_of_ble_eq_true rfl⟩,rfl⟩);have j0:=X1 (HTd.o.trans N);have a1:=(World.ownsRow_lit (base:=0) (e:=9) (size:=1) w1 #[.string ⟨#[115,111,114,116,101,100]⟩,.string ⟨#[117,110,105,113,117,101]⟩] 2 (Nat.zero_le _) (by unfold maxLen;omega) rfl).cells rfl z1 _ hu;rw [Xl,Nat.zero_add] at a1;clear V N)
   | ((with_reducible refine Yg (w1.alloc (.cells #[.string ⟨#[115,111,114,116,101,100]⟩,.string ⟨#[117,110,105,113,117,101]⟩] 9)) ?_);refine Zg rfl 94 (.tmp 208) (.const (.int .i64 3)) (.tmp 210) _ _ _ rfl (.pointer (some ⟨gb,0,none⟩)) (.int .i64 3) (.int .i64 (d:Int)) (by first | (simp [Act.eval];done) | simp [Act.eval,Act.put]) (by first | (simp [Act.eval];done) | simp [Act.eval,Act.put]) (by first | (simp [Act.eval];done) | simp [Act.eval,Act.put]) Tryz.f94 Tryz.func94 (by kernel_rfl) (by kernel_rfl) _ (Qh gb rb vb n (HE.o _ _ _ _ (Z.o.below (bA (.cells #[.string ⟨#[115,111,114,116,101,100]⟩,.string ⟨#[117,110,105,113,117,101]⟩] 9))) (by omega) (by omega))) ?_;intro v2 w2 h2;obtain ⟨l2,f,p2,m2,m,i⟩:=h2;obtain ⟨l,j,W⟩:=f.form p2;subst W;have S:=X1 f;have P:=X1 m;have U:=X1 ((j0.o.trans (.of (bA (.cells #[.string ⟨#[115,111,114,116,101,100]⟩,.string ⟨#[117,110,105,113,117,101]⟩] 9)))).trans i);have Q:=X1 (XO (World.ownsRow_lit (base:=0) (e:=9) (size:=1) w1 #[.string ⟨#[115,111,114,116,101,100]⟩,.string ⟨#[117,110,105,113,117,101]⟩] 2 (Nat.zero_le _) (by unfold maxLen;omega) rfl) i L.o);have a2:=Q.o.cells rfl z1 _ hu;have a3:=(XO Q.o (TyM.of (M:=Mine) (bA (.cells #[.slice (some ⟨l,0,none⟩) l2.length j] 23))) L.o).cells rfl z1 _ hu;rw [Xl,Nat.zero_add] at a2 a3;clear m i f)
   | ((with_reducible refine Yg (w1) ?_);have _hl:=j2.o;refine Zg rfl 94 (.tmp 208) (.const (.int .i64 3)) (.tmp 210) _ _ _ rfl (.pointer (some ⟨gb,0,none⟩)) (.int .i64 3) (.int .i64 (d:Int)) (by first | (simp [Act.eval];done) | simp [Act.eval,Act.put]) (by first | (simp [Act.eval];done) | simp [Act.eval,Act.put]) (by first | (simp [Act.eval];done) | simp [Act.eval,Act.put]) Tryz.f94 Tryz.func94 (by kernel_rfl) (by kernel_rfl) _ (Qh gb rb vb n (HE.o _ _ _ _ Z.o (by omega) (by omega))) ?_;intro v2 w2 h2;obtain ⟨l2,f,p2,m2,m,i⟩:=h2;obtain ⟨l,j,W⟩:=f.form p2;subst W;have S:=X1 f;have P:=X1 m;have U:=X1 (j0.o.trans i);have Q:=X1 (XO j2.o i L.o);have a2:=Q.o.cells rfl z1 _ hu;have a3:=(XO Q.o (TyM.of (M:=Mine) (bA (.cells #[.slice (some ⟨l,0,none⟩) l2.length j] 23))) L.o).cells rfl z1 _ hu;rw [Xl,Nat.zero_add] at a2 a3;clear m i f)
   | ((with_reducible refine Yg (w1) ?_);refine Zg rfl 94 (.tmp 208) (.const (.int .i64 3)) (.tmp 210) _ _ _ rfl (.pointer (some ⟨gb,0,none⟩)) (.int .i64 3) (.int .i64 (d:Int)) (by first | (simp [Act.eval];done) | simp [Act.eval,Act.put]) (by first | (simp [Act.eval];done) | simp [Act.eval,Act.put]) (by first | (simp [Act.eval];done) | simp [Act.eval,Act.put]) Tryz.f94 Tryz.func94 (by kernel_rfl) (by kernel_rfl) _ (Qh gb rb vb n (HE.o _ _ _ _ Z.o (by omega) (by omega))) ?_;intro v2 w2 h2;obtain ⟨l2,f,p2,m2,m,i⟩:=h2;obtain ⟨l,j,W⟩:=f.form p2;subst W;have S:=X1 f;have P:=X1 m;have U:=X1 (j0.o.trans i);have a2:=(World.ownsRow_lit (base:=0) (e:=9) (size:=1) w2 #[.string ⟨#[115,111,114,116,101,100]⟩,.string ⟨#[117,110,105,113,117,101]⟩] 2 (Nat.zero_le _) (by unfold maxLen;omega) rfl).cells rfl z1 _ hu;rw [Xl,Nat.zero_add] at a2;have a3:=(World.ownsRow_lit (base:=0) (e:=9) (size:=1) (w2.alloc (.cells #[.slice (some ⟨l,0,none⟩) l2.length j] 23)) #[.string ⟨#[115,111,114,116,101,100]⟩,.string ⟨#[117,110,105,113,117,101]⟩] 2 (Nat.zero_le _) (by unfold maxLen;omega) rfl).cells rfl z1 _ hu;rw [Xl,Nat.zero_add] at a3;have a4:=(XO (World.ownsRow_lit (base:=0) (e:=9) (size:=1) w2 #[.string ⟨#[115,111,114,116,101,100]⟩,.string ⟨#[117,110,105,113,117,101]⟩] 2 (Nat.zero_le _) (by unfold maxLen;omega) rfl) (TyM.of (M:=Mine) (bA (.cells #[.slice (some ⟨l,0,none⟩) l2.length j] 23))) L.o).cells rfl z1 _ hu;rw [Xl,Nat.zero_add] at a4;rw [World.size_alloc] at a3;clear m i f)
   | ((with_reducible refine Yg (w2.alloc (.cells #[.slice (some ⟨l,0,none⟩) l2.length j] 23)) ?_);refine XM rfl 116 (.tmp 207) (.tmp 212) _ _ rfl (.string u) (.slice (some ⟨w2.heap.size,0,none⟩) 1 1) (by first | (simp [Act.eval];done) | simp [Act.eval,Act.put]) (by first | (simp [Act.eval];done) | simp [Act.eval,Act.put]) Tryz.f116 Tryz.func116 (by kernel_rfl) (by kernel_rfl) _ (Jj (by have hh:=YM u [_] _ _ kd (pr1 S.o p2) (by simpa using m2) (by omega) (by simp) (by simp);exact hh)) ?_;intro v3 w3 h3;obtain ⟨l3,g,p3,m3,b3⟩:=h3;obtain ⟨gq3,cq3,X⟩:=g.form p3;subst X;have j3:=X1 g;have j1:=X1 ((P.o.below (bA _)).below b3);have k8:=X1 ((U.o.trans (.of (bA _))).trans (.of b3));clear g b3)
   | ((with_reducible refine Yg ((w2.alloc (.cells #[.string ⟨#[115,111,114,116,101,100]⟩,.string ⟨#[117,110,105,113,117,101]⟩] 9)).alloc (.cells #[.slice (some ⟨l,0,none⟩) l2.length j] 23)) ?_);refine XM rfl 116 (.tmp 207) (.tmp 212) _ _ rfl (.string u) (.slice (some ⟨(w2.heap.size+1),0,none⟩) 1 1) (by first | (simp [Act.eval];done) | simp [Act.eval,Act.put]) (by first | (simp [Act.eval];done) | simp [Act.eval,Act.put]) Tryz.f116 Tryz.func116 (by kernel_rfl) (by kernel_rfl) _ (Jj (by have hh:=YM u [_] _ _ kd (pr1 (S.o.below (bA (.cells #[.string ⟨#[115,111,114,116,101,100]⟩,.string ⟨#[117,110,105,113,117,101]⟩] 9))) p2) (by simpa using m2) (by omega) (by simp) (by simp);rw [World.size_alloc] at hh;exact hh)) ?_;intro v3 w3 h3;obtain ⟨l3,g,p3,m3,b3⟩:=h3;obtain ⟨gq3,cq3,X⟩:=g.form p3;subst X;have j3:=X1 g;have j1:=X1 ((P.o.below ((bA _).alloc (by simp) _)).below b3);have k8:=X1 ((U.o.trans (.of ((bA _).alloc (by simp) _))).trans (.of b3));clear g b3)
   | ((with_reducible refine Yg ((w2.alloc (.cells #[.slice (some ⟨l,0,none⟩) l2.length j] 23)).alloc (.cells #[.string ⟨#[115,111,114,116,101,100]⟩,.string ⟨#[117,110,105,113,117,101]⟩] 9)) ?_);refine XM rfl 116 (.tmp 207) (.tmp 212) _ _ rfl (.string u) (.slice (some ⟨w2.heap.size,0,none⟩) 1 1) (by first | (simp [Act.eval];done) | simp [Act.eval,Act.put]) (by first | (simp [Act.eval];done) | simp [Act.eval,Act.put]) Tryz.f116 Tryz.func116 (by kernel_rfl) (by kernel_rfl) _ (Jj (by have hh:=YM u [_] _ _ kd ((pr1 S.o p2).below (bA (.cells #[.string ⟨#[115,111,114,116,101,100]⟩,.string ⟨#[117,110,105,113,117,101]⟩] 9))) (by simpa using m2) (by omega) (by simp) (by simp);exact hh)) ?_;intro v3 w3 h3;obtain ⟨l3,g,p3,m3,b3⟩:=h3;obtain ⟨gq3,cq3,X⟩:=g.form p3;subst X;have j3:=X1 g;have j1:=X1 ((P.o.below ((bA _).alloc (by simp) _)).below b3);have k8:=X1 ((U.o.trans (.of ((bA _).alloc (by simp) _))).trans (.of b3));clear g b3)
   )
  all_goals
   go_wp2
   go_ret
   exact ⟨_,_,rfl,j3.o,p3,by omega,j1.o.mono (by omega),k8.o⟩
 by_cases hz_1:c=1
 ·subst hz_1
  go_wp2_with fail
  refine (HE.o _ _ _ _ a.o (by omega) (by omega)).mono ?_
  rintro e32 w32 ⟨v32,l32,rfl,t,h5,mn32,f1,g2⟩
  have j5:=X1 g2
  have c9:=X1 f1
  have k9:=X1 (b.o.trans j5.o)
  have c0_32:=c9.o.c0
  clear f1 g2
  obtain ⟨gq32,cq32,o0⟩:=t.form h5
  subst o0
  have a6:=X1 t
  clear t
  go_wp2_with fail
  have c7:=X1 (World.ownsRow_lit (base:=0) (e:=9) (size:=1) w32 #[.string ⟨#[44]⟩,.string ⟨#[46]⟩,.string ⟨#[]⟩] 3 (Nat.zero_le _) (by unfold maxLen;omega) rfl)
  simp only [] at c7
  refine (Gn.pick (c9.o.below (bA _)) (by omega) 3 (by omega) (by omega)).mono ?_
  rintro e33 w33 ⟨Y,hz33,rfl,f2,r⟩
  have e6:=X1 (TyM.trans (TyM.of (M:=Mine) (bA _)) r)
  have d0:=X1 f2
  have l0:=X1 (k9.o.trans e6.o)
  have a7:=X1 (a6.o.ty e6.o)
  have a0:=X1 (XO c7.o r (by unfold Mine;simp))
  have c0_33:=d0.o.c0
  clear f2 r
  obtain ⟨u34,h0⟩:∃ u:Short,([.string ⟨#[44]⟩,.string ⟨#[46]⟩,.string ⟨#[]⟩]:List Value)[Y]?=some (.string u):=by
   have:Y=0∨Y=1∨Y=2:=by omega
   rcases this with rfl | rfl | rfl <;> exact ⟨⟨_,by exact Nat.le_of_ble_eq_true rfl⟩,rfl⟩
  have n7:=a0.o.cells rfl Y _ h0
  rw [Xl,Nat.zero_add] at n7
  clear h0
  go_wp2_with fail
  refine (ZJ _ _).mono ?_
  rintro e35 w35 ⟨v35,l35,rfl,v,h6,mn35,n0⟩
  have e7:=X1 (TyM.of (M:=Mine) n0)
  have d1:=X1 (d0.o.below n0)
  have l1:=X1 (l0.o.trans e7.o)
  have a8:=X1 (a7.o.ty e7.o)
  have c0_35:=d1.o.c0
  clear n0
  obtain ⟨gq35,cq35,o1⟩:=v.form h6
  subst o1
  have a9:=X1 v
  clear v
  go_wp2_with fail
  have HO:=X1 (YM ⟨#[115,112,108,105,116]⟩ [_,_] _ _ (1 * kd+1) (pr2 a8.o a9.o h5 h6) (by rw [fl2];omega) (by omega) (by simp) (by simp))
  refine (HO.o).mono ?_
  rintro e36 w36 ⟨v36,l36,rfl,x,h7,mn36,n1⟩
  have j6:=X1 (TyM.trans (TyM.of (M:=Mine) (bA _)) (TyM.of (M:=Mine) n1))
  have d2:=X1 ((d1.o.below (bA _)).below n1)
  have l4:=X1 (l1.o.trans j6.o)
  have c0_36:=d2.o.c0
  clear n1
  obtain ⟨gq36,cq36,o2⟩:=x.form h7
  subst o2
  have b0:=X1 x
  clear x
  go_wp2
  go_ret
  exact ⟨_,_,rfl,b0.o,h7,by omega,d2.o.mono (by omega),l4.o⟩
 by_cases hz_2:c=2
 ·subst hz_2
  go_wp2_with fail
  have c8:=X1 (World.ownsRow_lit (base:=0) (e:=9) (size:=1) p #[.string ⟨#[]⟩,.string ⟨#[97]⟩,.string ⟨#[120]⟩,.string ⟨#[108,105,98,47]⟩] 4 (Nat.zero_le _) (by unfold maxLen;omega) rfl)
  simp only [] at c8
  refine (Gn.pick (a.o.below (bA _)) (by omega) 4 (by omega) (by omega)).mono ?_
  rintro e37 w37 ⟨O,hz37,rfl,f3,s⟩
  have j7:=X1 (TyM.trans (TyM.of (M:=Mine) (bA _)) s)
  have d3:=X1 f3
  have l5:=X1 (b.o.trans j7.o)
  have a5:=X1 (XO c8.o s (by unfold Mine;simp))
  have c0_37:=d3.o.c0
  clear f3 s
  obtain ⟨u38,h4⟩:∃ u:Short,([.string ⟨#[]⟩,.string ⟨#[97]⟩,.string ⟨#[120]⟩,.string ⟨#[108,105,98,47]⟩]:List Value)[O]?=some (.string u):=by
   have:O=0∨O=1∨O=2∨O=3:=by omega
   rcases this with rfl | rfl | rfl | rfl <;> exact ⟨⟨_,by exact Nat.le_of_ble_eq_true rfl⟩,rfl⟩
  have n8:=a5.o.cells rfl O _ h4
  rw [Xl,Nat.zero_add] at n8
  clear h4
  go_wp2_with fail
  refine (ZJ _ _).mono ?_
  rintro e39 w39 ⟨v39,l39,rfl,y,h8,mn39,n2⟩
  have j8:=X1 (TyM.of (M:=Mine) n2)
  have d4:=X1 (d3.o.below n2)
  have l6:=X1 (l5.o.trans j8.o)
  have c0_39:=d4.o.c0
  clear n2
  obtain ⟨gq39,cq39,o3⟩:=y.form h8
  subst o3
  have b1:=X1 y
  clear y
  go_wp2_with fail
  have HO:=X1 (YM ⟨#[102,105,108,101,115]⟩ [_] _ _ (0 * kd+1) (pr1 b1.o h8) (by rw [fl1];omega) (by omega) (by simp) (by simp))
  refine (HO.o).mono ?_
  rintro e40 w40 ⟨v40,l40,rfl,z,h9,mn40,n3⟩
  have j9:=X1 (TyM.trans (TyM.of (M:=Mine) (bA _)) (TyM.of (M:=Mine) n3))
  have d5:=X1 ((d4.o.below (bA _)).below n3)
  have l7:=X1 (l6.o.trans j9.o)
  have c0_40:=d5.o.c0
  clear n3
  obtain ⟨gq40,cq40,o4⟩:=z.form h9
  subst o4
  have b2:=X1 z
  clear z
  go_wp2
  go_ret
  exact ⟨_,_,rfl,b2.o,h9,by omega,d5.o.mono (by omega),l7.o⟩
 by_cases hz_3:c=3
 ·subst hz_3
  go_wp2_with fail
  refine (HE.o _ _ _ _ a.o (by omega) (by omega)).mono ?_
  rintro e41 w41 ⟨v41,l41,rfl,A,i0,mn41,f4,g3⟩
  have k0:=X1 g3
  have d6:=X1 f4
  have l8:=X1 (b.o.trans k0.o)
  have c0_41:=d6.o.c0
  clear f4 g3
  obtain ⟨gq41,cq41,o5⟩:=A.form i0
  subst o5
  have b4:=X1 A
  clear A
  go_wp2_with fail
  have HO:=X1 (YM ⟨#[107,101,121,115]⟩ [_] _ _ (1 * kd+0) (pr1 b4.o i0) (by rw [fl1];omega) (by omega) (by simp) (by simp))
  refine (HO.o).mono ?_
  rintro e42 w42 ⟨v42,l42,rfl,B,i1,mn42,n4⟩
  have k1:=X1 (TyM.trans (TyM.of (M:=Mine) (bA _)) (TyM.of (M:=Mine) n4))
  have d7:=X1 ((d6.o.below (bA _)).below n4)
  have l9:=X1 (l8.o.trans k1.o)
  have c0_42:=d7.o.c0
  clear n4
  obtain ⟨gq42,cq42,o6⟩:=B.form i1
  subst o6
  have b5:=X1 B
  clear B
  go_wp2
  go_ret
  exact ⟨_,_,rfl,b5.o,i1,by omega,d7.o.mono (by omega),l9.o⟩
 by_cases hz_4:c=4
 ·subst hz_4
  go_wp2_with fail
  refine (HE.o _ _ _ _ a.o (by omega) (by omega)).mono ?_
  rintro e43 w43 ⟨v43,l43,rfl,C,i2,mn43,f5,g4⟩
  have k2:=X1 g4
  have d8:=X1 f5
  have m0:=X1 (b.o.trans k2.o)
  have c0_43:=d8.o.c0
  clear f5 g4
  obtain ⟨gq43,cq43,o7⟩:=C.form i2
  subst o7
  have b6:=X1 C
  clear C
  go_wp2_with fail
  refine (HE.o _ _ _ _ d8.o (by omega) (by omega)).mono ?_
  rintro e44 w44 ⟨v44,l44,rfl,D,i3,mn44,f6,g5⟩
  have e8:=X1 g5
  have d9:=X1 f6
  have m1:=X1 (m0.o.trans e8.o)
  have b7:=X1 (b6.o.ty e8.o)
  have c0_44:=d9.o.c0
  clear f6 g5
  obtain ⟨gq44,cq44,o8⟩:=D.form i3
  subst o8
  have b8:=X1 D
  clear D
  go_wp2_with fail
  have HO:=X1 (fun op=>KC op _ _ _ _ (2 * kd+0) _ b7.o b8.o i2 i3 (by omega) (by omega))
  refine (HO.o _).mono ?_
  rintro e45 w45 ⟨v45,l45,rfl,E,i4,mn45,n5⟩
  have k3:=X1 (TyM.of (M:=Mine) n5)
  have e0:=X1 (d9.o.below n5)
  have m4:=X1 (m1.o.trans k3.o)
  have c0_45:=e0.o.c0
  clear n5
  obtain ⟨gq45,cq45,o9⟩:=E.form i4
  subst o9
  have b9:=X1 E
  clear E
  go_wp2
  go_ret
  exact ⟨_,_,rfl,b9.o,i4,by omega,e0.o.mono (by omega),m4.o⟩
 by_cases hz_5:c=5
 ·subst hz_5
  go_wp2_with fail
  refine (HEA.o _ _ _ _ a.o (by omega) (by omega)).mono ?_
  rintro e46 w46 ⟨v46,l46,rfl,F,i5,mn46,f7,g6⟩
  have k4:=X1 g6
  have e1:=X1 f7
  have m5:=X1 (b.o.trans k4.o)
  have c0_46:=e1.o.c0
  clear f7 g6
  obtain ⟨gq46,cq46,p0⟩:=F.form i5
  subst p0
  have c1:=X1 F
  clear F
  go_wp2
  go_ret
  exact ⟨_,_,rfl,c1.o,i5,by omega,e1.o.mono (by omega),m5.o⟩
 by_cases hz_6:c=6
 ·subst hz_6
  go_wp2_with fail
  refine (HEA.o _ _ _ _ a.o (by omega) (by omega)).mono ?_
  rintro e47 w47 ⟨v47,l47,rfl,H,i6,mn47,f8,g7⟩
  have k5:=X1 g7
  have e2:=X1 f8
  have m6:=X1 (b.o.trans k5.o)
  have c0_47:=e2.o.c0
  clear f8 g7
  obtain ⟨gq47,cq47,p1⟩:=H.form i6
  subst p1
  have c2:=X1 H
  clear H
  go_wp2
  go_ret
  exact ⟨_,_,rfl,c2.o,i6,by omega,e2.o.mono (by omega),m6.o⟩
 have hb_0:((c:Int) == 0)=false:=by simp;omega
 have hb_1:((c:Int) == 1)=false:=by simp;omega
 have hb_2:((c:Int) == 2)=false:=by simp;omega
 have hb_3:((c:Int) == 3)=false:=by simp;omega
 have hb_4:((c:Int) == 4)=false:=by simp;omega
 have hb_5:((c:Int) == 5)=false:=by simp;omega
 have hb_6:((c:Int) == 6)=false:=by simp;omega
 go_wp2_with fail
 refine (HE.o _ _ _ _ a.o (by omega) (by omega)).mono ?_
 rintro e48 w48 ⟨v48,l48,rfl,I,i7,mn48,f9,g8⟩
 have k6:=X1 g8
 have e3:=X1 f9
 have m7:=X1 (b.o.trans k6.o)
 have c0_48:=e3.o.c0
 clear f9 g8
 obtain ⟨gq48,cq48,p4⟩:=I.form i7
 subst p4
 have c3:=X1 I
 clear I
 go_wp2_with fail
 refine (HE.o _ _ _ _ e3.o (by omega) (by omega)).mono ?_
 rintro e49 w49 ⟨v49,l49,rfl,J,i8,mn49,g0,g9⟩
 have e9:=X1 g9
 have e4:=X1 g0
 have m8:=X1 (m7.o.trans e9.o)
 have c4:=X1 (c3.o.ty e9.o)
 have c0_49:=e4.o.c0
 clear g0 g9
 obtain ⟨gq49,cq49,p5⟩:=J.form i8
 subst p5
 have c5:=X1 J
 clear J
 go_wp2_with fail
 have HO:=X1 (XF ⟨8,0,0,⟨#[]⟩,0⟩ [_,_] _ _ (2 * kd+0) (pr2 c4.o c5.o i7 i8) (by rw [fl2];omega) (by omega) (by simp))
 unfold ndV at HO
 refine (HO.o).mono ?_
 rintro e50 w50 ⟨v50,l50,rfl,K,i9,mn50,n6⟩
 have k7:=X1 (TyM.trans (TyM.of (M:=Mine) (bA _)) (TyM.of (M:=Mine) n6))
 have e5:=X1 ((e4.o.below (bA _)).below n6)
 have m9:=X1 (m8.o.trans k7.o)
 have c0_50:=e5.o.c0
 clear n6
 obtain ⟨gq50,cq50,p6⟩:=K.form i9
 subst p6
 have c6:=X1 K
 clear K
 go_wp2
 go_ret
 exact ⟨_,_,rfl,c6.o,i9,by omega,e5.o.mono (by omega),m9.o⟩
variable (gb rb:Nat) (vb:Value) (n:Nat)
set_option maxRecDepth 100000 in
set_option maxHeartbeats 16000000 in
theorem of_any [LB] (d kd:Nat) (HE:EAt gb rb vb n d kd) (HEA:JC gb rb vb n d kd) (HRE:Jr gb rb vb n d kd) (q k:Nat) (kind:Int) (w:World) (h:Gn gb rb vb n q k w) (hq:q+5 * kd+40≤700000000) (hk:k+1+d≤900) (hkd:kd≤1000000) (h0:kind≠0) (h1:kind≠1) (h2:kind≠2) (h3:kind≠3) (h4:kind≠4):Calls Tryz.prog 107 #[.pointer (some ⟨gb,0,none⟩),.int .i64 kind,.int .i64 ((d:Int)+1)] w fun e w'=>GMk gb rb vb n q (4 * kd+30) k w e w':=by
 have hwd:IntKind.i64.wrap (d:Int)=(d:Int):=by rw [IntKind.wrap_i64];omega
 have HG0:=X1 h
 have HT0:Hid (Ty w w):=X1 (.refl w)
 have c0:=h.c0
 have HEA:=X1 HEA
 have HRE:=X1 HRE
 have HE:=X1 HE
 clear h
 have kb0:(kind == 0)=false:=by simpa using h0
 have kb1:(kind == 1)=false:=by simpa using h1
 have kb2:(kind == 2)=false:=by simpa using h2
 have kb3:(kind == 3)=false:=by simpa using h3
 have kb4:(kind == 4)=false:=by simpa using h4
 go_enter Tryz.func107,Tryz.ntmps107
 have HGd:=X1 (HG0.o.below (Below.refl _ _).drew)
 have HTd:=X1 (HT0.o.trans (.of (Below.refl _ _).drew))
 have hzd:w.drew.heap.size=w.heap.size:=rfl
 have HGa:=X1 (HG0.o.below (bA (.cells #[.string ⟨#[97]⟩,.string ⟨#[98]⟩] 9)).drew)
 have HTa:=X1 (HT0.o.trans (.of (bA (.cells #[.string ⟨#[97]⟩,.string ⟨#[98]⟩] 9)).drew))
 have HLd:Hid ((((w.alloc (.cells #[.string ⟨#[97]⟩,.string ⟨#[98]⟩] 9)).drew).ownsRow 0 9 1 (.slice (some ⟨w.heap.size,0,none⟩) 2 2) 2 [.string ⟨#[97]⟩,.string ⟨#[98]⟩])):=X1 (World.ownsRow_lit (base:=0) (e:=9) (size:=1) w #[.string ⟨#[97]⟩,.string ⟨#[98]⟩] 2 (Nat.zero_le _) (by unfold maxLen;omega) rfl)
 have j:Hid (¬ Mine (some 9)):=X1 (by unfold Mine;simp)
 go_wp2_with fail
 go_region_law (first
  | ((with_reducible refine Yg ((w.alloc (.cells #[.string ⟨#[97]⟩,.string ⟨#[98]⟩] 9)).drew) ?_);refine XM rfl 14 (.tmp 328) (.const (.int .i64 2)) _ _ rfl (.pointer (some ⟨rb,0,none⟩)) (.int .i64 2) (by first | (simp [Act.eval];done) | simp [Act.eval,Act.put]) (by first | (simp [Act.eval];done) | simp [Act.eval,Act.put]) Tryz.f14 Tryz.func14 (by kernel_rfl) (by kernel_rfl) _ (Qv gb rb vb n HGa.o (by omega) 2 (by omega) (by omega)) ?_;intro v1 w1 h1;obtain ⟨z1,hz1,E,t,l⟩:=h1;subst E;have y:=X1 t;obtain ⟨u,hu⟩:∃ u:Short,([.string ⟨#[97]⟩,.string ⟨#[98]⟩]:List Value)[z1]?=some (.string u):=(by have hz:z1=0∨z1=1:=(by omega);rcases hz with rfl | rfl <;> exact ⟨⟨_,by exact Nat.le_of_ble_eq_true rfl⟩,rfl⟩);have z:=X1 (HTa.o.trans l);have B:=X1 (XO HLd.o l j.o);have a1:=B.o.cells rfl z1 _ hu;rw [Xl,Nat.zero_add] at a1;clear t l)
  | ((with_reducible refine Yg (w.drew) ?_);refine XM rfl 14 (.tmp 328) (.const (.int .i64 2)) _ _ rfl (.pointer (some ⟨rb,0,none⟩)) (.int .i64 2) (by first | (simp [Act.eval];done) | simp [Act.eval,Act.put]) (by first | (simp [Act.eval];done) | simp [Act.eval,Act.put]) Tryz.f14 Tryz.func14 (by kernel_rfl) (by kernel_rfl) _ (Qv gb rb vb n HGd.o (by omega) 2 (by omega) (by omega)) ?_;intro v1 w1 h1;obtain ⟨z1,hz1,E,t,l⟩:=h1;subst E;have y:=X1 t;obtain ⟨u,hu⟩:∃ u:Short,([.string ⟨#[97]⟩,.string ⟨#[98]⟩]:List Value)[z1]?=some (.string u):=(by have hz:z1=0∨z1=1:=(by omega);rcases hz with rfl | rfl <;> exact ⟨⟨_,by exact Nat.le_of_ble_eq_true rfl⟩,rfl⟩);have z:=X1 (HTd.o.trans l);have a1:=(World.ownsRow_lit (base:=0) (e:=9) (size:=1) w1 #[.string ⟨#[97]⟩,.string ⟨#[98]⟩] 2 (Nat.zero_le _) (by unfold maxLen;omega) rfl).cells rfl z1 _ hu;rw [Xl,Nat.zero_add] at a1;clear t l)
  | ((with_reducible refine Yg (w1.alloc (.cells #[.string ⟨#[97]⟩,.string ⟨#[98]⟩] 9)) ?_);refine Zg rfl 94 (.tmp 333) (.const (.int .i64 4)) (.tmp 335) _ _ _ rfl (.pointer (some ⟨gb,0,none⟩)) (.int .i64 4) (.int .i64 (d:Int)) (by first | (simp [Act.eval];done) | simp [Act.eval,Act.put]) (by first | (simp [Act.eval];done) | simp [Act.eval,Act.put]) (by first | (simp [Act.eval];done) | simp [Act.eval,Act.put]) Tryz.f94 Tryz.func94 (by kernel_rfl) (by kernel_rfl) _ (Qh gb rb vb n (HE.o _ _ _ _ (y.o.below (bA (.cells #[.string ⟨#[97]⟩,.string ⟨#[98]⟩] 9))) (by omega) (by omega))) ?_;intro v2 w2 h2;obtain ⟨l2,a,p2,m2,i,c⟩:=h2;obtain ⟨g,f,v⟩:=a.form p2;subst v;have r:=X1 a;have m:=X1 i;have s:=X1 ((z.o.trans (.of (bA (.cells #[.string ⟨#[97]⟩,.string ⟨#[98]⟩] 9)))).trans c);have p:=X1 (XO (World.ownsRow_lit (base:=0) (e:=9) (size:=1) w1 #[.string ⟨#[97]⟩,.string ⟨#[98]⟩] 2 (Nat.zero_le _) (by unfold maxLen;omega) rfl) c j.o);have a2:=p.o.cells rfl z1 _ hu;have a3:=(XO p.o (TyM.of (M:=Mine) (bA (.cells #[.slice (some ⟨g,0,none⟩) l2.length f] 23))) j.o).cells rfl z1 _ hu;rw [Xl,Nat.zero_add] at a2 a3;clear i c a)
  | ((with_reducible refine Yg (w1) ?_);have _hl:=B.o;refine Zg rfl 94 (.tmp 333) (.const (.int .i64 4)) (.tmp 335) _ _ _ rfl (.pointer (some ⟨gb,0,none⟩)) (.int .i64 4) (.int .i64 (d:Int)) (by first | (simp [Act.eval];done) | simp [Act.eval,Act.put]) (by first | (simp [Act.eval];done) | simp [Act.eval,Act.put]) (by first | (simp [Act.eval];done) | simp [Act.eval,Act.put]) Tryz.f94 Tryz.func94 (by kernel_rfl) (by kernel_rfl) _ (Qh gb rb vb n (HE.o _ _ _ _ y.o (by omega) (by omega))) ?_;intro v2 w2 h2;obtain ⟨l2,a,p2,m2,i,c⟩:=h2;obtain ⟨g,f,v⟩:=a.form p2;subst v;have r:=X1 a;have m:=X1 i;have s:=X1 (z.o.trans c);have p:=X1 (XO B.o c j.o);have a2:=p.o.cells rfl z1 _ hu;have a3:=(XO p.o (TyM.of (M:=Mine) (bA (.cells #[.slice (some ⟨g,0,none⟩) l2.length f] 23))) j.o).cells rfl z1 _ hu;rw [Xl,Nat.zero_add] at a2 a3;clear i c a)
  | ((with_reducible refine Yg (w1) ?_);refine Zg rfl 94 (.tmp 333) (.const (.int .i64 4)) (.tmp 335) _ _ _ rfl (.pointer (some ⟨gb,0,none⟩)) (.int .i64 4) (.int .i64 (d:Int)) (by first | (simp [Act.eval];done) | simp [Act.eval,Act.put]) (by first | (simp [Act.eval];done) | simp [Act.eval,Act.put]) (by first | (simp [Act.eval];done) | simp [Act.eval,Act.put]) Tryz.f94 Tryz.func94 (by kernel_rfl) (by kernel_rfl) _ (Qh gb rb vb n (HE.o _ _ _ _ y.o (by omega) (by omega))) ?_;intro v2 w2 h2;obtain ⟨l2,a,p2,m2,i,c⟩:=h2;obtain ⟨g,f,v⟩:=a.form p2;subst v;have r:=X1 a;have m:=X1 i;have s:=X1 (z.o.trans c);have a2:=(World.ownsRow_lit (base:=0) (e:=9) (size:=1) w2 #[.string ⟨#[97]⟩,.string ⟨#[98]⟩] 2 (Nat.zero_le _) (by unfold maxLen;omega) rfl).cells rfl z1 _ hu;rw [Xl,Nat.zero_add] at a2;have a3:=(World.ownsRow_lit (base:=0) (e:=9) (size:=1) (w2.alloc (.cells #[.slice (some ⟨g,0,none⟩) l2.length f] 23)) #[.string ⟨#[97]⟩,.string ⟨#[98]⟩] 2 (Nat.zero_le _) (by unfold maxLen;omega) rfl).cells rfl z1 _ hu;rw [Xl,Nat.zero_add] at a3;have a4:=(XO (World.ownsRow_lit (base:=0) (e:=9) (size:=1) w2 #[.string ⟨#[97]⟩,.string ⟨#[98]⟩] 2 (Nat.zero_le _) (by unfold maxLen;omega) rfl) (TyM.of (M:=Mine) (bA (.cells #[.slice (some ⟨g,0,none⟩) l2.length f] 23))) j.o).cells rfl z1 _ hu;rw [Xl,Nat.zero_add] at a4;rw [World.size_alloc] at a3;clear i c a)
  | ((with_reducible refine Yg (w2.alloc (.cells #[.slice (some ⟨g,0,none⟩) l2.length f] 23)) ?_);refine XM rfl 64 (.tmp 332) (.tmp 337) _ _ rfl (ndV ⟨11,0,0,u,0⟩) (.slice (some ⟨w2.heap.size,0,none⟩) 1 1) (by unfold ndV;first | (simp [Act.eval];done) | simp [Act.eval,Act.put]) (by first | (simp [Act.eval];done) | simp [Act.eval,Act.put]) Tryz.f64 Tryz.func64 (by kernel_rfl) (by kernel_rfl) _ (Jj (by have hh:=XF ⟨11,0,0,u,0⟩ [_] _ _ kd (pr1 r.o p2) (by simpa using m2) (by omega) (by simp);exact hh)) ?_;intro v3 w3 h3;obtain ⟨l3,b,p3,m3,b3⟩:=h3;obtain ⟨gq3,cq3,x⟩:=b.form p3;subst x;have C:=X1 b;have A:=X1 ((m.o.below (bA _)).below b3);have D:=X1 ((s.o.trans (.of (bA _))).trans (.of b3));clear b b3)
  | ((with_reducible refine Yg ((w2.alloc (.cells #[.string ⟨#[97]⟩,.string ⟨#[98]⟩] 9)).alloc (.cells #[.slice (some ⟨g,0,none⟩) l2.length f] 23)) ?_);refine XM rfl 64 (.tmp 332) (.tmp 337) _ _ rfl (ndV ⟨11,0,0,u,0⟩) (.slice (some ⟨(w2.heap.size+1),0,none⟩) 1 1) (by unfold ndV;first | (simp [Act.eval];done) | simp [Act.eval,Act.put]) (by first | (simp [Act.eval];done) | simp [Act.eval,Act.put]) Tryz.f64 Tryz.func64 (by kernel_rfl) (by kernel_rfl) _ (Jj (by have hh:=XF ⟨11,0,0,u,0⟩ [_] _ _ kd (pr1 (r.o.below (bA (.cells #[.string ⟨#[97]⟩,.string ⟨#[98]⟩] 9))) p2) (by simpa using m2) (by omega) (by simp);rw [World.size_alloc] at hh;exact hh)) ?_;intro v3 w3 h3;obtain ⟨l3,b,p3,m3,b3⟩:=h3;obtain ⟨gq3,cq3,x⟩:=b.form p3;subst x;have C:=X1 b;have A:=X1 ((m.o.below ((bA _).alloc (by simp) _)).below b3);have D:=X1 ((s.o.trans (.of ((bA _).alloc (by simp) _))).trans (.of b3));clear b b3)
  | ((with_reducible refine Yg ((w2.alloc (.cells #[.slice (some ⟨g,0,none⟩) l2.length f] 23)).alloc (.cells #[.string ⟨#[97]⟩,.string ⟨#[98]⟩] 9)) ?_);refine XM rfl 64 (.tmp 332) (.tmp 337) _ _ rfl (ndV ⟨11,0,0,u,0⟩) (.slice (some ⟨w2.heap.size,0,none⟩) 1 1) (by unfold ndV;first | (simp [Act.eval];done) | simp [Act.eval,Act.put]) (by first | (simp [Act.eval];done) | simp [Act.eval,Act.put]) Tryz.f64 Tryz.func64 (by kernel_rfl) (by kernel_rfl) _ (Jj (by have hh:=XF ⟨11,0,0,u,0⟩ [_] _ _ kd ((pr1 r.o p2).below (bA (.cells #[.string ⟨#[97]⟩,.string ⟨#[98]⟩] 9))) (by simpa using m2) (by omega) (by simp);exact hh)) ?_;intro v3 w3 h3;obtain ⟨l3,b,p3,m3,b3⟩:=h3;obtain ⟨gq3,cq3,x⟩:=b.form p3;subst x;have C:=X1 b;have A:=X1 ((m.o.below ((bA _).alloc (by simp) _)).below b3);have D:=X1 ((s.o.trans (.of ((bA _).alloc (by simp) _))).trans (.of b3));clear b b3)
  )
 all_goals
  go_wp2
  go_ret
  exact ⟨_,_,rfl,C.o,p3,by omega,A.o.mono (by omega),D.o⟩
variable (gb rb:Nat) (vb:Value) (n:Nat)
set_option maxRecDepth 100000 in
set_option maxHeartbeats 16000000 in
theorem of_bool [LB] (d kd:Nat) (HE:EAt gb rb vb n d kd) (HEA:JC gb rb vb n d kd) (HRE:Jr gb rb vb n d kd) (q k:Nat) (kind:Int) (w:World) (h:Gn gb rb vb n q k w) (hq:q+5 * kd+40≤700000000) (hk:k+1+d≤900) (hkd:kd≤1000000) (hkind:kind=2):Calls Tryz.prog 107 #[.pointer (some ⟨gb,0,none⟩),.int .i64 kind,.int .i64 ((d:Int)+1)] w fun e w'=>GMk gb rb vb n q (4 * kd+30) k w e w':=by
 have hwd:IntKind.i64.wrap (d:Int)=(d:Int):=by rw [IntKind.wrap_i64];omega
 have HG0:=X1 h
 have HT0:Hid (Ty w w):=X1 (.refl w)
 have c0:=h.c0
 have HEA:=X1 HEA
 have HRE:=X1 HRE
 have HE:=X1 HE
 clear h
 subst hkind
 go_enter Tryz.func107,Tryz.ntmps107
 go_wp2_with fail
 refine (Gn.pick HG0.o (by omega) 5 (by omega) (by omega)).mono ?_
 rintro e31 w31 ⟨z31,hz31,rfl,f2,g9⟩
 have k3:=X1 g9
 have c5:=X1 f2
 have m1:=X1 (HT0.o.trans k3.o)
 have c0_31:=c5.o.c0
 clear f2 g9
 go_wp2_with fail
 refine (Gn.pick c5.o (by omega) 6 (by omega) (by omega)).mono ?_
 rintro e32 w32 ⟨c,hz32,rfl,f3,h0⟩
 have k4:=X1 h0
 have a:=X1 f3
 have b:=X1 (m1.o.trans k4.o)
 have c0_32:=a.o.c0
 clear f3 h0
 by_cases hz_0:c=0
 ·subst hz_0
  go_wp2_with fail
  refine (HE.o _ _ _ _ a.o (by omega) (by omega)).mono ?_
  rintro e33 w33 ⟨v33,l33,rfl,g,i6,mn33,f4,h1⟩
  have k5:=X1 h1
  have c6:=X1 f4
  have m2:=X1 (b.o.trans k5.o)
  have c0_33:=c6.o.c0
  clear f4 h1
  obtain ⟨gq33,cq33,o4⟩:=g.form i6
  subst o4
  have a1:=X1 g
  clear g
  go_wp2_with fail
  have HO:=X1 (XF ⟨6,1,0,⟨#[]⟩,0⟩ [_] _ _ (1 * kd+0) (pr1 a1.o i6) (by rw [fl1];omega) (by omega) (by simp))
  unfold ndV at HO
  refine (HO.o).mono ?_
  rintro e34 w34 ⟨v34,l34,rfl,i,i7,mn34,F⟩
  have k6:=X1 (TyM.trans (TyM.of (M:=Mine) (bA _)) (TyM.of (M:=Mine) F))
  have c7:=X1 ((c6.o.below (bA _)).below F)
  have m3:=X1 (m2.o.trans k6.o)
  have c0_34:=c7.o.c0
  clear F
  obtain ⟨gq34,cq34,o5⟩:=i.form i7
  subst o5
  have a2:=X1 i
  clear i
  go_wp2
  go_ret
  exact ⟨_,_,rfl,a2.o,i7,by omega,c7.o.mono (by omega),m3.o⟩
 by_cases hz_1:c=1
 ·subst hz_1
  go_wp2_with fail
  refine (Gn.pick a.o (by omega) 2 (by omega) (by omega)).mono ?_
  rintro e35 w35 ⟨z35,hz35,rfl,f5,h2⟩
  have k7:=X1 h2
  have c8:=X1 f5
  have m4:=X1 (b.o.trans k7.o)
  have c0_35:=c8.o.c0
  clear f5 h2
  go_wp2_with fail
  refine (HE.o _ _ _ _ c8.o (by omega) (by omega)).mono ?_
  rintro e36 w36 ⟨v36,l36,rfl,j,i8,mn36,f6,h3⟩
  have k8:=X1 h3
  have c9:=X1 f6
  have m5:=X1 (m4.o.trans k8.o)
  have c0_36:=c9.o.c0
  clear f6 h3
  obtain ⟨gq36,cq36,o6⟩:=j.form i8
  subst o6
  have a3:=X1 j
  clear j
  go_wp2_with fail
  refine (HE.o _ _ _ _ c9.o (by omega) (by omega)).mono ?_
  rintro e37 w37 ⟨v37,l37,rfl,l,i9,mn37,f7,h4⟩
  have e7:=X1 h4
  have d0:=X1 f7
  have m6:=X1 (m5.o.trans e7.o)
  have a4:=X1 (a3.o.ty e7.o)
  have c0_37:=d0.o.c0
  clear f7 h4
  obtain ⟨gq37,cq37,o7⟩:=l.form i9
  subst o7
  have a7:=X1 l
  clear l
  go_wp2_with fail
  have HO:=X1 (fun op=>KC op _ _ _ _ (2 * kd+0) _ a4.o a7.o i8 i9 (by omega) (by omega))
  refine (HO.o _).mono ?_
  rintro e38 w38 ⟨v38,l38,rfl,m,j0,mn38,H⟩
  have k9:=X1 (TyM.of (M:=Mine) H)
  have d1:=X1 (d0.o.below H)
  have m7:=X1 (m6.o.trans k9.o)
  have c0_38:=d1.o.c0
  clear H
  obtain ⟨gq38,cq38,o8⟩:=m.form j0
  subst o8
  have a9:=X1 m
  clear m
  go_wp2
  go_ret
  exact ⟨_,_,rfl,a9.o,j0,by omega,d1.o.mono (by omega),m7.o⟩
 by_cases hz_2:c=2
 ·subst hz_2
  go_wp2_with fail
  refine (Gn.pick a.o (by omega) 2 (by omega) (by omega)).mono ?_
  rintro e39 w39 ⟨z39,hz39,rfl,f8,h5⟩
  have l0:=X1 h5
  have d2:=X1 f8
  have m8:=X1 (b.o.trans l0.o)
  have c0_39:=d2.o.c0
  clear f8 h5
  go_wp2_with fail
  refine (HE.o _ _ _ _ d2.o (by omega) (by omega)).mono ?_
  rintro e40 w40 ⟨v40,l40,rfl,p,j1,mn40,f9,h6⟩
  have l1:=X1 h6
  have d3:=X1 f9
  have m9:=X1 (m8.o.trans l1.o)
  have c0_40:=d3.o.c0
  clear f9 h6
  obtain ⟨gq40,cq40,o9⟩:=p.form j1
  subst o9
  have a5:=X1 p
  clear p
  go_wp2_with fail
  refine (HE.o _ _ _ _ d3.o (by omega) (by omega)).mono ?_
  rintro e41 w41 ⟨v41,l41,rfl,r,j2,mn41,g0,h7⟩
  have e8:=X1 h7
  have d4:=X1 g0
  have n0:=X1 (m9.o.trans e8.o)
  have a6:=X1 (a5.o.ty e8.o)
  have c0_41:=d4.o.c0
  clear g0 h7
  obtain ⟨gq41,cq41,p0⟩:=r.form j2
  subst p0
  have a8:=X1 r
  clear r
  go_wp2_with fail
  have HO:=X1 (fun op=>KC op _ _ _ _ (2 * kd+0) _ a6.o a8.o j1 j2 (by omega) (by omega))
  refine (HO.o _).mono ?_
  rintro e42 w42 ⟨v42,l42,rfl,s,j3,mn42,I⟩
  have l2:=X1 (TyM.of (M:=Mine) I)
  have d5:=X1 (d4.o.below I)
  have n1:=X1 (n0.o.trans l2.o)
  have c0_42:=d5.o.c0
  clear I
  obtain ⟨gq42,cq42,p1⟩:=s.form j3
  subst p1
  have b0:=X1 s
  clear s
  go_wp2
  go_ret
  exact ⟨_,_,rfl,b0.o,j3,by omega,d5.o.mono (by omega),n1.o⟩
 by_cases hz_3:c=3
 ·subst hz_3
  go_wp2_with fail
  have c4:=X1 (World.ownsRow_lit (base:=0) (e:=3) (size:=1) w32 #[.int .i64 1,.int .i64 3,.int .i64 4] 3 (Nat.zero_le _) (by unfold maxLen;omega) rfl)
  simp only [] at c4
  refine (Gn.pick (a.o.below (bA _)) (by omega) 3 (by omega) (by omega)).mono ?_
  rintro e43 w43 ⟨E,hz43,rfl,g1,f⟩
  have l3:=X1 (TyM.trans (TyM.of (M:=Mine) (bA _)) f)
  have d6:=X1 g1
  have n2:=X1 (b.o.trans l3.o)
  have a0:=X1 (XO c4.o f (by unfold Mine;simp))
  have c0_43:=d6.o.c0
  clear g1 f
  obtain ⟨u44,i5⟩:∃ u,([.int .i64 1,.int .i64 3,.int .i64 4]:List Value)[E]?=some (.int .i64 u):=by
   have:E=0∨E=1∨E=2:=by omega
   rcases this with rfl | rfl | rfl <;> exact ⟨_,rfl⟩
  have o3:=a0.o.cells rfl E _ i5
  rw [Xl,Nat.zero_add] at o3
  clear i5
  go_wp2_with fail
  refine (HE.o _ _ _ _ d6.o (by omega) (by omega)).mono ?_
  rintro e45 w45 ⟨v45,l45,rfl,t,j4,mn45,g2,h8⟩
  have l4:=X1 h8
  have d7:=X1 g2
  have n3:=X1 (n2.o.trans l4.o)
  have c0_45:=d7.o.c0
  clear g2 h8
  obtain ⟨gq45,cq45,p2⟩:=t.form j4
  subst p2
  have b1:=X1 t
  clear t
  go_wp2_with fail
  refine (HE.o _ _ _ _ d7.o (by omega) (by omega)).mono ?_
  rintro e46 w46 ⟨v46,l46,rfl,v,j5,mn46,g3,h9⟩
  have e9:=X1 h9
  have d8:=X1 g3
  have n4:=X1 (n3.o.trans e9.o)
  have b2:=X1 (b1.o.ty e9.o)
  have c0_46:=d8.o.c0
  clear g3 h9
  obtain ⟨gq46,cq46,p3⟩:=v.form j5
  subst p3
  have b3:=X1 v
  clear v
  go_wp2_with fail
  have HO:=X1 (fun op=>KC op _ _ _ _ (2 * kd+0) _ b2.o b3.o j4 j5 (by omega) (by omega))
  refine (HO.o _).mono ?_
  rintro e47 w47 ⟨v47,l47,rfl,x,j6,mn47,J⟩
  have l5:=X1 (TyM.of (M:=Mine) J)
  have d9:=X1 (d8.o.below J)
  have n5:=X1 (n4.o.trans l5.o)
  have c0_47:=d9.o.c0
  clear J
  obtain ⟨gq47,cq47,p4⟩:=x.form j6
  subst p4
  have b4:=X1 x
  clear x
  go_wp2
  go_ret
  exact ⟨_,_,rfl,b4.o,j6,by omega,d9.o.mono (by omega),n5.o⟩
 by_cases hz_4:c=4
 ·subst hz_4
  go_wp2_with fail
  refine (HE.o _ _ _ _ a.o (by omega) (by omega)).mono ?_
  rintro e48 w48 ⟨v48,l48,rfl,y,j7,mn48,g4,i0⟩
  have l6:=X1 i0
  have e0:=X1 g4
  have n6:=X1 (b.o.trans l6.o)
  have c0_48:=e0.o.c0
  clear g4 i0
  obtain ⟨gq48,cq48,p5⟩:=y.form j7
  subst p5
  have b5:=X1 y
  clear y
  go_wp2_with fail
  refine (HE.o _ _ _ _ e0.o (by omega) (by omega)).mono ?_
  rintro e49 w49 ⟨v49,l49,rfl,z,j8,mn49,g5,i1⟩
  have f0:=X1 i1
  have e1:=X1 g5
  have n7:=X1 (n6.o.trans f0.o)
  have b6:=X1 (b5.o.ty f0.o)
  have c0_49:=e1.o.c0
  clear g5 i1
  obtain ⟨gq49,cq49,p6⟩:=z.form j8
  subst p6
  have b7:=X1 z
  clear z
  go_wp2_with fail
  have HO:=X1 (YM ⟨#[98,101,103,105,110,115]⟩ [_,_] _ _ (2 * kd+0) (pr2 b6.o b7.o j7 j8) (by rw [fl2];omega) (by omega) (by simp) (by simp))
  refine (HO.o).mono ?_
  rintro e50 w50 ⟨v50,l50,rfl,A,j9,mn50,K⟩
  have l7:=X1 (TyM.trans (TyM.of (M:=Mine) (bA _)) (TyM.of (M:=Mine) K))
  have e2:=X1 ((e1.o.below (bA _)).below K)
  have n8:=X1 (n7.o.trans l7.o)
  have c0_50:=e2.o.c0
  clear K
  obtain ⟨gq50,cq50,p7⟩:=A.form j9
  subst p7
  have b8:=X1 A
  clear A
  go_wp2
  go_ret
  exact ⟨_,_,rfl,b8.o,j9,by omega,e2.o.mono (by omega),n8.o⟩
 have hb_0:((c:Int) == 0)=false:=by simp;omega
 have hb_1:((c:Int) == 1)=false:=by simp;omega
 have hb_2:((c:Int) == 2)=false:=by simp;omega
 have hb_3:((c:Int) == 3)=false:=by simp;omega
 have hb_4:((c:Int) == 4)=false:=by simp;omega
 go_wp2_with fail
 refine (Gn.pick a.o (by omega) 6 (by omega) (by omega)).mono ?_
 rintro e51 w51 ⟨z51,hz51,rfl,g6,i2⟩
 have l8:=X1 i2
 have e3:=X1 g6
 have n9:=X1 (b.o.trans l8.o)
 have c0_51:=e3.o.c0
 clear g6 i2
 go_wp2_with fail
 refine (HE.o _ _ _ _ e3.o (by omega) (by omega)).mono ?_
 rintro e52 w52 ⟨v52,l52,rfl,B,k0,mn52,g7,i3⟩
 have l9:=X1 i3
 have e4:=X1 g7
 have o0:=X1 (n9.o.trans l9.o)
 have c0_52:=e4.o.c0
 clear g7 i3
 obtain ⟨gq52,cq52,p8⟩:=B.form k0
 subst p8
 have b9:=X1 B
 clear B
 go_wp2_with fail
 refine (HE.o _ _ _ _ e4.o (by omega) (by omega)).mono ?_
 rintro e53 w53 ⟨v53,l53,rfl,C,k1,mn53,g8,i4⟩
 have f1:=X1 i4
 have e5:=X1 g8
 have o1:=X1 (o0.o.trans f1.o)
 have c1:=X1 (b9.o.ty f1.o)
 have c0_53:=e5.o.c0
 clear g8 i4
 obtain ⟨gq53,cq53,p9⟩:=C.form k1
 subst p9
 have c2:=X1 C
 clear C
 go_wp2_with fail
 have HO:=X1 (fun op=>KC op _ _ _ _ (2 * kd+0) _ c1.o c2.o k0 k1 (by omega) (by omega))
 refine (HO.o _).mono ?_
 rintro e54 w54 ⟨v54,l54,rfl,D,k2,mn54,L⟩
 have m0:=X1 (TyM.of (M:=Mine) L)
 have e6:=X1 (e5.o.below L)
 have o2:=X1 (o1.o.trans m0.o)
 have c0_54:=e6.o.c0
 clear L
 obtain ⟨gq54,cq54,q0⟩:=D.form k2
 subst q0
 have c3:=X1 D
 clear D
 go_wp2
 go_ret
 exact ⟨_,_,rfl,c3.o,k2,by omega,e6.o.mono (by omega),o2.o⟩
end Go.Proofs.YtimbaebigjjkaaaGreatDoor
