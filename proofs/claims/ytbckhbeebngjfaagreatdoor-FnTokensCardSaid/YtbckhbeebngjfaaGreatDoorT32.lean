/- Ck. -/
import Derived.Test.YtbckhbeebngjfaaGreatDoorT31
namespace Go.Proofs.YtbckhbeebngjfaaGreatDoor
open Go.RowKit
variable (gb rb:Nat) (vb:Value) (n:Nat)
theorem world_is [Inhabited Bs] {P:Program} {c:Prop} [Decidable c] {o:Oper} {a:Act} {K:Act→World→Prop} {Q:Exit→Act→World→Prop} {E:Prop} (X:World) (h:if c then Oper.wp P o a X K Q else E):if c then Oper.wp P o a X K Q else E:=h
theorem pick_ex [Inhabited Bs] {q k:Nat} {w:World} (h:Gn gb rb vb n q k w) (hq:q≤900000000) (m:Int) (h1:1≤m) (h2:m≤1000000):Calls Tryz.prog 8 #[.pointer (some ⟨rb,0,none⟩),.int .i64 m] w fun e w1=>∃ r,e = .returned r∧∃ z:Nat,(z:Int) < m∧r = .int .i64 (z:Int)∧Gn gb rb vb n (q+1) k w1∧Ty w w1:=(h.pick hq m h1 h2).mono fun _ _ ⟨z,a,b,c⟩=>⟨_,b,z,a,rfl,c⟩
set_option maxRecDepth 100000 in
set_option maxHeartbeats 16000000 in
theorem of_list [Inhabited Bs] (d kd:Nat) (HE:EAt gb rb vb n d kd) (HEA:EachAt gb rb vb n d kd) (HRE:RecAt gb rb vb n d kd) (q k:Nat) (kind:Int) (w:World) (h:Gn gb rb vb n q k w) (hq:q+5 * kd+40≤700000000) (hk:k+1+d≤900) (hkd:kd≤1000000) (hkind:kind=3):Calls Tryz.prog 94 #[.pointer (some ⟨gb,0,none⟩),.int .i64 kind,.int .i64 ((d:Int)+1)] w fun e w'=>GMk gb rb vb n q (4 * kd+30) k w e w':=by
 have hwd:IntKind.i64.wrap (d:Int)=(d:Int):=by rw [IntKind.wrap_i64];omega
 have HG0:=hide h
 have HT0:Hid (Ty w w):=hide (.refl w)
 have c0:=h.c0
 have HEA:=hide HEA
 have HRE:=hide HRE
 have HE:=hide HE
 clear h
 subst hkind
 go_enter Tryz.func94,Tryz.ntmps94
 go_wp2_with fail
 refine (Gn.pick HG0.out (by omega) 9 (by omega) (by omega)).mono ?_
 rintro e31 w31 ⟨z31,hz31,rfl,hg31,ht31⟩
 have HR31:=hide ht31
 have HG31:=hide hg31
 have HT31:=hide (HT0.out.trans HR31.out)
 have c0_31:=HG31.out.c0
 clear hg31 ht31
 by_cases hz_0:z31=0
 ·subst hz_0
  go_wp2_with fail
  have HGd:=hide (HG31.out.below (Below.refl _ _).drew)
  have HTd:=hide (HT31.out.trans (.of (Below.refl _ _).drew))
  have hzd:w31.drew.heap.size=w31.heap.size:=rfl
  have HGa:=hide (HG31.out.below (bA (.cells #[.string ⟨#[115,111,114,116,101,100]⟩,.string ⟨#[117,110,105,113,117,101]⟩] 9)).drew)
  have HTa:=hide (HT31.out.trans (.of (bA (.cells #[.string ⟨#[115,111,114,116,101,100]⟩,.string ⟨#[117,110,105,113,117,101]⟩] 9)).drew))
  have HLd:Hid ((((w31.alloc (.cells #[.string ⟨#[115,111,114,116,101,100]⟩,.string ⟨#[117,110,105,113,117,101]⟩] 9)).drew).ownsRow 0 9 1 (.slice (some ⟨w31.heap.size,0,none⟩) 2 2) 2 [.string ⟨#[115,111,114,116,101,100]⟩,.string ⟨#[117,110,105,113,117,101]⟩])):=hide (World.ownsRow_lit (base:=0) (e:=9) (size:=1) w31 #[.string ⟨#[115,111,114,116,101,100]⟩,.string ⟨#[117,110,105,113,117,101]⟩] 2 (Nat.zero_le _) (by unfold maxLen;omega) rfl)
  have HMS:Hid (¬ Mine (some 9)):=hide (by unfold Mine;simp)
  go_wp2_with fail
  go_region_law (first
   | ((with_reducible refine world_is ((w31.alloc (.cells #[.string ⟨#[115,111,114,116,101,100]⟩,.string ⟨#[117,110,105,113,117,101]⟩] 9)).drew) ?_);refine step_call2E rfl 8 (.tmp 204) (.const (.int .i64 2)) _ _ rfl (.pointer (some ⟨rb,0,none⟩)) (.int .i64 2) (by first | (simp [Act.eval];done) | simp [Act.eval,Act.put]) (by first | (simp [Act.eval];done) | simp [Act.eval,Act.put]) Tryz.f8 Tryz.func8 (by kernel_rfl) (by kernel_rfl) _ (pick_ex gb rb vb n HGa.out (by omega) 2 (by omega) (by omega)) ?_;intro v1 w1 h1;obtain ⟨z1,hz1,hv1,hg1,ht1⟩:=h1;subst hv1;have HG1:=hide hg1;obtain ⟨u,hu⟩:∃ u:Short,([.string ⟨#[115,111,114,116,101,100]⟩,.string ⟨#[117,110,105,113,117,101]⟩]:List Value)[z1]?=some (.string u):=(by have hz:z1=0∨z1=1:=(by omega);rcases hz with rfl | rfl <;> exact ⟨⟨_,by exact Nat.le_of_ble_eq_true rfl⟩,rfl⟩);have HT1:=hide (HTa.out.trans ht1);have HL1:=hide (row_ty HLd.out ht1 HMS.out);have a1:=HL1.out.cells rfl z1 _ hu;rw [add_plainP,Nat.zero_add] at a1;clear hg1 ht1)
   | ((with_reducible refine world_is (w31.drew) ?_);refine step_call2E rfl 8 (.tmp 204) (.const (.int .i64 2)) _ _ rfl (.pointer (some ⟨rb,0,none⟩)) (.int .i64 2) (by first | (simp [Act.eval];done) | simp [Act.eval,Act.put]) (by first | (simp [Act.eval];done) | simp [Act.eval,Act.put]) Tryz.f8 Tryz.func8 (by kernel_rfl) (by kernel_rfl) _ (pick_ex gb rb vb n HGd.out (by omega) 2 (by omega) (by omega)) ?_;intro v1 w1 h1;obtain ⟨z1,hz1,hv1,hg1,ht1⟩:=h1;subst hv1;have HG1:=hide hg1;obtain ⟨u,hu⟩:∃ u:Short,([.string ⟨#[115,111,114,116,101,100]⟩,.string ⟨#[117,110,105,113,117,101]⟩]:List Value)[z1]?=some (.string u):=(by have hz:z1=0∨z1=1:=(by omega);rcases hz with rfl | rfl <;> exact ⟨⟨_,by exact Nat.le_of_ble_eq_true rfl⟩,rfl⟩);have HT1:=hide (HTd.out.trans ht1);have a1:=(World.ownsRow_lit (base:=0) (e:=9) (size:=1) w1 #[.string ⟨#[115,111,114,116,101,100]⟩,.string ⟨#[117,110,105,113,117,101]⟩] 2 (Nat.zero_le _) (by unfold maxLen;omega) rfl).cells rfl z1 _ hu;rw [add_plainP,Nat.zero_add] at a1;clear hg1 ht1)
   | ((with_reducible refine world_is (w1.alloc (.cells #[.string ⟨#[115,111,114,116,101,100]⟩,.string ⟨#[117,110,105,113,117,101]⟩] 9)) ?_);refine step_call3E rfl 83 (.tmp 208) (.const (.int .i64 3)) (.tmp 210) _ _ _ rfl (.pointer (some ⟨gb,0,none⟩)) (.int .i64 3) (.int .i64 (d:Int)) (by first | (simp [Act.eval];done) | simp [Act.eval,Act.put]) (by first | (simp [Act.eval];done) | simp [Act.eval,Act.put]) (by first | (simp [Act.eval];done) | simp [Act.eval,Act.put]) Tryz.f83 Tryz.func83 (by kernel_rfl) (by kernel_rfl) _ (gmk_ex gb rb vb n (HE.out _ _ _ _ (HG1.out.below (bA (.cells #[.string ⟨#[115,111,114,116,101,100]⟩,.string ⟨#[117,110,105,113,117,101]⟩] 9))) (by omega) (by omega))) ?_;intro v2 w2 h2;obtain ⟨l2,nr2,p2,m2,hg2,ht2⟩:=h2;obtain ⟨gq2,cq2,hv2⟩:=nr2.form p2;subst hv2;have HN2:=hide nr2;have HG2:=hide hg2;have HT2:=hide ((HT1.out.trans (.of (bA (.cells #[.string ⟨#[115,111,114,116,101,100]⟩,.string ⟨#[117,110,105,113,117,101]⟩] 9)))).trans ht2);have HL2:=hide (row_ty (World.ownsRow_lit (base:=0) (e:=9) (size:=1) w1 #[.string ⟨#[115,111,114,116,101,100]⟩,.string ⟨#[117,110,105,113,117,101]⟩] 2 (Nat.zero_le _) (by unfold maxLen;omega) rfl) ht2 HMS.out);have a2:=HL2.out.cells rfl z1 _ hu;have a3:=(row_ty HL2.out (TyM.of (M:=Mine) (bA (.cells #[.slice (some ⟨gq2,0,none⟩) l2.length cq2] 48))) HMS.out).cells rfl z1 _ hu;rw [add_plainP,Nat.zero_add] at a2 a3;clear hg2 ht2 nr2)
   | ((with_reducible refine world_is (w1) ?_);have _hl:=HL1.out;refine step_call3E rfl 83 (.tmp 208) (.const (.int .i64 3)) (.tmp 210) _ _ _ rfl (.pointer (some ⟨gb,0,none⟩)) (.int .i64 3) (.int .i64 (d:Int)) (by first | (simp [Act.eval];done) | simp [Act.eval,Act.put]) (by first | (simp [Act.eval];done) | simp [Act.eval,Act.put]) (by first | (simp [Act.eval];done) | simp [Act.eval,Act.put]) Tryz.f83 Tryz.func83 (by kernel_rfl) (by kernel_rfl) _ (gmk_ex gb rb vb n (HE.out _ _ _ _ HG1.out (by omega) (by omega))) ?_;intro v2 w2 h2;obtain ⟨l2,nr2,p2,m2,hg2,ht2⟩:=h2;obtain ⟨gq2,cq2,hv2⟩:=nr2.form p2;subst hv2;have HN2:=hide nr2;have HG2:=hide hg2;have HT2:=hide (HT1.out.trans ht2);have HL2:=hide (row_ty HL1.out ht2 HMS.out);have a2:=HL2.out.cells rfl z1 _ hu;have a3:=(row_ty HL2.out (TyM.of (M:=Mine) (bA (.cells #[.slice (some ⟨gq2,0,none⟩) l2.length cq2] 48))) HMS.out).cells rfl z1 _ hu;rw [add_plainP,Nat.zero_add] at a2 a3;clear hg2 ht2 nr2)
   | ((with_reducible refine world_is (w1) ?_);refine step_call3E rfl 83 (.tmp 208) (.const (.int .i64 3)) (.tmp 210) _ _ _ rfl (.pointer (some ⟨gb,0,none⟩)) (.int .i64 3) (.int .i64 (d:Int)) (by first | (simp [Act.eval];done) | simp [Act.eval,Act.put]) (by first | (simp [Act.eval];done) | simp [Act.eval,Act.put]) (by first | (simp [Act.eval];done) | simp [Act.eval,Act.put]) Tryz.f83 Tryz.func83 (by kernel_rfl) (by kernel_rfl) _ (gmk_ex gb rb vb n (HE.out _ _ _ _ HG1.out (by omega) (by omega))) ?_;intro v2 w2 h2;obtain ⟨l2,nr2,p2,m2,hg2,ht2⟩:=h2;obtain ⟨gq2,cq2,hv2⟩:=nr2.form p2;subst hv2;have HN2:=hide nr2;have HG2:=hide hg2;have HT2:=hide (HT1.out.trans ht2);have a2:=(World.ownsRow_lit (base:=0) (e:=9) (size:=1) w2 #[.string ⟨#[115,111,114,116,101,100]⟩,.string ⟨#[117,110,105,113,117,101]⟩] 2 (Nat.zero_le _) (by unfold maxLen;omega) rfl).cells rfl z1 _ hu;rw [add_plainP,Nat.zero_add] at a2;have a3:=(World.ownsRow_lit (base:=0) (e:=9) (size:=1) (w2.alloc (.cells #[.slice (some ⟨gq2,0,none⟩) l2.length cq2] 48)) #[.string ⟨#[115,111,114,116,101,100]⟩,.string ⟨#[117,110,105,113,117,101]⟩] 2 (Nat.zero_le _) (by unfold maxLen;omega) rfl).cells rfl z1 _ hu;rw [add_plainP,Nat.zero_add] at a3;have a4:=(row_ty (World.ownsRow_lit (base:=0) (e:=9) (size:=1) w2 #[.string ⟨#[115,111,114,116,101,100]⟩,.string ⟨#[117,110,105,113,117,101]⟩] 2 (Nat.zero_le _) (by unfold maxLen;omega) rfl) (TyM.of (M:=Mine) (bA (.cells #[.slice (some ⟨gq2,0,none⟩) l2.length cq2] 48))) HMS.out).cells rfl z1 _ hu;rw [add_plainP,Nat.zero_add] at a4;rw [World.size_alloc] at a3;clear hg2 ht2 nr2)
   | ((with_reducible refine world_is (w2.alloc (.cells #[.slice (some ⟨gq2,0,none⟩) l2.length cq2] 48)) ?_);refine step_call2E rfl 106 (.tmp 207) (.tmp 212) _ _ rfl (.string u) (.slice (some ⟨w2.heap.size,0,none⟩) 1 1) (by first | (simp [Act.eval];done) | simp [Act.eval,Act.put]) (by first | (simp [Act.eval];done) | simp [Act.eval,Act.put]) Tryz.f106 Tryz.func106 (by kernel_rfl) (by kernel_rfl) _ (mk_ex (by have hh:=callN_any u [_] _ _ kd (pr1 HN2.out p2) (by simpa using m2) (by omega) (by simp) (by simp);exact hh)) ?_;intro v3 w3 h3;obtain ⟨l3,nr3,p3,m3,b3⟩:=h3;obtain ⟨gq3,cq3,hv3⟩:=nr3.form p3;subst hv3;have HN3:=hide nr3;have HG3:=hide ((HG2.out.below (bA _)).below b3);have HT3:=hide ((HT2.out.trans (.of (bA _))).trans (.of b3));clear nr3 b3)
   | ((with_reducible refine world_is ((w2.alloc (.cells #[.string ⟨#[115,111,114,116,101,100]⟩,.string ⟨#[117,110,105,113,117,101]⟩] 9)).alloc (.cells #[.slice (some ⟨gq2,0,none⟩) l2.length cq2] 48)) ?_);refine step_call2E rfl 106 (.tmp 207) (.tmp 212) _ _ rfl (.string u) (.slice (some ⟨(w2.heap.size+1),0,none⟩) 1 1) (by first | (simp [Act.eval];done) | simp [Act.eval,Act.put]) (by first | (simp [Act.eval];done) | simp [Act.eval,Act.put]) Tryz.f106 Tryz.func106 (by kernel_rfl) (by kernel_rfl) _ (mk_ex (by have hh:=callN_any u [_] _ _ kd (pr1 (HN2.out.below (bA (.cells #[.string ⟨#[115,111,114,116,101,100]⟩,.string ⟨#[117,110,105,113,117,101]⟩] 9))) p2) (by simpa using m2) (by omega) (by simp) (by simp);rw [World.size_alloc] at hh;exact hh)) ?_;intro v3 w3 h3;obtain ⟨l3,nr3,p3,m3,b3⟩:=h3;obtain ⟨gq3,cq3,hv3⟩:=nr3.form p3;subst hv3;have HN3:=hide nr3;have HG3:=hide ((HG2.out.below ((bA _).alloc (by simp) _)).below b3);have HT3:=hide ((HT2.out.trans (.of ((bA _).alloc (by simp) _))).trans (.of b3));clear nr3 b3)
   | ((with_reducible refine world_is ((w2.alloc (.cells #[.slice (some ⟨gq2,0,none⟩) l2.length cq2] 48)).alloc (.cells #[.string ⟨#[115,111,114,116,101,100]⟩,.string ⟨#[117,110,105,113,117,101]⟩] 9)) ?_);refine step_call2E rfl 106 (.tmp 207) (.tmp 212) _ _ rfl (.string u) (.slice (some ⟨w2.heap.size,0,none⟩) 1 1) (by first | (simp [Act.eval];done) | simp [Act.eval,Act.put]) (by first | (simp [Act.eval];done) | simp [Act.eval,Act.put]) Tryz.f106 Tryz.func106 (by kernel_rfl) (by kernel_rfl) _ (mk_ex (by have hh:=callN_any u [_] _ _ kd ((pr1 HN2.out p2).below (bA (.cells #[.string ⟨#[115,111,114,116,101,100]⟩,.string ⟨#[117,110,105,113,117,101]⟩] 9))) (by simpa using m2) (by omega) (by simp) (by simp);exact hh)) ?_;intro v3 w3 h3;obtain ⟨l3,nr3,p3,m3,b3⟩:=h3;obtain ⟨gq3,cq3,hv3⟩:=nr3.form p3;subst hv3;have HN3:=hide nr3;have HG3:=hide ((HG2.out.below ((bA _).alloc (by simp) _)).below b3);have HT3:=hide ((HT2.out.trans (.of ((bA _).alloc (by simp) _))).trans (.of b3));clear nr3 b3)
   )
  all_goals
   go_wp2
   go_ret
   exact ⟨_,_,rfl,HN3.out,p3,by omega,HG3.out.mono (by omega),HT3.out⟩
 by_cases hz_1:z31=1
 ·subst hz_1
  go_wp2_with fail
  refine (HE.out _ _ _ _ HG31.out (by omega) (by omega)).mono ?_
  rintro e32 w32 ⟨v32,l32,rfl,nr32,pn32,mn32,hg32,ht32⟩
  have HR32:=hide ht32
  have HG32:=hide hg32
  have HT32:=hide (HT31.out.trans HR32.out)
  have c0_32:=HG32.out.c0
  clear hg32 ht32
  obtain ⟨gq32,cq32,hv32⟩:=nr32.form pn32
  subst hv32
  have HNn219_32:=hide nr32
  clear nr32
  go_wp2_with fail
  have HLA220:=hide (World.ownsRow_lit (base:=0) (e:=9) (size:=1) w32 #[.string ⟨#[44]⟩,.string ⟨#[46]⟩,.string ⟨#[]⟩] 3 (Nat.zero_le _) (by unfold maxLen;omega) rfl)
  simp only [] at HLA220
  refine (Gn.pick (HG32.out.below (bA _)) (by omega) 3 (by omega) (by omega)).mono ?_
  rintro e33 w33 ⟨z33,hz33,rfl,hg33,ht33⟩
  have HR33:=hide (TyM.trans (TyM.of (M:=Mine) (bA _)) ht33)
  have HG33:=hide hg33
  have HT33:=hide (HT32.out.trans HR33.out)
  have HNn219_33:=hide (HNn219_32.out.ty HR33.out)
  have HLA220_33:=hide (row_ty HLA220.out ht33 (by unfold Mine;simp))
  have c0_33:=HG33.out.c0
  clear hg33 ht33
  obtain ⟨u34,hu34⟩:∃ u:Short,([.string ⟨#[44]⟩,.string ⟨#[46]⟩,.string ⟨#[]⟩]:List Value)[z33]?=some (.string u):=by
   have:z33=0∨z33=1∨z33=2:=by omega
   rcases this with rfl | rfl | rfl <;> exact ⟨⟨_,by exact Nat.le_of_ble_eq_true rfl⟩,rfl⟩
  have cl34:=HLA220_33.out.cells rfl z33 _ hu34
  rw [add_plainP,Nat.zero_add] at cl34
  clear hu34
  go_wp2_with fail
  refine (textN_any _ _).mono ?_
  rintro e35 w35 ⟨v35,l35,rfl,nr35,pn35,mn35,b35⟩
  have HR35:=hide (TyM.of (M:=Mine) b35)
  have HG35:=hide (HG33.out.below b35)
  have HT35:=hide (HT33.out.trans HR35.out)
  have HNn219_35:=hide (HNn219_33.out.ty HR35.out)
  have c0_35:=HG35.out.c0
  clear b35
  obtain ⟨gq35,cq35,hv35⟩:=nr35.form pn35
  subst hv35
  have HNn225_35:=hide nr35
  clear nr35
  go_wp2_with fail
  have HO:=hide (callN_any ⟨#[115,112,108,105,116]⟩ [_,_] _ _ (1 * kd+1) (pr2 HNn219_35.out HNn225_35.out pn32 pn35) (by rw [fl2];omega) (by omega) (by simp) (by simp))
  refine (HO.out).mono ?_
  rintro e36 w36 ⟨v36,l36,rfl,nr36,pn36,mn36,b36⟩
  have HR36:=hide (TyM.trans (TyM.of (M:=Mine) (bA _)) (TyM.of (M:=Mine) b36))
  have HG36:=hide ((HG35.out.below (bA _)).below b36)
  have HT36:=hide (HT35.out.trans HR36.out)
  have c0_36:=HG36.out.c0
  clear b36
  obtain ⟨gq36,cq36,hv36⟩:=nr36.form pn36
  subst hv36
  have HNn227_36:=hide nr36
  clear nr36
  go_wp2
  go_ret
  exact ⟨_,_,rfl,HNn227_36.out,pn36,by omega,HG36.out.mono (by omega),HT36.out⟩
 by_cases hz_2:z31=2
 ·subst hz_2
  go_wp2_with fail
  have HLA230:=hide (World.ownsRow_lit (base:=0) (e:=9) (size:=1) w31 #[.string ⟨#[]⟩,.string ⟨#[97]⟩,.string ⟨#[120]⟩,.string ⟨#[108,105,98,47]⟩] 4 (Nat.zero_le _) (by unfold maxLen;omega) rfl)
  simp only [] at HLA230
  refine (Gn.pick (HG31.out.below (bA _)) (by omega) 4 (by omega) (by omega)).mono ?_
  rintro e37 w37 ⟨z37,hz37,rfl,hg37,ht37⟩
  have HR37:=hide (TyM.trans (TyM.of (M:=Mine) (bA _)) ht37)
  have HG37:=hide hg37
  have HT37:=hide (HT31.out.trans HR37.out)
  have HLA230_37:=hide (row_ty HLA230.out ht37 (by unfold Mine;simp))
  have c0_37:=HG37.out.c0
  clear hg37 ht37
  obtain ⟨u38,hu38⟩:∃ u:Short,([.string ⟨#[]⟩,.string ⟨#[97]⟩,.string ⟨#[120]⟩,.string ⟨#[108,105,98,47]⟩]:List Value)[z37]?=some (.string u):=by
   have:z37=0∨z37=1∨z37=2∨z37=3:=by omega
   rcases this with rfl | rfl | rfl | rfl <;> exact ⟨⟨_,by exact Nat.le_of_ble_eq_true rfl⟩,rfl⟩
  have cl38:=HLA230_37.out.cells rfl z37 _ hu38
  rw [add_plainP,Nat.zero_add] at cl38
  clear hu38
  go_wp2_with fail
  refine (textN_any _ _).mono ?_
  rintro e39 w39 ⟨v39,l39,rfl,nr39,pn39,mn39,b39⟩
  have HR39:=hide (TyM.of (M:=Mine) b39)
  have HG39:=hide (HG37.out.below b39)
  have HT39:=hide (HT37.out.trans HR39.out)
  have c0_39:=HG39.out.c0
  clear b39
  obtain ⟨gq39,cq39,hv39⟩:=nr39.form pn39
  subst hv39
  have HNn235_39:=hide nr39
  clear nr39
  go_wp2_with fail
  have HO:=hide (callN_any ⟨#[102,105,108,101,115]⟩ [_] _ _ (0 * kd+1) (pr1 HNn235_39.out pn39) (by rw [fl1];omega) (by omega) (by simp) (by simp))
  refine (HO.out).mono ?_
  rintro e40 w40 ⟨v40,l40,rfl,nr40,pn40,mn40,b40⟩
  have HR40:=hide (TyM.trans (TyM.of (M:=Mine) (bA _)) (TyM.of (M:=Mine) b40))
  have HG40:=hide ((HG39.out.below (bA _)).below b40)
  have HT40:=hide (HT39.out.trans HR40.out)
  have c0_40:=HG40.out.c0
  clear b40
  obtain ⟨gq40,cq40,hv40⟩:=nr40.form pn40
  subst hv40
  have HNn237_40:=hide nr40
  clear nr40
  go_wp2
  go_ret
  exact ⟨_,_,rfl,HNn237_40.out,pn40,by omega,HG40.out.mono (by omega),HT40.out⟩
 by_cases hz_3:z31=3
 ·subst hz_3
  go_wp2_with fail
  refine (HE.out _ _ _ _ HG31.out (by omega) (by omega)).mono ?_
  rintro e41 w41 ⟨v41,l41,rfl,nr41,pn41,mn41,hg41,ht41⟩
  have HR41:=hide ht41
  have HG41:=hide hg41
  have HT41:=hide (HT31.out.trans HR41.out)
  have c0_41:=HG41.out.c0
  clear hg41 ht41
  obtain ⟨gq41,cq41,hv41⟩:=nr41.form pn41
  subst hv41
  have HNn243_41:=hide nr41
  clear nr41
  go_wp2_with fail
  have HO:=hide (callN_any ⟨#[107,101,121,115]⟩ [_] _ _ (1 * kd+0) (pr1 HNn243_41.out pn41) (by rw [fl1];omega) (by omega) (by simp) (by simp))
  refine (HO.out).mono ?_
  rintro e42 w42 ⟨v42,l42,rfl,nr42,pn42,mn42,b42⟩
  have HR42:=hide (TyM.trans (TyM.of (M:=Mine) (bA _)) (TyM.of (M:=Mine) b42))
  have HG42:=hide ((HG41.out.below (bA _)).below b42)
  have HT42:=hide (HT41.out.trans HR42.out)
  have c0_42:=HG42.out.c0
  clear b42
  obtain ⟨gq42,cq42,hv42⟩:=nr42.form pn42
  subst hv42
  have HNn245_42:=hide nr42
  clear nr42
  go_wp2
  go_ret
  exact ⟨_,_,rfl,HNn245_42.out,pn42,by omega,HG42.out.mono (by omega),HT42.out⟩
 by_cases hz_4:z31=4
 ·subst hz_4
  go_wp2_with fail
  refine (HE.out _ _ _ _ HG31.out (by omega) (by omega)).mono ?_
  rintro e43 w43 ⟨v43,l43,rfl,nr43,pn43,mn43,hg43,ht43⟩
  have HR43:=hide ht43
  have HG43:=hide hg43
  have HT43:=hide (HT31.out.trans HR43.out)
  have c0_43:=HG43.out.c0
  clear hg43 ht43
  obtain ⟨gq43,cq43,hv43⟩:=nr43.form pn43
  subst hv43
  have HNn251_43:=hide nr43
  clear nr43
  go_wp2_with fail
  refine (HE.out _ _ _ _ HG43.out (by omega) (by omega)).mono ?_
  rintro e44 w44 ⟨v44,l44,rfl,nr44,pn44,mn44,hg44,ht44⟩
  have HR44:=hide ht44
  have HG44:=hide hg44
  have HT44:=hide (HT43.out.trans HR44.out)
  have HNn251_44:=hide (HNn251_43.out.ty HR44.out)
  have c0_44:=HG44.out.c0
  clear hg44 ht44
  obtain ⟨gq44,cq44,hv44⟩:=nr44.form pn44
  subst hv44
  have HNn255_44:=hide nr44
  clear nr44
  go_wp2_with fail
  have HO:=hide (fun op=>binN_any op _ _ _ _ (2 * kd+0) _ HNn251_44.out HNn255_44.out pn43 pn44 (by omega) (by omega))
  refine (HO.out _).mono ?_
  rintro e45 w45 ⟨v45,l45,rfl,nr45,pn45,mn45,b45⟩
  have HR45:=hide (TyM.of (M:=Mine) b45)
  have HG45:=hide (HG44.out.below b45)
  have HT45:=hide (HT44.out.trans HR45.out)
  have c0_45:=HG45.out.c0
  clear b45
  obtain ⟨gq45,cq45,hv45⟩:=nr45.form pn45
  subst hv45
  have HNn256_45:=hide nr45
  clear nr45
  go_wp2
  go_ret
  exact ⟨_,_,rfl,HNn256_45.out,pn45,by omega,HG45.out.mono (by omega),HT45.out⟩
 by_cases hz_5:z31=5
 ·subst hz_5
  go_wp2_with fail
  refine (HEA.out _ _ _ _ HG31.out (by omega) (by omega)).mono ?_
  rintro e46 w46 ⟨v46,l46,rfl,nr46,pn46,mn46,hg46,ht46⟩
  have HR46:=hide ht46
  have HG46:=hide hg46
  have HT46:=hide (HT31.out.trans HR46.out)
  have c0_46:=HG46.out.c0
  clear hg46 ht46
  obtain ⟨gq46,cq46,hv46⟩:=nr46.form pn46
  subst hv46
  have HNn262_46:=hide nr46
  clear nr46
  go_wp2
  go_ret
  exact ⟨_,_,rfl,HNn262_46.out,pn46,by omega,HG46.out.mono (by omega),HT46.out⟩
 by_cases hz_6:z31=6
 ·subst hz_6
  go_wp2_with fail
  refine (HEA.out _ _ _ _ HG31.out (by omega) (by omega)).mono ?_
  rintro e47 w47 ⟨v47,l47,rfl,nr47,pn47,mn47,hg47,ht47⟩
  have HR47:=hide ht47
  have HG47:=hide hg47
  have HT47:=hide (HT31.out.trans HR47.out)
  have c0_47:=HG47.out.c0
  clear hg47 ht47
  obtain ⟨gq47,cq47,hv47⟩:=nr47.form pn47
  subst hv47
  have HNn262_47:=hide nr47
  clear nr47
  go_wp2
  go_ret
  exact ⟨_,_,rfl,HNn262_47.out,pn47,by omega,HG47.out.mono (by omega),HT47.out⟩
 have hb_0:((z31:Int) == 0)=false:=by simp;omega
 have hb_1:((z31:Int) == 1)=false:=by simp;omega
 have hb_2:((z31:Int) == 2)=false:=by simp;omega
 have hb_3:((z31:Int) == 3)=false:=by simp;omega
 have hb_4:((z31:Int) == 4)=false:=by simp;omega
 have hb_5:((z31:Int) == 5)=false:=by simp;omega
 have hb_6:((z31:Int) == 6)=false:=by simp;omega
 go_wp2_with fail
 refine (HE.out _ _ _ _ HG31.out (by omega) (by omega)).mono ?_
 rintro e48 w48 ⟨v48,l48,rfl,nr48,pn48,mn48,hg48,ht48⟩
 have HR48:=hide ht48
 have HG48:=hide hg48
 have HT48:=hide (HT31.out.trans HR48.out)
 have c0_48:=HG48.out.c0
 clear hg48 ht48
 obtain ⟨gq48,cq48,hv48⟩:=nr48.form pn48
 subst hv48
 have HNn267_48:=hide nr48
 clear nr48
 go_wp2_with fail
 refine (HE.out _ _ _ _ HG48.out (by omega) (by omega)).mono ?_
 rintro e49 w49 ⟨v49,l49,rfl,nr49,pn49,mn49,hg49,ht49⟩
 have HR49:=hide ht49
 have HG49:=hide hg49
 have HT49:=hide (HT48.out.trans HR49.out)
 have HNn267_49:=hide (HNn267_48.out.ty HR49.out)
 have c0_49:=HG49.out.c0
 clear hg49 ht49
 obtain ⟨gq49,cq49,hv49⟩:=nr49.form pn49
 subst hv49
 have HNn271_49:=hide nr49
 clear nr49
 go_wp2_with fail
 have HO:=hide (over_mk ⟨8,0,0,⟨#[]⟩,0⟩ [_,_] _ _ (2 * kd+0) (pr2 HNn267_49.out HNn271_49.out pn48 pn49) (by rw [fl2];omega) (by omega) (by simp))
 unfold ndV at HO
 refine (HO.out).mono ?_
 rintro e50 w50 ⟨v50,l50,rfl,nr50,pn50,mn50,b50⟩
 have HR50:=hide (TyM.trans (TyM.of (M:=Mine) (bA _)) (TyM.of (M:=Mine) b50))
 have HG50:=hide ((HG49.out.below (bA _)).below b50)
 have HT50:=hide (HT49.out.trans HR50.out)
 have c0_50:=HG50.out.c0
 clear b50
 obtain ⟨gq50,cq50,hv50⟩:=nr50.form pn50
 subst hv50
 have HNn273_50:=hide nr50
 clear nr50
 go_wp2
 go_ret
 exact ⟨_,_,rfl,HNn273_50.out,pn50,by omega,HG50.out.mono (by omega),HT50.out⟩
end Go.Proofs.YtbckhbeebngjfaaGreatDoor
