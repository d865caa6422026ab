/- Cm, Cj, Cl. -/
import Derived.Test.YtbckhbeebngjfaaGreatDoorT32
import Derived.Test.YtbckhbeebngjfaaGreatDoorT31
namespace Go.Proofs.YtbckhbeebngjfaaGreatDoor
open Go.RowKit
variable (gb rb:Nat) (vb:Value) (n:Nat)
set_option maxRecDepth 100000 in
set_option maxHeartbeats 16000000 in
theorem of_any [Inhabited Bs] (d kd:Nat) (HE:EAt gb rb vb n d kd) (HEA:EachAt gb rb vb n d kd) (HRE:RecAt gb rb vb n d kd) (q k:Nat) (kind:Int) (w:World) (h:Gn gb rb vb n q k w) (hq:q+5 * kd+40≤700000000) (hk:k+1+d≤900) (hkd:kd≤1000000) (h0:kind≠0) (h1:kind≠1) (h2:kind≠2) (h3:kind≠3) (h4:kind≠4):Calls Tryz.prog 94 #[.pointer (some ⟨gb,0,none⟩),.int .i64 kind,.int .i64 ((d:Int)+1)] w fun e w'=>GMk gb rb vb n q (4 * kd+30) k w e w':=by
 have hwd:IntKind.i64.wrap (d:Int)=(d:Int):=by rw [IntKind.wrap_i64];omega
 have HG0:=hide h
 have HT0:Hid (Ty w w):=hide (.refl w)
 have c0:=h.c0
 have HEA:=hide HEA
 have HRE:=hide HRE
 have HE:=hide HE
 clear h
 have kb0:(kind == 0)=false:=by simpa using h0
 have kb1:(kind == 1)=false:=by simpa using h1
 have kb2:(kind == 2)=false:=by simpa using h2
 have kb3:(kind == 3)=false:=by simpa using h3
 have kb4:(kind == 4)=false:=by simpa using h4
 go_enter Tryz.func94,Tryz.ntmps94
 have HGd:=hide (HG0.out.below (Below.refl _ _).drew)
 have HTd:=hide (HT0.out.trans (.of (Below.refl _ _).drew))
 have hzd:w.drew.heap.size=w.heap.size:=rfl
 have HGa:=hide (HG0.out.below (bA (.cells #[.string ⟨#[97]⟩,.string ⟨#[98]⟩] 9)).drew)
 have HTa:=hide (HT0.out.trans (.of (bA (.cells #[.string ⟨#[97]⟩,.string ⟨#[98]⟩] 9)).drew))
 have HLd:Hid ((((w.alloc (.cells #[.string ⟨#[97]⟩,.string ⟨#[98]⟩] 9)).drew).ownsRow 0 9 1 (.slice (some ⟨w.heap.size,0,none⟩) 2 2) 2 [.string ⟨#[97]⟩,.string ⟨#[98]⟩])):=hide (World.ownsRow_lit (base:=0) (e:=9) (size:=1) w #[.string ⟨#[97]⟩,.string ⟨#[98]⟩] 2 (Nat.zero_le _) (by unfold maxLen;omega) rfl)
 have HMS:Hid (¬ Mine (some 9)):=hide (by unfold Mine;simp)
 go_wp2_with fail
 go_region_law (first
  | ((with_reducible refine world_is ((w.alloc (.cells #[.string ⟨#[97]⟩,.string ⟨#[98]⟩] 9)).drew) ?_);refine step_call2E rfl 8 (.tmp 328) (.const (.int .i64 2)) _ _ rfl (.pointer (some ⟨rb,0,none⟩)) (.int .i64 2) (by first | (simp [Act.eval];done) | simp [Act.eval,Act.put]) (by first | (simp [Act.eval];done) | simp [Act.eval,Act.put]) Tryz.f8 Tryz.func8 (by kernel_rfl) (by kernel_rfl) _ (pick_ex gb rb vb n HGa.out (by omega) 2 (by omega) (by omega)) ?_;intro v1 w1 h1;obtain ⟨z1,hz1,hv1,hg1,ht1⟩:=h1;subst hv1;have HG1:=hide hg1;obtain ⟨u,hu⟩:∃ u:Short,([.string ⟨#[97]⟩,.string ⟨#[98]⟩]:List Value)[z1]?=some (.string u):=(by have hz:z1=0∨z1=1:=(by omega);rcases hz with rfl | rfl <;> exact ⟨⟨_,by exact Nat.le_of_ble_eq_true rfl⟩,rfl⟩);have HT1:=hide (HTa.out.trans ht1);have HL1:=hide (row_ty HLd.out ht1 HMS.out);have a1:=HL1.out.cells rfl z1 _ hu;rw [add_plainP,Nat.zero_add] at a1;clear hg1 ht1)
  | ((with_reducible refine world_is (w.drew) ?_);refine step_call2E rfl 8 (.tmp 328) (.const (.int .i64 2)) _ _ rfl (.pointer (some ⟨rb,0,none⟩)) (.int .i64 2) (by first | (simp [Act.eval];done) | simp [Act.eval,Act.put]) (by first | (simp [Act.eval];done) | simp [Act.eval,Act.put]) Tryz.f8 Tryz.func8 (by kernel_rfl) (by kernel_rfl) _ (pick_ex gb rb vb n HGd.out (by omega) 2 (by omega) (by omega)) ?_;intro v1 w1 h1;obtain ⟨z1,hz1,hv1,hg1,ht1⟩:=h1;subst hv1;have HG1:=hide hg1;obtain ⟨u,hu⟩:∃ u:Short,([.string ⟨#[97]⟩,.string ⟨#[98]⟩]:List Value)[z1]?=some (.string u):=(by have hz:z1=0∨z1=1:=(by omega);rcases hz with rfl | rfl <;> exact ⟨⟨_,by exact Nat.le_of_ble_eq_true rfl⟩,rfl⟩);have HT1:=hide (HTd.out.trans ht1);have a1:=(World.ownsRow_lit (base:=0) (e:=9) (size:=1) w1 #[.string ⟨#[97]⟩,.string ⟨#[98]⟩] 2 (Nat.zero_le _) (by unfold maxLen;omega) rfl).cells rfl z1 _ hu;rw [add_plainP,Nat.zero_add] at a1;clear hg1 ht1)
  | ((with_reducible refine world_is (w1.alloc (.cells #[.string ⟨#[97]⟩,.string ⟨#[98]⟩] 9)) ?_);refine step_call3E rfl 83 (.tmp 333) (.const (.int .i64 4)) (.tmp 335) _ _ _ rfl (.pointer (some ⟨gb,0,none⟩)) (.int .i64 4) (.int .i64 (d:Int)) (by first | (simp [Act.eval];done) | simp [Act.eval,Act.put]) (by first | (simp [Act.eval];done) | simp [Act.eval,Act.put]) (by first | (simp [Act.eval];done) | simp [Act.eval,Act.put]) Tryz.f83 Tryz.func83 (by kernel_rfl) (by kernel_rfl) _ (gmk_ex gb rb vb n (HE.out _ _ _ _ (HG1.out.below (bA (.cells #[.string ⟨#[97]⟩,.string ⟨#[98]⟩] 9))) (by omega) (by omega))) ?_;intro v2 w2 h2;obtain ⟨l2,nr2,p2,m2,hg2,ht2⟩:=h2;obtain ⟨gq2,cq2,hv2⟩:=nr2.form p2;subst hv2;have HN2:=hide nr2;have HG2:=hide hg2;have HT2:=hide ((HT1.out.trans (.of (bA (.cells #[.string ⟨#[97]⟩,.string ⟨#[98]⟩] 9)))).trans ht2);have HL2:=hide (row_ty (World.ownsRow_lit (base:=0) (e:=9) (size:=1) w1 #[.string ⟨#[97]⟩,.string ⟨#[98]⟩] 2 (Nat.zero_le _) (by unfold maxLen;omega) rfl) ht2 HMS.out);have a2:=HL2.out.cells rfl z1 _ hu;have a3:=(row_ty HL2.out (TyM.of (M:=Mine) (bA (.cells #[.slice (some ⟨gq2,0,none⟩) l2.length cq2] 48))) HMS.out).cells rfl z1 _ hu;rw [add_plainP,Nat.zero_add] at a2 a3;clear hg2 ht2 nr2)
  | ((with_reducible refine world_is (w1) ?_);have _hl:=HL1.out;refine step_call3E rfl 83 (.tmp 333) (.const (.int .i64 4)) (.tmp 335) _ _ _ rfl (.pointer (some ⟨gb,0,none⟩)) (.int .i64 4) (.int .i64 (d:Int)) (by first | (simp [Act.eval];done) | simp [Act.eval,Act.put]) (by first | (simp [Act.eval];done) | simp [Act.eval,Act.put]) (by first | (simp [Act.eval];done) | simp [Act.eval,Act.put]) Tryz.f83 Tryz.func83 (by kernel_rfl) (by kernel_rfl) _ (gmk_ex gb rb vb n (HE.out _ _ _ _ HG1.out (by omega) (by omega))) ?_;intro v2 w2 h2;obtain ⟨l2,nr2,p2,m2,hg2,ht2⟩:=h2;obtain ⟨gq2,cq2,hv2⟩:=nr2.form p2;subst hv2;have HN2:=hide nr2;have HG2:=hide hg2;have HT2:=hide (HT1.out.trans ht2);have HL2:=hide (row_ty HL1.out ht2 HMS.out);have a2:=HL2.out.cells rfl z1 _ hu;have a3:=(row_ty HL2.out (TyM.of (M:=Mine) (bA (.cells #[.slice (some ⟨gq2,0,none⟩) l2.length cq2] 48))) HMS.out).cells rfl z1 _ hu;rw [add_plainP,Nat.zero_add] at a2 a3;clear hg2 ht2 nr2)
  | ((with_reducible refine world_is (w1) ?_);refine step_call3E rfl 83 (.tmp 333) (.const (.int .i64 4)) (.tmp 335) _ _ _ rfl (.pointer (some ⟨gb,0,none⟩)) (.int .i64 4) (.int .i64 (d:Int)) (by first | (simp [Act.eval];done) | simp [Act.eval,Act.put]) (by first | (simp [Act.eval];done) | simp [Act.eval,Act.put]) (by first | (simp [Act.eval];done) | simp [Act.eval,Act.put]) Tryz.f83 Tryz.func83 (by kernel_rfl) (by kernel_rfl) _ (gmk_ex gb rb vb n (HE.out _ _ _ _ HG1.out (by omega) (by omega))) ?_;intro v2 w2 h2;obtain ⟨l2,nr2,p2,m2,hg2,ht2⟩:=h2;obtain ⟨gq2,cq2,hv2⟩:=nr2.form p2;subst hv2;have HN2:=hide nr2;have HG2:=hide hg2;have HT2:=hide (HT1.out.trans ht2);have a2:=(World.ownsRow_lit (base:=0) (e:=9) (size:=1) w2 #[.string ⟨#[97]⟩,.string ⟨#[98]⟩] 2 (Nat.zero_le _) (by unfold maxLen;omega) rfl).cells rfl z1 _ hu;rw [add_plainP,Nat.zero_add] at a2;have a3:=(World.ownsRow_lit (base:=0) (e:=9) (size:=1) (w2.alloc (.cells #[.slice (some ⟨gq2,0,none⟩) l2.length cq2] 48)) #[.string ⟨#[97]⟩,.string ⟨#[98]⟩] 2 (Nat.zero_le _) (by unfold maxLen;omega) rfl).cells rfl z1 _ hu;rw [add_plainP,Nat.zero_add] at a3;have a4:=(row_ty (World.ownsRow_lit (base:=0) (e:=9) (size:=1) w2 #[.string ⟨#[97]⟩,.string ⟨#[98]⟩] 2 (Nat.zero_le _) (by unfold maxLen;omega) rfl) (TyM.of (M:=Mine) (bA (.cells #[.slice (some ⟨gq2,0,none⟩) l2.length cq2] 48))) HMS.out).cells rfl z1 _ hu;rw [add_plainP,Nat.zero_add] at a4;rw [World.size_alloc] at a3;clear hg2 ht2 nr2)
  | ((with_reducible refine world_is (w2.alloc (.cells #[.slice (some ⟨gq2,0,none⟩) l2.length cq2] 48)) ?_);refine step_call2E rfl 61 (.tmp 332) (.tmp 337) _ _ rfl (ndV ⟨11,0,0,u,0⟩) (.slice (some ⟨w2.heap.size,0,none⟩) 1 1) (by unfold ndV;first | (simp [Act.eval];done) | simp [Act.eval,Act.put]) (by first | (simp [Act.eval];done) | simp [Act.eval,Act.put]) Tryz.f61 Tryz.func61 (by kernel_rfl) (by kernel_rfl) _ (mk_ex (by have hh:=over_mk ⟨11,0,0,u,0⟩ [_] _ _ kd (pr1 HN2.out p2) (by simpa using m2) (by omega) (by simp);exact hh)) ?_;intro v3 w3 h3;obtain ⟨l3,nr3,p3,m3,b3⟩:=h3;obtain ⟨gq3,cq3,hv3⟩:=nr3.form p3;subst hv3;have HN3:=hide nr3;have HG3:=hide ((HG2.out.below (bA _)).below b3);have HT3:=hide ((HT2.out.trans (.of (bA _))).trans (.of b3));clear nr3 b3)
  | ((with_reducible refine world_is ((w2.alloc (.cells #[.string ⟨#[97]⟩,.string ⟨#[98]⟩] 9)).alloc (.cells #[.slice (some ⟨gq2,0,none⟩) l2.length cq2] 48)) ?_);refine step_call2E rfl 61 (.tmp 332) (.tmp 337) _ _ rfl (ndV ⟨11,0,0,u,0⟩) (.slice (some ⟨(w2.heap.size+1),0,none⟩) 1 1) (by unfold ndV;first | (simp [Act.eval];done) | simp [Act.eval,Act.put]) (by first | (simp [Act.eval];done) | simp [Act.eval,Act.put]) Tryz.f61 Tryz.func61 (by kernel_rfl) (by kernel_rfl) _ (mk_ex (by have hh:=over_mk ⟨11,0,0,u,0⟩ [_] _ _ kd (pr1 (HN2.out.below (bA (.cells #[.string ⟨#[97]⟩,.string ⟨#[98]⟩] 9))) p2) (by simpa using m2) (by omega) (by simp);rw [World.size_alloc] at hh;exact hh)) ?_;intro v3 w3 h3;obtain ⟨l3,nr3,p3,m3,b3⟩:=h3;obtain ⟨gq3,cq3,hv3⟩:=nr3.form p3;subst hv3;have HN3:=hide nr3;have HG3:=hide ((HG2.out.below ((bA _).alloc (by simp) _)).below b3);have HT3:=hide ((HT2.out.trans (.of ((bA _).alloc (by simp) _))).trans (.of b3));clear nr3 b3)
  | ((with_reducible refine world_is ((w2.alloc (.cells #[.slice (some ⟨gq2,0,none⟩) l2.length cq2] 48)).alloc (.cells #[.string ⟨#[97]⟩,.string ⟨#[98]⟩] 9)) ?_);refine step_call2E rfl 61 (.tmp 332) (.tmp 337) _ _ rfl (ndV ⟨11,0,0,u,0⟩) (.slice (some ⟨w2.heap.size,0,none⟩) 1 1) (by unfold ndV;first | (simp [Act.eval];done) | simp [Act.eval,Act.put]) (by first | (simp [Act.eval];done) | simp [Act.eval,Act.put]) Tryz.f61 Tryz.func61 (by kernel_rfl) (by kernel_rfl) _ (mk_ex (by have hh:=over_mk ⟨11,0,0,u,0⟩ [_] _ _ kd ((pr1 HN2.out p2).below (bA (.cells #[.string ⟨#[97]⟩,.string ⟨#[98]⟩] 9))) (by simpa using m2) (by omega) (by simp);exact hh)) ?_;intro v3 w3 h3;obtain ⟨l3,nr3,p3,m3,b3⟩:=h3;obtain ⟨gq3,cq3,hv3⟩:=nr3.form p3;subst hv3;have HN3:=hide nr3;have HG3:=hide ((HG2.out.below ((bA _).alloc (by simp) _)).below b3);have HT3:=hide ((HT2.out.trans (.of ((bA _).alloc (by simp) _))).trans (.of b3));clear nr3 b3)
  )
 all_goals
  go_wp2
  go_ret
  exact ⟨_,_,rfl,HN3.out,p3,by omega,HG3.out.mono (by omega),HT3.out⟩
variable (gb rb:Nat) (vb:Value) (n:Nat)
set_option maxRecDepth 100000 in
set_option maxHeartbeats 16000000 in
theorem of_bool [Inhabited Bs] (d kd:Nat) (HE:EAt gb rb vb n d kd) (HEA:EachAt gb rb vb n d kd) (HRE:RecAt gb rb vb n d kd) (q k:Nat) (kind:Int) (w:World) (h:Gn gb rb vb n q k w) (hq:q+5 * kd+40≤700000000) (hk:k+1+d≤900) (hkd:kd≤1000000) (hkind:kind=2):Calls Tryz.prog 94 #[.pointer (some ⟨gb,0,none⟩),.int .i64 kind,.int .i64 ((d:Int)+1)] w fun e w'=>GMk gb rb vb n q (4 * kd+30) k w e w':=by
 have hwd:IntKind.i64.wrap (d:Int)=(d:Int):=by rw [IntKind.wrap_i64];omega
 have HG0:=hide h
 have HT0:Hid (Ty w w):=hide (.refl w)
 have c0:=h.c0
 have HEA:=hide HEA
 have HRE:=hide HRE
 have HE:=hide HE
 clear h
 subst hkind
 go_enter Tryz.func94,Tryz.ntmps94
 go_wp2_with fail
 refine (Gn.pick HG0.out (by omega) 5 (by omega) (by omega)).mono ?_
 rintro e31 w31 ⟨z31,hz31,rfl,hg31,ht31⟩
 have HR31:=hide ht31
 have HG31:=hide hg31
 have HT31:=hide (HT0.out.trans HR31.out)
 have c0_31:=HG31.out.c0
 clear hg31 ht31
 go_wp2_with fail
 refine (Gn.pick HG31.out (by omega) 6 (by omega) (by omega)).mono ?_
 rintro e32 w32 ⟨z32,hz32,rfl,hg32,ht32⟩
 have HR32:=hide ht32
 have HG32:=hide hg32
 have HT32:=hide (HT31.out.trans HR32.out)
 have c0_32:=HG32.out.c0
 clear hg32 ht32
 by_cases hz_0:z32=0
 ·subst hz_0
  go_wp2_with fail
  refine (HE.out _ _ _ _ HG32.out (by omega) (by omega)).mono ?_
  rintro e33 w33 ⟨v33,l33,rfl,nr33,pn33,mn33,hg33,ht33⟩
  have HR33:=hide ht33
  have HG33:=hide hg33
  have HT33:=hide (HT32.out.trans HR33.out)
  have c0_33:=HG33.out.c0
  clear hg33 ht33
  obtain ⟨gq33,cq33,hv33⟩:=nr33.form pn33
  subst hv33
  have HNn137_33:=hide nr33
  clear nr33
  go_wp2_with fail
  have HO:=hide (over_mk ⟨6,1,0,⟨#[]⟩,0⟩ [_] _ _ (1 * kd+0) (pr1 HNn137_33.out pn33) (by rw [fl1];omega) (by omega) (by simp))
  unfold ndV at HO
  refine (HO.out).mono ?_
  rintro e34 w34 ⟨v34,l34,rfl,nr34,pn34,mn34,b34⟩
  have HR34:=hide (TyM.trans (TyM.of (M:=Mine) (bA _)) (TyM.of (M:=Mine) b34))
  have HG34:=hide ((HG33.out.below (bA _)).below b34)
  have HT34:=hide (HT33.out.trans HR34.out)
  have c0_34:=HG34.out.c0
  clear b34
  obtain ⟨gq34,cq34,hv34⟩:=nr34.form pn34
  subst hv34
  have HNn139_34:=hide nr34
  clear nr34
  go_wp2
  go_ret
  exact ⟨_,_,rfl,HNn139_34.out,pn34,by omega,HG34.out.mono (by omega),HT34.out⟩
 by_cases hz_1:z32=1
 ·subst hz_1
  go_wp2_with fail
  refine (Gn.pick HG32.out (by omega) 2 (by omega) (by omega)).mono ?_
  rintro e35 w35 ⟨z35,hz35,rfl,hg35,ht35⟩
  have HR35:=hide ht35
  have HG35:=hide hg35
  have HT35:=hide (HT32.out.trans HR35.out)
  have c0_35:=HG35.out.c0
  clear hg35 ht35
  go_wp2_with fail
  refine (HE.out _ _ _ _ HG35.out (by omega) (by omega)).mono ?_
  rintro e36 w36 ⟨v36,l36,rfl,nr36,pn36,mn36,hg36,ht36⟩
  have HR36:=hide ht36
  have HG36:=hide hg36
  have HT36:=hide (HT35.out.trans HR36.out)
  have c0_36:=HG36.out.c0
  clear hg36 ht36
  obtain ⟨gq36,cq36,hv36⟩:=nr36.form pn36
  subst hv36
  have HNn149_36:=hide nr36
  clear nr36
  go_wp2_with fail
  refine (HE.out _ _ _ _ HG36.out (by omega) (by omega)).mono ?_
  rintro e37 w37 ⟨v37,l37,rfl,nr37,pn37,mn37,hg37,ht37⟩
  have HR37:=hide ht37
  have HG37:=hide hg37
  have HT37:=hide (HT36.out.trans HR37.out)
  have HNn149_37:=hide (HNn149_36.out.ty HR37.out)
  have c0_37:=HG37.out.c0
  clear hg37 ht37
  obtain ⟨gq37,cq37,hv37⟩:=nr37.form pn37
  subst hv37
  have HNn153_37:=hide nr37
  clear nr37
  go_wp2_with fail
  have HO:=hide (fun op=>binN_any op _ _ _ _ (2 * kd+0) _ HNn149_37.out HNn153_37.out pn36 pn37 (by omega) (by omega))
  refine (HO.out _).mono ?_
  rintro e38 w38 ⟨v38,l38,rfl,nr38,pn38,mn38,b38⟩
  have HR38:=hide (TyM.of (M:=Mine) b38)
  have HG38:=hide (HG37.out.below b38)
  have HT38:=hide (HT37.out.trans HR38.out)
  have c0_38:=HG38.out.c0
  clear b38
  obtain ⟨gq38,cq38,hv38⟩:=nr38.form pn38
  subst hv38
  have HNn154_38:=hide nr38
  clear nr38
  go_wp2
  go_ret
  exact ⟨_,_,rfl,HNn154_38.out,pn38,by omega,HG38.out.mono (by omega),HT38.out⟩
 by_cases hz_2:z32=2
 ·subst hz_2
  go_wp2_with fail
  refine (Gn.pick HG32.out (by omega) 2 (by omega) (by omega)).mono ?_
  rintro e39 w39 ⟨z39,hz39,rfl,hg39,ht39⟩
  have HR39:=hide ht39
  have HG39:=hide hg39
  have HT39:=hide (HT32.out.trans HR39.out)
  have c0_39:=HG39.out.c0
  clear hg39 ht39
  go_wp2_with fail
  refine (HE.out _ _ _ _ HG39.out (by omega) (by omega)).mono ?_
  rintro e40 w40 ⟨v40,l40,rfl,nr40,pn40,mn40,hg40,ht40⟩
  have HR40:=hide ht40
  have HG40:=hide hg40
  have HT40:=hide (HT39.out.trans HR40.out)
  have c0_40:=HG40.out.c0
  clear hg40 ht40
  obtain ⟨gq40,cq40,hv40⟩:=nr40.form pn40
  subst hv40
  have HNn149_40:=hide nr40
  clear nr40
  go_wp2_with fail
  refine (HE.out _ _ _ _ HG40.out (by omega) (by omega)).mono ?_
  rintro e41 w41 ⟨v41,l41,rfl,nr41,pn41,mn41,hg41,ht41⟩
  have HR41:=hide ht41
  have HG41:=hide hg41
  have HT41:=hide (HT40.out.trans HR41.out)
  have HNn149_41:=hide (HNn149_40.out.ty HR41.out)
  have c0_41:=HG41.out.c0
  clear hg41 ht41
  obtain ⟨gq41,cq41,hv41⟩:=nr41.form pn41
  subst hv41
  have HNn153_41:=hide nr41
  clear nr41
  go_wp2_with fail
  have HO:=hide (fun op=>binN_any op _ _ _ _ (2 * kd+0) _ HNn149_41.out HNn153_41.out pn40 pn41 (by omega) (by omega))
  refine (HO.out _).mono ?_
  rintro e42 w42 ⟨v42,l42,rfl,nr42,pn42,mn42,b42⟩
  have HR42:=hide (TyM.of (M:=Mine) b42)
  have HG42:=hide (HG41.out.below b42)
  have HT42:=hide (HT41.out.trans HR42.out)
  have c0_42:=HG42.out.c0
  clear b42
  obtain ⟨gq42,cq42,hv42⟩:=nr42.form pn42
  subst hv42
  have HNn154_42:=hide nr42
  clear nr42
  go_wp2
  go_ret
  exact ⟨_,_,rfl,HNn154_42.out,pn42,by omega,HG42.out.mono (by omega),HT42.out⟩
 by_cases hz_3:z32=3
 ·subst hz_3
  go_wp2_with fail
  have HLA158:=hide (World.ownsRow_lit (base:=0) (e:=3) (size:=1) w32 #[.int .i64 1,.int .i64 3,.int .i64 4] 3 (Nat.zero_le _) (by unfold maxLen;omega) rfl)
  simp only [] at HLA158
  refine (Gn.pick (HG32.out.below (bA _)) (by omega) 3 (by omega) (by omega)).mono ?_
  rintro e43 w43 ⟨z43,hz43,rfl,hg43,ht43⟩
  have HR43:=hide (TyM.trans (TyM.of (M:=Mine) (bA _)) ht43)
  have HG43:=hide hg43
  have HT43:=hide (HT32.out.trans HR43.out)
  have HLA158_43:=hide (row_ty HLA158.out ht43 (by unfold Mine;simp))
  have c0_43:=HG43.out.c0
  clear hg43 ht43
  obtain ⟨u44,hu44⟩:∃ u,([.int .i64 1,.int .i64 3,.int .i64 4]:List Value)[z43]?=some (.int .i64 u):=by
   have:z43=0∨z43=1∨z43=2:=by omega
   rcases this with rfl | rfl | rfl <;> exact ⟨_,rfl⟩
  have cl44:=HLA158_43.out.cells rfl z43 _ hu44
  rw [add_plainP,Nat.zero_add] at cl44
  clear hu44
  go_wp2_with fail
  refine (HE.out _ _ _ _ HG43.out (by omega) (by omega)).mono ?_
  rintro e45 w45 ⟨v45,l45,rfl,nr45,pn45,mn45,hg45,ht45⟩
  have HR45:=hide ht45
  have HG45:=hide hg45
  have HT45:=hide (HT43.out.trans HR45.out)
  have c0_45:=HG45.out.c0
  clear hg45 ht45
  obtain ⟨gq45,cq45,hv45⟩:=nr45.form pn45
  subst hv45
  have HNn165_45:=hide nr45
  clear nr45
  go_wp2_with fail
  refine (HE.out _ _ _ _ HG45.out (by omega) (by omega)).mono ?_
  rintro e46 w46 ⟨v46,l46,rfl,nr46,pn46,mn46,hg46,ht46⟩
  have HR46:=hide ht46
  have HG46:=hide hg46
  have HT46:=hide (HT45.out.trans HR46.out)
  have HNn165_46:=hide (HNn165_45.out.ty HR46.out)
  have c0_46:=HG46.out.c0
  clear hg46 ht46
  obtain ⟨gq46,cq46,hv46⟩:=nr46.form pn46
  subst hv46
  have HNn169_46:=hide nr46
  clear nr46
  go_wp2_with fail
  have HO:=hide (fun op=>binN_any op _ _ _ _ (2 * kd+0) _ HNn165_46.out HNn169_46.out pn45 pn46 (by omega) (by omega))
  refine (HO.out _).mono ?_
  rintro e47 w47 ⟨v47,l47,rfl,nr47,pn47,mn47,b47⟩
  have HR47:=hide (TyM.of (M:=Mine) b47)
  have HG47:=hide (HG46.out.below b47)
  have HT47:=hide (HT46.out.trans HR47.out)
  have c0_47:=HG47.out.c0
  clear b47
  obtain ⟨gq47,cq47,hv47⟩:=nr47.form pn47
  subst hv47
  have HNn170_47:=hide nr47
  clear nr47
  go_wp2
  go_ret
  exact ⟨_,_,rfl,HNn170_47.out,pn47,by omega,HG47.out.mono (by omega),HT47.out⟩
 by_cases hz_4:z32=4
 ·subst hz_4
  go_wp2_with fail
  refine (HE.out _ _ _ _ HG32.out (by omega) (by omega)).mono ?_
  rintro e48 w48 ⟨v48,l48,rfl,nr48,pn48,mn48,hg48,ht48⟩
  have HR48:=hide ht48
  have HG48:=hide hg48
  have HT48:=hide (HT32.out.trans HR48.out)
  have c0_48:=HG48.out.c0
  clear hg48 ht48
  obtain ⟨gq48,cq48,hv48⟩:=nr48.form pn48
  subst hv48
  have HNn176_48:=hide nr48
  clear nr48
  go_wp2_with fail
  refine (HE.out _ _ _ _ HG48.out (by omega) (by omega)).mono ?_
  rintro e49 w49 ⟨v49,l49,rfl,nr49,pn49,mn49,hg49,ht49⟩
  have HR49:=hide ht49
  have HG49:=hide hg49
  have HT49:=hide (HT48.out.trans HR49.out)
  have HNn176_49:=hide (HNn176_48.out.ty HR49.out)
  have c0_49:=HG49.out.c0
  clear hg49 ht49
  obtain ⟨gq49,cq49,hv49⟩:=nr49.form pn49
  subst hv49
  have HNn180_49:=hide nr49
  clear nr49
  go_wp2_with fail
  have HO:=hide (callN_any ⟨#[98,101,103,105,110,115]⟩ [_,_] _ _ (2 * kd+0) (pr2 HNn176_49.out HNn180_49.out pn48 pn49) (by rw [fl2];omega) (by omega) (by simp) (by simp))
  refine (HO.out).mono ?_
  rintro e50 w50 ⟨v50,l50,rfl,nr50,pn50,mn50,b50⟩
  have HR50:=hide (TyM.trans (TyM.of (M:=Mine) (bA _)) (TyM.of (M:=Mine) b50))
  have HG50:=hide ((HG49.out.below (bA _)).below b50)
  have HT50:=hide (HT49.out.trans HR50.out)
  have c0_50:=HG50.out.c0
  clear b50
  obtain ⟨gq50,cq50,hv50⟩:=nr50.form pn50
  subst hv50
  have HNn182_50:=hide nr50
  clear nr50
  go_wp2
  go_ret
  exact ⟨_,_,rfl,HNn182_50.out,pn50,by omega,HG50.out.mono (by omega),HT50.out⟩
 have hb_0:((z32:Int) == 0)=false:=by simp;omega
 have hb_1:((z32:Int) == 1)=false:=by simp;omega
 have hb_2:((z32:Int) == 2)=false:=by simp;omega
 have hb_3:((z32:Int) == 3)=false:=by simp;omega
 have hb_4:((z32:Int) == 4)=false:=by simp;omega
 go_wp2_with fail
 refine (Gn.pick HG32.out (by omega) 6 (by omega) (by omega)).mono ?_
 rintro e51 w51 ⟨z51,hz51,rfl,hg51,ht51⟩
 have HR51:=hide ht51
 have HG51:=hide hg51
 have HT51:=hide (HT32.out.trans HR51.out)
 have c0_51:=HG51.out.c0
 clear hg51 ht51
 go_wp2_with fail
 refine (HE.out _ _ _ _ HG51.out (by omega) (by omega)).mono ?_
 rintro e52 w52 ⟨v52,l52,rfl,nr52,pn52,mn52,hg52,ht52⟩
 have HR52:=hide ht52
 have HG52:=hide hg52
 have HT52:=hide (HT51.out.trans HR52.out)
 have c0_52:=HG52.out.c0
 clear hg52 ht52
 obtain ⟨gq52,cq52,hv52⟩:=nr52.form pn52
 subst hv52
 have HNn190_52:=hide nr52
 clear nr52
 go_wp2_with fail
 refine (HE.out _ _ _ _ HG52.out (by omega) (by omega)).mono ?_
 rintro e53 w53 ⟨v53,l53,rfl,nr53,pn53,mn53,hg53,ht53⟩
 have HR53:=hide ht53
 have HG53:=hide hg53
 have HT53:=hide (HT52.out.trans HR53.out)
 have HNn190_53:=hide (HNn190_52.out.ty HR53.out)
 have c0_53:=HG53.out.c0
 clear hg53 ht53
 obtain ⟨gq53,cq53,hv53⟩:=nr53.form pn53
 subst hv53
 have HNn195_53:=hide nr53
 clear nr53
 go_wp2_with fail
 have HO:=hide (fun op=>binN_any op _ _ _ _ (2 * kd+0) _ HNn190_53.out HNn195_53.out pn52 pn53 (by omega) (by omega))
 refine (HO.out _).mono ?_
 rintro e54 w54 ⟨v54,l54,rfl,nr54,pn54,mn54,b54⟩
 have HR54:=hide (TyM.of (M:=Mine) b54)
 have HG54:=hide (HG53.out.below b54)
 have HT54:=hide (HT53.out.trans HR54.out)
 have c0_54:=HG54.out.c0
 clear b54
 obtain ⟨gq54,cq54,hv54⟩:=nr54.form pn54
 subst hv54
 have HNn196_54:=hide nr54
 clear nr54
 go_wp2
 go_ret
 exact ⟨_,_,rfl,HNn196_54.out,pn54,by omega,HG54.out.mono (by omega),HT54.out⟩
variable (gb rb:Nat) (vb:Value) (n:Nat)
set_option maxRecDepth 100000 in
set_option maxHeartbeats 16000000 in
theorem of_rec [Inhabited Bs] (d kd:Nat) (HE:EAt gb rb vb n d kd) (HEA:EachAt gb rb vb n d kd) (HRE:RecAt gb rb vb n d kd) (q k:Nat) (kind:Int) (w:World) (h:Gn gb rb vb n q k w) (hq:q+5 * kd+40≤700000000) (hk:k+1+d≤900) (hkd:kd≤1000000) (hkind:kind=4):Calls Tryz.prog 94 #[.pointer (some ⟨gb,0,none⟩),.int .i64 kind,.int .i64 ((d:Int)+1)] w fun e w'=>GMk gb rb vb n q (4 * kd+30) k w e w':=by
 have hwd:IntKind.i64.wrap (d:Int)=(d:Int):=by rw [IntKind.wrap_i64];omega
 have HG0:=hide h
 have HT0:Hid (Ty w w):=hide (.refl w)
 have c0:=h.c0
 have HEA:=hide HEA
 have HRE:=hide HRE
 have HE:=hide HE
 clear h
 subst hkind
 go_enter Tryz.func94,Tryz.ntmps94
 go_wp2_with fail
 refine (Gn.pick HG0.out (by omega) 6 (by omega) (by omega)).mono ?_
 rintro e31 w31 ⟨z31,hz31,rfl,hg31,ht31⟩
 have HR31:=hide ht31
 have HG31:=hide hg31
 have HT31:=hide (HT0.out.trans HR31.out)
 have c0_31:=HG31.out.c0
 clear hg31 ht31
 by_cases hz_0:z31=0
 ·subst hz_0
  go_wp2_with fail
  refine (HE.out _ _ _ _ HG31.out (by omega) (by omega)).mono ?_
  rintro e32 w32 ⟨v32,l32,rfl,nr32,pn32,mn32,hg32,ht32⟩
  have HR32:=hide ht32
  have HG32:=hide hg32
  have HT32:=hide (HT31.out.trans HR32.out)
  have c0_32:=HG32.out.c0
  clear hg32 ht32
  obtain ⟨gq32,cq32,hv32⟩:=nr32.form pn32
  subst hv32
  have HNn283_32:=hide nr32
  clear nr32
  go_wp2_with fail
  refine (HE.out _ _ _ _ HG32.out (by omega) (by omega)).mono ?_
  rintro e33 w33 ⟨v33,l33,rfl,nr33,pn33,mn33,hg33,ht33⟩
  have HR33:=hide ht33
  have HG33:=hide hg33
  have HT33:=hide (HT32.out.trans HR33.out)
  have HNn283_33:=hide (HNn283_32.out.ty HR33.out)
  have c0_33:=HG33.out.c0
  clear hg33 ht33
  obtain ⟨gq33,cq33,hv33⟩:=nr33.form pn33
  subst hv33
  have HNn287_33:=hide nr33
  clear nr33
  go_wp2_with fail
  have HO:=hide (fun op=>binN_any op _ _ _ _ (2 * kd+0) _ HNn283_33.out HNn287_33.out pn32 pn33 (by omega) (by omega))
  refine (HO.out _).mono ?_
  rintro e34 w34 ⟨v34,l34,rfl,nr34,pn34,mn34,b34⟩
  have HR34:=hide (TyM.of (M:=Mine) b34)
  have HG34:=hide (HG33.out.below b34)
  have HT34:=hide (HT33.out.trans HR34.out)
  have c0_34:=HG34.out.c0
  clear b34
  obtain ⟨gq34,cq34,hv34⟩:=nr34.form pn34
  subst hv34
  have HNn288_34:=hide nr34
  clear nr34
  go_wp2
  go_ret
  exact ⟨_,_,rfl,HNn288_34.out,pn34,by omega,HG34.out.mono (by omega),HT34.out⟩
 by_cases hz_1:z31=1
 ·subst hz_1
  go_wp2_with fail
  refine (HE.out _ _ _ _ HG31.out (by omega) (by omega)).mono ?_
  rintro e35 w35 ⟨v35,l35,rfl,nr35,pn35,mn35,hg35,ht35⟩
  have HR35:=hide ht35
  have HG35:=hide hg35
  have HT35:=hide (HT31.out.trans HR35.out)
  have c0_35:=HG35.out.c0
  clear hg35 ht35
  obtain ⟨gq35,cq35,hv35⟩:=nr35.form pn35
  subst hv35
  have HNn294_35:=hide nr35
  clear nr35
  go_wp2_with fail
  refine (textN_any _ _).mono ?_
  rintro e36 w36 ⟨v36,l36,rfl,nr36,pn36,mn36,b36⟩
  have HR36:=hide (TyM.of (M:=Mine) b36)
  have HG36:=hide (HG35.out.below b36)
  have HT36:=hide (HT35.out.trans HR36.out)
  have HNn294_36:=hide (HNn294_35.out.ty HR36.out)
  have c0_36:=HG36.out.c0
  clear b36
  obtain ⟨gq36,cq36,hv36⟩:=nr36.form pn36
  subst hv36
  have HNn295_36:=hide nr36
  clear nr36
  go_wp2_with fail
  have HO:=hide (callN_any ⟨#[119,105,116,104,111,117,116]⟩ [_,_] _ _ (1 * kd+1) (pr2 HNn294_36.out HNn295_36.out pn35 pn36) (by rw [fl2];omega) (by omega) (by simp) (by simp))
  refine (HO.out).mono ?_
  rintro e37 w37 ⟨v37,l37,rfl,nr37,pn37,mn37,b37⟩
  have HR37:=hide (TyM.trans (TyM.of (M:=Mine) (bA _)) (TyM.of (M:=Mine) b37))
  have HG37:=hide ((HG36.out.below (bA _)).below b37)
  have HT37:=hide (HT36.out.trans HR37.out)
  have c0_37:=HG37.out.c0
  clear b37
  obtain ⟨gq37,cq37,hv37⟩:=nr37.form pn37
  subst hv37
  have HNn297_37:=hide nr37
  clear nr37
  go_wp2
  go_ret
  exact ⟨_,_,rfl,HNn297_37.out,pn37,by omega,HG37.out.mono (by omega),HT37.out⟩
 by_cases hz_2:z31=2
 ·subst hz_2
  go_wp2_with fail
  refine (fresh_any gb rb vb n _ _ _ HG31.out (by omega)).mono ?_
  rintro e38 w38 ⟨t38,rfl,hg38,ht38⟩
  have HR38:=hide ht38
  have HG38:=hide hg38
  have HT38:=hide (HT31.out.trans HR38.out)
  have c0_38:=HG38.out.c0
  clear hg38 ht38
  go_wp2_with fail
  refine (nameN_any _ _).mono ?_
  rintro e39 w39 ⟨v39,l39,rfl,nr39,pn39,mn39,b39⟩
  have HR39:=hide (TyM.of (M:=Mine) b39)
  have HG39:=hide (HG38.out.below b39)
  have HT39:=hide (HT38.out.trans HR39.out)
  have c0_39:=HG39.out.c0
  clear b39
  obtain ⟨gq39,cq39,hv39⟩:=nr39.form pn39
  subst hv39
  have HNn304_39:=hide nr39
  clear nr39
  go_wp2_with fail
  refine (HE.out _ _ _ _ HG39.out (by omega) (by omega)).mono ?_
  rintro e40 w40 ⟨v40,l40,rfl,nr40,pn40,mn40,hg40,ht40⟩
  have HR40:=hide ht40
  have HG40:=hide hg40
  have HT40:=hide (HT39.out.trans HR40.out)
  have HNn304_40:=hide (HNn304_39.out.ty HR40.out)
  have c0_40:=HG40.out.c0
  clear hg40 ht40
  obtain ⟨gq40,cq40,hv40⟩:=nr40.form pn40
  subst hv40
  have HNn308_40:=hide nr40
  clear nr40
  go_wp2_with fail
  have HO:=hide (over_mk ⟨8,0,0,⟨#[]⟩,0⟩ [_,_] _ _ (1 * kd+1) (pr2 HNn304_40.out HNn308_40.out pn39 pn40) (by rw [fl2];omega) (by omega) (by simp))
  unfold ndV at HO
  refine (HO.out).mono ?_
  rintro e41 w41 ⟨v41,l41,rfl,nr41,pn41,mn41,b41⟩
  have HR41:=hide (TyM.trans (TyM.of (M:=Mine) (bA _)) (TyM.of (M:=Mine) b41))
  have HG41:=hide ((HG40.out.below (bA _)).below b41)
  have HT41:=hide (HT40.out.trans HR41.out)
  have c0_41:=HG41.out.c0
  clear b41
  obtain ⟨gq41,cq41,hv41⟩:=nr41.form pn41
  subst hv41
  have HNn310_41:=hide nr41
  clear nr41
  go_wp2_with fail
  refine (HE.out _ _ _ _ HG41.out (by omega) (by omega)).mono ?_
  rintro e42 w42 ⟨v42,l42,rfl,nr42,pn42,mn42,hg42,ht42⟩
  have HR42:=hide ht42
  have HG42:=hide hg42
  have HT42:=hide (HT41.out.trans HR42.out)
  have HNn310_42:=hide (HNn310_41.out.ty HR42.out)
  have c0_42:=HG42.out.c0
  clear hg42 ht42
  obtain ⟨gq42,cq42,hv42⟩:=nr42.form pn42
  subst hv42
  have HNn316_42:=hide nr42
  clear nr42
  go_wp2_with fail
  have HO:=hide (callN_any ⟨#[117,110,105,113,117,101]⟩ [_] _ _ (1 * kd+0) (pr1 HNn316_42.out pn42) (by rw [fl1];omega) (by omega) (by simp) (by simp))
  refine (HO.out).mono ?_
  rintro e43 w43 ⟨v43,l43,rfl,nr43,pn43,mn43,b43⟩
  have HR43:=hide (TyM.trans (TyM.of (M:=Mine) (bA _)) (TyM.of (M:=Mine) b43))
  have HG43:=hide ((HG42.out.below (bA _)).below b43)
  have HT43:=hide (HT42.out.trans HR43.out)
  have HNn310_43:=hide (HNn310_42.out.ty HR43.out)
  have c0_43:=HG43.out.c0
  clear b43
  obtain ⟨gq43,cq43,hv43⟩:=nr43.form pn43
  subst hv43
  have HNn318_43:=hide nr43
  clear nr43
  go_wp2_with fail
  have HO:=hide (over_mk ⟨16,0,0,t38,0⟩ [_,_] _ _ (2 * kd+4) (pr2 HNn318_43.out HNn310_43.out pn43 pn41) (by rw [fl2];omega) (by omega) (by simp))
  unfold ndV at HO
  refine (HO.out).mono ?_
  rintro e44 w44 ⟨v44,l44,rfl,nr44,pn44,mn44,b44⟩
  have HR44:=hide (TyM.trans (TyM.of (M:=Mine) (bA _)) (TyM.of (M:=Mine) b44))
  have HG44:=hide ((HG43.out.below (bA _)).below b44)
  have HT44:=hide (HT43.out.trans HR44.out)
  have c0_44:=HG44.out.c0
  clear b44
  obtain ⟨gq44,cq44,hv44⟩:=nr44.form pn44
  subst hv44
  have HNn321_44:=hide nr44
  clear nr44
  go_wp2_with fail
  have HO:=hide (callN_any ⟨#[114,101,99,111,114,100]⟩ [_] _ _ (2 * kd+5) (pr1 HNn321_44.out pn44) (by rw [fl1];omega) (by omega) (by simp) (by simp))
  refine (HO.out).mono ?_
  rintro e45 w45 ⟨v45,l45,rfl,nr45,pn45,mn45,b45⟩
  have HR45:=hide (TyM.trans (TyM.of (M:=Mine) (bA _)) (TyM.of (M:=Mine) b45))
  have HG45:=hide ((HG44.out.below (bA _)).below b45)
  have HT45:=hide (HT44.out.trans HR45.out)
  have c0_45:=HG45.out.c0
  clear b45
  obtain ⟨gq45,cq45,hv45⟩:=nr45.form pn45
  subst hv45
  have HNn323_45:=hide nr45
  clear nr45
  go_wp2
  go_ret
  exact ⟨_,_,rfl,HNn323_45.out,pn45,by omega,HG45.out.mono (by omega),HT45.out⟩
 have hb_0:((z31:Int) == 0)=false:=by simp;omega
 have hb_1:((z31:Int) == 1)=false:=by simp;omega
 have hb_2:((z31:Int) == 2)=false:=by simp;omega
 go_wp2_with fail
 refine (HRE.out _ _ _ HG31.out (by omega) (by omega)).mono ?_
 rintro e46 w46 ⟨v46,l46,rfl,nr46,pn46,mn46,hg46,ht46⟩
 have HR46:=hide ht46
 have HG46:=hide hg46
 have HT46:=hide (HT31.out.trans HR46.out)
 have c0_46:=HG46.out.c0
 clear hg46 ht46
 obtain ⟨gq46,cq46,hv46⟩:=nr46.form pn46
 subst hv46
 have HNn326_46:=hide nr46
 clear nr46
 go_wp2
 go_ret
 exact ⟨_,_,rfl,HNn326_46.out,pn46,by omega,HG46.out.mono (by omega),HT46.out⟩
end Go.Proofs.YtbckhbeebngjfaaGreatDoor
