/- Ci. -/
import Derived.Test.YtbckhbeebngjfaaGreatDoorT30
namespace Go.Proofs.YtbckhbeebngjfaaGreatDoor
open Go.RowKit
variable (gb rb:Nat) (vb:Value) (n:Nat)
def RecAt [Inhabited Bs] (d kd:Nat):Prop:=∀ (q k:Nat) (w:World),Gn gb rb vb n q k w→q+5 * kd+30≤700000000→k+1+d≤900→Calls Tryz.prog 109 #[.pointer (some ⟨gb,0,none⟩),.int .i64 ((d:Int)+1)] w fun e w'=>GMk gb rb vb n q (4 * kd+20) k w e w'
def EachAt [Inhabited Bs] (d kd:Nat):Prop:=∀ (q k:Nat) (kind:Int) (w:World),Gn gb rb vb n q k w→q+5 * kd+20≤700000000→k+1+d≤900→Calls Tryz.prog 108 #[.pointer (some ⟨gb,0,none⟩),.int .i64 kind,.int .i64 ((d:Int)+1)] w fun e w'=>GMk gb rb vb n q (4 * kd+10) k w e w'
set_option maxRecDepth 100000 in
set_option maxHeartbeats 16000000 in
theorem of_int [Inhabited Bs] (d kd:Nat) (HE:EAt gb rb vb n d kd) (HEA:EachAt gb rb vb n d kd) (HRE:RecAt gb rb vb n d kd) (q k:Nat) (kind:Int) (w:World) (h:Gn gb rb vb n q k w) (hq:q+5 * kd+40≤700000000) (hk:k+1+d≤900) (hkd:kd≤1000000) (hkind:kind=0):Calls Tryz.prog 94 #[.pointer (some ⟨gb,0,none⟩),.int .i64 kind,.int .i64 ((d:Int)+1)] w fun e w'=>GMk gb rb vb n q (4 * kd+30) k w e w':=by
 have hwd:IntKind.i64.wrap (d:Int)=(d:Int):=by rw [IntKind.wrap_i64];omega
 have HG0:=hide h
 have HT0:Hid (Ty w w):=hide (.refl w)
 have c0:=h.c0
 have HEA:=hide HEA
 have HRE:=hide HRE
 have HE:=hide HE
 clear h
 subst hkind
 go_enter Tryz.func94,Tryz.ntmps94
 go_wp2_with fail
 refine (Gn.pick HG0.out (by omega) 6 (by omega) (by omega)).mono ?_
 rintro e31 w31 ⟨z31,hz31,rfl,hg31,ht31⟩
 have HR31:=hide ht31
 have HG31:=hide hg31
 have HT31:=hide (HT0.out.trans HR31.out)
 have c0_31:=HG31.out.c0
 clear hg31 ht31
 by_cases hz_0:z31=0
 ·subst hz_0
  go_wp2_with fail
  have HLA23:=hide (World.ownsRow_lit (base:=0) (e:=3) (size:=1) w31 #[.int .i64 1,.int .i64 3,.int .i64 4] 3 (Nat.zero_le _) (by unfold maxLen;omega) rfl)
  simp only [] at HLA23
  refine (Gn.pick (HG31.out.below (bA _)) (by omega) 3 (by omega) (by omega)).mono ?_
  rintro e32 w32 ⟨z32,hz32,rfl,hg32,ht32⟩
  have HR32:=hide (TyM.trans (TyM.of (M:=Mine) (bA _)) ht32)
  have HG32:=hide hg32
  have HT32:=hide (HT31.out.trans HR32.out)
  have HLA23_32:=hide (row_ty HLA23.out ht32 (by unfold Mine;simp))
  have c0_32:=HG32.out.c0
  clear hg32 ht32
  obtain ⟨u33,hu33⟩:∃ u,([.int .i64 1,.int .i64 3,.int .i64 4]:List Value)[z32]?=some (.int .i64 u):=by
   have:z32=0∨z32=1∨z32=2:=by omega
   rcases this with rfl | rfl | rfl <;> exact ⟨_,rfl⟩
  have cl33:=HLA23_32.out.cells rfl z32 _ hu33
  rw [add_plainP,Nat.zero_add] at cl33
  clear hu33
  go_wp2_with fail
  refine (HE.out _ _ _ _ HG32.out (by omega) (by omega)).mono ?_
  rintro e34 w34 ⟨v34,l34,rfl,nr34,pn34,mn34,hg34,ht34⟩
  have HR34:=hide ht34
  have HG34:=hide hg34
  have HT34:=hide (HT32.out.trans HR34.out)
  have c0_34:=HG34.out.c0
  clear hg34 ht34
  obtain ⟨gq34,cq34,hv34⟩:=nr34.form pn34
  subst hv34
  have HNn30_34:=hide nr34
  clear nr34
  go_wp2_with fail
  have HO:=hide (callN_any ⟨#[108,101,110]⟩ [_] _ _ (1 * kd+0) (pr1 HNn30_34.out pn34) (by rw [fl1];omega) (by omega) (by simp) (by simp))
  refine (HO.out).mono ?_
  rintro e35 w35 ⟨v35,l35,rfl,nr35,pn35,mn35,b35⟩
  have HR35:=hide (TyM.trans (TyM.of (M:=Mine) (bA _)) (TyM.of (M:=Mine) b35))
  have HG35:=hide ((HG34.out.below (bA _)).below b35)
  have HT35:=hide (HT34.out.trans HR35.out)
  have c0_35:=HG35.out.c0
  clear b35
  obtain ⟨gq35,cq35,hv35⟩:=nr35.form pn35
  subst hv35
  have HNn32_35:=hide nr35
  clear nr35
  go_wp2
  go_ret
  exact ⟨_,_,rfl,HNn32_35.out,pn35,by omega,HG35.out.mono (by omega),HT35.out⟩
 by_cases hz_1:z31=1
 ·subst hz_1
  go_wp2_with fail
  refine (HE.out _ _ _ _ HG31.out (by omega) (by omega)).mono ?_
  rintro e36 w36 ⟨v36,l36,rfl,nr36,pn36,mn36,hg36,ht36⟩
  have HR36:=hide ht36
  have HG36:=hide hg36
  have HT36:=hide (HT31.out.trans HR36.out)
  have c0_36:=HG36.out.c0
  clear hg36 ht36
  obtain ⟨gq36,cq36,hv36⟩:=nr36.form pn36
  subst hv36
  have HNn39_36:=hide nr36
  clear nr36
  go_wp2_with fail
  have HO:=hide (over_mk ⟨6,2,0,⟨#[]⟩,0⟩ [_] _ _ (1 * kd+0) (pr1 HNn39_36.out pn36) (by rw [fl1];omega) (by omega) (by simp))
  unfold ndV at HO
  refine (HO.out).mono ?_
  rintro e37 w37 ⟨v37,l37,rfl,nr37,pn37,mn37,b37⟩
  have HR37:=hide (TyM.trans (TyM.of (M:=Mine) (bA _)) (TyM.of (M:=Mine) b37))
  have HG37:=hide ((HG36.out.below (bA _)).below b37)
  have HT37:=hide (HT36.out.trans HR37.out)
  have c0_37:=HG37.out.c0
  clear b37
  obtain ⟨gq37,cq37,hv37⟩:=nr37.form pn37
  subst hv37
  have HNn41_37:=hide nr37
  clear nr37
  go_wp2
  go_ret
  exact ⟨_,_,rfl,HNn41_37.out,pn37,by omega,HG37.out.mono (by omega),HT37.out⟩
 by_cases hz_2:z31=2
 ·subst hz_2
  go_wp2_with fail
  have HLA44:=hide (World.ownsRow_lit (base:=0) (e:=9) (size:=1) w31 #[.string ⟨#[48]⟩,.string ⟨#[45,53]⟩,.string ⟨#[49,50]⟩,.string ⟨#[120]⟩,.string ⟨#[57,50,50,51,51,55,50,48,51,54,56,53,52,55,55,53,56,48,56]⟩] 5 (Nat.zero_le _) (by unfold maxLen;omega) rfl)
  simp only [] at HLA44
  refine (Gn.pick (HG31.out.below (bA _)) (by omega) 5 (by omega) (by omega)).mono ?_
  rintro e38 w38 ⟨z38,hz38,rfl,hg38,ht38⟩
  have HR38:=hide (TyM.trans (TyM.of (M:=Mine) (bA _)) ht38)
  have HG38:=hide hg38
  have HT38:=hide (HT31.out.trans HR38.out)
  have HLA44_38:=hide (row_ty HLA44.out ht38 (by unfold Mine;simp))
  have c0_38:=HG38.out.c0
  clear hg38 ht38
  obtain ⟨u39,hu39⟩:∃ u:Short,([.string ⟨#[48]⟩,.string ⟨#[45,53]⟩,.string ⟨#[49,50]⟩,.string ⟨#[120]⟩,.string ⟨#[57,50,50,51,51,55,50,48,51,54,56,53,52,55,55,53,56,48,56]⟩]:List Value)[z38]?=some (.string u):=by
   have:z38=0∨z38=1∨z38=2∨z38=3∨z38=4:=by omega
   rcases this with rfl | rfl | rfl | rfl | rfl <;> exact ⟨⟨_,by exact Nat.le_of_ble_eq_true rfl⟩,rfl⟩
  have cl39:=HLA44_38.out.cells rfl z38 _ hu39
  rw [add_plainP,Nat.zero_add] at cl39
  clear hu39
  go_wp2_with fail
  refine (textN_any _ _).mono ?_
  rintro e40 w40 ⟨v40,l40,rfl,nr40,pn40,mn40,b40⟩
  have HR40:=hide (TyM.of (M:=Mine) b40)
  have HG40:=hide (HG38.out.below b40)
  have HT40:=hide (HT38.out.trans HR40.out)
  have c0_40:=HG40.out.c0
  clear b40
  obtain ⟨gq40,cq40,hv40⟩:=nr40.form pn40
  subst hv40
  have HNn49_40:=hide nr40
  clear nr40
  go_wp2_with fail
  have HO:=hide (callN_any ⟨#[105,110,116]⟩ [_] _ _ (0 * kd+1) (pr1 HNn49_40.out pn40) (by rw [fl1];omega) (by omega) (by simp) (by simp))
  refine (HO.out).mono ?_
  rintro e41 w41 ⟨v41,l41,rfl,nr41,pn41,mn41,b41⟩
  have HR41:=hide (TyM.trans (TyM.of (M:=Mine) (bA _)) (TyM.of (M:=Mine) b41))
  have HG41:=hide ((HG40.out.below (bA _)).below b41)
  have HT41:=hide (HT40.out.trans HR41.out)
  have c0_41:=HG41.out.c0
  clear b41
  obtain ⟨gq41,cq41,hv41⟩:=nr41.form pn41
  subst hv41
  have HNn51_41:=hide nr41
  clear nr41
  go_wp2
  go_ret
  exact ⟨_,_,rfl,HNn51_41.out,pn41,by omega,HG41.out.mono (by omega),HT41.out⟩
 have hb_0:((z31:Int) == 0)=false:=by simp;omega
 have hb_1:((z31:Int) == 1)=false:=by simp;omega
 have hb_2:((z31:Int) == 2)=false:=by simp;omega
 go_wp2_with fail
 refine (Gn.pick HG31.out (by omega) 5 (by omega) (by omega)).mono ?_
 rintro e42 w42 ⟨z42,hz42,rfl,hg42,ht42⟩
 have HR42:=hide ht42
 have HG42:=hide hg42
 have HT42:=hide (HT31.out.trans HR42.out)
 have c0_42:=HG42.out.c0
 clear hg42 ht42
 go_wp2_with fail
 refine (HE.out _ _ _ _ HG42.out (by omega) (by omega)).mono ?_
 rintro e43 w43 ⟨v43,l43,rfl,nr43,pn43,mn43,hg43,ht43⟩
 have HR43:=hide ht43
 have HG43:=hide hg43
 have HT43:=hide (HT42.out.trans HR43.out)
 have c0_43:=HG43.out.c0
 clear hg43 ht43
 obtain ⟨gq43,cq43,hv43⟩:=nr43.form pn43
 subst hv43
 have HNn58_43:=hide nr43
 clear nr43
 go_wp2_with fail
 refine (HE.out _ _ _ _ HG43.out (by omega) (by omega)).mono ?_
 rintro e44 w44 ⟨v44,l44,rfl,nr44,pn44,mn44,hg44,ht44⟩
 have HR44:=hide ht44
 have HG44:=hide hg44
 have HT44:=hide (HT43.out.trans HR44.out)
 have HNn58_44:=hide (HNn58_43.out.ty HR44.out)
 have c0_44:=HG44.out.c0
 clear hg44 ht44
 obtain ⟨gq44,cq44,hv44⟩:=nr44.form pn44
 subst hv44
 have HNn62_44:=hide nr44
 clear nr44
 go_wp2_with fail
 have HO:=hide (fun op=>binN_any op _ _ _ _ (2 * kd+0) _ HNn58_44.out HNn62_44.out pn43 pn44 (by omega) (by omega))
 refine (HO.out _).mono ?_
 rintro e45 w45 ⟨v45,l45,rfl,nr45,pn45,mn45,b45⟩
 have HR45:=hide (TyM.of (M:=Mine) b45)
 have HG45:=hide (HG44.out.below b45)
 have HT45:=hide (HT44.out.trans HR45.out)
 have c0_45:=HG45.out.c0
 clear b45
 obtain ⟨gq45,cq45,hv45⟩:=nr45.form pn45
 subst hv45
 have HNn63_45:=hide nr45
 clear nr45
 go_wp2
 go_ret
 exact ⟨_,_,rfl,HNn63_45.out,pn45,by omega,HG45.out.mono (by omega),HT45.out⟩
set_option maxRecDepth 100000 in
set_option maxHeartbeats 16000000 in
theorem of_text [Inhabited Bs] (d kd:Nat) (HE:EAt gb rb vb n d kd) (HEA:EachAt gb rb vb n d kd) (HRE:RecAt gb rb vb n d kd) (q k:Nat) (kind:Int) (w:World) (h:Gn gb rb vb n q k w) (hq:q+5 * kd+40≤700000000) (hk:k+1+d≤900) (hkd:kd≤1000000) (hkind:kind=1):Calls Tryz.prog 94 #[.pointer (some ⟨gb,0,none⟩),.int .i64 kind,.int .i64 ((d:Int)+1)] w fun e w'=>GMk gb rb vb n q (4 * kd+30) k w e w':=by
 have hwd:IntKind.i64.wrap (d:Int)=(d:Int):=by rw [IntKind.wrap_i64];omega
 have HG0:=hide h
 have HT0:Hid (Ty w w):=hide (.refl w)
 have c0:=h.c0
 have HEA:=hide HEA
 have HRE:=hide HRE
 have HE:=hide HE
 clear h
 subst hkind
 go_enter Tryz.func94,Tryz.ntmps94
 go_wp2_with fail
 refine (Gn.pick HG0.out (by omega) 7 (by omega) (by omega)).mono ?_
 rintro e31 w31 ⟨z31,hz31,rfl,hg31,ht31⟩
 have HR31:=hide ht31
 have HG31:=hide hg31
 have HT31:=hide (HT0.out.trans HR31.out)
 have c0_31:=HG31.out.c0
 clear hg31 ht31
 by_cases hz_0:z31=0
 ·subst hz_0
  go_wp2_with fail
  refine (Gn.pick HG31.out (by omega) 6 (by omega) (by omega)).mono ?_
  rintro e32 w32 ⟨z32,hz32,rfl,hg32,ht32⟩
  have HR32:=hide ht32
  have HG32:=hide hg32
  have HT32:=hide (HT31.out.trans HR32.out)
  have c0_32:=HG32.out.c0
  clear hg32 ht32
  go_wp2_with fail
  refine (HE.out _ _ _ _ HG32.out (by omega) (by omega)).mono ?_
  rintro e33 w33 ⟨v33,l33,rfl,nr33,pn33,mn33,hg33,ht33⟩
  have HR33:=hide ht33
  have HG33:=hide hg33
  have HT33:=hide (HT32.out.trans HR33.out)
  have c0_33:=HG33.out.c0
  clear hg33 ht33
  obtain ⟨gq33,cq33,hv33⟩:=nr33.form pn33
  subst hv33
  have HNn75_33:=hide nr33
  clear nr33
  go_wp2_with fail
  have HO:=hide (callN_any ⟨#[116,101,120,116]⟩ [_] _ _ (1 * kd+0) (pr1 HNn75_33.out pn33) (by rw [fl1];omega) (by omega) (by simp) (by simp))
  refine (HO.out).mono ?_
  rintro e34 w34 ⟨v34,l34,rfl,nr34,pn34,mn34,b34⟩
  have HR34:=hide (TyM.trans (TyM.of (M:=Mine) (bA _)) (TyM.of (M:=Mine) b34))
  have HG34:=hide ((HG33.out.below (bA _)).below b34)
  have HT34:=hide (HT33.out.trans HR34.out)
  have c0_34:=HG34.out.c0
  clear b34
  obtain ⟨gq34,cq34,hv34⟩:=nr34.form pn34
  subst hv34
  have HNn77_34:=hide nr34
  clear nr34
  go_wp2
  go_ret
  exact ⟨_,_,rfl,HNn77_34.out,pn34,by omega,HG34.out.mono (by omega),HT34.out⟩
 by_cases hz_1:z31=1
 ·subst hz_1
  go_wp2_with fail
  refine (HE.out _ _ _ _ HG31.out (by omega) (by omega)).mono ?_
  rintro e35 w35 ⟨v35,l35,rfl,nr35,pn35,mn35,hg35,ht35⟩
  have HR35:=hide ht35
  have HG35:=hide hg35
  have HT35:=hide (HT31.out.trans HR35.out)
  have c0_35:=HG35.out.c0
  clear hg35 ht35
  obtain ⟨gq35,cq35,hv35⟩:=nr35.form pn35
  subst hv35
  have HNn83_35:=hide nr35
  clear nr35
  go_wp2_with fail
  refine (HE.out _ _ _ _ HG35.out (by omega) (by omega)).mono ?_
  rintro e36 w36 ⟨v36,l36,rfl,nr36,pn36,mn36,hg36,ht36⟩
  have HR36:=hide ht36
  have HG36:=hide hg36
  have HT36:=hide (HT35.out.trans HR36.out)
  have HNn83_36:=hide (HNn83_35.out.ty HR36.out)
  have c0_36:=HG36.out.c0
  clear hg36 ht36
  obtain ⟨gq36,cq36,hv36⟩:=nr36.form pn36
  subst hv36
  have HNn87_36:=hide nr36
  clear nr36
  go_wp2_with fail
  have HO:=hide (callN_any ⟨#[106,111,105,110]⟩ [_,_] _ _ (2 * kd+0) (pr2 HNn83_36.out HNn87_36.out pn35 pn36) (by rw [fl2];omega) (by omega) (by simp) (by simp))
  refine (HO.out).mono ?_
  rintro e37 w37 ⟨v37,l37,rfl,nr37,pn37,mn37,b37⟩
  have HR37:=hide (TyM.trans (TyM.of (M:=Mine) (bA _)) (TyM.of (M:=Mine) b37))
  have HG37:=hide ((HG36.out.below (bA _)).below b37)
  have HT37:=hide (HT36.out.trans HR37.out)
  have c0_37:=HG37.out.c0
  clear b37
  obtain ⟨gq37,cq37,hv37⟩:=nr37.form pn37
  subst hv37
  have HNn89_37:=hide nr37
  clear nr37
  go_wp2
  go_ret
  exact ⟨_,_,rfl,HNn89_37.out,pn37,by omega,HG37.out.mono (by omega),HT37.out⟩
 by_cases hz_2:z31=2
 ·subst hz_2
  go_wp2_with fail
  refine (HE.out _ _ _ _ HG31.out (by omega) (by omega)).mono ?_
  rintro e38 w38 ⟨v38,l38,rfl,nr38,pn38,mn38,hg38,ht38⟩
  have HR38:=hide ht38
  have HG38:=hide hg38
  have HT38:=hide (HT31.out.trans HR38.out)
  have c0_38:=HG38.out.c0
  clear hg38 ht38
  obtain ⟨gq38,cq38,hv38⟩:=nr38.form pn38
  subst hv38
  have HNn95_38:=hide nr38
  clear nr38
  go_wp2_with fail
  refine (Gn.pick HG38.out (by omega) 2 (by omega) (by omega)).mono ?_
  rintro e39 w39 ⟨z39,hz39,rfl,hg39,ht39⟩
  have HR39:=hide ht39
  have HG39:=hide hg39
  have HT39:=hide (HT38.out.trans HR39.out)
  have HNn95_39:=hide (HNn95_38.out.ty HR39.out)
  have c0_39:=HG39.out.c0
  clear hg39 ht39
  go_wp2_with fail
  refine (intN_any _ _).mono ?_
  rintro e40 w40 ⟨v40,l40,rfl,nr40,pn40,mn40,b40⟩
  have HR40:=hide (TyM.of (M:=Mine) b40)
  have HG40:=hide (HG39.out.below b40)
  have HT40:=hide (HT39.out.trans HR40.out)
  have HNn95_40:=hide (HNn95_39.out.ty HR40.out)
  have c0_40:=HG40.out.c0
  clear b40
  obtain ⟨gq40,cq40,hv40⟩:=nr40.form pn40
  subst hv40
  have HNn98_40:=hide nr40
  clear nr40
  go_wp2_with fail
  refine (Gn.pick HG40.out (by omega) 3 (by omega) (by omega)).mono ?_
  rintro e41 w41 ⟨z41,hz41,rfl,hg41,ht41⟩
  have HR41:=hide ht41
  have HG41:=hide hg41
  have HT41:=hide (HT40.out.trans HR41.out)
  have HNn95_41:=hide (HNn95_40.out.ty HR41.out)
  have HNn98_41:=hide (HNn98_40.out.ty HR41.out)
  have c0_41:=HG41.out.c0
  clear hg41 ht41
  go_wp2_with fail
  refine (intN_any _ _).mono ?_
  rintro e42 w42 ⟨v42,l42,rfl,nr42,pn42,mn42,b42⟩
  have HR42:=hide (TyM.of (M:=Mine) b42)
  have HG42:=hide (HG41.out.below b42)
  have HT42:=hide (HT41.out.trans HR42.out)
  have HNn95_42:=hide (HNn95_41.out.ty HR42.out)
  have HNn98_42:=hide (HNn98_41.out.ty HR42.out)
  have c0_42:=HG42.out.c0
  clear b42
  obtain ⟨gq42,cq42,hv42⟩:=nr42.form pn42
  subst hv42
  have HNn101_42:=hide nr42
  clear nr42
  go_wp2_with fail
  have HO:=hide (callN_any ⟨#[99,117,116]⟩ [_,_,_] _ _ (1 * kd+2) (pr3 HNn95_42.out HNn98_42.out HNn101_42.out pn38 pn40 pn42) (by rw [fl3];omega) (by omega) (by simp) (by simp))
  refine (HO.out).mono ?_
  rintro e43 w43 ⟨v43,l43,rfl,nr43,pn43,mn43,b43⟩
  have HR43:=hide (TyM.trans (TyM.of (M:=Mine) (bA _)) (TyM.of (M:=Mine) b43))
  have HG43:=hide ((HG42.out.below (bA _)).below b43)
  have HT43:=hide (HT42.out.trans HR43.out)
  have c0_43:=HG43.out.c0
  clear b43
  obtain ⟨gq43,cq43,hv43⟩:=nr43.form pn43
  subst hv43
  have HNn103_43:=hide nr43
  clear nr43
  go_wp2
  go_ret
  exact ⟨_,_,rfl,HNn103_43.out,pn43,by omega,HG43.out.mono (by omega),HT43.out⟩
 by_cases hz_3:z31=3
 ·subst hz_3
  go_wp2_with fail
  refine (HE.out _ _ _ _ HG31.out (by omega) (by omega)).mono ?_
  rintro e44 w44 ⟨v44,l44,rfl,nr44,pn44,mn44,hg44,ht44⟩
  have HR44:=hide ht44
  have HG44:=hide hg44
  have HT44:=hide (HT31.out.trans HR44.out)
  have c0_44:=HG44.out.c0
  clear hg44 ht44
  obtain ⟨gq44,cq44,hv44⟩:=nr44.form pn44
  subst hv44
  have HNn110_44:=hide nr44
  clear nr44
  go_wp2_with fail
  refine (Gn.pick HG44.out (by omega) 2 (by omega) (by omega)).mono ?_
  rintro e45 w45 ⟨z45,hz45,rfl,hg45,ht45⟩
  have HR45:=hide ht45
  have HG45:=hide hg45
  have HT45:=hide (HT44.out.trans HR45.out)
  have HNn110_45:=hide (HNn110_44.out.ty HR45.out)
  have c0_45:=HG45.out.c0
  clear hg45 ht45
  go_wp2_with fail
  refine (intN_any _ _).mono ?_
  rintro e46 w46 ⟨v46,l46,rfl,nr46,pn46,mn46,b46⟩
  have HR46:=hide (TyM.of (M:=Mine) b46)
  have HG46:=hide (HG45.out.below b46)
  have HT46:=hide (HT45.out.trans HR46.out)
  have HNn110_46:=hide (HNn110_45.out.ty HR46.out)
  have c0_46:=HG46.out.c0
  clear b46
  obtain ⟨gq46,cq46,hv46⟩:=nr46.form pn46
  subst hv46
  have HNn113_46:=hide nr46
  clear nr46
  go_wp2_with fail
  have HO:=hide (over_mk ⟨10,0,0,⟨#[]⟩,0⟩ [_,_] _ _ (1 * kd+1) (pr2 HNn110_46.out HNn113_46.out pn44 pn46) (by rw [fl2];omega) (by omega) (by simp))
  unfold ndV at HO
  refine (HO.out).mono ?_
  rintro e47 w47 ⟨v47,l47,rfl,nr47,pn47,mn47,b47⟩
  have HR47:=hide (TyM.trans (TyM.of (M:=Mine) (bA _)) (TyM.of (M:=Mine) b47))
  have HG47:=hide ((HG46.out.below (bA _)).below b47)
  have HT47:=hide (HT46.out.trans HR47.out)
  have c0_47:=HG47.out.c0
  clear b47
  obtain ⟨gq47,cq47,hv47⟩:=nr47.form pn47
  subst hv47
  have HNn115_47:=hide nr47
  clear nr47
  go_wp2
  go_ret
  exact ⟨_,_,rfl,HNn115_47.out,pn47,by omega,HG47.out.mono (by omega),HT47.out⟩
 have hb_0:((z31:Int) == 0)=false:=by simp;omega
 have hb_1:((z31:Int) == 1)=false:=by simp;omega
 have hb_2:((z31:Int) == 2)=false:=by simp;omega
 have hb_3:((z31:Int) == 3)=false:=by simp;omega
 go_wp2_with fail
 refine (HE.out _ _ _ _ HG31.out (by omega) (by omega)).mono ?_
 rintro e48 w48 ⟨v48,l48,rfl,nr48,pn48,mn48,hg48,ht48⟩
 have HR48:=hide ht48
 have HG48:=hide hg48
 have HT48:=hide (HT31.out.trans HR48.out)
 have c0_48:=HG48.out.c0
 clear hg48 ht48
 obtain ⟨gq48,cq48,hv48⟩:=nr48.form pn48
 subst hv48
 have HNn119_48:=hide nr48
 clear nr48
 go_wp2_with fail
 refine (HE.out _ _ _ _ HG48.out (by omega) (by omega)).mono ?_
 rintro e49 w49 ⟨v49,l49,rfl,nr49,pn49,mn49,hg49,ht49⟩
 have HR49:=hide ht49
 have HG49:=hide hg49
 have HT49:=hide (HT48.out.trans HR49.out)
 have HNn119_49:=hide (HNn119_48.out.ty HR49.out)
 have c0_49:=HG49.out.c0
 clear hg49 ht49
 obtain ⟨gq49,cq49,hv49⟩:=nr49.form pn49
 subst hv49
 have HNn123_49:=hide nr49
 clear nr49
 go_wp2_with fail
 have HO:=hide (fun op=>binN_any op _ _ _ _ (2 * kd+0) _ HNn119_49.out HNn123_49.out pn48 pn49 (by omega) (by omega))
 refine (HO.out _).mono ?_
 rintro e50 w50 ⟨v50,l50,rfl,nr50,pn50,mn50,b50⟩
 have HR50:=hide (TyM.of (M:=Mine) b50)
 have HG50:=hide (HG49.out.below b50)
 have HT50:=hide (HT49.out.trans HR50.out)
 have c0_50:=HG50.out.c0
 clear b50
 obtain ⟨gq50,cq50,hv50⟩:=nr50.form pn50
 subst hv50
 have HNn124_50:=hide nr50
 clear nr50
 go_wp2
 go_ret
 exact ⟨_,_,rfl,HNn124_50.out,pn50,by omega,HG50.out.mono (by omega),HT50.out⟩
end Go.Proofs.YtbckhbeebngjfaaGreatDoor
