/- Cn, Cw. -/
import Derived.Test.YtbckhbeebngjfaaGreatDoorT38
import Derived.Test.YtbckhbeebngjfaaGreatDoorT30
import Derived.Test.YtbckhbeebngjfaaGreatDoorT37
import Derived.Test.YtbckhbeebngjfaaGreatDoorT33
namespace Go.Proofs.YtbckhbeebngjfaaGreatDoor
open Go.RowKit
variable (gb rb:Nat) (vb:Value) (n:Nat)
def OfAt [Inhabited Bs] (d kd:Nat):Prop:=∀ (q k:Nat) (kind:Int) (w:World),Gn gb rb vb n q k w→q+5 * kd+40≤700000000→k+1+d≤900→Calls Tryz.prog 94 #[.pointer (some ⟨gb,0,none⟩),.int .i64 kind,.int .i64 ((d:Int)+1)] w fun e w'=>GMk gb rb vb n q (4 * kd+30) k w e w'
theorem of_at [Inhabited Bs] (d kd:Nat) (HE:EAt gb rb vb n d kd) (HRE:RecAt gb rb vb n d kd) (hkd:kd≤1000000):OfAt gb rb vb n d kd:=fun q k kind w h hq hk=>by
 have HEA:EachAt gb rb vb n d kd:=fun q k kind w h hq hk=>each_any gb rb vb n d kd HE q k kind w h hq hk hkd
 by_cases h0:kind=0
 ·exact of_int gb rb vb n d kd HE HEA HRE q k kind w h hq hk hkd h0
 by_cases h1:kind=1
 ·exact of_text gb rb vb n d kd HE HEA HRE q k kind w h hq hk hkd h1
 by_cases h2:kind=2
 ·exact of_bool gb rb vb n d kd HE HEA HRE q k kind w h hq hk hkd h2
 by_cases h3:kind=3
 ·exact of_list gb rb vb n d kd HE HEA HRE q k kind w h hq hk hkd h3
 by_cases h4:kind=4
 ·exact of_rec gb rb vb n d kd HE HEA HRE q k kind w h hq hk hkd h4
 exact of_any gb rb vb n d kd HE HEA HRE q k kind w h hq hk hkd h0 h1 h2 h3 h4
set_option maxRecDepth 100000 in
set_option maxHeartbeats 4000000 in
theorem e_zero [Inhabited Bs]:EAt gb rb vb n 0 40:=fun q k kind w h hq hk=>by
 obtain ⟨c,hc1,hc2,c4⟩:=h.sz
 have f4:=h.fr 4
 have HG0:=hide (h.down (c:=c - 1) (by omega) (by omega))
 have HT0:Hid (Ty w (w.setCell ⟨gb,4,none⟩ (.int .i64 (c - 1)))):=hide (.set h.mine (by decide))
 have c0:=HG0.out.c0
 clear h
 go_enter Tryz.func83,Tryz.ntmps83
 go_wp2_with fail
 refine (Gn.pick HG0.out (by omega) 40 (by omega) (by omega)).mono ?_
 rintro e41 w41 ⟨z41,hz41,rfl,hg41,ht41⟩
 have HR41:=hide ht41
 have HG41:=hide hg41
 have HT41:=hide (HT0.out.trans HR41.out)
 have c0_41:=HG41.out.c0
 clear hg41 ht41
 by_cases hz0:z41=0
 ·subst hz0
  go_wp2_with fail
  refine (Gn.pick HG41.out (by omega) 6 (by omega) (by omega)).mono ?_
  rintro e42 w42 ⟨z42,hz42,rfl,hg42,ht42⟩
  have HR42:=hide ht42
  have HG42:=hide hg42
  have HT42:=hide (HT41.out.trans HR42.out)
  have c0_42:=HG42.out.c0
  clear hg42 ht42
  go_wp2_with fail
  refine (leaf_any gb rb vb n _ _ _ _ HG42.out (by omega)).mono ?_
  rintro e43 w43 ⟨v43,l43,rfl,nr43,pn43,mn43,hg43,ht43⟩
  have HR43:=hide ht43
  have HG43:=hide hg43
  have HT43:=hide (HT42.out.trans HR43.out)
  have c0_43:=HG43.out.c0
  clear hg43 ht43
  obtain ⟨gq43,cq43,hv43⟩:=nr43.form pn43
  subst hv43
  have HNr_43:=hide nr43
  clear nr43
  go_wp2
  go_ret
  exact ⟨_,_,rfl,HNr_43.out,pn43,by omega,HG43.out.mono (by omega),HT43.out⟩
 have hz1:((z41:Int) == 0)=false:=by simp;omega
 go_wp2_with fail
 refine (leaf_any gb rb vb n _ _ _ _ HG41.out (by omega)).mono ?_
 rintro e44 w44 ⟨v44,l44,rfl,nr44,pn44,mn44,hg44,ht44⟩
 have HR44:=hide ht44
 have HG44:=hide hg44
 have HT44:=hide (HT41.out.trans HR44.out)
 have c0_44:=HG44.out.c0
 clear hg44 ht44
 obtain ⟨gq44,cq44,hv44⟩:=nr44.form pn44
 subst hv44
 have HNr_44:=hide nr44
 clear nr44
 go_wp2
 go_ret
 exact ⟨_,_,rfl,HNr_44.out,pn44,by omega,HG44.out.mono (by omega),HT44.out⟩
set_option maxRecDepth 100000 in
set_option maxHeartbeats 16000000 in
theorem e_step [Inhabited Bs] (d kd:Nat) (HE:EAt gb rb vb n d kd) (HOF:OfAt gb rb vb n d kd) (HCA:CallAt gb rb vb n d kd) (hkd:kd≤1000000):EAt gb rb vb n (d+1) (5 * kd+60):=fun q k kind w h hq hk=>by
 rw [show ((d+1:Nat):Int)=(d:Int)+1 from by omega]
 have hwd:IntKind.i64.wrap (d:Int)=(d:Int):=by rw [IntKind.wrap_i64];omega
 have hd0:¬ ((d:Int)+1≤0):=by omega
 have HI:=hide (insideG_any gb rb vb n d kd HE)
 have HE:=hide HE
 have HOF:=hide HOF
 have HCA:=hide HCA
 obtain ⟨c,hc1,hc2,c4⟩:=h.sz
 have f4:=h.fr 4
 have HG0:=hide (h.down (c:=c - 1) (by omega) (by omega))
 have HT0:Hid (Ty w (w.setCell ⟨gb,4,none⟩ (.int .i64 (c - 1)))):=hide (.set h.mine (by decide))
 have c0:=HG0.out.c0
 clear h
 go_enter Tryz.func83,Tryz.ntmps83
 go_wp2_with fail
 refine (Gn.pick HG0.out (by omega) 40 (by omega) (by omega)).mono ?_
 rintro e45 w45 ⟨z45,hz45,rfl,hg45,ht45⟩
 have HR45:=hide ht45
 have HG45:=hide hg45
 have HT45:=hide (HT0.out.trans HR45.out)
 have c0_45:=HG45.out.c0
 clear hg45 ht45
 by_cases hz0:z45=0
 ·subst hz0
  go_wp2_with fail
  refine (Gn.pick HG45.out (by omega) 6 (by omega) (by omega)).mono ?_
  rintro e46 w46 ⟨z46,hz46,rfl,hg46,ht46⟩
  have HR46:=hide ht46
  have HG46:=hide hg46
  have HT46:=hide (HT45.out.trans HR46.out)
  have c0_46:=HG46.out.c0
  clear hg46 ht46
  obtain ⟨sz47,sa47,sb47,sc47⟩:=HG46.out.sz
  by_cases hs47:sz47 < 0
  ·go_wp2_with fail
   refine (leaf_any gb rb vb n _ _ _ _ HG46.out (by omega)).mono ?_
   rintro e48 w48 ⟨v48,l48,rfl,nr48,pn48,mn48,hg48,ht48⟩
   have HR48:=hide ht48
   have HG48:=hide hg48
   have HT48:=hide (HT46.out.trans HR48.out)
   have c0_48:=HG48.out.c0
   clear hg48 ht48
   obtain ⟨gq48,cq48,hv48⟩:=nr48.form pn48
   subst hv48
   have HNr_48:=hide nr48
   clear nr48
   go_wp2
   go_ret
   exact ⟨_,_,rfl,HNr_48.out,pn48,by omega,HG48.out.mono (by omega),HT48.out⟩
  go_wp2_with fail
  refine (Gn.pick HG46.out (by omega) 5 (by omega) (by omega)).mono ?_
  rintro e49 w49 ⟨z49,hz49,rfl,hg49,ht49⟩
  have HR49:=hide ht49
  have HG49:=hide hg49
  have HT49:=hide (HT46.out.trans HR49.out)
  have c0_49:=HG49.out.c0
  clear hg49 ht49
  by_cases hp47:z49=0
  ·subst hp47
   go_wp2_with fail
   refine (leaf_any gb rb vb n _ _ _ _ HG49.out (by omega)).mono ?_
   rintro e50 w50 ⟨v50,l50,rfl,nr50,pn50,mn50,hg50,ht50⟩
   have HR50:=hide ht50
   have HG50:=hide hg50
   have HT50:=hide (HT49.out.trans HR50.out)
   have c0_50:=HG50.out.c0
   clear hg50 ht50
   obtain ⟨gq50,cq50,hv50⟩:=nr50.form pn50
   subst hv50
   have HNr_50:=hide nr50
   clear nr50
   go_wp2
   go_ret
   exact ⟨_,_,rfl,HNr_50.out,pn50,by omega,HG50.out.mono (by omega),HT50.out⟩
  have hq47:((z49:Int) == 0)=false:=by simp;omega
  go_wp2_with fail
  refine (Gn.pick HG49.out (by omega) 10 (by omega) (by omega)).mono ?_
  rintro e51 w51 ⟨z51,hz51,rfl,hg51,ht51⟩
  have HR51:=hide ht51
  have HG51:=hide hg51
  have HT51:=hide (HT49.out.trans HR51.out)
  have c0_51:=HG51.out.c0
  clear hg51 ht51
  by_cases hy0:z51=0
  ·subst hy0
   go_wp2_with fail
   refine (HE.out _ _ _ _ HG51.out (by omega) (by omega)).mono ?_
   rintro e52 w52 ⟨v52,l52,rfl,nr52,pn52,mn52,hg52,ht52⟩
   have HR52:=hide ht52
   have HG52:=hide hg52
   have HT52:=hide (HT51.out.trans HR52.out)
   have c0_52:=HG52.out.c0
   clear hg52 ht52
   obtain ⟨gq52,cq52,hv52⟩:=nr52.form pn52
   subst hv52
   have HNn57_52:=hide nr52
   clear nr52
   go_wp2_with fail
   refine (HE.out _ _ _ _ HG52.out (by omega) (by omega)).mono ?_
   rintro e53 w53 ⟨v53,l53,rfl,nr53,pn53,mn53,hg53,ht53⟩
   have HR53:=hide ht53
   have HG53:=hide hg53
   have HT53:=hide (HT52.out.trans HR53.out)
   have HNn57_53:=hide (HNn57_52.out.ty HR53.out)
   have c0_53:=HG53.out.c0
   clear hg53 ht53
   obtain ⟨gq53,cq53,hv53⟩:=nr53.form pn53
   subst hv53
   have HNn62_53:=hide nr53
   clear nr53
   go_wp2_with fail
   refine (HE.out _ _ _ _ HG53.out (by omega) (by omega)).mono ?_
   rintro e54 w54 ⟨v54,l54,rfl,nr54,pn54,mn54,hg54,ht54⟩
   have HR54:=hide ht54
   have HG54:=hide hg54
   have HT54:=hide (HT53.out.trans HR54.out)
   have HNn57_54:=hide (HNn57_53.out.ty HR54.out)
   have HNn62_54:=hide (HNn62_53.out.ty HR54.out)
   have c0_54:=HG54.out.c0
   clear hg54 ht54
   obtain ⟨gq54,cq54,hv54⟩:=nr54.form pn54
   subst hv54
   have HNn67_54:=hide nr54
   clear nr54
   go_wp2_with fail
   have HO:=hide (over_mk ⟨13,0,0,⟨#[]⟩,0⟩ [_,_,_] _ _ (3 * kd+0) (pr3 HNn57_54.out HNn62_54.out HNn67_54.out pn52 pn53 pn54) (by rw [fl3];omega) (by omega) (by simp))
   unfold ndV at HO
   refine (HO.out).mono ?_
   rintro e55 w55 ⟨v55,l55,rfl,nr55,pn55,mn55,b55⟩
   have HR55:=hide (TyM.trans (TyM.of (M:=Mine) (bA _)) (TyM.of (M:=Mine) b55))
   have HG55:=hide ((HG54.out.below (bA _)).below b55)
   have HT55:=hide (HT54.out.trans HR55.out)
   have c0_55:=HG55.out.c0
   clear b55
   obtain ⟨gq55,cq55,hv55⟩:=nr55.form pn55
   subst hv55
   have HNn69_55:=hide nr55
   clear nr55
   go_wp2
   go_ret
   exact ⟨_,_,rfl,HNn69_55.out,pn55,by omega,HG55.out.mono (by omega),HT55.out⟩
  by_cases hy1:z51=1
  ·subst hy1
   go_wp2_with fail
   refine (fresh_any gb rb vb n _ _ _ HG51.out (by omega)).mono ?_
   rintro e56 w56 ⟨t56,rfl,hg56,ht56⟩
   have HR56:=hide ht56
   have HG56:=hide hg56
   have HT56:=hide (HT51.out.trans HR56.out)
   have c0_56:=HG56.out.c0
   clear hg56 ht56
   go_wp2_with fail
   refine (Gn.pick HG56.out (by omega) 6 (by omega) (by omega)).mono ?_
   rintro e57 w57 ⟨z57,hz57,rfl,hg57,ht57⟩
   have HR57:=hide ht57
   have HG57:=hide hg57
   have HT57:=hide (HT56.out.trans HR57.out)
   have c0_57:=HG57.out.c0
   clear hg57 ht57
   go_wp2_with fail
   refine (HE.out _ _ _ _ HG57.out (by omega) (by omega)).mono ?_
   rintro e58 w58 ⟨v58,l58,rfl,nr58,pn58,mn58,hg58,ht58⟩
   have HR58:=hide ht58
   have HG58:=hide hg58
   have HT58:=hide (HT57.out.trans HR58.out)
   have c0_58:=HG58.out.c0
   clear hg58 ht58
   obtain ⟨gq58,cq58,hv58⟩:=nr58.form pn58
   subst hv58
   have HNn80_58:=hide nr58
   clear nr58
   go_wp2_with fail
   refine (HI.out _ _ _ _ _ _ HG58.out (by omega) (by omega)).mono ?_
   rintro e59 w59 ⟨v59,l59,rfl,nr59,pn59,mn59,hg59,ht59⟩
   have HR59:=hide ht59
   have HG59:=hide hg59
   have HT59:=hide (HT58.out.trans HR59.out)
   have HNn80_59:=hide (HNn80_58.out.ty HR59.out)
   have c0_59:=HG59.out.c0
   clear hg59 ht59
   obtain ⟨gq59,cq59,hv59⟩:=nr59.form pn59
   subst hv59
   have HNn90_59:=hide nr59
   clear nr59
   go_wp2_with fail
   have HO:=hide (over_mk ⟨14,0,0,t56,0⟩ [_,_] _ _ (2 * kd+0) (pr2 HNn80_59.out HNn90_59.out pn58 pn59) (by rw [fl2];omega) (by omega) (by simp))
   unfold ndV at HO
   refine (HO.out).mono ?_
   rintro e60 w60 ⟨v60,l60,rfl,nr60,pn60,mn60,b60⟩
   have HR60:=hide (TyM.trans (TyM.of (M:=Mine) (bA _)) (TyM.of (M:=Mine) b60))
   have HG60:=hide ((HG59.out.below (bA _)).below b60)
   have HT60:=hide (HT59.out.trans HR60.out)
   have c0_60:=HG60.out.c0
   clear b60
   obtain ⟨gq60,cq60,hv60⟩:=nr60.form pn60
   subst hv60
   have HNn92_60:=hide nr60
   clear nr60
   go_wp2
   go_ret
   exact ⟨_,_,rfl,HNn92_60.out,pn60,by omega,HG60.out.mono (by omega),HT60.out⟩
  by_cases hy2:z51=2
  ·subst hy2
   go_wp2_with fail
   refine (fresh_any gb rb vb n _ _ _ HG51.out (by omega)).mono ?_
   rintro e61 w61 ⟨t61,rfl,hg61,ht61⟩
   have HR61:=hide ht61
   have HG61:=hide hg61
   have HT61:=hide (HT51.out.trans HR61.out)
   have c0_61:=HG61.out.c0
   clear hg61 ht61
   go_wp2_with fail
   have HNn100_62:=hide (nr_new w61 ⟨19,0,0,t61,0⟩)
   have pn62:0 < 1:=by decide
   have mn62:([⟨19,0,0,t61,0⟩]:List Tr.Nd).length≤1:=Nat.le_refl 1
   refine (HI.out _ _ _ _ _ _ (HG61.out.below (bA _)) (by omega) (by omega)).mono ?_
   rintro e63 w63 ⟨v63,l63,rfl,nr63,pn63,mn63,hg63,ht63⟩
   have HR63:=hide (TyM.trans (TyM.of (M:=Mine) (bA _)) ht63)
   have HG63:=hide hg63
   have HT63:=hide (HT61.out.trans HR63.out)
   have HNn100_63:=hide (HNn100_62.out.ty ht63)
   have c0_63:=HG63.out.c0
   clear hg63 ht63
   obtain ⟨gq63,cq63,hv63⟩:=nr63.form pn63
   subst hv63
   have HNn106_63:=hide nr63
   clear nr63
   go_wp2_with fail
   have HO:=hide (over_mk ⟨15,0,0,⟨#[]⟩,0⟩ [_,_] _ _ (1 * kd+1) (pr2 HNn100_63.out HNn106_63.out pn62 pn63) (by rw [fl2];omega) (by omega) (by simp))
   unfold ndV at HO
   refine (HO.out).mono ?_
   rintro e64 w64 ⟨v64,l64,rfl,nr64,pn64,mn64,b64⟩
   have HR64:=hide (TyM.trans (TyM.of (M:=Mine) (bA _)) (TyM.of (M:=Mine) b64))
   have HG64:=hide ((HG63.out.below (bA _)).below b64)
   have HT64:=hide (HT63.out.trans HR64.out)
   have c0_64:=HG64.out.c0
   clear b64
   obtain ⟨gq64,cq64,hv64⟩:=nr64.form pn64
   subst hv64
   have HNn108_64:=hide nr64
   clear nr64
   go_wp2_with fail
   refine (HE.out _ _ _ _ HG64.out (by omega) (by omega)).mono ?_
   rintro e65 w65 ⟨v65,l65,rfl,nr65,pn65,mn65,hg65,ht65⟩
   have HR65:=hide ht65
   have HG65:=hide hg65
   have HT65:=hide (HT64.out.trans HR65.out)
   have HNn108_65:=hide (HNn108_64.out.ty HR65.out)
   have c0_65:=HG65.out.c0
   clear hg65 ht65
   obtain ⟨gq65,cq65,hv65⟩:=nr65.form pn65
   subst hv65
   have HNn114_65:=hide nr65
   clear nr65
   go_wp2_with fail
   have HO:=hide (over_mk ⟨12,0,0,⟨#[]⟩,0⟩ [_,_] _ _ (2 * kd+2) (pr2 HNn108_65.out HNn114_65.out pn64 pn65) (by rw [fl2];omega) (by omega) (by simp))
   unfold ndV at HO
   refine (HO.out).mono ?_
   rintro e66 w66 ⟨v66,l66,rfl,nr66,pn66,mn66,b66⟩
   have HR66:=hide (TyM.trans (TyM.of (M:=Mine) (bA _)) (TyM.of (M:=Mine) b66))
   have HG66:=hide ((HG65.out.below (bA _)).below b66)
   have HT66:=hide (HT65.out.trans HR66.out)
   have c0_66:=HG66.out.c0
   clear b66
   obtain ⟨gq66,cq66,hv66⟩:=nr66.form pn66
   subst hv66
   have HNn116_66:=hide nr66
   clear nr66
   go_wp2
   go_ret
   exact ⟨_,_,rfl,HNn116_66.out,pn66,by omega,HG66.out.mono (by omega),HT66.out⟩
  by_cases hy3:z51=3
  ·subst hy3
   go_wp2_with fail
   refine (HCA.out _ _ _ _ HG51.out (by omega) (by omega)).mono ?_
   rintro e67 w67 ⟨v67,l67,bb67,rfl,hok67,hno67,hg67,ht67,sp67,si67,sx67,hv67⟩
   subst hv67
   have HOK67:=hide hok67
   clear hok67
   have HNO67:=hide hno67
   clear hno67
   have HR67:=hide ht67
   have HG67:=hide hg67
   have HT67:=hide (HT51.out.trans HR67.out)
   have c0_67:=HG67.out.c0
   clear hg67 ht67
   cases bb67
   ·have HGn:=hide (HNO67.out rfl)
    go_wp2_with fail
    refine (HOF.out _ _ _ _ HGn.out (by omega) (by omega)).mono ?_
    rintro e68 w68 ⟨v68,l68,rfl,nr68,pn68,mn68,hg68,ht68⟩
    have HR68:=hide ht68
    have HG68:=hide hg68
    have HT68:=hide (HT67.out.trans HR68.out)
    have c0_68:=HG68.out.c0
    clear hg68 ht68
    obtain ⟨gq68,cq68,hv68⟩:=nr68.form pn68
    subst hv68
    have HNr_68:=hide nr68
    clear nr68
    go_wp2
    go_ret
    exact ⟨_,_,rfl,HNr_68.out,pn68,by omega,HG68.out.mono (by omega),HT68.out⟩
   ·obtain ⟨nr0,p0,m0⟩:=HOK67.out rfl
    have HN0:=hide nr0
    clear nr0 HOK67
    go_wp2
    go_ret
    exact ⟨_,_,rfl,HN0.out,p0,by omega,HG67.out.mono (by omega),HT67.out⟩
  by_cases hy4:z51=4
  ·subst hy4
   go_wp2_with fail
   refine (HCA.out _ _ _ _ HG51.out (by omega) (by omega)).mono ?_
   rintro e69 w69 ⟨v69,l69,bb69,rfl,hok69,hno69,hg69,ht69,sp69,si69,sx69,hv69⟩
   subst hv69
   have HOK69:=hide hok69
   clear hok69
   have HNO69:=hide hno69
   clear hno69
   have HR69:=hide ht69
   have HG69:=hide hg69
   have HT69:=hide (HT51.out.trans HR69.out)
   have c0_69:=HG69.out.c0
   clear hg69 ht69
   cases bb69
   ·have HGn:=hide (HNO69.out rfl)
    go_wp2_with fail
    refine (HOF.out _ _ _ _ HGn.out (by omega) (by omega)).mono ?_
    rintro e70 w70 ⟨v70,l70,rfl,nr70,pn70,mn70,hg70,ht70⟩
    have HR70:=hide ht70
    have HG70:=hide hg70
    have HT70:=hide (HT69.out.trans HR70.out)
    have c0_70:=HG70.out.c0
    clear hg70 ht70
    obtain ⟨gq70,cq70,hv70⟩:=nr70.form pn70
    subst hv70
    have HNr_70:=hide nr70
    clear nr70
    go_wp2
    go_ret
    exact ⟨_,_,rfl,HNr_70.out,pn70,by omega,HG70.out.mono (by omega),HT70.out⟩
   ·obtain ⟨nr0,p0,m0⟩:=HOK69.out rfl
    have HN0:=hide nr0
    clear nr0 HOK69
    go_wp2
    go_ret
    exact ⟨_,_,rfl,HN0.out,p0,by omega,HG69.out.mono (by omega),HT69.out⟩
  have hx0:((z51:Int) == 0)=false:=by simp;omega
  have hx1:((z51:Int) == 1)=false:=by simp;omega
  have hx2:((z51:Int) == 2)=false:=by simp;omega
  have hx3:((z51:Int) == 3)=false:=by simp;omega
  have hx4:((z51:Int) == 4)=false:=by simp;omega
  go_wp2_with fail
  refine (HOF.out _ _ _ _ HG51.out (by omega) (by omega)).mono ?_
  rintro e71 w71 ⟨v71,l71,rfl,nr71,pn71,mn71,hg71,ht71⟩
  have HR71:=hide ht71
  have HG71:=hide hg71
  have HT71:=hide (HT51.out.trans HR71.out)
  have c0_71:=HG71.out.c0
  clear hg71 ht71
  obtain ⟨gq71,cq71,hv71⟩:=nr71.form pn71
  subst hv71
  have HNr_71:=hide nr71
  clear nr71
  go_wp2
  go_ret
  exact ⟨_,_,rfl,HNr_71.out,pn71,by omega,HG71.out.mono (by omega),HT71.out⟩
 have hz1:((z45:Int) == 0)=false:=by simp;omega
 obtain ⟨sz72,sa72,sb72,sc72⟩:=HG45.out.sz
 by_cases hs72:sz72 < 0
 ·go_wp2_with fail
  refine (leaf_any gb rb vb n _ _ _ _ HG45.out (by omega)).mono ?_
  rintro e73 w73 ⟨v73,l73,rfl,nr73,pn73,mn73,hg73,ht73⟩
  have HR73:=hide ht73
  have HG73:=hide hg73
  have HT73:=hide (HT45.out.trans HR73.out)
  have c0_73:=HG73.out.c0
  clear hg73 ht73
  obtain ⟨gq73,cq73,hv73⟩:=nr73.form pn73
  subst hv73
  have HNr_73:=hide nr73
  clear nr73
  go_wp2
  go_ret
  exact ⟨_,_,rfl,HNr_73.out,pn73,by omega,HG73.out.mono (by omega),HT73.out⟩
 go_wp2_with fail
 refine (Gn.pick HG45.out (by omega) 5 (by omega) (by omega)).mono ?_
 rintro e74 w74 ⟨z74,hz74,rfl,hg74,ht74⟩
 have HR74:=hide ht74
 have HG74:=hide hg74
 have HT74:=hide (HT45.out.trans HR74.out)
 have c0_74:=HG74.out.c0
 clear hg74 ht74
 by_cases hp72:z74=0
 ·subst hp72
  go_wp2_with fail
  refine (leaf_any gb rb vb n _ _ _ _ HG74.out (by omega)).mono ?_
  rintro e75 w75 ⟨v75,l75,rfl,nr75,pn75,mn75,hg75,ht75⟩
  have HR75:=hide ht75
  have HG75:=hide hg75
  have HT75:=hide (HT74.out.trans HR75.out)
  have c0_75:=HG75.out.c0
  clear hg75 ht75
  obtain ⟨gq75,cq75,hv75⟩:=nr75.form pn75
  subst hv75
  have HNr_75:=hide nr75
  clear nr75
  go_wp2
  go_ret
  exact ⟨_,_,rfl,HNr_75.out,pn75,by omega,HG75.out.mono (by omega),HT75.out⟩
 have hq72:((z74:Int) == 0)=false:=by simp;omega
 go_wp2_with fail
 refine (Gn.pick HG74.out (by omega) 10 (by omega) (by omega)).mono ?_
 rintro e76 w76 ⟨z76,hz76,rfl,hg76,ht76⟩
 have HR76:=hide ht76
 have HG76:=hide hg76
 have HT76:=hide (HT74.out.trans HR76.out)
 have c0_76:=HG76.out.c0
 clear hg76 ht76
 by_cases hy0:z76=0
 ·subst hy0
  go_wp2_with fail
  refine (HE.out _ _ _ _ HG76.out (by omega) (by omega)).mono ?_
  rintro e77 w77 ⟨v77,l77,rfl,nr77,pn77,mn77,hg77,ht77⟩
  have HR77:=hide ht77
  have HG77:=hide hg77
  have HT77:=hide (HT76.out.trans HR77.out)
  have c0_77:=HG77.out.c0
  clear hg77 ht77
  obtain ⟨gq77,cq77,hv77⟩:=nr77.form pn77
  subst hv77
  have HNn57_77:=hide nr77
  clear nr77
  go_wp2_with fail
  refine (HE.out _ _ _ _ HG77.out (by omega) (by omega)).mono ?_
  rintro e78 w78 ⟨v78,l78,rfl,nr78,pn78,mn78,hg78,ht78⟩
  have HR78:=hide ht78
  have HG78:=hide hg78
  have HT78:=hide (HT77.out.trans HR78.out)
  have HNn57_78:=hide (HNn57_77.out.ty HR78.out)
  have c0_78:=HG78.out.c0
  clear hg78 ht78
  obtain ⟨gq78,cq78,hv78⟩:=nr78.form pn78
  subst hv78
  have HNn62_78:=hide nr78
  clear nr78
  go_wp2_with fail
  refine (HE.out _ _ _ _ HG78.out (by omega) (by omega)).mono ?_
  rintro e79 w79 ⟨v79,l79,rfl,nr79,pn79,mn79,hg79,ht79⟩
  have HR79:=hide ht79
  have HG79:=hide hg79
  have HT79:=hide (HT78.out.trans HR79.out)
  have HNn57_79:=hide (HNn57_78.out.ty HR79.out)
  have HNn62_79:=hide (HNn62_78.out.ty HR79.out)
  have c0_79:=HG79.out.c0
  clear hg79 ht79
  obtain ⟨gq79,cq79,hv79⟩:=nr79.form pn79
  subst hv79
  have HNn67_79:=hide nr79
  clear nr79
  go_wp2_with fail
  have HO:=hide (over_mk ⟨13,0,0,⟨#[]⟩,0⟩ [_,_,_] _ _ (3 * kd+0) (pr3 HNn57_79.out HNn62_79.out HNn67_79.out pn77 pn78 pn79) (by rw [fl3];omega) (by omega) (by simp))
  unfold ndV at HO
  refine (HO.out).mono ?_
  rintro e80 w80 ⟨v80,l80,rfl,nr80,pn80,mn80,b80⟩
  have HR80:=hide (TyM.trans (TyM.of (M:=Mine) (bA _)) (TyM.of (M:=Mine) b80))
  have HG80:=hide ((HG79.out.below (bA _)).below b80)
  have HT80:=hide (HT79.out.trans HR80.out)
  have c0_80:=HG80.out.c0
  clear b80
  obtain ⟨gq80,cq80,hv80⟩:=nr80.form pn80
  subst hv80
  have HNn69_80:=hide nr80
  clear nr80
  go_wp2
  go_ret
  exact ⟨_,_,rfl,HNn69_80.out,pn80,by omega,HG80.out.mono (by omega),HT80.out⟩
 by_cases hy1:z76=1
 ·subst hy1
  go_wp2_with fail
  refine (fresh_any gb rb vb n _ _ _ HG76.out (by omega)).mono ?_
  rintro e81 w81 ⟨t81,rfl,hg81,ht81⟩
  have HR81:=hide ht81
  have HG81:=hide hg81
  have HT81:=hide (HT76.out.trans HR81.out)
  have c0_81:=HG81.out.c0
  clear hg81 ht81
  go_wp2_with fail
  refine (Gn.pick HG81.out (by omega) 6 (by omega) (by omega)).mono ?_
  rintro e82 w82 ⟨z82,hz82,rfl,hg82,ht82⟩
  have HR82:=hide ht82
  have HG82:=hide hg82
  have HT82:=hide (HT81.out.trans HR82.out)
  have c0_82:=HG82.out.c0
  clear hg82 ht82
  go_wp2_with fail
  refine (HE.out _ _ _ _ HG82.out (by omega) (by omega)).mono ?_
  rintro e83 w83 ⟨v83,l83,rfl,nr83,pn83,mn83,hg83,ht83⟩
  have HR83:=hide ht83
  have HG83:=hide hg83
  have HT83:=hide (HT82.out.trans HR83.out)
  have c0_83:=HG83.out.c0
  clear hg83 ht83
  obtain ⟨gq83,cq83,hv83⟩:=nr83.form pn83
  subst hv83
  have HNn80_83:=hide nr83
  clear nr83
  go_wp2_with fail
  refine (HI.out _ _ _ _ _ _ HG83.out (by omega) (by omega)).mono ?_
  rintro e84 w84 ⟨v84,l84,rfl,nr84,pn84,mn84,hg84,ht84⟩
  have HR84:=hide ht84
  have HG84:=hide hg84
  have HT84:=hide (HT83.out.trans HR84.out)
  have HNn80_84:=hide (HNn80_83.out.ty HR84.out)
  have c0_84:=HG84.out.c0
  clear hg84 ht84
  obtain ⟨gq84,cq84,hv84⟩:=nr84.form pn84
  subst hv84
  have HNn90_84:=hide nr84
  clear nr84
  go_wp2_with fail
  have HO:=hide (over_mk ⟨14,0,0,t81,0⟩ [_,_] _ _ (2 * kd+0) (pr2 HNn80_84.out HNn90_84.out pn83 pn84) (by rw [fl2];omega) (by omega) (by simp))
  unfold ndV at HO
  refine (HO.out).mono ?_
  rintro e85 w85 ⟨v85,l85,rfl,nr85,pn85,mn85,b85⟩
  have HR85:=hide (TyM.trans (TyM.of (M:=Mine) (bA _)) (TyM.of (M:=Mine) b85))
  have HG85:=hide ((HG84.out.below (bA _)).below b85)
  have HT85:=hide (HT84.out.trans HR85.out)
  have c0_85:=HG85.out.c0
  clear b85
  obtain ⟨gq85,cq85,hv85⟩:=nr85.form pn85
  subst hv85
  have HNn92_85:=hide nr85
  clear nr85
  go_wp2
  go_ret
  exact ⟨_,_,rfl,HNn92_85.out,pn85,by omega,HG85.out.mono (by omega),HT85.out⟩
 by_cases hy2:z76=2
 ·subst hy2
  go_wp2_with fail
  refine (fresh_any gb rb vb n _ _ _ HG76.out (by omega)).mono ?_
  rintro e86 w86 ⟨t86,rfl,hg86,ht86⟩
  have HR86:=hide ht86
  have HG86:=hide hg86
  have HT86:=hide (HT76.out.trans HR86.out)
  have c0_86:=HG86.out.c0
  clear hg86 ht86
  go_wp2_with fail
  have HNn100_87:=hide (nr_new w86 ⟨19,0,0,t86,0⟩)
  have pn87:0 < 1:=by decide
  have mn87:([⟨19,0,0,t86,0⟩]:List Tr.Nd).length≤1:=Nat.le_refl 1
  refine (HI.out _ _ _ _ _ _ (HG86.out.below (bA _)) (by omega) (by omega)).mono ?_
  rintro e88 w88 ⟨v88,l88,rfl,nr88,pn88,mn88,hg88,ht88⟩
  have HR88:=hide (TyM.trans (TyM.of (M:=Mine) (bA _)) ht88)
  have HG88:=hide hg88
  have HT88:=hide (HT86.out.trans HR88.out)
  have HNn100_88:=hide (HNn100_87.out.ty ht88)
  have c0_88:=HG88.out.c0
  clear hg88 ht88
  obtain ⟨gq88,cq88,hv88⟩:=nr88.form pn88
  subst hv88
  have HNn106_88:=hide nr88
  clear nr88
  go_wp2_with fail
  have HO:=hide (over_mk ⟨15,0,0,⟨#[]⟩,0⟩ [_,_] _ _ (1 * kd+1) (pr2 HNn100_88.out HNn106_88.out pn87 pn88) (by rw [fl2];omega) (by omega) (by simp))
  unfold ndV at HO
  refine (HO.out).mono ?_
  rintro e89 w89 ⟨v89,l89,rfl,nr89,pn89,mn89,b89⟩
  have HR89:=hide (TyM.trans (TyM.of (M:=Mine) (bA _)) (TyM.of (M:=Mine) b89))
  have HG89:=hide ((HG88.out.below (bA _)).below b89)
  have HT89:=hide (HT88.out.trans HR89.out)
  have c0_89:=HG89.out.c0
  clear b89
  obtain ⟨gq89,cq89,hv89⟩:=nr89.form pn89
  subst hv89
  have HNn108_89:=hide nr89
  clear nr89
  go_wp2_with fail
  refine (HE.out _ _ _ _ HG89.out (by omega) (by omega)).mono ?_
  rintro e90 w90 ⟨v90,l90,rfl,nr90,pn90,mn90,hg90,ht90⟩
  have HR90:=hide ht90
  have HG90:=hide hg90
  have HT90:=hide (HT89.out.trans HR90.out)
  have HNn108_90:=hide (HNn108_89.out.ty HR90.out)
  have c0_90:=HG90.out.c0
  clear hg90 ht90
  obtain ⟨gq90,cq90,hv90⟩:=nr90.form pn90
  subst hv90
  have HNn114_90:=hide nr90
  clear nr90
  go_wp2_with fail
  have HO:=hide (over_mk ⟨12,0,0,⟨#[]⟩,0⟩ [_,_] _ _ (2 * kd+2) (pr2 HNn108_90.out HNn114_90.out pn89 pn90) (by rw [fl2];omega) (by omega) (by simp))
  unfold ndV at HO
  refine (HO.out).mono ?_
  rintro e91 w91 ⟨v91,l91,rfl,nr91,pn91,mn91,b91⟩
  have HR91:=hide (TyM.trans (TyM.of (M:=Mine) (bA _)) (TyM.of (M:=Mine) b91))
  have HG91:=hide ((HG90.out.below (bA _)).below b91)
  have HT91:=hide (HT90.out.trans HR91.out)
  have c0_91:=HG91.out.c0
  clear b91
  obtain ⟨gq91,cq91,hv91⟩:=nr91.form pn91
  subst hv91
  have HNn116_91:=hide nr91
  clear nr91
  go_wp2
  go_ret
  exact ⟨_,_,rfl,HNn116_91.out,pn91,by omega,HG91.out.mono (by omega),HT91.out⟩
 by_cases hy3:z76=3
 ·subst hy3
  go_wp2_with fail
  refine (HCA.out _ _ _ _ HG76.out (by omega) (by omega)).mono ?_
  rintro e92 w92 ⟨v92,l92,bb92,rfl,hok92,hno92,hg92,ht92,sp92,si92,sx92,hv92⟩
  subst hv92
  have HOK92:=hide hok92
  clear hok92
  have HNO92:=hide hno92
  clear hno92
  have HR92:=hide ht92
  have HG92:=hide hg92
  have HT92:=hide (HT76.out.trans HR92.out)
  have c0_92:=HG92.out.c0
  clear hg92 ht92
  cases bb92
  ·have HGn:=hide (HNO92.out rfl)
   go_wp2_with fail
   refine (HOF.out _ _ _ _ HGn.out (by omega) (by omega)).mono ?_
   rintro e93 w93 ⟨v93,l93,rfl,nr93,pn93,mn93,hg93,ht93⟩
   have HR93:=hide ht93
   have HG93:=hide hg93
   have HT93:=hide (HT92.out.trans HR93.out)
   have c0_93:=HG93.out.c0
   clear hg93 ht93
   obtain ⟨gq93,cq93,hv93⟩:=nr93.form pn93
   subst hv93
   have HNr_93:=hide nr93
   clear nr93
   go_wp2
   go_ret
   exact ⟨_,_,rfl,HNr_93.out,pn93,by omega,HG93.out.mono (by omega),HT93.out⟩
  ·obtain ⟨nr0,p0,m0⟩:=HOK92.out rfl
   have HN0:=hide nr0
   clear nr0 HOK92
   go_wp2
   go_ret
   exact ⟨_,_,rfl,HN0.out,p0,by omega,HG92.out.mono (by omega),HT92.out⟩
 by_cases hy4:z76=4
 ·subst hy4
  go_wp2_with fail
  refine (HCA.out _ _ _ _ HG76.out (by omega) (by omega)).mono ?_
  rintro e94 w94 ⟨v94,l94,bb94,rfl,hok94,hno94,hg94,ht94,sp94,si94,sx94,hv94⟩
  subst hv94
  have HOK94:=hide hok94
  clear hok94
  have HNO94:=hide hno94
  clear hno94
  have HR94:=hide ht94
  have HG94:=hide hg94
  have HT94:=hide (HT76.out.trans HR94.out)
  have c0_94:=HG94.out.c0
  clear hg94 ht94
  cases bb94
  ·have HGn:=hide (HNO94.out rfl)
   go_wp2_with fail
   refine (HOF.out _ _ _ _ HGn.out (by omega) (by omega)).mono ?_
   rintro e95 w95 ⟨v95,l95,rfl,nr95,pn95,mn95,hg95,ht95⟩
   have HR95:=hide ht95
   have HG95:=hide hg95
   have HT95:=hide (HT94.out.trans HR95.out)
   have c0_95:=HG95.out.c0
   clear hg95 ht95
   obtain ⟨gq95,cq95,hv95⟩:=nr95.form pn95
   subst hv95
   have HNr_95:=hide nr95
   clear nr95
   go_wp2
   go_ret
   exact ⟨_,_,rfl,HNr_95.out,pn95,by omega,HG95.out.mono (by omega),HT95.out⟩
  ·obtain ⟨nr0,p0,m0⟩:=HOK94.out rfl
   have HN0:=hide nr0
   clear nr0 HOK94
   go_wp2
   go_ret
   exact ⟨_,_,rfl,HN0.out,p0,by omega,HG94.out.mono (by omega),HT94.out⟩
 have hx0:((z76:Int) == 0)=false:=by simp;omega
 have hx1:((z76:Int) == 1)=false:=by simp;omega
 have hx2:((z76:Int) == 2)=false:=by simp;omega
 have hx3:((z76:Int) == 3)=false:=by simp;omega
 have hx4:((z76:Int) == 4)=false:=by simp;omega
 go_wp2_with fail
 refine (HOF.out _ _ _ _ HG76.out (by omega) (by omega)).mono ?_
 rintro e96 w96 ⟨v96,l96,rfl,nr96,pn96,mn96,hg96,ht96⟩
 have HR96:=hide ht96
 have HG96:=hide hg96
 have HT96:=hide (HT76.out.trans HR96.out)
 have c0_96:=HG96.out.c0
 clear hg96 ht96
 obtain ⟨gq96,cq96,hv96⟩:=nr96.form pn96
 subst hv96
 have HNr_96:=hide nr96
 clear nr96
 go_wp2
 go_ret
 exact ⟨_,_,rfl,HNr_96.out,pn96,by omega,HG96.out.mono (by omega),HT96.out⟩
theorem e_all [Inhabited Bs] (gb rb:Nat) (vb:Value) (n:Nat) (HRE:∀ d kd,EAt gb rb vb n d kd→kd≤1000000→RecAt gb rb vb n d kd):EAt gb rb vb n 1 260∧EAt gb rb vb n 3 6860∧EAt gb rb vb n 4 34360:=by
 have st:∀ d kd,EAt gb rb vb n d kd→kd≤1000000→EAt gb rb vb n (d+1) (5 * kd+60):=fun d kd h hk=>e_step gb rb vb n d kd h (of_at gb rb vb n d kd h (HRE d kd h hk) hk) (call_any gb rb vb n d kd h hk) hk
 have h0:=e_zero gb rb vb n
 have h1:=st 0 40 h0 (by decide)
 have h2:=st 1 260 h1 (by decide)
 have h3:=st 2 1360 h2 (by decide)
 exact ⟨h1,h3,st 3 6860 h3 (by decide)⟩
theorem gn_new [Inhabited Bs] {rb n p:Nat} {vb:Value} {w:World} (h:Rd w rb vb n p) (z:Int) (hz:0≤z) (hz2:z≤1000):Gn w.heap.size rb vb n p 0 (w.alloc (.cells #[.pointer (some ⟨rb,0,none⟩),.slice none 0 0,.slice none 0 0,.int .i64 0,.int .i64 z] 103)) :=
 ⟨⟨p,Nat.le_refl _,h.keep (bA _)⟩,h.lt,tyAt_new _ _ _,by simp,⟨_,[],by simp,World.ownsRow_nil _ _ _ _,fun _ hi=>absurd hi (Nat.not_lt_zero _)⟩,⟨_,0,[],by simp,World.ownsRow_nil _ _ _ _,Nat.zero_le _,fun _ hi=>absurd hi (Nat.not_lt_zero _)⟩,⟨0,Nat.zero_le _,by simp⟩,⟨z,by omega,hz2,by simp⟩,fun j=>by simp,Nat.zero_le _⟩
set_option maxRecDepth 100000 in
set_option maxHeartbeats 4000000 in
theorem program_any [Inhabited Bs] (rb:Nat) (vb:Value) (n:Nat) (HRE:∀ gb d kd,EAt gb rb vb n d kd→kd≤1000000→RecAt gb rb vb n d kd) (HDF:∀ gb,EAt gb rb vb n 1 260→EAt gb rb vb n 3 6860→DefAt gb rb vb n) (q:Nat) (w:World) (h:Rq rb vb n q w) (hq:q≤90000000):Calls Tryz.prog 41 #[.pointer (some ⟨rb,0,none⟩)] w fun e w'=>RTk rb vb n q 250010 w e w':=by
 have hrw:=h.lt
 have b0:Below w.heap.size w (w.alloc (.cells #[.slice none 0 0] 50)):=bA _
 have HR0:=hide (h.below b0)
 have HT0:Hid (Ty w (w.alloc (.cells #[.slice none 0 0] 50))):=hide (.of b0)
 have HX0:Hid ((w.alloc (.cells #[.slice none 0 0] 50)).heap[w.heap.size]?=some (.cells #[.slice none 0 0] 50)):=hide (heap_alloc_new' w _)
 have HRE:=hide HRE
 have HDF:=hide HDF
 clear b0 h
 go_enter Tryz.func41,Tryz.ntmps41
 go_wp2_with fail
 refine (Rq.pick HR0.out (by omega) 80 (by omega) (by omega)).mono ?_
 rintro e w1 ⟨z1,hz1,rfl,hr1,ht1⟩
 obtain ⟨p1,hp1,hd1⟩:=hr1
 have hg1:=gn_new hd1 (20+(z1:Int)) (by omega) (by omega)
 have hl1:=hd1.lt
 have b1:Below w1.heap.size w1 (w1.alloc (.cells #[.pointer (some ⟨rb,0,none⟩),.slice none 0 0,.slice none 0 0,.int .i64 0,.int .i64 (20+(z1:Int))] 103)):=bA _
 have b2:Below (w1.alloc (.cells #[.pointer (some ⟨rb,0,none⟩),.slice none 0 0,.slice none 0 0,.int .i64 0,.int .i64 (20+(z1:Int))] 103)).heap.size (w1.alloc (.cells #[.pointer (some ⟨rb,0,none⟩),.slice none 0 0,.slice none 0 0,.int .i64 0,.int .i64 (20+(z1:Int))] 103)) ((w1.alloc (.cells #[.pointer (some ⟨rb,0,none⟩),.slice none 0 0,.slice none 0 0,.int .i64 0,.int .i64 (20+(z1:Int))] 103)).alloc (.cells #[] 48)):=bA _
 have hf1:Fm w1.heap.size 0 (w1.alloc (.cells #[.pointer (some ⟨rb,0,none⟩),.slice none 0 0,.slice none 0 0,.int .i64 0,.int .i64 (20+(z1:Int))] 103)):=⟨none,0,0,Nat.le_refl _,by simp⟩
 have HG2:=hide (hg1.below b2)
 have HF2:=hide (hf1.ty hg1.ty hg1.lt (.of b2))
 have HT2:=hide (((HT0.out.trans ht1).trans (.of b1)).trans (.of b2))
 have HX2:=hide (TyM.same (TyM.same (Ty.same ht1 HX0.out mine_tree) b1) b2)
 clear hg1 b1 b2 hf1 ht1 hd1
 go_wp2_with fail
 refine (Gn.pick HG2.out (by omega) 5 (by omega) (by omega)).mono ?_
 rintro e w3 ⟨z3,hz3,rfl,hg3,ht3⟩
 have HF3:=hide (HF2.out.ty HG2.out.ty HG2.out.lt ht3)
 have HG3:=hide hg3
 have HT3:=hide (HT2.out.trans ht3)
 have HX3:=hide (Ty.same ht3 HX2.out mine_tree)
 clear hg3 ht3
 obtain ⟨x1,x3,x4⟩:=e_all w1.heap.size rb vb n (HRE.out w1.heap.size)
 have HFL:=hide (file_any w1.heap.size rb vb n x3 x4 (HDF.out _ x1 x3) p1.succ (w1.heap.size+1) (1+z3) w3 HG3.out HF3.out (by omega) (by omega))
 rw [show ((1+z3:Nat):Int)=1+(z3:Int) from by omega] at HFL
 clear x1 x3 x4
 go_wp2_with fail
 refine HFL.out.mono ?_
 rintro e w4 ⟨v4,l4,k4,rfl,nr4,pn4,mn4,hg4,ht4⟩
 obtain ⟨g4,c4,hv4⟩:=nr4.form pn4
 subst hv4
 obtain ⟨p4,hp4,hr4⟩:=hg4.R
 have hX4:=Tf.same ht4 HX3.out mineF_tree
 have t0:=(box_cell hX4).1
 have ft:=(box_cell hX4).2
 have hty:tyAt w4 w.heap.size≠some 82:=by unfold tyAt;rw [hX4];decide
 have HN4:Hid (NR (w4.setCell ⟨w.heap.size,0,none⟩ (.slice (some ⟨g4,0,none⟩) l4.length c4)) (.slice (some ⟨g4,0,none⟩) l4.length c4) l4):=hide ⟨row_setC nr4.1 hty,nr4.2⟩
 have HR4:=hide (Rq.set (o:=0) (v:= .slice (some ⟨g4,0,none⟩) l4.length c4) (show Rq rb vb n (q+250010) w4 from ⟨p4,by omega,hr4⟩) hrw)
 have HT4:=hide (set_aboveM (o:=0) (v:= .slice (some ⟨g4,0,none⟩) l4.length c4) ((Ty.tf HT3.out).trans ht4) (Nat.le_refl _))
 clear nr4 hX4 hg4 ht4 hr4
 go_wp2
 exact bodyPost_ret (v:= .agg #[.slice (some ⟨g4,0,none⟩) l4.length c4]) (by simp [results,Tryz.results41,go_sem,t0]) rfl ⟨_,_,rfl,HN4.out,by omega,HR4.out,HT4.out⟩
end Go.Proofs.YtbckhbeebngjfaaGreatDoor
