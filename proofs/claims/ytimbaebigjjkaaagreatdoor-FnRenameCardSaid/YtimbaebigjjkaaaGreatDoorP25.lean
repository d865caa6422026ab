/- Cl, Cn. -/
import Derived.Test.YtimbaebigjjkaaaGreatDoorP23
import Derived.Test.YtimbaebigjjkaaaGreatDoorP24
import Derived.Test.YtimbaebigjjkaaaGreatDoorP20
namespace Go.Proofs.YtimbaebigjjkaaaGreatDoor
open Go.RowKit
variable (gb rb:Nat) (vb:Value) (n:Nat)
set_option maxRecDepth 100000 in
set_option maxHeartbeats 16000000 in
theorem of_rec [LB] (d kd:Nat) (HE:EAt gb rb vb n d kd) (HEA:JC gb rb vb n d kd) (HRE:Jr gb rb vb n d kd) (q k:Nat) (kind:Int) (w:World) (h:Gn gb rb vb n q k w) (hq:q+5 * kd+40≤700000000) (hk:k+1+d≤900) (hkd:kd≤1000000) (hkind:kind=4):Calls Tryz.prog 107 #[.pointer (some ⟨gb,0,none⟩),.int .i64 kind,.int .i64 ((d:Int)+1)] w fun e w'=>GMk gb rb vb n q (4 * kd+30) k w e w':=by
 have hwd:IntKind.i64.wrap (d:Int)=(d:Int):=by rw [IntKind.wrap_i64];omega
 have HG0:=X1 h
 have HT0:Hid (Ty w w):=X1 (.refl w)
 have c0:=h.c0
 have HEA:=X1 HEA
 have HRE:=X1 HRE
 have HE:=X1 HE
 clear h
 subst hkind
 go_enter Tryz.func107,Tryz.ntmps107
 go_wp2_with fail
 refine (Gn.pick HG0.o (by omega) 6 (by omega) (by omega)).mono ?_
 rintro e31 w31 ⟨y,hz31,rfl,e0,e8⟩
 have h0:=X1 e8
 have a:=X1 e0
 have b:=X1 (HT0.o.trans h0.o)
 have c0_31:=a.o.c0
 clear e0 e8
 by_cases hz_0:y=0
 ·subst hz_0
  go_wp2_with fail
  refine (HE.o _ _ _ _ a.o (by omega) (by omega)).mono ?_
  rintro e32 w32 ⟨v32,l32,rfl,c,f6,mn32,e1,e9⟩
  have h1:=X1 e9
  have b9:=X1 e1
  have i1:=X1 (b.o.trans h1.o)
  have c0_32:=b9.o.c0
  clear e1 e9
  obtain ⟨gq32,cq32,j6⟩:=c.form f6
  subst j6
  have a0:=X1 c
  clear c
  go_wp2_with fail
  refine (HE.o _ _ _ _ b9.o (by omega) (by omega)).mono ?_
  rintro e33 w33 ⟨v33,l33,rfl,f,f7,mn33,e2,f0⟩
  have d5:=X1 f0
  have c1:=X1 e2
  have i2:=X1 (i1.o.trans d5.o)
  have a1:=X1 (a0.o.ty d5.o)
  have c0_33:=c1.o.c0
  clear e2 f0
  obtain ⟨gq33,cq33,j7⟩:=f.form f7
  subst j7
  have a2:=X1 f
  clear f
  go_wp2_with fail
  have HO:=X1 (fun op=>KC op _ _ _ _ (2 * kd+0) _ a1.o a2.o f6 f7 (by omega) (by omega))
  refine (HO.o _).mono ?_
  rintro e34 w34 ⟨v34,l34,rfl,g,f8,mn34,z⟩
  have h2:=X1 (TyM.of (M:=Mine) z)
  have c2:=X1 (c1.o.below z)
  have i3:=X1 (i2.o.trans h2.o)
  have c0_34:=c2.o.c0
  clear z
  obtain ⟨gq34,cq34,j8⟩:=g.form f8
  subst j8
  have a3:=X1 g
  clear g
  go_wp2
  go_ret
  exact ⟨_,_,rfl,a3.o,f8,by omega,c2.o.mono (by omega),i3.o⟩
 by_cases hz_1:y=1
 ·subst hz_1
  go_wp2_with fail
  refine (HE.o _ _ _ _ a.o (by omega) (by omega)).mono ?_
  rintro e35 w35 ⟨v35,l35,rfl,i,f9,mn35,e3,f1⟩
  have h3:=X1 f1
  have c3:=X1 e3
  have i4:=X1 (b.o.trans h3.o)
  have c0_35:=c3.o.c0
  clear e3 f1
  obtain ⟨gq35,cq35,j9⟩:=i.form f9
  subst j9
  have a4:=X1 i
  clear i
  go_wp2_with fail
  refine (ZJ _ _).mono ?_
  rintro e36 w36 ⟨v36,l36,rfl,j,g0,mn36,A⟩
  have d6:=X1 (TyM.of (M:=Mine) A)
  have c4:=X1 (c3.o.below A)
  have i5:=X1 (i4.o.trans d6.o)
  have a5:=X1 (a4.o.ty d6.o)
  have c0_36:=c4.o.c0
  clear A
  obtain ⟨gq36,cq36,k0⟩:=j.form g0
  subst k0
  have a6:=X1 j
  clear j
  go_wp2_with fail
  have HO:=X1 (YM ⟨#[119,105,116,104,111,117,116]⟩ [_,_] _ _ (1 * kd+1) (pr2 a5.o a6.o f9 g0) (by rw [fl2];omega) (by omega) (by simp) (by simp))
  refine (HO.o).mono ?_
  rintro e37 w37 ⟨v37,l37,rfl,l,g1,mn37,B⟩
  have h4:=X1 (TyM.trans (TyM.of (M:=Mine) (bA _)) (TyM.of (M:=Mine) B))
  have c5:=X1 ((c4.o.below (bA _)).below B)
  have i6:=X1 (i5.o.trans h4.o)
  have c0_37:=c5.o.c0
  clear B
  obtain ⟨gq37,cq37,k1⟩:=l.form g1
  subst k1
  have a7:=X1 l
  clear l
  go_wp2
  go_ret
  exact ⟨_,_,rfl,a7.o,g1,by omega,c5.o.mono (by omega),i6.o⟩
 by_cases hz_2:y=2
 ·subst hz_2
  go_wp2_with fail
  refine (KO gb rb vb n _ _ _ a.o (by omega)).mono ?_
  rintro e38 w38 ⟨t38,rfl,e4,f2⟩
  have h5:=X1 f2
  have c6:=X1 e4
  have i7:=X1 (b.o.trans h5.o)
  have c0_38:=c6.o.c0
  clear e4 f2
  go_wp2_with fail
  refine (Jb _ _).mono ?_
  rintro e39 w39 ⟨v39,l39,rfl,m,g2,mn39,C⟩
  have h6:=X1 (TyM.of (M:=Mine) C)
  have c7:=X1 (c6.o.below C)
  have i8:=X1 (i7.o.trans h6.o)
  have c0_39:=c7.o.c0
  clear C
  obtain ⟨gq39,cq39,k2⟩:=m.form g2
  subst k2
  have a8:=X1 m
  clear m
  go_wp2_with fail
  refine (HE.o _ _ _ _ c7.o (by omega) (by omega)).mono ?_
  rintro e40 w40 ⟨v40,l40,rfl,p,g3,mn40,e5,f3⟩
  have d7:=X1 f3
  have c8:=X1 e5
  have i9:=X1 (i8.o.trans d7.o)
  have a9:=X1 (a8.o.ty d7.o)
  have c0_40:=c8.o.c0
  clear e5 f3
  obtain ⟨gq40,cq40,k3⟩:=p.form g3
  subst k3
  have b0:=X1 p
  clear p
  go_wp2_with fail
  have HO:=X1 (XF ⟨8,0,0,⟨#[]⟩,0⟩ [_,_] _ _ (1 * kd+1) (pr2 a9.o b0.o g2 g3) (by rw [fl2];omega) (by omega) (by simp))
  unfold ndV at HO
  refine (HO.o).mono ?_
  rintro e41 w41 ⟨v41,l41,rfl,r,g4,mn41,D⟩
  have h7:=X1 (TyM.trans (TyM.of (M:=Mine) (bA _)) (TyM.of (M:=Mine) D))
  have c9:=X1 ((c8.o.below (bA _)).below D)
  have j0:=X1 (i9.o.trans h7.o)
  have c0_41:=c9.o.c0
  clear D
  obtain ⟨gq41,cq41,k4⟩:=r.form g4
  subst k4
  have b1:=X1 r
  clear r
  go_wp2_with fail
  refine (HE.o _ _ _ _ c9.o (by omega) (by omega)).mono ?_
  rintro e42 w42 ⟨v42,l42,rfl,s,g5,mn42,e6,f4⟩
  have d8:=X1 f4
  have d0:=X1 e6
  have j1:=X1 (j0.o.trans d8.o)
  have b2:=X1 (b1.o.ty d8.o)
  have c0_42:=d0.o.c0
  clear e6 f4
  obtain ⟨gq42,cq42,k5⟩:=s.form g5
  subst k5
  have b4:=X1 s
  clear s
  go_wp2_with fail
  have HO:=X1 (YM ⟨#[117,110,105,113,117,101]⟩ [_] _ _ (1 * kd+0) (pr1 b4.o g5) (by rw [fl1];omega) (by omega) (by simp) (by simp))
  refine (HO.o).mono ?_
  rintro e43 w43 ⟨v43,l43,rfl,t,g6,mn43,E⟩
  have d9:=X1 (TyM.trans (TyM.of (M:=Mine) (bA _)) (TyM.of (M:=Mine) E))
  have d1:=X1 ((d0.o.below (bA _)).below E)
  have j2:=X1 (j1.o.trans d9.o)
  have b3:=X1 (b2.o.ty d9.o)
  have c0_43:=d1.o.c0
  clear E
  obtain ⟨gq43,cq43,k6⟩:=t.form g6
  subst k6
  have b5:=X1 t
  clear t
  go_wp2_with fail
  have HO:=X1 (XF ⟨16,0,0,t38,0⟩ [_,_] _ _ (2 * kd+4) (pr2 b5.o b3.o g6 g4) (by rw [fl2];omega) (by omega) (by simp))
  unfold ndV at HO
  refine (HO.o).mono ?_
  rintro e44 w44 ⟨v44,l44,rfl,u,g7,mn44,F⟩
  have h8:=X1 (TyM.trans (TyM.of (M:=Mine) (bA _)) (TyM.of (M:=Mine) F))
  have d2:=X1 ((d1.o.below (bA _)).below F)
  have j3:=X1 (j2.o.trans h8.o)
  have c0_44:=d2.o.c0
  clear F
  obtain ⟨gq44,cq44,k7⟩:=u.form g7
  subst k7
  have b6:=X1 u
  clear u
  go_wp2_with fail
  have HO:=X1 (YM ⟨#[114,101,99,111,114,100]⟩ [_] _ _ (2 * kd+5) (pr1 b6.o g7) (by rw [fl1];omega) (by omega) (by simp) (by simp))
  refine (HO.o).mono ?_
  rintro e45 w45 ⟨v45,l45,rfl,v,g8,mn45,H⟩
  have h9:=X1 (TyM.trans (TyM.of (M:=Mine) (bA _)) (TyM.of (M:=Mine) H))
  have d3:=X1 ((d2.o.below (bA _)).below H)
  have j4:=X1 (j3.o.trans h9.o)
  have c0_45:=d3.o.c0
  clear H
  obtain ⟨gq45,cq45,k8⟩:=v.form g8
  subst k8
  have b7:=X1 v
  clear v
  go_wp2
  go_ret
  exact ⟨_,_,rfl,b7.o,g8,by omega,d3.o.mono (by omega),j4.o⟩
 have hb_0:((y:Int) == 0)=false:=by simp;omega
 have hb_1:((y:Int) == 1)=false:=by simp;omega
 have hb_2:((y:Int) == 2)=false:=by simp;omega
 go_wp2_with fail
 refine (HRE.o _ _ _ a.o (by omega) (by omega)).mono ?_
 rintro e46 w46 ⟨v46,l46,rfl,x,g9,mn46,e7,f5⟩
 have i0:=X1 f5
 have d4:=X1 e7
 have j5:=X1 (b.o.trans i0.o)
 have c0_46:=d4.o.c0
 clear e7 f5
 obtain ⟨gq46,cq46,k9⟩:=x.form g9
 subst k9
 have b8:=X1 x
 clear x
 go_wp2
 go_ret
 exact ⟨_,_,rfl,b8.o,g9,by omega,d4.o.mono (by omega),j5.o⟩
variable (gb rb:Nat) (vb:Value) (n:Nat)
def OfAt [LB] (d kd:Nat):Prop:=∀ (q k:Nat) (kind:Int) (w:World),Gn gb rb vb n q k w→q+5 * kd+40≤700000000→k+1+d≤900→Calls Tryz.prog 107 #[.pointer (some ⟨gb,0,none⟩),.int .i64 kind,.int .i64 ((d:Int)+1)] w fun e w'=>GMk gb rb vb n q (4 * kd+30) k w e w'
theorem of_at [LB] (d kd:Nat) (HE:EAt gb rb vb n d kd) (HRE:Jr gb rb vb n d kd) (hkd:kd≤1000000):OfAt gb rb vb n d kd:=fun q k kind w h hq hk=>by
 have HEA:JC gb rb vb n d kd:=fun q k kind w h hq hk=>each_any gb rb vb n d kd HE q k kind w h hq hk hkd
 by_cases h0:kind=0
 ·exact of_int gb rb vb n d kd HE HEA HRE q k kind w h hq hk hkd h0
 by_cases h1:kind=1
 ·exact of_text gb rb vb n d kd HE HEA HRE q k kind w h hq hk hkd h1
 by_cases h2:kind=2
 ·exact of_bool gb rb vb n d kd HE HEA HRE q k kind w h hq hk hkd h2
 by_cases h3:kind=3
 ·exact of_list gb rb vb n d kd HE HEA HRE q k kind w h hq hk hkd h3
 by_cases h4:kind=4
 ·exact of_rec gb rb vb n d kd HE HEA HRE q k kind w h hq hk hkd h4
 exact of_any gb rb vb n d kd HE HEA HRE q k kind w h hq hk hkd h0 h1 h2 h3 h4
set_option maxRecDepth 100000 in
set_option maxHeartbeats 4000000 in
theorem e_zero [LB]:EAt gb rb vb n 0 40:=fun q k kind w h hq hk=>by
 obtain ⟨c,hc1,hc2,c4⟩:=h.sz
 have f4:=h.fr 4
 have HG0:=X1 (h.down (c:=c - 1) (by omega) (by omega))
 have HT0:Hid (Ty w (w.setCell ⟨gb,4,none⟩ (.int .i64 (c - 1)))):=X1 (.set h.mine (by decide))
 have c0:=HG0.o.c0
 clear h
 go_enter Tryz.func94,Tryz.ntmps94
 go_wp2_with fail
 refine (Gn.pick HG0.o (by omega) 40 (by omega) (by omega)).mono ?_
 rintro e41 w41 ⟨z41,hz41,rfl,hg41,ht41⟩
 have HR41:=X1 ht41
 have HG41:=X1 hg41
 have HT41:=X1 (HT0.o.trans HR41.o)
 have c0_41:=HG41.o.c0
 clear hg41 ht41
 by_cases hz0:z41=0
 ·subst hz0
  go_wp2_with fail
  refine (Gn.pick HG41.o (by omega) 6 (by omega) (by omega)).mono ?_
  rintro e42 w42 ⟨z42,hz42,rfl,hg42,ht42⟩
  have HR42:=X1 ht42
  have HG42:=X1 hg42
  have HT42:=X1 (HT41.o.trans HR42.o)
  have c0_42:=HG42.o.c0
  clear hg42 ht42
  go_wp2_with fail
  refine (Qo gb rb vb n _ _ _ _ HG42.o (by omega)).mono ?_
  rintro e43 w43 ⟨v43,l43,rfl,nr43,pn43,mn43,hg43,ht43⟩
  have HR43:=X1 ht43
  have HG43:=X1 hg43
  have HT43:=X1 (HT42.o.trans HR43.o)
  have c0_43:=HG43.o.c0
  clear hg43 ht43
  obtain ⟨gq43,cq43,hv43⟩:=nr43.form pn43
  subst hv43
  have HNr_43:=X1 nr43
  clear nr43
  go_wp2
  go_ret
  exact ⟨_,_,rfl,HNr_43.o,pn43,by omega,HG43.o.mono (by omega),HT43.o⟩
 have hz1:((z41:Int) == 0)=false:=by simp;omega
 go_wp2_with fail
 refine (Qo gb rb vb n _ _ _ _ HG41.o (by omega)).mono ?_
 rintro e44 w44 ⟨v44,l44,rfl,nr44,pn44,mn44,hg44,ht44⟩
 have HR44:=X1 ht44
 have HG44:=X1 hg44
 have HT44:=X1 (HT41.o.trans HR44.o)
 have c0_44:=HG44.o.c0
 clear hg44 ht44
 obtain ⟨gq44,cq44,hv44⟩:=nr44.form pn44
 subst hv44
 have HNr_44:=X1 nr44
 clear nr44
 go_wp2
 go_ret
 exact ⟨_,_,rfl,HNr_44.o,pn44,by omega,HG44.o.mono (by omega),HT44.o⟩
set_option maxRecDepth 100000 in
set_option maxHeartbeats 16000000 in
theorem e_step [LB] (d kd:Nat) (HE:EAt gb rb vb n d kd) (HOF:OfAt gb rb vb n d kd) (HCA:CallAt gb rb vb n d kd) (hkd:kd≤1000000):EAt gb rb vb n (d+1) (5 * kd+60):=fun q k kind w h hq hk=>by
 rw [show ((d+1:Nat):Int)=(d:Int)+1 from by omega]
 have hwd:IntKind.i64.wrap (d:Int)=(d:Int):=by rw [IntKind.wrap_i64];omega
 have hd0:¬ ((d:Int)+1≤0):=by omega
 have HI:=X1 (insideG_any gb rb vb n d kd HE)
 have HE:=X1 HE
 have HOF:=X1 HOF
 have HCA:=X1 HCA
 obtain ⟨c,hc1,hc2,c4⟩:=h.sz
 have f4:=h.fr 4
 have HG0:=X1 (h.down (c:=c - 1) (by omega) (by omega))
 have HT0:Hid (Ty w (w.setCell ⟨gb,4,none⟩ (.int .i64 (c - 1)))):=X1 (.set h.mine (by decide))
 have c0:=HG0.o.c0
 clear h
 go_enter Tryz.func94,Tryz.ntmps94
 go_wp2_with fail
 refine (Gn.pick HG0.o (by omega) 40 (by omega) (by omega)).mono ?_
 rintro e45 w45 ⟨z45,hz45,rfl,hg45,ht45⟩
 have HR45:=X1 ht45
 have HG45:=X1 hg45
 have HT45:=X1 (HT0.o.trans HR45.o)
 have c0_45:=HG45.o.c0
 clear hg45 ht45
 by_cases hz0:z45=0
 ·subst hz0
  go_wp2_with fail
  refine (Gn.pick HG45.o (by omega) 6 (by omega) (by omega)).mono ?_
  rintro e46 w46 ⟨z46,hz46,rfl,hg46,ht46⟩
  have HR46:=X1 ht46
  have HG46:=X1 hg46
  have HT46:=X1 (HT45.o.trans HR46.o)
  have c0_46:=HG46.o.c0
  clear hg46 ht46
  obtain ⟨sz47,sa47,sb47,sc47⟩:=HG46.o.sz
  by_cases hs47:sz47 < 0
  ·go_wp2_with fail
   refine (Qo gb rb vb n _ _ _ _ HG46.o (by omega)).mono ?_
   rintro e48 w48 ⟨v48,l48,rfl,nr48,pn48,mn48,hg48,ht48⟩
   have HR48:=X1 ht48
   have HG48:=X1 hg48
   have HT48:=X1 (HT46.o.trans HR48.o)
   have c0_48:=HG48.o.c0
   clear hg48 ht48
   obtain ⟨gq48,cq48,hv48⟩:=nr48.form pn48
   subst hv48
   have HNr_48:=X1 nr48
   clear nr48
   go_wp2
   go_ret
   exact ⟨_,_,rfl,HNr_48.o,pn48,by omega,HG48.o.mono (by omega),HT48.o⟩
  go_wp2_with fail
  refine (Gn.pick HG46.o (by omega) 5 (by omega) (by omega)).mono ?_
  rintro e49 w49 ⟨z49,hz49,rfl,hg49,ht49⟩
  have HR49:=X1 ht49
  have HG49:=X1 hg49
  have HT49:=X1 (HT46.o.trans HR49.o)
  have c0_49:=HG49.o.c0
  clear hg49 ht49
  by_cases hp47:z49=0
  ·subst hp47
   go_wp2_with fail
   refine (Qo gb rb vb n _ _ _ _ HG49.o (by omega)).mono ?_
   rintro e50 w50 ⟨v50,l50,rfl,nr50,pn50,mn50,hg50,ht50⟩
   have HR50:=X1 ht50
   have HG50:=X1 hg50
   have HT50:=X1 (HT49.o.trans HR50.o)
   have c0_50:=HG50.o.c0
   clear hg50 ht50
   obtain ⟨gq50,cq50,hv50⟩:=nr50.form pn50
   subst hv50
   have HNr_50:=X1 nr50
   clear nr50
   go_wp2
   go_ret
   exact ⟨_,_,rfl,HNr_50.o,pn50,by omega,HG50.o.mono (by omega),HT50.o⟩
  have hq47:((z49:Int) == 0)=false:=by simp;omega
  go_wp2_with fail
  refine (Gn.pick HG49.o (by omega) 10 (by omega) (by omega)).mono ?_
  rintro e51 w51 ⟨z51,hz51,rfl,hg51,ht51⟩
  have HR51:=X1 ht51
  have HG51:=X1 hg51
  have HT51:=X1 (HT49.o.trans HR51.o)
  have c0_51:=HG51.o.c0
  clear hg51 ht51
  by_cases hy0:z51=0
  ·subst hy0
   go_wp2_with fail
   refine (HE.o _ _ _ _ HG51.o (by omega) (by omega)).mono ?_
   rintro e52 w52 ⟨v52,l52,rfl,nr52,pn52,mn52,hg52,ht52⟩
   have HR52:=X1 ht52
   have HG52:=X1 hg52
   have HT52:=X1 (HT51.o.trans HR52.o)
   have c0_52:=HG52.o.c0
   clear hg52 ht52
   obtain ⟨gq52,cq52,hv52⟩:=nr52.form pn52
   subst hv52
   have HNn57_52:=X1 nr52
   clear nr52
   go_wp2_with fail
   refine (HE.o _ _ _ _ HG52.o (by omega) (by omega)).mono ?_
   rintro e53 w53 ⟨v53,l53,rfl,nr53,pn53,mn53,hg53,ht53⟩
   have HR53:=X1 ht53
   have HG53:=X1 hg53
   have HT53:=X1 (HT52.o.trans HR53.o)
   have HNn57_53:=X1 (HNn57_52.o.ty HR53.o)
   have c0_53:=HG53.o.c0
   clear hg53 ht53
   obtain ⟨gq53,cq53,hv53⟩:=nr53.form pn53
   subst hv53
   have HNn62_53:=X1 nr53
   clear nr53
   go_wp2_with fail
   refine (HE.o _ _ _ _ HG53.o (by omega) (by omega)).mono ?_
   rintro e54 w54 ⟨v54,l54,rfl,nr54,pn54,mn54,hg54,ht54⟩
   have HR54:=X1 ht54
   have HG54:=X1 hg54
   have HT54:=X1 (HT53.o.trans HR54.o)
   have HNn57_54:=X1 (HNn57_53.o.ty HR54.o)
   have HNn62_54:=X1 (HNn62_53.o.ty HR54.o)
   have c0_54:=HG54.o.c0
   clear hg54 ht54
   obtain ⟨gq54,cq54,hv54⟩:=nr54.form pn54
   subst hv54
   have HNn67_54:=X1 nr54
   clear nr54
   go_wp2_with fail
   have HO:=X1 (XF ⟨13,0,0,⟨#[]⟩,0⟩ [_,_,_] _ _ (3 * kd+0) (pr3 HNn57_54.o HNn62_54.o HNn67_54.o pn52 pn53 pn54) (by rw [fl3];omega) (by omega) (by simp))
   unfold ndV at HO
   refine (HO.o).mono ?_
   rintro e55 w55 ⟨v55,l55,rfl,nr55,pn55,mn55,b55⟩
   have HR55:=X1 (TyM.trans (TyM.of (M:=Mine) (bA _)) (TyM.of (M:=Mine) b55))
   have HG55:=X1 ((HG54.o.below (bA _)).below b55)
   have HT55:=X1 (HT54.o.trans HR55.o)
   have c0_55:=HG55.o.c0
   clear b55
   obtain ⟨gq55,cq55,hv55⟩:=nr55.form pn55
   subst hv55
   have HNn69_55:=X1 nr55
   clear nr55
   go_wp2
   go_ret
   exact ⟨_,_,rfl,HNn69_55.o,pn55,by omega,HG55.o.mono (by omega),HT55.o⟩
  by_cases hy1:z51=1
  ·subst hy1
   go_wp2_with fail
   refine (KO gb rb vb n _ _ _ HG51.o (by omega)).mono ?_
   rintro e56 w56 ⟨t56,rfl,hg56,ht56⟩
   have HR56:=X1 ht56
   have HG56:=X1 hg56
   have HT56:=X1 (HT51.o.trans HR56.o)
   have c0_56:=HG56.o.c0
   clear hg56 ht56
   go_wp2_with fail
   refine (Gn.pick HG56.o (by omega) 6 (by omega) (by omega)).mono ?_
   rintro e57 w57 ⟨z57,hz57,rfl,hg57,ht57⟩
   have HR57:=X1 ht57
   have HG57:=X1 hg57
   have HT57:=X1 (HT56.o.trans HR57.o)
   have c0_57:=HG57.o.c0
   clear hg57 ht57
   go_wp2_with fail
   refine (HE.o _ _ _ _ HG57.o (by omega) (by omega)).mono ?_
   rintro e58 w58 ⟨v58,l58,rfl,nr58,pn58,mn58,hg58,ht58⟩
   have HR58:=X1 ht58
   have HG58:=X1 hg58
   have HT58:=X1 (HT57.o.trans HR58.o)
   have c0_58:=HG58.o.c0
   clear hg58 ht58
   obtain ⟨gq58,cq58,hv58⟩:=nr58.form pn58
   subst hv58
   have HNn80_58:=X1 nr58
   clear nr58
   go_wp2_with fail
   refine (HI.o _ _ _ _ _ _ HG58.o (by omega) (by omega)).mono ?_
   rintro e59 w59 ⟨v59,l59,rfl,nr59,pn59,mn59,hg59,ht59⟩
   have HR59:=X1 ht59
   have HG59:=X1 hg59
   have HT59:=X1 (HT58.o.trans HR59.o)
   have HNn80_59:=X1 (HNn80_58.o.ty HR59.o)
   have c0_59:=HG59.o.c0
   clear hg59 ht59
   obtain ⟨gq59,cq59,hv59⟩:=nr59.form pn59
   subst hv59
   have HNn90_59:=X1 nr59
   clear nr59
   go_wp2_with fail
   have HO:=X1 (XF ⟨14,0,0,t56,0⟩ [_,_] _ _ (2 * kd+0) (pr2 HNn80_59.o HNn90_59.o pn58 pn59) (by rw [fl2];omega) (by omega) (by simp))
   unfold ndV at HO
   refine (HO.o).mono ?_
   rintro e60 w60 ⟨v60,l60,rfl,nr60,pn60,mn60,b60⟩
   have HR60:=X1 (TyM.trans (TyM.of (M:=Mine) (bA _)) (TyM.of (M:=Mine) b60))
   have HG60:=X1 ((HG59.o.below (bA _)).below b60)
   have HT60:=X1 (HT59.o.trans HR60.o)
   have c0_60:=HG60.o.c0
   clear b60
   obtain ⟨gq60,cq60,hv60⟩:=nr60.form pn60
   subst hv60
   have HNn92_60:=X1 nr60
   clear nr60
   go_wp2
   go_ret
   exact ⟨_,_,rfl,HNn92_60.o,pn60,by omega,HG60.o.mono (by omega),HT60.o⟩
  by_cases hy2:z51=2
  ·subst hy2
   go_wp2_with fail
   refine (KO gb rb vb n _ _ _ HG51.o (by omega)).mono ?_
   rintro e61 w61 ⟨t61,rfl,hg61,ht61⟩
   have HR61:=X1 ht61
   have HG61:=X1 hg61
   have HT61:=X1 (HT51.o.trans HR61.o)
   have c0_61:=HG61.o.c0
   clear hg61 ht61
   go_wp2_with fail
   have HNn100_62:=X1 (Qg w61 ⟨19,0,0,t61,0⟩)
   have pn62:0 < 1:=by decide
   have mn62:([⟨19,0,0,t61,0⟩]:List Tr.Nd).length≤1:=Nat.le_refl 1
   refine (HI.o _ _ _ _ _ _ (HG61.o.below (bA _)) (by omega) (by omega)).mono ?_
   rintro e63 w63 ⟨v63,l63,rfl,nr63,pn63,mn63,hg63,ht63⟩
   have HR63:=X1 (TyM.trans (TyM.of (M:=Mine) (bA _)) ht63)
   have HG63:=X1 hg63
   have HT63:=X1 (HT61.o.trans HR63.o)
   have HNn100_63:=X1 (HNn100_62.o.ty ht63)
   have c0_63:=HG63.o.c0
   clear hg63 ht63
   obtain ⟨gq63,cq63,hv63⟩:=nr63.form pn63
   subst hv63
   have HNn106_63:=X1 nr63
   clear nr63
   go_wp2_with fail
   have HO:=X1 (XF ⟨15,0,0,⟨#[]⟩,0⟩ [_,_] _ _ (1 * kd+1) (pr2 HNn100_63.o HNn106_63.o pn62 pn63) (by rw [fl2];omega) (by omega) (by simp))
   unfold ndV at HO
   refine (HO.o).mono ?_
   rintro e64 w64 ⟨v64,l64,rfl,nr64,pn64,mn64,b64⟩
   have HR64:=X1 (TyM.trans (TyM.of (M:=Mine) (bA _)) (TyM.of (M:=Mine) b64))
   have HG64:=X1 ((HG63.o.below (bA _)).below b64)
   have HT64:=X1 (HT63.o.trans HR64.o)
   have c0_64:=HG64.o.c0
   clear b64
   obtain ⟨gq64,cq64,hv64⟩:=nr64.form pn64
   subst hv64
   have HNn108_64:=X1 nr64
   clear nr64
   go_wp2_with fail
   refine (HE.o _ _ _ _ HG64.o (by omega) (by omega)).mono ?_
   rintro e65 w65 ⟨v65,l65,rfl,nr65,pn65,mn65,hg65,ht65⟩
   have HR65:=X1 ht65
   have HG65:=X1 hg65
   have HT65:=X1 (HT64.o.trans HR65.o)
   have HNn108_65:=X1 (HNn108_64.o.ty HR65.o)
   have c0_65:=HG65.o.c0
   clear hg65 ht65
   obtain ⟨gq65,cq65,hv65⟩:=nr65.form pn65
   subst hv65
   have HNn114_65:=X1 nr65
   clear nr65
   go_wp2_with fail
   have HO:=X1 (XF ⟨12,0,0,⟨#[]⟩,0⟩ [_,_] _ _ (2 * kd+2) (pr2 HNn108_65.o HNn114_65.o pn64 pn65) (by rw [fl2];omega) (by omega) (by simp))
   unfold ndV at HO
   refine (HO.o).mono ?_
   rintro e66 w66 ⟨v66,l66,rfl,nr66,pn66,mn66,b66⟩
   have HR66:=X1 (TyM.trans (TyM.of (M:=Mine) (bA _)) (TyM.of (M:=Mine) b66))
   have HG66:=X1 ((HG65.o.below (bA _)).below b66)
   have HT66:=X1 (HT65.o.trans HR66.o)
   have c0_66:=HG66.o.c0
   clear b66
   obtain ⟨gq66,cq66,hv66⟩:=nr66.form pn66
   subst hv66
   have HNn116_66:=X1 nr66
   clear nr66
   go_wp2
   go_ret
   exact ⟨_,_,rfl,HNn116_66.o,pn66,by omega,HG66.o.mono (by omega),HT66.o⟩
  by_cases hy3:z51=3
  ·subst hy3
   go_wp2_with fail
   refine (HCA.o _ _ _ _ HG51.o (by omega) (by omega)).mono ?_
   rintro e67 w67 ⟨v67,l67,bb67,rfl,hok67,hno67,hg67,ht67,sp67,si67,sx67,hv67⟩
   subst hv67
   have HOK67:=X1 hok67
   clear hok67
   have HNO67:=X1 hno67
   clear hno67
   have HR67:=X1 ht67
   have HG67:=X1 hg67
   have HT67:=X1 (HT51.o.trans HR67.o)
   have c0_67:=HG67.o.c0
   clear hg67 ht67
   cases bb67
   ·have HGn:=X1 (HNO67.o rfl)
    go_wp2_with fail
    refine (HOF.o _ _ _ _ HGn.o (by omega) (by omega)).mono ?_
    rintro e68 w68 ⟨v68,l68,rfl,nr68,pn68,mn68,hg68,ht68⟩
    have HR68:=X1 ht68
    have HG68:=X1 hg68
    have HT68:=X1 (HT67.o.trans HR68.o)
    have c0_68:=HG68.o.c0
    clear hg68 ht68
    obtain ⟨gq68,cq68,hv68⟩:=nr68.form pn68
    subst hv68
    have HNr_68:=X1 nr68
    clear nr68
    go_wp2
    go_ret
    exact ⟨_,_,rfl,HNr_68.o,pn68,by omega,HG68.o.mono (by omega),HT68.o⟩
   ·obtain ⟨nr0,p0,m0⟩:=HOK67.o rfl
    have HN0:=X1 nr0
    clear nr0 HOK67
    go_wp2
    go_ret
    exact ⟨_,_,rfl,HN0.o,p0,by omega,HG67.o.mono (by omega),HT67.o⟩
  by_cases hy4:z51=4
  ·subst hy4
   go_wp2_with fail
   refine (HCA.o _ _ _ _ HG51.o (by omega) (by omega)).mono ?_
   rintro e69 w69 ⟨v69,l69,bb69,rfl,hok69,hno69,hg69,ht69,sp69,si69,sx69,hv69⟩
   subst hv69
   have HOK69:=X1 hok69
   clear hok69
   have HNO69:=X1 hno69
   clear hno69
   have HR69:=X1 ht69
   have HG69:=X1 hg69
   have HT69:=X1 (HT51.o.trans HR69.o)
   have c0_69:=HG69.o.c0
   clear hg69 ht69
   cases bb69
   ·have HGn:=X1 (HNO69.o rfl)
    go_wp2_with fail
    refine (HOF.o _ _ _ _ HGn.o (by omega) (by omega)).mono ?_
    rintro e70 w70 ⟨v70,l70,rfl,nr70,pn70,mn70,hg70,ht70⟩
    have HR70:=X1 ht70
    have HG70:=X1 hg70
    have HT70:=X1 (HT69.o.trans HR70.o)
    have c0_70:=HG70.o.c0
    clear hg70 ht70
    obtain ⟨gq70,cq70,hv70⟩:=nr70.form pn70
    subst hv70
    have HNr_70:=X1 nr70
    clear nr70
    go_wp2
    go_ret
    exact ⟨_,_,rfl,HNr_70.o,pn70,by omega,HG70.o.mono (by omega),HT70.o⟩
   ·obtain ⟨nr0,p0,m0⟩:=HOK69.o rfl
    have HN0:=X1 nr0
    clear nr0 HOK69
    go_wp2
    go_ret
    exact ⟨_,_,rfl,HN0.o,p0,by omega,HG69.o.mono (by omega),HT69.o⟩
  have hx0:((z51:Int) == 0)=false:=by simp;omega
  have hx1:((z51:Int) == 1)=false:=by simp;omega
  have hx2:((z51:Int) == 2)=false:=by simp;omega
  have hx3:((z51:Int) == 3)=false:=by simp;omega
  have hx4:((z51:Int) == 4)=false:=by simp;omega
  go_wp2_with fail
  refine (HOF.o _ _ _ _ HG51.o (by omega) (by omega)).mono ?_
  rintro e71 w71 ⟨v71,l71,rfl,nr71,pn71,mn71,hg71,ht71⟩
  have HR71:=X1 ht71
  have HG71:=X1 hg71
  have HT71:=X1 (HT51.o.trans HR71.o)
  have c0_71:=HG71.o.c0
  clear hg71 ht71
  obtain ⟨gq71,cq71,hv71⟩:=nr71.form pn71
  subst hv71
  have HNr_71:=X1 nr71
  clear nr71
  go_wp2
  go_ret
  exact ⟨_,_,rfl,HNr_71.o,pn71,by omega,HG71.o.mono (by omega),HT71.o⟩
 have hz1:((z45:Int) == 0)=false:=by simp;omega
 obtain ⟨sz72,sa72,sb72,sc72⟩:=HG45.o.sz
 by_cases hs72:sz72 < 0
 ·go_wp2_with fail
  refine (Qo gb rb vb n _ _ _ _ HG45.o (by omega)).mono ?_
  rintro e73 w73 ⟨v73,l73,rfl,nr73,pn73,mn73,hg73,ht73⟩
  have HR73:=X1 ht73
  have HG73:=X1 hg73
  have HT73:=X1 (HT45.o.trans HR73.o)
  have c0_73:=HG73.o.c0
  clear hg73 ht73
  obtain ⟨gq73,cq73,hv73⟩:=nr73.form pn73
  subst hv73
  have HNr_73:=X1 nr73
  clear nr73
  go_wp2
  go_ret
  exact ⟨_,_,rfl,HNr_73.o,pn73,by omega,HG73.o.mono (by omega),HT73.o⟩
 go_wp2_with fail
 refine (Gn.pick HG45.o (by omega) 5 (by omega) (by omega)).mono ?_
 rintro e74 w74 ⟨z74,hz74,rfl,hg74,ht74⟩
 have HR74:=X1 ht74
 have HG74:=X1 hg74
 have HT74:=X1 (HT45.o.trans HR74.o)
 have c0_74:=HG74.o.c0
 clear hg74 ht74
 by_cases hp72:z74=0
 ·subst hp72
  go_wp2_with fail
  refine (Qo gb rb vb n _ _ _ _ HG74.o (by omega)).mono ?_
  rintro e75 w75 ⟨v75,l75,rfl,nr75,pn75,mn75,hg75,ht75⟩
  have HR75:=X1 ht75
  have HG75:=X1 hg75
  have HT75:=X1 (HT74.o.trans HR75.o)
  have c0_75:=HG75.o.c0
  clear hg75 ht75
  obtain ⟨gq75,cq75,hv75⟩:=nr75.form pn75
  subst hv75
  have HNr_75:=X1 nr75
  clear nr75
  go_wp2
  go_ret
  exact ⟨_,_,rfl,HNr_75.o,pn75,by omega,HG75.o.mono (by omega),HT75.o⟩
 have hq72:((z74:Int) == 0)=false:=by simp;omega
 go_wp2_with fail
 refine (Gn.pick HG74.o (by omega) 10 (by omega) (by omega)).mono ?_
 rintro e76 w76 ⟨z76,hz76,rfl,hg76,ht76⟩
 have HR76:=X1 ht76
 have HG76:=X1 hg76
 have HT76:=X1 (HT74.o.trans HR76.o)
 have c0_76:=HG76.o.c0
 clear hg76 ht76
 by_cases hy0:z76=0
 ·subst hy0
  go_wp2_with fail
  refine (HE.o _ _ _ _ HG76.o (by omega) (by omega)).mono ?_
  rintro e77 w77 ⟨v77,l77,rfl,nr77,pn77,mn77,hg77,ht77⟩
  have HR77:=X1 ht77
  have HG77:=X1 hg77
  have HT77:=X1 (HT76.o.trans HR77.o)
  have c0_77:=HG77.o.c0
  clear hg77 ht77
  obtain ⟨gq77,cq77,hv77⟩:=nr77.form pn77
  subst hv77
  have HNn57_77:=X1 nr77
  clear nr77
  go_wp2_with fail
  refine (HE.o _ _ _ _ HG77.o (by omega) (by omega)).mono ?_
  rintro e78 w78 ⟨v78,l78,rfl,nr78,pn78,mn78,hg78,ht78⟩
  have HR78:=X1 ht78
  have HG78:=X1 hg78
  have HT78:=X1 (HT77.o.trans HR78.o)
  have HNn57_78:=X1 (HNn57_77.o.ty HR78.o)
  have c0_78:=HG78.o.c0
  clear hg78 ht78
  obtain ⟨gq78,cq78,hv78⟩:=nr78.form pn78
  subst hv78
  have HNn62_78:=X1 nr78
  clear nr78
  go_wp2_with fail
  refine (HE.o _ _ _ _ HG78.o (by omega) (by omega)).mono ?_
  rintro e79 w79 ⟨v79,l79,rfl,nr79,pn79,mn79,hg79,ht79⟩
  have HR79:=X1 ht79
  have HG79:=X1 hg79
  have HT79:=X1 (HT78.o.trans HR79.o)
  have HNn57_79:=X1 (HNn57_78.o.ty HR79.o)
  have HNn62_79:=X1 (HNn62_78.o.ty HR79.o)
  have c0_79:=HG79.o.c0
  clear hg79 ht79
  obtain ⟨gq79,cq79,hv79⟩:=nr79.form pn79
  subst hv79
  have HNn67_79:=X1 nr79
  clear nr79
  go_wp2_with fail
  have HO:=X1 (XF ⟨13,0,0,⟨#[]⟩,0⟩ [_,_,_] _ _ (3 * kd+0) (pr3 HNn57_79.o HNn62_79.o HNn67_79.o pn77 pn78 pn79) (by rw [fl3];omega) (by omega) (by simp))
  unfold ndV at HO
  refine (HO.o).mono ?_
  rintro e80 w80 ⟨v80,l80,rfl,nr80,pn80,mn80,b80⟩
  have HR80:=X1 (TyM.trans (TyM.of (M:=Mine) (bA _)) (TyM.of (M:=Mine) b80))
  have HG80:=X1 ((HG79.o.below (bA _)).below b80)
  have HT80:=X1 (HT79.o.trans HR80.o)
  have c0_80:=HG80.o.c0
  clear b80
  obtain ⟨gq80,cq80,hv80⟩:=nr80.form pn80
  subst hv80
  have HNn69_80:=X1 nr80
  clear nr80
  go_wp2
  go_ret
  exact ⟨_,_,rfl,HNn69_80.o,pn80,by omega,HG80.o.mono (by omega),HT80.o⟩
 by_cases hy1:z76=1
 ·subst hy1
  go_wp2_with fail
  refine (KO gb rb vb n _ _ _ HG76.o (by omega)).mono ?_
  rintro e81 w81 ⟨t81,rfl,hg81,ht81⟩
  have HR81:=X1 ht81
  have HG81:=X1 hg81
  have HT81:=X1 (HT76.o.trans HR81.o)
  have c0_81:=HG81.o.c0
  clear hg81 ht81
  go_wp2_with fail
  refine (Gn.pick HG81.o (by omega) 6 (by omega) (by omega)).mono ?_
  rintro e82 w82 ⟨z82,hz82,rfl,hg82,ht82⟩
  have HR82:=X1 ht82
  have HG82:=X1 hg82
  have HT82:=X1 (HT81.o.trans HR82.o)
  have c0_82:=HG82.o.c0
  clear hg82 ht82
  go_wp2_with fail
  refine (HE.o _ _ _ _ HG82.o (by omega) (by omega)).mono ?_
  rintro e83 w83 ⟨v83,l83,rfl,nr83,pn83,mn83,hg83,ht83⟩
  have HR83:=X1 ht83
  have HG83:=X1 hg83
  have HT83:=X1 (HT82.o.trans HR83.o)
  have c0_83:=HG83.o.c0
  clear hg83 ht83
  obtain ⟨gq83,cq83,hv83⟩:=nr83.form pn83
  subst hv83
  have HNn80_83:=X1 nr83
  clear nr83
  go_wp2_with fail
  refine (HI.o _ _ _ _ _ _ HG83.o (by omega) (by omega)).mono ?_
  rintro e84 w84 ⟨v84,l84,rfl,nr84,pn84,mn84,hg84,ht84⟩
  have HR84:=X1 ht84
  have HG84:=X1 hg84
  have HT84:=X1 (HT83.o.trans HR84.o)
  have HNn80_84:=X1 (HNn80_83.o.ty HR84.o)
  have c0_84:=HG84.o.c0
  clear hg84 ht84
  obtain ⟨gq84,cq84,hv84⟩:=nr84.form pn84
  subst hv84
  have HNn90_84:=X1 nr84
  clear nr84
  go_wp2_with fail
  have HO:=X1 (XF ⟨14,0,0,t81,0⟩ [_,_] _ _ (2 * kd+0) (pr2 HNn80_84.o HNn90_84.o pn83 pn84) (by rw [fl2];omega) (by omega) (by simp))
  unfold ndV at HO
  refine (HO.o).mono ?_
  rintro e85 w85 ⟨v85,l85,rfl,nr85,pn85,mn85,b85⟩
  have HR85:=X1 (TyM.trans (TyM.of (M:=Mine) (bA _)) (TyM.of (M:=Mine) b85))
  have HG85:=X1 ((HG84.o.below (bA _)).below b85)
  have HT85:=X1 (HT84.o.trans HR85.o)
  have c0_85:=HG85.o.c0
  clear b85
  obtain ⟨gq85,cq85,hv85⟩:=nr85.form pn85
  subst hv85
  have HNn92_85:=X1 nr85
  clear nr85
  go_wp2
  go_ret
  exact ⟨_,_,rfl,HNn92_85.o,pn85,by omega,HG85.o.mono (by omega),HT85.o⟩
 by_cases hy2:z76=2
 ·subst hy2
  go_wp2_with fail
  refine (KO gb rb vb n _ _ _ HG76.o (by omega)).mono ?_
  rintro e86 w86 ⟨t86,rfl,hg86,ht86⟩
  have HR86:=X1 ht86
  have HG86:=X1 hg86
  have HT86:=X1 (HT76.o.trans HR86.o)
  have c0_86:=HG86.o.c0
  clear hg86 ht86
  go_wp2_with fail
  have HNn100_87:=X1 (Qg w86 ⟨19,0,0,t86,0⟩)
  have pn87:0 < 1:=by decide
  have mn87:([⟨19,0,0,t86,0⟩]:List Tr.Nd).length≤1:=Nat.le_refl 1
  refine (HI.o _ _ _ _ _ _ (HG86.o.below (bA _)) (by omega) (by omega)).mono ?_
  rintro e88 w88 ⟨v88,l88,rfl,nr88,pn88,mn88,hg88,ht88⟩
  have HR88:=X1 (TyM.trans (TyM.of (M:=Mine) (bA _)) ht88)
  have HG88:=X1 hg88
  have HT88:=X1 (HT86.o.trans HR88.o)
  have HNn100_88:=X1 (HNn100_87.o.ty ht88)
  have c0_88:=HG88.o.c0
  clear hg88 ht88
  obtain ⟨gq88,cq88,hv88⟩:=nr88.form pn88
  subst hv88
  have HNn106_88:=X1 nr88
  clear nr88
  go_wp2_with fail
  have HO:=X1 (XF ⟨15,0,0,⟨#[]⟩,0⟩ [_,_] _ _ (1 * kd+1) (pr2 HNn100_88.o HNn106_88.o pn87 pn88) (by rw [fl2];omega) (by omega) (by simp))
  unfold ndV at HO
  refine (HO.o).mono ?_
  rintro e89 w89 ⟨v89,l89,rfl,nr89,pn89,mn89,b89⟩
  have HR89:=X1 (TyM.trans (TyM.of (M:=Mine) (bA _)) (TyM.of (M:=Mine) b89))
  have HG89:=X1 ((HG88.o.below (bA _)).below b89)
  have HT89:=X1 (HT88.o.trans HR89.o)
  have c0_89:=HG89.o.c0
  clear b89
  obtain ⟨gq89,cq89,hv89⟩:=nr89.form pn89
  subst hv89
  have HNn108_89:=X1 nr89
  clear nr89
  go_wp2_with fail
  refine (HE.o _ _ _ _ HG89.o (by omega) (by omega)).mono ?_
  rintro e90 w90 ⟨v90,l90,rfl,nr90,pn90,mn90,hg90,ht90⟩
  have HR90:=X1 ht90
  have HG90:=X1 hg90
  have HT90:=X1 (HT89.o.trans HR90.o)
  have HNn108_90:=X1 (HNn108_89.o.ty HR90.o)
  have c0_90:=HG90.o.c0
  clear hg90 ht90
  obtain ⟨gq90,cq90,hv90⟩:=nr90.form pn90
  subst hv90
  have HNn114_90:=X1 nr90
  clear nr90
  go_wp2_with fail
  have HO:=X1 (XF ⟨12,0,0,⟨#[]⟩,0⟩ [_,_] _ _ (2 * kd+2) (pr2 HNn108_90.o HNn114_90.o pn89 pn90) (by rw [fl2];omega) (by omega) (by simp))
  unfold ndV at HO
  refine (HO.o).mono ?_
  rintro e91 w91 ⟨v91,l91,rfl,nr91,pn91,mn91,b91⟩
  have HR91:=X1 (TyM.trans (TyM.of (M:=Mine) (bA _)) (TyM.of (M:=Mine) b91))
  have HG91:=X1 ((HG90.o.below (bA _)).below b91)
  have HT91:=X1 (HT90.o.trans HR91.o)
  have c0_91:=HG91.o.c0
  clear b91
  obtain ⟨gq91,cq91,hv91⟩:=nr91.form pn91
  subst hv91
  have HNn116_91:=X1 nr91
  clear nr91
  go_wp2
  go_ret
  exact ⟨_,_,rfl,HNn116_91.o,pn91,by omega,HG91.o.mono (by omega),HT91.o⟩
 by_cases hy3:z76=3
 ·subst hy3
  go_wp2_with fail
  refine (HCA.o _ _ _ _ HG76.o (by omega) (by omega)).mono ?_
  rintro e92 w92 ⟨v92,l92,bb92,rfl,hok92,hno92,hg92,ht92,sp92,si92,sx92,hv92⟩
  subst hv92
  have HOK92:=X1 hok92
  clear hok92
  have HNO92:=X1 hno92
  clear hno92
  have HR92:=X1 ht92
  have HG92:=X1 hg92
  have HT92:=X1 (HT76.o.trans HR92.o)
  have c0_92:=HG92.o.c0
  clear hg92 ht92
  cases bb92
  ·have HGn:=X1 (HNO92.o rfl)
   go_wp2_with fail
   refine (HOF.o _ _ _ _ HGn.o (by omega) (by omega)).mono ?_
   rintro e93 w93 ⟨v93,l93,rfl,nr93,pn93,mn93,hg93,ht93⟩
   have HR93:=X1 ht93
   have HG93:=X1 hg93
   have HT93:=X1 (HT92.o.trans HR93.o)
   have c0_93:=HG93.o.c0
   clear hg93 ht93
   obtain ⟨gq93,cq93,hv93⟩:=nr93.form pn93
   subst hv93
   have HNr_93:=X1 nr93
   clear nr93
   go_wp2
   go_ret
   exact ⟨_,_,rfl,HNr_93.o,pn93,by omega,HG93.o.mono (by omega),HT93.o⟩
  ·obtain ⟨nr0,p0,m0⟩:=HOK92.o rfl
   have HN0:=X1 nr0
   clear nr0 HOK92
   go_wp2
   go_ret
   exact ⟨_,_,rfl,HN0.o,p0,by omega,HG92.o.mono (by omega),HT92.o⟩
 by_cases hy4:z76=4
 ·subst hy4
  go_wp2_with fail
  refine (HCA.o _ _ _ _ HG76.o (by omega) (by omega)).mono ?_
  rintro e94 w94 ⟨v94,l94,bb94,rfl,hok94,hno94,hg94,ht94,sp94,si94,sx94,hv94⟩
  subst hv94
  have HOK94:=X1 hok94
  clear hok94
  have HNO94:=X1 hno94
  clear hno94
  have HR94:=X1 ht94
  have HG94:=X1 hg94
  have HT94:=X1 (HT76.o.trans HR94.o)
  have c0_94:=HG94.o.c0
  clear hg94 ht94
  cases bb94
  ·have HGn:=X1 (HNO94.o rfl)
   go_wp2_with fail
   refine (HOF.o _ _ _ _ HGn.o (by omega) (by omega)).mono ?_
   rintro e95 w95 ⟨v95,l95,rfl,nr95,pn95,mn95,hg95,ht95⟩
   have HR95:=X1 ht95
   have HG95:=X1 hg95
   have HT95:=X1 (HT94.o.trans HR95.o)
   have c0_95:=HG95.o.c0
   clear hg95 ht95
   obtain ⟨gq95,cq95,hv95⟩:=nr95.form pn95
   subst hv95
   have HNr_95:=X1 nr95
   clear nr95
   go_wp2
   go_ret
   exact ⟨_,_,rfl,HNr_95.o,pn95,by omega,HG95.o.mono (by omega),HT95.o⟩
  ·obtain ⟨nr0,p0,m0⟩:=HOK94.o rfl
   have HN0:=X1 nr0
   clear nr0 HOK94
   go_wp2
   go_ret
   exact ⟨_,_,rfl,HN0.o,p0,by omega,HG94.o.mono (by omega),HT94.o⟩
 have hx0:((z76:Int) == 0)=false:=by simp;omega
 have hx1:((z76:Int) == 1)=false:=by simp;omega
 have hx2:((z76:Int) == 2)=false:=by simp;omega
 have hx3:((z76:Int) == 3)=false:=by simp;omega
 have hx4:((z76:Int) == 4)=false:=by simp;omega
 go_wp2_with fail
 refine (HOF.o _ _ _ _ HG76.o (by omega) (by omega)).mono ?_
 rintro e96 w96 ⟨v96,l96,rfl,nr96,pn96,mn96,hg96,ht96⟩
 have HR96:=X1 ht96
 have HG96:=X1 hg96
 have HT96:=X1 (HT76.o.trans HR96.o)
 have c0_96:=HG96.o.c0
 clear hg96 ht96
 obtain ⟨gq96,cq96,hv96⟩:=nr96.form pn96
 subst hv96
 have HNr_96:=X1 nr96
 clear nr96
 go_wp2
 go_ret
 exact ⟨_,_,rfl,HNr_96.o,pn96,by omega,HG96.o.mono (by omega),HT96.o⟩
end Go.Proofs.YtimbaebigjjkaaaGreatDoor
