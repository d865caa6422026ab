/- Cp, Cw. -/
import Derived.Test.YthbfdaifgnhkbaaGreatDoorM08
import Derived.Test.YthbfdaifgnhkbaaGreatDoorM13
import Derived.Test.YthbfdaifgnhkbaaGreatDoorM10
import Derived.Test.YthbfdaifgnhkbaaGreatDoorM15
namespace Go.Proofs.YthbfdaifgnhkbaaGreatDoor
open Go.RowKit
variable (gb rb:Nat) (vb:Value) (n:Nat)
theorem XO [Inhabited Bs] {w:World} {B size g c m:Nat} {e:TypeId} {xs:List Value} (h:w.ownsRow B e size (.slice (some ⟨g,0,none⟩) m c) m xs) {j:Nat} {u:Value} (hu:xs[j]?=some u):w.cell? ⟨g,j,none⟩=some u:=by
 have:=h.cells rfl j u hu
 rwa [Xh,Nat.zero_add] at this
set_option maxRecDepth 100000 in
set_option maxHeartbeats 16000000 in
theorem call_any [Inhabited Bs] (d kd:Nat) (HE:EAt gb rb vb n d kd) (hkd:kd≤1000000):CallAt gb rb vb n d kd:=fun q k kind w h hq hk=>by
 obtain ⟨iP,hP,hPz,hPs,hPb⟩:=info_parts Tryz.infoNdsC
 have hwd:IntKind.i64.wrap (d:Int)=(d:Int):=by rw [IntKind.wrap_i64];omega
 have c0:=h.c0
 have hup:=h.up
 have hlt:=h.lt
 obtain ⟨v,m,ys,f1,f2,f3,f4⟩:=h.fn
 obtain ⟨vp,vc,rfl⟩:=Xc f2
 have hgt:=h.ty
 obtain ⟨p0,hp0,hr0⟩:=h.R
 have hrt:=hr0.ty
 have HP:=X1 ((pick_keep gb rb vb n h (by omega) m (by omega)))
 have HF2:=X1 f2
 have HF4:=X1 f4
 have HE:=X1 HE
 clear f2 f4 h hr0
 go_enter Tryz.func97,Tryz.ntmps97
 go_wp2_with fail
 refine HP.out.mono ?_
 rintro e w1 ⟨z,hz,rfl,hg1,ht1,hzk,hb1⟩
 have e2:=hb1 gb hlt (by omega)
 have g1:=(World.cell?_of_block (a:=⟨gb,2,none⟩) e2).trans f1
 have HR1:=X1 (YF HF2.out (fun b hb ht=>hb1 b hb (fun e=>by rw [e,hrt] at ht;cases ht)))
 have HC1:=X1 (HF4.out.keep (fun b hb ht=>hb1 b hb (fun e=>by rw [e,hrt] at ht;cases ht)))
 have HG1:=X1 hg1
 have HT1:=X1 ht1
 have HG1':=X1 g1
 clear hg1 ht1 HP c0 f1 hb1 HF2 HF4 g1
 go_wp2_with fail
 go_loopw [10] (fun t wr=>∃ (i:Nat),i≤m∧t = .int .i64 i∧Gn gb rb vb n (q+1) k wr∧Ty w wr∧wr.cell? ⟨gb,2,none⟩=some (.slice vp m vc)∧wr.ownsRow (rb+1) 137 4 (.slice vp m vc) m ys∧FnC wr ys m) (fun t _=>m - (intOf t).toNat)
 case atStart=>exact ⟨0,Nat.zero_le _,rfl,HG1.out,HT1.out,HG1'.out,HR1.out,HC1.out⟩
 case round =>
  obtain ⟨i,hi,rfl,hG,hT,n1,n2,n3⟩:=hrel
  by_cases hlt2:i < m
  ·obtain ⟨g,hvp⟩:∃ g,vp=some ⟨g,0,none⟩:=by
    rcases n2.2 with ⟨_,h0⟩ | ⟨g,c,_,h2,_⟩
    ·omega
    ·cases h2;exact ⟨g,rfl⟩
   subst hvp
   have hi1:(z+i) % m < m:=Nat.mod_lt _ (by omega)
   have e1:((z:Int)+(i:Int)) % (m:Int)=(((z+i) % m:Nat):Int):=by simp
   have e2':((z:Int)+(i:Int)).tmod (m:Int)=(((z+i) % m:Nat):Int):=by rw [Int.tmod_eq_emod_of_nonneg (by omega)];exact e1
   have e3:IntKind.i64.wrap ((z:Int)+(i:Int))=(z:Int)+(i:Int):=by rw [IntKind.wrap_i64];omega
   have hk0:¬ m=0:=by omega
   generalize (z+i) % m=x at *
   obtain ⟨s,pv,ps,f,zk,y1,y2,y3,y4,y5,y6,y7,y8⟩:=n3 x hi1
   obtain ⟨pp,pc,hpv⟩:=Xc y5
   subst hpv
   have d1:=XO n2 y1
   have d2:=XO n2 y2
   have d3:=XO n2 y3
   have d4:=XO n2 y4
   have bx:=(Below.refl wr.heap.size wr).alloc (Nat.le_refl _) (.cells #[.string ⟨#[]⟩,.slice none 0 0,.int .i64 0,.int .i64 0] 137)
   have hgl:=(n2.lt g rfl).2
   have n1':=(bx.cell (p:=⟨gb,2,none⟩) hG.lt).trans n1
   have d1':=(bx.cell (p:=⟨g,x*4,none⟩) hgl).trans d1
   have d2':=(bx.cell (p:=⟨g,x*4+1,none⟩) hgl).trans d2
   have d3':=(bx.cell (p:=⟨g,x*4+2,none⟩) hgl).trans d3
   have d4':=(bx.cell (p:=⟨g,x*4+3,none⟩) hgl).trans d4
   have B9:Below wr.heap.size wr (wr.alloc (.cells #[.string s,.slice pp ps.length pc,.int .i64 f,.int .i64 zk] 137)).drew:=(bA _).drew
   have HG9:=X1 (hG.below B9)
   have HT9:=X1 (hT.trans (.of B9))
   have HN1:=X1 ((B9.cell (p:=⟨gb,2,none⟩) hG.lt).trans n1)
   have HN2:=X1 (YF n2 (fun b hb _=>B9.block b hb))
   have HN3:=X1 (n3.keep (fun b hb _=>B9.block b hb))
   have HLY:=X1 (YF y5 (fun b hb _=>B9.block b hb))
   have HLX:Hid ((wr.alloc (.cells #[.string s,.slice pp ps.length pc,.int .i64 f,.int .i64 zk] 137)).drew.ownsRow 0 137 4 (.slice (some ⟨wr.heap.size,0,none⟩) 1 1) 1 [.string s,.slice pp ps.length pc,.int .i64 f,.int .i64 zk]):=X1 (World.ownsRow_lit (base:=0) (e:=137) (size:=4) wr #[.string s,.slice pp ps.length pc,.int .i64 f,.int .i64 zk] 1 (Nat.zero_le _) (by unfold maxLen;omega) rfl)
   clear hG hT n2 n3 y1 y2 y3 y4 y5 bx B9
   by_cases hkk:zk=kind
   ·subst hkk
    go_wp2_with fail
    go_region
    all_goals
     generalize hW9:(wr.alloc (.cells #[.string s,.slice pp ps.length pc,.int .i64 f,.int .i64 zk] 137)).drew=w9 at *
     have hw9:wr.heap.size < w9.heap.size:=by rw [← hW9];simp
     have hww:w.heap.size≤w9.heap.size:=HT9.out.size
     have hrw:rb < w.heap.size:=Nat.lt_trans hup hlt
     generalize wr.heap.size=bx at *
     have x0:=XO HLX.out (j:=0) rfl
     have x3:=XO HLX.out (j:=3) rfl
     clear hW9
     go_wp2_with fail
     refine (Qz _ _).mono ?_
     rintro e51 w51 ⟨v51,l51,rfl,nr51,pn51,mn51,b51⟩
     have HR51:=X1 (TyM.of (M:=Mine) b51)
     have HG51:=X1 (HG9.out.below b51)
     have HT51:=X1 (HT9.out.trans HR51.out)
     have HLX_51:=X1 (XH HLX.out HR51.out (by unfold Mine;simp))
     have HLY_51:=X1 (XH HLY.out HR51.out (by unfold Mine;simp))
     have c0_51:=HG51.out.c0
     clear b51
     obtain ⟨gq51,cq51,hv51⟩:=nr51.form pn51
     subst hv51
     have HNnm_51:=X1 nr51
     clear nr51
     have HPp:=X1 (PW.one (B:=w.heap.size) HNnm_51.out pn51 (by have:=HT51.out.size;omega))
     have HG52:=X1 (HG51.out.below (bA (.cells #[.slice (some ⟨gq51,0,none⟩) l51.length cq51] 23)))
     have HT52:=X1 (HT51.out.trans (.of (bA (.cells #[.slice (some ⟨gq51,0,none⟩) l51.length cq51] 23))))
     have HLX_52:=X1 (XH (M:=Mine) HLX_51.out (.of (bA (.cells #[.slice (some ⟨gq51,0,none⟩) l51.length cq51] 23))) (by unfold Mine;simp))
     have HLY_52:=X1 (XH (M:=Mine) HLY_51.out (.of (bA (.cells #[.slice (some ⟨gq51,0,none⟩) l51.length cq51] 23))) (by unfold Mine;simp))
     have x1:=XO HLX_52.out (j:=1) rfl
     have x2:=XO HLX_52.out (j:=2) rfl
     have c0_9:=HG52.out.c0
     by_cases hf:0 < f
     ·have HGd:=X1 (HG52.out.below (Below.refl _ _).drew)
      have HTd:=X1 (HT52.out.trans (.of (Below.refl _ _).drew))
      have HPd:=X1 (HPp.out.below (Below.refl _ _).drew)
      have HLXd:=X1 (HLX_52.out.drew)
      have HLYd:=X1 (HLY_52.out.drew)
      have hwf:IntKind.i64.wrap (f+1)=f+1:=by rw [IntKind.wrap_i64];omega
      go_wp2_with fail
      go_region_law (refine XT rfl 19 (.tmp 62) (.tmp 65) _ _ rfl (.pointer (some ⟨rb,0,none⟩)) (.int .i64 (f+1)) (by first | (simp [Act.eval];done) | simp [Act.eval,Act.put]) (by first | (simp [Act.eval];done) | simp [Act.eval,Act.put]) Tryz.f19 Tryz.func19 (by kernel_rfl) (by kernel_rfl) _ (KT gb rb vb n HGd.out (by omega) (f+1) (by omega) (by omega)) ?_;intro v4 w4 h4;obtain ⟨z4,hz4,hv4,hg4,ht4⟩:=h4;subst hv4)
      all_goals
       have HG4:=X1 hg4
       have HT4:=X1 (HTd.out.trans ht4)
       have HP4:=X1 (HPd.out.ty ht4)
       have HLX4:=X1 (XH HLXd.out ht4 (by unfold Mine;simp))
       have HLY4:=X1 (XH HLYd.out ht4 (by unfold Mine;simp))
       have c0_4:=hg4.c0
       have x14:=XO HLX4.out (j:=1) rfl
       clear hg4 ht4
       have hw4:IntKind.i64.wrap ((ps.length:Int) - (z4:Int))=(ps.length:Int) - (z4:Int):=by rw [IntKind.wrap_i64];omega
       have hgl:((ps.length:Int) - (z4:Int):Int)≤3:=by omega
       go_wp2_with fail
       refine (Gn.pick HG4.out (by omega) 2 (by omega) (by omega)).mono ?_
       rintro e53 w53 ⟨z53,hz53,rfl,hg53,ht53⟩
       have HR53:=X1 ht53
       have HG53:=X1 hg53
       have HT53:=X1 (HT4.out.trans HR53.out)
       have HPp_53:=X1 (HP4.out.ty HR53.out)
       have HLX_53:=X1 (XH HLX4.out HR53.out (by unfold Mine;simp))
       have HLY_53:=X1 (XH HLY4.out HR53.out (by unfold Mine;simp))
       have c0_53:=HG53.out.c0
       clear hg53 ht53
       go_wp2_with fail
       go_loopw [12,15,16] (fun sv tv uv wr=>∃ (j:Nat) (ls:List (List Tr.Nd)),j≤3∧tv = .int .i64 j∧ls.length=j+1∧ls.flatten.length≤1+j*(kd+1)∧PW w.heap.size wr sv ls∧Gn gb rb vb n (q+8+j * kd) k wr∧Ty w wr∧wr.ownsRow 0 137 4 (.slice (some ⟨bx,0,none⟩) 1 1) 1 [.string s,.slice pp ps.length pc,.int .i64 f,.int .i64 zk]∧wr.ownsRow 0 3 1 (.slice pp ps.length pc) ps.length (ps.map (Value.int .i64))) (fun _ t _ _=>(((ps.length:Int) - (z4:Int):Int) - intOf t).toNat)
       case atStart=>exact ⟨0,_,Nat.zero_le _,rfl,rfl,by rw [fl1];omega,HPp_53.out,HG53.out.mono (by omega),HT53.out,HLX_53.out,HLY_53.out⟩
       case round =>
        obtain ⟨j,ls,hj3,rfl,hll,hfl,hPW,hG,hT,hX,hY⟩:=hrel
        have HPW:=X1 hPW
        have HGr:=X1 hG
        have HTr:=X1 hT
        have HLX:=X1 hX
        have HLY:=X1 hY
        have hjk:j * kd≤3 * kd:=Nat.mul_le_mul_right _ hj3
        have hjk2:j*(kd+1)=j * kd+j:=by rw [Nat.mul_add,Nat.mul_one]
        have hsz:=hT.size
        have hle:ls.length≤4:=by omega
        have HLJ:=X1 hll
        clear hll
        clear hPW hG hT
        by_cases hj:(j:Int) < ((ps.length:Int) - (z4:Int):Int)
        ·have hjl:j < ps.length:=by omega
         obtain ⟨py,hpp⟩:∃ g,pp=some ⟨g,0,none⟩:=by
          rcases hY.2 with ⟨_,h0⟩ | ⟨g,c,_,h2,_⟩
          ·omega
          ·cases h2;exact ⟨g,rfl⟩
         subst hpp
         have hx1:=XO hX (j:=1) rfl
         have hyj:=XO hY (j:=j) (u:= .int .i64 ps[j]) (by rw [List.getElem?_map,List.getElem?_eq_getElem hjl];rfl)
         generalize ps[j]=pj at *
         clear hX hY
         go_wp2_with fail
         refine (HE.out _ _ _ _ HGr.out (by omega) (by omega)).mono ?_
         rintro e54 w54 ⟨v54,l54,rfl,nr54,pn54,mn54,hg54,ht54⟩
         have HR54:=X1 ht54
         have HG54:=X1 hg54
         have HT54:=X1 (HTr.out.trans HR54.out)
         have HPp_54:=X1 (HPW.out.ty HR54.out)
         have HLX_54:=X1 (XH HLX.out HR54.out (by unfold Mine;simp))
         have HLY_54:=X1 (XH HLY.out HR54.out (by unfold Mine;simp))
         have c0_54:=HG54.out.c0
         clear hg54 ht54
         obtain ⟨gq54,cq54,hv54⟩:=nr54.form pn54
         subst hv54
         have HNe_54:=X1 nr54
         clear nr54
         by_cases hby:((ps.length:Int) - (z4:Int):Int) - (z53:Int)≤(j:Int)
         ·have HDC:=X1 (fun w0=>Zz j w0 (by omega))
          have hdl:=YS j
          generalize Yl j=dc at *
          have hsz2:(⟨dc.toArray⟩:ByteArray).size≤100:=by show dc.toArray.size≤_;simp;omega
          go_wp2_with fail
          refine (HDC.out _).mono ?_
          rintro e55 w55 ⟨rfl,b55⟩
          have HR55:=X1 (TyM.of (M:=Mine) b55)
          have HG55:=X1 (HG54.out.below b55)
          have HT55:=X1 (HT54.out.trans HR55.out)
          have HNe_55:=X1 (HNe_54.out.ty HR55.out)
          have HPp_55:=X1 (HPp_54.out.ty HR55.out)
          have HLX_55:=X1 (XH HLX_54.out HR55.out (by unfold Mine;simp))
          have HLY_55:=X1 (XH HLY_54.out HR55.out (by unfold Mine;simp))
          have c0_55:=HG55.out.c0
          clear b55
          have HO:=X1 (fun t (_hts:ByteArray.size t≤1000000)=>Xx ⟨18,0,0,t,0⟩ [_] _ _ kd (pr1 HNe_55.out pn54) (by rw [fl1];omega) (by omega) (by simp))
          unfold ndV at HO
          go_wp2_with fail
          refine (HO.out _ (by first | omega | (rw [ByteArray.size_append];show 1+_≤_;omega))).mono ?_
          rintro e56 w56 ⟨v56,l56,rfl,nr56,pn56,mn56,b56⟩
          have HR56:=X1 (TyM.trans (TyM.of (M:=Mine) (bA _)) (TyM.of (M:=Mine) b56))
          have HG56:=X1 ((HG55.out.below (bA _)).below b56)
          have HT56:=X1 (HT55.out.trans HR56.out)
          have HPp_56:=X1 (HPp_55.out.ty HR56.out)
          have HLX_56:=X1 (XH HLX_55.out HR56.out (by unfold Mine;simp))
          have HLY_56:=X1 (XH HLY_55.out HR56.out (by unfold Mine;simp))
          have c0_56:=HG56.out.c0
          clear b56
          obtain ⟨gq56,cq56,hv56⟩:=nr56.form pn56
          subst hv56
          have HNe_56:=X1 nr56
          clear nr56
          obtain ⟨vs57,pv57,pw57⟩:=HPp_56.out
          obtain ⟨pp57,pc57,hpv57⟩:=Xc pv57
          subst hpv57
          have HV57:=X1 pv57
          have HW57:=X1 pw57
          clear pv57 pw57
          go_wp2_with (at_builtin;refine wpList_append_own_at _ rfl _ _ 102 rfl (w.heap.size) 23 iP _ 1 24 Tryz.underlying102 hP hPz hPs hPb rfl (by decide) _ ls.length vs57 rfl (HV57.out.alloc _) ⟨w56.heap.size,0,none⟩ 1 1 [.slice (some ⟨gq56,0,none⟩) l56.length cq56] rfl rfl (Xz _ [_] _ _ rfl) (by simp [Value.oneCell']) (by unfold maxLen;omega) (by omega) (by have:=HT56.out.size;simp;omega) ?_)
          intro v57 w57 ra57 rb57 rc57 rd57
          obtain ⟨hp57,hpf57⟩:=pushed HV57.out HW57.out HNe_56.out pn56 ra57 rb57
          obtain ⟨sp57,sc57,hs57⟩:=Xc ra57
          subst hs57
          have HP57:=X1 hp57
          have HG57:=X1 (hpf57.gn HG56.out (by omega))
          have HT57:=X1 (hpf57.tyM HT56.out (by omega))
          have HLX_57:=X1 (hpf57.row HLX_56.out (by decide))
          have HLY_57:=X1 (hpf57.row HLY_56.out (by decide))
          clear hp57 hpf57 ra57 rb57 rc57 rd57
          go_wp2
          go_roundw
          case rel=>exact ⟨j+1,_,by omega,by go_num,by rw [List.length_append,HLJ.out];rfl,by rw [List.flatten_append,List.length_append,fl1];rw [Nat.add_mul,Nat.one_mul];omega,HP57.out,HG57.out.mono (by rw [Nat.add_mul,Nat.one_mul];omega),HT57.out,HLX_57.out,HLY_57.out⟩
          case measure=>simp [intOf];omega
         have hby2:¬ (((ps.length:Int) - (z4:Int):Int) - (z53:Int)≤(j:Int)):=hby
         obtain ⟨vs58,pv58,pw58⟩:=HPp_54.out
         obtain ⟨pp58,pc58,hpv58⟩:=Xc pv58
         subst hpv58
         have HV58:=X1 pv58
         have HW58:=X1 pw58
         clear pv58 pw58
         go_wp2_with (at_builtin;refine wpList_append_own_at _ rfl _ _ 102 rfl (w.heap.size) 23 iP _ 1 24 Tryz.underlying102 hP hPz hPs hPb rfl (by decide) _ ls.length vs58 rfl (HV58.out.alloc _) ⟨w54.heap.size,0,none⟩ 1 1 [.slice (some ⟨gq54,0,none⟩) l54.length cq54] rfl rfl (Xz _ [_] _ _ rfl) (by simp [Value.oneCell']) (by unfold maxLen;omega) (by omega) (by have:=HT54.out.size;simp;omega) ?_)
         intro v58 w58 ra58 rb58 rc58 rd58
         obtain ⟨hp58,hpf58⟩:=pushed HV58.out HW58.out HNe_54.out pn54 ra58 rb58
         obtain ⟨sp58,sc58,hs58⟩:=Xc ra58
         subst hs58
         have HP58:=X1 hp58
         have HG58:=X1 (hpf58.gn HG54.out (by omega))
         have HT58:=X1 (hpf58.tyM HT54.out (by omega))
         have HLX_58:=X1 (hpf58.row HLX_54.out (by decide))
         have HLY_58:=X1 (hpf58.row HLY_54.out (by decide))
         clear hp58 hpf58 ra58 rb58 rc58 rd58
         go_wp2
         go_roundw
         case rel=>exact ⟨j+1,_,by omega,by go_num,by rw [List.length_append,HLJ.out];rfl,by rw [List.flatten_append,List.length_append,fl1];rw [Nat.add_mul,Nat.one_mul];omega,HP58.out,HG58.out.mono (by rw [Nat.add_mul,Nat.one_mul];omega),HT58.out,HLX_58.out,HLY_58.out⟩
         case measure=>simp [intOf];omega
        ·have HO:=X1 (Xx ⟨12,0,0,⟨#[]⟩,0⟩ ls _ _ (3 * kd+10) HPW.out.pr (by omega) (by omega) (by omega))
         unfold ndV at HO
         obtain ⟨vsz,pvz,_⟩:=HPW.out
         obtain ⟨ppz,pcz,hpz⟩:=Xc pvz
         subst hpz
         clear pvz hX hY
         go_wp2_with fail
         refine HO.out.mono ?_
         rintro e7 w7 ⟨v7,l7,rfl,nr7,p7,m7,b7⟩
         obtain ⟨g7,c7,hv7⟩:=nr7.form p7
         subst hv7
         have HG7:=X1 (HGr.out.below b7)
         have HT7:=X1 (HTr.out.trans (.of b7))
         have HN7:=X1 nr7
         clear b7 nr7
         go_wp2
         go_ret2
         exact ⟨_,l7,true,rfl,fun _=>⟨HN7.out,p7,by omega⟩,(fun h=>by cases h),HG7.out.mono (by omega),HT7.out,_,_,_,rfl⟩
     ·have hgl:((ps.length:Int):Int)≤3:=by omega
      go_wp2_with fail
      refine (Gn.pick HG52.out (by omega) 2 (by omega) (by omega)).mono ?_
      rintro e59 w59 ⟨z59,hz59,rfl,hg59,ht59⟩
      have HR59:=X1 ht59
      have HG59:=X1 hg59
      have HT59:=X1 (HT52.out.trans HR59.out)
      have HPp_59:=X1 (HPp.out.ty HR59.out)
      have HLX_59:=X1 (XH HLX_52.out HR59.out (by unfold Mine;simp))
      have HLY_59:=X1 (XH HLY_52.out HR59.out (by unfold Mine;simp))
      have c0_59:=HG59.out.c0
      clear hg59 ht59
      go_wp2_with fail
      go_loopw [12,15,16] (fun sv tv uv wr=>∃ (j:Nat) (ls:List (List Tr.Nd)),j≤3∧tv = .int .i64 j∧ls.length=j+1∧ls.flatten.length≤1+j*(kd+1)∧PW w.heap.size wr sv ls∧Gn gb rb vb n (q+8+j * kd) k wr∧Ty w wr∧wr.ownsRow 0 137 4 (.slice (some ⟨bx,0,none⟩) 1 1) 1 [.string s,.slice pp ps.length pc,.int .i64 f,.int .i64 zk]∧wr.ownsRow 0 3 1 (.slice pp ps.length pc) ps.length (ps.map (Value.int .i64))) (fun _ t _ _=>(((ps.length:Int):Int) - intOf t).toNat)
      case atStart=>exact ⟨0,_,Nat.zero_le _,rfl,rfl,by rw [fl1];omega,HPp_59.out,HG59.out.mono (by omega),HT59.out,HLX_59.out,HLY_59.out⟩
      case round =>
       obtain ⟨j,ls,hj3,rfl,hll,hfl,hPW,hG,hT,hX,hY⟩:=hrel
       have HPW:=X1 hPW
       have HGr:=X1 hG
       have HTr:=X1 hT
       have HLX:=X1 hX
       have HLY:=X1 hY
       have hjk:j * kd≤3 * kd:=Nat.mul_le_mul_right _ hj3
       have hjk2:j*(kd+1)=j * kd+j:=by rw [Nat.mul_add,Nat.mul_one]
       have hsz:=hT.size
       have hle:ls.length≤4:=by omega
       have HLJ:=X1 hll
       clear hll
       clear hPW hG hT
       by_cases hj:(j:Int) < ((ps.length:Int):Int)
       ·have hjl:j < ps.length:=by omega
        obtain ⟨py,hpp⟩:∃ g,pp=some ⟨g,0,none⟩:=by
         rcases hY.2 with ⟨_,h0⟩ | ⟨g,c,_,h2,_⟩
         ·omega
         ·cases h2;exact ⟨g,rfl⟩
        subst hpp
        have hx1:=XO hX (j:=1) rfl
        have hyj:=XO hY (j:=j) (u:= .int .i64 ps[j]) (by rw [List.getElem?_map,List.getElem?_eq_getElem hjl];rfl)
        generalize ps[j]=pj at *
        clear hX hY
        go_wp2_with fail
        refine (HE.out _ _ _ _ HGr.out (by omega) (by omega)).mono ?_
        rintro e60 w60 ⟨v60,l60,rfl,nr60,pn60,mn60,hg60,ht60⟩
        have HR60:=X1 ht60
        have HG60:=X1 hg60
        have HT60:=X1 (HTr.out.trans HR60.out)
        have HPp_60:=X1 (HPW.out.ty HR60.out)
        have HLX_60:=X1 (XH HLX.out HR60.out (by unfold Mine;simp))
        have HLY_60:=X1 (XH HLY.out HR60.out (by unfold Mine;simp))
        have c0_60:=HG60.out.c0
        clear hg60 ht60
        obtain ⟨gq60,cq60,hv60⟩:=nr60.form pn60
        subst hv60
        have HNe_60:=X1 nr60
        clear nr60
        by_cases hby:((ps.length:Int):Int) - (z59:Int)≤(j:Int)
        ·have HDC:=X1 (fun w0=>Zz j w0 (by omega))
         have hdl:=YS j
         generalize Yl j=dc at *
         have hsz2:(⟨dc.toArray⟩:ByteArray).size≤100:=by show dc.toArray.size≤_;simp;omega
         go_wp2_with fail
         refine (HDC.out _).mono ?_
         rintro e61 w61 ⟨rfl,b61⟩
         have HR61:=X1 (TyM.of (M:=Mine) b61)
         have HG61:=X1 (HG60.out.below b61)
         have HT61:=X1 (HT60.out.trans HR61.out)
         have HNe_61:=X1 (HNe_60.out.ty HR61.out)
         have HPp_61:=X1 (HPp_60.out.ty HR61.out)
         have HLX_61:=X1 (XH HLX_60.out HR61.out (by unfold Mine;simp))
         have HLY_61:=X1 (XH HLY_60.out HR61.out (by unfold Mine;simp))
         have c0_61:=HG61.out.c0
         clear b61
         have HO:=X1 (fun t (_hts:ByteArray.size t≤1000000)=>Xx ⟨18,0,0,t,0⟩ [_] _ _ kd (pr1 HNe_61.out pn60) (by rw [fl1];omega) (by omega) (by simp))
         unfold ndV at HO
         go_wp2_with fail
         refine (HO.out _ (by first | omega | (rw [ByteArray.size_append];show 1+_≤_;omega))).mono ?_
         rintro e62 w62 ⟨v62,l62,rfl,nr62,pn62,mn62,b62⟩
         have HR62:=X1 (TyM.trans (TyM.of (M:=Mine) (bA _)) (TyM.of (M:=Mine) b62))
         have HG62:=X1 ((HG61.out.below (bA _)).below b62)
         have HT62:=X1 (HT61.out.trans HR62.out)
         have HPp_62:=X1 (HPp_61.out.ty HR62.out)
         have HLX_62:=X1 (XH HLX_61.out HR62.out (by unfold Mine;simp))
         have HLY_62:=X1 (XH HLY_61.out HR62.out (by unfold Mine;simp))
         have c0_62:=HG62.out.c0
         clear b62
         obtain ⟨gq62,cq62,hv62⟩:=nr62.form pn62
         subst hv62
         have HNe_62:=X1 nr62
         clear nr62
         obtain ⟨vs63,pv63,pw63⟩:=HPp_62.out
         obtain ⟨pp63,pc63,hpv63⟩:=Xc pv63
         subst hpv63
         have HV63:=X1 pv63
         have HW63:=X1 pw63
         clear pv63 pw63
         go_wp2_with (at_builtin;refine wpList_append_own_at _ rfl _ _ 102 rfl (w.heap.size) 23 iP _ 1 24 Tryz.underlying102 hP hPz hPs hPb rfl (by decide) _ ls.length vs63 rfl (HV63.out.alloc _) ⟨w62.heap.size,0,none⟩ 1 1 [.slice (some ⟨gq62,0,none⟩) l62.length cq62] rfl rfl (Xz _ [_] _ _ rfl) (by simp [Value.oneCell']) (by unfold maxLen;omega) (by omega) (by have:=HT62.out.size;simp;omega) ?_)
         intro v63 w63 ra63 rb63 rc63 rd63
         obtain ⟨hp63,hpf63⟩:=pushed HV63.out HW63.out HNe_62.out pn62 ra63 rb63
         obtain ⟨sp63,sc63,hs63⟩:=Xc ra63
         subst hs63
         have HP63:=X1 hp63
         have HG63:=X1 (hpf63.gn HG62.out (by omega))
         have HT63:=X1 (hpf63.tyM HT62.out (by omega))
         have HLX_63:=X1 (hpf63.row HLX_62.out (by decide))
         have HLY_63:=X1 (hpf63.row HLY_62.out (by decide))
         clear hp63 hpf63 ra63 rb63 rc63 rd63
         go_wp2
         go_roundw
         case rel=>exact ⟨j+1,_,by omega,by go_num,by rw [List.length_append,HLJ.out];rfl,by rw [List.flatten_append,List.length_append,fl1];rw [Nat.add_mul,Nat.one_mul];omega,HP63.out,HG63.out.mono (by rw [Nat.add_mul,Nat.one_mul];omega),HT63.out,HLX_63.out,HLY_63.out⟩
         case measure=>simp [intOf];omega
        have hby2:¬ (((ps.length:Int):Int) - (z59:Int)≤(j:Int)):=hby
        obtain ⟨vs64,pv64,pw64⟩:=HPp_60.out
        obtain ⟨pp64,pc64,hpv64⟩:=Xc pv64
        subst hpv64
        have HV64:=X1 pv64
        have HW64:=X1 pw64
        clear pv64 pw64
        go_wp2_with (at_builtin;refine wpList_append_own_at _ rfl _ _ 102 rfl (w.heap.size) 23 iP _ 1 24 Tryz.underlying102 hP hPz hPs hPb rfl (by decide) _ ls.length vs64 rfl (HV64.out.alloc _) ⟨w60.heap.size,0,none⟩ 1 1 [.slice (some ⟨gq60,0,none⟩) l60.length cq60] rfl rfl (Xz _ [_] _ _ rfl) (by simp [Value.oneCell']) (by unfold maxLen;omega) (by omega) (by have:=HT60.out.size;simp;omega) ?_)
        intro v64 w64 ra64 rb64 rc64 rd64
        obtain ⟨hp64,hpf64⟩:=pushed HV64.out HW64.out HNe_60.out pn60 ra64 rb64
        obtain ⟨sp64,sc64,hs64⟩:=Xc ra64
        subst hs64
        have HP64:=X1 hp64
        have HG64:=X1 (hpf64.gn HG60.out (by omega))
        have HT64:=X1 (hpf64.tyM HT60.out (by omega))
        have HLX_64:=X1 (hpf64.row HLX_60.out (by decide))
        have HLY_64:=X1 (hpf64.row HLY_60.out (by decide))
        clear hp64 hpf64 ra64 rb64 rc64 rd64
        go_wp2
        go_roundw
        case rel=>exact ⟨j+1,_,by omega,by go_num,by rw [List.length_append,HLJ.out];rfl,by rw [List.flatten_append,List.length_append,fl1];rw [Nat.add_mul,Nat.one_mul];omega,HP64.out,HG64.out.mono (by rw [Nat.add_mul,Nat.one_mul];omega),HT64.out,HLX_64.out,HLY_64.out⟩
        case measure=>simp [intOf];omega
       ·have HO:=X1 (Xx ⟨12,0,0,⟨#[]⟩,0⟩ ls _ _ (3 * kd+10) HPW.out.pr (by omega) (by omega) (by omega))
        unfold ndV at HO
        obtain ⟨vsz,pvz,_⟩:=HPW.out
        obtain ⟨ppz,pcz,hpz⟩:=Xc pvz
        subst hpz
        clear pvz hX hY
        go_wp2_with fail
        refine HO.out.mono ?_
        rintro e7 w7 ⟨v7,l7,rfl,nr7,p7,m7,b7⟩
        obtain ⟨g7,c7,hv7⟩:=nr7.form p7
        subst hv7
        have HG7:=X1 (HGr.out.below b7)
        have HT7:=X1 (HTr.out.trans (.of b7))
        have HN7:=X1 nr7
        clear b7 nr7
        go_wp2
        go_ret2
        exact ⟨_,l7,true,rfl,fun _=>⟨HN7.out,p7,by omega⟩,(fun h=>by cases h),HG7.out.mono (by omega),HT7.out,_,_,_,rfl⟩
   ·have hkb:(zk != kind)=true:=by simp [hkk]
    go_wp2_with fail
    go_region
    all_goals
     go_wp2
     go_roundw
     case rel=>exact ⟨i+1,by omega,by go_num,HG9.out,HT9.out,HN1.out,HN2.out,HN3.out⟩
     case measure=>simp [intOf];omega
  ·have hie:i=m:=by omega
   subst hie
   have HG:=X1 hG
   have HT:=X1 hT
   clear hG hT n1 n2 n3
   go_wp2
   go_ret2
   exact ⟨_,[],false,rfl,(fun h=>by cases h),fun _=>HG.out.below (bA _),(HG.out.below (bA _)).mono (by omega),HT.out.trans (.of (bA _)),_,_,_,rfl⟩
theorem e_all [Inhabited Bs] (gb rb:Nat) (vb:Value) (n:Nat) (HRE:∀ d kd,EAt gb rb vb n d kd→kd≤1000000→QP gb rb vb n d kd):EAt gb rb vb n 1 260∧EAt gb rb vb n 3 6860∧EAt gb rb vb n 4 34360:=by
 have st:∀ d kd,EAt gb rb vb n d kd→kd≤1000000→EAt gb rb vb n (d+1) (5 * kd+60):=fun d kd h hk=>e_step gb rb vb n d kd h (of_at gb rb vb n d kd h (HRE d kd h hk) hk) (call_any gb rb vb n d kd h hk) hk
 have h0:=e_zero gb rb vb n
 have h1:=st 0 40 h0 (by decide)
 have h2:=st 1 260 h1 (by decide)
 have h3:=st 2 1360 h2 (by decide)
 exact ⟨h1,h3,st 3 6860 h3 (by decide)⟩
theorem gn_new [Inhabited Bs] {rb n p:Nat} {vb:Value} {w:World} (h:Rd w rb vb n p) (z:Int) (hz:0≤z) (hz2:z≤1000):Gn w.heap.size rb vb n p 0 (w.alloc (.cells #[.pointer (some ⟨rb,0,none⟩),.slice none 0 0,.slice none 0 0,.int .i64 0,.int .i64 z] 111)) :=
 ⟨⟨p,Nat.le_refl _,h.keep (bA _)⟩,h.lt,QY _ _ _,by simp,⟨_,[],by simp,World.ownsRow_nil _ _ _ _,fun _ hi=>absurd hi (Nat.not_lt_zero _)⟩,⟨_,0,[],by simp,World.ownsRow_nil _ _ _ _,Nat.zero_le _,fun _ hi=>absurd hi (Nat.not_lt_zero _)⟩,⟨0,Nat.zero_le _,by simp⟩,⟨z,by omega,hz2,by simp⟩,fun j=>by simp,Nat.zero_le _⟩
set_option maxRecDepth 100000 in
set_option maxHeartbeats 4000000 in
theorem program_any [Inhabited Bs] (rb:Nat) (vb:Value) (n:Nat) (HRE:∀ gb d kd,EAt gb rb vb n d kd→kd≤1000000→QP gb rb vb n d kd) (HDF:∀ gb,EAt gb rb vb n 1 260→EAt gb rb vb n 3 6860→DefAt gb rb vb n) (q:Nat) (w:World) (h:Rq rb vb n q w) (hq:q≤90000000):Calls Tryz.prog 39 #[.pointer (some ⟨rb,0,none⟩)] w fun e w'=>RTk rb vb n q 250010 w e w':=by
 have hrw:=h.lt
 have b0:Below w.heap.size w (w.alloc (.cells #[.slice none 0 0] 25)):=bA _
 have HR0:=X1 (h.below b0)
 have HT0:Hid (Ty w (w.alloc (.cells #[.slice none 0 0] 25))):=X1 (.of b0)
 have HX0:Hid ((w.alloc (.cells #[.slice none 0 0] 25)).heap[w.heap.size]?=some (.cells #[.slice none 0 0] 25)):=X1 (Xf w _)
 have HRE:=X1 HRE
 have HDF:=X1 HDF
 clear b0 h
 go_enter Tryz.func39,Tryz.ntmps39
 go_wp2_with fail
 refine (Rq.pick HR0.out (by omega) 80 (by omega) (by omega)).mono ?_
 rintro e w1 ⟨z1,hz1,rfl,hr1,ht1⟩
 obtain ⟨p1,hp1,hd1⟩:=hr1
 have hg1:=gn_new hd1 (20+(z1:Int)) (by omega) (by omega)
 have hl1:=hd1.lt
 have b1:Below w1.heap.size w1 (w1.alloc (.cells #[.pointer (some ⟨rb,0,none⟩),.slice none 0 0,.slice none 0 0,.int .i64 0,.int .i64 (20+(z1:Int))] 111)):=bA _
 have b2:Below (w1.alloc (.cells #[.pointer (some ⟨rb,0,none⟩),.slice none 0 0,.slice none 0 0,.int .i64 0,.int .i64 (20+(z1:Int))] 111)).heap.size (w1.alloc (.cells #[.pointer (some ⟨rb,0,none⟩),.slice none 0 0,.slice none 0 0,.int .i64 0,.int .i64 (20+(z1:Int))] 111)) ((w1.alloc (.cells #[.pointer (some ⟨rb,0,none⟩),.slice none 0 0,.slice none 0 0,.int .i64 0,.int .i64 (20+(z1:Int))] 111)).alloc (.cells #[] 23)):=bA _
 have hf1:Fm w1.heap.size 0 (w1.alloc (.cells #[.pointer (some ⟨rb,0,none⟩),.slice none 0 0,.slice none 0 0,.int .i64 0,.int .i64 (20+(z1:Int))] 111)):=⟨none,0,0,Nat.le_refl _,by simp⟩
 have HG2:=X1 (hg1.below b2)
 have HF2:=X1 (hf1.ty hg1.ty hg1.lt (.of b2))
 have HT2:=X1 (((HT0.out.trans ht1).trans (.of b1)).trans (.of b2))
 have HX2:=X1 (TyM.same (TyM.same (Ty.same ht1 HX0.out Xq) b1) b2)
 clear hg1 b1 b2 hf1 ht1 hd1
 go_wp2_with fail
 refine (Gn.pick HG2.out (by omega) 5 (by omega) (by omega)).mono ?_
 rintro e w3 ⟨z3,hz3,rfl,hg3,ht3⟩
 have HF3:=X1 (HF2.out.ty HG2.out.ty HG2.out.lt ht3)
 have HG3:=X1 hg3
 have HT3:=X1 (HT2.out.trans ht3)
 have HX3:=X1 (Ty.same ht3 HX2.out Xq)
 clear hg3 ht3
 obtain ⟨x1,x3,x4⟩:=e_all w1.heap.size rb vb n (HRE.out w1.heap.size)
 have HFL:=X1 (file_any w1.heap.size rb vb n x3 x4 (HDF.out _ x1 x3) p1.succ (w1.heap.size+1) (1+z3) w3 HG3.out HF3.out (by omega) (by omega))
 rw [show ((1+z3:Nat):Int)=1+(z3:Int) from by omega] at HFL
 clear x1 x3 x4
 go_wp2_with fail
 refine HFL.out.mono ?_
 rintro e w4 ⟨v4,l4,k4,rfl,nr4,pn4,mn4,hg4,ht4⟩
 obtain ⟨g4,c4,hv4⟩:=nr4.form pn4
 subst hv4
 obtain ⟨p4,hp4,hr4⟩:=hg4.R
 have hX4:=Tf.same ht4 HX3.out Z2
 have t0:=(XI hX4).1
 have ft:=(XI hX4).2
 have hty:tyAt w4 w.heap.size≠some 33:=by unfold tyAt;rw [hX4];decide
 have HN4:Hid (NR (w4.setCell ⟨w.heap.size,0,none⟩ (.slice (some ⟨g4,0,none⟩) l4.length c4)) (.slice (some ⟨g4,0,none⟩) l4.length c4) l4):=X1 ⟨XW nr4.1 hty,nr4.2⟩
 have HR4:=X1 (Rq.set (o:=0) (v:= .slice (some ⟨g4,0,none⟩) l4.length c4) (show Rq rb vb n (q+250010) w4 from ⟨p4,by omega,hr4⟩) hrw)
 have HT4:=X1 (YB (o:=0) (v:= .slice (some ⟨g4,0,none⟩) l4.length c4) ((Ty.tf HT3.out).trans ht4) (Nat.le_refl _))
 clear nr4 hX4 hg4 ht4 hr4
 go_wp2
 exact bodyPost_ret (v:= .agg #[.slice (some ⟨g4,0,none⟩) l4.length c4]) (by simp [results,Tryz.results39,go_sem,t0]) rfl ⟨_,_,rfl,HN4.out,by omega,HR4.out,HT4.out⟩
end Go.Proofs.YthbfdaifgnhkbaaGreatDoor
