/- Cp, Cs. -/
import Derived.Test.YtbckhbeebngjfaaGreatDoorT30
import Derived.Test.YtbckhbeebngjfaaGreatDoorT32
namespace Go.Proofs.YtbckhbeebngjfaaGreatDoor
open Go.RowKit
variable (gb rb:Nat) (vb:Value) (n:Nat)
theorem row_cellsC [Inhabited Bs] {w:World} {B size g c m:Nat} {e:TypeId} {xs:List Value} (h:w.ownsRow B e size (.slice (some ⟨g,0,none⟩) m c) m xs) {j:Nat} {u:Value} (hu:xs[j]?=some u):w.cell? ⟨g,j,none⟩=some u:=by
 have:=h.cells rfl j u hu
 rwa [add_plainP,Nat.zero_add] at this
set_option maxRecDepth 100000 in
set_option maxHeartbeats 16000000 in
theorem call_any [Inhabited Bs] (d kd:Nat) (HE:EAt gb rb vb n d kd) (hkd:kd≤1000000):CallAt gb rb vb n d kd:=fun q k kind w h hq hk=>by
 obtain ⟨iP,hP,hPz,hPs,hPb⟩:=info_parts Tryz.infoNdsC
 have hwd:IntKind.i64.wrap (d:Int)=(d:Int):=by rw [IntKind.wrap_i64];omega
 have c0:=h.c0
 have hup:=h.up
 have hlt:=h.lt
 obtain ⟨v,m,ys,f1,f2,f3,f4⟩:=h.fn
 obtain ⟨vp,vc,rfl⟩:=row_formP f2
 have hgt:=h.ty
 obtain ⟨p0,hp0,hr0⟩:=h.R
 have hrt:=hr0.ty
 have HP:=hide ((pick_keep gb rb vb n h (by omega) m (by omega)))
 have HF2:=hide f2
 have HF4:=hide f4
 have HE:=hide HE
 clear f2 f4 h hr0
 go_enter Tryz.func93,Tryz.ntmps93
 go_wp2_with fail
 refine HP.out.mono ?_
 rintro e w1 ⟨z,hz,rfl,hg1,ht1,hzk,hb1⟩
 have e2:=hb1 gb hlt (by omega)
 have g1:=(World.cell?_of_block (a:=⟨gb,2,none⟩) e2).trans f1
 have HR1:=hide (row_tyM HF2.out (fun b hb ht=>hb1 b hb (fun e=>by rw [e,hrt] at ht;cases ht)))
 have HC1:=hide (HF4.out.keep (fun b hb ht=>hb1 b hb (fun e=>by rw [e,hrt] at ht;cases ht)))
 have HG1:=hide hg1
 have HT1:=hide ht1
 have HG1':=hide g1
 clear hg1 ht1 HP c0 f1 hb1 HF2 HF4 g1
 go_wp2_with fail
 go_loopw [10] (fun t wr=>∃ (i:Nat),i≤m∧t = .int .i64 i∧Gn gb rb vb n (q+1) k wr∧Ty w wr∧wr.cell? ⟨gb,2,none⟩=some (.slice vp m vc)∧wr.ownsRow (rb+1) 127 4 (.slice vp m vc) m ys∧FnC wr ys m) (fun t _=>m - (intOf t).toNat)
 case atStart=>exact ⟨0,Nat.zero_le _,rfl,HG1.out,HT1.out,HG1'.out,HR1.out,HC1.out⟩
 case round =>
  obtain ⟨i,hi,rfl,hG,hT,n1,n2,n3⟩:=hrel
  by_cases hlt2:i < m
  ·obtain ⟨g,hvp⟩:∃ g,vp=some ⟨g,0,none⟩:=by
    rcases n2.2 with ⟨_,h0⟩ | ⟨g,c,_,h2,_⟩
    ·omega
    ·cases h2;exact ⟨g,rfl⟩
   subst hvp
   have hi1:(z+i) % m < m:=Nat.mod_lt _ (by omega)
   have e1:((z:Int)+(i:Int)) % (m:Int)=(((z+i) % m:Nat):Int):=by simp
   have e2':((z:Int)+(i:Int)).tmod (m:Int)=(((z+i) % m:Nat):Int):=by rw [Int.tmod_eq_emod_of_nonneg (by omega)];exact e1
   have e3:IntKind.i64.wrap ((z:Int)+(i:Int))=(z:Int)+(i:Int):=by rw [IntKind.wrap_i64];omega
   have hk0:¬ m=0:=by omega
   generalize (z+i) % m=x at *
   obtain ⟨s,pv,ps,f,zk,y1,y2,y3,y4,y5,y6,y7,y8⟩:=n3 x hi1
   obtain ⟨pp,pc,hpv⟩:=row_formP y5
   subst hpv
   have d1:=row_cellsC n2 y1
   have d2:=row_cellsC n2 y2
   have d3:=row_cellsC n2 y3
   have d4:=row_cellsC n2 y4
   have bx:=(Below.refl wr.heap.size wr).alloc (Nat.le_refl _) (.cells #[.string ⟨#[]⟩,.slice none 0 0,.int .i64 0,.int .i64 0] 127)
   have hgl:=(n2.lt g rfl).2
   have n1':=(bx.cell (p:=⟨gb,2,none⟩) hG.lt).trans n1
   have d1':=(bx.cell (p:=⟨g,x*4,none⟩) hgl).trans d1
   have d2':=(bx.cell (p:=⟨g,x*4+1,none⟩) hgl).trans d2
   have d3':=(bx.cell (p:=⟨g,x*4+2,none⟩) hgl).trans d3
   have d4':=(bx.cell (p:=⟨g,x*4+3,none⟩) hgl).trans d4
   have B9:Below wr.heap.size wr (wr.alloc (.cells #[.string s,.slice pp ps.length pc,.int .i64 f,.int .i64 zk] 127)).drew:=(bA _).drew
   have HG9:=hide (hG.below B9)
   have HT9:=hide (hT.trans (.of B9))
   have HN1:=hide ((B9.cell (p:=⟨gb,2,none⟩) hG.lt).trans n1)
   have HN2:=hide (row_tyM n2 (fun b hb _=>B9.block b hb))
   have HN3:=hide (n3.keep (fun b hb _=>B9.block b hb))
   have HLY:=hide (row_tyM y5 (fun b hb _=>B9.block b hb))
   have HLX:Hid ((wr.alloc (.cells #[.string s,.slice pp ps.length pc,.int .i64 f,.int .i64 zk] 127)).drew.ownsRow 0 127 4 (.slice (some ⟨wr.heap.size,0,none⟩) 1 1) 1 [.string s,.slice pp ps.length pc,.int .i64 f,.int .i64 zk]):=hide (World.ownsRow_lit (base:=0) (e:=127) (size:=4) wr #[.string s,.slice pp ps.length pc,.int .i64 f,.int .i64 zk] 1 (Nat.zero_le _) (by unfold maxLen;omega) rfl)
   clear hG hT n2 n3 y1 y2 y3 y4 y5 bx B9
   by_cases hkk:zk=kind
   ·subst hkk
    go_wp2_with fail
    go_region
    all_goals
     generalize hW9:(wr.alloc (.cells #[.string s,.slice pp ps.length pc,.int .i64 f,.int .i64 zk] 127)).drew=w9 at *
     have hw9:wr.heap.size < w9.heap.size:=by rw [← hW9];simp
     have hww:w.heap.size≤w9.heap.size:=HT9.out.size
     have hrw:rb < w.heap.size:=Nat.lt_trans hup hlt
     generalize wr.heap.size=bx at *
     have x0:=row_cellsC HLX.out (j:=0) rfl
     have x3:=row_cellsC HLX.out (j:=3) rfl
     clear hW9
     go_wp2_with fail
     refine (nameN_any _ _).mono ?_
     rintro e51 w51 ⟨v51,l51,rfl,nr51,pn51,mn51,b51⟩
     have HR51:=hide (TyM.of (M:=Mine) b51)
     have HG51:=hide (HG9.out.below b51)
     have HT51:=hide (HT9.out.trans HR51.out)
     have HLX_51:=hide (row_ty HLX.out HR51.out (by unfold Mine;simp))
     have HLY_51:=hide (row_ty HLY.out HR51.out (by unfold Mine;simp))
     have c0_51:=HG51.out.c0
     clear b51
     obtain ⟨gq51,cq51,hv51⟩:=nr51.form pn51
     subst hv51
     have HNnm_51:=hide nr51
     clear nr51
     have HPp:=hide (PW.one (B:=w.heap.size) HNnm_51.out pn51 (by have:=HT51.out.size;omega))
     have HG52:=hide (HG51.out.below (bA (.cells #[.slice (some ⟨gq51,0,none⟩) l51.length cq51] 48)))
     have HT52:=hide (HT51.out.trans (.of (bA (.cells #[.slice (some ⟨gq51,0,none⟩) l51.length cq51] 48))))
     have HLX_52:=hide (row_ty (M:=Mine) HLX_51.out (.of (bA (.cells #[.slice (some ⟨gq51,0,none⟩) l51.length cq51] 48))) (by unfold Mine;simp))
     have HLY_52:=hide (row_ty (M:=Mine) HLY_51.out (.of (bA (.cells #[.slice (some ⟨gq51,0,none⟩) l51.length cq51] 48))) (by unfold Mine;simp))
     have x1:=row_cellsC HLX_52.out (j:=1) rfl
     have x2:=row_cellsC HLX_52.out (j:=2) rfl
     have c0_9:=HG52.out.c0
     by_cases hf:0 < f
     ·have HGd:=hide (HG52.out.below (Below.refl _ _).drew)
      have HTd:=hide (HT52.out.trans (.of (Below.refl _ _).drew))
      have HPd:=hide (HPp.out.below (Below.refl _ _).drew)
      have HLXd:=hide (HLX_52.out.drew)
      have HLYd:=hide (HLY_52.out.drew)
      have hwf:IntKind.i64.wrap (f+1)=f+1:=by rw [IntKind.wrap_i64];omega
      go_wp2_with fail
      go_region_law (refine step_call2E rfl 8 (.tmp 62) (.tmp 65) _ _ rfl (.pointer (some ⟨rb,0,none⟩)) (.int .i64 (f+1)) (by first | (simp [Act.eval];done) | simp [Act.eval,Act.put]) (by first | (simp [Act.eval];done) | simp [Act.eval,Act.put]) Tryz.f8 Tryz.func8 (by kernel_rfl) (by kernel_rfl) _ (pick_ex gb rb vb n HGd.out (by omega) (f+1) (by omega) (by omega)) ?_;intro v4 w4 h4;obtain ⟨z4,hz4,hv4,hg4,ht4⟩:=h4;subst hv4)
      all_goals
       have HG4:=hide hg4
       have HT4:=hide (HTd.out.trans ht4)
       have HP4:=hide (HPd.out.ty ht4)
       have HLX4:=hide (row_ty HLXd.out ht4 (by unfold Mine;simp))
       have HLY4:=hide (row_ty HLYd.out ht4 (by unfold Mine;simp))
       have c0_4:=hg4.c0
       have x14:=row_cellsC HLX4.out (j:=1) rfl
       clear hg4 ht4
       have hw4:IntKind.i64.wrap ((ps.length:Int) - (z4:Int))=(ps.length:Int) - (z4:Int):=by rw [IntKind.wrap_i64];omega
       have hgl:((ps.length:Int) - (z4:Int):Int)≤3:=by omega
       go_wp2_with fail
       refine (Gn.pick HG4.out (by omega) 2 (by omega) (by omega)).mono ?_
       rintro e53 w53 ⟨z53,hz53,rfl,hg53,ht53⟩
       have HR53:=hide ht53
       have HG53:=hide hg53
       have HT53:=hide (HT4.out.trans HR53.out)
       have HPp_53:=hide (HP4.out.ty HR53.out)
       have HLX_53:=hide (row_ty HLX4.out HR53.out (by unfold Mine;simp))
       have HLY_53:=hide (row_ty HLY4.out HR53.out (by unfold Mine;simp))
       have c0_53:=HG53.out.c0
       clear hg53 ht53
       go_wp2_with fail
       go_loopw [12,15,16] (fun sv tv uv wr=>∃ (j:Nat) (ls:List (List Tr.Nd)),j≤3∧tv = .int .i64 j∧ls.length=j+1∧ls.flatten.length≤1+j*(kd+1)∧PW w.heap.size wr sv ls∧Gn gb rb vb n (q+8+j * kd) k wr∧Ty w wr∧wr.ownsRow 0 127 4 (.slice (some ⟨bx,0,none⟩) 1 1) 1 [.string s,.slice pp ps.length pc,.int .i64 f,.int .i64 zk]∧wr.ownsRow 0 3 1 (.slice pp ps.length pc) ps.length (ps.map (Value.int .i64))) (fun _ t _ _=>(((ps.length:Int) - (z4:Int):Int) - intOf t).toNat)
       case atStart=>exact ⟨0,_,Nat.zero_le _,rfl,rfl,by rw [fl1];omega,HPp_53.out,HG53.out.mono (by omega),HT53.out,HLX_53.out,HLY_53.out⟩
       case round =>
        obtain ⟨j,ls,hj3,rfl,hll,hfl,hPW,hG,hT,hX,hY⟩:=hrel
        have HPW:=hide hPW
        have HGr:=hide hG
        have HTr:=hide hT
        have HLX:=hide hX
        have HLY:=hide hY
        have hjk:j * kd≤3 * kd:=Nat.mul_le_mul_right _ hj3
        have hjk2:j*(kd+1)=j * kd+j:=by rw [Nat.mul_add,Nat.mul_one]
        have hsz:=hT.size
        have hle:ls.length≤4:=by omega
        have HLJ:=hide hll
        clear hll
        clear hPW hG hT
        by_cases hj:(j:Int) < ((ps.length:Int) - (z4:Int):Int)
        ·have hjl:j < ps.length:=by omega
         obtain ⟨py,hpp⟩:∃ g,pp=some ⟨g,0,none⟩:=by
          rcases hY.2 with ⟨_,h0⟩ | ⟨g,c,_,h2,_⟩
          ·omega
          ·cases h2;exact ⟨g,rfl⟩
         subst hpp
         have hx1:=row_cellsC hX (j:=1) rfl
         have hyj:=row_cellsC hY (j:=j) (u:= .int .i64 ps[j]) (by rw [List.getElem?_map,List.getElem?_eq_getElem hjl];rfl)
         generalize ps[j]=pj at *
         clear hX hY
         go_wp2_with fail
         refine (HE.out _ _ _ _ HGr.out (by omega) (by omega)).mono ?_
         rintro e54 w54 ⟨v54,l54,rfl,nr54,pn54,mn54,hg54,ht54⟩
         have HR54:=hide ht54
         have HG54:=hide hg54
         have HT54:=hide (HTr.out.trans HR54.out)
         have HPp_54:=hide (HPW.out.ty HR54.out)
         have HLX_54:=hide (row_ty HLX.out HR54.out (by unfold Mine;simp))
         have HLY_54:=hide (row_ty HLY.out HR54.out (by unfold Mine;simp))
         have c0_54:=HG54.out.c0
         clear hg54 ht54
         obtain ⟨gq54,cq54,hv54⟩:=nr54.form pn54
         subst hv54
         have HNe_54:=hide nr54
         clear nr54
         by_cases hby:((ps.length:Int) - (z4:Int):Int) - (z53:Int)≤(j:Int)
         ·have HDC:=hide (fun w0=>decC_any j w0 (by omega))
          have hdl:=Tr.decC_len j
          generalize Tr.decC j=dc at *
          have hsz2:(⟨dc.toArray⟩:ByteArray).size≤100:=by show dc.toArray.size≤_;simp;omega
          go_wp2_with fail
          refine (HDC.out _).mono ?_
          rintro e55 w55 ⟨rfl,b55⟩
          have HR55:=hide (TyM.of (M:=Mine) b55)
          have HG55:=hide (HG54.out.below b55)
          have HT55:=hide (HT54.out.trans HR55.out)
          have HNe_55:=hide (HNe_54.out.ty HR55.out)
          have HPp_55:=hide (HPp_54.out.ty HR55.out)
          have HLX_55:=hide (row_ty HLX_54.out HR55.out (by unfold Mine;simp))
          have HLY_55:=hide (row_ty HLY_54.out HR55.out (by unfold Mine;simp))
          have c0_55:=HG55.out.c0
          clear b55
          have HO:=hide (fun t (_hts:ByteArray.size t≤1000000)=>over_mk ⟨18,0,0,t,0⟩ [_] _ _ kd (pr1 HNe_55.out pn54) (by rw [fl1];omega) (by omega) (by simp))
          unfold ndV at HO
          go_wp2_with fail
          refine (HO.out _ (by first | omega | (rw [ByteArray.size_append];show 1+_≤_;omega))).mono ?_
          rintro e56 w56 ⟨v56,l56,rfl,nr56,pn56,mn56,b56⟩
          have HR56:=hide (TyM.trans (TyM.of (M:=Mine) (bA _)) (TyM.of (M:=Mine) b56))
          have HG56:=hide ((HG55.out.below (bA _)).below b56)
          have HT56:=hide (HT55.out.trans HR56.out)
          have HPp_56:=hide (HPp_55.out.ty HR56.out)
          have HLX_56:=hide (row_ty HLX_55.out HR56.out (by unfold Mine;simp))
          have HLY_56:=hide (row_ty HLY_55.out HR56.out (by unfold Mine;simp))
          have c0_56:=HG56.out.c0
          clear b56
          obtain ⟨gq56,cq56,hv56⟩:=nr56.form pn56
          subst hv56
          have HNe_56:=hide nr56
          clear nr56
          obtain ⟨vs57,pv57,pw57⟩:=HPp_56.out
          obtain ⟨pp57,pc57,hpv57⟩:=row_formP pv57
          subst hpv57
          have HV57:=hide pv57
          have HW57:=hide pw57
          clear pv57 pw57
          go_wp2_with (at_builtin;refine wpList_append_own_at _ rfl _ _ 94 rfl (w.heap.size) 48 iP _ 1 24 Tryz.underlying94 hP hPz hPs hPb rfl (by decide) _ ls.length vs57 rfl (HV57.out.alloc _) ⟨w56.heap.size,0,none⟩ 1 1 [.slice (some ⟨gq56,0,none⟩) l56.length cq56] rfl rfl (cells_litC _ [_] _ _ rfl) (by simp [Value.oneCell']) (by unfold maxLen;omega) (by omega) (by have:=HT56.out.size;simp;omega) ?_)
          intro v57 w57 ra57 rb57 rc57 rd57
          obtain ⟨hp57,hpf57⟩:=pushed HV57.out HW57.out HNe_56.out pn56 ra57 rb57
          obtain ⟨sp57,sc57,hs57⟩:=row_formP ra57
          subst hs57
          have HP57:=hide hp57
          have HG57:=hide (hpf57.gn HG56.out (by omega))
          have HT57:=hide (hpf57.tyM HT56.out (by omega))
          have HLX_57:=hide (hpf57.row HLX_56.out (by decide))
          have HLY_57:=hide (hpf57.row HLY_56.out (by decide))
          clear hp57 hpf57 ra57 rb57 rc57 rd57
          go_wp2
          go_roundw
          case rel=>exact ⟨j+1,_,by omega,by go_num,by rw [List.length_append,HLJ.out];rfl,by rw [List.flatten_append,List.length_append,fl1];rw [Nat.add_mul,Nat.one_mul];omega,HP57.out,HG57.out.mono (by rw [Nat.add_mul,Nat.one_mul];omega),HT57.out,HLX_57.out,HLY_57.out⟩
          case measure=>simp [intOf];omega
         have hby2:¬ (((ps.length:Int) - (z4:Int):Int) - (z53:Int)≤(j:Int)):=hby
         obtain ⟨vs58,pv58,pw58⟩:=HPp_54.out
         obtain ⟨pp58,pc58,hpv58⟩:=row_formP pv58
         subst hpv58
         have HV58:=hide pv58
         have HW58:=hide pw58
         clear pv58 pw58
         go_wp2_with (at_builtin;refine wpList_append_own_at _ rfl _ _ 94 rfl (w.heap.size) 48 iP _ 1 24 Tryz.underlying94 hP hPz hPs hPb rfl (by decide) _ ls.length vs58 rfl (HV58.out.alloc _) ⟨w54.heap.size,0,none⟩ 1 1 [.slice (some ⟨gq54,0,none⟩) l54.length cq54] rfl rfl (cells_litC _ [_] _ _ rfl) (by simp [Value.oneCell']) (by unfold maxLen;omega) (by omega) (by have:=HT54.out.size;simp;omega) ?_)
         intro v58 w58 ra58 rb58 rc58 rd58
         obtain ⟨hp58,hpf58⟩:=pushed HV58.out HW58.out HNe_54.out pn54 ra58 rb58
         obtain ⟨sp58,sc58,hs58⟩:=row_formP ra58
         subst hs58
         have HP58:=hide hp58
         have HG58:=hide (hpf58.gn HG54.out (by omega))
         have HT58:=hide (hpf58.tyM HT54.out (by omega))
         have HLX_58:=hide (hpf58.row HLX_54.out (by decide))
         have HLY_58:=hide (hpf58.row HLY_54.out (by decide))
         clear hp58 hpf58 ra58 rb58 rc58 rd58
         go_wp2
         go_roundw
         case rel=>exact ⟨j+1,_,by omega,by go_num,by rw [List.length_append,HLJ.out];rfl,by rw [List.flatten_append,List.length_append,fl1];rw [Nat.add_mul,Nat.one_mul];omega,HP58.out,HG58.out.mono (by rw [Nat.add_mul,Nat.one_mul];omega),HT58.out,HLX_58.out,HLY_58.out⟩
         case measure=>simp [intOf];omega
        ·have HO:=hide (over_mk ⟨12,0,0,⟨#[]⟩,0⟩ ls _ _ (3 * kd+10) HPW.out.pr (by omega) (by omega) (by omega))
         unfold ndV at HO
         obtain ⟨vsz,pvz,_⟩:=HPW.out
         obtain ⟨ppz,pcz,hpz⟩:=row_formP pvz
         subst hpz
         clear pvz hX hY
         go_wp2_with fail
         refine HO.out.mono ?_
         rintro e7 w7 ⟨v7,l7,rfl,nr7,p7,m7,b7⟩
         obtain ⟨g7,c7,hv7⟩:=nr7.form p7
         subst hv7
         have HG7:=hide (HGr.out.below b7)
         have HT7:=hide (HTr.out.trans (.of b7))
         have HN7:=hide nr7
         clear b7 nr7
         go_wp2
         go_ret2
         exact ⟨_,l7,true,rfl,fun _=>⟨HN7.out,p7,by omega⟩,(fun h=>by cases h),HG7.out.mono (by omega),HT7.out,_,_,_,rfl⟩
     ·have hgl:((ps.length:Int):Int)≤3:=by omega
      go_wp2_with fail
      refine (Gn.pick HG52.out (by omega) 2 (by omega) (by omega)).mono ?_
      rintro e59 w59 ⟨z59,hz59,rfl,hg59,ht59⟩
      have HR59:=hide ht59
      have HG59:=hide hg59
      have HT59:=hide (HT52.out.trans HR59.out)
      have HPp_59:=hide (HPp.out.ty HR59.out)
      have HLX_59:=hide (row_ty HLX_52.out HR59.out (by unfold Mine;simp))
      have HLY_59:=hide (row_ty HLY_52.out HR59.out (by unfold Mine;simp))
      have c0_59:=HG59.out.c0
      clear hg59 ht59
      go_wp2_with fail
      go_loopw [12,15,16] (fun sv tv uv wr=>∃ (j:Nat) (ls:List (List Tr.Nd)),j≤3∧tv = .int .i64 j∧ls.length=j+1∧ls.flatten.length≤1+j*(kd+1)∧PW w.heap.size wr sv ls∧Gn gb rb vb n (q+8+j * kd) k wr∧Ty w wr∧wr.ownsRow 0 127 4 (.slice (some ⟨bx,0,none⟩) 1 1) 1 [.string s,.slice pp ps.length pc,.int .i64 f,.int .i64 zk]∧wr.ownsRow 0 3 1 (.slice pp ps.length pc) ps.length (ps.map (Value.int .i64))) (fun _ t _ _=>(((ps.length:Int):Int) - intOf t).toNat)
      case atStart=>exact ⟨0,_,Nat.zero_le _,rfl,rfl,by rw [fl1];omega,HPp_59.out,HG59.out.mono (by omega),HT59.out,HLX_59.out,HLY_59.out⟩
      case round =>
       obtain ⟨j,ls,hj3,rfl,hll,hfl,hPW,hG,hT,hX,hY⟩:=hrel
       have HPW:=hide hPW
       have HGr:=hide hG
       have HTr:=hide hT
       have HLX:=hide hX
       have HLY:=hide hY
       have hjk:j * kd≤3 * kd:=Nat.mul_le_mul_right _ hj3
       have hjk2:j*(kd+1)=j * kd+j:=by rw [Nat.mul_add,Nat.mul_one]
       have hsz:=hT.size
       have hle:ls.length≤4:=by omega
       have HLJ:=hide hll
       clear hll
       clear hPW hG hT
       by_cases hj:(j:Int) < ((ps.length:Int):Int)
       ·have hjl:j < ps.length:=by omega
        obtain ⟨py,hpp⟩:∃ g,pp=some ⟨g,0,none⟩:=by
         rcases hY.2 with ⟨_,h0⟩ | ⟨g,c,_,h2,_⟩
         ·omega
         ·cases h2;exact ⟨g,rfl⟩
        subst hpp
        have hx1:=row_cellsC hX (j:=1) rfl
        have hyj:=row_cellsC hY (j:=j) (u:= .int .i64 ps[j]) (by rw [List.getElem?_map,List.getElem?_eq_getElem hjl];rfl)
        generalize ps[j]=pj at *
        clear hX hY
        go_wp2_with fail
        refine (HE.out _ _ _ _ HGr.out (by omega) (by omega)).mono ?_
        rintro e60 w60 ⟨v60,l60,rfl,nr60,pn60,mn60,hg60,ht60⟩
        have HR60:=hide ht60
        have HG60:=hide hg60
        have HT60:=hide (HTr.out.trans HR60.out)
        have HPp_60:=hide (HPW.out.ty HR60.out)
        have HLX_60:=hide (row_ty HLX.out HR60.out (by unfold Mine;simp))
        have HLY_60:=hide (row_ty HLY.out HR60.out (by unfold Mine;simp))
        have c0_60:=HG60.out.c0
        clear hg60 ht60
        obtain ⟨gq60,cq60,hv60⟩:=nr60.form pn60
        subst hv60
        have HNe_60:=hide nr60
        clear nr60
        by_cases hby:((ps.length:Int):Int) - (z59:Int)≤(j:Int)
        ·have HDC:=hide (fun w0=>decC_any j w0 (by omega))
         have hdl:=Tr.decC_len j
         generalize Tr.decC j=dc at *
         have hsz2:(⟨dc.toArray⟩:ByteArray).size≤100:=by show dc.toArray.size≤_;simp;omega
         go_wp2_with fail
         refine (HDC.out _).mono ?_
         rintro e61 w61 ⟨rfl,b61⟩
         have HR61:=hide (TyM.of (M:=Mine) b61)
         have HG61:=hide (HG60.out.below b61)
         have HT61:=hide (HT60.out.trans HR61.out)
         have HNe_61:=hide (HNe_60.out.ty HR61.out)
         have HPp_61:=hide (HPp_60.out.ty HR61.out)
         have HLX_61:=hide (row_ty HLX_60.out HR61.out (by unfold Mine;simp))
         have HLY_61:=hide (row_ty HLY_60.out HR61.out (by unfold Mine;simp))
         have c0_61:=HG61.out.c0
         clear b61
         have HO:=hide (fun t (_hts:ByteArray.size t≤1000000)=>over_mk ⟨18,0,0,t,0⟩ [_] _ _ kd (pr1 HNe_61.out pn60) (by rw [fl1];omega) (by omega) (by simp))
         unfold ndV at HO
         go_wp2_with fail
         refine (HO.out _ (by first | omega | (rw [ByteArray.size_append];show 1+_≤_;omega))).mono ?_
         rintro e62 w62 ⟨v62,l62,rfl,nr62,pn62,mn62,b62⟩
         have HR62:=hide (TyM.trans (TyM.of (M:=Mine) (bA _)) (TyM.of (M:=Mine) b62))
         have HG62:=hide ((HG61.out.below (bA _)).below b62)
         have HT62:=hide (HT61.out.trans HR62.out)
         have HPp_62:=hide (HPp_61.out.ty HR62.out)
         have HLX_62:=hide (row_ty HLX_61.out HR62.out (by unfold Mine;simp))
         have HLY_62:=hide (row_ty HLY_61.out HR62.out (by unfold Mine;simp))
         have c0_62:=HG62.out.c0
         clear b62
         obtain ⟨gq62,cq62,hv62⟩:=nr62.form pn62
         subst hv62
         have HNe_62:=hide nr62
         clear nr62
         obtain ⟨vs63,pv63,pw63⟩:=HPp_62.out
         obtain ⟨pp63,pc63,hpv63⟩:=row_formP pv63
         subst hpv63
         have HV63:=hide pv63
         have HW63:=hide pw63
         clear pv63 pw63
         go_wp2_with (at_builtin;refine wpList_append_own_at _ rfl _ _ 94 rfl (w.heap.size) 48 iP _ 1 24 Tryz.underlying94 hP hPz hPs hPb rfl (by decide) _ ls.length vs63 rfl (HV63.out.alloc _) ⟨w62.heap.size,0,none⟩ 1 1 [.slice (some ⟨gq62,0,none⟩) l62.length cq62] rfl rfl (cells_litC _ [_] _ _ rfl) (by simp [Value.oneCell']) (by unfold maxLen;omega) (by omega) (by have:=HT62.out.size;simp;omega) ?_)
         intro v63 w63 ra63 rb63 rc63 rd63
         obtain ⟨hp63,hpf63⟩:=pushed HV63.out HW63.out HNe_62.out pn62 ra63 rb63
         obtain ⟨sp63,sc63,hs63⟩:=row_formP ra63
         subst hs63
         have HP63:=hide hp63
         have HG63:=hide (hpf63.gn HG62.out (by omega))
         have HT63:=hide (hpf63.tyM HT62.out (by omega))
         have HLX_63:=hide (hpf63.row HLX_62.out (by decide))
         have HLY_63:=hide (hpf63.row HLY_62.out (by decide))
         clear hp63 hpf63 ra63 rb63 rc63 rd63
         go_wp2
         go_roundw
         case rel=>exact ⟨j+1,_,by omega,by go_num,by rw [List.length_append,HLJ.out];rfl,by rw [List.flatten_append,List.length_append,fl1];rw [Nat.add_mul,Nat.one_mul];omega,HP63.out,HG63.out.mono (by rw [Nat.add_mul,Nat.one_mul];omega),HT63.out,HLX_63.out,HLY_63.out⟩
         case measure=>simp [intOf];omega
        have hby2:¬ (((ps.length:Int):Int) - (z59:Int)≤(j:Int)):=hby
        obtain ⟨vs64,pv64,pw64⟩:=HPp_60.out
        obtain ⟨pp64,pc64,hpv64⟩:=row_formP pv64
        subst hpv64
        have HV64:=hide pv64
        have HW64:=hide pw64
        clear pv64 pw64
        go_wp2_with (at_builtin;refine wpList_append_own_at _ rfl _ _ 94 rfl (w.heap.size) 48 iP _ 1 24 Tryz.underlying94 hP hPz hPs hPb rfl (by decide) _ ls.length vs64 rfl (HV64.out.alloc _) ⟨w60.heap.size,0,none⟩ 1 1 [.slice (some ⟨gq60,0,none⟩) l60.length cq60] rfl rfl (cells_litC _ [_] _ _ rfl) (by simp [Value.oneCell']) (by unfold maxLen;omega) (by omega) (by have:=HT60.out.size;simp;omega) ?_)
        intro v64 w64 ra64 rb64 rc64 rd64
        obtain ⟨hp64,hpf64⟩:=pushed HV64.out HW64.out HNe_60.out pn60 ra64 rb64
        obtain ⟨sp64,sc64,hs64⟩:=row_formP ra64
        subst hs64
        have HP64:=hide hp64
        have HG64:=hide (hpf64.gn HG60.out (by omega))
        have HT64:=hide (hpf64.tyM HT60.out (by omega))
        have HLX_64:=hide (hpf64.row HLX_60.out (by decide))
        have HLY_64:=hide (hpf64.row HLY_60.out (by decide))
        clear hp64 hpf64 ra64 rb64 rc64 rd64
        go_wp2
        go_roundw
        case rel=>exact ⟨j+1,_,by omega,by go_num,by rw [List.length_append,HLJ.out];rfl,by rw [List.flatten_append,List.length_append,fl1];rw [Nat.add_mul,Nat.one_mul];omega,HP64.out,HG64.out.mono (by rw [Nat.add_mul,Nat.one_mul];omega),HT64.out,HLX_64.out,HLY_64.out⟩
        case measure=>simp [intOf];omega
       ·have HO:=hide (over_mk ⟨12,0,0,⟨#[]⟩,0⟩ ls _ _ (3 * kd+10) HPW.out.pr (by omega) (by omega) (by omega))
        unfold ndV at HO
        obtain ⟨vsz,pvz,_⟩:=HPW.out
        obtain ⟨ppz,pcz,hpz⟩:=row_formP pvz
        subst hpz
        clear pvz hX hY
        go_wp2_with fail
        refine HO.out.mono ?_
        rintro e7 w7 ⟨v7,l7,rfl,nr7,p7,m7,b7⟩
        obtain ⟨g7,c7,hv7⟩:=nr7.form p7
        subst hv7
        have HG7:=hide (HGr.out.below b7)
        have HT7:=hide (HTr.out.trans (.of b7))
        have HN7:=hide nr7
        clear b7 nr7
        go_wp2
        go_ret2
        exact ⟨_,l7,true,rfl,fun _=>⟨HN7.out,p7,by omega⟩,(fun h=>by cases h),HG7.out.mono (by omega),HT7.out,_,_,_,rfl⟩
   ·have hkb:(zk != kind)=true:=by simp [hkk]
    go_wp2_with fail
    go_region
    all_goals
     go_wp2
     go_roundw
     case rel=>exact ⟨i+1,by omega,by go_num,HG9.out,HT9.out,HN1.out,HN2.out,HN3.out⟩
     case measure=>simp [intOf];omega
  ·have hie:i=m:=by omega
   subst hie
   have HG:=hide hG
   have HT:=hide hT
   clear hG hT n1 n2 n3
   go_wp2
   go_ret2
   exact ⟨_,[],false,rfl,(fun h=>by cases h),fun _=>HG.out.below (bA _),(HG.out.below (bA _)).mono (by omega),HT.out.trans (.of (bA _)),_,_,_,rfl⟩
def TMk (w:World) (m:Nat) (e:Ending) (w':World):Prop:=∃ v l,e = .returned (.agg #[v])∧NR w' v l∧0 < l.length∧l.length≤m∧Below w.heap.size w w'
theorem box_cell [Inhabited Bs] {w:World} {b:Nat} {v:Value} {t:TypeId} (h:w.heap[b]?=some (.cells #[v] t)):w.cell? ⟨b,0,none⟩=some v∧w.frozen? ⟨b,0,none⟩=false:=⟨by rw [World.cell?,h];rfl,by rw [World.frozen?,h];simp⟩
set_option maxRecDepth 100000 in
set_option maxHeartbeats 2000000 in
theorem deep_any [Inhabited Bs] (m:Nat) (w:World) (hm2:2≤m) (hm:m≤100):Calls Tryz.prog 59 #[.int .i64 (m:Int)] w fun e w'=>TMk w 110 e w':=by
 have hwm:IntKind.i64.wrap ((m:Int) - 2)=(m:Int) - 2:=by rw [IntKind.wrap_i64];omega
 have X0:Hid ((w.alloc (.cells #[.slice none 0 0] 50)).heap[w.heap.size]?=some (.cells #[.slice none 0 0] 50)):=hide (heap_alloc_new' _ _)
 have B0:Hid (Below w.heap.size w (w.alloc (.cells #[.slice none 0 0] 50))):=hide (bA _)
 have L0:Hid (w.heap.size < (w.alloc (.cells #[.slice none 0 0] 50)).heap.size):=hide (by simp)
 go_enter Tryz.func59,Tryz.ntmps59
 go_wp2_with fail
 refine (intN_any 1 _).mono ?_
 rintro e w1 ⟨v1,l1,rfl,nr1,p1,m1,b1⟩
 obtain ⟨g1,c1,hv1⟩:=nr1.form p1
 subst hv1
 have HN1:=hide nr1
 have HB1:=hide (B0.out.trans (b1.mono B0.out.size))
 have HX1:=hide ((b1.block _ L0.out).trans X0.out)
 clear nr1 b1
 go_wp2_with fail
 go_loopw [3,4] (fun sv tv wr=>∃ (i:Nat) (l:List Tr.Nd),i+2≤m∧tv = .int .i64 (i:Int)∧NR wr sv l∧0 < l.length∧l.length≤i+1∧Below w.heap.size w wr∧wr.heap[w.heap.size]?=some (.cells #[.slice none 0 0] 50)) (fun _ tv _=>m - (intOf tv).toNat)
 case atStart=>exact ⟨0,_,by omega,rfl,HN1.out,p1,m1,HB1.out,HX1.out⟩
 case round =>
  obtain ⟨i,l,hi,rfl,hn,hp,hl,hB,hX⟩:=hrel
  obtain ⟨g,c,hv⟩:=hn.form hp
  subst hv
  have hxl:w.heap.size < wr.heap.size:=World.block_lt_of_cell? wr ⟨w.heap.size,0,none⟩ (box_cell hX).1
  have HB:=hide hB
  have HX:=hide hX
  by_cases hlt:(i:Int) < (m:Int) - 2
  ·have HO:=hide (over_mk ⟨6,2,0,⟨#[]⟩,0⟩ [_] _ _ (i+1) (pr1 hn hp) (by rw [fl1];omega) (by omega) (by simp))
   unfold ndV at HO
   clear hn hB hX
   go_wp2_with fail
   refine HO.out.mono ?_
   rintro e2 w2 ⟨v2,l2,rfl,nr2,p2,m2,b2⟩
   obtain ⟨g2,c2,hv2⟩:=nr2.form p2
   subst hv2
   have HN2:=hide nr2
   have HB2:=hide ((HB.out.alloc (HB.out.size) (.cells #[.slice (some ⟨g,0,none⟩) l.length c] 48)).trans (b2.mono (Nat.le_trans HB.out.size (by simp))))
   have HX2:=hide ((b2.block _ (by simp;omega)).trans (((bA (.cells #[.slice (some ⟨g,0,none⟩) l.length c] 48)).block _ hxl).trans HX.out))
   clear nr2 b2
   go_wp2
   go_roundw
   case rel=>exact ⟨i+1,_,by omega,by go_num,HN2.out,p2,by omega,HB2.out,HX2.out⟩
   case measure=>simp [intOf];omega
  ·have HO:=hide (over_mk ⟨21,0,0,⟨#[120]⟩,0⟩ [_] _ _ (i+1) (pr1 hn hp) (by rw [fl1];omega) (by omega) (by simp))
   unfold ndV at HO
   clear hn hB hX
   go_wp2_with fail
   refine HO.out.mono ?_
   rintro e2 w2 ⟨v2,l2,rfl,nr2,p2,m2,b2⟩
   obtain ⟨g2,c2,hv2⟩:=nr2.form p2
   subst hv2
   have HB2:=hide ((HB.out.alloc (HB.out.size) (.cells #[.slice (some ⟨g,0,none⟩) l.length c] 48)).trans (b2.mono (Nat.le_trans HB.out.size (by simp))))
   have HX2:=hide ((b2.block _ (by simp;omega)).trans (((bA (.cells #[.slice (some ⟨g,0,none⟩) l.length c] 48)).block _ hxl).trans HX.out))
   have hx2:w.heap.size < w2.heap.size:=World.block_lt_of_cell? w2 ⟨w.heap.size,0,none⟩ (box_cell HX2.out).1
   have HO2:=hide (over_mk ⟨24,0,0,⟨#[]⟩,0⟩ [_] _ _ (i+2) (pr1 nr2 p2) (by rw [fl1];omega) (by omega) (by simp))
   unfold ndV at HO2
   clear nr2 b2
   go_wp2_with fail
   refine HO2.out.mono ?_
   rintro e3 w3 ⟨v3,l3,rfl,nr3,p3,m3,b3⟩
   obtain ⟨g3,c3,hv3⟩:=nr3.form p3
   subst hv3
   have HB3:=hide ((HB2.out.alloc (HB2.out.size) (.cells #[.slice (some ⟨g2,0,none⟩) l2.length c2] 48)).trans (b3.mono (Nat.le_trans HB2.out.size (by simp))))
   have hX3:=(b3.block _ (by simp;omega)).trans (((bA (.cells #[.slice (some ⟨g2,0,none⟩) l2.length c2] 48)).block _ hx2).trans HX2.out)
   have t0:=(box_cell hX3).1
   have ft:=(box_cell hX3).2
   have hty:tyAt w3 w.heap.size≠some 82:=by unfold tyAt;rw [hX3];decide
   have HN3:Hid (NR (w3.setCell ⟨w.heap.size,0,none⟩ (.slice (some ⟨g3,0,none⟩) l3.length c3)) (.slice (some ⟨g3,0,none⟩) l3.length c3) l3):=hide ⟨row_setC nr3.1 hty,nr3.2⟩
   clear nr3 b3 hX3
   go_wp2
   refine bodyPost_ret (v:= .agg #[.slice (some ⟨g3,0,none⟩) l3.length c3]) (by simp [results,Tryz.results59,go_sem,t0]) rfl ⟨_,_,rfl,HN3.out,p3,by omega,HB3.out.setCell (p:=⟨w.heap.size,0,none⟩) (Nat.le_refl _) _⟩
end Go.Proofs.YtbckhbeebngjfaaGreatDoor
