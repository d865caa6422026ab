/- Fog. -/
import Derived.Test.YthbojbbmpcmoaaaGreatDoorZ30
namespace Go.Proofs.YthbojbbmpcmoaaaGreatDoor
open Go.RowKit
set_option maxRecDepth 100000 in
set_option maxHeartbeats 16000000 in
theorem fold_14 {O:FOp} (HO:OpsS O) (hF:Fd.Fine O) (f:Nat) (ih:FoldAt O f) (y:Fd) (hy:y.size≤f+1) (hn:f+1≤1000000) (hgd:Fd.Good y) (hkd:y.x.kind=14) (a:Nat) (w:World) (h:Fd.Is w y a):Calls Tryz.prog 14 #[pt a] w fun e w'=>FdPost w (Fd.fold O (f+1) y) e w':=by
 obtain ⟨x,p,b,ks⟩:=y
 have HKD:Hid (x.kind=14):=hide hkd
 clear hkd
 rw [Fd.size_mk] at hy
 have hs:∀ t∈ks,t.size≤f:=fun t ht=>by have:=Fd.size_mem ht;omega
 obtain ⟨hloc,hgk⟩:=(Fd.good_mk _ _ _ _).1 hgd
 obtain ⟨sl,ad,h1,h1b,h2,h2b,h3⟩:=(Fd.at_mk _ _ _ _ _ _ _).1 h
 have hkl:ks.length≤1000000:=by
  have:ks.length≤Fd.sizeL ks:=by
   clear h3 h2 hs hy h hgk hloc hgd
   induction ks with
   | nil=>simp
   | cons t r ih=>have:=Fd.size_pos t;rw [Fd.sizeL_cons,List.length_cons];omega
  omega
 have HA:=hide h3
 have HR:=hide h2
 have HX:=hide h1
 have HLO:=hide hloc
 have HGK:=hide hgk
 have HOS:=hide HO
 have HFI:=hide hF
 have HIH:=hide ih
 obtain ⟨iN,hN,hNz,hNs,hNb⟩:=info_parts infoLn
 obtain ⟨iV,hV,hVz,hVs,hVb⟩:=info_parts infoVaF
 obtain ⟨sp,sc,hsl⟩:=row_formF HR.out
 subst hsl
 have c0:=h1.c0
 have c1:=h1.c1
 have c2:=h1.c2
 have c3:=h1.c3
 have c4:=h1.c4
 have c6:=h1.c6
 have c7:=h1.c7
 rw [Fd.fold_succ]
 clear h h1 h2 h3 h1b h2b hloc hgk hgd ih HO hF
 go_enter Tryz.func14,Tryz.ntmps14
 go_upto_region 1 with fail
 go_cut [3] from 21 to 34 (fun v3 wx=>∃ bo,v3=pt bo∧LnB w x p b bo [] (.slice none 0 0) [] wx)
 case first =>
  go_region_law (fail)
  all_goals
   go_wp2_with fail
   go_meet
   case rel=>exact ⟨_,rfl,LnB.new (Below.refl _ _).drew⟩
 case rest =>
  obtain ⟨bo,rfl,hln⟩:=hcut
  have HL0:=hide hln
  clear hln c0 c1 c2 c3 c4 c6 c7
  go_upto_region 3 with fail
  have hfb:FB w x p b bo [] (.slice none 0 0) [] (.slice (some ⟨wc.heap.size,0,none⟩) 0 0) [] [] (wc.alloc (.cells #[] 71)):=by
   have hl:=HL0.out.below (bA (.cells #[] 71))
   refine ⟨hl.B,hl.ge,hl.ln,hl.row,(Fd.atL_nil _ _).2 rfl,hl.ne,?_,?_,(fun q _ e=>by cases e),rfl⟩
   ·exact World.ownsRow_lit (base:=w.heap.size) (e:=71) (size:=1) wc #[] 0 HL0.out.B.size (Nat.zero_le _) rfl
   ·intro e
    have hb:=HL0.out.ln.lt
    have e2:wc.heap.size=bo:=by simpa [Value.ownBlock] using e
    omega
  have HFB:=hide hfb
  clear hfb
  generalize hwb:wc.alloc (.cells #[] 71)=wb at *
  generalize wc.heap.size=vb at *
  clear hwb HL0
  go_wp2_with fail
  go_loopw [4,5] (fun vv t wr=>∃ (i:Nat) (sb:Value) (ab:List Nat) (xs:List Value),i≤ks.length∧t = .int .i64 (i:Int)∧FB w x p b bo ((ks.take i).map (Fd.fold O f)) sb ab vv xs (csOf ((ks.take i).map (Fd.fold O f))) wr) (fun _ t _=>ks.length - (intOf t).toNat)
  case atStart=>exact ⟨0,_,_,_,Nat.zero_le _,rfl,HFB.out⟩
  case round =>
   obtain ⟨i,sb,ab,xs,hi,rfl,hL⟩:=hrel
   have HL:=hide hL
   have k5:=(HX.out.below hL.B).c5
   clear hL HFB
   by_cases hlt:i < ks.length
   ·have hlti:(i:Int) < (ks.length:Int):=by omega
    obtain ⟨g,cc,hsl⟩:=row_posF HR.out (by omega)
    cases hsl
    obtain ⟨ai,hai,hta⟩:=Fd.atL_get i HA.out hlt
    have ke:wr.cell? ⟨g,i,none⟩=some (pt ai):=row_cellF (row_below HR.out HL.out.B) (by rw [List.getElem?_map,hai];rfl)
    have hmem:ks[i]∈ks:=List.getElem_mem _
    have HK:=hide (HIH.out ks[i] (hs _ hmem) (by omega) (HGK.out _ hmem) ai wr (Fd.Is.below hta HL.out.B))
    have HGF:=hide (Fd.good_fold HFI.out f ks[i] (HGK.out _ hmem))
    have htk:(ks.take (i+1)).map (Fd.fold O f)=(ks.take i).map (Fd.fold O f)++[Fd.fold O f ks[i]]:=by rw [List.take_succ_eq_append_getElem hlt,List.map_append];rfl
    have HTK:=hide htk
    have hdl:((ks.take i).map (Fd.fold O f)).length=i:=by rw [List.length_map,List.length_take];omega
    obtain ⟨tt,htt⟩:∃ tt,tt=Fd.fold O f ks[i]:=⟨_,rfl⟩
    rw [← htt] at HK HGF HTK
    obtain ⟨dd,hdd⟩:∃ dd,dd=(ks.take i).map (Fd.fold O f):=⟨_,rfl⟩
    rw [← hdd] at HL HTK hdl
    clear htk htt hdd
    obtain ⟨sbp,sbc,hsb⟩:=row_formF HL.out.row
    rw [hdl] at hsb
    subst hsb
    go_wp2_with fail
    refine HK.out.mono ?_
    rintro e w5 ⟨a5,rfl,hat5,hb5⟩
    have q5:=(HL.out.below hb5).ln.c5
    have HAT5:=hide hat5
    have HB5:=hide hb5
    clear hat5 hb5 HK
    have q5a:=((HL.out.below HB5.out).below (bA (.cells #[pt a5] 39))).ln.c5
    go_wp2_with (at_builtin;refine wpList_append_own_at _ rfl _ _ 65 rfl w.heap.size 39 iN _ 1 8 Tryz.underlying65 hN hNz hNs hNb rfl (by decide) (.slice sbp i sbc) i (ab.map pt) rfl (((hdl ▸ (HL.out.below HB5.out).row)).alloc _) ⟨w5.heap.size,0,none⟩ 1 1 [pt a5] rfl rfl ?_ ?_ ?_ ?_ ?_ ?_)
    ·exact one_new _ _ _
    ·simp [Value.oneCell']
    ·unfold maxLen;omega
    ·omega
    ·have:=(HL.out.below HB5.out).B.size;simp;omega
    ·intro v6 w6 hown6 hgrow6 hnil6 hat6
     obtain ⟨p6,c6,rfl⟩:=row_formF hown6
     have q6:=(FB.keep6 HL.out HB5.out hgrow6).c5
     have q6f:=(FB.keep6 HL.out HB5.out hgrow6).fr 5
     have HP:=hide (HL.out.push HB5.out HAT5.out (by rw [hdl];exact hown6) hgrow6 (by rw [World.size_alloc];exact hat6))
     clear hgrow6 hown6 hat6 hnil6 q5 q5a
     go_upto_region 8 with fail
     generalize hw7:w6.setCell ⟨bo,5,none⟩ (.slice p6 (i+1) c6)=w7 at *
     clear hw7 q6 q6f
     obtain ⟨rsl,hroot,_⟩:=at_root (HP.out.kids_last)
     have HC:=hide (const_any HOS.out.leaf a5 tt.x rsl tt.p tt.b w7 hroot (fun hc=>((Fd.Good.const HGF.out) hc).1))
     clear hroot
     go_wp2_with fail
     refine HC.out.mono ?_
     rintro e w8 ⟨hb8,⟨hc8,g8,c8,rfl,hg8,hv8⟩ | ⟨hc8,rfl⟩⟩
     ·have hb9:Below w7.heap.size w7 (w8.alloc (.cells #[.slice (some ⟨g8,0,none⟩) 1 c8] 71)):=hb8.alloc hb8.size _
      have HB9:=hide hb9
      have HV9:=hide (hv8.below (bA (.cells #[.slice (some ⟨g8,0,none⟩) 1 c8] 71)))
      have HCS:Hid (csOf ((ks.take (i+1)).map (Fd.fold O f))=csOf dd++[tt.x]):=hide (by rw [HTK.out,cs_snoc,if_pos hc8])
      have hxl:xs.length≤1000000:=by
       have h1:=HP.out.vals.len
       have h2:(csOf dd).length≤dd.length:=by unfold csOf;exact Nat.le_trans (List.length_filter_le _ _) (by rw [List.length_map];exact Nat.le_refl _)
       omega
      obtain ⟨vp,vc,hvv⟩:=row_formF HP.out.vrow
      subst hvv
      have HG8:=hide hg8
      clear hb8 hv8 hb9 hg8 HC hc8
      go_wp2_with (at_builtin;refine wpList_append_own_at _ rfl _ _ 68 rfl w.heap.size 71 iV _ 1 24 Tryz.underlying68 hV hVz hVs hVb rfl (by decide) (.slice vp xs.length vc) xs.length xs rfl ((HP.out.below HB9.out).vrow.alloc _) ⟨w8.heap.size+1,0,none⟩ 1 1 [.slice (some ⟨g8,0,none⟩) 1 c8] rfl rfl ?_ ?_ ?_ ?_ ?_ ?_)
      ·intro j u h
       have:=one_new (w8.alloc (.cells #[.slice (some ⟨g8,0,none⟩) 1 c8] 71)) (.slice (some ⟨g8,0,none⟩) 1 c8) 71 j u h
       rw [World.size_alloc] at this
       exact this
      ·simp [Value.oneCell']
      ·unfold maxLen;omega
      ·omega
      ·have:=(HP.out.below HB9.out).B.size;simp at this ⊢;omega
      ·intro v9 w9 hown9 hgrow9 hnil9 hat9
       have HP9:=hide (HP.out.pushV HB9.out HG8.out HV9.out hown9 hgrow9 (by rw [World.size_alloc,World.size_alloc];exact hat9))
       clear hown9 hgrow9 hnil9 hat9
       go_wp2
       go_roundw
       case rel=>exact ⟨i+1,_,_,_,by omega,by go_num,by rw [HCS.out,HTK.out];exact HP9.out⟩
       case measure=>simp [intOf];omega
     ·have hb9:Below w7.heap.size w7 (w8.alloc (.cells #[.slice none 0 0] 71)):=hb8.alloc hb8.size _
      have HP9:=hide (HP.out.below hb9)
      have HCS:Hid (csOf ((ks.take (i+1)).map (Fd.fold O f))=csOf dd):=hide (by rw [HTK.out,cs_snoc,if_neg hc8,List.append_nil])
      clear hb8 hb9 HC hc8
      go_wp2
      go_roundw
      case rel=>exact ⟨i+1,_,_,_,by omega,by go_num,by rw [HCS.out,HTK.out];exact HP9.out⟩
      case measure=>simp [intOf];omega
   ·obtain rfl:i=ks.length:=by omega
    have hL2:=HL.out
    rw [List.take_length] at hL2
    have hlsl:(ks.map (Fd.fold O f)).length=ks.length:=List.length_map _
    have hgl:∀ t∈ks.map (Fd.fold O f),Fd.Good t:=fun t ht=>by
     obtain ⟨u,hu,rfl⟩:=List.mem_map.1 ht
     exact Fd.good_fold HFI.out f u (HGK.out u hu)
    have hlc:Fd.Loc x (ks.map (Fd.fold O f)):=HLO.out.len hlsl
    have hszl:Fd.sizeL (ks.map (Fd.fold O f))≤Fd.sizeL ks:=Fd.size_map_le (F:=Fd.fold O f) ks (fun t _=>Fd.size_fold O f t)
    obtain ⟨ls,hls⟩:∃ ls,ls=ks.map (Fd.fold O f):=⟨_,rfl⟩
    rw [← hls] at hL2 hlsl hgl hlc hszl
    have HLE:=hide hls
    have HF:=hide hL2
    have HGL:=hide hgl
    have HLC:=hide hlc
    have hb:=hL2.B
    clear HL hls hL2 hgl hlc
    obtain ⟨sbp,sbc,hsb⟩:=row_formF HF.out.row
    obtain ⟨vp,vc,hvv⟩:=row_formF HF.out.vrow
    subst hsb hvv
    have k0:=(HX.out.below hb).c0
    have k1:=(HX.out.below hb).c1
    have k6:=(HX.out.below hb).c6
    have b5:=HF.out.ln.c5
    have hcsl:=HF.out.vals.len
    have HBW:=hide hb
    clear hb
    have hkd:=HLC.out.low
    by_cases e6:x.kind=6
    ·exact absurd HKD.out (by omega)
    ·by_cases e7:x.kind=7
     ·exact absurd HKD.out (by omega)
     ·by_cases e13:x.kind=13
      ·exact absurd HKD.out (by omega)
      ·by_cases e14:x.kind=14
       ·have t6:(x.kind == 6)=false:=by simpa using e6
        have t7:(x.kind == 7)=false:=by simpa using e7
        have t13:(x.kind == 13)=false:=by simpa using e13
        have t14:(x.kind == 14)=true:=by simpa using e14
        have hl2:=HLC.out.bind e14
        have hk2:ks.length=2:=by omega
        obtain ⟨k,l,hk⟩:∃ k l,ls=[k,l]:=by
         match ls,hl2 with
         | [k,l],_=>exact ⟨k,l,rfl⟩
        obtain ⟨sg,sgc,hsg⟩:=row_posF HF.out.row (by omega)
        cases hsg
        have HLK:=hide hk
        obtain ⟨a0,s0,q0⟩:=HF.out.kid 0 (by omega)
        obtain ⟨a1,s1,q1⟩:=HF.out.kid 1 (by omega)
        have s0:wr.cell? ⟨sg,0,none⟩=some (pt a0):=s0
        have s1:wr.cell? ⟨sg,1,none⟩=some (pt a1):=s1
        have g0:ls[0]=k:=by simp only [hk];rfl
        have g1:ls[1]=l:=by simp only [hk];rfl
        rw [g0] at q0
        rw [g1] at q1
        obtain ⟨rsl,hroot,_⟩:=at_root q0
        have HRT:=hide hroot
        have HQ1:=hide q1
        have HGk:=hide (HGL.out k (by rw [hk];simp))
        have HGl:=hide (HGL.out l (by rw [hk];simp))
        have hsz2:k.size+l.size≤Fd.sizeL ks:=by
         have:=hszl
         rw [hk,Fd.sizeL_cons,Fd.sizeL_cons,Fd.sizeL_nil] at this
         omega
        have hkp:=Fd.size_pos k
        have HC:=hide (const_any HOS.out.leaf a0 k.x rsl k.p k.b wr hroot (fun hc=>(HGk.out.const hc).1))
        have HSG:=hide (HF.out.row.lt sg rfl).2
        clear q0 q1 hroot g0 g1 hk
        go_wp2_with fail
        refine HC.out.mono ?_
        rintro e w8 ⟨hb8,⟨hc8,g8,c8,rfl,hg8,hv8⟩ | ⟨hc8,rfl⟩⟩
        ·have hb9:Below wr.heap.size wr (w8.alloc (.cells #[.slice (some ⟨g8,0,none⟩) 1 c8] 71)):=hb8.alloc hb8.size _
         have HB9:=hide hb9
         have HFIN:Hid (Fd.fin O (Fd.fold O f) x p b ls=Fd.fold O f (Fd.repl p k.x l)):=hide (by unfold Fd.fin;rw [if_neg e6,if_neg e7,if_neg e13,if_pos e14,HLK.out];simp only;rw [if_pos hc8])
         have z5:=(HF.out.below hb9).ln.c5
         have z0:=(hb9.cell (p:=⟨sg,0,none⟩) HSG.out).trans s0
         have z1:=(hb9.cell (p:=⟨sg,1,none⟩) HSG.out).trans s1
         have z6:=(HX.out.below (HF.out.below hb9).B).c6
         have HCN:=hide (HGk.out.const hc8).1
         clear hb8 hv8 hb9 hg8 HC hc8 s0 s1 b5 k6
         generalize hw9:w8.alloc (.cells #[.slice (some ⟨g8,0,none⟩) 1 c8] 71)=w9 at *
         have hrz:=Fd.size_repl p k.x _ l (Nat.le_refl _)
         have HRP:=hide (replace_any p k.x l.size l (Nat.le_refl _) (by omega) a1 a0 rsl k.p k.b w9.drew (Fd.Is.below (w:=w9) (HQ1.out.go (fun q e=>Nat.lt_of_lt_of_le e.2 HB9.out.size) (fun q e=>HB9.out.block q e.2)) (Below.refl _ _).drew) ((HRT.out.below HB9.out).below (Below.refl _ _).drew))
         have HFO:=hide (fun (a':Nat) (w':World) (h':Fd.Is w' (Fd.repl p k.x l) a')=>HIH.out (Fd.repl p k.x l) (by omega) (by omega) (Fd.good_repl p HCN.out _ l (Nat.le_refl _) HGl.out) a' w' h')
         go_wp2_with fail
         go_region_law (first
          | (refine step_callF rfl 33 [.tmp 225,.tmp 229,.tmp 235] _ rfl [pt a1,.int .i64 p,pt a0] (by simp [Act.eval]) Tryz.f33 Tryz.func33 (by kernel_rfl) (by kernel_rfl) (fun r w5=>∃ a5,r=pt a5∧Fd.Is w5 (Fd.repl p k.x l) a5∧Below w9.heap.size w9 w5) (HRP.out.mono (fun _ _ ⟨a5,q1,q2,q3⟩=>⟨pt a5,q1,a5,rfl,q2.go (fun _ e=>e.2) (fun _ _=>rfl),drewF q3⟩)) ?_;rintro r w5 ⟨a5,rfl,hat5,hb5⟩)
          | (refine step_callF rfl 14 [.tmp 236] _ rfl [pt a5] (by simp [Act.eval]) Tryz.f14 Tryz.func14 (by kernel_rfl) (by kernel_rfl) (fun r w6=>∃ a6,r=pt a6∧Fd.At (fun q=>w5.heap.size≤q∧q < w6.heap.size) w6 (Fd.fold O f (Fd.repl p k.x l)) a6∧Below w5.heap.size w5 w6) ((HFO.out a5 w5 hat5).mono (fun _ _ ⟨a6,q1,q2,q3⟩=>⟨pt a6,q1,a6,rfl,q2,q3⟩)) ?_;rintro r w6 ⟨a6,rfl,hat6,hb6⟩))
         all_goals
          have hbz:Below wr.heap.size wr w6:=HB9.out.trans ((hb5.trans (hb6.mono hb5.size)).mono HB9.out.size)
          have HBZ:=hide (HF.out.below hbz).B
          have HAT6:=hide hat6
          have hw5:w.heap.size≤w5.heap.size:=by have:=HF.out.B.size;have:=HB9.out.size;have:=hb5.size;omega
          clear hat6 hat5 hb5 hb6 hbz
          go_wp2
          go_ret
          refine ⟨a6,rfl,?_,HBZ.out⟩
          rw [← HLE.out,HFIN.out]
          exact HAT6.out.go (fun q e=>⟨by omega,e.2⟩) (fun _ _=>rfl)
        ·have hb9:Below wr.heap.size wr (w8.alloc (.cells #[.slice none 0 0] 71)):=hb8.alloc hb8.size _
         have HF9:=hide (HF.out.below hb9)
         have HFIN:Hid (Fd.fin O (Fd.fold O f) x p b ls = .mk x p b ls):=hide (by unfold Fd.fin;rw [if_neg e6,if_neg e7,if_neg e13,if_pos e14,HLK.out];simp only;rw [if_neg hc8])
         clear hb8 hb9 HC hc8
         go_wp2
         go_ret
         refine ⟨bo,rfl,?_,HF9.out.B⟩
         rw [← HLE.out,HFIN.out]
         exact HF9.out.end_
       ·exact absurd HKD.out (by omega)
end Go.Proofs.YthbojbbmpcmoaaaGreatDoor
