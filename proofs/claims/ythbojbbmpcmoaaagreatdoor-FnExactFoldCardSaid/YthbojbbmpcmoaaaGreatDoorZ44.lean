/- Foe. -/
import Derived.Test.YthbojbbmpcmoaaaGreatDoorZ30
namespace Go.Proofs.YthbojbbmpcmoaaaGreatDoor
open Go.RowKit
set_option maxRecDepth 100000 in
set_option maxHeartbeats 16000000 in
theorem fold_7 {O:FOp} (HO:OpsS O) (hF:Fd.Fine O) (f:Nat) (ih:FoldAt O f) (y:Fd) (hy:y.size≤f+1) (hn:f+1≤1000000) (hgd:Fd.Good y) (hkd:y.x.kind=7) (a:Nat) (w:World) (h:Fd.Is w y a):Calls Tryz.prog 14 #[pt a] w fun e w'=>FdPost w (Fd.fold O (f+1) y) e w':=by
 obtain ⟨x,p,b,ks⟩:=y
 have HKD:Hid (x.kind=7):=hide hkd
 clear hkd
 rw [Fd.size_mk] at hy
 have hs:∀ t∈ks,t.size≤f:=fun t ht=>by have:=Fd.size_mem ht;omega
 obtain ⟨hloc,hgk⟩:=(Fd.good_mk _ _ _ _).1 hgd
 obtain ⟨sl,ad,h1,h1b,h2,h2b,h3⟩:=(Fd.at_mk _ _ _ _ _ _ _).1 h
 have hkl:ks.length≤1000000:=by
  have:ks.length≤Fd.sizeL ks:=by
   clear h3 h2 hs hy h hgk hloc hgd
   induction ks with
   | nil=>simp
   | cons t r ih=>have:=Fd.size_pos t;rw [Fd.sizeL_cons,List.length_cons];omega
  omega
 have HA:=hide h3
 have HR:=hide h2
 have HX:=hide h1
 have HLO:=hide hloc
 have HGK:=hide hgk
 have HOS:=hide HO
 have HFI:=hide hF
 have HIH:=hide ih
 obtain ⟨iN,hN,hNz,hNs,hNb⟩:=info_parts infoLn
 obtain ⟨iV,hV,hVz,hVs,hVb⟩:=info_parts infoVaF
 obtain ⟨sp,sc,hsl⟩:=row_formF HR.out
 subst hsl
 have c0:=h1.c0
 have c1:=h1.c1
 have c2:=h1.c2
 have c3:=h1.c3
 have c4:=h1.c4
 have c6:=h1.c6
 have c7:=h1.c7
 rw [Fd.fold_succ]
 clear h h1 h2 h3 h1b h2b hloc hgk hgd ih HO hF
 go_enter Tryz.func14,Tryz.ntmps14
 go_upto_region 1 with fail
 go_cut [3] from 21 to 34 (fun v3 wx=>∃ bo,v3=pt bo∧LnB w x p b bo [] (.slice none 0 0) [] wx)
 case first =>
  go_region_law (fail)
  all_goals
   go_wp2_with fail
   go_meet
   case rel=>exact ⟨_,rfl,LnB.new (Below.refl _ _).drew⟩
 case rest =>
  obtain ⟨bo,rfl,hln⟩:=hcut
  have HL0:=hide hln
  clear hln c0 c1 c2 c3 c4 c6 c7
  go_upto_region 3 with fail
  have hfb:FB w x p b bo [] (.slice none 0 0) [] (.slice (some ⟨wc.heap.size,0,none⟩) 0 0) [] [] (wc.alloc (.cells #[] 71)):=by
   have hl:=HL0.out.below (bA (.cells #[] 71))
   refine ⟨hl.B,hl.ge,hl.ln,hl.row,(Fd.atL_nil _ _).2 rfl,hl.ne,?_,?_,(fun q _ e=>by cases e),rfl⟩
   ·exact World.ownsRow_lit (base:=w.heap.size) (e:=71) (size:=1) wc #[] 0 HL0.out.B.size (Nat.zero_le _) rfl
   ·intro e
    have hb:=HL0.out.ln.lt
    have e2:wc.heap.size=bo:=by simpa [Value.ownBlock] using e
    omega
  have HFB:=hide hfb
  clear hfb
  generalize hwb:wc.alloc (.cells #[] 71)=wb at *
  generalize wc.heap.size=vb at *
  clear hwb HL0
  go_wp2_with fail
  go_loopw [4,5] (fun vv t wr=>∃ (i:Nat) (sb:Value) (ab:List Nat) (xs:List Value),i≤ks.length∧t = .int .i64 (i:Int)∧FB w x p b bo ((ks.take i).map (Fd.fold O f)) sb ab vv xs (csOf ((ks.take i).map (Fd.fold O f))) wr) (fun _ t _=>ks.length - (intOf t).toNat)
  case atStart=>exact ⟨0,_,_,_,Nat.zero_le _,rfl,HFB.out⟩
  case round =>
   obtain ⟨i,sb,ab,xs,hi,rfl,hL⟩:=hrel
   have HL:=hide hL
   have k5:=(HX.out.below hL.B).c5
   clear hL HFB
   by_cases hlt:i < ks.length
   ·have hlti:(i:Int) < (ks.length:Int):=by omega
    obtain ⟨g,cc,hsl⟩:=row_posF HR.out (by omega)
    cases hsl
    obtain ⟨ai,hai,hta⟩:=Fd.atL_get i HA.out hlt
    have ke:wr.cell? ⟨g,i,none⟩=some (pt ai):=row_cellF (row_below HR.out HL.out.B) (by rw [List.getElem?_map,hai];rfl)
    have hmem:ks[i]∈ks:=List.getElem_mem _
    have HK:=hide (HIH.out ks[i] (hs _ hmem) (by omega) (HGK.out _ hmem) ai wr (Fd.Is.below hta HL.out.B))
    have HGF:=hide (Fd.good_fold HFI.out f ks[i] (HGK.out _ hmem))
    have htk:(ks.take (i+1)).map (Fd.fold O f)=(ks.take i).map (Fd.fold O f)++[Fd.fold O f ks[i]]:=by rw [List.take_succ_eq_append_getElem hlt,List.map_append];rfl
    have HTK:=hide htk
    have hdl:((ks.take i).map (Fd.fold O f)).length=i:=by rw [List.length_map,List.length_take];omega
    obtain ⟨tt,htt⟩:∃ tt,tt=Fd.fold O f ks[i]:=⟨_,rfl⟩
    rw [← htt] at HK HGF HTK
    obtain ⟨dd,hdd⟩:∃ dd,dd=(ks.take i).map (Fd.fold O f):=⟨_,rfl⟩
    rw [← hdd] at HL HTK hdl
    clear htk htt hdd
    obtain ⟨sbp,sbc,hsb⟩:=row_formF HL.out.row
    rw [hdl] at hsb
    subst hsb
    go_wp2_with fail
    refine HK.out.mono ?_
    rintro e w5 ⟨a5,rfl,hat5,hb5⟩
    have q5:=(HL.out.below hb5).ln.c5
    have HAT5:=hide hat5
    have HB5:=hide hb5
    clear hat5 hb5 HK
    have q5a:=((HL.out.below HB5.out).below (bA (.cells #[pt a5] 39))).ln.c5
    go_wp2_with (at_builtin;refine wpList_append_own_at _ rfl _ _ 65 rfl w.heap.size 39 iN _ 1 8 Tryz.underlying65 hN hNz hNs hNb rfl (by decide) (.slice sbp i sbc) i (ab.map pt) rfl (((hdl ▸ (HL.out.below HB5.out).row)).alloc _) ⟨w5.heap.size,0,none⟩ 1 1 [pt a5] rfl rfl ?_ ?_ ?_ ?_ ?_ ?_)
    ·exact one_new _ _ _
    ·simp [Value.oneCell']
    ·unfold maxLen;omega
    ·omega
    ·have:=(HL.out.below HB5.out).B.size;simp;omega
    ·intro v6 w6 hown6 hgrow6 hnil6 hat6
     obtain ⟨p6,c6,rfl⟩:=row_formF hown6
     have q6:=(FB.keep6 HL.out HB5.out hgrow6).c5
     have q6f:=(FB.keep6 HL.out HB5.out hgrow6).fr 5
     have HP:=hide (HL.out.push HB5.out HAT5.out (by rw [hdl];exact hown6) hgrow6 (by rw [World.size_alloc];exact hat6))
     clear hgrow6 hown6 hat6 hnil6 q5 q5a
     go_upto_region 8 with fail
     generalize hw7:w6.setCell ⟨bo,5,none⟩ (.slice p6 (i+1) c6)=w7 at *
     clear hw7 q6 q6f
     obtain ⟨rsl,hroot,_⟩:=at_root (HP.out.kids_last)
     have HC:=hide (const_any HOS.out.leaf a5 tt.x rsl tt.p tt.b w7 hroot (fun hc=>((Fd.Good.const HGF.out) hc).1))
     clear hroot
     go_wp2_with fail
     refine HC.out.mono ?_
     rintro e w8 ⟨hb8,⟨hc8,g8,c8,rfl,hg8,hv8⟩ | ⟨hc8,rfl⟩⟩
     ·have hb9:Below w7.heap.size w7 (w8.alloc (.cells #[.slice (some ⟨g8,0,none⟩) 1 c8] 71)):=hb8.alloc hb8.size _
      have HB9:=hide hb9
      have HV9:=hide (hv8.below (bA (.cells #[.slice (some ⟨g8,0,none⟩) 1 c8] 71)))
      have HCS:Hid (csOf ((ks.take (i+1)).map (Fd.fold O f))=csOf dd++[tt.x]):=hide (by rw [HTK.out,cs_snoc,if_pos hc8])
      have hxl:xs.length≤1000000:=by
       have h1:=HP.out.vals.len
       have h2:(csOf dd).length≤dd.length:=by unfold csOf;exact Nat.le_trans (List.length_filter_le _ _) (by rw [List.length_map];exact Nat.le_refl _)
       omega
      obtain ⟨vp,vc,hvv⟩:=row_formF HP.out.vrow
      subst hvv
      have HG8:=hide hg8
      clear hb8 hv8 hb9 hg8 HC hc8
      go_wp2_with (at_builtin;refine wpList_append_own_at _ rfl _ _ 68 rfl w.heap.size 71 iV _ 1 24 Tryz.underlying68 hV hVz hVs hVb rfl (by decide) (.slice vp xs.length vc) xs.length xs rfl ((HP.out.below HB9.out).vrow.alloc _) ⟨w8.heap.size+1,0,none⟩ 1 1 [.slice (some ⟨g8,0,none⟩) 1 c8] rfl rfl ?_ ?_ ?_ ?_ ?_ ?_)
      ·intro j u h
       have:=one_new (w8.alloc (.cells #[.slice (some ⟨g8,0,none⟩) 1 c8] 71)) (.slice (some ⟨g8,0,none⟩) 1 c8) 71 j u h
       rw [World.size_alloc] at this
       exact this
      ·simp [Value.oneCell']
      ·unfold maxLen;omega
      ·omega
      ·have:=(HP.out.below HB9.out).B.size;simp at this ⊢;omega
      ·intro v9 w9 hown9 hgrow9 hnil9 hat9
       have HP9:=hide (HP.out.pushV HB9.out HG8.out HV9.out hown9 hgrow9 (by rw [World.size_alloc,World.size_alloc];exact hat9))
       clear hown9 hgrow9 hnil9 hat9
       go_wp2
       go_roundw
       case rel=>exact ⟨i+1,_,_,_,by omega,by go_num,by rw [HCS.out,HTK.out];exact HP9.out⟩
       case measure=>simp [intOf];omega
     ·have hb9:Below w7.heap.size w7 (w8.alloc (.cells #[.slice none 0 0] 71)):=hb8.alloc hb8.size _
      have HP9:=hide (HP.out.below hb9)
      have HCS:Hid (csOf ((ks.take (i+1)).map (Fd.fold O f))=csOf dd):=hide (by rw [HTK.out,cs_snoc,if_neg hc8,List.append_nil])
      clear hb8 hb9 HC hc8
      go_wp2
      go_roundw
      case rel=>exact ⟨i+1,_,_,_,by omega,by go_num,by rw [HCS.out,HTK.out];exact HP9.out⟩
      case measure=>simp [intOf];omega
   ·obtain rfl:i=ks.length:=by omega
    have hL2:=HL.out
    rw [List.take_length] at hL2
    have hlsl:(ks.map (Fd.fold O f)).length=ks.length:=List.length_map _
    have hgl:∀ t∈ks.map (Fd.fold O f),Fd.Good t:=fun t ht=>by
     obtain ⟨u,hu,rfl⟩:=List.mem_map.1 ht
     exact Fd.good_fold HFI.out f u (HGK.out u hu)
    have hlc:Fd.Loc x (ks.map (Fd.fold O f)):=HLO.out.len hlsl
    have hszl:Fd.sizeL (ks.map (Fd.fold O f))≤Fd.sizeL ks:=Fd.size_map_le (F:=Fd.fold O f) ks (fun t _=>Fd.size_fold O f t)
    obtain ⟨ls,hls⟩:∃ ls,ls=ks.map (Fd.fold O f):=⟨_,rfl⟩
    rw [← hls] at hL2 hlsl hgl hlc hszl
    have HLE:=hide hls
    have HF:=hide hL2
    have HGL:=hide hgl
    have HLC:=hide hlc
    have hb:=hL2.B
    clear HL hls hL2 hgl hlc
    obtain ⟨sbp,sbc,hsb⟩:=row_formF HF.out.row
    obtain ⟨vp,vc,hvv⟩:=row_formF HF.out.vrow
    subst hsb hvv
    have k0:=(HX.out.below hb).c0
    have k1:=(HX.out.below hb).c1
    have k6:=(HX.out.below hb).c6
    have b5:=HF.out.ln.c5
    have hcsl:=HF.out.vals.len
    have HBW:=hide hb
    clear hb
    have hkd:=HLC.out.low
    by_cases e6:x.kind=6
    ·exact absurd HKD.out (by omega)
    ·by_cases e7:x.kind=7
     ·have t6:(x.kind == 6)=false:=by simpa using e6
      have t7:(x.kind == 7)=true:=by simpa using e7
      obtain ⟨hl2,ho1,ho2⟩:=HLC.out.bin e7
      have HCSL:=hide hcsl
      clear hcsl
      have hk2:ks.length=2:=by omega
      obtain ⟨k,l,hk⟩:∃ k l,ls=[k,l]:=by
       match ls,hl2 with
       | [k,l],_=>exact ⟨k,l,rfl⟩
      obtain ⟨sg,sgc,hsg⟩:=row_posF HF.out.row (by omega)
      cases hsg
      have HLK:=hide hk
      obtain ⟨a0,s0,q0⟩:=HF.out.kid 0 (by omega)
      have s0:wr.cell? ⟨sg,0,none⟩=some (pt a0):=s0
      have g0:ls[0]=k:=by simp only [hk];rfl
      rw [g0] at q0
      obtain ⟨rsl,hroot,_⟩:=at_root q0
      have r0:=hroot.c0
      have r1:=hroot.c1
      have r2:=hroot.c2
      have r3:=hroot.c3
      have r4:=hroot.c4
      have HQ0:=hide q0
      have HGk:=hide (HGL.out k (by rw [hk];simp))
      have HGl:=hide (HGL.out l (by rw [hk];simp))
      have HSG:=hide (HF.out.row.lt sg rfl).2
      have hb1:Below wr.heap.size wr (wr.alloc (ndO5 k.x)):=bA _
      have HB1:=hide hb1
      have k1a:=(HX.out.below (HF.out.below hb1).B).c1
      clear q0 hroot g0 hk hb1
      go_upto_region 21 with fail
      have HK2:=hide hk2
      have HHL:=hide (And.intro hl2 hlsl)
      clear hk2 hl2 hlsl
      go_cut [147] from 119 to 147 (fun v147 wx=>v147 = .bool (decide (Fd.stops x.op k.x))∧wx=wr.alloc (ndO5 k.x))
      case first =>
       by_cases h2:k.x.kind=2
       ·have u0:(k.x.kind == 2)=true:=by simpa using h2
        have hcn:=(HGk.out.const (by unfold Fd.isC;omega)).1
        by_cases o1:x.op=1
        ·have u1:(x.op == 1)=true:=by simpa using o1
         have u2:(x.op == 2)=false:=by simpa using (by omega:x.op≠2)
         rcases hcn.bit h2 with hn | hn
         ·have u3:(k.x.n == 1)=false:=by simpa using (by omega:k.x.n≠1)
          have hd:decide (Fd.stops x.op k.x)=false:=decide_eq_false (by unfold Fd.stops;omega)
          have HD:=hide hd
          clear h2 hcn o1 hn hd
          go_wp2_with fail
          go_meet
          case rel=>exact ⟨by rw [HD.out],rfl⟩
         ·have u3:(k.x.n == 1)=true:=by simpa using hn
          have hd:decide (Fd.stops x.op k.x)=true:=decide_eq_true (by unfold Fd.stops;omega)
          have HD:=hide hd
          clear h2 hcn o1 hn hd
          go_wp2_with fail
          go_meet
          case rel=>exact ⟨by rw [HD.out],rfl⟩
        ·have u1:(x.op == 1)=false:=by simpa using o1
         by_cases o2:x.op=2
         ·have u2:(x.op == 2)=true:=by simpa using o2
          rcases hcn.bit h2 with hn | hn
          ·have u3:(k.x.n == 0)=true:=by simpa using hn
           have hd:decide (Fd.stops x.op k.x)=true:=decide_eq_true (by unfold Fd.stops;omega)
           have HD:=hide hd
           clear h2 hcn o1 hn hd o2
           go_wp2_with fail
           go_meet
           case rel=>exact ⟨by rw [HD.out],rfl⟩
          ·have u3:(k.x.n == 0)=false:=by simpa using (by omega:k.x.n≠0)
           have hd:decide (Fd.stops x.op k.x)=false:=decide_eq_false (by unfold Fd.stops;omega)
           have HD:=hide hd
           clear h2 hcn o1 hn hd o2
           go_wp2_with fail
           go_meet
           case rel=>exact ⟨by rw [HD.out],rfl⟩
         ·have u2:(x.op == 2)=false:=by simpa using o2
          have hd:decide (Fd.stops x.op k.x)=false:=decide_eq_false (by unfold Fd.stops;omega)
          have HD:=hide hd
          clear h2 hcn o1 hd o2
          go_wp2_with fail
          go_meet
          case rel=>exact ⟨by rw [HD.out],rfl⟩
       ·have u0:(k.x.kind == 2)=false:=by simpa using h2
        have hd:decide (Fd.stops x.op k.x)=false:=decide_eq_false (by unfold Fd.stops;omega)
        have HD:=hide hd
        clear h2 hd
        go_wp2_with fail
        go_meet
        case rel=>exact ⟨by rw [HD.out],rfl⟩
      case rest =>
       obtain ⟨rfl,hwc⟩:=hcut
       have HF1:=hide (HF.out.below HB1.out)
       have z0:=(HB1.out.cell (p:=⟨sg,0,none⟩) HSG.out).trans s0
       have z5:=HF1.out.ln.c5
       rw [← hwc] at z0 z5 HF1 k1a HB1
       clear hwc b5 s0 r0 r1 r2 r3 r4 k0 k1 k6
       have hk2:=HK2.out
       have hl2:=HHL.out.1
       by_cases hst:Fd.stops x.op k.x
       ·have HFIN:Hid (Fd.fin O (Fd.fold O f) x p b ls=k):=hide (by unfold Fd.fin;rw [if_neg e6,if_pos e7,HLK.out];simp only;rw [if_pos hst])
        rw [decide_eq_true hst]
        clear hst
        go_wp2
        go_ret
        refine ⟨a0,rfl,?_,HF1.out.B⟩
        rw [← HLE.out,HFIN.out]
        exact HQ0.out.go (fun q e=>⟨e.1,Nat.lt_of_lt_of_le e.2 HB1.out.size⟩) (fun q e=>HB1.out.block q e.2)
       ·rw [decide_eq_false hst]
        by_cases hcc:Fd.isC k.x∧Fd.isC l.x
        ·obtain ⟨hc,hd⟩:=hcc
         have hcs:csOf ls=[k.x,l.x]:=by rw [HLK.out];unfold csOf;simp [hc,hd]
         have hv:=HF1.out.vals
         have hcsl:=HCSL.out
         rw [hcs] at hv hcsl
         obtain ⟨g0,cc0,g1,cc1,hx0,hv0,hv1⟩:=VL.two hv
         have hxl:xs.length=2:=hcsl
         obtain ⟨vg,vcc,hvg⟩:=row_posF HF1.out.vrow (by omega)
         cases hvg
         have v0c:wc.cell? ⟨vg,0,none⟩=some (.slice (some ⟨g0,0,none⟩) 1 cc0):=row_cellF HF1.out.vrow (by rw [hx0];rfl)
         have v1c:wc.cell? ⟨vg,1,none⟩=some (.slice (some ⟨g1,0,none⟩) 1 cc1):=row_cellF HF1.out.vrow (by rw [hx0];rfl)
         have HUN:Hid (∀ w',Below wc.heap.size wc w'→Calls Tryz.prog 32 #[.int .i64 x.op,.agg #[.slice (some ⟨g0,0,none⟩) 1 cc0],.agg #[.slice (some ⟨g1,0,none⟩) 1 cc1]] w' fun e w''=>∃ r,e = .returned r∧∃ p m c s q,r = .tuple #[.agg #[.slice p m c],.string s]∧VR w'' (.agg #[.slice p m c]) q∧Fd.okC q=O.bin x.op k.x l.x∧Below w'.heap.size w' w''):=hide (fun w' hb=>(HOS.out.bin x.op k.x l.x _ _ w' (HGk.out.const hc).1 (HGl.out.const hd).1 (hv0.below hb) (hv1.below hb) ho1 ho2).mono (fun _ _ ⟨p,m,c,s,q,h1,h2,h3,h4⟩=>⟨_,h1,p,m,c,s,q,rfl,h2,h3,h4⟩))
         have HC1:Hid (Below wc.heap.size wc wc.drew):=hide (Below.refl _ _).drew
         have HC2:Hid (Below wc.heap.size wc (wc.alloc (.cells #[.slice none 0 0] 71)).drew):=hide (bA _).drew
         have k1b:=(HC2.out.cell (p:=⟨a,1,none⟩) (Nat.lt_of_lt_of_le HX.out.lt HF1.out.B.size)).trans k1a
         have v0a:=(HC2.out.cell (p:=⟨vg,0,none⟩) (HF1.out.vrow.lt vg rfl).2).trans v0c
         have v1a:=(HC2.out.cell (p:=⟨vg,1,none⟩) (HF1.out.vrow.lt vg rfl).2).trans v1c
         rw [World.cell?_drew] at k1b v0a v1a
         clear hcs hv hv0 hv1 hx0
         go_upto_region 24 with fail
         have hb9:((xs.length:Int) == 2)=true:=by rw [hxl];rfl
         try simp only [hb9]
         clear hb9
         have hx0i:0 < xs.length:=by omega
         have hx0j:(0:Int) < (xs.length:Int):=by omega
         have hx1i:1 < xs.length:=by omega
         have hx1j:(1:Int) < (xs.length:Int):=by omega
         clear hxl hk2 hcsl hl2
         go_cut [15,16] from 155 to 169 (fun v15 v16 wx=>∃ bx p m c q,v15=pt bx∧wx.cell? ⟨bx,0,none⟩=some (.slice p m c)∧VR wx (.agg #[.slice p m c]) q∧Fd.okC q=O.bin x.op k.x l.x∧Below wc.heap.size wc wx)
         case first =>
          go_region_law (first
           | (refine step_callF rfl 32 [.tmp 160,.tmp 163,.tmp 166] _ rfl [.int .i64 x.op,.agg #[.slice (some ⟨g0,0,none⟩) 1 cc0],.agg #[.slice (some ⟨g1,0,none⟩) 1 cc1]] (by simp [Act.eval]) Tryz.f32 Tryz.func32 (by kernel_rfl) (by kernel_rfl) _ (HUN.out _ HC1.out) ?_;rintro r w5 ⟨p5,m5,c5,s5,q5,rfl,hv5,ho5,hb5⟩;have HZ:=hide (And.intro hv5 (And.intro ho5 (And.intro (HC1.out.trans (hb5.mono HC1.out.size)) (HC1.out.trans (hb5.mono HC1.out.size)).size)));clear hv5 ho5 hb5)
           | (refine step_callF rfl 32 [.tmp 160,.tmp 163,.tmp 166] _ rfl [.int .i64 x.op,.agg #[.slice (some ⟨g0,0,none⟩) 1 cc0],.agg #[.slice (some ⟨g1,0,none⟩) 1 cc1]] (by simp [Act.eval]) Tryz.f32 Tryz.func32 (by kernel_rfl) (by kernel_rfl) _ (HUN.out _ HC2.out) ?_;rintro r w5 ⟨p5,m5,c5,s5,q5,rfl,hv5,ho5,hb5⟩;have y1:=(hb5.cell (p:=⟨wc.heap.size,0,none⟩) (by simp)).trans (box_new wc (.slice none 0 0) 71).1;have y2:=(hb5.frozen (p:=⟨wc.heap.size,0,none⟩) (by simp)).trans (box_new wc (.slice none 0 0) 71).2;have HZ:=hide (And.intro hv5 (And.intro ho5 (And.intro (HC2.out.trans (hb5.mono HC2.out.size)) (HC2.out.trans (hb5.mono HC2.out.size)).size)));clear hv5 ho5 hb5))
          all_goals
           go_wp2_with fail
           go_meet
           case rel =>
            first
             | exact ⟨_,p5,m5,c5,q5,rfl,by simp,HZ.out.1.below (bA _),HZ.out.2.1,HZ.out.2.2.1.alloc HZ.out.2.2.2 _⟩
             | exact ⟨wc.heap.size,p5,m5,c5,q5,rfl,set_same y1,HZ.out.1.setS y1,HZ.out.2.1,HZ.out.2.2.1.setCell (Nat.le_refl _) _⟩
         case rest =>
          obtain ⟨bx,p5,m5,c5,q5,rfl,x0,hv5,ho5,hb5⟩:=hcut
          have HBK:=hide (back_any _ q5 _ hv5)
          have HFc:=hide (HF1.out.below hb5)
          have HO5:=hide ho5
          clear hv5 ho5 hb5 HUN HC1 HC2
          go_wp2_with fail
          refine HBK.out.mono ?_
          rintro e w6 ⟨hb6,hm6⟩
          rw [HO5.out] at hm6
          have HF6:=hide (HFc.out.below hb6)
          cases hun:O.bin x.op k.x l.x with
          | none =>
           rw [hun] at hm6
           obtain ⟨pp,rfl⟩:=hm6
           have HFIN:Hid (Fd.fin O (Fd.fold O f) x p b ls = .mk x p b ls):=hide (by unfold Fd.fin;rw [if_neg e6,if_pos e7,HLK.out];simp only;rw [if_neg hst,if_pos ⟨hc,hd⟩,hun];rfl)
           clear hb6 HBK hun
           go_wp2
           go_ret
           refine ⟨bo,rfl,?_,HF6.out.B⟩
           rw [← HLE.out,HFIN.out]
           exact HF6.out.end_
          | some cc6 =>
           rw [hun] at hm6
           obtain ⟨a6,rfl,hat6⟩:=hm6
           have HFIN:Hid (Fd.fin O (Fd.fold O f) x p b ls=Fd.one cc6):=hide (by unfold Fd.fin;rw [if_neg e6,if_pos e7,HLK.out];simp only;rw [if_neg hst,if_pos ⟨hc,hd⟩,hun];rfl)
           have HAT6:=hide hat6
           clear hb6 HBK hun hat6
           go_wp2
           go_ret
           refine ⟨a6,rfl,?_,HF6.out.B⟩
           rw [← HLE.out,HFIN.out]
           exact HAT6.out.go (fun q e=>⟨by have:=HFc.out.B.size;omega,e.2⟩) (fun _ _=>rfl)
        ·have hne:xs.length≠2:=by
          have hcsl:=HCSL.out
          rw [HLK.out] at hcsl
          unfold csOf at hcsl
          by_cases hc:Fd.isC k.x
          ·by_cases hd:Fd.isC l.x
           ·exact absurd ⟨hc,hd⟩ hcc
           ·simp [hc,hd] at hcsl;omega
          ·by_cases hd:Fd.isC l.x
           ·simp [hc,hd] at hcsl;omega
           ·simp [hc,hd] at hcsl;simp [hcsl]
         have hall:((xs.length:Int) == 2)=false:=by simpa using (by omega:(xs.length:Int)≠2)
         have HFIN:Hid (Fd.fin O (Fd.fold O f) x p b ls = .mk x p b ls):=hide (by unfold Fd.fin;rw [if_neg e6,if_pos e7,HLK.out];simp only;rw [if_neg hst,if_neg hcc])
         clear hcc hst hne
         go_wp2
         go_ret
         refine ⟨bo,rfl,?_,HF1.out.B⟩
         rw [← HLE.out,HFIN.out]
         exact HF1.out.end_
     ·by_cases e13:x.kind=13
      ·exact absurd HKD.out (by omega)
      ·by_cases e14:x.kind=14
       ·exact absurd HKD.out (by omega)
       ·exact absurd HKD.out (by omega)
end Go.Proofs.YthbojbbmpcmoaaaGreatDoor
