/- Gp5. -/
import Derived.Test.YtbckhbeebngjfaaGreatDoorT45
namespace Go.Proofs.YtbckhbeebngjfaaGreatDoor
open Go.RowKit
set_option maxRecDepth 100000 in
set_option maxHeartbeats 16000000 in
theorem sp_5 [Inhabited Bs] (z:Nat) (hz5:z=5∨z=6∨z=7) (rb:Nat) (vb:Value) (n q:Nat) (l:List Tr.Nd) (w:World) (g c ob og oc xb k:Nat) (x0:Tr.Nd) (wc:World) (_hl:l.length≤300000) (_hq:q≤700000000) (_hl1:((l.length:Int) == 0)=false) (_hlp:(0:Int) < (l.length:Int)) (_hk:k < l.length) (_hrw:rb < w.heap.size) (_HSH:Hid (Sh l)) (HS4:Hid (SP rb vb n w (.slice (some ⟨g,0,none⟩) l.length c) l w.heap.size (w.heap.size+1) ob (q+3) (.slice (some ⟨og,0,none⟩) l.length oc) l wc)) (HX4:Hid (XN w xb (.slice (some ⟨og,0,none⟩) l.length oc) x0 wc))
  {s1 s2 s14 s15 s16 s17 s18 s19 s20 s21 s22 s23 s24 s25 s26 s27 s28 s29 s30 s31 s32 s33 s34 s35 s36 s37 s38 u9 u10 u11 u12 u13 u40 u41 u42 u43 u44 u45 u46 u47 u48 u49 u50 u51 u52 u53 u54 u55 u56 u57 u58 u59 u60 u61 u62 u63 u64 u65 u66 u67 u68 u69 u70 u71 u72 u73 u74 u75 u76 u77 u78 u79 u80 u81 u82 u83 u84 u85 u86 u87 u88 u89 u90 u91 u92 u93 u94 u95 u96 u97 u98 u99 u100 u101 u102 u103 u104 u105 u106 u107 u108 u109 u110 u111 u112 u113 u114 u115 u116 u117 u118 u119 u120 u121 u122 u123 u124 u125 u126 u127 u128 u129 u130 u131 u132 u133 u134 u135 u136 u137 u138 u139 u140 u141 u142 u143 u144 u145 u146 u147 u148 u149 u150 u151 u152 u153 u154 u155 u156 u157 u158 u159 u160 u161 u162 u163 u164 u165 u166 u167 u168 u169 u170 u171 u172 u173 u174 u175 u176 u177 u178 u179 u180 u181 u182 u183 u184 u185 u186 u187 u188 u189 u190 u191 u192 u193 u194 u195 u196 u197 u198 u199 u200:Value} (J K':Act→World→Prop)
  (hJ:spJ rb vb n q l w g c ob og oc xb k s1 s2 s14 s15 s16 s17 s18 s19 s20 s21 s22 s23 s24 s25 s26 s27 s28 s29 s30 s31 s32 s33 s34 s35 s36 s37 s38 J)
  (hM:∀ (a':Act) (w':World),Met J a' w'→K' a' w') (cc:Code) (hcc:(Tryz.f40.body.bind swOf)=some cc) :
  Code.wp Tryz.prog cc (Exit.then K' (bodyPost Tryz.prog Tryz.f40 fun e w'=>∃ v' l',e = .returned (.agg #[v'])∧NR w' v' l'∧l'.length≤l.length+1∧Rq rb vb n (q+10) w'∧Tf w w')) {tmps:=#[.pointer (some ⟨rb,0,none⟩),s1,s2,.pointer (some ⟨w.heap.size,0,none⟩),.pointer (some ⟨w.heap.size+1,0,none⟩),.pointer (some ⟨ob,0,none⟩),.int .i64 (l.length:Int),.int .i64 (k:Int),.pointer (some ⟨xb,0,none⟩),u9,u10,u11,u12,u13,s14,s15,s16,s17,s18,s19,s20,s21,s22,s23,s24,s25,s26,s27,s28,s29,s30,s31,s32,s33,s34,s35,s36,s37,s38,.int .i64 (z:Int),u40,u41,u42,u43,u44,u45,u46,u47,u48,u49,u50,u51,u52,u53,u54,u55,u56,u57,u58,u59,u60,u61,u62,u63,u64,u65,u66,u67,u68,u69,u70,u71,u72,u73,u74,u75,u76,u77,u78,u79,u80,u81,u82,u83,u84,u85,u86,u87,u88,u89,u90,u91,u92,u93,u94,u95,u96,u97,u98,u99,u100,u101,u102,u103,u104,u105,u106,u107,u108,u109,u110,u111,u112,u113,u114,u115,u116,u117,u118,u119,u120,u121,u122,u123,u124,u125,u126,u127,u128,u129,u130,u131,u132,u133,u134,u135,u136,u137,u138,u139,u140,u141,u142,u143,u144,u145,u146,u147,u148,u149,u150,u151,u152,u153,u154,u155,u156,u157,u158,u159,u160,u161,u162,u163,u164,u165,u166,u167,u168,u169,u170,u171,u172,u173,u174,u175,u176,u177,u178,u179,u180,u181,u182,u183,u184,u185,u186,u187,u188,u189,u190,u191,u192,u193,u194,u195,u196,u197,u198,u199,u200],defers:=[]} wc:=by
 obtain ⟨iN,hNi,hNz,hNs,hNb⟩:=info_parts Tryz.infoNdP
 refine wp_at (o:=Tryz.f40.body.bind swOf) rfl ?_ cc hcc
 unfold spJ at hJ
 clear hcc
 have e0:((z:Int) == 0)=false:=beq_eq_false_iff_ne.2 (by omega)
 have e1:((z:Int) == 1)=false:=beq_eq_false_iff_ne.2 (by omega)
 have e2:((z:Int) == 2)=false:=beq_eq_false_iff_ne.2 (by omega)
 have e3:((z:Int) == 3)=false:=beq_eq_false_iff_ne.2 (by omega)
 have e4:((z:Int) == 4)=false:=beq_eq_false_iff_ne.2 (by omega)
 obtain ⟨wk,hwk⟩:∃ x,x=wc:=⟨wc,rfl⟩
 subst hwk
 go_upto_if 95 with fail
 go_cut [95] from 96 to 98 (fun v wx=>v = .bool true∧wx=wk)
 case first =>
  clear e0 e1 e2 e3 e4
  rcases hz5 with rfl | rfl | rfl
  all_goals
   go_wp2_with fail
   go_meet
   case rel=>exact ⟨rfl,rfl⟩
 case rest =>
  obtain ⟨rfl,rfl⟩:=hcut
  clear e0 e1 e2 e3 e4 hz5
  go_wp2_with fail
  go_loopw [9,10] (fun tv _ wr=>∃ i:Nat,i≤l.length∧tv = .int .i64 (i:Int)∧SP rb vb n w (.slice (some ⟨g,0,none⟩) l.length c) l w.heap.size (w.heap.size+1) ob (q+3) (.slice (some ⟨og,0,none⟩) l.length oc) l wr∧XN w xb (.slice (some ⟨og,0,none⟩) l.length oc) x0 wr) (fun tv _ _=>l.length - (intOf tv).toNat)
  case atStart=>exact ⟨0,Nat.zero_le _,rfl,HS4.out,HX4.out⟩
  case round =>
   obtain ⟨i,hi,rfl,hSr,hXr⟩:=hrel
   have HSr:=hide hSr
   have HXr:=hide hXr
   clear hSr hXr
   by_cases hlt:i < l.length
   ·have hlti:(i:Int) < (l.length:Int):=by omega
    have hj:(k+i) % l.length < l.length:=Nat.mod_lt _ (by omega)
    have e1:((k:Int)+(i:Int)) % (l.length:Int)=(((k+i) % l.length:Nat):Int):=by simp
    have e2:((k:Int)+(i:Int)).tmod (l.length:Int)=(((k+i) % l.length:Nat):Int):=by rw [Int.tmod_eq_emod_of_nonneg (by omega)];exact e1
    have e3:IntKind.i64.wrap ((k:Int)+(i:Int))=(k:Int)+(i:Int):=by rw [IntKind.wrap_i64];omega
    generalize (k+i) % l.length=j at *
    have hjl:(j:Int) < (l.length:Int):=by omega
    have o5:=HSr.out.cells.2.2.1
    have q0:=(HSr.out.node hj).1
    generalize l[j].kind=kj at q0
    go_upto_region 27 with fail
    go_cut [133] from 99 to 144 (fun v wx=>∃ b,v = .bool b∧SP rb vb n w (.slice (some ⟨g,0,none⟩) l.length c) l w.heap.size (w.heap.size+1) ob (q+3) (.slice (some ⟨og,0,none⟩) l.length oc) l wx∧XN w xb (.slice (some ⟨og,0,none⟩) l.length oc) x0 wx)
    case first =>
     by_cases h5:kj=5
     ·subst h5
      go_wp2_with fail
      go_meet
      case rel=>exact ⟨_,rfl,HSr.out,HXr.out⟩
     ·have h5b:(kj == 5)=false:=by simpa using h5
      by_cases h14:kj=14
      ·subst h14
       go_wp2_with fail
       go_meet
       case rel=>exact ⟨_,rfl,HSr.out,HXr.out⟩
      ·have h14b:(kj == 14)=false:=by simpa using h14
       go_wp2_with fail
       refine (in_any _ _ _ _).mono ?_
       rintro e wq ⟨rfl,rfl⟩
       go_wp2_with fail
       go_meet
       case rel=>exact ⟨_,rfl,HSr.out,HXr.out⟩
    case rest =>
     obtain ⟨b,rfl,hS6,hX6⟩:=hcut
     have HS6:=hide hS6
     have HX6:=hide hX6
     clear hS6 hX6 HSr HXr q0 o5
     cases b
     ·go_wp2
      go_roundw
      case rel=>exact ⟨i+1,by omega,by go_num,HS6.out,HX6.out⟩
      case measure=>simp [intOf];omega
     ·have BD:Below wc.heap.size wc wc.drew:=(Below.refl _ _).drew
      have BL:Below wc.heap.size wc (wc.alloc (.cells #[.string ⟨#[110,49]⟩,.string ⟨#[110,50]⟩,.string ⟨#[112,48]⟩,.string ⟨#[112,49]⟩,.string ⟨#[115,48]⟩,.string ⟨#[115,49]⟩,.string ⟨#[102,48]⟩,.string ⟨#[110,111,110,101,95,115,117,99,104]⟩] 9)).drew:=(bA _).drew
      have HSd:=hide (HS6.out.below BD)
      have HSL:=hide (HS6.out.below BL)
      have od:=HSd.out.cells.2.2.1
      have oL:=HSL.out.cells.2.2.1
      have HLL:Hid ((wc.alloc (.cells #[.string ⟨#[110,49]⟩,.string ⟨#[110,50]⟩,.string ⟨#[112,48]⟩,.string ⟨#[112,49]⟩,.string ⟨#[115,48]⟩,.string ⟨#[115,49]⟩,.string ⟨#[102,48]⟩,.string ⟨#[110,111,110,101,95,115,117,99,104]⟩] 9)).drew.ownsRow 0 9 1 (.slice (some ⟨wc.heap.size,0,none⟩) 8 8) 8 [.string ⟨#[110,49]⟩,.string ⟨#[110,50]⟩,.string ⟨#[112,48]⟩,.string ⟨#[112,49]⟩,.string ⟨#[115,48]⟩,.string ⟨#[115,49]⟩,.string ⟨#[102,48]⟩,.string ⟨#[110,111,110,101,95,115,117,99,104]⟩]):=hide (World.ownsRow_lit (base:=0) (e:=9) (size:=1) wc #[.string ⟨#[110,49]⟩,.string ⟨#[110,50]⟩,.string ⟨#[112,48]⟩,.string ⟨#[112,49]⟩,.string ⟨#[115,48]⟩,.string ⟨#[115,49]⟩,.string ⟨#[102,48]⟩,.string ⟨#[110,111,110,101,95,115,117,99,104]⟩] 8 (Nat.zero_le _) (by unfold maxLen;omega) rfl)
      clear BD BL
      go_upto_region 28 with fail
      go_cut [] from 99 to 144 (fun wx=>∃ t:Short,SP rb vb n w (.slice (some ⟨g,0,none⟩) l.length c) l w.heap.size (w.heap.size+1) ob (q+4) (.slice (some ⟨og,0,none⟩) l.length oc) (l.set j {l[j] with text:=t.val}) wx)
      case first =>
       go_region_law (first
        | ((with_reducible refine world_is ((wc.alloc (.cells #[.string ⟨#[110,49]⟩,.string ⟨#[110,50]⟩,.string ⟨#[112,48]⟩,.string ⟨#[112,49]⟩,.string ⟨#[115,48]⟩,.string ⟨#[115,49]⟩,.string ⟨#[102,48]⟩,.string ⟨#[110,111,110,101,95,115,117,99,104]⟩] 9)).drew) ?_);refine step_call2E rfl 8 (.tmp 138) (.const (.int .i64 8)) _ _ rfl (.pointer (some ⟨rb,0,none⟩)) (.int .i64 8) (by first | (simp [Act.eval];done) | simp [Act.eval,Act.put]) (by first | (simp [Act.eval];done) | simp [Act.eval,Act.put]) Tryz.f8 Tryz.func8 (by kernel_rfl) (by kernel_rfl) _ (Rq.pick_ex HSL.out.r (by omega) 8 (by omega) (by omega)) ?_;intro v10 w10 h10;obtain ⟨zq,hzq,hv10,hr10,ht10⟩:=h10;subst hv10;have HS8:=hide (HSL.out.ty ht10 hr10);obtain ⟨u,hu⟩:=short8 zq (by omega);have o8:=HS8.out.cells.2.2.1;have n3:=(HS8.out.node hj).2.2.2.1;have nf:=(HS8.out.node hj).2.2.2.2.2 (j*5+3);have HL9:=row_ty HLL.out ht10 (by unfold Mine;simp);have cl:=row_cellsC HL9 hu;clear hr10 ht10 hu HL9)
        | ((with_reducible refine world_is (wc.drew) ?_);refine step_call2E rfl 8 (.tmp 138) (.const (.int .i64 8)) _ _ rfl (.pointer (some ⟨rb,0,none⟩)) (.int .i64 8) (by first | (simp [Act.eval];done) | simp [Act.eval,Act.put]) (by first | (simp [Act.eval];done) | simp [Act.eval,Act.put]) Tryz.f8 Tryz.func8 (by kernel_rfl) (by kernel_rfl) _ (Rq.pick_ex HSd.out.r (by omega) 8 (by omega) (by omega)) ?_;intro v10 w10 h10;obtain ⟨zq,hzq,hv10,hr10,ht10⟩:=h10;subst hv10;have HS8:=hide (HSd.out.ty ht10 hr10);obtain ⟨u,hu⟩:=short8 zq (by omega);have o8:=HS8.out.cells.2.2.1;have n3:=(HS8.out.node hj).2.2.2.1;have nf:=(HS8.out.node hj).2.2.2.2.2 (j*5+3);have HSA:=hide (HS8.out.below (bA (.cells #[.string ⟨#[110,49]⟩,.string ⟨#[110,50]⟩,.string ⟨#[112,48]⟩,.string ⟨#[112,49]⟩,.string ⟨#[115,48]⟩,.string ⟨#[115,49]⟩,.string ⟨#[102,48]⟩,.string ⟨#[110,111,110,101,95,115,117,99,104]⟩] 9)));have clA:=row_cellsC (World.ownsRow_lit (base:=0) (e:=9) (size:=1) w10 #[.string ⟨#[110,49]⟩,.string ⟨#[110,50]⟩,.string ⟨#[112,48]⟩,.string ⟨#[112,49]⟩,.string ⟨#[115,48]⟩,.string ⟨#[115,49]⟩,.string ⟨#[102,48]⟩,.string ⟨#[110,111,110,101,95,115,117,99,104]⟩] 8 (Nat.zero_le _) (by unfold maxLen;omega) rfl) hu;have oA:=HSA.out.cells.2.2.1;have nA3:=(HSA.out.node hj).2.2.2.1;have nAf:=(HSA.out.node hj).2.2.2.2.2 (j*5+3);clear hr10 ht10 hu))
       all_goals
        go_wp2_with fail
        go_meet
        case rel=>first | exact ⟨u,HS8.out.putT u.val u.2 hj⟩ | exact ⟨u,HSA.out.putT u.val u.2 hj⟩
      case rest =>
       obtain ⟨t,hS7⟩:=hcut
       have HS7:=hide hS7
       have o7:=hS7.cells.2.2.1
       have HE9:=hide (HS7.out.ret (l':=l.set j {l[j] with text:=t.val}) ⟨rowLeC HS7.out.out (Nat.zero_le _),HS7.out.sh⟩)
       obtain ⟨_,t0,_,ft,_⟩:=HS7.out.cells
       go_wp2
       exact bodyPost_ret (v:= .agg #[(.slice (some ⟨og,0,none⟩) l.length oc)]) (by simp [results,Tryz.results40,go_sem,t0]) rfl (by first | exact ⟨_,_,rfl,HE9.out.1,(by rw [List.length_set];omega),HE9.out.2.1.mono (by omega),HE9.out.2.2⟩ | exact ⟨_,rfl,_,HE9.out.1,(by rw [List.length_set];omega),HE9.out.2.1.mono (by omega),HE9.out.2.2⟩)
   ·have hnl:¬ (i:Int) < (l.length:Int):=by omega
    go_wp2_with fail
    go_meet
    case rel=>exact ⟨x0,HSr.out.mono (by omega),HXr.out⟩
end Go.Proofs.YtbckhbeebngjfaaGreatDoor
