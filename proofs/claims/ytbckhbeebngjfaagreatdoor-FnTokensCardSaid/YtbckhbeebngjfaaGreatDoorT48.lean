/- Gp9. -/
import Derived.Test.YtbckhbeebngjfaaGreatDoorT45
namespace Go.Proofs.YtbckhbeebngjfaaGreatDoor
open Go.RowKit
set_option maxRecDepth 100000 in
set_option maxHeartbeats 16000000 in
theorem sp_9 [Inhabited Bs] (rb:Nat) (vb:Value) (n q:Nat) (l:List Tr.Nd) (w:World) (g c ob og oc xb k:Nat) (x0:Tr.Nd) (wc:World) (_hl:l.length≤300000) (_hq:q≤700000000) (_hl1:((l.length:Int) == 0)=false) (_hlp:(0:Int) < (l.length:Int)) (hk:k < l.length) (_hrw:rb < w.heap.size) (HSH:Hid (Sh l)) (HS4:Hid (SP rb vb n w (.slice (some ⟨g,0,none⟩) l.length c) l w.heap.size (w.heap.size+1) ob (q+3) (.slice (some ⟨og,0,none⟩) l.length oc) l wc)) (_HX4:Hid (XN w xb (.slice (some ⟨og,0,none⟩) l.length oc) x0 wc))
  {s1 s2 s14 s15 s16 s17 s18 s19 s20 s21 s22 s23 s24 s25 s26 s27 s28 s29 s30 s31 s32 s33 s34 s35 s36 s37 s38 u9 u10 u11 u12 u13 u40 u41 u42 u43 u44 u45 u46 u47 u48 u49 u50 u51 u52 u53 u54 u55 u56 u57 u58 u59 u60 u61 u62 u63 u64 u65 u66 u67 u68 u69 u70 u71 u72 u73 u74 u75 u76 u77 u78 u79 u80 u81 u82 u83 u84 u85 u86 u87 u88 u89 u90 u91 u92 u93 u94 u95 u96 u97 u98 u99 u100 u101 u102 u103 u104 u105 u106 u107 u108 u109 u110 u111 u112 u113 u114 u115 u116 u117 u118 u119 u120 u121 u122 u123 u124 u125 u126 u127 u128 u129 u130 u131 u132 u133 u134 u135 u136 u137 u138 u139 u140 u141 u142 u143 u144 u145 u146 u147 u148 u149 u150 u151 u152 u153 u154 u155 u156 u157 u158 u159 u160 u161 u162 u163 u164 u165 u166 u167 u168 u169 u170 u171 u172 u173 u174 u175 u176 u177 u178 u179 u180 u181 u182 u183 u184 u185 u186 u187 u188 u189 u190 u191 u192 u193 u194 u195 u196 u197 u198 u199 u200:Value} (J K':Act→World→Prop)
  (hJ:spJ rb vb n q l w g c ob og oc xb k s1 s2 s14 s15 s16 s17 s18 s19 s20 s21 s22 s23 s24 s25 s26 s27 s28 s29 s30 s31 s32 s33 s34 s35 s36 s37 s38 J)
  (_hM:∀ (a':Act) (w':World),Met J a' w'→K' a' w') (cc:Code) (hcc:(Tryz.f40.body.bind swOf)=some cc) :
  Code.wp Tryz.prog cc (Exit.then K' (bodyPost Tryz.prog Tryz.f40 fun e w'=>∃ v' l',e = .returned (.agg #[v'])∧NR w' v' l'∧l'.length≤l.length+1∧Rq rb vb n (q+10) w'∧Tf w w')) {tmps:=#[.pointer (some ⟨rb,0,none⟩),s1,s2,.pointer (some ⟨w.heap.size,0,none⟩),.pointer (some ⟨w.heap.size+1,0,none⟩),.pointer (some ⟨ob,0,none⟩),.int .i64 (l.length:Int),.int .i64 (k:Int),.pointer (some ⟨xb,0,none⟩),u9,u10,u11,u12,u13,s14,s15,s16,s17,s18,s19,s20,s21,s22,s23,s24,s25,s26,s27,s28,s29,s30,s31,s32,s33,s34,s35,s36,s37,s38,.int .i64 ((9:Nat):Int),u40,u41,u42,u43,u44,u45,u46,u47,u48,u49,u50,u51,u52,u53,u54,u55,u56,u57,u58,u59,u60,u61,u62,u63,u64,u65,u66,u67,u68,u69,u70,u71,u72,u73,u74,u75,u76,u77,u78,u79,u80,u81,u82,u83,u84,u85,u86,u87,u88,u89,u90,u91,u92,u93,u94,u95,u96,u97,u98,u99,u100,u101,u102,u103,u104,u105,u106,u107,u108,u109,u110,u111,u112,u113,u114,u115,u116,u117,u118,u119,u120,u121,u122,u123,u124,u125,u126,u127,u128,u129,u130,u131,u132,u133,u134,u135,u136,u137,u138,u139,u140,u141,u142,u143,u144,u145,u146,u147,u148,u149,u150,u151,u152,u153,u154,u155,u156,u157,u158,u159,u160,u161,u162,u163,u164,u165,u166,u167,u168,u169,u170,u171,u172,u173,u174,u175,u176,u177,u178,u179,u180,u181,u182,u183,u184,u185,u186,u187,u188,u189,u190,u191,u192,u193,u194,u195,u196,u197,u198,u199,u200],defers:=[]} wc:=by
 obtain ⟨iN,hNi,hNz,hNs,hNb⟩:=info_parts Tryz.infoNdP
 refine wp_at (o:=Tryz.f40.body.bind swOf) rfl ?_ cc hcc
 unfold spJ at hJ
 clear hcc
 have BD:Below wc.heap.size wc wc.drew:=(Below.refl _ _).drew
 have BL:Below wc.heap.size wc (wc.alloc (.cells #[] 82)).drew:=(bA _).drew
 have HSd:=hide (HS4.out.below BD)
 have HSL:=hide (HS4.out.below BL)
 have od:=HSd.out.cells.2.2.1
 have oL:=HSL.out.cells.2.2.1
 have HRE:Hid ((wc.alloc (.cells #[] 82)).drew.ownsRow wc.heap.size 82 5 (.slice (some ⟨wc.heap.size,0,none⟩) 0 0) 0 []):=hide (World.ownsRow_lit (base:=wc.heap.size) (e:=82) (size:=5) wc #[] 0 (Nat.le_refl _) (Nat.zero_le _) rfl)
 have HC1:Hid (∀ (j:Nat) (u:Value),(Tr.cellsOf (l.take k))[j]?=some u→(wc.alloc (.cells #[] 82)).drew.cell? ((⟨og,0,none⟩:Addr).add j)=some u):=hide (fun j u hu=>World.ownsRow.cells HSL.out.out rfl j u (by rw [cells_split5 l k hk];rw [List.getElem?_append_left (List.getElem?_eq_some_iff.1 hu).1];exact hu))
 have HB:=hide BL
 have hszE:wc.heap.size≤(wc.alloc (.cells #[] 82)).drew.heap.size:=BL.size
 have hocl:l.length≤oc:=(row_cap HSL.out.out).1
 have hocm:oc≤9223372036854775807:=by have:=(row_cap HSL.out.out).2;unfold maxLen at this;omega
 have htk:=take_len5 l k hk
 have hk1:((k:Int)+1)≤(l.length:Int):=by omega
 have hkn:(k:Int) < (l.length:Int):=by omega
 have hk01:(0:Int)≤(k:Int)+1:=by omega
 have hwk:IntKind.i64.wrap ((k:Int)+1)=(k:Int)+1:=by rw [IntKind.wrap_i64];omega
 clear BD BL
 have hkoc:k≤oc:=by omega
 have hkoc1:k+1≤oc:=by omega
 by_cases hce:oc=k+1
 ·subst hce
  have hkk:(k:Int)≤(k:Int)+1:=by omega
  go_upto_region 8 with fail
  go_cut [] from 39 to 200 (fun wx=>∃ ov' l',SP rb vb n w (.slice (some ⟨g,0,none⟩) l.length c) l w.heap.size (w.heap.size+1) ob (q+3) ov' l' wx∧l'.length≤l.length∧∃ p m c',ov' = .slice p m c')
  case first =>
   go_region_law (first
    | (refine step_append_ownP rfl (.tmp 40) (.tmp 44) 48 rfl wc.heap.size 82 iN _ 5 48 Tryz.underlying48 hNi hNz hNs hNb rfl (by decide) (.slice (some ⟨wc.heap.size,0,none⟩) 0 0) 0 [] (by first | (simp [Act.eval];done) | simp [Act.eval,Act.put]) HRE.out ⟨og,0,none⟩ k (k+1) (Tr.cellsOf (l.take k)) (by first | (simp [Act.eval];done) | simp [Act.eval,Act.put]) htk HC1.out (cells_oneC _) (by unfold maxLen;omega) (by omega) hszE ?_;intro v1 w1 r1 r2 r3 r4;rw [Nat.zero_add,List.nil_append] at r1;have B1:=HB.out.grown r2 HB.out.size (fun q e=>by cases e;exact Nat.le_refl _);have HS1:=hide (HS4.out.below B1);have HR1:=hide r1;have HB1:=hide B1;obtain ⟨p1,c1,hv1⟩:=row_formP r1;subst hv1;have o1:=HS1.out.cells.2.2.1;clear r1 r2 r3 r4 B1)
    | (refine step_append_ownP rfl (.tmp 45) (.tmp 50) 48 rfl wc.heap.size 82 iN _ 5 48 Tryz.underlying48 hNi hNz hNs hNb rfl (by decide) (.slice p1 k c1) k (Tr.cellsOf (l.take k)) (by first | (simp [Act.eval];done) | simp [Act.eval,Act.put]) HR1.out ⟨og,0,none⟩ 0 0 ([]:List Value) (by first | (simp [Act.eval];done) | (simp [Act.eval,Act.put];done) | (simp [Act.eval];omega) | (simp [Act.eval,Act.put];omega)) rfl (by intro j u hu;cases hu) (by intro u hu;cases hu) (by unfold maxLen;omega) (by omega) HB1.out.size ?_;intro v2 w2 s1 s2 s3 s4;rw [Nat.add_zero,List.append_nil] at s1;have B2:=HB1.out.grown s2 HB1.out.size (fun q e=>(HR1.out.lt q e).1);have HS2:=hide (HS4.out.below B2);obtain ⟨p2,c2,hv2⟩:=row_formP s1;subst hv2;have HR2:=hide s1;have o2:=HS2.out.cells.2.2.1;have f2:=HS2.out.cells.2.2.2.2;clear s1 s2 s3 s4 B2))
   all_goals
    have hll:(l.take k).length=k:=by rw [List.length_take];omega
    have HS3:=hide (HS2.out.setOut (ov':= .slice p2 k c2) (l':=l.take k) (by rw [hll];exact rowLeC HR2.out HS4.out.tf.size) (fun x hx=>HSH.out x (List.mem_of_mem_take hx)))
    go_wp2_with fail
    go_meet
    case rel=>exact ⟨_,l.take k,HS3.out,(by rw [List.length_take];omega),_,_,_,rfl⟩
  case rest =>
   obtain ⟨ov',l',hS9,hl9,pp9,mm9,cc9,rfl⟩:=hcut
   have HS9:=hide hS9
   have o9:=hS9.cells.2.2.1
   have HE9:=hide (HS9.out.ret (l':=l') ⟨rowLeC HS9.out.out (Nat.zero_le _),HS9.out.sh⟩)
   obtain ⟨_,t0,_,ft,_⟩:=HS9.out.cells
   go_wp2
   exact bodyPost_ret (v:= .agg #[.slice pp9 mm9 cc9]) (by simp [results,Tryz.results40,go_sem,t0]) rfl (by first | exact ⟨_,_,rfl,HE9.out.1,(by omega),HE9.out.2.1.mono (by omega),HE9.out.2.2⟩ | exact ⟨_,rfl,_,HE9.out.1,(by omega),HE9.out.2.1.mono (by omega),HE9.out.2.2⟩)
 ·go_upto_region 8 with fail
  go_cut [] from 39 to 200 (fun wx=>∃ ov' l',SP rb vb n w (.slice (some ⟨g,0,none⟩) l.length c) l w.heap.size (w.heap.size+1) ob (q+3) ov' l' wx∧l'.length≤l.length∧∃ p m c',ov' = .slice p m c')
  case first =>
   go_region_law (first
    | (refine step_append_ownP rfl (.tmp 40) (.tmp 44) 48 rfl wc.heap.size 82 iN _ 5 48 Tryz.underlying48 hNi hNz hNs hNb rfl (by decide) (.slice (some ⟨wc.heap.size,0,none⟩) 0 0) 0 [] (by first | (simp [Act.eval];done) | simp [Act.eval,Act.put]) HRE.out ⟨og,0,none⟩ k oc (Tr.cellsOf (l.take k)) (by first | (simp [Act.eval];done) | simp [Act.eval,Act.put]) htk HC1.out (cells_oneC _) (by unfold maxLen;omega) (by omega) hszE ?_;intro v1 w1 r1 r2 r3 r4;rw [Nat.zero_add,List.nil_append] at r1;have B1:=HB.out.grown r2 HB.out.size (fun q e=>by cases e;exact Nat.le_refl _);have HS1:=hide (HS4.out.below B1);have HR1:=hide r1;have HB1:=hide B1;obtain ⟨p1,c1,hv1⟩:=row_formP r1;subst hv1;have o1:=HS1.out.cells.2.2.1;have HC2:Hid (∀ (j:Nat) (u:Value),(Tr.cellsOf (l.drop (k+1)))[j]?=some u→w1.cell? ((⟨og,(k+1)*5,none⟩:Addr).add j)=some u):=hide (fun j u hu=>cells_drop HS1.out.out (by omega) j u hu);clear r1 r2 r3 r4 B1)
    | (refine step_append_ownP rfl (.tmp 45) (.tmp 50) 48 rfl wc.heap.size 82 iN _ 5 48 Tryz.underlying48 hNi hNz hNs hNb rfl (by decide) (.slice p1 k c1) k (Tr.cellsOf (l.take k)) (by first | (simp [Act.eval];done) | simp [Act.eval,Act.put]) HR1.out ⟨og,(k+1)*5,none⟩ (l.length - (k+1)) (oc - (k+1)) (Tr.cellsOf (l.drop (k+1))) (by first | (simp [Act.eval];done) | simp [Act.eval,Act.put]) (by rw [cellsOf_len5,List.length_drop]) HC2.out (cells_oneC _) (by unfold maxLen;omega) (by omega) HB1.out.size ?_;intro v2 w2 s1 s2 s3 s4;have B2:=HB1.out.grown s2 HB1.out.size (fun q e=>(HR1.out.lt q e).1);have HS2:=hide (HS4.out.below B2);obtain ⟨p2,c2,hv2⟩:=row_formP s1;subst hv2;have HR2:=hide s1;have o2:=HS2.out.cells.2.2.1;have f2:=HS2.out.cells.2.2.2.2;clear s1 s2 s3 s4 B2))
   all_goals
    have hll:(l.take k++l.drop (k+1)).length=k+(l.length - (k+1)):=by rw [List.length_append,List.length_take,List.length_drop];omega
    have HS3:=hide (HS2.out.setOut (ov':= .slice p2 (k+(l.length - (k+1))) c2) (l':=l.take k++l.drop (k+1)) (by rw [hll,cellsOf_app];exact rowLeC HR2.out HS4.out.tf.size) (sh_app (fun x hx=>HSH.out x (List.mem_of_mem_take hx)) (fun x hx=>HSH.out x (List.mem_of_mem_drop hx))))
    go_wp2_with fail
    go_meet
    case rel=>exact ⟨_,_,HS3.out,(by rw [List.length_append,List.length_take,List.length_drop];omega),_,_,_,rfl⟩
  case rest =>
   obtain ⟨ov',l',hS9,hl9,pp9,mm9,cc9,rfl⟩:=hcut
   have HS9:=hide hS9
   have o9:=hS9.cells.2.2.1
   have HE9:=hide (HS9.out.ret (l':=l') ⟨rowLeC HS9.out.out (Nat.zero_le _),HS9.out.sh⟩)
   obtain ⟨_,t0,_,ft,_⟩:=HS9.out.cells
   go_wp2
   exact bodyPost_ret (v:= .agg #[.slice pp9 mm9 cc9]) (by simp [results,Tryz.results40,go_sem,t0]) rfl (by first | exact ⟨_,_,rfl,HE9.out.1,(by omega),HE9.out.2.1.mono (by omega),HE9.out.2.2⟩ | exact ⟨_,rfl,_,HE9.out.1,(by omega),HE9.out.2.1.mono (by omega),HE9.out.2.2⟩)
end Go.Proofs.YtbckhbeebngjfaaGreatDoor
