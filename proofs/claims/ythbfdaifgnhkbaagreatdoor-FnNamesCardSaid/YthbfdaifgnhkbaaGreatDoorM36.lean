/- Gp2, Gp3, Gp4. -/
import Derived.Test.YthbfdaifgnhkbaaGreatDoorM35
namespace Go.Proofs.YthbfdaifgnhkbaaGreatDoor
open Go.RowKit
set_option maxRecDepth 100000 in
set_option maxHeartbeats 16000000 in
theorem sp_2 [Inhabited Bs] (rb:Nat) (vb:Value) (n q:Nat) (l:List Tr.Nd) (w:World) (g c ob og oc xb k:Nat) (x0:Tr.Nd) (wc:World) (_hl:l.length≤300000) (_hq:q≤700000000) (_hl1:((l.length:Int) == 0)=false) (_hlp:(0:Int) < (l.length:Int)) (_hk:k < l.length) (_hrw:rb < w.heap.size) (_HSH:Hid (Sh l)) (HS4:Hid (SP rb vb n w (.slice (some ⟨g,0,none⟩) l.length c) l w.heap.size (w.heap.size+1) ob (q+3) (.slice (some ⟨og,0,none⟩) l.length oc) l wc)) (HX4:Hid (XN w xb (.slice (some ⟨og,0,none⟩) l.length oc) x0 wc))
  {s1 s2 s14 s15 s16 s17 s18 s19 s20 s21 s22 s23 s24 s25 s26 s27 s28 s29 s30 s31 s32 s33 s34 s35 s36 s37 s38 u9 u10 u11 u12 u13 u40 u41 u42 u43 u44 u45 u46 u47 u48 u49 u50 u51 u52 u53 u54 u55 u56 u57 u58 u59 u60 u61 u62 u63 u64 u65 u66 u67 u68 u69 u70 u71 u72 u73 u74 u75 u76 u77 u78 u79 u80 u81 u82 u83 u84 u85 u86 u87 u88 u89 u90 u91 u92 u93 u94 u95 u96 u97 u98 u99 u100 u101 u102 u103 u104 u105 u106 u107 u108 u109 u110 u111 u112 u113 u114 u115 u116 u117 u118 u119 u120 u121 u122 u123 u124 u125 u126 u127 u128 u129 u130 u131 u132 u133 u134 u135 u136 u137 u138 u139 u140 u141 u142 u143 u144 u145 u146 u147 u148 u149 u150 u151 u152 u153 u154 u155 u156 u157 u158 u159 u160 u161 u162 u163 u164 u165 u166 u167 u168 u169 u170 u171 u172 u173 u174 u175 u176 u177 u178 u179 u180 u181 u182 u183 u184 u185 u186 u187 u188 u189 u190 u191 u192 u193 u194 u195 u196 u197 u198 u199 u200:Value} (J K':Act→World→Prop)
  (hJ:∀ (a':Act) (w':World),(∃ u9 u10 u11 u12 u13 u39 u40 u41 u42 u43 u44 u45 u46 u47 u48 u49 u50 u51 u52 u53 u54 u55 u56 u57 u58 u59 u60 u61 u62 u63 u64 u65 u66 u67 u68 u69 u70 u71 u72 u73 u74 u75 u76 u77 u78 u79 u80 u81 u82 u83 u84 u85 u86 u87 u88 u89 u90 u91 u92 u93 u94 u95 u96 u97 u98 u99 u100 u101 u102 u103 u104 u105 u106 u107 u108 u109 u110 u111 u112 u113 u114 u115 u116 u117 u118 u119 u120 u121 u122 u123 u124 u125 u126 u127 u128 u129 u130 u131 u132 u133 u134 u135 u136 u137 u138 u139 u140 u141 u142 u143 u144 u145 u146 u147 u148 u149 u150 u151 u152 u153 u154 u155 u156 u157 u158 u159 u160 u161 u162 u163 u164 u165 u166 u167 u168 u169 u170 u171 u172 u173 u174 u175 u176 u177 u178 u179 u180 u181 u182 u183 u184 u185 u186 u187 u188 u189 u190 u191 u192 u193 u194 u195 u196 u197 u198 u199 u200:Value,(∃ x,SP rb vb n w (.slice (some ⟨g,0,none⟩) l.length c) l w.heap.size (w.heap.size+1) ob (q+6) (.slice (some ⟨og,0,none⟩) l.length oc) l w'∧XN w xb (.slice (some ⟨og,0,none⟩) l.length oc) x w')∧a'={tmps:=#[.pointer (some ⟨rb,0,none⟩),s1,s2,.pointer (some ⟨w.heap.size,0,none⟩),.pointer (some ⟨w.heap.size+1,0,none⟩),.pointer (some ⟨ob,0,none⟩),.int .i64 (l.length:Int),.int .i64 (k:Int),.pointer (some ⟨xb,0,none⟩),u9,u10,u11,u12,u13,s14,s15,s16,s17,s18,s19,s20,s21,s22,s23,s24,s25,s26,s27,s28,s29,s30,s31,s32,s33,s34,s35,s36,s37,s38,u39,u40,u41,u42,u43,u44,u45,u46,u47,u48,u49,u50,u51,u52,u53,u54,u55,u56,u57,u58,u59,u60,u61,u62,u63,u64,u65,u66,u67,u68,u69,u70,u71,u72,u73,u74,u75,u76,u77,u78,u79,u80,u81,u82,u83,u84,u85,u86,u87,u88,u89,u90,u91,u92,u93,u94,u95,u96,u97,u98,u99,u100,u101,u102,u103,u104,u105,u106,u107,u108,u109,u110,u111,u112,u113,u114,u115,u116,u117,u118,u119,u120,u121,u122,u123,u124,u125,u126,u127,u128,u129,u130,u131,u132,u133,u134,u135,u136,u137,u138,u139,u140,u141,u142,u143,u144,u145,u146,u147,u148,u149,u150,u151,u152,u153,u154,u155,u156,u157,u158,u159,u160,u161,u162,u163,u164,u165,u166,u167,u168,u169,u170,u171,u172,u173,u174,u175,u176,u177,u178,u179,u180,u181,u182,u183,u184,u185,u186,u187,u188,u189,u190,u191,u192,u193,u194,u195,u196,u197,u198,u199,u200],defers:=[]})→J a' w')
  (hM:∀ (a':Act) (w':World),Met J a' w'→K' a' w') (cc:Code) (hcc:(Tryz.f20.body.bind swOf)=some cc) :
  Code.wp Tryz.prog cc (Exit.then K' (bodyPost Tryz.prog Tryz.f20 fun e w'=>∃ v' l',e = .returned (.agg #[v'])∧NR w' v' l'∧l'.length≤l.length+1∧Rq rb vb n (q+10) w'∧Tf w w')) {tmps:=#[.pointer (some ⟨rb,0,none⟩),s1,s2,.pointer (some ⟨w.heap.size,0,none⟩),.pointer (some ⟨w.heap.size+1,0,none⟩),.pointer (some ⟨ob,0,none⟩),.int .i64 (l.length:Int),.int .i64 (k:Int),.pointer (some ⟨xb,0,none⟩),u9,u10,u11,u12,u13,s14,s15,s16,s17,s18,s19,s20,s21,s22,s23,s24,s25,s26,s27,s28,s29,s30,s31,s32,s33,s34,s35,s36,s37,s38,.int .i64 ((2:Nat):Int),u40,u41,u42,u43,u44,u45,u46,u47,u48,u49,u50,u51,u52,u53,u54,u55,u56,u57,u58,u59,u60,u61,u62,u63,u64,u65,u66,u67,u68,u69,u70,u71,u72,u73,u74,u75,u76,u77,u78,u79,u80,u81,u82,u83,u84,u85,u86,u87,u88,u89,u90,u91,u92,u93,u94,u95,u96,u97,u98,u99,u100,u101,u102,u103,u104,u105,u106,u107,u108,u109,u110,u111,u112,u113,u114,u115,u116,u117,u118,u119,u120,u121,u122,u123,u124,u125,u126,u127,u128,u129,u130,u131,u132,u133,u134,u135,u136,u137,u138,u139,u140,u141,u142,u143,u144,u145,u146,u147,u148,u149,u150,u151,u152,u153,u154,u155,u156,u157,u158,u159,u160,u161,u162,u163,u164,u165,u166,u167,u168,u169,u170,u171,u172,u173,u174,u175,u176,u177,u178,u179,u180,u181,u182,u183,u184,u185,u186,u187,u188,u189,u190,u191,u192,u193,u194,u195,u196,u197,u198,u199,u200],defers:=[]} wc:=by
 obtain ⟨iN,hNi,hNz,hNs,hNb⟩:=info_parts Tryz.infoNdP
 refine wp_at (o:=Tryz.f20.body.bind swOf) rfl ?_ cc hcc
 clear hcc
 have BL:Below wc.heap.size wc (wc.alloc (.cells #[.int .i64 (-1),.int .i64 0,.int .i64 1,.int .i64 2] 2)):=bA _
 have HSL:=X1 (HS4.out.below BL)
 have HXL:=X1 (HX4.out.below BL)
 have HLL:=X1 (World.ownsRow_lit (base:=0) (e:=2) (size:=1) wc #[.int .i64 (-1),.int .i64 0,.int .i64 1,.int .i64 2] 4 (Nat.zero_le _) (by unfold maxLen;omega) rfl)
 clear BL
 go_wp2_with fail
 refine (Rq.pick HSL.out.r (by omega) 4 (by omega) (by omega)).mono ?_
 rintro e w10 ⟨zq,hzq,rfl,hr10,ht10⟩
 have HS8:=X1 (HSL.out.ty ht10 hr10)
 have HX8:=X1 (HXL.out.ty ht10)
 have HL9:=X1 (XH HLL.out ht10 (by unfold Mine;simp))
 clear hr10 ht10
 obtain ⟨u,hu⟩:∃ u,([.int .i64 (-1),.int .i64 0,.int .i64 1,.int .i64 2]:List Value)[zq]?=some (.int .i64 u):=by
  have hz2:zq=0∨zq=1∨zq=2∨zq=3:=by omega
  rcases hz2 with rfl | rfl | rfl | rfl <;> exact ⟨_,rfl⟩
 have cl:=XO HL9.out hu
 clear hu
 obtain ⟨y0,y1,y2,y3,y4,yf⟩:=HX8.out.cells
 have yfo:=yf 2
 have HS9:=X1 (HS8.out.setX HX8.out 2 (.int .i64 u))
 have HX9:=X1 (HX8.out.set 2 (.int .i64 u) ⟨x0.kind,x0.op,u,x0.text,x0.kids⟩ rfl HX8.out.sh)
 clear yf
 go_wp2_with fail
 go_meet
 case rel=>exact ⟨_,HS9.out.mono (by omega),HX9.out⟩
set_option maxRecDepth 100000 in
set_option maxHeartbeats 16000000 in
theorem sp_3 [Inhabited Bs] (rb:Nat) (vb:Value) (n q:Nat) (l:List Tr.Nd) (w:World) (g c ob og oc xb k:Nat) (x0:Tr.Nd) (wc:World) (_hl:l.length≤300000) (_hq:q≤700000000) (_hl1:((l.length:Int) == 0)=false) (_hlp:(0:Int) < (l.length:Int)) (_hk:k < l.length) (_hrw:rb < w.heap.size) (_HSH:Hid (Sh l)) (HS4:Hid (SP rb vb n w (.slice (some ⟨g,0,none⟩) l.length c) l w.heap.size (w.heap.size+1) ob (q+3) (.slice (some ⟨og,0,none⟩) l.length oc) l wc)) (HX4:Hid (XN w xb (.slice (some ⟨og,0,none⟩) l.length oc) x0 wc))
  {s1 s2 s14 s15 s16 s17 s18 s19 s20 s21 s22 s23 s24 s25 s26 s27 s28 s29 s30 s31 s32 s33 s34 s35 s36 s37 s38 u9 u10 u11 u12 u13 u40 u41 u42 u43 u44 u45 u46 u47 u48 u49 u50 u51 u52 u53 u54 u55 u56 u57 u58 u59 u60 u61 u62 u63 u64 u65 u66 u67 u68 u69 u70 u71 u72 u73 u74 u75 u76 u77 u78 u79 u80 u81 u82 u83 u84 u85 u86 u87 u88 u89 u90 u91 u92 u93 u94 u95 u96 u97 u98 u99 u100 u101 u102 u103 u104 u105 u106 u107 u108 u109 u110 u111 u112 u113 u114 u115 u116 u117 u118 u119 u120 u121 u122 u123 u124 u125 u126 u127 u128 u129 u130 u131 u132 u133 u134 u135 u136 u137 u138 u139 u140 u141 u142 u143 u144 u145 u146 u147 u148 u149 u150 u151 u152 u153 u154 u155 u156 u157 u158 u159 u160 u161 u162 u163 u164 u165 u166 u167 u168 u169 u170 u171 u172 u173 u174 u175 u176 u177 u178 u179 u180 u181 u182 u183 u184 u185 u186 u187 u188 u189 u190 u191 u192 u193 u194 u195 u196 u197 u198 u199 u200:Value} (J K':Act→World→Prop)
  (hJ:∀ (a':Act) (w':World),(∃ u9 u10 u11 u12 u13 u39 u40 u41 u42 u43 u44 u45 u46 u47 u48 u49 u50 u51 u52 u53 u54 u55 u56 u57 u58 u59 u60 u61 u62 u63 u64 u65 u66 u67 u68 u69 u70 u71 u72 u73 u74 u75 u76 u77 u78 u79 u80 u81 u82 u83 u84 u85 u86 u87 u88 u89 u90 u91 u92 u93 u94 u95 u96 u97 u98 u99 u100 u101 u102 u103 u104 u105 u106 u107 u108 u109 u110 u111 u112 u113 u114 u115 u116 u117 u118 u119 u120 u121 u122 u123 u124 u125 u126 u127 u128 u129 u130 u131 u132 u133 u134 u135 u136 u137 u138 u139 u140 u141 u142 u143 u144 u145 u146 u147 u148 u149 u150 u151 u152 u153 u154 u155 u156 u157 u158 u159 u160 u161 u162 u163 u164 u165 u166 u167 u168 u169 u170 u171 u172 u173 u174 u175 u176 u177 u178 u179 u180 u181 u182 u183 u184 u185 u186 u187 u188 u189 u190 u191 u192 u193 u194 u195 u196 u197 u198 u199 u200:Value,(∃ x,SP rb vb n w (.slice (some ⟨g,0,none⟩) l.length c) l w.heap.size (w.heap.size+1) ob (q+6) (.slice (some ⟨og,0,none⟩) l.length oc) l w'∧XN w xb (.slice (some ⟨og,0,none⟩) l.length oc) x w')∧a'={tmps:=#[.pointer (some ⟨rb,0,none⟩),s1,s2,.pointer (some ⟨w.heap.size,0,none⟩),.pointer (some ⟨w.heap.size+1,0,none⟩),.pointer (some ⟨ob,0,none⟩),.int .i64 (l.length:Int),.int .i64 (k:Int),.pointer (some ⟨xb,0,none⟩),u9,u10,u11,u12,u13,s14,s15,s16,s17,s18,s19,s20,s21,s22,s23,s24,s25,s26,s27,s28,s29,s30,s31,s32,s33,s34,s35,s36,s37,s38,u39,u40,u41,u42,u43,u44,u45,u46,u47,u48,u49,u50,u51,u52,u53,u54,u55,u56,u57,u58,u59,u60,u61,u62,u63,u64,u65,u66,u67,u68,u69,u70,u71,u72,u73,u74,u75,u76,u77,u78,u79,u80,u81,u82,u83,u84,u85,u86,u87,u88,u89,u90,u91,u92,u93,u94,u95,u96,u97,u98,u99,u100,u101,u102,u103,u104,u105,u106,u107,u108,u109,u110,u111,u112,u113,u114,u115,u116,u117,u118,u119,u120,u121,u122,u123,u124,u125,u126,u127,u128,u129,u130,u131,u132,u133,u134,u135,u136,u137,u138,u139,u140,u141,u142,u143,u144,u145,u146,u147,u148,u149,u150,u151,u152,u153,u154,u155,u156,u157,u158,u159,u160,u161,u162,u163,u164,u165,u166,u167,u168,u169,u170,u171,u172,u173,u174,u175,u176,u177,u178,u179,u180,u181,u182,u183,u184,u185,u186,u187,u188,u189,u190,u191,u192,u193,u194,u195,u196,u197,u198,u199,u200],defers:=[]})→J a' w')
  (hM:∀ (a':Act) (w':World),Met J a' w'→K' a' w') (cc:Code) (hcc:(Tryz.f20.body.bind swOf)=some cc) :
  Code.wp Tryz.prog cc (Exit.then K' (bodyPost Tryz.prog Tryz.f20 fun e w'=>∃ v' l',e = .returned (.agg #[v'])∧NR w' v' l'∧l'.length≤l.length+1∧Rq rb vb n (q+10) w'∧Tf w w')) {tmps:=#[.pointer (some ⟨rb,0,none⟩),s1,s2,.pointer (some ⟨w.heap.size,0,none⟩),.pointer (some ⟨w.heap.size+1,0,none⟩),.pointer (some ⟨ob,0,none⟩),.int .i64 (l.length:Int),.int .i64 (k:Int),.pointer (some ⟨xb,0,none⟩),u9,u10,u11,u12,u13,s14,s15,s16,s17,s18,s19,s20,s21,s22,s23,s24,s25,s26,s27,s28,s29,s30,s31,s32,s33,s34,s35,s36,s37,s38,.int .i64 ((3:Nat):Int),u40,u41,u42,u43,u44,u45,u46,u47,u48,u49,u50,u51,u52,u53,u54,u55,u56,u57,u58,u59,u60,u61,u62,u63,u64,u65,u66,u67,u68,u69,u70,u71,u72,u73,u74,u75,u76,u77,u78,u79,u80,u81,u82,u83,u84,u85,u86,u87,u88,u89,u90,u91,u92,u93,u94,u95,u96,u97,u98,u99,u100,u101,u102,u103,u104,u105,u106,u107,u108,u109,u110,u111,u112,u113,u114,u115,u116,u117,u118,u119,u120,u121,u122,u123,u124,u125,u126,u127,u128,u129,u130,u131,u132,u133,u134,u135,u136,u137,u138,u139,u140,u141,u142,u143,u144,u145,u146,u147,u148,u149,u150,u151,u152,u153,u154,u155,u156,u157,u158,u159,u160,u161,u162,u163,u164,u165,u166,u167,u168,u169,u170,u171,u172,u173,u174,u175,u176,u177,u178,u179,u180,u181,u182,u183,u184,u185,u186,u187,u188,u189,u190,u191,u192,u193,u194,u195,u196,u197,u198,u199,u200],defers:=[]} wc:=by
 obtain ⟨iN,hNi,hNz,hNs,hNb⟩:=info_parts Tryz.infoNdP
 refine wp_at (o:=Tryz.f20.body.bind swOf) rfl ?_ cc hcc
 clear hcc
 have HM:=X1 (many31 wc)
 go_wp2_with fail
 refine HM.out.mono ?_
 rintro e w9 ⟨tx,rfl,rfl⟩
 have BL:Below w9.heap.size w9 (w9.alloc (.cells #[.string ⟨#[]⟩,.string ⟨#[110,49]⟩,.string ⟨#[112,48]⟩,.string ⟨#[115,48]⟩,.string ⟨#[102,48]⟩,.string ⟨#[108,101,116]⟩,.string ⟨#[57,120]⟩,.string ⟨#[65]⟩,.string ⟨#[108,101,110]⟩,.string tx.val] 9)):=bA _
 have HSL:=X1 (HS4.out.below BL)
 have HXL:=X1 (HX4.out.below BL)
 have HLL:=X1 (World.ownsRow_lit (base:=0) (e:=9) (size:=1) w9 #[.string ⟨#[]⟩,.string ⟨#[110,49]⟩,.string ⟨#[112,48]⟩,.string ⟨#[115,48]⟩,.string ⟨#[102,48]⟩,.string ⟨#[108,101,116]⟩,.string ⟨#[57,120]⟩,.string ⟨#[65]⟩,.string ⟨#[108,101,110]⟩,.string tx.val] 10 (Nat.zero_le _) (by unfold maxLen;omega) rfl)
 clear BL HM
 go_wp2_with fail
 refine (Rq.pick HSL.out.r (by omega) 10 (by omega) (by omega)).mono ?_
 rintro e w10 ⟨zq,hzq,rfl,hr10,ht10⟩
 have HS8:=X1 (HSL.out.ty ht10 hr10)
 have HX8:=X1 (HXL.out.ty ht10)
 have HL9:=X1 (XH HLL.out ht10 (by unfold Mine;simp))
 clear hr10 ht10
 obtain ⟨u,hu⟩:=short10 tx zq (by omega)
 have cl:=XO HL9.out hu
 clear hu
 obtain ⟨y0,y1,y2,y3,y4,yf⟩:=HX8.out.cells
 have yfo:=yf 3
 have HS9:=X1 (HS8.out.setX HX8.out 3 (.string u.val))
 have HX9:=X1 (HX8.out.set 3 (.string u.val) ⟨x0.kind,x0.op,x0.n,u.val,x0.kids⟩ rfl u.2)
 clear yf
 go_wp2_with fail
 go_meet
 case rel=>exact ⟨_,HS9.out.mono (by omega),HX9.out⟩
set_option maxRecDepth 100000 in
set_option maxHeartbeats 16000000 in
theorem sp_4 [Inhabited Bs] (rb:Nat) (vb:Value) (n q:Nat) (l:List Tr.Nd) (w:World) (g c ob og oc xb k:Nat) (x0:Tr.Nd) (wc:World) (_hl:l.length≤300000) (_hq:q≤700000000) (_hl1:((l.length:Int) == 0)=false) (_hlp:(0:Int) < (l.length:Int)) (_hk:k < l.length) (_hrw:rb < w.heap.size) (_HSH:Hid (Sh l)) (HS4:Hid (SP rb vb n w (.slice (some ⟨g,0,none⟩) l.length c) l w.heap.size (w.heap.size+1) ob (q+3) (.slice (some ⟨og,0,none⟩) l.length oc) l wc)) (HX4:Hid (XN w xb (.slice (some ⟨og,0,none⟩) l.length oc) x0 wc))
  {s1 s2 s14 s15 s16 s17 s18 s19 s20 s21 s22 s23 s24 s25 s26 s27 s28 s29 s30 s31 s32 s33 s34 s35 s36 s37 s38 u9 u10 u11 u12 u13 u40 u41 u42 u43 u44 u45 u46 u47 u48 u49 u50 u51 u52 u53 u54 u55 u56 u57 u58 u59 u60 u61 u62 u63 u64 u65 u66 u67 u68 u69 u70 u71 u72 u73 u74 u75 u76 u77 u78 u79 u80 u81 u82 u83 u84 u85 u86 u87 u88 u89 u90 u91 u92 u93 u94 u95 u96 u97 u98 u99 u100 u101 u102 u103 u104 u105 u106 u107 u108 u109 u110 u111 u112 u113 u114 u115 u116 u117 u118 u119 u120 u121 u122 u123 u124 u125 u126 u127 u128 u129 u130 u131 u132 u133 u134 u135 u136 u137 u138 u139 u140 u141 u142 u143 u144 u145 u146 u147 u148 u149 u150 u151 u152 u153 u154 u155 u156 u157 u158 u159 u160 u161 u162 u163 u164 u165 u166 u167 u168 u169 u170 u171 u172 u173 u174 u175 u176 u177 u178 u179 u180 u181 u182 u183 u184 u185 u186 u187 u188 u189 u190 u191 u192 u193 u194 u195 u196 u197 u198 u199 u200:Value} (J K':Act→World→Prop)
  (hJ:∀ (a':Act) (w':World),(∃ u9 u10 u11 u12 u13 u39 u40 u41 u42 u43 u44 u45 u46 u47 u48 u49 u50 u51 u52 u53 u54 u55 u56 u57 u58 u59 u60 u61 u62 u63 u64 u65 u66 u67 u68 u69 u70 u71 u72 u73 u74 u75 u76 u77 u78 u79 u80 u81 u82 u83 u84 u85 u86 u87 u88 u89 u90 u91 u92 u93 u94 u95 u96 u97 u98 u99 u100 u101 u102 u103 u104 u105 u106 u107 u108 u109 u110 u111 u112 u113 u114 u115 u116 u117 u118 u119 u120 u121 u122 u123 u124 u125 u126 u127 u128 u129 u130 u131 u132 u133 u134 u135 u136 u137 u138 u139 u140 u141 u142 u143 u144 u145 u146 u147 u148 u149 u150 u151 u152 u153 u154 u155 u156 u157 u158 u159 u160 u161 u162 u163 u164 u165 u166 u167 u168 u169 u170 u171 u172 u173 u174 u175 u176 u177 u178 u179 u180 u181 u182 u183 u184 u185 u186 u187 u188 u189 u190 u191 u192 u193 u194 u195 u196 u197 u198 u199 u200:Value,(∃ x,SP rb vb n w (.slice (some ⟨g,0,none⟩) l.length c) l w.heap.size (w.heap.size+1) ob (q+6) (.slice (some ⟨og,0,none⟩) l.length oc) l w'∧XN w xb (.slice (some ⟨og,0,none⟩) l.length oc) x w')∧a'={tmps:=#[.pointer (some ⟨rb,0,none⟩),s1,s2,.pointer (some ⟨w.heap.size,0,none⟩),.pointer (some ⟨w.heap.size+1,0,none⟩),.pointer (some ⟨ob,0,none⟩),.int .i64 (l.length:Int),.int .i64 (k:Int),.pointer (some ⟨xb,0,none⟩),u9,u10,u11,u12,u13,s14,s15,s16,s17,s18,s19,s20,s21,s22,s23,s24,s25,s26,s27,s28,s29,s30,s31,s32,s33,s34,s35,s36,s37,s38,u39,u40,u41,u42,u43,u44,u45,u46,u47,u48,u49,u50,u51,u52,u53,u54,u55,u56,u57,u58,u59,u60,u61,u62,u63,u64,u65,u66,u67,u68,u69,u70,u71,u72,u73,u74,u75,u76,u77,u78,u79,u80,u81,u82,u83,u84,u85,u86,u87,u88,u89,u90,u91,u92,u93,u94,u95,u96,u97,u98,u99,u100,u101,u102,u103,u104,u105,u106,u107,u108,u109,u110,u111,u112,u113,u114,u115,u116,u117,u118,u119,u120,u121,u122,u123,u124,u125,u126,u127,u128,u129,u130,u131,u132,u133,u134,u135,u136,u137,u138,u139,u140,u141,u142,u143,u144,u145,u146,u147,u148,u149,u150,u151,u152,u153,u154,u155,u156,u157,u158,u159,u160,u161,u162,u163,u164,u165,u166,u167,u168,u169,u170,u171,u172,u173,u174,u175,u176,u177,u178,u179,u180,u181,u182,u183,u184,u185,u186,u187,u188,u189,u190,u191,u192,u193,u194,u195,u196,u197,u198,u199,u200],defers:=[]})→J a' w')
  (hM:∀ (a':Act) (w':World),Met J a' w'→K' a' w') (cc:Code) (hcc:(Tryz.f20.body.bind swOf)=some cc) :
  Code.wp Tryz.prog cc (Exit.then K' (bodyPost Tryz.prog Tryz.f20 fun e w'=>∃ v' l',e = .returned (.agg #[v'])∧NR w' v' l'∧l'.length≤l.length+1∧Rq rb vb n (q+10) w'∧Tf w w')) {tmps:=#[.pointer (some ⟨rb,0,none⟩),s1,s2,.pointer (some ⟨w.heap.size,0,none⟩),.pointer (some ⟨w.heap.size+1,0,none⟩),.pointer (some ⟨ob,0,none⟩),.int .i64 (l.length:Int),.int .i64 (k:Int),.pointer (some ⟨xb,0,none⟩),u9,u10,u11,u12,u13,s14,s15,s16,s17,s18,s19,s20,s21,s22,s23,s24,s25,s26,s27,s28,s29,s30,s31,s32,s33,s34,s35,s36,s37,s38,.int .i64 ((4:Nat):Int),u40,u41,u42,u43,u44,u45,u46,u47,u48,u49,u50,u51,u52,u53,u54,u55,u56,u57,u58,u59,u60,u61,u62,u63,u64,u65,u66,u67,u68,u69,u70,u71,u72,u73,u74,u75,u76,u77,u78,u79,u80,u81,u82,u83,u84,u85,u86,u87,u88,u89,u90,u91,u92,u93,u94,u95,u96,u97,u98,u99,u100,u101,u102,u103,u104,u105,u106,u107,u108,u109,u110,u111,u112,u113,u114,u115,u116,u117,u118,u119,u120,u121,u122,u123,u124,u125,u126,u127,u128,u129,u130,u131,u132,u133,u134,u135,u136,u137,u138,u139,u140,u141,u142,u143,u144,u145,u146,u147,u148,u149,u150,u151,u152,u153,u154,u155,u156,u157,u158,u159,u160,u161,u162,u163,u164,u165,u166,u167,u168,u169,u170,u171,u172,u173,u174,u175,u176,u177,u178,u179,u180,u181,u182,u183,u184,u185,u186,u187,u188,u189,u190,u191,u192,u193,u194,u195,u196,u197,u198,u199,u200],defers:=[]} wc:=by
 obtain ⟨iN,hNi,hNz,hNs,hNb⟩:=info_parts Tryz.infoNdP
 refine wp_at (o:=Tryz.f20.body.bind swOf) rfl ?_ cc hcc
 clear hcc
 have BD:Below wc.heap.size wc wc.drew:=(Below.refl _ _).drew
 have HSd:=X1 (HS4.out.below BD)
 have HXd:=X1 (HX4.out.below BD)
 obtain ⟨y0,y1,y2,y3,y4,yf⟩:=HXd.out.cells
 clear yf BD
 go_wp2_with fail
 go_region_law (first
  | (refine XT rfl 19 (.tmp 90) (.const (.int .i64 3)) _ _ rfl (.pointer (some ⟨rb,0,none⟩)) (.int .i64 3) (by first | (simp [Act.eval];done) | simp [Act.eval,Act.put]) (by first | (simp [Act.eval];done) | simp [Act.eval,Act.put]) Tryz.f19 Tryz.func19 (by kernel_rfl) (by kernel_rfl) _ (Rq.pick_ex HSd.out.r (by omega) 3 (by omega) (by omega)) ?_;intro v10 w10 h10;obtain ⟨zq,hzq,hv10,hr10,ht10⟩:=h10;subst hv10;have HS8:=X1 (HSd.out.ty ht10 hr10);have HX8:=X1 (HXd.out.ty ht10);obtain ⟨z0,z1',z2',z3,z4,zf⟩:=HX8.out.cells;have zfo:=zf 4;clear hr10 ht10 zf))
 all_goals
  have HS9:=X1 (fun z:Int=>HS8.out.setX HX8.out 4 (.int .i64 z))
  have HX9:=X1 (fun z:Int=>HX8.out.set 4 (.int .i64 z) ⟨x0.kind,x0.op,x0.n,x0.text,z⟩ rfl HX8.out.sh)
  go_wp2_with fail
  go_meet
  case rel=>exact ⟨_,(HS9.out _).mono (by omega),HX9.out _⟩
end Go.Proofs.YthbfdaifgnhkbaaGreatDoor
