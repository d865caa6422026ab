/- Gp8. -/
import Derived.Test.YtbckhbeebngjfaaGreatDoorT45
namespace Go.Proofs.YtbckhbeebngjfaaGreatDoor
open Go.RowKit
set_option maxRecDepth 100000 in
set_option maxHeartbeats 16000000 in
theorem sp_8 [Inhabited Bs] (rb:Nat) (vb:Value) (n q:Nat) (l:List Tr.Nd) (w:World) (g c ob og oc xb k:Nat) (x0:Tr.Nd) (wc:World) (_hl:l.length≤300000) (_hq:q≤700000000) (_hl1:((l.length:Int) == 0)=false) (_hlp:(0:Int) < (l.length:Int)) (_hk:k < l.length) (_hrw:rb < w.heap.size) (HSH:Hid (Sh l)) (HS4:Hid (SP rb vb n w (.slice (some ⟨g,0,none⟩) l.length c) l w.heap.size (w.heap.size+1) ob (q+3) (.slice (some ⟨og,0,none⟩) l.length oc) l wc)) (HX4:Hid (XN w xb (.slice (some ⟨og,0,none⟩) l.length oc) x0 wc))
  {s1 s2 s14 s15 s16 s17 s18 s19 s20 s21 s22 s23 s24 s25 s26 s27 s28 s29 s30 s31 s32 s33 s34 s35 s36 s37 s38 u9 u10 u11 u12 u13 u40 u41 u42 u43 u44 u45 u46 u47 u48 u49 u50 u51 u52 u53 u54 u55 u56 u57 u58 u59 u60 u61 u62 u63 u64 u65 u66 u67 u68 u69 u70 u71 u72 u73 u74 u75 u76 u77 u78 u79 u80 u81 u82 u83 u84 u85 u86 u87 u88 u89 u90 u91 u92 u93 u94 u95 u96 u97 u98 u99 u100 u101 u102 u103 u104 u105 u106 u107 u108 u109 u110 u111 u112 u113 u114 u115 u116 u117 u118 u119 u120 u121 u122 u123 u124 u125 u126 u127 u128 u129 u130 u131 u132 u133 u134 u135 u136 u137 u138 u139 u140 u141 u142 u143 u144 u145 u146 u147 u148 u149 u150 u151 u152 u153 u154 u155 u156 u157 u158 u159 u160 u161 u162 u163 u164 u165 u166 u167 u168 u169 u170 u171 u172 u173 u174 u175 u176 u177 u178 u179 u180 u181 u182 u183 u184 u185 u186 u187 u188 u189 u190 u191 u192 u193 u194 u195 u196 u197 u198 u199 u200:Value} (J K':Act→World→Prop)
  (hJ:spJ rb vb n q l w g c ob og oc xb k s1 s2 s14 s15 s16 s17 s18 s19 s20 s21 s22 s23 s24 s25 s26 s27 s28 s29 s30 s31 s32 s33 s34 s35 s36 s37 s38 J)
  (hM:∀ (a':Act) (w':World),Met J a' w'→K' a' w') (cc:Code) (hcc:(Tryz.f40.body.bind swOf)=some cc) :
  Code.wp Tryz.prog cc (Exit.then K' (bodyPost Tryz.prog Tryz.f40 fun e w'=>∃ v' l',e = .returned (.agg #[v'])∧NR w' v' l'∧l'.length≤l.length+1∧Rq rb vb n (q+10) w'∧Tf w w')) {tmps:=#[.pointer (some ⟨rb,0,none⟩),s1,s2,.pointer (some ⟨w.heap.size,0,none⟩),.pointer (some ⟨w.heap.size+1,0,none⟩),.pointer (some ⟨ob,0,none⟩),.int .i64 (l.length:Int),.int .i64 (k:Int),.pointer (some ⟨xb,0,none⟩),u9,u10,u11,u12,u13,s14,s15,s16,s17,s18,s19,s20,s21,s22,s23,s24,s25,s26,s27,s28,s29,s30,s31,s32,s33,s34,s35,s36,s37,s38,.int .i64 ((8:Nat):Int),u40,u41,u42,u43,u44,u45,u46,u47,u48,u49,u50,u51,u52,u53,u54,u55,u56,u57,u58,u59,u60,u61,u62,u63,u64,u65,u66,u67,u68,u69,u70,u71,u72,u73,u74,u75,u76,u77,u78,u79,u80,u81,u82,u83,u84,u85,u86,u87,u88,u89,u90,u91,u92,u93,u94,u95,u96,u97,u98,u99,u100,u101,u102,u103,u104,u105,u106,u107,u108,u109,u110,u111,u112,u113,u114,u115,u116,u117,u118,u119,u120,u121,u122,u123,u124,u125,u126,u127,u128,u129,u130,u131,u132,u133,u134,u135,u136,u137,u138,u139,u140,u141,u142,u143,u144,u145,u146,u147,u148,u149,u150,u151,u152,u153,u154,u155,u156,u157,u158,u159,u160,u161,u162,u163,u164,u165,u166,u167,u168,u169,u170,u171,u172,u173,u174,u175,u176,u177,u178,u179,u180,u181,u182,u183,u184,u185,u186,u187,u188,u189,u190,u191,u192,u193,u194,u195,u196,u197,u198,u199,u200],defers:=[]} wc:=by
 obtain ⟨iN,hNi,hNz,hNs,hNb⟩:=info_parts Tryz.infoNdP
 refine wp_at (o:=Tryz.f40.body.bind swOf) rfl ?_ cc hcc
 unfold spJ at hJ
 clear hcc
 go_wp2_with fail
 go_loopw [11,12,13] (fun tv _ _ wr=>∃ i:Nat,i≤l.length∧tv = .int .i64 (i:Int)∧SP rb vb n w (.slice (some ⟨g,0,none⟩) l.length c) l w.heap.size (w.heap.size+1) ob (q+3) (.slice (some ⟨og,0,none⟩) l.length oc) l wr∧XN w xb (.slice (some ⟨og,0,none⟩) l.length oc) x0 wr) (fun tv _ _ _=>l.length - (intOf tv).toNat)
 case atStart=>exact ⟨0,Nat.zero_le _,rfl,HS4.out,HX4.out⟩
 case round =>
  obtain ⟨i,hi,rfl,hSr,hXr⟩:=hrel
  have HSr:=hide hSr
  have HXr:=hide hXr
  clear hSr hXr
  by_cases hlt:i < l.length
  ·have hlti:(i:Int) < (l.length:Int):=by omega
   have hj:(k+i) % l.length < l.length:=Nat.mod_lt _ (by omega)
   have e1:((k:Int)+(i:Int)) % (l.length:Int)=(((k+i) % l.length:Nat):Int):=by simp
   have e2:((k:Int)+(i:Int)).tmod (l.length:Int)=(((k+i) % l.length:Nat):Int):=by rw [Int.tmod_eq_emod_of_nonneg (by omega)];exact e1
   have e3:IntKind.i64.wrap ((k:Int)+(i:Int))=(k:Int)+(i:Int):=by rw [IntKind.wrap_i64];omega
   generalize (k+i) % l.length=j at *
   have hjl:(j:Int) < (l.length:Int):=by omega
   have o5:=HSr.out.cells.2.2.1
   have q0:=(HSr.out.node hj).1
   have q4:=(HSr.out.node hj).2.2.2.2.1
   generalize l[j].kind=kj at q0
   generalize l[j].kids=cj at q4
   go_upto_region 35 with fail
   go_cut [172] from 147 to 194 (fun v wx=>∃ b,v = .bool b∧SP rb vb n w (.slice (some ⟨g,0,none⟩) l.length c) l w.heap.size (w.heap.size+1) ob (q+3) (.slice (some ⟨og,0,none⟩) l.length oc) l wx∧XN w xb (.slice (some ⟨og,0,none⟩) l.length oc) x0 wx)
   case first =>
    by_cases h19:kj=19
    ·subst h19
     by_cases hc0:cj=0
     ·subst hc0
      go_wp2_with fail
      go_meet
      case rel=>exact ⟨_,rfl,HSr.out,HXr.out⟩
     ·have hcb:(cj == 0)=false:=by simpa using hc0
      go_wp2_with fail
      go_meet
      case rel=>exact ⟨_,rfl,HSr.out,HXr.out⟩
    ·have h19b:(kj == 19)=false:=by simpa using h19
     go_wp2_with fail
     go_meet
     case rel=>exact ⟨_,rfl,HSr.out,HXr.out⟩
   case rest =>
    obtain ⟨b,rfl,hS6,hX6⟩:=hcut
    have HS6:=hide hS6
    have HX6:=hide hX6
    clear hS6 hX6 HSr HXr q0 q4 o5
    cases b
    ·go_wp2
     go_roundw
     case rel=>exact ⟨i+1,by omega,by go_num,HS6.out,HX6.out⟩
     case measure=>simp [intOf];omega
    ·have BE:Below wc.heap.size wc (wc.alloc (.cells #[] 82)):=bA _
     have HSE:=hide (HS6.out.below BE)
     have tE:=HSE.out.cells.1
     have HRE:Hid ((wc.alloc (.cells #[] 82)).ownsRow wc.heap.size 82 5 (.slice (some ⟨wc.heap.size,0,none⟩) 0 0) 0 []):=hide (World.ownsRow_lit (base:=wc.heap.size) (e:=82) (size:=5) wc #[] 0 (Nat.le_refl _) (Nat.zero_le _) rfl)
     have HC1:Hid (∀ (i:Nat) (u:Value),(Tr.cellsOf (l.take j))[i]?=some u→(wc.alloc (.cells #[] 82)).cell? ((⟨g,0,none⟩:Addr).add i)=some u):=hide (fun i u hu=>World.ownsRow.cells HSE.out.src.1 rfl i u (by rw [cells_split5 l j hj];rw [List.getElem?_append_left (List.getElem?_eq_some_iff.1 hu).1];exact hu))
     have hcl:l.length≤c:=(row_cap HSE.out.src.1).1
     have hcm:c≤9223372036854775807:=by have:=(row_cap HSE.out.src.1).2;unfold maxLen at this;omega
     have hjc:j≤c:=by omega
     have hjc2:¬ c=j:=by omega
     have hj0:(0:Int)≤(j:Int):=by omega
     have hjle:(j:Int)≤(l.length:Int):=by omega
     have htk:=take_len5 l j hj
     have hszE:=BE.size
     have HBE:=hide BE
     clear BE
     go_wp2_with (at_builtin;refine wpList_append_own_at _ rfl _ _ 48 rfl wc.heap.size 82 iN _ 5 48 Tryz.underlying48 hNi hNz hNs hNb rfl (by decide) _ 0 [] rfl HRE.out ⟨g,0,none⟩ j c (Tr.cellsOf (l.take j)) rfl htk HC1.out (cells_oneC _) (by unfold maxLen;omega) (by omega) hszE ?_)
     intro v1 w1 r1 r2 r3 r4
     have B1:=HBE.out.grown r2 HBE.out.size (fun q e=>by cases e;exact Nat.le_refl _)
     have HR1:=hide r1
     obtain ⟨p1,c1,hv1⟩:=row_formP r1
     subst hv1
     have HB1:=hide B1
     have hsz1:wc.heap.size≤(w1.alloc (.cells #[.int .i64 1,.int .i64 0,.int .i64 0,.string ⟨#[]⟩,.int .i64 0] 82)).heap.size:=by have:=B1.size;simp;omega
     clear r1 r2 r3 r4 B1 HRE HC1
     go_wp2_with (at_builtin;refine wpList_append_own_at _ rfl _ _ 48 rfl wc.heap.size 82 iN _ 5 48 Tryz.underlying48 hNi hNz hNs hNb rfl (by decide) _ j (Tr.cellsOf (l.take j)) rfl (HR1.out.alloc _) ⟨w1.heap.size,0,none⟩ 1 1 [.int .i64 1,.int .i64 0,.int .i64 0,.string ⟨#[]⟩,.int .i64 0] rfl rfl (cells_litC _ [_,_,_,_,_] _ _ rfl) (by simp [Value.oneCell']) (by unfold maxLen;omega) (by omega) hsz1 ?_)
     intro v2 w2 s1 s2 s3 s4
     have B2:=(HB1.out.alloc HB1.out.size (.cells #[.int .i64 1,.int .i64 0,.int .i64 0,.string ⟨#[]⟩,.int .i64 0] 82)).grown s2 (HB1.out.alloc HB1.out.size (.cells #[.int .i64 1,.int .i64 0,.int .i64 0,.string ⟨#[]⟩,.int .i64 0] 82)).size (fun q e=>(HR1.out.lt q e).1)
     have HS2:=hide (HS6.out.below B2)
     have HR2:=hide s1
     obtain ⟨p2,c2,hv2⟩:=row_formP s1
     subst hv2
     have HB2:=hide B2
     have t2:=HS2.out.cells.1
     have hsz2:=B2.size
     clear s1 s2 s3 s4 B2
     go_wp2_with (at_builtin;refine wpList_append_own_at _ rfl _ _ 48 rfl wc.heap.size 82 iN _ 5 48 Tryz.underlying48 hNi hNz hNs hNb rfl (by decide) _ (j+1) _ rfl HR2.out ⟨g,j*5,none⟩ (l.length - j) (c - j) (Tr.cellsOf (l.drop j)) rfl (by rw [cellsOf_len5,List.length_drop]) (fun i u hu=>cells_drop HS2.out.src.1 (by omega) i u hu) (cells_oneC _) (by unfold maxLen;omega) (by omega) hsz2 ?_)
     intro v3 w3 t1' t2' t3' t4'
     have B3:=HB2.out.grown t2' HB2.out.size (fun q e=>(HR2.out.lt q e).1)
     have hl3:(l.take j++[(⟨1,0,0,⟨#[]⟩,0⟩:Tr.Nd)]++l.drop j).length=j+1+(l.length - j):=by rw [List.length_append,List.length_append,List.length_take,List.length_drop];simp only [List.length_cons,List.length_nil];omega
     have r3:w3.ownsRow wc.heap.size 82 5 v3 (l.take j++[(⟨1,0,0,⟨#[]⟩,0⟩:Tr.Nd)]++l.drop j).length (Tr.cellsOf (l.take j++[(⟨1,0,0,⟨#[]⟩,0⟩:Tr.Nd)]++l.drop j)):=by rw [hl3,cellsOf_app,cellsOf_app,List.append_assoc];exact t1'
     have hsh3:Sh (l.take j++[(⟨1,0,0,⟨#[]⟩,0⟩:Tr.Nd)]++l.drop j):=sh_app (sh_app (fun x hx=>HSH.out x (List.mem_of_mem_take hx)) sh_leaf) (fun x hx=>HSH.out x (List.mem_of_mem_drop hx))
     have HSH3:=hide hsh3
     generalize (l.take j++[(⟨1,0,0,⟨#[]⟩,0⟩:Tr.Nd)]++l.drop j)=l3 at *
     have hl4:l3.length=l.length+1:=by omega
     obtain ⟨g3,c3,hv3⟩:∃ g3 c3,v3 = .slice (some ⟨g3,0,none⟩) l3.length c3:=by
      rcases r3.2 with ⟨_,h0⟩ | ⟨g',c',_,h2,_⟩
      ·omega
      ·exact ⟨_,_,h2⟩
     subst hv3
     have hj3:j+1 < l3.length:=by omega
     have hj3i:(j:Int)+1 < (l3.length:Int):=by omega
     have hj3p:(0:Int)≤(j:Int)+1:=by omega
     have hwj:IntKind.i64.wrap ((j:Int)+1)=(j:Int)+1:=by rw [IntKind.wrap_i64];omega
     have cK:=row_cellsC r3 (nd_cells l3 (j+1) hj3).2.2.2.2
     have fK:=r3.frozenAt ((j+1)*5+4)
     have hg3:=(r3.lt g3 rfl).1
     have HS4':=hide (HS6.out.below (B3.setCell (p:=⟨g3,(j+1)*5+4,none⟩) hg3 (.int .i64 1)))
     have HN4:Hid (NR (w3.setCell ⟨g3,(j+1)*5+4,none⟩ (.int .i64 1)) (.slice (some ⟨g3,0,none⟩) l3.length c3) (l3.set (j+1) {l3[j+1] with kids:=1})):=hide ⟨by rw [List.length_set];exact rowLeC (row_kids 1 hj3 r3) (Nat.zero_le _),sh_set HSH3.out (HSH3.out l3[j+1] (List.getElem_mem hj3))⟩
     have HL4:=hide hl4
     clear t1' t2' t3' t4' B3 r3 hl3 hsh3 hl4
     have HE9:=hide (HS4'.out.ret HN4.out)
     obtain ⟨_,t0,_,ft,_⟩:=HS4'.out.cells
     go_wp2
     exact bodyPost_ret (v:= .agg #[.slice (some ⟨g3,0,none⟩) l3.length c3]) (by simp [results,Tryz.results40,go_sem,t0]) rfl (by first | exact ⟨_,_,rfl,HE9.out.1,(by rw [List.length_set];have:=HL4.out;omega),HE9.out.2.1.mono (by omega),HE9.out.2.2⟩ | exact ⟨_,rfl,_,HE9.out.1,(by rw [List.length_set];have:=HL4.out;omega),HE9.out.2.1.mono (by omega),HE9.out.2.2⟩)
  ·have hnl:¬ (i:Int) < (l.length:Int):=by omega
   go_wp2_with fail
   go_meet
   case rel=>exact ⟨x0,HSr.out.mono (by omega),HXr.out⟩
end Go.Proofs.YtbckhbeebngjfaaGreatDoor
