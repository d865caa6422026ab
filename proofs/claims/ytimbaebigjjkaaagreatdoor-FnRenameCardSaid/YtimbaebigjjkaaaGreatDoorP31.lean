/- Gp, Gp0. -/
import Derived.Test.YtimbaebigjjkaaaGreatDoorP27
import Derived.Laws.AppendOwnNone
import Derived.Deep.CutRange
import Derived.BigQuiet
namespace Go.Proofs.YtimbaebigjjkaaaGreatDoor
open Go.RowKit
theorem nd_cells [LB] (l:List Tr.Nd) (k:Nat) (hk:k < l.length):(X2 l)[k*5]?=some (.int .i64 l[k].kind)∧(X2 l)[k*5+1]?=some (.int .i64 l[k].op)∧(X2 l)[k*5+2]?=some (.int .i64 l[k].n)∧(X2 l)[k*5+3]?=some (.string l[k].text)∧(X2 l)[k*5+4]?=some (.int .i64 l[k].kids):=by
 have hm:=KL l k hk
 rw [ZR l k hk]
 refine ⟨?_,?_,?_,?_,?_⟩
 ·rw [List.getElem?_append_right (by omega),show k*5 - (X2 (l.take k)).length=0 by omega];rfl
 ·rw [List.getElem?_append_right (by omega),show k*5+1 - (X2 (l.take k)).length=1 by omega];rfl
 ·rw [List.getElem?_append_right (by omega),show k*5+2 - (X2 (l.take k)).length=2 by omega];rfl
 ·rw [List.getElem?_append_right (by omega),show k*5+3 - (X2 (l.take k)).length=3 by omega];rfl
 ·rw [List.getElem?_append_right (by omega),show k*5+4 - (X2 (l.take k)).length=4 by omega];rfl
theorem World.grownBy.refl' [LB] (w:World) (o:Option Nat):w.grownBy w o:=⟨rfl,rfl,rfl,Nat.le_refl _,fun _ _ _=>rfl⟩
section
variable {rb:Nat} {vb:Value} {n:Nat} {W0:World} {v:Value} {l0:List Tr.Nd} {tb rx ob xb:Nat} {q g c k:Nat} {l:List Tr.Nd} {w:World} {x:Tr.Nd}
theorem SP.node [LB] (h:SP rb vb n W0 v l0 tb rx ob q (.slice (some ⟨g,0,none⟩) l.length c) l w) (hk:k < l.length):w.cell? ⟨g,k*5,none⟩=some (.int .i64 l[k].kind)∧w.cell? ⟨g,k*5+1,none⟩=some (.int .i64 l[k].op)∧w.cell? ⟨g,k*5+2,none⟩=some (.int .i64 l[k].n)∧w.cell? ⟨g,k*5+3,none⟩=some (.string l[k].text)∧w.cell? ⟨g,k*5+4,none⟩=some (.int .i64 l[k].kids)∧∀ j,w.frozen? ⟨g,j,none⟩=false:=by
 obtain ⟨a0,a1,a2,a3,a4⟩:=nd_cells l k hk
 exact ⟨XI h.o a0,XI h.o a1,XI h.o a2,XI h.o a3,XI h.o a4,fun j=>h.o.frozenAt j⟩
theorem SP.put5 [LB] (h:SP rb vb n W0 v l0 tb rx ob q (.slice (some ⟨g,0,none⟩) l.length c) l w) (x:Tr.Nd) (hx:x.text.size≤1000000) (hk:k < l.length):SP rb vb n W0 v l0 tb rx ob q (.slice (some ⟨g,0,none⟩) l.length c) (l.set k x) (((((w.setCell ⟨g,k*5,none⟩ (.int .i64 x.kind)).setCell ⟨g,k*5+1,none⟩ (.int .i64 x.op)).setCell ⟨g,k*5+2,none⟩ (.int .i64 x.n)).setCell ⟨g,k*5+3,none⟩ (.string x.text)).setCell ⟨g,k*5+4,none⟩ (.int .i64 x.kids)):=by
 have b:=(((((Below.refl 0 w).setCell (p:=⟨g,k*5,none⟩) (Nat.zero_le _) (.int .i64 x.kind)).setCell (p:=⟨g,k*5+1,none⟩) (Nat.zero_le _) (.int .i64 x.op)).setCell (p:=⟨g,k*5+2,none⟩) (Nat.zero_le _) (.int .i64 x.n)).setCell (p:=⟨g,k*5+3,none⟩) (Nat.zero_le _) (.string x.text)).setCell (p:=⟨g,k*5+4,none⟩) (Nat.zero_le _) (.int .i64 x.kids)
 refine h.rows ⟨b.os,b.tape,b.output,b.size⟩ (fun b hb=>?_) (by rw [List.length_set];exact row_set5 x hk h.o) (sh_set h.sh hx)
 have hb:b≠g:=fun e=>hb (by rw [e];rfl)
 rw [Below.heap_setCell _ _ _ _ hb,Below.heap_setCell _ _ _ _ hb,Below.heap_setCell _ _ _ _ hb,Below.heap_setCell _ _ _ _ hb,Below.heap_setCell _ _ _ _ hb]
theorem SP.putT [LB] (h:SP rb vb n W0 v l0 tb rx ob q (.slice (some ⟨g,0,none⟩) l.length c) l w) (t:ByteArray) (ht:t.size≤1000000) (hk:k < l.length):SP rb vb n W0 v l0 tb rx ob q (.slice (some ⟨g,0,none⟩) l.length c) (l.set k {l[k] with text:=t}) (w.setCell ⟨g,k*5+3,none⟩ (.string t)):=by
 have b:=(Below.refl 0 w).setCell (p:=⟨g,k*5+3,none⟩) (Nat.zero_le _) (.string t)
 refine h.rows ⟨b.os,b.tape,b.output,b.size⟩ (fun b hb=>?_) (by rw [List.length_set];exact row_text t hk h.o) (sh_set h.sh ht)
 have hb:b≠g:=fun e=>hb (by rw [e];rfl)
 exact Below.heap_setCell _ _ _ _ hb
theorem SP.start [LB] {w w5:World} {q:Nat} {v ov:Value} {l:List Tr.Nd} (h:Rq rb vb n q w) (hn:NR w v l) (hg:(((w.alloc (.cells #[v] 25)).alloc (.cells #[.slice none 0 0] 25)).alloc (.cells #[] 35)).grownBy w5 (some (w.heap.size+1+1))) (hr:w5.ownsRow w.heap.size 35 5 ov l.length (X2 l)):SP rb vb n w v l w.heap.size (w.heap.size+1) w5.heap.size q ov l (w5.alloc (.cells #[ov] 25)):=by
 have hrl:=h.lt
 have b1:Below w.heap.size w (w.alloc (.cells #[v] 25)):=bA _
 have b2:Below w.heap.size w ((w.alloc (.cells #[v] 25)).alloc (.cells #[.slice none 0 0] 25)):=b1.alloc b1.size _
 have b3:Below w.heap.size w (((w.alloc (.cells #[v] 25)).alloc (.cells #[.slice none 0 0] 25)).alloc (.cells #[] 35)):=b2.alloc b2.size _
 have b5:Below w.heap.size w w5:=b3.grown hg b3.size (fun q e=>by have:=Option.some.inj e;omega)
 have b6:Below w5.heap.size w5 (w5.alloc (.cells #[ov] 25)):=bA _
 have hs3:(((w.alloc (.cells #[v] 25)).alloc (.cells #[.slice none 0 0] 25)).alloc (.cells #[] 35)).heap.size=w.heap.size+1+1+1:=by simp
 have hs5:=hg.size
 rw [hs3] at hs5
 have t1:(((w.alloc (.cells #[v] 25)).alloc (.cells #[.slice none 0 0] 25)).alloc (.cells #[] 35)).heap[w.heap.size]?=some (.cells #[v] 25):=by
  rw [(bA _).block _ (by simp;omega),(bA _).block _ (by simp)]
  exact Xi _ _
 have t2:(((w.alloc (.cells #[v] 25)).alloc (.cells #[.slice none 0 0] 25)).alloc (.cells #[] 35)).heap[w.heap.size+1]?=some (.cells #[.slice none 0 0] 25):=by
  rw [(bA _).block _ (by simp)]
  have:=Xi (w.alloc (.cells #[v] 25)) (.cells #[.slice none 0 0] 25)
  rw [World.size_alloc] at this
  exact this
 refine ⟨(h.below b5).below b6,((TyM.of b5).trans (.of b6)),(hn.below b5).below b6,fun b hb=>(hn.1.lt b hb).2,?_,?_,Xi _ _,Yu hr b6,hn.2,hrl,by omega,by omega,by omega,by omega,Nat.le_refl _⟩
 ·rw [b6.block _ (by omega),hg.block _ (by omega) (fun e=>by have:=Option.some.inj e;omega)];exact t1
 ·rw [b6.block _ (by omega),hg.block _ (by omega) (fun e=>by have:=Option.some.inj e;omega)];exact t2
end
theorem many31 [LB] (w:World):Calls Tryz.prog 15 #[.string ⟨#[110]⟩,.int .i64 31] w fun e w'=>∃ t:Short,e = .returned (.string t)∧w'=w:=many_any ⟨#[110]⟩ 31 w (by omega) (by decide)
theorem short10 [LB] (tx:Short) (zq:Nat) (h:zq < 10):∃ u:Short,([.string ⟨#[]⟩,.string ⟨#[110,49]⟩,.string ⟨#[112,48]⟩,.string ⟨#[115,48]⟩,.string ⟨#[102,48]⟩,.string ⟨#[108,101,116]⟩,.string ⟨#[57,120]⟩,.string ⟨#[65]⟩,.string ⟨#[108,101,110]⟩,.string tx.val]:List Value)[zq]?=some (.string u.val):=by
 have a:zq=9∨zq=0∨zq=1∨zq=2∨zq=3∨zq=4∨zq=5∨zq=6∨zq=7∨zq=8:=by omega
 rcases a with rfl | a
 ·exact ⟨tx,rfl⟩
 ·rcases a with rfl | rfl | rfl | rfl | rfl | rfl | rfl | rfl | rfl <;> exact ⟨⟨_,by exact Nat.le_of_ble_eq_true rfl⟩,rfl⟩
theorem short8 [LB] (zq:Nat) (h:zq < 8):∃ u:Short,([.string ⟨#[110,49]⟩,.string ⟨#[110,50]⟩,.string ⟨#[112,48]⟩,.string ⟨#[112,49]⟩,.string ⟨#[115,48]⟩,.string ⟨#[115,49]⟩,.string ⟨#[102,48]⟩,.string ⟨#[110,111,110,101,95,115,117,99,104]⟩]:List Value)[zq]?=some (.string u.val):=by
 have hz2:zq=0∨zq=1∨zq=2∨zq=3∨zq=4∨zq=5∨zq=6∨zq=7:=by omega
 rcases hz2 with rfl | rfl | rfl | rfl | rfl | rfl | rfl | rfl <;> exact ⟨⟨_,by exact Nat.le_of_ble_eq_true rfl⟩,rfl⟩
theorem sh_leaf [LB]:Sh [(⟨1,0,0,⟨#[]⟩,0⟩:Tr.Nd)]:=sh_one (Nat.le_of_ble_eq_true rfl)
def swOf:Code→Option Code
 | .block n c=>some (.block n c)
 | .seq a b=>match swOf a with
  | some c=>some c
  | none=>swOf b
 | _=>none
theorem wp_at [LB] {P:Program} {c:Code} {Q:Exit→Act→World→Prop} {a:Act} {w:World} {o:Option Code} (h:o=some c) (hw:Code.wp P c Q a w) (c':Code) (h':o=some c'):Code.wp P c' Q a w:=by
 cases h.symm.trans h';exact hw
set_option maxRecDepth 100000 in
def spJ [LB] (rb:Nat) (vb:Value) (n q:Nat) (l:List Tr.Nd) (w:World) (g c ob og oc xb k:Nat) (s1 s2 s14 s15 s16 s17 s18 s19 s20 s21 s22 s23 s24 s25 s26 s27 s28 s29 s30 s31 s32 s33 s34 s35 s36 s37 s38:Value) (J:Act→World→Prop):Prop:=∀ (a':Act) (w':World),(∃ u9 u10 u11 u12 u13 u39 u40 u41 u42 u43 u44 u45 u46 u47 u48 u49 u50 u51 u52 u53 u54 u55 u56 u57 u58 u59 u60 u61 u62 u63 u64 u65 u66 u67 u68 u69 u70 u71 u72 u73 u74 u75 u76 u77 u78 u79 u80 u81 u82 u83 u84 u85 u86 u87 u88 u89 u90 u91 u92 u93 u94 u95 u96 u97 u98 u99 u100 u101 u102 u103 u104 u105 u106 u107 u108 u109 u110 u111 u112 u113 u114 u115 u116 u117 u118 u119 u120 u121 u122 u123 u124 u125 u126 u127 u128 u129 u130 u131 u132 u133 u134 u135 u136 u137 u138 u139 u140 u141 u142 u143 u144 u145 u146 u147 u148 u149 u150 u151 u152 u153 u154 u155 u156 u157 u158 u159 u160 u161 u162 u163 u164 u165 u166 u167 u168 u169 u170 u171 u172 u173 u174 u175 u176 u177 u178 u179 u180 u181 u182 u183 u184 u185 u186 u187 u188 u189 u190 u191 u192 u193 u194 u195 u196 u197 u198 u199 u200:Value,(∃ x,SP rb vb n w (.slice (some ⟨g,0,none⟩) l.length c) l w.heap.size (w.heap.size+1) ob (q+6) (.slice (some ⟨og,0,none⟩) l.length oc) l w'∧XN w xb (.slice (some ⟨og,0,none⟩) l.length oc) x w')∧a'={tmps:=#[.pointer (some ⟨rb,0,none⟩),s1,s2,.pointer (some ⟨w.heap.size,0,none⟩),.pointer (some ⟨w.heap.size+1,0,none⟩),.pointer (some ⟨ob,0,none⟩),.int .i64 (l.length:Int),.int .i64 (k:Int),.pointer (some ⟨xb,0,none⟩),u9,u10,u11,u12,u13,s14,s15,s16,s17,s18,s19,s20,s21,s22,s23,s24,s25,s26,s27,s28,s29,s30,s31,s32,s33,s34,s35,s36,s37,s38,u39,u40,u41,u42,u43,u44,u45,u46,u47,u48,u49,u50,u51,u52,u53,u54,u55,u56,u57,u58,u59,u60,u61,u62,u63,u64,u65,u66,u67,u68,u69,u70,u71,u72,u73,u74,u75,u76,u77,u78,u79,u80,u81,u82,u83,u84,u85,u86,u87,u88,u89,u90,u91,u92,u93,u94,u95,u96,u97,u98,u99,u100,u101,u102,u103,u104,u105,u106,u107,u108,u109,u110,u111,u112,u113,u114,u115,u116,u117,u118,u119,u120,u121,u122,u123,u124,u125,u126,u127,u128,u129,u130,u131,u132,u133,u134,u135,u136,u137,u138,u139,u140,u141,u142,u143,u144,u145,u146,u147,u148,u149,u150,u151,u152,u153,u154,u155,u156,u157,u158,u159,u160,u161,u162,u163,u164,u165,u166,u167,u168,u169,u170,u171,u172,u173,u174,u175,u176,u177,u178,u179,u180,u181,u182,u183,u184,u185,u186,u187,u188,u189,u190,u191,u192,u193,u194,u195,u196,u197,u198,u199,u200],defers:=[]})→J a' w'
set_option maxRecDepth 100000 in
set_option maxHeartbeats 16000000 in
theorem sp_0 [LB] (z:Nat) (hz5:z=0∨z=1∨z=2∨z=3∨z=4) (rb:Nat) (vb:Value) (n q:Nat) (l:List Tr.Nd) (w:World) (g c ob og oc xb k:Nat) (x0:Tr.Nd) (wc:World) (_hl:l.length≤300000) (_hq:q≤700000000) (_hl1:((l.length:Int) == 0)=false) (_hlp:(0:Int) < (l.length:Int)) (_hk:k < l.length) (_hrw:rb < w.heap.size) (_HSH:Hid (Sh l)) (HS4:Hid (SP rb vb n w (.slice (some ⟨g,0,none⟩) l.length c) l w.heap.size (w.heap.size+1) ob (q+3) (.slice (some ⟨og,0,none⟩) l.length oc) l wc)) (HX4:Hid (XN w xb (.slice (some ⟨og,0,none⟩) l.length oc) x0 wc))
  {s1 s2 s14 s15 s16 s17 s18 s19 s20 s21 s22 s23 s24 s25 s26 s27 s28 s29 s30 s31 s32 s33 s34 s35 s36 s37 s38 u9 u10 u11 u12 u13 u40 u41 u42 u43 u44 u45 u46 u47 u48 u49 u50 u51 u52 u53 u54 u55 u56 u57 u58 u59 u60 u61 u62 u63 u64 u65 u66 u67 u68 u69 u70 u71 u72 u73 u74 u75 u76 u77 u78 u79 u80 u81 u82 u83 u84 u85 u86 u87 u88 u89 u90 u91 u92 u93 u94 u95 u96 u97 u98 u99 u100 u101 u102 u103 u104 u105 u106 u107 u108 u109 u110 u111 u112 u113 u114 u115 u116 u117 u118 u119 u120 u121 u122 u123 u124 u125 u126 u127 u128 u129 u130 u131 u132 u133 u134 u135 u136 u137 u138 u139 u140 u141 u142 u143 u144 u145 u146 u147 u148 u149 u150 u151 u152 u153 u154 u155 u156 u157 u158 u159 u160 u161 u162 u163 u164 u165 u166 u167 u168 u169 u170 u171 u172 u173 u174 u175 u176 u177 u178 u179 u180 u181 u182 u183 u184 u185 u186 u187 u188 u189 u190 u191 u192 u193 u194 u195 u196 u197 u198 u199 u200:Value} (J K':Act→World→Prop)
  (hJ:spJ rb vb n q l w g c ob og oc xb k s1 s2 s14 s15 s16 s17 s18 s19 s20 s21 s22 s23 s24 s25 s26 s27 s28 s29 s30 s31 s32 s33 s34 s35 s36 s37 s38 J)
  (hM:∀ (a':Act) (w':World),Met J a' w'→K' a' w') (cc:Code) (hcc:(Tryz.f35.body.bind swOf)=some cc) :
  Code.wp Tryz.prog cc (Exit.then K' (bodyPost Tryz.prog Tryz.f35 fun e w'=>∃ v' l',e = .returned (.agg #[v'])∧NR w' v' l'∧l'.length≤l.length+1∧Rq rb vb n (q+10) w'∧Tf w w')) {tmps:=#[.pointer (some ⟨rb,0,none⟩),s1,s2,.pointer (some ⟨w.heap.size,0,none⟩),.pointer (some ⟨w.heap.size+1,0,none⟩),.pointer (some ⟨ob,0,none⟩),.int .i64 (l.length:Int),.int .i64 (k:Int),.pointer (some ⟨xb,0,none⟩),u9,u10,u11,u12,u13,s14,s15,s16,s17,s18,s19,s20,s21,s22,s23,s24,s25,s26,s27,s28,s29,s30,s31,s32,s33,s34,s35,s36,s37,s38,.int .i64 (z:Int),u40,u41,u42,u43,u44,u45,u46,u47,u48,u49,u50,u51,u52,u53,u54,u55,u56,u57,u58,u59,u60,u61,u62,u63,u64,u65,u66,u67,u68,u69,u70,u71,u72,u73,u74,u75,u76,u77,u78,u79,u80,u81,u82,u83,u84,u85,u86,u87,u88,u89,u90,u91,u92,u93,u94,u95,u96,u97,u98,u99,u100,u101,u102,u103,u104,u105,u106,u107,u108,u109,u110,u111,u112,u113,u114,u115,u116,u117,u118,u119,u120,u121,u122,u123,u124,u125,u126,u127,u128,u129,u130,u131,u132,u133,u134,u135,u136,u137,u138,u139,u140,u141,u142,u143,u144,u145,u146,u147,u148,u149,u150,u151,u152,u153,u154,u155,u156,u157,u158,u159,u160,u161,u162,u163,u164,u165,u166,u167,u168,u169,u170,u171,u172,u173,u174,u175,u176,u177,u178,u179,u180,u181,u182,u183,u184,u185,u186,u187,u188,u189,u190,u191,u192,u193,u194,u195,u196,u197,u198,u199,u200],defers:=[]} wc:=by
 obtain ⟨iN,hNi,hNz,hNs,hNb⟩:=info_parts Tryz.infoNdP
 refine wp_at (o:=Tryz.f35.body.bind swOf) rfl ?_ cc hcc
 unfold spJ at hJ
 clear hcc
 rcases hz5 with rfl | rfl | rfl | rfl | rfl
 ·go_wp2_with fail
  refine (Rq.pick HS4.o.r (by omega) 27 (by omega) (by omega)).mono ?_
  rintro e x ⟨zq,v,rfl,b,a⟩
  have f:=X1 (HS4.o.ty a b)
  have d:=X1 (HX4.o.ty a)
  clear b a
  have hwz:IntKind.i64.wrap ((zq:Int) - 1)=(zq:Int) - 1:=by rw [IntKind.wrap_i64];omega
  obtain ⟨y0,y1,y2,y3,y4,yf⟩:=d.o.cells
  have yfo:=yf 0
  have i:=X1 (f.o.setX d.o 0 (.int .i64 ((zq:Int) - 1)))
  have j:=X1 (d.o.set 0 (.int .i64 ((zq:Int) - 1)) ⟨(zq:Int) - 1,x0.op,x0.n,x0.text,x0.kids⟩ rfl d.o.sh)
  clear yf
  go_wp2_with fail
  go_meet
  case rel=>exact ⟨_,i.o.mono (by omega),j.o⟩
 ·have BD:Below wc.heap.size wc wc.drew:=(Below.refl _ _).drew
  have s:=X1 (HS4.o.below BD)
  have t:=X1 (HX4.o.below BD)
  obtain ⟨y0,y1,y2,y3,y4,yf⟩:=t.o.cells
  clear yf BD
  go_wp2_with fail
  go_region_law (first
   | (refine XM rfl 14 (.tmp 64) (.const (.int .i64 5)) _ _ rfl (.pointer (some ⟨rb,0,none⟩)) (.int .i64 5) (by first | (simp [Act.eval];done) | simp [Act.eval,Act.put]) (by first | (simp [Act.eval];done) | simp [Act.eval,Act.put]) Tryz.f14 Tryz.func14 (by kernel_rfl) (by kernel_rfl) _ (Rq.pick_ex s.o.r (by omega) 5 (by omega) (by omega)) ?_;intro v10 x C;obtain ⟨zq,v,m,b,a⟩:=C;subst m;have f:=X1 (s.o.ty a b);have d:=X1 (t.o.ty a);obtain ⟨z0,z1',z2',z3,z4,zf⟩:=d.o.cells;have zfo:=zf 1;clear b a zf))
  all_goals
   have i:=X1 (fun z:Int=>f.o.setX d.o 1 (.int .i64 z))
   have j:=X1 (fun z:Int=>d.o.set 1 (.int .i64 z) ⟨x0.kind,z,x0.n,x0.text,x0.kids⟩ rfl d.o.sh)
   go_wp2_with fail
   go_meet
   case rel=>exact ⟨_,(i.o _).mono (by omega),j.o _⟩
 ·have BL:Below wc.heap.size wc (wc.alloc (.cells #[.int .i64 (-1),.int .i64 0,.int .i64 1,.int .i64 2] 2)):=bA _
  have p:=X1 (HS4.o.below BL)
  have B:=X1 (HX4.o.below BL)
  have A:=X1 (World.ownsRow_lit (base:=0) (e:=2) (size:=1) wc #[.int .i64 (-1),.int .i64 0,.int .i64 1,.int .i64 2] 4 (Nat.zero_le _) (by unfold maxLen;omega) rfl)
  clear BL
  go_wp2_with fail
  refine (Rq.pick p.o.r (by omega) 4 (by omega) (by omega)).mono ?_
  rintro e x ⟨zq,v,rfl,b,a⟩
  have f:=X1 (p.o.ty a b)
  have d:=X1 (B.o.ty a)
  have y:=X1 (XO A.o a (by unfold Mine;simp))
  clear b a
  obtain ⟨u,hu⟩:∃ u,([.int .i64 (-1),.int .i64 0,.int .i64 1,.int .i64 2]:List Value)[zq]?=some (.int .i64 u):=by
   have hz2:zq=0∨zq=1∨zq=2∨zq=3:=by omega
   rcases hz2 with rfl | rfl | rfl | rfl <;> exact ⟨_,rfl⟩
  have cl:=XI y.o hu
  clear hu
  obtain ⟨y0,y1,y2,y3,y4,yf⟩:=d.o.cells
  have yfo:=yf 2
  have i:=X1 (f.o.setX d.o 2 (.int .i64 u))
  have j:=X1 (d.o.set 2 (.int .i64 u) ⟨x0.kind,x0.op,u,x0.text,x0.kids⟩ rfl d.o.sh)
  clear yf
  go_wp2_with fail
  go_meet
  case rel=>exact ⟨_,i.o.mono (by omega),j.o⟩
 ·have HM:=X1 (many31 wc)
  go_wp2_with fail
  refine HM.o.mono ?_
  rintro e w9 ⟨tx,rfl,rfl⟩
  have BL:Below w9.heap.size w9 (w9.alloc (.cells #[.string ⟨#[]⟩,.string ⟨#[110,49]⟩,.string ⟨#[112,48]⟩,.string ⟨#[115,48]⟩,.string ⟨#[102,48]⟩,.string ⟨#[108,101,116]⟩,.string ⟨#[57,120]⟩,.string ⟨#[65]⟩,.string ⟨#[108,101,110]⟩,.string tx.val] 9)):=bA _
  have p:=X1 (HS4.o.below BL)
  have B:=X1 (HX4.o.below BL)
  have A:=X1 (World.ownsRow_lit (base:=0) (e:=9) (size:=1) w9 #[.string ⟨#[]⟩,.string ⟨#[110,49]⟩,.string ⟨#[112,48]⟩,.string ⟨#[115,48]⟩,.string ⟨#[102,48]⟩,.string ⟨#[108,101,116]⟩,.string ⟨#[57,120]⟩,.string ⟨#[65]⟩,.string ⟨#[108,101,110]⟩,.string tx.val] 10 (Nat.zero_le _) (by unfold maxLen;omega) rfl)
  clear BL HM
  go_wp2_with fail
  refine (Rq.pick p.o.r (by omega) 10 (by omega) (by omega)).mono ?_
  rintro e x ⟨zq,v,rfl,b,a⟩
  have f:=X1 (p.o.ty a b)
  have d:=X1 (B.o.ty a)
  have y:=X1 (XO A.o a (by unfold Mine;simp))
  clear b a
  obtain ⟨u,hu⟩:=short10 tx zq (by omega)
  have cl:=XI y.o hu
  clear hu
  obtain ⟨y0,y1,y2,y3,y4,yf⟩:=d.o.cells
  have yfo:=yf 3
  have i:=X1 (f.o.setX d.o 3 (.string u.val))
  have j:=X1 (d.o.set 3 (.string u.val) ⟨x0.kind,x0.op,x0.n,u.val,x0.kids⟩ rfl u.2)
  clear yf
  go_wp2_with fail
  go_meet
  case rel=>exact ⟨_,i.o.mono (by omega),j.o⟩
 ·have BD:Below wc.heap.size wc wc.drew:=(Below.refl _ _).drew
  have s:=X1 (HS4.o.below BD)
  have t:=X1 (HX4.o.below BD)
  obtain ⟨y0,y1,y2,y3,y4,yf⟩:=t.o.cells
  clear yf BD
  go_wp2_with fail
  go_region_law (first
   | (refine XM rfl 14 (.tmp 90) (.const (.int .i64 3)) _ _ rfl (.pointer (some ⟨rb,0,none⟩)) (.int .i64 3) (by first | (simp [Act.eval];done) | simp [Act.eval,Act.put]) (by first | (simp [Act.eval];done) | simp [Act.eval,Act.put]) Tryz.f14 Tryz.func14 (by kernel_rfl) (by kernel_rfl) _ (Rq.pick_ex s.o.r (by omega) 3 (by omega) (by omega)) ?_;intro v10 x C;obtain ⟨zq,v,m,b,a⟩:=C;subst m;have f:=X1 (s.o.ty a b);have d:=X1 (t.o.ty a);obtain ⟨z0,z1',z2',z3,z4,zf⟩:=d.o.cells;have zfo:=zf 4;clear b a zf))
  all_goals
   have i:=X1 (fun z:Int=>f.o.setX d.o 4 (.int .i64 z))
   have j:=X1 (fun z:Int=>d.o.set 4 (.int .i64 z) ⟨x0.kind,x0.op,x0.n,x0.text,z⟩ rfl d.o.sh)
   go_wp2_with fail
   go_meet
   case rel=>exact ⟨_,(i.o _).mono (by omega),j.o _⟩
end Go.Proofs.YtimbaebigjjkaaaGreatDoor
