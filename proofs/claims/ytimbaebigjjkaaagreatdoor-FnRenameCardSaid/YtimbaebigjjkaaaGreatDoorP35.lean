/- Ka, Kb, Kc. -/
import Derived.Test.YtimbaebigjjkaaaGreatDoorP14
import Derived.Deep.RegionLaw
namespace Go.Proofs.YtimbaebigjjkaaaGreatDoor
open Go.RowKit
abbrev Tr.Kn:=ByteArray × Nat
structure Tr.St where
 codes:List Int
 binds:List Int
def Xg (k:Nat) (c:Int) (s:Tr.St):Tr.St:=if s.codes[k]?.getD 0=0∨c < s.codes[k]?.getD 0 then {s with codes:=s.codes.set k c} else s
def Xb (ns:List Tr.Nd) (k:Nat):ByteArray:=(ns[k]?.map (·.text)).getD ⟨#[]⟩
def XH (x:ByteArray):List Tr.Kn→Option Nat
 | []=>none
 | p :: r=>match XH x r with
  | some a=>some a
  | none=>if p.1=x then some p.2 else none
def Yd:List (List UInt8):=[[98,101,103,105,110,115],[99,117,116],[102,97,105,108],[102,105,108,101,115],[105,110,116],[106,111,105,110],[107,101,121,115],[108,101,110],[114,97,110,103,101],[114,101,99,111,114,100],[115,111,114,116,101,100],[115,112,108,105,116],[116,101,120,116],[117,110,105,113,117,101],[119,105,116,104,111,117,116]]
def YJ (ns:List Tr.Nd) (k:Nat) (kn:List Tr.Kn) (s:Tr.St):Tr.St:=match XH (Xb ns k) kn with
 | some a=>{s with binds:=s.binds.set k a}
 | none=>if (Xb ns k).data.toList∈Yd then {s with binds:=s.binds.set k (-2)} else Xg k 9 s
def X5 (ks:List (List Nat)) (k:Nat):List Nat:=ks[k]?.getD []
def Ye (ns:List Tr.Nd) (p:Nat) (seen:List Nat) (s:Tr.St):Tr.St:=seen.foldl (fun s x=>if Xb ns x=Xb ns p then Xg p 8 s else s) s
def YG (G:Nat→List Tr.Kn→Tr.St→Tr.St) (ns:List Tr.Nd) (ks:List (List Nat)) (p:Nat) (seen:List Nat) (kn:List Tr.Kn) (df:Bool) (s:Tr.St):Tr.St:=match X5 ks p with
 | []=>if df=true then Xg p 10 (Ye ns p seen s) else Ye ns p seen s
 | c :: _=>G c kn (Ye ns p seen s)
def Yh (G:Nat→List Tr.Kn→Tr.St→Tr.St) (ns:List Tr.Nd) (ks:List (List Nat)):List Nat→List Nat→List Tr.Kn→Bool→Tr.St→Tr.St
 | [],_,_,_,s=>s
 | [x],_,kn,_,s=>G x kn s
 | p :: q :: r,seen,kn,df,s =>
  Yh G ns ks (q :: r) (seen++[p]) (kn++[(Xb ns p,p)]) (df || !decide ((X5 ks p).length=0)) (YG G ns ks p seen kn df s)
def Zl (G:Nat→List Tr.Kn→Tr.St→Tr.St) (kn more:List Tr.Kn) (s:Tr.St):List Nat→Tr.St
 | []=>s
 | x :: r=>r.foldl (fun s y=>G y more s) (G x kn s)
def Xx (ns:List Tr.Nd) (ks:List (List Nat)):Nat→Nat→List Tr.Kn→Tr.St→Tr.St
 | 0,_,_,s=>s
 | f+1,k,kn,s =>
  if X4 ns k=5 then YJ ns k kn s
  else if X4 ns k=23 then s
  else if X4 ns k=15∨X4 ns k=20 then Yh (Xx ns ks f) ns ks (X5 ks k) [] kn false s
  else if X4 ns k=14∨X4 ns k=16 then Zl (Xx ns ks f) kn (kn++[(Xb ns k,k)]) s (X5 ks k)
  else (X5 ks k).foldl (fun s y=>Xx ns ks f y kn s) s
structure Kp (cg bg:Nat) (w w':World):Prop where
 os:w'.os=w.os
 tape:w'.tape=w.tape
 output:w'.output=w.output
 size:w.heap.size≤w'.heap.size
 block:∀ b,b < w.heap.size→b≠cg→b≠bg→w'.heap[b]?=w.heap[b]?
theorem Kp.refl (cg bg:Nat) (w:World):Kp cg bg w w:=⟨rfl,rfl,rfl,Nat.le_refl _,fun _ _ _ _=>rfl⟩
theorem Kp.trans {cg bg:Nat} {w w' w'':World} (h:Kp cg bg w w') (h':Kp cg bg w' w''):Kp cg bg w w'' :=
 ⟨h'.os.trans h.os,h'.tape.trans h.tape,h'.output.trans h.output,Nat.le_trans h.size h'.size,fun b hb h1 h2=>(h'.block b (Nat.lt_of_lt_of_le hb h.size) h1 h2).trans (h.block b hb h1 h2)⟩
theorem Kp.of_below {cg bg:Nat} {w w':World} (h:Below w.heap.size w w'):Kp cg bg w w':=⟨h.os,h.tape,h.output,h.size,fun b hb _ _=>h.block b hb⟩
theorem Kp.below {cg bg:Nat} {w w' w'':World} (h:Kp cg bg w w') (h':Below w'.heap.size w' w''):Kp cg bg w w'':=h.trans (.of_below h')
theorem Kp.alloc {cg bg:Nat} {w w':World} (h:Kp cg bg w w') (o:Obj):Kp cg bg w (w'.alloc o):=h.below (bA o)
theorem Kp.drew {cg bg:Nat} {w w':World} (h:Kp cg bg w w'):Kp cg bg w w'.drew:=h.below (Below.refl _ _).drew
theorem Kp.setCell {cg bg:Nat} {w w':World} (h:Kp cg bg w w') (a:Addr) (v:Value) (ha:a.block=cg∨a.block=bg):Kp cg bg w (w'.setCell a v) :=
 h.trans ⟨rfl,rfl,rfl,by simp,fun b _ h1 h2=>Below.heap_setCell _ _ _ _ (by omega)⟩
theorem Kp.cell {cg bg:Nat} {w w':World} (h:Kp cg bg w w') {p:Addr} (hp:p.block < w.heap.size) (h1:p.block≠cg) (h2:p.block≠bg):w'.cell? p=w.cell? p:=World.cell?_of_block (h.block p.block hp h1 h2)
def KnAt (w:World) (g:Nat) (kn:List Tr.Kn):Prop:=g < w.heap.size∧∀ j (h:j < kn.length),w.cell? ⟨g,j*2,none⟩=some (.string kn[j].1)∧w.cell? ⟨g,j*2+1,none⟩=some (.int .i64 kn[j].2)
theorem KnAt.kept {cg bg:Nat} {w w':World} {g:Nat} {kn:List Tr.Kn} (h:KnAt w g kn) (hk:Kp cg bg w w') (h1:g≠cg) (h2:g≠bg):KnAt w' g kn :=
 ⟨Nat.lt_of_lt_of_le h.1 hk.size,fun j hj=>⟨(hk.cell (p:=⟨g,j*2,none⟩) h.1 h1 h2).trans (h.2 j hj).1,(hk.cell (p:=⟨g,j*2+1,none⟩) h.1 h1 h2).trans (h.2 j hj).2⟩⟩
def Xu (kn:List Tr.Kn):List Value:=kn.flatMap fun p=>[.string p.1,.int .i64 p.2]
theorem ZQ (kn:List Tr.Kn):(Xu kn).length=kn.length*2:=by
 induction kn with
 | nil=>rfl
 | cons x r ih=>rw [show Xu (x :: r)=[.string x.1,.int .i64 x.2]++Xu r from rfl,List.length_append,ih,List.length_cons];simp;omega
theorem Qj (kn:List Tr.Kn) (i:Nat) (h:i < kn.length):(Xu kn)[i*2]?=some (.string kn[i].1)∧(Xu kn)[i*2+1]?=some (.int .i64 kn[i].2):=by
 induction kn generalizing i with
 | nil=>simp at h
 | cons x r ih =>
  rw [show Xu (x :: r)=[.string x.1,.int .i64 x.2]++Xu r from rfl]
  match i,h with
  | 0,_=>simp
  | i+1,h =>
   have:=ih i (by simpa using h)
   refine ⟨?_,?_⟩
   all_goals rw [List.getElem?_append_right (by simp;omega)]
   ·rw [show (i+1)*2 - ([.string x.1,.int .i64 x.2]:List Value).length=i*2 from by simp;omega];exact this.1
   ·rw [show (i+1)*2+1 - ([.string x.1,.int .i64 x.2]:List Value).length=i*2+1 from by simp;omega];exact this.2
theorem Qp {w:World} {base:Nat} {e:TypeId} {g cap:Nat} {kn:List Tr.Kn} (h:w.ownsRow base e 2 (.slice (some ⟨g,0,none⟩) kn.length cap) kn.length (Xu kn)):KnAt w g kn:=by
 refine ⟨(Z2 h).2.2,fun i hi=>?_⟩
 obtain ⟨p0,p1⟩:=Qj kn i hi
 exact ⟨(h.cellAt (i*2) (by omega)).trans p0,(h.cellAt (i*2+1) (by omega)).trans p1⟩
theorem Yp (kn:List Tr.Kn):∀ u∈Xu kn,u.oneCell'=true:=by
 intro u hu
 obtain ⟨p,_,hp⟩:=List.mem_flatMap.1 hu
 simp only [List.mem_cons,List.not_mem_nil,or_false] at hp
 rcases hp with rfl | rfl <;> rfl
theorem kn_news {w:World} {g:Nat} {kn:List Tr.Kn} (h:KnAt w g kn):∀ j u,(Xu kn)[j]?=some u→w.cell? ((⟨g,0,none⟩:Addr).add j)=some u:=by
 intro j u hu
 have hj:j < kn.length*2:=by have:=(List.getElem?_eq_some_iff.1 hu).1;rwa [ZQ] at this
 rw [ZS,Nat.zero_add]
 rcases Nat.mod_two_eq_zero_or_one j with h2 | h2
 ·obtain ⟨i,rfl⟩:∃ i,j=i*2:=⟨j / 2,by omega⟩
  rw [(h.2 i (by omega)).1,← hu];exact (Qj kn i (by omega)).1.symm
 ·obtain ⟨i,rfl⟩:∃ i,j=i*2+1:=⟨j / 2,by omega⟩
  rw [(h.2 i (by omega)).2,← hu];exact (Qj kn i (by omega)).2.symm
structure Fx (ns:List Tr.Nd) (ks:List (List Nat)) (wb tg tc kg kc cg bg:Nat) (w:World):Prop where
 wb1:wb≠cg
 wb2:wb≠bg
 tg1:tg≠cg
 tg2:tg≠bg
 kg1:kg≠cg
 kg2:kg≠bg
 wlt:wb < w.heap.size
 klt:kg < w.heap.size
 f0:w.cell? ⟨wb,0,none⟩=some (.slice (some ⟨tg,0,none⟩) ns.length tc)
 f1:w.cell? ⟨wb,1,none⟩=some (.slice (some ⟨kg,0,none⟩) ns.length kc)
 f2:w.cell? ⟨wb,2,none⟩=some (.slice (some ⟨cg,0,none⟩) ns.length ns.length)
 f3:w.cell? ⟨wb,3,none⟩=some (.slice (some ⟨bg,0,none⟩) ns.length ns.length)
 nodes:NodesAt w tg ns
 len:ks.length=ns.length
 kids:∀ k (h:k < ks.length),∃ g c,w.cell? ⟨kg,k,none⟩=some (.slice (some ⟨g,0,none⟩) (ks[k]).length c)∧g≠cg∧g≠bg∧IntsAt w g 0 ks[k]
theorem Fx.kept {ns:List Tr.Nd} {ks:List (List Nat)} {wb tg tc kg kc cg bg:Nat} {w w':World} (h:Fx ns ks wb tg tc kg kc cg bg w) (hk:Kp cg bg w w'):Fx ns ks wb tg tc kg kc cg bg w':=by
 refine ⟨h.wb1,h.wb2,h.tg1,h.tg2,h.kg1,h.kg2,Nat.lt_of_lt_of_le h.wlt hk.size,Nat.lt_of_lt_of_le h.klt hk.size,?_,?_,?_,?_,?_,h.len,?_⟩
 ·exact (hk.cell (p:=⟨wb,0,none⟩) h.wlt h.wb1 h.wb2).trans h.f0
 ·exact (hk.cell (p:=⟨wb,1,none⟩) h.wlt h.wb1 h.wb2).trans h.f1
 ·exact (hk.cell (p:=⟨wb,2,none⟩) h.wlt h.wb1 h.wb2).trans h.f2
 ·exact (hk.cell (p:=⟨wb,3,none⟩) h.wlt h.wb1 h.wb2).trans h.f3
 ·refine ⟨Nat.lt_of_lt_of_le h.nodes.1 hk.size,fun i hi=>?_⟩
  obtain ⟨a,b,c,d,e⟩:=h.nodes.2 i hi
  exact ⟨(hk.cell (p:=⟨tg,i*5,none⟩) h.nodes.1 h.tg1 h.tg2).trans a,(hk.cell (p:=⟨tg,i*5+1,none⟩) h.nodes.1 h.tg1 h.tg2).trans b,(hk.cell (p:=⟨tg,i*5+2,none⟩) h.nodes.1 h.tg1 h.tg2).trans c,(hk.cell (p:=⟨tg,i*5+3,none⟩) h.nodes.1 h.tg1 h.tg2).trans d,(hk.cell (p:=⟨tg,i*5+4,none⟩) h.nodes.1 h.tg1 h.tg2).trans e⟩
 ·intro k hkl
  obtain ⟨g,c,a,b,d,e⟩:=h.kids k hkl
  exact ⟨g,c,(hk.cell (p:=⟨kg,k,none⟩) h.klt h.kg1 h.kg2).trans a,b,d,Nat.lt_of_lt_of_le e.1 hk.size,fun j hj=>(hk.cell (p:=⟨g,0+j,none⟩) e.1 b d).trans (e.2 j hj)⟩
def vi (x:Int):Value:= .int .i64 x
structure Dy (n cg bg:Nat) (s:Tr.St) (w:World):Prop where
 ne:cg≠bg
 c:w.ownsRow 0 3 1 (.slice (some ⟨cg,0,none⟩) n n) n (s.codes.map vi)
 b:w.ownsRow 0 3 1 (.slice (some ⟨bg,0,none⟩) n n) n (s.binds.map vi)
theorem Dy.lens {n cg bg:Nat} {s:Tr.St} {w:World} (h:Dy n cg bg s w):s.codes.length=n∧s.binds.length=n:=by
 have h1:=h.c.1
 have h2:=h.b.1
 simp at h1 h2
 exact ⟨h1,h2⟩
theorem Y5 {w w':World} {base size:Nat} {e:TypeId} {g n cap:Nat} {xs:List Value} (h:w.ownsRow base e size (.slice (some ⟨g,0,none⟩) n cap) n xs) (hb:w'.heap[g]?=w.heap[g]?):w'.ownsRow base e size (.slice (some ⟨g,0,none⟩) n cap) n xs:=by
 refine ⟨h.1,?_⟩
 rcases h.2 with ⟨h1,_⟩ | ⟨g',cap',cur,hv,h2,h3,h4⟩
 ·cases h1
 ·cases hv
  exact .inr ⟨g,cap,cur,rfl,h2,hb.trans h3,h4⟩
theorem Dy.below {n cg bg:Nat} {s:Tr.St} {w w':World} (h:Dy n cg bg s w) (hb:Below w.heap.size w w'):Dy n cg bg s w' :=
 ⟨h.ne,Y5 h.c (hb.block cg (h.c.lt cg rfl).2),Y5 h.b (hb.block bg (h.b.lt bg rfl).2)⟩
theorem Dy.setC {n cg bg:Nat} {s:Tr.St} {w:World} (h:Dy n cg bg s w) (k:Nat) (v:Int):Dy n cg bg {s with codes:=s.codes.set k v} (w.setCell ⟨cg,k,none⟩ (.int .i64 v)):=by
 refine ⟨h.ne,?_,Y5 h.b (Below.heap_setCell _ _ _ _ (by simpa using h.ne.symm))⟩
 have:=(h.c.stored k (.int .i64 v)).1
 rw [show (s.codes.set k v).map vi=(s.codes.map vi).set k (.int .i64 v) from by rw [List.map_set];rfl]
 exact this
theorem Dy.setB {n cg bg:Nat} {s:Tr.St} {w:World} (h:Dy n cg bg s w) (k:Nat) (v:Int):Dy n cg bg {s with binds:=s.binds.set k v} (w.setCell ⟨bg,k,none⟩ (.int .i64 v)):=by
 refine ⟨h.ne,Y5 h.c (Below.heap_setCell _ _ _ _ (by simpa using h.ne)),?_⟩
 have:=(h.b.stored k (.int .i64 v)).1
 rw [show (s.binds.set k v).map vi=(s.binds.map vi).set k (.int .i64 v) from by rw [List.map_set];rfl]
 exact this
theorem Dy.cellC {n cg bg:Nat} {s:Tr.St} {w:World} (h:Dy n cg bg s w) (k:Nat) (hk:k < n):w.cell? ⟨cg,k,none⟩=some (.int .i64 (s.codes[k]?.getD 0))∧w.frozen? ⟨cg,k,none⟩=false:=by
 refine ⟨?_,h.c.frozenAt k⟩
 rw [h.c.cellAt k (by omega)]
 have:=h.lens.1
 rw [List.getElem?_map,List.getElem?_eq_getElem (by omega)];rfl
theorem Dy.cellB {n cg bg:Nat} {s:Tr.St} {w:World} (h:Dy n cg bg s w) (k:Nat) (hk:k < n):w.cell? ⟨bg,k,none⟩=some (.int .i64 (s.binds[k]?.getD 0))∧w.frozen? ⟨bg,k,none⟩=false:=by
 refine ⟨?_,h.b.frozenAt k⟩
 rw [h.b.cellAt k (by omega)]
 have:=h.lens.2
 rw [List.getElem?_map,List.getElem?_eq_getElem (by omega)];rfl
set_option maxRecDepth 100000 in
set_option maxHeartbeats 1000000 in
theorem Jd (ns:List Tr.Nd) (ks:List (List Nat)) (wb tg tc kg kc cg bg k:Nat) (c:Int) (s:Tr.St) (w:World) (hk:k < ns.length) (hF:Fx ns ks wb tg tc kg kc cg bg w) (hD:Dy ns.length cg bg s w) :
  Calls Tryz.prog 56 #[.pointer (some ⟨wb,0,none⟩),.int .i64 k,.int .i64 c] w fun e w'=>e = .returned (.tuple #[])∧Kp cg bg w w'∧Dy ns.length cg bg (Xg k c s) w':=by
 have h2:=hF.f2
 obtain ⟨hc,hf⟩:=hD.cellC k hk
 have HD:=X1 hD
 have HS:=X1 (show Xg k c s=if s.codes[k]?.getD 0=0∨c < s.codes[k]?.getD 0 then {s with codes:=s.codes.set k c} else s from rfl)
 clear hF hD
 generalize s.codes[k]?.getD 0=z at *
 cases hz:(z == 0)
 ·by_cases hlt:c < z
  ·have a:Hid (Xg k c s={s with codes:=s.codes.set k c}):=X1 (by rw [HS.o,if_pos (.inr hlt)])
   go_enter Tryz.func56,Tryz.ntmps56
   go_wp2
   (first | go_end0 | refine bodyPost_ret (results_none rfl _ _ _) rfl ?_)
   exact ⟨rfl,(Kp.refl _ _ _).setCell _ _ (.inl rfl),by rw [a.o];exact HD.o.setC k c⟩
  ·have a:Hid (Xg k c s=s):=X1 (by rw [HS.o,if_neg (by rintro (h | h);simp [h] at hz;exact hlt h)])
   go_enter Tryz.func56,Tryz.ntmps56
   go_wp2
   (first | go_end0 | refine bodyPost_ret (results_none rfl _ _ _) rfl ?_)
   exact ⟨rfl,Kp.refl _ _ _,by rw [a.o];exact HD.o⟩
 ·have a:Hid (Xg k c s={s with codes:=s.codes.set k c}):=X1 (by rw [HS.o,if_pos (.inl (by simpa using hz))])
  go_enter Tryz.func56,Tryz.ntmps56
  go_wp2
  (first | go_end0 | refine bodyPost_ret (results_none rfl _ _ _) rfl ?_)
  exact ⟨rfl,(Kp.refl _ _ _).setCell _ _ (.inl rfl),by rw [a.o];exact HD.o.setC k c⟩
theorem Jm (x:ByteArray) (kn:List Tr.Kn) (p:Tr.Kn):XH x (kn++[p])=if p.1=x then some p.2 else XH x kn:=by
 induction kn with
 | nil=>simp [XH]
 | cons q r ih =>
  rw [List.cons_append,XH,ih,XH]
  by_cases h:p.1=x
  ·simp [h]
  ·simp [h]
theorem Tr.lookK_at (x:ByteArray) (kn:List Tr.Kn) (i:Nat) (h:i < kn.length):XH x (kn.take (i+1))=if kn[i].1=x then some kn[i].2 else XH x (kn.take i):=by
 rw [List.take_succ_eq_append_getElem h,Jm]
set_option maxHeartbeats 400000 in
theorem Jz (w:World):Calls Tryz.prog 25 #[] w fun e w'=>e = .returned (.slice (some ⟨w.heap.size,0,none⟩) 15 15)∧Below w.heap.size w w'∧w.heap.size < w'.heap.size∧Lies w' w.heap.size Yd:=by
 go_enter Tryz.func25,Tryz.ntmps25
 go_wp2
 go_ret
 refine ⟨rfl,bA _,by simp,?_⟩
 exact lies_lit w 9 Yd
theorem has_builts (s:ByteArray) (w:World) (b:Nat) (hc:Lies w b Yd) :
  Calls Tryz.prog 24 #[.slice (some ⟨b,0,none⟩) 15 15,.string s] w fun e w'=>e = .returned (.bool (decide (s.data.toList∈Yd)))∧w'=w:=has_any Yd b s w (by decide) hc
theorem ZC {ns:List Tr.Nd} {k:Nat} (h:k < ns.length):Xb ns k=ns[k].text:=by simp [Xb,h]
theorem ba_eq (a b:ByteArray):(a.toList == b.toList)=true↔a=b:=by
 rw [beq_iff_eq,Lib.toList_data,Lib.toList_data]
 exact ⟨fun h=>ByteArray.ext (Array.toList_inj.1 h),fun h=>by rw [h]⟩
set_option maxRecDepth 100000 in
set_option maxHeartbeats 2000000 in
theorem use_any (ns:List Tr.Nd) (ks:List (List Nat)) (wb tg tc kg kc cg bg k kng knc:Nat) (kn:List Tr.Kn) (s:Tr.St) (w:World) (hk:k < ns.length) (hl:kn.length≤100000000) (hF:Fx ns ks wb tg tc kg kc cg bg w) (hD:Dy ns.length cg bg s w) (hK:KnAt w kng kn) :
  Calls Tryz.prog 82 #[.pointer (some ⟨wb,0,none⟩),.int .i64 k,.slice (some ⟨kng,0,none⟩) kn.length knc] w fun e w'=>e = .returned (.tuple #[])∧Kp cg bg w w'∧Dy ns.length cg bg (YJ ns k kn s) w':=by
 obtain ⟨_,_,_,hN,_⟩:=hF.nodes.2 k hk
 have h0:=hF.f0
 have h3:=hF.f3
 obtain ⟨hcb,hfb⟩:=hD.cellB k hk
 have HU:=X1 (show YJ ns k kn s=(match XH ns[k].text kn with
  | some a=>{s with binds:=s.binds.set k a}
  | none=>if ns[k].text.data.toList∈Yd then {s with binds:=s.binds.set k (-2)} else Xg k 9 s) by rw [← ZC hk];rfl)
 generalize ns[k].text=tx at *
 have HD:=X1 hD
 have HF:=X1 hF
 have n:=X1 hK
 have g:=hF.wlt
 have a0:=hF.nodes.1
 have l:=(hD.b.lt bg rfl).2
 clear hF hD hK
 go_enter Tryz.func82,Tryz.ntmps82
 go_wp2
 go_loopw [6] (fun t wr=>∃ i:Nat,i≤kn.length∧t = .int .i64 ((i:Int) - 1)∧Below w.heap.size w wr∧XH tx kn=XH tx (kn.take i)) (fun t _=>(intOf t+1).toNat)
 case atStart=>exact ⟨kn.length,Nat.le_refl _,rfl,Below.refl _ _,by rw [List.take_length]⟩
 case round =>
  obtain ⟨i,hi,rfl,hB,he⟩:=hrel
  have HE:=X1 he
  clear he
  have q0:=(hB.cell (p:=⟨wb,0,none⟩) g).trans h0
  have q3:=(hB.cell (p:=⟨wb,3,none⟩) g).trans h3
  have qN:=(hB.cell (p:=⟨tg,k*5+3,none⟩) a0).trans hN
  have qb:=(hB.cell (p:=⟨bg,k,none⟩) l).trans hcb
  have qf:=(hB.frozen (p:=⟨bg,k,none⟩) l).trans hfb
  by_cases hpos:0 < i
  ·obtain ⟨j,rfl⟩:∃ j,i=j+1:=⟨i - 1,by omega⟩
   have HS:=X1 (Tr.lookK_at tx kn j (by omega))
   obtain ⟨e0,e1⟩:=n.o.2 j (by omega)
   have k0:=(hB.cell (p:=⟨kng,j*2,none⟩) n.o.1).trans e0
   have k1:=(hB.cell (p:=⟨kng,j*2+1,none⟩) n.o.1).trans e1
   have hba:=ba_eq kn[j].1 tx
   generalize kn[j].1=tj at *
   generalize kn[j].2=aj at *
   have hj1:((j+1:Nat):Int) - 1=j:=by omega
   rw [hj1]
   cases hq:(tj.toList == tx.toList)
   ·have f:Hid (XH tx kn=XH tx (kn.take j)):=X1 (by rw [HE.o,HS.o,if_neg (fun h=>by rw [hba.2 h] at hq;cases hq)])
    go_wp2
    go_quiet (fail)
    go_wp2
    go_roundw
    case rel=>exact ⟨j,by omega,by go_num,below_drewN hB _,f.o⟩
    case measure=>simp [intOf]
   ·have f:Hid (YJ ns k kn s={s with binds:=s.binds.set k aj}):=X1 (by rw [HU.o,HE.o,HS.o,if_pos (hba.1 hq)])
    go_wp2
    go_quiet (fail)
    go_wp2
    go_region
    all_goals
     go_wp2
     (first | go_end0 | refine bodyPost_ret (results_none rfl _ _ _) rfl ?_)
     exact ⟨rfl,(Kp.of_below (below_drewN hB _)).setCell _ _ (.inr rfl),by rw [f.o];exact (HD.o.below (below_drewN hB _)).setB k aj⟩
  ·obtain rfl:i=0:=by omega
   have HN:Hid (XH tx kn=none):=X1 (by rw [HE.o];rfl)
   have r:=Nat.lt_of_lt_of_le g hB.size
   have hw1:=Nat.lt_of_lt_of_le a0 hB.size
   have hw2:=Nat.lt_of_lt_of_le l hB.size
   have HBT:=X1 (has_builts tx)
   cases hbt:decide (tx.data.toList∈Yd)
   ·have f:Hid (YJ ns k kn s=Xg k 9 s):=X1 (by rw [HU.o,HN.o];simp only;rw [if_neg (by simpa using hbt)])
    have c:=HBT.o
    rw [hbt] at c
    replace c:=X1 c
    have HFA:=X1 (fun w' (hb:Below w.heap.size w w')=>Jd ns ks wb tg tc kg kc cg bg k 9 s w' hk (HF.o.kept (.of_below hb)) (HD.o.below hb))
    go_wp2
    go_region_with (first
     | (go_at_call 25;refine (Jz _).mono ?_;rintro e w1 ⟨rfl,d,hz1,q⟩;have r0:=(d.cell (p:=⟨wb,0,none⟩) r).trans q0;have rN:=(d.cell (p:=⟨tg,k*5+3,none⟩) hw1).trans qN)
     | (go_at_call 24;refine (c.o _ _ q).mono ?_;rintro e w' ⟨rfl,rfl⟩))
    all_goals
     have m:=hB.drew.trans (d.mono hB.size)
     go_wp2_with fail
     refine (HFA.o _ m).mono ?_
     rintro e w2 ⟨rfl,hk2,hd2⟩
     go_wp2
     (first | go_end0 | refine bodyPost_ret (results_none rfl _ _ _) rfl ?_)
     exact ⟨rfl,(Kp.of_below m).trans hk2,by rw [f.o];exact hd2⟩
   ·have f:Hid (YJ ns k kn s={s with binds:=s.binds.set k (-2)}):=X1 (by rw [HU.o,HN.o];simp only;rw [if_pos (by simpa using hbt)])
    have c:=HBT.o
    rw [hbt] at c
    replace c:=X1 c
    go_wp2
    go_region_with (first
     | (go_at_call 25;refine (Jz _).mono ?_;rintro e w1 ⟨rfl,d,hz1,q⟩;have r0:=(d.cell (p:=⟨wb,0,none⟩) r).trans q0;have rN:=(d.cell (p:=⟨tg,k*5+3,none⟩) hw1).trans qN;have r3:=(d.cell (p:=⟨wb,3,none⟩) r).trans q3;have rb:=(d.cell (p:=⟨bg,k,none⟩) hw2).trans qb;have rf:=(d.frozen (p:=⟨bg,k,none⟩) hw2).trans qf)
     | (go_at_call 24;refine (c.o _ _ q).mono ?_;rintro e w' ⟨rfl,rfl⟩))
    all_goals
     have m:=hB.drew.trans (d.mono hB.size)
     go_wp2
     (first | go_end0 | refine bodyPost_ret (results_none rfl _ _ _) rfl ?_)
     exact ⟨rfl,(Kp.of_below m).setCell _ _ (.inr rfl),by rw [f.o];exact (HD.o.below m).setB k (-2)⟩
theorem Tryz.infoKn:(Tryz.prog.info? 96).map (fun i=>(i.zero,i.size,i.bytes))=some (some (.agg #[.string ⟨#[]⟩,.int .i64 0]),2,24):=by kernel_rfl
theorem JJ (w:World) (x:ByteArray) (a:Nat) (t:TypeId):∀ (j:Nat) (u:Value),(Xu [(x,a)])[j]?=some u→(w.alloc (.cells #[.string x,.int .i64 a] t)).cell? ((⟨w.heap.size,0,none⟩:Addr).add j)=some u:=by
 intro j u h
 rw [ZS,Nat.zero_add,World.cell?,Xi]
 simpa [Xu] using h
theorem ZG (kn:List Tr.Kn) (p:Tr.Kn):Xu (kn++[p])=Xu kn++Xu [p]:=by simp [Xu]
theorem QK {cg bg:Nat} {w w':World} {base size:Nat} {e:TypeId} {g n cap:Nat} {xs:List Value} (h:w.ownsRow base e size (.slice (some ⟨g,0,none⟩) n cap) n xs) (hk:Kp cg bg w w') (h1:g≠cg) (h2:g≠bg):w'.ownsRow base e size (.slice (some ⟨g,0,none⟩) n cap) n xs :=
 Y5 h (hk.block g (h.lt g rfl).2 h1 h2)
theorem Kp.grown {cg bg:Nat} {w w1 w2:World} {row:Option Nat} (h:Kp cg bg w w1) (hg:w1.grownBy w2 row) (hr:∀ q,row=some q→w.heap.size≤q):Kp cg bg w w2 :=
 ⟨hg.os.trans h.os,hg.tape.trans h.tape,hg.output.trans h.output,Nat.le_trans h.size hg.size,fun b hb h1 h2=>(hg.block b (Nat.lt_of_lt_of_le hb h.size) (fun e=>by have:=hr b e.symm;omega)).trans (h.block b hb h1 h2)⟩
theorem Dy.grown {n cg bg:Nat} {s:Tr.St} {w w':World} {row:Option Nat} (h:Dy n cg bg s w) (hg:w.grownBy w' row) (h1:row≠some cg) (h2:row≠some bg):Dy n cg bg s w' :=
 ⟨h.ne,Y5 h.c (hg.block cg (h.c.lt cg rfl).2 (fun e=>h1 e.symm)),Y5 h.b (hg.block bg (h.b.lt bg rfl).2 (fun e=>h2 e.symm))⟩
theorem Tr.dupS_at (ns:List Tr.Nd) (p:Nat) (ls:List Nat) (j:Nat) (s:Tr.St) (h:j < ls.length):Ye ns p (ls.take (j+1)) s=if Xb ns ls[j]=Xb ns p then Xg p 8 (Ye ns p (ls.take j) s) else Ye ns p (ls.take j) s:=by
 unfold Ye
 rw [List.take_succ_eq_append_getElem h,List.foldl_append];rfl
theorem Tr.fnS_at (G:Nat→List Tr.Kn→Tr.St→Tr.St) (ns:List Tr.Nd) (ks:List (List Nat)) (ls:List Nat) (i:Nat) (kn:List Tr.Kn) (df:Bool) (s:Tr.St) (h:i+1 < ls.length) :
  Yh G ns ks (ls.drop i) (ls.take i) kn df s=Yh G ns ks (ls.drop (i+1)) (ls.take (i+1)) (kn++[(Xb ns (ls[i]'(by omega)),ls[i]'(by omega))]) (df || !decide ((X5 ks (ls[i]'(by omega))).length=0))
   (YG G ns ks (ls[i]'(by omega)) (ls.take i) kn df s):=by
 rw [List.drop_eq_getElem_cons (by omega:i < ls.length),List.drop_eq_getElem_cons h,Yh,List.take_succ_eq_append_getElem (by omega:i < ls.length)]
theorem Tr.fnS_last (G:Nat→List Tr.Kn→Tr.St→Tr.St) (ns:List Tr.Nd) (ks:List (List Nat)) (ls:List Nat) (i:Nat) (kn:List Tr.Kn) (df:Bool) (s:Tr.St) (h:i+1=ls.length) :
  Yh G ns ks (ls.drop i) (ls.take i) kn df s=G (ls[i]'(by omega)) kn s:=by
 rw [List.drop_eq_getElem_cons (by omega:i < ls.length),List.drop_of_length_le (by omega),Yh]
theorem Z9 {w2:World} {b size:Nat} {e:TypeId} {v2:Value} {n g H:Nat} {xs:List Value} (hown:w2.ownsRow b e size v2 n xs) (hnil:¬ v2 = .slice none 0 0)
  (hat:v2.ownBlock=some g∨v2.ownBlock=some H):∃ g2 c2,v2 = .slice (some ⟨g2,0,none⟩) n c2∧(g2=g∨g2=H):=by
 rcases hown.2 with ⟨h,_⟩ | ⟨g2,c2,_,h,_⟩
 ·exact absurd h hnil
 ·subst h
  refine ⟨g2,c2,rfl,?_⟩
  simpa [Value.ownBlock] using hat
def GoOk (ns:List Tr.Nd) (ks:List (List Nat)) (wb tg tc kg kc cg bg f:Nat) (G:Nat→List Tr.Kn→Tr.St→Tr.St):Prop :=
 ∀ (k kng knc:Nat) (kn:List Tr.Kn) (s:Tr.St) (w:World),k < f→k < ns.length→kn.length+5001 * f≤100000000→Fx ns ks wb tg tc kg kc cg bg w→Dy ns.length cg bg s w→KnAt w kng kn→kng≠cg→kng≠bg →
  Calls Tryz.prog 57 #[.pointer (some ⟨wb,0,none⟩),.int .i64 k,.slice (some ⟨kng,0,none⟩) kn.length knc] w fun e w'=>e = .returned (.tuple #[])∧Kp cg bg w w'∧Dy ns.length cg bg (G k kn s) w'
set_option maxRecDepth 100000 in
set_option maxHeartbeats 4000000 in
theorem function_any (ns:List Tr.Nd) (ks:List (List Nat)) (wb tg tc kg kc cg bg f:Nat) (G:Nat→List Tr.Kn→Tr.St→Tr.St) (hG:GoOk ns ks wb tg tc kg kc cg bg f G) (hn:ns.length≤5000)
  (hkid:∀ k (h:k < ks.length),∀ x∈ks[k],x < k) (ls:List Nat) (rg rc kng knc:Nat) (kn:List Tr.Kn) (s:Tr.St) (w:World)
  (hls:∀ x∈ls,x < f∧x < ns.length) (hl1:1≤ls.length) (hl2:ls.length≤5000) (hb:kn.length+5001 * f+5001≤100000000)
  (hF:Fx ns ks wb tg tc kg kc cg bg w) (hD:Dy ns.length cg bg s w) (hK:KnAt w kng kn) (hI:IntsAt w rg 0 ls) (hr1:rg≠cg) (hr2:rg≠bg) (hc1:cg < w.heap.size) (hc2:bg < w.heap.size) :
  Calls Tryz.prog 83 #[.pointer (some ⟨wb,0,none⟩),.slice (some ⟨rg,0,none⟩) ls.length rc,.slice (some ⟨kng,0,none⟩) kn.length knc] w fun e w'=>e = .returned (.tuple #[])∧Kp cg bg w w'∧Dy ns.length cg bg (Yh G ns ks ls [] kn false s) w':=by
 obtain ⟨iK,X,Z,Y,W⟩:=info_parts Tryz.infoKn
 have HG:=X1 hG
 have HF:=X1 hF
 have HD:=X1 hD
 have HK:=X1 hK
 have HI:=X1 hI
 have HLS:=X1 hls
 have HKD:=X1 hkid
 clear hG hF hD hK hI hls hkid
 go_enter Tryz.func83,Tryz.ntmps83
 go_wp2_with (at_builtin;refine wpList_append_own_at _ rfl _ _ 93 rfl w.heap.size 96 iK _ 2 24 Tryz.underlying93 X Z Y W rfl (by decide) (.slice (some ⟨w.heap.size,0,none⟩) 0 0) 0 [] rfl (World.ownsRow_lit (base:=w.heap.size) w #[] 0 (Nat.le_refl _) (Nat.zero_le _) rfl) ⟨kng,0,none⟩ kn.length knc (Xu kn) rfl (ZQ kn) (kn_news (HK.o.kept (cg:=w.heap.size) (bg:=w.heap.size) (Kp.of_below (bA _)) (Nat.ne_of_lt HK.o.1) (Nat.ne_of_lt HK.o.1))) (Yp kn) (by unfold maxLen;omega) (by omega) (by simp) ?_)
 intro v6 w1 z r a0 a1
 obtain ⟨g6,c6,rfl,hg6⟩:=Z9 z a0 (by simpa [Value.ownBlock] using a1)
 have a2:w.heap.size≤g6:=by rcases hg6 with h | h <;> (try simp at h) <;> omega
 have hK1:Kp cg bg w w1:=((Kp.refl _ _ _).alloc _).grown r (fun q e=>by simp [Value.ownBlock] at e;omega)
 have hD1:Dy ns.length cg bg s w1:=(HD.o.below (bA _)).grown r (by simp [Value.ownBlock];omega) (by simp [Value.ownBlock];omega)
 have HO1:=X1 z
 clear r a0 a1 z
 go_wp2
 go_loopw [6,7,8] (fun v6 v7 t wr=>∃ (i g6 c6:Nat) (b:List Tr.Kn) (df:Bool) (si:Tr.St),i+1≤ls.length∧t = .int .i64 i∧v7 = .bool df∧v6 = .slice (some ⟨g6,0,none⟩) b.length c6∧w.heap.size≤g6∧b.length=kn.length+i ∧
   wr.ownsRow w.heap.size 96 2 (.slice (some ⟨g6,0,none⟩) b.length c6) b.length (Xu b)∧Kp cg bg w wr∧Dy ns.length cg bg si wr∧Yh G ns ks ls [] kn false s=Yh G ns ks (ls.drop i) (ls.take i) b df si) (fun _ _ t _=>ls.length - (intOf t).toNat)
 case atStart=>exact ⟨0,g6,c6,kn,false,s,hl1,rfl,rfl,rfl,a2,rfl,HO1.o,hK1,hD1,rfl⟩
 case round =>
  obtain ⟨i,g6,c6,b,df,si,hi,rfl,rfl,rfl,a2,a9,ho,C,hDr,he⟩:=hrel
  have HE:=X1 he
  have HO:=X1 ho
  have HDr:=X1 hDr
  have E:=X1 a9
  have hkb:b.length≤kn.length+i:=Nat.le_of_eq a9
  clear he ho hDr a9
  have hFr:=HF.o.kept C
  have a6:IntsAt wr rg 0 ls:=⟨Nat.lt_of_lt_of_le HI.o.1 C.size,fun j hj=>(C.cell (p:=⟨rg,0+j,none⟩) HI.o.1 hr1 hr2).trans (HI.o.2 j hj)⟩
  have hx:=a6.2 i (by omega)
  rw [Nat.zero_add] at hx
  have A:=HLS.o _ (List.getElem_mem (by omega:i < ls.length))
  have n:=X1 hFr
  have HIr:=X1 a6
  clear hFr a6
  by_cases hlt:i+1 < ls.length
  ·have HS:=X1 (Tr.fnS_at G ns ks ls i b df si hlt)
   have hlti:(i:Int)+1 < (ls.length:Int):=by omega
   have b0:ls[i] < ks.length:=by rw [n.o.len];exact A.2
   obtain ⟨kg2,kc2,hkc,a7,a8,hki⟩:=n.o.kids ls[i] b0
   have I:=X1 (show X5 ks ls[i]=ks[ls[i]] by simp [X5,b0])
   have HKL:=X1 (HKD.o ls[i] b0)
   have HDU:=X1 (fun j (hj:j < ls.length)=>Tr.dupS_at ns ls[i] ls j si hj)
   have htx:=(n.o.nodes.2 ls[i] A.2).2.2.2.1
   have L:=X1 (ZC A.2)
   generalize hpp:ls[i]=p at *
   generalize ks[p]=kp at *
   generalize hnt:ns[p].text=tp at *
   have V:=X1 hnt
   clear hnt
   go_wp2
   go_loopw [10] (fun t wq=>∃ (j:Nat),j≤i∧t = .int .i64 j∧Kp cg bg wr wq∧Dy ns.length cg bg (Ye ns p (ls.take j) si) wq) (fun t _=>i - (intOf t).toNat)
   case atStart=>exact ⟨0,Nat.zero_le _,rfl,Kp.refl _ _ _,HDr.o⟩
   case round =>
    obtain ⟨j,hj,rfl,B,hDq⟩:=hrel
    have O:=n.o.kept B
    have U:=X1 O
    have K:=X1 hDq
    have f0:=O.f0
    have f1:=O.f1
    have htq:=(O.nodes.2 p A.2).2.2.2.1
    rw [V.o] at htq
    clear O hDq
    by_cases hji:j < i
    ·have hj1:=HIr.o.2 j (by omega)
     rw [Nat.zero_add] at hj1
     have hj2:=(B.cell (p:=⟨rg,j,none⟩) HIr.o.1 hr1 hr2).trans hj1
     have hxj:=HLS.o ls[j] (List.getElem_mem (by omega:j < ls.length))
     have htj:=(U.o.nodes.2 ls[j] hxj.2).2.2.2.1
     have HDJ:=X1 (HDU.o j (by omega))
     have HTJ:=X1 (ZC hxj.2)
     have hba:=ba_eq ns[ls[j]].text tp
     generalize ns[ls[j]].text=tj at *
     generalize ls[j]=xj at *
     cases hqq:(tj.toList == tp.toList)
     ·have a4:Hid (Ye ns p (ls.take (j+1)) si=Ye ns p (ls.take j) si):=X1 (by rw [HDJ.o,HTJ.o,L.o,if_neg (fun h=>by rw [hba.2 h] at hqq;cases hqq)])
      go_wp2
      go_quiet (fail)
      go_wp2
      go_roundw
      case rel=>exact ⟨j+1,by omega,by go_num,B.below (below_drewN (Below.refl _ _) _),by rw [a4.o];exact K.o.below (below_drewN (Below.refl _ _) _)⟩
      case measure=>simp [intOf];omega
     ·have a4:Hid (Ye ns p (ls.take (j+1)) si=Xg p 8 (Ye ns p (ls.take j) si)):=X1 (by rw [HDJ.o,HTJ.o,L.o,if_pos (hba.1 hqq)])
      go_wp2
      go_quiet (fail)
      go_wp2_with fail
      refine (Jd ns ks wb tg tc kg kc cg bg p 8 _ _ A.2 (U.o.kept (Kp.of_below (below_drewN (Below.refl _ _) _))) (K.o.below (below_drewN (Below.refl _ _) _))).mono ?_
      rintro e w2 ⟨rfl,H,F⟩
      go_wp2
      go_roundw
      case rel=>exact ⟨j+1,by omega,by go_num,(B.below (below_drewN (Below.refl _ _) _)).trans H,by rw [a4.o];exact F⟩
      case measure=>simp [intOf];omega
    ·obtain rfl:j=i:=by omega
     have hkq:=(B.cell (p:=⟨kg,p,none⟩) n.o.klt n.o.kg1 n.o.kg2).trans hkc
     have HKQ:=X1 hkq
     cases kp with
     | nil =>
      cases df with
      | false =>
       have u:Hid (YG G ns ks p (ls.take j) b false si=Ye ns p (ls.take j) si):=X1 (by unfold YG;rw [I.o];rfl)
       have l:=B
       have D:=K.o
       have v:=n.o.kept l
       have fW0:=v.f0
       have M:=(v.nodes.2 p A.2).2.2.2.1
       rw [V.o] at M
       have S:=QK HO.o l (by omega) (by omega)
       have hsW:=l.size
       have hsR:=C.size
       have J:=X1 D
       clear v D
       go_wp2_with (at_builtin;refine wpList_append_own_at _ rfl _ _ 93 rfl w.heap.size 96 iK _ 2 24 Tryz.underlying93 X Z Y W rfl (by decide) (.slice (some ⟨g6,0,none⟩) b.length c6) b.length (Xu b) rfl (S.alloc _) ⟨wr.heap.size,0,none⟩ 1 1 (Xu [(tp,p)]) rfl rfl (JJ _ _ _ _) (Yp _) (by unfold maxLen;omega) (by omega) (by simp;omega) ?_)
       intro v7 w7 d a c g
       obtain ⟨g7,c7,rfl,Q⟩:=Z9 d c (by simpa [Value.ownBlock] using g)
       have y:w.heap.size≤g7:=by rcases Q with h | h <;> (try simp at h) <;> omega
       have P:Kp cg bg w w7:=((C.trans l).alloc _).grown a (fun q e=>by simp [Value.ownBlock] at e;omega)
       have N:=(J.o.below (bA _)).grown a (by simp [Value.ownBlock];omega) (by simp [Value.ownBlock];omega)
       clear a c g
       go_wp2
       go_roundw
       case rel =>
        refine ⟨j+1,g7,c7,b++[(tp,p)],false,Ye ns p (ls.take j) si,by omega,by go_num,rfl,by simp,y,by have:=E.o;simp;omega,?_,P,N,?_⟩
        ·rw [List.length_append,List.length_singleton,ZG];exact d
        ·rw [HE.o,HS.o,L.o,I.o,u.o];rfl
       case measure=>simp [intOf];omega
      | true =>
       have u:Hid (YG G ns ks p (ls.take j) b true si=Xg p 10 (Ye ns p (ls.take j) si)):=X1 (by unfold YG;rw [I.o];rfl)
       go_wp2_with fail
       refine (Jd ns ks wb tg tc kg kc cg bg p 10 _ _ A.2 U.o K.o).mono ?_
       rintro e w2 ⟨rfl,H,F⟩
       have l:=B.trans H
       have D:=F
       have f1W:=(n.o.kept l).f1
       have hkW:=(l.cell (p:=⟨kg,p,none⟩) n.o.klt n.o.kg1 n.o.kg2).trans hkc
       have v:=n.o.kept l
       have fW0:=v.f0
       have M:=(v.nodes.2 p A.2).2.2.2.1
       rw [V.o] at M
       have S:=QK HO.o l (by omega) (by omega)
       have hsW:=l.size
       have hsR:=C.size
       have J:=X1 D
       clear v D
       go_wp2_with (at_builtin;refine wpList_append_own_at _ rfl _ _ 93 rfl w.heap.size 96 iK _ 2 24 Tryz.underlying93 X Z Y W rfl (by decide) (.slice (some ⟨g6,0,none⟩) b.length c6) b.length (Xu b) rfl (S.alloc _) ⟨w2.heap.size,0,none⟩ 1 1 (Xu [(tp,p)]) rfl rfl (JJ _ _ _ _) (Yp _) (by unfold maxLen;omega) (by omega) (by simp;omega) ?_)
       intro v7 w7 d a c g
       obtain ⟨g7,c7,rfl,Q⟩:=Z9 d c (by simpa [Value.ownBlock] using g)
       have y:w.heap.size≤g7:=by rcases Q with h | h <;> (try simp at h) <;> omega
       have P:Kp cg bg w w7:=((C.trans l).alloc _).grown a (fun q e=>by simp [Value.ownBlock] at e;omega)
       have N:=(J.o.below (bA _)).grown a (by simp [Value.ownBlock];omega) (by simp [Value.ownBlock];omega)
       clear a c g
       go_wp2
       go_roundw
       case rel =>
        refine ⟨j+1,g7,c7,b++[(tp,p)],true,Xg p 10 (Ye ns p (ls.take j) si),by omega,by go_num,rfl,by simp,y,by have:=E.o;simp;omega,?_,P,N,?_⟩
        ·rw [List.length_append,List.length_singleton,ZG];exact d
        ·rw [HE.o,HS.o,L.o,I.o,u.o];rfl
       case measure=>simp [intOf];omega
     | cons x xr =>
      have u:Hid (YG G ns ks p (ls.take j) b df si=G x b (Ye ns p (ls.take j) si)):=X1 (by unfold YG;rw [I.o])
      have a3:=hki.2 0 (by simp)
      simp only [Nat.zero_add,List.getElem_cons_zero] at a3
      have hx0:=(B.cell (p:=⟨kg2,0,none⟩) hki.1 a7 a8).trans a3
      have hxp:=HKL.o x (by simp)
      have a5:=X1 (HG.o x g6 c6 b (Ye ns p (ls.take j) si) _ (by omega) (by omega) (by omega) U.o K.o (Qp (QK HO.o B (by omega) (by omega))) (by omega) (by omega))
      have hxl1:((x :: xr).length:Int)=(xr.length:Int)+1:=by simp
      cases df
      all_goals
       go_wp2_with fail
       refine a5.o.mono ?_
       rintro e w2 ⟨rfl,H,F⟩
       have l:=B.trans H
       have D:=F
       have v:=n.o.kept l
       have fW0:=v.f0
       have M:=(v.nodes.2 p A.2).2.2.2.1
       rw [V.o] at M
       have S:=QK HO.o l (by omega) (by omega)
       have hsW:=l.size
       have hsR:=C.size
       have J:=X1 D
       clear v D
       go_wp2_with (at_builtin;refine wpList_append_own_at _ rfl _ _ 93 rfl w.heap.size 96 iK _ 2 24 Tryz.underlying93 X Z Y W rfl (by decide) (.slice (some ⟨g6,0,none⟩) b.length c6) b.length (Xu b) rfl (S.alloc _) ⟨w2.heap.size,0,none⟩ 1 1 (Xu [(tp,p)]) rfl rfl (JJ _ _ _ _) (Yp _) (by unfold maxLen;omega) (by omega) (by simp;omega) ?_)
       intro v7 w7 d a c g
       obtain ⟨g7,c7,rfl,Q⟩:=Z9 d c (by simpa [Value.ownBlock] using g)
       have y:w.heap.size≤g7:=by rcases Q with h | h <;> (try simp at h) <;> omega
       have P:Kp cg bg w w7:=((C.trans l).alloc _).grown a (fun q e=>by simp [Value.ownBlock] at e;omega)
       have N:=(J.o.below (bA _)).grown a (by simp [Value.ownBlock];omega) (by simp [Value.ownBlock];omega)
       clear a c g
       go_wp2
       go_roundw
       case rel =>
        refine ⟨j+1,g7,c7,b++[(tp,p)],true,G x b (Ye ns p (ls.take j) si),by omega,by go_num,rfl,by simp,y,by have:=E.o;simp;omega,?_,P,N,?_⟩
        ·rw [List.length_append,List.length_singleton,ZG];exact d
        ·rw [HE.o,HS.o,L.o,I.o,u.o];rfl
       case measure=>simp [intOf];omega
  ·have HS:=X1 (Tr.fnS_last G ns ks ls i b df si (by omega))
   have a5:=X1 (HG.o ls[i] g6 c6 b si wr A.1 A.2 (by omega) n.o HDr.o (Qp HO.o) (by omega) (by omega))
   obtain ⟨m,hm⟩:∃ m,ls.length=m+1:=⟨ls.length - 1,by omega⟩
   obtain rfl:i=m:=by omega
   generalize ls[i]=p at *
   go_wp2_with fail
   refine a5.o.mono ?_
   rintro e w2 ⟨rfl,H,F⟩
   go_wp2
   (first | go_end0 | refine bodyPost_ret (results_none rfl _ _ _) rfl ?_)
   exact ⟨rfl,C.trans H,by rw [HE.o,HS.o];exact F⟩
end Go.Proofs.YtimbaebigjjkaaaGreatDoor
