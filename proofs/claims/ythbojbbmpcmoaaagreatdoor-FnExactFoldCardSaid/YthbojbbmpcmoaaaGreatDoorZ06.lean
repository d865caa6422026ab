/- Vh, Ka, Kb, Kc. -/
import Derived.Test.YthbojbbmpcmoaaaGreatDoorZ03
import Derived.Test.YthbojbbmpcmoaaaGreatDoorZ04
import Derived.Test.YthbojbbmpcmoaaaGreatDoorZ05
import Derived.Deep.RegionLaw
namespace Go.Proofs.YthbojbbmpcmoaaaGreatDoor
open Go.RowKit
theorem kidsOk_any (kind:Int) (ns:List Tr.Nd) (ls:List Nat) (tg tc g c:Nat) (w:World) (hl:ls.length≤1048576) (ht:NodesAt w tg ns) (hi:IntsAt w g 0 ls) (hin:∀ x∈ls,x < ns.length) (hcap:ls.length≤c) :
  Calls Tryz.prog 130 #[.agg #[.slice (some ⟨tg,0,none⟩) ns.length tc],.int .i64 kind,.slice (some ⟨g,0,none⟩) ls.length c] w fun e w'=>e = .returned (.bool (Tr.kidsOk ns kind ls))∧Below w.heap.size w w':=by
 by_cases h0:kind < 1∨24 < kind
 ·exact kidsOk_other kind ns ls tg tc g c w hl ht hi hin h0
 by_cases h9:kind=9
 ·exact kidsOk_9 kind ns ls tg tc g c w hl ht hi hin h9
 by_cases h12:kind=12
 ·exact kidsOk_12 kind ns ls tg tc g c w hl ht hi hin h12 hcap
 by_cases h15:kind=15∨kind=20
 ·exact kidsOk_fn kind ns ls tg tc g c w hl ht hi hin h15
 by_cases h23:kind=23
 ·exact kidsOk_23 kind ns ls tg tc g c w hl ht hi hin h23
 by_cases h24:kind=24
 ·exact kidsOk_24 kind ns ls tg tc g c w hl ht hi hin h24
 exact kidsOk_simple kind ns ls tg tc g c w hl ht hi hin (by omega)
theorem Tr.krun_lt (ns:List Tr.Nd) (i:Nat) (op:List Nat) (h:∀ x∈op,x < i):∀ j ks,(Tr.krun ns i op).1[j]?=some ks→∀ x∈ks,x < i+j:=by
 induction ns generalizing i op with
 | nil=>intro j ks hj;simp [Tr.krun] at hj
 | cons d r ih =>
  intro j ks hj x hx
  by_cases hk:d.kids < 0∨(op.length:Int) < d.kids
  ·simp [Tr.krun,hk] at hj
  ·have e:(Tr.krun (d :: r) i op).1=op.drop (op.length - d.kids.toNat) :: (Tr.krun r (i+1) (op.take (op.length - d.kids.toNat)++[i])).1:=by
    rw [Tr.krun,if_neg hk]
   have hop:∀ x∈op.take (op.length - d.kids.toNat)++[i],x < i+1:=by
    intro y hy
    rcases List.mem_append.1 hy with hy | hy
    ·have:=h y (List.mem_of_mem_take hy);omega
    ·have:y=i:=by simpa using hy
     omega
   rw [e] at hj
   cases j with
   | zero =>
    rw [List.getElem?_cons_zero] at hj
    cases hj
    exact h x (List.mem_of_mem_drop hx)
   | succ j =>
    rw [List.getElem?_cons_succ] at hj
    have:=ih (i+1) _ hop j ks hj x hx
    omega
theorem Tr.kids_lt (ns:List Tr.Nd) (j:Nat) (hj:j < (Tr.kids ns).length):∀ x∈(Tr.kids ns)[j],x < j:=by
 intro x hx
 have:=Tr.krun_lt ns 0 [] (fun x h=>by cases h) j _ (List.getElem?_eq_getElem hj) x hx
 omega
theorem Tr.krun_short (ns:List Tr.Nd) (i:Nat) (op:List Nat):∀ j ks,(Tr.krun ns i op).1[j]?=some ks→ks.length≤op.length+j:=by
 induction ns generalizing i op with
 | nil=>intro j ks hj;simp [Tr.krun] at hj
 | cons d r ih =>
  intro j ks hj
  by_cases hk:d.kids < 0∨(op.length:Int) < d.kids
  ·simp [Tr.krun,hk] at hj
  ·have e:(Tr.krun (d :: r) i op).1=op.drop (op.length - d.kids.toNat) :: (Tr.krun r (i+1) (op.take (op.length - d.kids.toNat)++[i])).1:=by
    rw [Tr.krun,if_neg hk]
   rw [e] at hj
   cases j with
   | zero =>
    rw [List.getElem?_cons_zero] at hj
    cases hj
    simp
   | succ j =>
    rw [List.getElem?_cons_succ] at hj
    have:=ih (i+1) _ j ks hj
    simp at this
    omega
theorem Tr.kids_short (ns:List Tr.Nd) (j:Nat) (hj:j < (Tr.kids ns).length):((Tr.kids ns)[j]).length≤j:=by
 have:=Tr.krun_short ns 0 [] j _ (List.getElem?_eq_getElem hj)
 simpa using this
theorem Tr.krun_len (ns:List Tr.Nd) (i:Nat) (op:List Nat):(Tr.krun ns i op).1.length≤ns.length∧((Tr.krun ns i op).2≠none→(Tr.krun ns i op).1.length=ns.length):=by
 induction ns generalizing i op with
 | nil=>simp [Tr.krun]
 | cons d r ih =>
  by_cases hk:d.kids < 0∨(op.length:Int) < d.kids
  ·simp [Tr.krun,hk]
  ·have:=ih (i+1) (op.take (op.length - d.kids.toNat)++[i])
   simp only [Tr.krun,if_neg hk,List.length_cons]
   exact ⟨by omega,fun h=>by have:=this.2 h;omega⟩
theorem Tr.kids_len {ns:List Tr.Nd} (h:Tr.kidsGood ns=true):(Tr.kids ns).length=ns.length:=by
 refine (Tr.krun_len ns 0 []).2 fun e=>?_
 unfold Tr.kidsGood at h
 rw [e] at h
 cases h
abbrev Tr.Kn:=ByteArray × Nat
structure Tr.St where
 codes:List Int
 binds:List Int
def Tr.faultS (k:Nat) (c:Int) (s:Tr.St):Tr.St:=if s.codes[k]?.getD 0=0∨c < s.codes[k]?.getD 0 then {s with codes:=s.codes.set k c} else s
def Tr.textOf (ns:List Tr.Nd) (k:Nat):ByteArray:=(ns[k]?.map (·.text)).getD ⟨#[]⟩
def Tr.lookK (x:ByteArray):List Tr.Kn→Option Nat
 | []=>none
 | p :: r=>match Tr.lookK x r with
  | some a=>some a
  | none=>if p.1=x then some p.2 else none
def Tr.builts:List (List UInt8):=[[98,101,103,105,110,115],[99,117,116],[102,97,105,108],[102,105,108,101,115],[105,110,116],[106,111,105,110],[107,101,121,115],[108,101,110],[114,97,110,103,101],[114,101,99,111,114,100],[115,111,114,116,101,100],[115,112,108,105,116],[116,101,120,116],[117,110,105,113,117,101],[119,105,116,104,111,117,116]]
def Tr.useS (ns:List Tr.Nd) (k:Nat) (kn:List Tr.Kn) (s:Tr.St):Tr.St:=match Tr.lookK (Tr.textOf ns k) kn with
 | some a=>{s with binds:=s.binds.set k a}
 | none=>if (Tr.textOf ns k).data.toList∈Tr.builts then {s with binds:=s.binds.set k (-2)} else Tr.faultS k 9 s
def Tr.kidsOf (ks:List (List Nat)) (k:Nat):List Nat:=ks[k]?.getD []
def Tr.dupS (ns:List Tr.Nd) (p:Nat) (seen:List Nat) (s:Tr.St):Tr.St:=seen.foldl (fun s x=>if Tr.textOf ns x=Tr.textOf ns p then Tr.faultS p 8 s else s) s
def Tr.parS (G:Nat→List Tr.Kn→Tr.St→Tr.St) (ns:List Tr.Nd) (ks:List (List Nat)) (p:Nat) (seen:List Nat) (kn:List Tr.Kn) (df:Bool) (s:Tr.St):Tr.St:=match Tr.kidsOf ks p with
 | []=>if df=true then Tr.faultS p 10 (Tr.dupS ns p seen s) else Tr.dupS ns p seen s
 | c :: _=>G c kn (Tr.dupS ns p seen s)
def Tr.fnS (G:Nat→List Tr.Kn→Tr.St→Tr.St) (ns:List Tr.Nd) (ks:List (List Nat)):List Nat→List Nat→List Tr.Kn→Bool→Tr.St→Tr.St
 | [],_,_,_,s=>s
 | [x],_,kn,_,s=>G x kn s
 | p :: q :: r,seen,kn,df,s =>
  Tr.fnS G ns ks (q :: r) (seen++[p]) (kn++[(Tr.textOf ns p,p)]) (df || !decide ((Tr.kidsOf ks p).length=0)) (Tr.parS G ns ks p seen kn df s)
def Tr.letS (G:Nat→List Tr.Kn→Tr.St→Tr.St) (kn more:List Tr.Kn) (s:Tr.St):List Nat→Tr.St
 | []=>s
 | x :: r=>r.foldl (fun s y=>G y more s) (G x kn s)
def Tr.go1 (ns:List Tr.Nd) (ks:List (List Nat)):Nat→Nat→List Tr.Kn→Tr.St→Tr.St
 | 0,_,_,s=>s
 | f+1,k,kn,s =>
  if Tr.kindOf ns k=5 then Tr.useS ns k kn s
  else if Tr.kindOf ns k=23 then s
  else if Tr.kindOf ns k=15∨Tr.kindOf ns k=20 then Tr.fnS (Tr.go1 ns ks f) ns ks (Tr.kidsOf ks k) [] kn false s
  else if Tr.kindOf ns k=14∨Tr.kindOf ns k=16 then Tr.letS (Tr.go1 ns ks f) kn (kn++[(Tr.textOf ns k,k)]) s (Tr.kidsOf ks k)
  else (Tr.kidsOf ks k).foldl (fun s y=>Tr.go1 ns ks f y kn s) s
structure Kp (cg bg:Nat) (w w':World):Prop where
 os:w'.os=w.os
 tape:w'.tape=w.tape
 output:w'.output=w.output
 size:w.heap.size≤w'.heap.size
 block:∀ b,b < w.heap.size→b≠cg→b≠bg→w'.heap[b]?=w.heap[b]?
theorem Kp.refl (cg bg:Nat) (w:World):Kp cg bg w w:=⟨rfl,rfl,rfl,Nat.le_refl _,fun _ _ _ _=>rfl⟩
theorem Kp.trans {cg bg:Nat} {w w' w'':World} (h:Kp cg bg w w') (h':Kp cg bg w' w''):Kp cg bg w w'' :=
 ⟨h'.os.trans h.os,h'.tape.trans h.tape,h'.output.trans h.output,Nat.le_trans h.size h'.size,fun b hb h1 h2=>(h'.block b (Nat.lt_of_lt_of_le hb h.size) h1 h2).trans (h.block b hb h1 h2)⟩
theorem Kp.of_below {cg bg:Nat} {w w':World} (h:Below w.heap.size w w'):Kp cg bg w w':=⟨h.os,h.tape,h.output,h.size,fun b hb _ _=>h.block b hb⟩
theorem Kp.below {cg bg:Nat} {w w' w'':World} (h:Kp cg bg w w') (h':Below w'.heap.size w' w''):Kp cg bg w w'':=h.trans (.of_below h')
theorem Kp.alloc {cg bg:Nat} {w w':World} (h:Kp cg bg w w') (o:Obj):Kp cg bg w (w'.alloc o):=h.below (bA o)
theorem Kp.drew {cg bg:Nat} {w w':World} (h:Kp cg bg w w'):Kp cg bg w w'.drew:=h.below (Below.refl _ _).drew
theorem Kp.setCell {cg bg:Nat} {w w':World} (h:Kp cg bg w w') (a:Addr) (v:Value) (ha:a.block=cg∨a.block=bg):Kp cg bg w (w'.setCell a v) :=
 h.trans ⟨rfl,rfl,rfl,by simp,fun b _ h1 h2=>Below.heap_setCell _ _ _ _ (by omega)⟩
theorem Kp.cell {cg bg:Nat} {w w':World} (h:Kp cg bg w w') {p:Addr} (hp:p.block < w.heap.size) (h1:p.block≠cg) (h2:p.block≠bg):w'.cell? p=w.cell? p:=World.cell?_of_block (h.block p.block hp h1 h2)
def KnAt (w:World) (g:Nat) (kn:List Tr.Kn):Prop:=g < w.heap.size∧∀ j (h:j < kn.length),w.cell? ⟨g,j*2,none⟩=some (.string kn[j].1)∧w.cell? ⟨g,j*2+1,none⟩=some (.int .i64 kn[j].2)
theorem KnAt.kept {cg bg:Nat} {w w':World} {g:Nat} {kn:List Tr.Kn} (h:KnAt w g kn) (hk:Kp cg bg w w') (h1:g≠cg) (h2:g≠bg):KnAt w' g kn :=
 ⟨Nat.lt_of_lt_of_le h.1 hk.size,fun j hj=>⟨(hk.cell (p:=⟨g,j*2,none⟩) h.1 h1 h2).trans (h.2 j hj).1,(hk.cell (p:=⟨g,j*2+1,none⟩) h.1 h1 h2).trans (h.2 j hj).2⟩⟩
def Tr.knCells (kn:List Tr.Kn):List Value:=kn.flatMap fun p=>[.string p.1,.int .i64 p.2]
theorem Tr.knCells_len (kn:List Tr.Kn):(Tr.knCells kn).length=kn.length*2:=by
 induction kn with
 | nil=>rfl
 | cons x r ih=>rw [show Tr.knCells (x :: r)=[.string x.1,.int .i64 x.2]++Tr.knCells r from rfl,List.length_append,ih,List.length_cons];simp;omega
theorem Tr.knCells_at (kn:List Tr.Kn) (i:Nat) (h:i < kn.length):(Tr.knCells kn)[i*2]?=some (.string kn[i].1)∧(Tr.knCells kn)[i*2+1]?=some (.int .i64 kn[i].2):=by
 induction kn generalizing i with
 | nil=>simp at h
 | cons x r ih =>
  rw [show Tr.knCells (x :: r)=[.string x.1,.int .i64 x.2]++Tr.knCells r from rfl]
  match i,h with
  | 0,_=>simp
  | i+1,h =>
   have:=ih i (by simpa using h)
   refine ⟨?_,?_⟩
   all_goals rw [List.getElem?_append_right (by simp;omega)]
   ·rw [show (i+1)*2 - ([.string x.1,.int .i64 x.2]:List Value).length=i*2 from by simp;omega];exact this.1
   ·rw [show (i+1)*2+1 - ([.string x.1,.int .i64 x.2]:List Value).length=i*2+1 from by simp;omega];exact this.2
theorem kn_of_row {w:World} {base:Nat} {e:TypeId} {g cap:Nat} {kn:List Tr.Kn} (h:w.ownsRow base e 2 (.slice (some ⟨g,0,none⟩) kn.length cap) kn.length (Tr.knCells kn)):KnAt w g kn:=by
 refine ⟨(row_room h).2.2,fun i hi=>?_⟩
 obtain ⟨p0,p1⟩:=Tr.knCells_at kn i hi
 exact ⟨(h.cellAt (i*2) (by omega)).trans p0,(h.cellAt (i*2+1) (by omega)).trans p1⟩
theorem Tr.knCells_one (kn:List Tr.Kn):∀ u∈Tr.knCells kn,u.oneCell'=true:=by
 intro u hu
 obtain ⟨p,_,hp⟩:=List.mem_flatMap.1 hu
 simp only [List.mem_cons,List.not_mem_nil,or_false] at hp
 rcases hp with rfl | rfl <;> rfl
theorem kn_news {w:World} {g:Nat} {kn:List Tr.Kn} (h:KnAt w g kn):∀ j u,(Tr.knCells kn)[j]?=some u→w.cell? ((⟨g,0,none⟩:Addr).add j)=some u:=by
 intro j u hu
 have hj:j < kn.length*2:=by have:=(List.getElem?_eq_some_iff.1 hu).1;rwa [Tr.knCells_len] at this
 rw [add_plain,Nat.zero_add]
 rcases Nat.mod_two_eq_zero_or_one j with h2 | h2
 ·obtain ⟨i,rfl⟩:∃ i,j=i*2:=⟨j / 2,by omega⟩
  rw [(h.2 i (by omega)).1,← hu];exact (Tr.knCells_at kn i (by omega)).1.symm
 ·obtain ⟨i,rfl⟩:∃ i,j=i*2+1:=⟨j / 2,by omega⟩
  rw [(h.2 i (by omega)).2,← hu];exact (Tr.knCells_at kn i (by omega)).2.symm
structure Fx (ns:List Tr.Nd) (ks:List (List Nat)) (wb tg tc kg kc cg bg:Nat) (w:World):Prop where
 wb1:wb≠cg
 wb2:wb≠bg
 tg1:tg≠cg
 tg2:tg≠bg
 kg1:kg≠cg
 kg2:kg≠bg
 wlt:wb < w.heap.size
 klt:kg < w.heap.size
 f0:w.cell? ⟨wb,0,none⟩=some (.slice (some ⟨tg,0,none⟩) ns.length tc)
 f1:w.cell? ⟨wb,1,none⟩=some (.slice (some ⟨kg,0,none⟩) ns.length kc)
 f2:w.cell? ⟨wb,2,none⟩=some (.slice (some ⟨cg,0,none⟩) ns.length ns.length)
 f3:w.cell? ⟨wb,3,none⟩=some (.slice (some ⟨bg,0,none⟩) ns.length ns.length)
 nodes:NodesAt w tg ns
 len:ks.length=ns.length
 kids:∀ k (h:k < ks.length),∃ g c,w.cell? ⟨kg,k,none⟩=some (.slice (some ⟨g,0,none⟩) (ks[k]).length c)∧g≠cg∧g≠bg∧IntsAt w g 0 ks[k]
theorem Fx.kept {ns:List Tr.Nd} {ks:List (List Nat)} {wb tg tc kg kc cg bg:Nat} {w w':World} (h:Fx ns ks wb tg tc kg kc cg bg w) (hk:Kp cg bg w w'):Fx ns ks wb tg tc kg kc cg bg w':=by
 refine ⟨h.wb1,h.wb2,h.tg1,h.tg2,h.kg1,h.kg2,Nat.lt_of_lt_of_le h.wlt hk.size,Nat.lt_of_lt_of_le h.klt hk.size,?_,?_,?_,?_,?_,h.len,?_⟩
 ·exact (hk.cell (p:=⟨wb,0,none⟩) h.wlt h.wb1 h.wb2).trans h.f0
 ·exact (hk.cell (p:=⟨wb,1,none⟩) h.wlt h.wb1 h.wb2).trans h.f1
 ·exact (hk.cell (p:=⟨wb,2,none⟩) h.wlt h.wb1 h.wb2).trans h.f2
 ·exact (hk.cell (p:=⟨wb,3,none⟩) h.wlt h.wb1 h.wb2).trans h.f3
 ·refine ⟨Nat.lt_of_lt_of_le h.nodes.1 hk.size,fun i hi=>?_⟩
  obtain ⟨a,b,c,d,e⟩:=h.nodes.2 i hi
  exact ⟨(hk.cell (p:=⟨tg,i*5,none⟩) h.nodes.1 h.tg1 h.tg2).trans a,(hk.cell (p:=⟨tg,i*5+1,none⟩) h.nodes.1 h.tg1 h.tg2).trans b,(hk.cell (p:=⟨tg,i*5+2,none⟩) h.nodes.1 h.tg1 h.tg2).trans c,(hk.cell (p:=⟨tg,i*5+3,none⟩) h.nodes.1 h.tg1 h.tg2).trans d,(hk.cell (p:=⟨tg,i*5+4,none⟩) h.nodes.1 h.tg1 h.tg2).trans e⟩
 ·intro k hkl
  obtain ⟨g,c,a,b,d,e⟩:=h.kids k hkl
  exact ⟨g,c,(hk.cell (p:=⟨kg,k,none⟩) h.klt h.kg1 h.kg2).trans a,b,d,Nat.lt_of_lt_of_le e.1 hk.size,fun j hj=>(hk.cell (p:=⟨g,0+j,none⟩) e.1 b d).trans (e.2 j hj)⟩
def vi (x:Int):Value:= .int .i64 x
structure Dy (n cg bg:Nat) (s:Tr.St) (w:World):Prop where
 ne:cg≠bg
 c:w.ownsRow 0 3 1 (.slice (some ⟨cg,0,none⟩) n n) n (s.codes.map vi)
 b:w.ownsRow 0 3 1 (.slice (some ⟨bg,0,none⟩) n n) n (s.binds.map vi)
theorem Dy.lens {n cg bg:Nat} {s:Tr.St} {w:World} (h:Dy n cg bg s w):s.codes.length=n∧s.binds.length=n:=by
 have h1:=h.c.1
 have h2:=h.b.1
 simp at h1 h2
 exact ⟨h1,h2⟩
theorem row_same {w w':World} {base size:Nat} {e:TypeId} {g n cap:Nat} {xs:List Value} (h:w.ownsRow base e size (.slice (some ⟨g,0,none⟩) n cap) n xs) (hb:w'.heap[g]?=w.heap[g]?):w'.ownsRow base e size (.slice (some ⟨g,0,none⟩) n cap) n xs:=by
 refine ⟨h.1,?_⟩
 rcases h.2 with ⟨h1,_⟩ | ⟨g',cap',cur,hv,h2,h3,h4⟩
 ·cases h1
 ·cases hv
  exact .inr ⟨g,cap,cur,rfl,h2,hb.trans h3,h4⟩
theorem Dy.below {n cg bg:Nat} {s:Tr.St} {w w':World} (h:Dy n cg bg s w) (hb:Below w.heap.size w w'):Dy n cg bg s w' :=
 ⟨h.ne,row_same h.c (hb.block cg (h.c.lt cg rfl).2),row_same h.b (hb.block bg (h.b.lt bg rfl).2)⟩
theorem Dy.setC {n cg bg:Nat} {s:Tr.St} {w:World} (h:Dy n cg bg s w) (k:Nat) (v:Int):Dy n cg bg {s with codes:=s.codes.set k v} (w.setCell ⟨cg,k,none⟩ (.int .i64 v)):=by
 refine ⟨h.ne,?_,row_same h.b (Below.heap_setCell _ _ _ _ (by simpa using h.ne.symm))⟩
 have:=(h.c.stored k (.int .i64 v)).1
 rw [show (s.codes.set k v).map vi=(s.codes.map vi).set k (.int .i64 v) from by rw [List.map_set];rfl]
 exact this
theorem Dy.setB {n cg bg:Nat} {s:Tr.St} {w:World} (h:Dy n cg bg s w) (k:Nat) (v:Int):Dy n cg bg {s with binds:=s.binds.set k v} (w.setCell ⟨bg,k,none⟩ (.int .i64 v)):=by
 refine ⟨h.ne,row_same h.c (Below.heap_setCell _ _ _ _ (by simpa using h.ne)),?_⟩
 have:=(h.b.stored k (.int .i64 v)).1
 rw [show (s.binds.set k v).map vi=(s.binds.map vi).set k (.int .i64 v) from by rw [List.map_set];rfl]
 exact this
theorem Dy.cellC {n cg bg:Nat} {s:Tr.St} {w:World} (h:Dy n cg bg s w) (k:Nat) (hk:k < n):w.cell? ⟨cg,k,none⟩=some (.int .i64 (s.codes[k]?.getD 0))∧w.frozen? ⟨cg,k,none⟩=false:=by
 refine ⟨?_,h.c.frozenAt k⟩
 rw [h.c.cellAt k (by omega)]
 have:=h.lens.1
 rw [List.getElem?_map,List.getElem?_eq_getElem (by omega)];rfl
theorem Dy.cellB {n cg bg:Nat} {s:Tr.St} {w:World} (h:Dy n cg bg s w) (k:Nat) (hk:k < n):w.cell? ⟨bg,k,none⟩=some (.int .i64 (s.binds[k]?.getD 0))∧w.frozen? ⟨bg,k,none⟩=false:=by
 refine ⟨?_,h.b.frozenAt k⟩
 rw [h.b.cellAt k (by omega)]
 have:=h.lens.2
 rw [List.getElem?_map,List.getElem?_eq_getElem (by omega)];rfl
set_option maxRecDepth 100000 in
set_option maxHeartbeats 1000000 in
theorem fault_any (ns:List Tr.Nd) (ks:List (List Nat)) (wb tg tc kg kc cg bg k:Nat) (c:Int) (s:Tr.St) (w:World) (hk:k < ns.length) (hF:Fx ns ks wb tg tc kg kc cg bg w) (hD:Dy ns.length cg bg s w) :
  Calls Tryz.prog 91 #[.pointer (some ⟨wb,0,none⟩),.int .i64 k,.int .i64 c] w fun e w'=>e = .returned (.tuple #[])∧Kp cg bg w w'∧Dy ns.length cg bg (Tr.faultS k c s) w':=by
 have h2:=hF.f2
 obtain ⟨hc,hf⟩:=hD.cellC k hk
 have HD:=hide hD
 have HS:=hide (show Tr.faultS k c s=if s.codes[k]?.getD 0=0∨c < s.codes[k]?.getD 0 then {s with codes:=s.codes.set k c} else s from rfl)
 clear hF hD
 generalize s.codes[k]?.getD 0=z at *
 cases hz:(z == 0)
 ·by_cases hlt:c < z
  ·have HS2:Hid (Tr.faultS k c s={s with codes:=s.codes.set k c}):=hide (by rw [HS.out,if_pos (.inr hlt)])
   go_enter Tryz.func91,Tryz.ntmps91
   go_wp2
   (first | go_end0 | refine bodyPost_ret (results_none rfl _ _ _) rfl ?_)
   exact ⟨rfl,(Kp.refl _ _ _).setCell _ _ (.inl rfl),by rw [HS2.out];exact HD.out.setC k c⟩
  ·have HS2:Hid (Tr.faultS k c s=s):=hide (by rw [HS.out,if_neg (by rintro (h | h);simp [h] at hz;exact hlt h)])
   go_enter Tryz.func91,Tryz.ntmps91
   go_wp2
   (first | go_end0 | refine bodyPost_ret (results_none rfl _ _ _) rfl ?_)
   exact ⟨rfl,Kp.refl _ _ _,by rw [HS2.out];exact HD.out⟩
 ·have HS2:Hid (Tr.faultS k c s={s with codes:=s.codes.set k c}):=hide (by rw [HS.out,if_pos (.inl (by simpa using hz))])
  go_enter Tryz.func91,Tryz.ntmps91
  go_wp2
  (first | go_end0 | refine bodyPost_ret (results_none rfl _ _ _) rfl ?_)
  exact ⟨rfl,(Kp.refl _ _ _).setCell _ _ (.inl rfl),by rw [HS2.out];exact HD.out.setC k c⟩
theorem Tr.lookK_snoc (x:ByteArray) (kn:List Tr.Kn) (p:Tr.Kn):Tr.lookK x (kn++[p])=if p.1=x then some p.2 else Tr.lookK x kn:=by
 induction kn with
 | nil=>simp [Tr.lookK]
 | cons q r ih =>
  rw [List.cons_append,Tr.lookK,ih,Tr.lookK]
  by_cases h:p.1=x
  ·simp [h]
  ·simp [h]
theorem Tr.lookK_at (x:ByteArray) (kn:List Tr.Kn) (i:Nat) (h:i < kn.length):Tr.lookK x (kn.take (i+1))=if kn[i].1=x then some kn[i].2 else Tr.lookK x (kn.take i):=by
 rw [List.take_succ_eq_append_getElem h,Tr.lookK_snoc]
set_option maxHeartbeats 400000 in
theorem builts_any (w:World):Calls Tryz.prog 182 #[] w fun e w'=>e = .returned (.slice (some ⟨w.heap.size,0,none⟩) 15 15)∧Below w.heap.size w w'∧w.heap.size < w'.heap.size∧Lies w' w.heap.size Tr.builts:=by
 go_enter Tryz.func182,Tryz.ntmps182
 go_wp2
 go_ret
 refine ⟨rfl,bA _,by simp,?_⟩
 exact lies_lit w 9 Tr.builts
theorem has_builts (s:ByteArray) (w:World) (b:Nat) (hc:Lies w b Tr.builts) :
  Calls Tryz.prog 181 #[.slice (some ⟨b,0,none⟩) 15 15,.string s] w fun e w'=>e = .returned (.bool (decide (s.data.toList∈Tr.builts)))∧w'=w:=has_any Tr.builts b s w (by decide) hc
theorem Tr.textOf_at {ns:List Tr.Nd} {k:Nat} (h:k < ns.length):Tr.textOf ns k=ns[k].text:=by simp [Tr.textOf,h]
theorem ba_eq (a b:ByteArray):(a.toList == b.toList)=true↔a=b:=by
 rw [beq_iff_eq,Lib.toList_data,Lib.toList_data]
 exact ⟨fun h=>ByteArray.ext (Array.toList_inj.1 h),fun h=>by rw [h]⟩
set_option maxRecDepth 100000 in
set_option maxHeartbeats 2000000 in
theorem use_any (ns:List Tr.Nd) (ks:List (List Nat)) (wb tg tc kg kc cg bg k kng knc:Nat) (kn:List Tr.Kn) (s:Tr.St) (w:World) (hk:k < ns.length) (hl:kn.length≤100000000) (hF:Fx ns ks wb tg tc kg kc cg bg w) (hD:Dy ns.length cg bg s w) (hK:KnAt w kng kn) :
  Calls Tryz.prog 141 #[.pointer (some ⟨wb,0,none⟩),.int .i64 k,.slice (some ⟨kng,0,none⟩) kn.length knc] w fun e w'=>e = .returned (.tuple #[])∧Kp cg bg w w'∧Dy ns.length cg bg (Tr.useS ns k kn s) w':=by
 obtain ⟨_,_,_,hN,_⟩:=hF.nodes.2 k hk
 have h0:=hF.f0
 have h3:=hF.f3
 obtain ⟨hcb,hfb⟩:=hD.cellB k hk
 have HU:=hide (show Tr.useS ns k kn s=(match Tr.lookK ns[k].text kn with
  | some a=>{s with binds:=s.binds.set k a}
  | none=>if ns[k].text.data.toList∈Tr.builts then {s with binds:=s.binds.set k (-2)} else Tr.faultS k 9 s) by rw [← Tr.textOf_at hk];rfl)
 generalize ns[k].text=tx at *
 have HD:=hide hD
 have HF:=hide hF
 have HKN:=hide hK
 have hlt0:=hF.wlt
 have hlt1:=hF.nodes.1
 have hlt2:=(hD.b.lt bg rfl).2
 clear hF hD hK
 go_enter Tryz.func141,Tryz.ntmps141
 go_wp2
 go_loopw [6] (fun t wr=>∃ i:Nat,i≤kn.length∧t = .int .i64 ((i:Int) - 1)∧Below w.heap.size w wr∧Tr.lookK tx kn=Tr.lookK tx (kn.take i)) (fun t _=>(intOf t+1).toNat)
 case atStart=>exact ⟨kn.length,Nat.le_refl _,rfl,Below.refl _ _,by rw [List.take_length]⟩
 case round =>
  obtain ⟨i,hi,rfl,hB,he⟩:=hrel
  have HE:=hide he
  clear he
  have q0:=(hB.cell (p:=⟨wb,0,none⟩) hlt0).trans h0
  have q3:=(hB.cell (p:=⟨wb,3,none⟩) hlt0).trans h3
  have qN:=(hB.cell (p:=⟨tg,k*5+3,none⟩) hlt1).trans hN
  have qb:=(hB.cell (p:=⟨bg,k,none⟩) hlt2).trans hcb
  have qf:=(hB.frozen (p:=⟨bg,k,none⟩) hlt2).trans hfb
  by_cases hpos:0 < i
  ·obtain ⟨j,rfl⟩:∃ j,i=j+1:=⟨i - 1,by omega⟩
   have HS:=hide (Tr.lookK_at tx kn j (by omega))
   obtain ⟨e0,e1⟩:=HKN.out.2 j (by omega)
   have k0:=(hB.cell (p:=⟨kng,j*2,none⟩) HKN.out.1).trans e0
   have k1:=(hB.cell (p:=⟨kng,j*2+1,none⟩) HKN.out.1).trans e1
   have hba:=ba_eq kn[j].1 tx
   generalize kn[j].1=tj at *
   generalize kn[j].2=aj at *
   have hj1:((j+1:Nat):Int) - 1=j:=by omega
   rw [hj1]
   cases hq:(tj.toList == tx.toList)
   ·have HS2:Hid (Tr.lookK tx kn=Tr.lookK tx (kn.take j)):=hide (by rw [HE.out,HS.out,if_neg (fun h=>by rw [hba.2 h] at hq;cases hq)])
    go_wp2
    go_quiet (fail)
    go_wp2
    go_roundw
    case rel=>exact ⟨j,by omega,by go_num,below_drewN hB _,HS2.out⟩
    case measure=>simp [intOf]
   ·have HS2:Hid (Tr.useS ns k kn s={s with binds:=s.binds.set k aj}):=hide (by rw [HU.out,HE.out,HS.out,if_pos (hba.1 hq)])
    go_wp2
    go_quiet (fail)
    go_wp2
    go_region
    all_goals
     go_wp2
     (first | go_end0 | refine bodyPost_ret (results_none rfl _ _ _) rfl ?_)
     exact ⟨rfl,(Kp.of_below (below_drewN hB _)).setCell _ _ (.inr rfl),by rw [HS2.out];exact (HD.out.below (below_drewN hB _)).setB k aj⟩
  ·obtain rfl:i=0:=by omega
   have HN:Hid (Tr.lookK tx kn=none):=hide (by rw [HE.out];rfl)
   have hw0:=Nat.lt_of_lt_of_le hlt0 hB.size
   have hw1:=Nat.lt_of_lt_of_le hlt1 hB.size
   have hw2:=Nat.lt_of_lt_of_le hlt2 hB.size
   have HBT:=hide (has_builts tx)
   cases hbt:decide (tx.data.toList∈Tr.builts)
   ·have HS2:Hid (Tr.useS ns k kn s=Tr.faultS k 9 s):=hide (by rw [HU.out,HN.out];simp only;rw [if_neg (by simpa using hbt)])
    have HBT2:=HBT.out
    rw [hbt] at HBT2
    replace HBT2:=hide HBT2
    have HFA:=hide (fun w' (hb:Below w.heap.size w w')=>fault_any ns ks wb tg tc kg kc cg bg k 9 s w' hk (HF.out.kept (.of_below hb)) (HD.out.below hb))
    go_wp2
    go_region_with (first
     | (go_at_call 182;refine (builts_any _).mono ?_;rintro e w1 ⟨rfl,hb1,hz1,hli⟩;have r0:=(hb1.cell (p:=⟨wb,0,none⟩) hw0).trans q0;have rN:=(hb1.cell (p:=⟨tg,k*5+3,none⟩) hw1).trans qN)
     | (go_at_call 181;refine (HBT2.out _ _ hli).mono ?_;rintro e w' ⟨rfl,rfl⟩))
    all_goals
     have hB1:=hB.drew.trans (hb1.mono hB.size)
     go_wp2_with fail
     refine (HFA.out _ hB1).mono ?_
     rintro e w2 ⟨rfl,hk2,hd2⟩
     go_wp2
     (first | go_end0 | refine bodyPost_ret (results_none rfl _ _ _) rfl ?_)
     exact ⟨rfl,(Kp.of_below hB1).trans hk2,by rw [HS2.out];exact hd2⟩
   ·have HS2:Hid (Tr.useS ns k kn s={s with binds:=s.binds.set k (-2)}):=hide (by rw [HU.out,HN.out];simp only;rw [if_pos (by simpa using hbt)])
    have HBT2:=HBT.out
    rw [hbt] at HBT2
    replace HBT2:=hide HBT2
    go_wp2
    go_region_with (first
     | (go_at_call 182;refine (builts_any _).mono ?_;rintro e w1 ⟨rfl,hb1,hz1,hli⟩;have r0:=(hb1.cell (p:=⟨wb,0,none⟩) hw0).trans q0;have rN:=(hb1.cell (p:=⟨tg,k*5+3,none⟩) hw1).trans qN;have r3:=(hb1.cell (p:=⟨wb,3,none⟩) hw0).trans q3;have rb:=(hb1.cell (p:=⟨bg,k,none⟩) hw2).trans qb;have rf:=(hb1.frozen (p:=⟨bg,k,none⟩) hw2).trans qf)
     | (go_at_call 181;refine (HBT2.out _ _ hli).mono ?_;rintro e w' ⟨rfl,rfl⟩))
    all_goals
     have hB1:=hB.drew.trans (hb1.mono hB.size)
     go_wp2
     (first | go_end0 | refine bodyPost_ret (results_none rfl _ _ _) rfl ?_)
     exact ⟨rfl,(Kp.of_below hB1).setCell _ _ (.inr rfl),by rw [HS2.out];exact (HD.out.below hB1).setB k (-2)⟩
theorem Tryz.infoKn:(Tryz.prog.info? 150).map (fun i=>(i.zero,i.size,i.bytes))=some (some (.agg #[.string ⟨#[]⟩,.int .i64 0]),2,24):=by kernel_rfl
theorem cell_two (w:World) (x:ByteArray) (a:Nat) (t:TypeId):∀ (j:Nat) (u:Value),(Tr.knCells [(x,a)])[j]?=some u→(w.alloc (.cells #[.string x,.int .i64 a] t)).cell? ((⟨w.heap.size,0,none⟩:Addr).add j)=some u:=by
 intro j u h
 rw [add_plain,Nat.zero_add,World.cell?,heap_alloc_new']
 simpa [Tr.knCells] using h
theorem Tr.knCells_snoc (kn:List Tr.Kn) (p:Tr.Kn):Tr.knCells (kn++[p])=Tr.knCells kn++Tr.knCells [p]:=by simp [Tr.knCells]
theorem row_kept {cg bg:Nat} {w w':World} {base size:Nat} {e:TypeId} {g n cap:Nat} {xs:List Value} (h:w.ownsRow base e size (.slice (some ⟨g,0,none⟩) n cap) n xs) (hk:Kp cg bg w w') (h1:g≠cg) (h2:g≠bg):w'.ownsRow base e size (.slice (some ⟨g,0,none⟩) n cap) n xs :=
 row_same h (hk.block g (h.lt g rfl).2 h1 h2)
theorem Kp.grown {cg bg:Nat} {w w1 w2:World} {row:Option Nat} (h:Kp cg bg w w1) (hg:w1.grownBy w2 row) (hr:∀ q,row=some q→w.heap.size≤q):Kp cg bg w w2 :=
 ⟨hg.os.trans h.os,hg.tape.trans h.tape,hg.output.trans h.output,Nat.le_trans h.size hg.size,fun b hb h1 h2=>(hg.block b (Nat.lt_of_lt_of_le hb h.size) (fun e=>by have:=hr b e.symm;omega)).trans (h.block b hb h1 h2)⟩
theorem Dy.grown {n cg bg:Nat} {s:Tr.St} {w w':World} {row:Option Nat} (h:Dy n cg bg s w) (hg:w.grownBy w' row) (h1:row≠some cg) (h2:row≠some bg):Dy n cg bg s w' :=
 ⟨h.ne,row_same h.c (hg.block cg (h.c.lt cg rfl).2 (fun e=>h1 e.symm)),row_same h.b (hg.block bg (h.b.lt bg rfl).2 (fun e=>h2 e.symm))⟩
theorem Tr.dupS_at (ns:List Tr.Nd) (p:Nat) (ls:List Nat) (j:Nat) (s:Tr.St) (h:j < ls.length):Tr.dupS ns p (ls.take (j+1)) s=if Tr.textOf ns ls[j]=Tr.textOf ns p then Tr.faultS p 8 (Tr.dupS ns p (ls.take j) s) else Tr.dupS ns p (ls.take j) s:=by
 unfold Tr.dupS
 rw [List.take_succ_eq_append_getElem h,List.foldl_append];rfl
theorem Tr.fnS_at (G:Nat→List Tr.Kn→Tr.St→Tr.St) (ns:List Tr.Nd) (ks:List (List Nat)) (ls:List Nat) (i:Nat) (kn:List Tr.Kn) (df:Bool) (s:Tr.St) (h:i+1 < ls.length) :
  Tr.fnS G ns ks (ls.drop i) (ls.take i) kn df s=Tr.fnS G ns ks (ls.drop (i+1)) (ls.take (i+1)) (kn++[(Tr.textOf ns (ls[i]'(by omega)),ls[i]'(by omega))]) (df || !decide ((Tr.kidsOf ks (ls[i]'(by omega))).length=0))
   (Tr.parS G ns ks (ls[i]'(by omega)) (ls.take i) kn df s):=by
 rw [List.drop_eq_getElem_cons (by omega:i < ls.length),List.drop_eq_getElem_cons h,Tr.fnS,List.take_succ_eq_append_getElem (by omega:i < ls.length)]
theorem Tr.fnS_last (G:Nat→List Tr.Kn→Tr.St→Tr.St) (ns:List Tr.Nd) (ks:List (List Nat)) (ls:List Nat) (i:Nat) (kn:List Tr.Kn) (df:Bool) (s:Tr.St) (h:i+1=ls.length) :
  Tr.fnS G ns ks (ls.drop i) (ls.take i) kn df s=G (ls[i]'(by omega)) kn s:=by
 rw [List.drop_eq_getElem_cons (by omega:i < ls.length),List.drop_of_length_le (by omega),Tr.fnS]
theorem lies_formS {w2:World} {b size:Nat} {e:TypeId} {v2:Value} {n g H:Nat} {xs:List Value} (hown:w2.ownsRow b e size v2 n xs) (hnil:¬ v2 = .slice none 0 0)
  (hat:v2.ownBlock=some g∨v2.ownBlock=some H):∃ g2 c2,v2 = .slice (some ⟨g2,0,none⟩) n c2∧(g2=g∨g2=H):=by
 rcases hown.2 with ⟨h,_⟩ | ⟨g2,c2,_,h,_⟩
 ·exact absurd h hnil
 ·subst h
  refine ⟨g2,c2,rfl,?_⟩
  simpa [Value.ownBlock] using hat
def GoOk (ns:List Tr.Nd) (ks:List (List Nat)) (wb tg tc kg kc cg bg f:Nat) (G:Nat→List Tr.Kn→Tr.St→Tr.St):Prop :=
 ∀ (k kng knc:Nat) (kn:List Tr.Kn) (s:Tr.St) (w:World),k < f→k < ns.length→kn.length+5001 * f≤100000000→Fx ns ks wb tg tc kg kc cg bg w→Dy ns.length cg bg s w→KnAt w kng kn→kng≠cg→kng≠bg →
  Calls Tryz.prog 92 #[.pointer (some ⟨wb,0,none⟩),.int .i64 k,.slice (some ⟨kng,0,none⟩) kn.length knc] w fun e w'=>e = .returned (.tuple #[])∧Kp cg bg w w'∧Dy ns.length cg bg (G k kn s) w'
set_option maxRecDepth 100000 in
set_option maxHeartbeats 4000000 in
theorem function_any (ns:List Tr.Nd) (ks:List (List Nat)) (wb tg tc kg kc cg bg f:Nat) (G:Nat→List Tr.Kn→Tr.St→Tr.St) (hG:GoOk ns ks wb tg tc kg kc cg bg f G) (hn:ns.length≤5000)
  (hkid:∀ k (h:k < ks.length),∀ x∈ks[k],x < k) (ls:List Nat) (rg rc kng knc:Nat) (kn:List Tr.Kn) (s:Tr.St) (w:World)
  (hls:∀ x∈ls,x < f∧x < ns.length) (hl1:1≤ls.length) (hl2:ls.length≤5000) (hb:kn.length+5001 * f+5001≤100000000)
  (hF:Fx ns ks wb tg tc kg kc cg bg w) (hD:Dy ns.length cg bg s w) (hK:KnAt w kng kn) (hI:IntsAt w rg 0 ls) (hr1:rg≠cg) (hr2:rg≠bg) (hc1:cg < w.heap.size) (hc2:bg < w.heap.size) :
  Calls Tryz.prog 142 #[.pointer (some ⟨wb,0,none⟩),.slice (some ⟨rg,0,none⟩) ls.length rc,.slice (some ⟨kng,0,none⟩) kn.length knc] w fun e w'=>e = .returned (.tuple #[])∧Kp cg bg w w'∧Dy ns.length cg bg (Tr.fnS G ns ks ls [] kn false s) w':=by
 obtain ⟨iK,hKi,hKz,hKs,hKb⟩:=info_parts Tryz.infoKn
 have HG:=hide hG
 have HF:=hide hF
 have HD:=hide hD
 have HK:=hide hK
 have HI:=hide hI
 have HLS:=hide hls
 have HKD:=hide hkid
 clear hG hF hD hK hI hls hkid
 go_enter Tryz.func142,Tryz.ntmps142
 go_wp2_with (at_builtin;refine wpList_append_own_at _ rfl _ _ 147 rfl w.heap.size 150 iK _ 2 24 Tryz.underlying147 hKi hKz hKs hKb rfl (by decide) (.slice (some ⟨w.heap.size,0,none⟩) 0 0) 0 [] rfl (World.ownsRow_lit (base:=w.heap.size) w #[] 0 (Nat.le_refl _) (Nat.zero_le _) rfl) ⟨kng,0,none⟩ kn.length knc (Tr.knCells kn) rfl (Tr.knCells_len kn) (kn_news (HK.out.kept (cg:=w.heap.size) (bg:=w.heap.size) (Kp.of_below (bA _)) (Nat.ne_of_lt HK.out.1) (Nat.ne_of_lt HK.out.1))) (Tr.knCells_one kn) (by unfold maxLen;omega) (by omega) (by simp) ?_)
 intro v6 w1 hown1 hgrow1 hnil1 hat1
 obtain ⟨g6,c6,rfl,hg6⟩:=lies_formS hown1 hnil1 (by simpa [Value.ownBlock] using hat1)
 have hg6b:w.heap.size≤g6:=by rcases hg6 with h | h <;> (try simp at h) <;> omega
 have hK1:Kp cg bg w w1:=((Kp.refl _ _ _).alloc _).grown hgrow1 (fun q e=>by simp [Value.ownBlock] at e;omega)
 have hD1:Dy ns.length cg bg s w1:=(HD.out.below (bA _)).grown hgrow1 (by simp [Value.ownBlock];omega) (by simp [Value.ownBlock];omega)
 have HO1:=hide hown1
 clear hgrow1 hnil1 hat1 hown1
 go_wp2
 go_loopw [6,7,8] (fun v6 v7 t wr=>∃ (i g6 c6:Nat) (kni:List Tr.Kn) (df:Bool) (si:Tr.St),i+1≤ls.length∧t = .int .i64 i∧v7 = .bool df∧v6 = .slice (some ⟨g6,0,none⟩) kni.length c6∧w.heap.size≤g6∧kni.length=kn.length+i ∧
   wr.ownsRow w.heap.size 150 2 (.slice (some ⟨g6,0,none⟩) kni.length c6) kni.length (Tr.knCells kni)∧Kp cg bg w wr∧Dy ns.length cg bg si wr∧Tr.fnS G ns ks ls [] kn false s=Tr.fnS G ns ks (ls.drop i) (ls.take i) kni df si) (fun _ _ t _=>ls.length - (intOf t).toNat)
 case atStart=>exact ⟨0,g6,c6,kn,false,s,hl1,rfl,rfl,rfl,hg6b,rfl,HO1.out,hK1,hD1,rfl⟩
 case round =>
  obtain ⟨i,g6,c6,kni,df,si,hi,rfl,rfl,rfl,hg6b,hkl,ho,hKr,hDr,he⟩:=hrel
  have HE:=hide he
  have HO:=hide ho
  have HDr:=hide hDr
  have HKLN:=hide hkl
  have hkb:kni.length≤kn.length+i:=Nat.le_of_eq hkl
  clear he ho hDr hkl
  have hFr:=HF.out.kept hKr
  have hIr:IntsAt wr rg 0 ls:=⟨Nat.lt_of_lt_of_le HI.out.1 hKr.size,fun j hj=>(hKr.cell (p:=⟨rg,0+j,none⟩) HI.out.1 hr1 hr2).trans (HI.out.2 j hj)⟩
  have hx:=hIr.2 i (by omega)
  rw [Nat.zero_add] at hx
  have hxl:=HLS.out _ (List.getElem_mem (by omega:i < ls.length))
  have HFr:=hide hFr
  have HIr:=hide hIr
  clear hFr hIr
  by_cases hlt:i+1 < ls.length
  ·have HS:=hide (Tr.fnS_at G ns ks ls i kni df si hlt)
   have hlti:(i:Int)+1 < (ls.length:Int):=by omega
   have hlp:ls[i] < ks.length:=by rw [HFr.out.len];exact hxl.2
   obtain ⟨kg2,kc2,hkc,hkg1,hkg2,hki⟩:=HFr.out.kids ls[i] hlp
   have HKO:=hide (show Tr.kidsOf ks ls[i]=ks[ls[i]] by simp [Tr.kidsOf,hlp])
   have HKL:=hide (HKD.out ls[i] hlp)
   have HDU:=hide (fun j (hj:j < ls.length)=>Tr.dupS_at ns ls[i] ls j si hj)
   have htx:=(HFr.out.nodes.2 ls[i] hxl.2).2.2.2.1
   have HTX:=hide (Tr.textOf_at hxl.2)
   generalize hpp:ls[i]=p at *
   generalize ks[p]=kp at *
   generalize hnt:ns[p].text=tp at *
   have HNT:=hide hnt
   clear hnt
   go_wp2
   go_loopw [10] (fun t wq=>∃ (j:Nat),j≤i∧t = .int .i64 j∧Kp cg bg wr wq∧Dy ns.length cg bg (Tr.dupS ns p (ls.take j) si) wq) (fun t _=>i - (intOf t).toNat)
   case atStart=>exact ⟨0,Nat.zero_le _,rfl,Kp.refl _ _ _,HDr.out⟩
   case round =>
    obtain ⟨j,hj,rfl,hKq,hDq⟩:=hrel
    have hFq:=HFr.out.kept hKq
    have HFq:=hide hFq
    have HDq:=hide hDq
    have f0:=hFq.f0
    have f1:=hFq.f1
    have htq:=(hFq.nodes.2 p hxl.2).2.2.2.1
    rw [HNT.out] at htq
    clear hFq hDq
    by_cases hji:j < i
    ·have hj1:=HIr.out.2 j (by omega)
     rw [Nat.zero_add] at hj1
     have hj2:=(hKq.cell (p:=⟨rg,j,none⟩) HIr.out.1 hr1 hr2).trans hj1
     have hxj:=HLS.out ls[j] (List.getElem_mem (by omega:j < ls.length))
     have htj:=(HFq.out.nodes.2 ls[j] hxj.2).2.2.2.1
     have HDJ:=hide (HDU.out j (by omega))
     have HTJ:=hide (Tr.textOf_at hxj.2)
     have hba:=ba_eq ns[ls[j]].text tp
     generalize ns[ls[j]].text=tj at *
     generalize ls[j]=xj at *
     cases hqq:(tj.toList == tp.toList)
     ·have HD2:Hid (Tr.dupS ns p (ls.take (j+1)) si=Tr.dupS ns p (ls.take j) si):=hide (by rw [HDJ.out,HTJ.out,HTX.out,if_neg (fun h=>by rw [hba.2 h] at hqq;cases hqq)])
      go_wp2
      go_quiet (fail)
      go_wp2
      go_roundw
      case rel=>exact ⟨j+1,by omega,by go_num,hKq.below (below_drewN (Below.refl _ _) _),by rw [HD2.out];exact HDq.out.below (below_drewN (Below.refl _ _) _)⟩
      case measure=>simp [intOf];omega
     ·have HD2:Hid (Tr.dupS ns p (ls.take (j+1)) si=Tr.faultS p 8 (Tr.dupS ns p (ls.take j) si)):=hide (by rw [HDJ.out,HTJ.out,HTX.out,if_pos (hba.1 hqq)])
      go_wp2
      go_quiet (fail)
      go_wp2_with fail
      refine (fault_any ns ks wb tg tc kg kc cg bg p 8 _ _ hxl.2 (HFq.out.kept (Kp.of_below (below_drewN (Below.refl _ _) _))) (HDq.out.below (below_drewN (Below.refl _ _) _))).mono ?_
      rintro e w2 ⟨rfl,hk2,hd2⟩
      go_wp2
      go_roundw
      case rel=>exact ⟨j+1,by omega,by go_num,(hKq.below (below_drewN (Below.refl _ _) _)).trans hk2,by rw [HD2.out];exact hd2⟩
      case measure=>simp [intOf];omega
    ·obtain rfl:j=i:=by omega
     have hkq:=(hKq.cell (p:=⟨kg,p,none⟩) HFr.out.klt HFr.out.kg1 HFr.out.kg2).trans hkc
     have HKQ:=hide hkq
     cases kp with
     | nil =>
      cases df with
      | false =>
       have HPAR:Hid (Tr.parS G ns ks p (ls.take j) kni false si=Tr.dupS ns p (ls.take j) si):=hide (by unfold Tr.parS;rw [HKO.out];rfl)
       have hKW:=hKq
       have hDW:=HDq.out
       have hFW:=HFr.out.kept hKW
       have fW0:=hFW.f0
       have fWt:=(hFW.nodes.2 p hxl.2).2.2.2.1
       rw [HNT.out] at fWt
       have hoW:=row_kept HO.out hKW (by omega) (by omega)
       have hsW:=hKW.size
       have hsR:=hKr.size
       have HDW:=hide hDW
       clear hFW hDW
       go_wp2_with (at_builtin;refine wpList_append_own_at _ rfl _ _ 147 rfl w.heap.size 150 iK _ 2 24 Tryz.underlying147 hKi hKz hKs hKb rfl (by decide) (.slice (some ⟨g6,0,none⟩) kni.length c6) kni.length (Tr.knCells kni) rfl (hoW.alloc _) ⟨wr.heap.size,0,none⟩ 1 1 (Tr.knCells [(tp,p)]) rfl rfl (cell_two _ _ _ _) (Tr.knCells_one _) (by unfold maxLen;omega) (by omega) (by simp;omega) ?_)
       intro v7 w7 hown7 hgrow7 hnil7 hat7
       obtain ⟨g7,c7,rfl,hg7⟩:=lies_formS hown7 hnil7 (by simpa [Value.ownBlock] using hat7)
       have hg7b:w.heap.size≤g7:=by rcases hg7 with h | h <;> (try simp at h) <;> omega
       have hK7:Kp cg bg w w7:=((hKr.trans hKW).alloc _).grown hgrow7 (fun q e=>by simp [Value.ownBlock] at e;omega)
       have hD7:=(HDW.out.below (bA _)).grown hgrow7 (by simp [Value.ownBlock];omega) (by simp [Value.ownBlock];omega)
       clear hgrow7 hnil7 hat7
       go_wp2
       go_roundw
       case rel =>
        refine ⟨j+1,g7,c7,kni++[(tp,p)],false,Tr.dupS ns p (ls.take j) si,by omega,by go_num,rfl,by simp,hg7b,by have:=HKLN.out;simp;omega,?_,hK7,hD7,?_⟩
        ·rw [List.length_append,List.length_singleton,Tr.knCells_snoc];exact hown7
        ·rw [HE.out,HS.out,HTX.out,HKO.out,HPAR.out];rfl
       case measure=>simp [intOf];omega
      | true =>
       have HPAR:Hid (Tr.parS G ns ks p (ls.take j) kni true si=Tr.faultS p 10 (Tr.dupS ns p (ls.take j) si)):=hide (by unfold Tr.parS;rw [HKO.out];rfl)
       go_wp2_with fail
       refine (fault_any ns ks wb tg tc kg kc cg bg p 10 _ _ hxl.2 HFq.out HDq.out).mono ?_
       rintro e w2 ⟨rfl,hk2,hd2⟩
       have hKW:=hKq.trans hk2
       have hDW:=hd2
       have f1W:=(HFr.out.kept hKW).f1
       have hkW:=(hKW.cell (p:=⟨kg,p,none⟩) HFr.out.klt HFr.out.kg1 HFr.out.kg2).trans hkc
       have hFW:=HFr.out.kept hKW
       have fW0:=hFW.f0
       have fWt:=(hFW.nodes.2 p hxl.2).2.2.2.1
       rw [HNT.out] at fWt
       have hoW:=row_kept HO.out hKW (by omega) (by omega)
       have hsW:=hKW.size
       have hsR:=hKr.size
       have HDW:=hide hDW
       clear hFW hDW
       go_wp2_with (at_builtin;refine wpList_append_own_at _ rfl _ _ 147 rfl w.heap.size 150 iK _ 2 24 Tryz.underlying147 hKi hKz hKs hKb rfl (by decide) (.slice (some ⟨g6,0,none⟩) kni.length c6) kni.length (Tr.knCells kni) rfl (hoW.alloc _) ⟨w2.heap.size,0,none⟩ 1 1 (Tr.knCells [(tp,p)]) rfl rfl (cell_two _ _ _ _) (Tr.knCells_one _) (by unfold maxLen;omega) (by omega) (by simp;omega) ?_)
       intro v7 w7 hown7 hgrow7 hnil7 hat7
       obtain ⟨g7,c7,rfl,hg7⟩:=lies_formS hown7 hnil7 (by simpa [Value.ownBlock] using hat7)
       have hg7b:w.heap.size≤g7:=by rcases hg7 with h | h <;> (try simp at h) <;> omega
       have hK7:Kp cg bg w w7:=((hKr.trans hKW).alloc _).grown hgrow7 (fun q e=>by simp [Value.ownBlock] at e;omega)
       have hD7:=(HDW.out.below (bA _)).grown hgrow7 (by simp [Value.ownBlock];omega) (by simp [Value.ownBlock];omega)
       clear hgrow7 hnil7 hat7
       go_wp2
       go_roundw
       case rel =>
        refine ⟨j+1,g7,c7,kni++[(tp,p)],true,Tr.faultS p 10 (Tr.dupS ns p (ls.take j) si),by omega,by go_num,rfl,by simp,hg7b,by have:=HKLN.out;simp;omega,?_,hK7,hD7,?_⟩
        ·rw [List.length_append,List.length_singleton,Tr.knCells_snoc];exact hown7
        ·rw [HE.out,HS.out,HTX.out,HKO.out,HPAR.out];rfl
       case measure=>simp [intOf];omega
     | cons x xr =>
      have HPAR:Hid (Tr.parS G ns ks p (ls.take j) kni df si=G x kni (Tr.dupS ns p (ls.take j) si)):=hide (by unfold Tr.parS;rw [HKO.out])
      have hx00:=hki.2 0 (by simp)
      simp only [Nat.zero_add,List.getElem_cons_zero] at hx00
      have hx0:=(hKq.cell (p:=⟨kg2,0,none⟩) hki.1 hkg1 hkg2).trans hx00
      have hxp:=HKL.out x (by simp)
      have HGO:=hide (HG.out x g6 c6 kni (Tr.dupS ns p (ls.take j) si) _ (by omega) (by omega) (by omega) HFq.out HDq.out (kn_of_row (row_kept HO.out hKq (by omega) (by omega))) (by omega) (by omega))
      have hxl1:((x :: xr).length:Int)=(xr.length:Int)+1:=by simp
      cases df
      all_goals
       go_wp2_with fail
       refine HGO.out.mono ?_
       rintro e w2 ⟨rfl,hk2,hd2⟩
       have hKW:=hKq.trans hk2
       have hDW:=hd2
       have hFW:=HFr.out.kept hKW
       have fW0:=hFW.f0
       have fWt:=(hFW.nodes.2 p hxl.2).2.2.2.1
       rw [HNT.out] at fWt
       have hoW:=row_kept HO.out hKW (by omega) (by omega)
       have hsW:=hKW.size
       have hsR:=hKr.size
       have HDW:=hide hDW
       clear hFW hDW
       go_wp2_with (at_builtin;refine wpList_append_own_at _ rfl _ _ 147 rfl w.heap.size 150 iK _ 2 24 Tryz.underlying147 hKi hKz hKs hKb rfl (by decide) (.slice (some ⟨g6,0,none⟩) kni.length c6) kni.length (Tr.knCells kni) rfl (hoW.alloc _) ⟨w2.heap.size,0,none⟩ 1 1 (Tr.knCells [(tp,p)]) rfl rfl (cell_two _ _ _ _) (Tr.knCells_one _) (by unfold maxLen;omega) (by omega) (by simp;omega) ?_)
       intro v7 w7 hown7 hgrow7 hnil7 hat7
       obtain ⟨g7,c7,rfl,hg7⟩:=lies_formS hown7 hnil7 (by simpa [Value.ownBlock] using hat7)
       have hg7b:w.heap.size≤g7:=by rcases hg7 with h | h <;> (try simp at h) <;> omega
       have hK7:Kp cg bg w w7:=((hKr.trans hKW).alloc _).grown hgrow7 (fun q e=>by simp [Value.ownBlock] at e;omega)
       have hD7:=(HDW.out.below (bA _)).grown hgrow7 (by simp [Value.ownBlock];omega) (by simp [Value.ownBlock];omega)
       clear hgrow7 hnil7 hat7
       go_wp2
       go_roundw
       case rel =>
        refine ⟨j+1,g7,c7,kni++[(tp,p)],true,G x kni (Tr.dupS ns p (ls.take j) si),by omega,by go_num,rfl,by simp,hg7b,by have:=HKLN.out;simp;omega,?_,hK7,hD7,?_⟩
        ·rw [List.length_append,List.length_singleton,Tr.knCells_snoc];exact hown7
        ·rw [HE.out,HS.out,HTX.out,HKO.out,HPAR.out];rfl
       case measure=>simp [intOf];omega
  ·have HS:=hide (Tr.fnS_last G ns ks ls i kni df si (by omega))
   have HGO:=hide (HG.out ls[i] g6 c6 kni si wr hxl.1 hxl.2 (by omega) HFr.out HDr.out (kn_of_row HO.out) (by omega) (by omega))
   obtain ⟨m,hm⟩:∃ m,ls.length=m+1:=⟨ls.length - 1,by omega⟩
   obtain rfl:i=m:=by omega
   generalize ls[i]=p at *
   go_wp2_with fail
   refine HGO.out.mono ?_
   rintro e w2 ⟨rfl,hk2,hd2⟩
   go_wp2
   (first | go_end0 | refine bodyPost_ret (results_none rfl _ _ _) rfl ?_)
   exact ⟨rfl,hKr.trans hk2,by rw [HE.out,HS.out];exact hd2⟩
end Go.Proofs.YthbojbbmpcmoaaaGreatDoor
