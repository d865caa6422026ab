/- Jp, Nd, Nb, Nc, Qa, Fom. -/
import Derived.Test.YthbojbbmpcmoaaaGreatDoorZ01
import Derived.OwnWalk
import Derived.Test.YthbojbbmpcmoaaaGreatDoorZ07
import Derived.Maps.OwnSet
import Derived.Deep.RegionLaw
import Derived.WalkKit
import Derived.Test.YthbojbbmpcmoaaaGreatDoorZ09
namespace Go.Proofs.YthbojbbmpcmoaaaGreatDoor
open Go.RowKit
theorem Tr.cellsOf_len (l:List Tr.Nd):(Tr.cellsOf l).length=l.length*5:=by
 induction l with
 | nil=>rfl
 | cons x r ih=>rw [show Tr.cellsOf (x :: r)=x.cells++Tr.cellsOf r from rfl,List.length_append,ih,List.length_cons];simp [Tr.Nd.cells];omega
theorem Tr.cellsOf_at (l:List Tr.Nd) (i:Nat) (h:i < l.length):(Tr.cellsOf l)[i*5]?=some (.int .i64 l[i].kind)∧(Tr.cellsOf l)[i*5+1]?=some (.int .i64 l[i].op)∧(Tr.cellsOf l)[i*5+2]?=some (.int .i64 l[i].n)∧(Tr.cellsOf l)[i*5+3]?=some (.string l[i].text)∧(Tr.cellsOf l)[i*5+4]?=some (.int .i64 l[i].kids):=by
 induction l generalizing i with
 | nil=>simp at h
 | cons x r ih =>
  rw [show Tr.cellsOf (x :: r)=x.cells++Tr.cellsOf r from rfl]
  match i,h with
  | 0,_=>simp [Tr.Nd.cells]
  | i+1,h =>
   have:=ih i (by simpa using h)
   have hl:x.cells.length=5:=rfl
   refine ⟨?_,?_,?_,?_,?_⟩
   all_goals rw [List.getElem?_append_right (by omega),hl]
   ·rw [show (i+1)*5 - 5=i*5 from by omega];exact this.1
   ·rw [show (i+1)*5+1 - 5=i*5+1 from by omega];exact this.2.1
   ·rw [show (i+1)*5+2 - 5=i*5+2 from by omega];exact this.2.2.1
   ·rw [show (i+1)*5+3 - 5=i*5+3 from by omega];exact this.2.2.2.1
   ·rw [show (i+1)*5+4 - 5=i*5+4 from by omega];exact this.2.2.2.2
theorem cell_new (X:World) (v:Value) (t:TypeId):(X.alloc (.cells #[v] t)).cell? ⟨X.heap.size,0,none⟩=some v∧(X.alloc (.cells #[v] t)).frozen? ⟨X.heap.size,0,none⟩=false:=by simp
theorem size_set5 (w:World) (a:Addr) (v:Value):(w.setCell a v).heap.size=w.heap.size:=by simp
theorem Tryz.infoNd:(Tryz.prog.info? 64).map (fun i=>(i.zero,i.size,i.bytes))=some (some (.agg #[.int .i64 0,.int .i64 0,.int .i64 0,.string ⟨#[]⟩,.int .i64 0]),5,48):=by kernel_rfl
abbrev Tr.Sp:=List (ByteArray × Int)
def Tr.sget (x:ByteArray):Tr.Sp→Option Int
 | []=>none
 | p :: r=>if p.1=x then some p.2 else Tr.sget x r
def Tr.cget (x:ByteArray):List Tr.Sp→Option Int
 | []=>none
 | sc :: r=>match Tr.sget x sc with
  | some v=>some v
  | none=>Tr.cget x r
def Tr.enterS (ns:List Tr.Nd) (k:Nat) (e:Tr.Sp × Tr.St):Tr.Sp × Tr.St:=match Tr.sget (Tr.textOf ns k) e.1 with
 | some _=>(e.1,Tr.faultS k 8 e.2)
 | none=>((Tr.textOf ns k,(k:Int)) :: e.1,e.2)
def Tr.iuse (ns:List Tr.Nd) (k:Nat) (ch:List Tr.Sp) (s:Tr.St):Tr.St:=match Tr.cget (Tr.textOf ns k) ch with
 | some v=>{s with binds:=s.binds.set k v}
 | none=>Tr.faultS k 9 s
def Tr.all (G:Nat→List Tr.Sp→Tr.St→Tr.St) (ls:List Nat) (ch:List Tr.Sp) (s:Tr.St):Tr.St:=ls.foldl (fun s y=>G y ch s) s
def Tr.ipar (G:Nat→List Tr.Sp→Tr.St→Tr.St) (ns:List Tr.Nd) (ks:List (List Nat)) (p:Nat) (sc:Tr.Sp) (ch:List Tr.Sp) (df:Bool) (s:Tr.St):Tr.Sp × Tr.St :=
 ((Tr.enterS ns p (sc,Tr.all G (Tr.kidsOf ks p) (sc :: ch) s)).1,if df=true∧(Tr.kidsOf ks p).length=0 then Tr.faultS p 10 (Tr.enterS ns p (sc,Tr.all G (Tr.kidsOf ks p) (sc :: ch) s)).2 else (Tr.enterS ns p (sc,Tr.all G (Tr.kidsOf ks p) (sc :: ch) s)).2)
def Tr.ifn (G:Nat→List Tr.Sp→Tr.St→Tr.St) (ns:List Tr.Nd) (ks:List (List Nat)):List Nat→Tr.Sp→List Tr.Sp→Bool→Tr.St→Tr.St
 | [],_,_,_,s=>s
 | [x],sc,ch,_,s=>G x (sc :: ch) s
 | p :: q :: r,sc,ch,df,s=>Tr.ifn G ns ks (q :: r) (Tr.ipar G ns ks p sc ch df s).1 ch (df || !decide ((Tr.kidsOf ks p).length=0)) (Tr.ipar G ns ks p sc ch df s).2
def Tr.ents (ns:List Tr.Nd) (ms:List Nat) (e:Tr.Sp × Tr.St):Tr.Sp × Tr.St:=ms.foldl (fun e k=>Tr.enterS ns k e) e
def Tr.ifile (G:Nat→List Tr.Sp→Tr.St→Tr.St) (ns:List Tr.Nd) (ks:List (List Nat)) (ls:List Nat) (ch:List Tr.Sp) (s:Tr.St):Tr.St :=
 Tr.all G (ls.filter fun x=>Tr.kindOf ns x != 23) ((Tr.ents ns (Tr.makesOf ns ks ls) ([],s)).1 :: ch) (Tr.ents ns (Tr.makesOf ns ks ls) ([],s)).2
def Tr.ilet (G:Nat→List Tr.Sp→Tr.St→Tr.St) (ns:List Tr.Nd) (k:Nat) (ch:List Tr.Sp) (s:Tr.St):List Nat→Tr.St
 | []=>s
 | x :: r=>Tr.all G r ([(Tr.textOf ns k,(k:Int))] :: ch) (G x ch s)
def Tr.iwalk (ns:List Tr.Nd) (ks:List (List Nat)):Nat→Nat→List Tr.Sp→Tr.St→Tr.St
 | 0,_,_,s=>s
 | f+1,k,ch,s =>
  if Tr.kindOf ns k=5 then Tr.iuse ns k ch s
  else if Tr.kindOf ns k=14∨Tr.kindOf ns k=16 then Tr.ilet (Tr.iwalk ns ks f) ns k ch s (Tr.kidsOf ks k)
  else if Tr.kindOf ns k=15∨Tr.kindOf ns k=20 then Tr.ifn (Tr.iwalk ns ks f) ns ks (Tr.kidsOf ks k) [] ch false s
  else if Tr.kindOf ns k=24 then Tr.ifile (Tr.iwalk ns ks f) ns ks (Tr.kidsOf ks k) ch s
  else Tr.all (Tr.iwalk ns ks f) (Tr.kidsOf ks k) ch s
theorem Tr.cget_cons (x:ByteArray) (sc:Tr.Sp) (ch:List Tr.Sp):Tr.cget x (sc :: ch)=(Tr.sget x sc).or (Tr.cget x ch):=by
 rw [Tr.cget];cases Tr.sget x sc <;> rfl
def Tr.builtSp:Tr.Sp:=[[102,97,105,108],[102,105,108,101,115],[99,117,116],[98,101,103,105,110,115],[119,105,116,104,111,117,116],[114,101,99,111,114,100],[107,101,121,115],[115,112,108,105,116],[106,111,105,110],[117,110,105,113,117,101],[115,111,114,116,101,100],[114,97,110,103,101],[105,110,116],[116,101,120,116],[108,101,110]].map fun l=>(⟨l.toArray⟩,-2)
def SpAt (w:World) (mb:Nat) (sc:Tr.Sp):Prop:=∃ D,w.ownsMap (H:=Unit) Tryz.prog 9 (plainElem Tryz.prog 3) mb sc.length D ∧
 ∀ x:ByteArray,Maps.has D (.string x.data.toList)=(Tr.sget x sc).isSome∧∀ v,Tr.sget x sc=some v→D.atKey (.string x.data.toList) (.lit (.int .i64 0)) = .lit (.int .i64 v)
theorem SpAt.lt {w:World} {mb:Nat} {sc:Tr.Sp} (h:SpAt w mb sc):mb < w.heap.size:=by
 obtain ⟨D,h,_⟩:=h;exact h.lt
theorem SpAt.same {w w':World} {mb:Nat} {sc:Tr.Sp} (h:SpAt w mb sc) (hb:w'.heap[mb]?=w.heap[mb]?):SpAt w' mb sc:=by
 obtain ⟨D,⟨es,clock,h1,h2⟩,h3⟩:=h
 exact ⟨D,⟨es,clock,hb.trans h1,h2⟩,h3⟩
theorem SpAt.made (w:World):SpAt (w.alloc (.map #[] 0)) w.heap.size []:=⟨_,World.ownsMap_made w _ _ _,fun _=>⟨rfl,fun v h=>by cases h⟩⟩
def Chain (cg bg:Nat) (w:World):Nat→Option Addr→List Tr.Sp→Prop
 | _,p,[]=>p=none
 | B,p,sc :: r=>∃ sb mb q,p=some ⟨sb,0,none⟩∧sb < B∧mb < sb∧sb≠cg∧sb≠bg∧mb≠cg∧mb≠bg∧w.cell? ⟨sb,0,none⟩=some (.map (some mb))∧w.cell? ⟨sb,1,none⟩=some (.pointer q)∧SpAt w mb sc∧Chain cg bg w mb q r
theorem Chain.kept {cg bg:Nat} {w w':World}:∀ {ch:List Tr.Sp} {p:Option Addr} {B B':Nat},B≤B'→(∀ b,b < B→b≠cg→b≠bg→w'.heap[b]?=w.heap[b]?)→Chain cg bg w B p ch→Chain cg bg w' B' p ch
 | [],_,_,_,_,_,h=>h
 | _ :: _,_,_,_,hB,hk,⟨sb,mb,q,hp,h1,h4,h2,h3,h5,h6,c0,c1,hs,hr⟩ =>
  ⟨sb,mb,q,hp,by omega,h4,h2,h3,h5,h6,(World.cell?_of_block (a:=⟨sb,0,none⟩) (hk sb h1 h2 h3)).trans c0,(World.cell?_of_block (a:=⟨sb,1,none⟩) (hk sb h1 h2 h3)).trans c1,hs.same (hk mb (by omega) h5 h6),Chain.kept (Nat.le_refl _) (fun b hb=>hk b (by omega)) hr⟩
def ptrM:Value→Nat
 | .pointer (some a)=>a.block+1
 | _=>0
theorem Chain.measure {cg bg:Nat} {w:World} {B:Nat} {p:Option Addr} {ch:List Tr.Sp} (h:Chain cg bg w B p ch):ptrM (.pointer p)≤B:=by
 cases ch with
 | nil=>rw [show p=none from h];exact Nat.zero_le _
 | cons sc r=>obtain ⟨sb,mb,q,rfl,h1,_⟩:=h;exact h1
theorem Chain.kp {cg bg:Nat} {w w':World} {B:Nat} {ch:List Tr.Sp} {p:Option Addr} (h:Chain cg bg w B p ch) (hk:Kp cg bg w w') (hB:B≤w.heap.size):Chain cg bg w' B p ch:=Chain.kept (Nat.le_refl _) (fun b hb h1 h2=>hk.block b (by omega) h1 h2) h
def PlV (cg bg:Nat) (w:World) (v:Value) (ls:List Nat):Prop:=(∃ p c,v = .slice p 0 c∧ls=[])∨(∃ g o c,v = .slice (some ⟨g,o,none⟩) ls.length c∧g≠cg∧g≠bg∧ls.length≤c∧IntsAt w g o ls)
theorem PlV.kept {cg bg:Nat} {w w':World} {v:Value} {ls:List Nat} (h:PlV cg bg w v ls) (hk:Kp cg bg w w'):PlV cg bg w' v ls:=by
 rcases h with h | ⟨g,o,c,h1,h2,h3,hc,h4⟩
 ·exact .inl h
 ·exact .inr ⟨g,o,c,h1,h2,h3,hc,Nat.lt_of_lt_of_le h4.1 hk.size,fun j hj=>(hk.cell (p:=⟨g,o+j,none⟩) h4.1 h2 h3).trans (h4.2 j hj)⟩
structure Ix (ns:List Tr.Nd) (ks:List (List Nat)) (wb tg tc kg kc cg bg:Nat) (w:World):Prop where
 wb1:wb≠cg
 wb2:wb≠bg
 tg1:tg≠cg
 tg2:tg≠bg
 kg1:kg≠cg
 kg2:kg≠bg
 wlt:wb < w.heap.size
 klt:kg < w.heap.size
 f0:w.cell? ⟨wb,0,none⟩=some (.slice (some ⟨tg,0,none⟩) ns.length tc)
 f1:w.cell? ⟨wb,1,none⟩=some (.slice (some ⟨kg,0,none⟩) ns.length kc)
 f2:w.cell? ⟨wb,2,none⟩=some (.slice (some ⟨bg,0,none⟩) ns.length ns.length)
 f3:w.cell? ⟨wb,3,none⟩=some (.slice (some ⟨cg,0,none⟩) ns.length ns.length)
 nodes:NodesAt w tg ns
 texts:∀ x∈ns,x.text.size≤1048576
 len:ks.length=ns.length
 kids:∀ k (h:k < ks.length),∃ v,w.cell? ⟨kg,k,none⟩=some v∧PlV cg bg w v ks[k]
theorem Ix.kept {ns:List Tr.Nd} {ks:List (List Nat)} {wb tg tc kg kc cg bg:Nat} {w w':World} (h:Ix ns ks wb tg tc kg kc cg bg w) (hk:Kp cg bg w w'):Ix ns ks wb tg tc kg kc cg bg w':=by
 refine ⟨h.wb1,h.wb2,h.tg1,h.tg2,h.kg1,h.kg2,Nat.lt_of_lt_of_le h.wlt hk.size,Nat.lt_of_lt_of_le h.klt hk.size,?_,?_,?_,?_,?_,h.texts,h.len,?_⟩
 ·exact (hk.cell (p:=⟨wb,0,none⟩) h.wlt h.wb1 h.wb2).trans h.f0
 ·exact (hk.cell (p:=⟨wb,1,none⟩) h.wlt h.wb1 h.wb2).trans h.f1
 ·exact (hk.cell (p:=⟨wb,2,none⟩) h.wlt h.wb1 h.wb2).trans h.f2
 ·exact (hk.cell (p:=⟨wb,3,none⟩) h.wlt h.wb1 h.wb2).trans h.f3
 ·refine ⟨Nat.lt_of_lt_of_le h.nodes.1 hk.size,fun i hi=>?_⟩
  obtain ⟨a,b,c,d,e⟩:=h.nodes.2 i hi
  exact ⟨(hk.cell (p:=⟨tg,i*5,none⟩) h.nodes.1 h.tg1 h.tg2).trans a,(hk.cell (p:=⟨tg,i*5+1,none⟩) h.nodes.1 h.tg1 h.tg2).trans b,(hk.cell (p:=⟨tg,i*5+2,none⟩) h.nodes.1 h.tg1 h.tg2).trans c,(hk.cell (p:=⟨tg,i*5+3,none⟩) h.nodes.1 h.tg1 h.tg2).trans d,(hk.cell (p:=⟨tg,i*5+4,none⟩) h.nodes.1 h.tg1 h.tg2).trans e⟩
 ·intro k hkl
  obtain ⟨v,a,b⟩:=h.kids k hkl
  exact ⟨v,(hk.cell (p:=⟨kg,k,none⟩) h.klt h.kg1 h.kg2).trans a,b.kept hk⟩
theorem lawT:Maps.Keyed Tryz.prog 9:=Maps.string_keyed Tryz.underlying9
theorem zeroI (w:World):(zeroValue 3).run Tryz.prog w = .ok (.int .i64 0) w:=by kernel_rfl
set_option maxRecDepth 100000 in
set_option maxHeartbeats 1000000 in
theorem blame_any (ns:List Tr.Nd) (ks:List (List Nat)) (wb tg tc kg kc cg bg k:Nat) (c:Int) (s:Tr.St) (w:World) (hk:k < ns.length) (hF:Ix ns ks wb tg tc kg kc cg bg w) (hD:Dy ns.length cg bg s w) :
  Calls Tryz.prog 188 #[.pointer (some ⟨wb,0,none⟩),.int .i64 k,.int .i64 c] w fun e w'=>e = .returned (.tuple #[])∧Kp cg bg w w'∧Dy ns.length cg bg (Tr.faultS k c s) w':=by
 have h2:=hF.f3
 obtain ⟨hc,hf⟩:=hD.cellC k hk
 have HD:=hide hD
 have HS:=hide (show Tr.faultS k c s=if s.codes[k]?.getD 0=0∨c < s.codes[k]?.getD 0 then {s with codes:=s.codes.set k c} else s from rfl)
 clear hF hD
 generalize s.codes[k]?.getD 0=z at *
 cases hz:(z == 0)
 ·by_cases hlt:c < z
  ·have HS2:Hid (Tr.faultS k c s={s with codes:=s.codes.set k c}):=hide (by rw [HS.out,if_pos (.inr hlt)])
   go_enter Tryz.func188,Tryz.ntmps188
   go_wp2
   (first | go_end0 | refine bodyPost_ret (results_none rfl _ _ _) rfl ?_)
   exact ⟨rfl,(Kp.refl _ _ _).setCell _ _ (.inl rfl),by rw [HS2.out];exact HD.out.setC k c⟩
  ·have HS2:Hid (Tr.faultS k c s=s):=hide (by rw [HS.out,if_neg (by rintro (h | h);simp [h] at hz;exact hlt h)])
   go_enter Tryz.func188,Tryz.ntmps188
   go_wp2
   (first | go_end0 | refine bodyPost_ret (results_none rfl _ _ _) rfl ?_)
   exact ⟨rfl,Kp.refl _ _ _,by rw [HS2.out];exact HD.out⟩
 ·have HS2:Hid (Tr.faultS k c s={s with codes:=s.codes.set k c}):=hide (by rw [HS.out,if_pos (.inl (by simpa using hz))])
  go_enter Tryz.func188,Tryz.ntmps188
  go_wp2
  (first | go_end0 | refine bodyPost_ret (results_none rfl _ _ _) rfl ?_)
  exact ⟨rfl,(Kp.refl _ _ _).setCell _ _ (.inl rfl),by rw [HS2.out];exact HD.out.setC k c⟩
set_option maxHeartbeats 400000 in
theorem inside_any (p:Option Addr) (w:World) :
  Calls Tryz.prog 148 #[.pointer p] w fun e w'=>e = .returned (.pointer (some ⟨w.heap.size+1,0,none⟩))∧w'=(w.alloc (.map #[] 0)).alloc (.cells #[.map (some w.heap.size),.pointer p] 237):=by
 have hmm:=@run_makeMap Tryz.prog
 go_enter Tryz.func148,Tryz.ntmps148
 go_wp2
 go_ret
 exact ⟨by simp,rfl⟩
set_option maxRecDepth 100000 in
set_option maxHeartbeats 1000000 in
theorem find_any (cg bg B:Nat) (x:ByteArray) (hx:x.size≤1048576) (ch:List Tr.Sp) (p:Option Addr) (w:World) (hch:Chain cg bg w B p ch) :
  Calls Tryz.prog 187 #[.pointer p,.string x] w fun e w'=>e = .returned (.tuple #[.int .i64 ((Tr.cget x ch).getD 0),.bool (Tr.cget x ch).isSome])∧w'=w:=by
 have HC:=hide hch
 have HY:Hid (keyOf Tryz.prog 9 (.string x)=some (.string x.data.toList)):=hide (WideMaps.keyOf_string_mk Tryz.underlying9 (by unfold maxLen;omega))
 clear hch
 go_enter Tryz.func187,Tryz.ntmps187
 go_wp2
 go_loopw [0] (fun v wr=>∃ (q:Option Addr) (r:List Tr.Sp) (B':Nat),v = .pointer q∧wr=w∧Chain cg bg w B' q r∧Tr.cget x ch=Tr.cget x r) (fun v _=>ptrM v)
 case atStart=>exact ⟨p,ch,B,rfl,rfl,HC.out,rfl⟩
 case round =>
  obtain ⟨q0,r,B',rfl,rfl,hr,he⟩:=hrel
  have HE:=hide he
  clear he HC
  cases r with
  | nil =>
   obtain rfl:=(show q0=none from hr)
   go_wp2
   go_ret2
   rw [HE.out]
   exact ⟨rfl,rfl⟩
  | cons sc r =>
   obtain ⟨sb,mb,q,rfl,h1,h4,h2,h3,h5,h6,c0,c1,⟨D,hown,hD⟩,hr⟩:=hr
   have HR:=hide hr
   have HO:=hide hown
   obtain ⟨hd1,hd2⟩:=hD x
   have HD2:=hide hd2
   have HG:=hide (Tr.cget_cons x sc r)
   clear hr hown hD hd2
   cases hg:Tr.sget x sc with
   | none =>
    rw [hg] at hd1 HG
    simp only [Option.isSome] at hd1
    go_wp2_with (at_lookup;refine wpList_lookup_own_ok_int _ rfl _ _ 235 rfl 9 3 .i64 lawT Tryz.underlying235 Tryz.underlying3 (zeroI _) mb _ D rfl HO.out _ _ rfl HY.out ?_)
    intro c hat hwc
    try rw [hd1]
    go_wp2
    go_roundw
    case rel=>exact ⟨q,r,mb,by trivial,by trivial,HR.out,by rw [HE.out,HG.out];rfl⟩
    case measure=>have:=HR.out.measure;simp [ptrM] at *;omega
   | some v =>
    have HAT:=hide (HD2.out v hg)
    rw [hg] at hd1 HG
    simp only [Option.isSome] at hd1
    go_wp2_with (at_lookup;refine wpList_lookup_own_ok_int _ rfl _ _ 235 rfl 9 3 .i64 lawT Tryz.underlying235 Tryz.underlying3 (zeroI _) mb _ D rfl HO.out _ _ rfl HY.out ?_)
    intro c hat hwc
    try rw [hd1]
    have hcv:c=v:=by rw [HAT.out] at hat;simpa using hat.symm
    subst hcv
    go_wp2
    go_ret2
    rw [HE.out,HG.out]
    exact ⟨rfl,rfl⟩
set_option maxRecDepth 100000 in
set_option maxHeartbeats 1000000 in
theorem iuse_any (ns:List Tr.Nd) (ks:List (List Nat)) (wb tg tc kg kc cg bg k B:Nat) (ch:List Tr.Sp) (p:Option Addr) (s:Tr.St) (w:World) (hk:k < ns.length) (hF:Ix ns ks wb tg tc kg kc cg bg w) (hD:Dy ns.length cg bg s w) (hC:Chain cg bg w B p ch) :
  Calls Tryz.prog 147 #[.pointer (some ⟨wb,0,none⟩),.int .i64 k,.pointer p] w fun e w'=>e = .returned (.tuple #[])∧Kp cg bg w w'∧Dy ns.length cg bg (Tr.iuse ns k ch s) w':=by
 obtain ⟨_,_,_,hN,_⟩:=hF.nodes.2 k hk
 have h0:=hF.f0
 have h2:=hF.f2
 obtain ⟨hcb,hfb⟩:=hD.cellB k hk
 have HF:=hide hF
 have HD:=hide hD
 have HU:=hide (show Tr.iuse ns k ch s=(match Tr.cget ns[k].text ch with
  | some v=>{s with binds:=s.binds.set k v}
  | none=>Tr.faultS k 9 s) by unfold Tr.iuse;rw [Tr.textOf_at hk]<;>rfl)
 have HFI:=hide (find_any cg bg B ns[k].text (hF.texts _ (List.getElem_mem hk)) ch p w hC)
 clear hF hD hC
 generalize ns[k].text=x at *
 cases hg:Tr.cget x ch with
 | none =>
  have HFI2:=HFI.out
  rw [hg] at HFI2 HU
  replace HFI2:=hide HFI2
  go_enter Tryz.func147,Tryz.ntmps147
  go_wp2_with fail
  refine HFI2.out.mono ?_
  rintro e w1 ⟨rfl,rfl⟩
  go_wp2_with fail
  refine (blame_any ns ks wb tg tc kg kc cg bg k 9 s _ hk HF.out HD.out).mono ?_
  rintro e w2 ⟨rfl,hk2,hd2⟩
  go_wp2
  (first | go_end0 | refine bodyPost_ret (results_none rfl _ _ _) rfl ?_)
  exact ⟨rfl,hk2,by rw [HU.out];exact hd2⟩
 | some v =>
  have HFI2:=HFI.out
  rw [hg] at HFI2 HU
  replace HFI2:=hide HFI2
  go_enter Tryz.func147,Tryz.ntmps147
  go_wp2_with fail
  refine HFI2.out.mono ?_
  rintro e w1 ⟨rfl,rfl⟩
  go_wp2
  (first | go_end0 | refine bodyPost_ret (results_none rfl _ _ _) rfl ?_)
  exact ⟨rfl,(Kp.refl _ _ _).setCell _ _ (.inr rfl),by rw [HU.out];exact HD.out.setB k v⟩
structure Ku (cg bg mb:Nat) (w w':World):Prop where
 os:w'.os=w.os
 tape:w'.tape=w.tape
 output:w'.output=w.output
 size:w.heap.size≤w'.heap.size
 block:∀ b,b < w.heap.size→b≠cg→b≠bg→b≠mb→w'.heap[b]?=w.heap[b]?
theorem Ku.of_kp {cg bg mb:Nat} {w w':World} (h:Kp cg bg w w'):Ku cg bg mb w w':=⟨h.os,h.tape,h.output,h.size,fun b hb h1 h2 _=>h.block b hb h1 h2⟩
theorem Ku.of_grown {cg bg mb:Nat} {w w':World} (h:w.grownBy w' (some mb)):Ku cg bg mb w w':=⟨h.os,h.tape,h.output,h.size,fun b hb _ _ h3=>h.block b hb (fun e=>h3 (Option.some.inj e))⟩
theorem Ku.kp {cg bg mb:Nat} {w w' w'':World} (h:Kp cg bg w w') (h':Ku cg bg mb w' w'') (hm:w.heap.size≤mb):Kp cg bg w w'' :=
 ⟨h'.os.trans h.os,h'.tape.trans h.tape,h'.output.trans h.output,Nat.le_trans h.size h'.size,fun b hb h1 h2=>(h'.block b (Nat.lt_of_lt_of_le hb h.size) h1 h2 (by omega)).trans (h.block b hb h1 h2)⟩
theorem Ku.cell {cg bg mb:Nat} {w w':World} (h:Ku cg bg mb w w') {p:Addr} (hp:p.block < w.heap.size) (h1:p.block≠cg) (h2:p.block≠bg) (h3:p.block≠mb):w'.cell? p=w.cell? p:=World.cell?_of_block (h.block p.block hp h1 h2 h3)
theorem SpAt.put {w':World} {mb:Nat} {sc:Tr.Sp} {D:DataW Unit} {x:ByteArray} {v:Int} (hD:∀ x:ByteArray,Maps.has D (.string x.data.toList)=(Tr.sget x sc).isSome∧∀ v,Tr.sget x sc=some v→D.atKey (.string x.data.toList) (.lit (.int .i64 0)) = .lit (.int .i64 v))
  (hm:Maps.IsMap D) (h:w'.ownsMap (H:=Unit) Tryz.prog 9 (plainElem Tryz.prog 3) mb (sc.length+1) (D.put (.string x.data.toList) (.lit (.int .i64 v)))):SpAt w' mb ((x,v) :: sc):=by
 refine ⟨_,h,fun y=>?_⟩
 by_cases e:x=y
 ·subst e
  rw [Tr.sget,if_pos rfl]
  have hk:WideAt.IsKeyLit (Lit.string x.data.toList):=trivial
  exact ⟨Maps.has_put_same hm hk _,fun u hu=>by rw [Maps.atKey_put_same hm hk];cases hu;rfl⟩
 ·have hne:Lit.string y.data.toList≠Lit.string x.data.toList:=fun h=>e (ByteArray.ext (Array.toList_inj.1 (by injection h with h;exact h.symm)))
  rw [Tr.sget,if_neg e]
  exact ⟨by rw [Maps.has_put_other hne];exact (hD y).1,fun u hu=>by rw [Maps.atKey_put_other hne];exact (hD y).2 u hu⟩
theorem wf_nat (k:Nat) (h:k≤1048576):(Lit.int .i64 (k:Int)).wf=true:=by
 have h1:IntKind.i64.min = -9223372036854775808:=by decide
 have h2:IntKind.i64.max=9223372036854775807:=by decide
 simp [Lit.wf,h1,h2]
 omega
set_option maxRecDepth 100000 in
set_option maxHeartbeats 1000000 in
theorem enter_any (ns:List Tr.Nd) (ks:List (List Nat)) (wb tg tc kg kc cg bg k sb mb:Nat) (sc:Tr.Sp) (s:Tr.St) (w:World) (hn:ns.length≤5000) (hk:k < ns.length) (hF:Ix ns ks wb tg tc kg kc cg bg w) (hD:Dy ns.length cg bg s w)
  (hs0:w.cell? ⟨sb,0,none⟩=some (.map (some mb))) (hm:SpAt w mb sc) (hm1:mb≠cg) (hm2:mb≠bg) (hl:sc.length≤100000000) :
  Calls Tryz.prog 149 #[.pointer (some ⟨wb,0,none⟩),.int .i64 k,.pointer (some ⟨sb,0,none⟩)] w fun e w'=>e = .returned (.tuple #[])∧Ku cg bg mb w w'∧Dy ns.length cg bg (Tr.enterS ns k (sc,s)).2 w'∧SpAt w' mb (Tr.enterS ns k (sc,s)).1:=by
 obtain ⟨_,_,_,hN,_⟩:=hF.nodes.2 k hk
 have h0:=hF.f0
 have hx:=hF.texts _ (List.getElem_mem hk)
 have HF:=hide hF
 have HD:=hide hD
 have HM:=hide hm
 have HU:=hide (show Tr.enterS ns k (sc,s)=(match Tr.sget ns[k].text sc with
  | some _=>(sc,Tr.faultS k 8 s)
  | none=>((ns[k].text,(k:Int)) :: sc,s)) by unfold Tr.enterS;rw [Tr.textOf_at hk]<;>rfl)
 obtain ⟨D,hown,hDD⟩:=hm
 have HO:=hide hown
 have HDD:=hide hDD
 clear hF hD hown
 generalize ns[k].text=x at *
 obtain ⟨hd1,hd2⟩:=hDD x
 have HY:Hid (keyOf Tryz.prog 9 (.string x)=some (.string x.data.toList)):=hide (WideMaps.keyOf_string_mk Tryz.underlying9 (by unfold maxLen;omega))
 have HPE:Hid (plainElem (H:=Unit) Tryz.prog 3 (.int .i64 (k:Int))=some (.lit (.int .i64 (k:Int)),[])):=hide (plainElem_int Tryz.underlying3 (wf_nat k (by omega)))
 clear hDD hd2
 cases hg:Tr.sget x sc with
 | none =>
  rw [hg] at hd1 HU
  simp only [Option.isSome] at hd1
  go_enter Tryz.func149,Tryz.ntmps149
  go_wp2_with (at_lookup;refine wpList_lookup_own_ok_int _ rfl _ _ 235 rfl 9 3 .i64 lawT Tryz.underlying235 Tryz.underlying3 (zeroI _) mb _ D rfl HO.out _ _ rfl HY.out ?_)
  intro c hat hwc
  try rw [hd1]
  go_wp2_with (at_mapUpdate;refine wpList_mapUpdate_own _ rfl _ _ _ 235 rfl 9 3 lawT Tryz.underlying235 _ mb _ D rfl HO.out (by unfold maxLen;omega) _ _ _ rfl rfl HY.out _ [] HPE.out ?_)
  intro w1 hown1 hgrow1
  go_wp2
  (first | go_end0 | refine bodyPost_ret (results_none rfl _ _ _) rfl ?_)
  refine ⟨rfl,Ku.of_grown hgrow1,?_,?_⟩
  ·rw [HU.out]
   exact ⟨HD.out.ne,row_same HD.out.c (hgrow1.block cg (HD.out.c.lt cg rfl).2 (fun e=>hm1 (Option.some.inj e).symm)),row_same HD.out.b (hgrow1.block bg (HD.out.b.lt bg rfl).2 (fun e=>hm2 (Option.some.inj e).symm))⟩
  ·rw [HU.out]
   exact SpAt.put HDD.out HO.out.isMap hown1
 | some v =>
  rw [hg] at hd1 HU
  simp only [Option.isSome] at hd1
  go_enter Tryz.func149,Tryz.ntmps149
  go_wp2_with (at_lookup;refine wpList_lookup_own_ok_int _ rfl _ _ 235 rfl 9 3 .i64 lawT Tryz.underlying235 Tryz.underlying3 (zeroI _) mb _ D rfl HO.out _ _ rfl HY.out ?_)
  intro c hat hwc
  try rw [hd1]
  go_wp2_with fail
  refine (blame_any ns ks wb tg tc kg kc cg bg k 8 s _ hk HF.out HD.out).mono ?_
  rintro e w2 ⟨rfl,hk2,hd2⟩
  go_wp2
  (first | go_end0 | refine bodyPost_ret (results_none rfl _ _ _) rfl ?_)
  refine ⟨rfl,Ku.of_kp hk2,?_,?_⟩
  ·rw [HU.out];exact hd2
  ·rw [HU.out];exact HM.out.same (hk2.block mb HM.out.lt hm1 hm2)
def WkOk (ns:List Tr.Nd) (ks:List (List Nat)) (wb tg tc kg kc cg bg f:Nat) (G:Nat→List Tr.Sp→Tr.St→Tr.St):Prop :=
 ∀ (k:Nat) (p:Option Addr) (ch:List Tr.Sp) (s:Tr.St) (w:World),k < f→k < ns.length→Ix ns ks wb tg tc kg kc cg bg w→Dy ns.length cg bg s w→Chain cg bg w w.heap.size p ch →
  Calls Tryz.prog 99 #[.pointer (some ⟨wb,0,none⟩),.int .i64 k,.pointer p] w fun e w'=>e = .returned (.tuple #[])∧Kp cg bg w w'∧Dy ns.length cg bg (G k ch s) w'
theorem Tr.all_at (G:Nat→List Tr.Sp→Tr.St→Tr.St) (ls:List Nat) (i:Nat) (ch:List Tr.Sp) (s:Tr.St) (h:i < ls.length):Tr.all G (ls.take (i+1)) ch s=G ls[i] ch (Tr.all G (ls.take i) ch s):=by
 unfold Tr.all
 rw [List.take_succ_eq_append_getElem h,List.foldl_append];rfl
set_option maxHeartbeats 400000 in
theorem all_nil (q p:Value) (a:Option Addr) (c:Nat) (w:World) :
  Calls Tryz.prog 150 #[q,.slice a 0 c,p] w fun e w'=>e = .returned (.tuple #[])∧w'=w:=by
 go_enter Tryz.func150,Tryz.ntmps150
 go_wp2
 go_loopw [10] (fun t wr=>t = .int .i64 0∧wr=w) (fun _ _=>0)
 case atStart=>exact ⟨rfl,rfl⟩
 case round =>
  obtain ⟨rfl,rfl⟩:=hrel
  go_wp2
  (first | go_end0 | refine bodyPost_ret (results_none rfl _ _ _) rfl ?_)
  exact ⟨rfl,rfl⟩
set_option maxRecDepth 100000 in
set_option maxHeartbeats 1000000 in
theorem all_some (ns:List Tr.Nd) (ks:List (List Nat)) (wb tg tc kg kc cg bg f:Nat) (G:Nat→List Tr.Sp→Tr.St→Tr.St) (hG:WkOk ns ks wb tg tc kg kc cg bg f G) (ls:List Nat) (g o c:Nat) (ch:List Tr.Sp) (p:Option Addr) (s:Tr.St) (w:World)
  (hls:∀ x∈ls,x < f∧x < ns.length) (hl:ls.length≤100000000) (hF:Ix ns ks wb tg tc kg kc cg bg w) (hD:Dy ns.length cg bg s w) (hC:Chain cg bg w w.heap.size p ch) (hg1:g≠cg) (hg2:g≠bg) (hI:IntsAt w g o ls) :
  Calls Tryz.prog 150 #[.pointer (some ⟨wb,0,none⟩),.slice (some ⟨g,o,none⟩) ls.length c,.pointer p] w fun e w'=>e = .returned (.tuple #[])∧Kp cg bg w w'∧Dy ns.length cg bg (Tr.all G ls ch s) w':=by
 have HG:=hide hG
 have HF:=hide hF
 have HD:=hide hD
 have HC:=hide hC
 have HI:=hide hI
 have HLS:=hide hls
 clear hG hF hD hC hI hls
 go_enter Tryz.func150,Tryz.ntmps150
 go_wp2
 go_loopw [10] (fun t wr=>∃ i:Nat,i≤ls.length∧t = .int .i64 i∧Kp cg bg w wr∧Dy ns.length cg bg (Tr.all G (ls.take i) ch s) wr) (fun t _=>ls.length - (intOf t).toNat)
 case atStart=>exact ⟨0,Nat.zero_le _,rfl,Kp.refl _ _ _,HD.out⟩
 case round =>
  obtain ⟨i,hi,rfl,hK,hDr⟩:=hrel
  have HDr:=hide hDr
  clear hDr
  by_cases hlt:i < ls.length
  ·have hx:=(hK.cell (p:=⟨g,o+i,none⟩) HI.out.1 hg1 hg2).trans (HI.out.2 i hlt)
   have HS:=hide (Tr.all_at G ls i ch s hlt)
   have hxl:=HLS.out _ (List.getElem_mem hlt)
   have HGO:=hide (HG.out ls[i] p ch _ wr hxl.1 hxl.2 (HF.out.kept hK) HDr.out (Chain.kept hK.size (fun b hb h1 h2=>hK.block b hb h1 h2) HC.out))
   generalize ls[i]=y at *
   go_wp2_with fail
   refine HGO.out.mono ?_
   rintro e w2 ⟨rfl,hk2,hd2⟩
   go_wp2
   go_roundw
   case rel=>exact ⟨i+1,by omega,by go_num,hK.trans hk2,by rw [HS.out];exact hd2⟩
   case measure=>simp [intOf];omega
  ·go_wp2
   (first | go_end0 | refine bodyPost_ret (results_none rfl _ _ _) rfl ?_)
   have e:ls.take i=ls:=List.take_of_length_le (by omega)
   exact ⟨rfl,hK,by have:=HDr.out;rwa [e] at this⟩
theorem all_any (ns:List Tr.Nd) (ks:List (List Nat)) (wb tg tc kg kc cg bg f:Nat) (G:Nat→List Tr.Sp→Tr.St→Tr.St) (hG:WkOk ns ks wb tg tc kg kc cg bg f G) (ls:List Nat) (v:Value) (ch:List Tr.Sp) (p:Option Addr) (s:Tr.St) (w:World)
  (hls:∀ x∈ls,x < f∧x < ns.length) (hl:ls.length≤100000000) (hF:Ix ns ks wb tg tc kg kc cg bg w) (hD:Dy ns.length cg bg s w) (hC:Chain cg bg w w.heap.size p ch) (hI:PlV cg bg w v ls) :
  Calls Tryz.prog 150 #[.pointer (some ⟨wb,0,none⟩),v,.pointer p] w fun e w'=>e = .returned (.tuple #[])∧Kp cg bg w w'∧Dy ns.length cg bg (Tr.all G ls ch s) w':=by
 rcases hI with ⟨a,c,rfl,rfl⟩ | ⟨g,o,c,rfl,h1,h2,_,h3⟩
 ·refine (all_nil _ _ _ _ _).mono ?_
  rintro e w' ⟨rfl,rfl⟩
  exact ⟨rfl,Kp.refl _ _ _,hD⟩
 ·exact all_some ns ks wb tg tc kg kc cg bg f G hG ls g o c ch p s w hls hl hF hD hC h1 h2 h3
end Go.Proofs.YthbojbbmpcmoaaaGreatDoor
namespace Go.Proofs.YthbojbbmpcmoaaaGreatDoor.Vl
structure At where
 kind:Int
 n:Int
 text:ByteArray
 kids:Int
structure T where
 mk ::
 (kind' n':Int)
 (text':ByteArray)
 (ks':List T)
def T.kind:T→Int | .mk k _ _ _=>k
def T.num:T→Int | .mk _ n _ _=>n
def T.text:T→ByteArray | .mk _ _ s _=>s
def T.ks:T→List T | .mk _ _ _ l=>l
theorem T.eta (t:T):t = .mk t.kind t.num t.text t.ks:=by cases t;rfl
def T.atoms:T→List At
 | .mk k n s ks=>atomsL ks++[⟨k,n,s,ks.length⟩]
 where
 atomsL:List T→List At
 | []=>[]
 | t :: r=>t.atoms++atomsL r
open T.atoms
theorem T.atoms_eq (t:T):t.atoms=atomsL t.ks++[⟨t.kind,t.num,t.text,t.ks.length⟩]:=by cases t;simp [T.atoms,T.kind,T.num,T.text,T.ks]
theorem atomsL_append (a b:List T):atomsL (a++b)=atomsL a++atomsL b:=by
 induction a with
 | nil=>simp [atomsL]
 | cons t r ih=>simp [atomsL,ih]
theorem atoms_pos (t:T):0 < t.atoms.length:=by rw [T.atoms_eq];simp
theorem atomsL_take_le (l:List T) (j:Nat):(atomsL (l.take j)).length≤(atomsL l).length:=by
 have h:=congrArg (fun x=>(atomsL x).length) (List.take_append_drop j l)
 simp only [atomsL_append,List.length_append] at h
 omega
theorem len_le_atomsL (l:List T):l.length≤(atomsL l).length:=by
 induction l with
 | nil=>simp
 | cons t r ih=>have:=atoms_pos t;simp [atomsL];omega
def run:List At→List T→Option (List T)
 | [],st=>some st
 | a :: r,st=>if a.kids < 0∨(st.length:Int) < a.kids then none else run r (st.take (st.length - a.kids.toNat)++[.mk a.kind a.n a.text (st.drop (st.length - a.kids.toNat))])
theorem run_append (a b:List At) (st:List T):run (a++b) st=(run a st).bind (run b):=by
 induction a generalizing st with
 | nil=>rfl
 | cons x r ih =>
  rw [List.cons_append,run,run]
  split
  ·rfl
  ·rw [ih]
theorem run_T (t:T) (st:List T):run t.atoms st=some (st++[t]):=by
 match t with
 | .mk k n s ks =>
  rw [T.atoms,run_append,run_L ks st]
  simp [run]
 where
 run_L (l:List T) (st:List T):run (atomsL l) st=some (st++l):=by
  match l with
  | []=>simp [atomsL,run]
  | t :: r =>
   rw [atomsL,run_append,run_T t st]
   simp only [Option.bind_some]
   rw [run_L r]
   simp
theorem run_atoms (l:List At) (st st':List T) (h:run l st=some st'):atomsL st'=atomsL st++l:=by
 induction l generalizing st with
 | nil=>simp [run] at h;simp [h]
 | cons a r ih =>
  rw [run] at h
  split at h
  ·cases h
  ·rename_i hk
   rw [ih _ h,atomsL_append]
   have e:atomsL st=atomsL (st.take (st.length - a.kids.toNat))++atomsL (st.drop (st.length - a.kids.toNat)):=by rw [← atomsL_append,List.take_append_drop]
   rw [e]
   simp only [atomsL,T.atoms,List.append_nil,List.append_assoc,List.singleton_append]
   congr 2
   have:((st.drop (st.length - a.kids.toNat)).length:Int)=a.kids:=by simp;omega
   rw [this]
def treeOf (l:List At):Option T:=match run l [] with
 | some [t]=>some t
 | _=>none
theorem treeOf_some {l:List At} {t:T} (h:treeOf l=some t):l=t.atoms:=by
 unfold treeOf at h
 split at h
 ·rename_i t' ht
  cases h
  have:=run_atoms l [] [t] ht
  simpa [atomsL] using this.symm
 ·cases h
theorem treeOf_atoms (t:T):treeOf t.atoms=some t:=by simp [treeOf,run_T]
def slt (a b:ByteArray):Bool:=Go.Op.bytesLess a.toList b.toList
def names:List T→Bool
 | a :: _ :: c :: r=>a.kind == 4 && c.kind == 4 && slt a.text c.text && names (c :: r)
 | [a,_]=>a.kind == 4
 | [_]=>false
 | []=>true
def plain (k n:Int) (s:ByteArray) (ks:List T):Bool :=
 (k == 2 || k == 3 || n == 0) && (k == 4 || s.size == 0) && (k == 5 || k == 6 || ks.length == 0) &&
 (k == 1 || k == 3 || k == 2 && (n == 0 || n == 1) || k == 4 && decide (s.size≤1000) || k == 5 && decide (ks.length≤200) || k == 6 && decide (ks.length % 2=0∧ks.length≤400) && names ks)
def T.ok:T→Nat→Bool
 | .mk k n s ks,above=>decide (above≤12) && plain k n s ks && okL ks (above+1)
 where
 okL:List T→Nat→Bool
 | [],_=>true
 | t :: r,above=>t.ok above && okL r above
open T.ok
theorem T.ok_eq (t:T) (a:Nat):t.ok a=(decide (a≤12) && plain t.kind t.num t.text t.ks && okL t.ks (a+1)):=by cases t;simp [T.ok,T.kind,T.num,T.text,T.ks]
def T.high:T→Nat
 | .mk _ _ _ ks=>highL ks
 where
 highL:List T→Nat
 | []=>0
 | t :: r=>max (t.high+1) (highL r)
open T.high
theorem T.high_eq (t:T):t.high=highL t.ks:=by cases t;simp [T.high,T.ks]
def T.count (t:T):Nat:=t.atoms.length
theorem T.count_eq (t:T):t.count=1+(atomsL t.ks).length:=by rw [T.count,T.atoms_eq];simp;omega
def T.good:T→Bool
 | .mk k n s ks=>plain k n s ks && decide (highL ks≤12) && goodL ks
 where
 goodL:List T→Bool
 | []=>true
 | t :: r=>t.good && goodL r
open T.good
theorem T.good_eq (t:T):t.good=(plain t.kind t.num t.text t.ks && decide (highL t.ks≤12) && goodL t.ks):=by cases t;rw [T.good];rfl
theorem goodL_append (a b:List T):goodL (a++b)=(goodL a && goodL b):=by
 induction a with
 | nil=>simp [goodL]
 | cons t r ih=>simp [goodL,ih,Bool.and_assoc]
def T.allPlain:T→Bool
 | .mk k n s ks=>plain k n s ks && allPlainL ks
 where
 allPlainL:List T→Bool
 | []=>true
 | t :: r=>t.allPlain && allPlainL r
open T.allPlain
theorem ok_split (t:T) (a:Nat):t.ok a=(decide (a+t.high≤12) && t.allPlain):=by
 match t with
 | .mk k n s ks =>
  rw [T.ok,T.high,T.allPlain,okL_split ks a]
  by_cases hk:ks=[]
  ·subst hk;simp [highL,allPlainL];rfl
  ·cases plain k n s ks <;> cases allPlainL ks <;> simp [hk]
   omega
 where
 okL_split (l:List T) (a:Nat):okL l (a+1)=(decide (a+highL l≤12∨l=[]) && allPlainL l):=by
  match l with
  | []=>simp [okL,allPlainL]
  | t :: r =>
   rw [okL,highL,allPlainL,ok_split t (a+1),okL_split r a]
   cases t.allPlain <;> cases allPlainL r <;> simp
   by_cases hr:r=[]
   ·subst hr;simp [highL];omega
   ·rw [Bool.eq_iff_iff];simp [hr];omega
theorem good_split (t:T):t.good=(decide (t.high≤12) && t.allPlain):=by
 match t with
 | .mk k n s ks =>
  rw [T.good,T.high,T.allPlain]
  rw [show goodL ks=(decide (highL ks≤13) && allPlainL ks) from goodL_split ks]
  cases plain k n s ks <;> cases allPlainL ks <;> simp
  omega
 where
 goodL_split (l:List T):goodL l=(decide (highL l≤13) && allPlainL l):=by
  match l with
  | []=>simp [goodL,highL,allPlainL]
  | t :: r =>
   rw [goodL,highL,allPlainL,good_split t,goodL_split r]
   cases t.allPlain <;> cases allPlainL r <;> simp
   rw [← Bool.decide_and,decide_eq_decide];omega
theorem ok_good (t:T):t.ok 0=t.good:=by rw [ok_split,good_split,Nat.zero_add]
def irun:List At→List T→Option (List T)
 | [],st=>some st
 | a :: r,st=>if a.kids < 0∨(st.length:Int) < a.kids then none else
   if (plain a.kind a.n a.text (st.drop (st.length - a.kids.toNat)) && decide (highL (st.drop (st.length - a.kids.toNat))≤12))=true then
    irun r (st.take (st.length - a.kids.toNat)++[.mk a.kind a.n a.text (st.drop (st.length - a.kids.toNat))]) else none
theorem goodL_parts (st:List T) (k:Nat):goodL st=(goodL (st.take k) && goodL (st.drop k)):=by rw [← goodL_append,List.take_append_drop]
theorem run_bad (l:List At) (st st':List T) (h:run l st=some st') (hb:goodL st=false):goodL st'=false:=by
 induction l generalizing st with
 | nil=>simp [run] at h;rw [← h];exact hb
 | cons a r ih =>
  rw [run] at h
  split at h
  ·cases h
  ·refine ih _ h ?_
   rw [goodL_parts st (st.length - a.kids.toNat)] at hb
   rw [goodL_append]
   simp only [goodL,T.good]
   cases h1:goodL (st.take (st.length - a.kids.toNat)) <;> cases h2:goodL (st.drop (st.length - a.kids.toNat)) <;> simp_all
theorem irun_eq (l:List At) (st:List T) (hg:goodL st=true):irun l st=match run l st with
  | none=>none
  | some st'=>if goodL st'=true then some st' else none:=by
 induction l generalizing st with
 | nil=>simp [irun,run,hg]
 | cons a r ih =>
  rw [irun,run]
  split
  ·rfl
  ·have hp:=goodL_parts st (st.length - a.kids.toNat)
   rw [hg] at hp
   obtain ⟨hp1,hp2⟩:=Bool.and_eq_true_iff.1 hp.symm
   split
   ·rename_i hn
    rw [ih]
    rw [goodL_append,hp1]
    simp only [goodL,T.good,hn,hp2];rfl
   ·rename_i hn
    cases hr:run r (st.take (st.length - a.kids.toNat)++[.mk a.kind a.n a.text (st.drop (st.length - a.kids.toNat))]) with
    | none=>rfl
    | some st' =>
     have:=run_bad r _ st' hr (by rw [goodL_append];simp only [goodL,T.good];rw [Bool.not_eq_true] at hn;rw [hn];simp)
     simp [this]
def valid (l:List At):Bool:=decide (l.length≤1000) && match treeOf l with
 | none=>false
 | some t=>t.ok 0
def ivalid (l:List At):Bool:=decide (l.length≤1000) && match irun l [] with
 | some [_]=>true
 | _=>false
theorem ivalid_eq (l:List At):ivalid l=valid l:=by
 unfold ivalid valid treeOf
 rw [irun_eq l [] rfl]
 cases h:run l [] with
 | none=>rfl
 | some st =>
  match st with
  | []=>by_cases h:goodL []=true <;> simp [h]
  | [t] =>
   simp only [goodL,Bool.and_true]
   rw [ok_good]
   cases ht:t.good <;> simp
  | a :: b :: r=>cases goodL (a :: b :: r) <;> simp
end Go.Proofs.YthbojbbmpcmoaaaGreatDoor.Vl
namespace Go.Proofs.YthbojbbmpcmoaaaGreatDoor
namespace Fd
def fnOpen (t:ByteArray):List Fd→Nat
 | []=>0
 | y :: r=>if r=[] then 1 else if y.x.text=t then 1 else 1+fnOpen t r
def opn (t:ByteArray) (x:Tr.Nd) (ks:List Fd):Nat:=if x.kind=14∨x.kind=16 then (if x.text=t then 1 else ks.length) else if x.kind=15 then fnOpen t ks else ks.length
theorem fnOpen_le (t:ByteArray):∀ l:List Fd,fnOpen t l≤l.length
 | []=>by simp [fnOpen]
 | y :: r=>by
  have:=fnOpen_le t r
  unfold fnOpen
  rw [List.length_cons]
  split
  ·omega
  ·split <;> omega
theorem fillP_open (t:ByteArray) (c:Tr.Nd):∀ l:List Fd,fill.fillP t c l=(l.take (fnOpen t l)).map (fill t c)++l.drop (fnOpen t l)
 | []=>by simp [fillP_nil,fnOpen]
 | y :: r=>by
  rw [fillP_cons]
  unfold fnOpen
  by_cases hr:r=[]
  ·subst hr
   simp [fillP_nil]
  ·rw [if_neg hr]
   by_cases hx:y.x.text=t
   ·rw [if_pos hx,if_pos hx]
    simp
   ·rw [if_neg hx,if_neg hx,fillP_open t c r,Nat.add_comm 1,List.take_succ_cons,List.drop_succ_cons,List.map_cons,List.cons_append]
theorem fill_open (t:ByteArray) (c:Tr.Nd) (x:Tr.Nd) (p b:Int) (ks:List Fd) (hx:¬ (x.kind=5∧x.text=t)) (hl:x.kind=14∨x.kind=16→0 < ks.length):fill t c (.mk x p b ks) = .mk x p b ((ks.take (opn t x ks)).map (fill t c)++ks.drop (opn t x ks)):=by
 rw [fill_mk,if_neg hx]
 unfold opn
 by_cases h14:x.kind=14∨x.kind=16
 ·rw [if_pos h14,if_pos h14]
  by_cases he:x.text=t
  ·rw [if_pos he,if_pos he]
   cases ks with
   | nil=>have:=hl h14;simp at this
   | cons y r=>rw [fillA_cons];simp
  ·rw [if_neg he,if_neg he];simp
 ·rw [if_neg h14,if_neg h14]
  by_cases h15:x.kind=15
  ·rw [if_pos h15,if_pos h15,fillP_open]
  ·rw [if_neg h15,if_neg h15];simp
theorem opn_le (t:ByteArray) (x:Tr.Nd) (ks:List Fd) (hl:x.kind=14∨x.kind=16→0 < ks.length):opn t x ks≤ks.length:=by
 unfold opn
 split
 ·rename_i h
  have:=hl h
  split <;> omega
 ·split
  ·exact fnOpen_le t ks
  ·exact Nat.le_refl _
end Fd
end Go.Proofs.YthbojbbmpcmoaaaGreatDoor
