/- Jk, Ji. -/
import Derived.Test.YthbojbbmpcmoaaaGreatDoorZ10
import Derived.Test.YthbojbbmpcmoaaaGreatDoorZ22
import Derived.Test.YthbojbbmpcmoaaaGreatDoorZ23
import Derived.Test.YthbojbbmpcmoaaaGreatDoorZ27
import Derived.Test.YthbojbbmpcmoaaaGreatDoorZ04
import Derived.Deep.RegionLaw
namespace Go.Proofs.YthbojbbmpcmoaaaGreatDoor
open Go.RowKit
def NodesO (w:World) (g o:Nat) (l:List Tr.Nd):Prop:=g < w.heap.size∧∀ i (h:i < l.length),w.cell? ⟨g,o+i*5,none⟩=some (.int .i64 l[i].kind)∧w.cell? ⟨g,o+i*5+1,none⟩=some (.int .i64 l[i].op)∧w.cell? ⟨g,o+i*5+2,none⟩=some (.int .i64 l[i].n)∧w.cell? ⟨g,o+i*5+3,none⟩=some (.string l[i].text)∧w.cell? ⟨g,o+i*5+4,none⟩=some (.int .i64 l[i].kids)
theorem NodesO.below {w w':World} {g o:Nat} {l:List Tr.Nd} (h:NodesO w g o l) (hb:Below w.heap.size w w'):NodesO w' g o l:=by
 refine ⟨Nat.lt_of_lt_of_le h.1 hb.size,fun i hi=>?_⟩
 obtain ⟨a,b,c,d,e⟩:=h.2 i hi
 exact ⟨(hb.cell (p:=⟨g,o+i*5,none⟩) h.1).trans a,(hb.cell (p:=⟨g,o+i*5+1,none⟩) h.1).trans b,(hb.cell (p:=⟨g,o+i*5+2,none⟩) h.1).trans c,(hb.cell (p:=⟨g,o+i*5+3,none⟩) h.1).trans d,(hb.cell (p:=⟨g,o+i*5+4,none⟩) h.1).trans e⟩
def NodesV (w:World) (v:Value) (l:List Tr.Nd):Prop:=(∃ p c,v = .slice p 0 c∧l=[])∨∃ g o c,v = .slice (some ⟨g,o,none⟩) l.length c∧NodesO w g o l
theorem NodesV.below {w w':World} {v:Value} {l:List Tr.Nd} (h:NodesV w v l) (hb:Below w.heap.size w w'):NodesV w' v l:=by
 rcases h with h | ⟨g,o,c,h1,h2⟩
 ·exact .inl h
 ·exact .inr ⟨g,o,c,h1,h2.below hb⟩
def Tr.szGo:List Tr.Nd→Int→Int
 | [],left=>left
 | x :: r,left=>if left - x.text.size < 0 then -1 else Tr.szGo r (left - x.text.size)
def Tr.szS (l:List Tr.Nd) (left:Int):Int:=if left - l.length < 0 then -1 else Tr.szGo l (left - l.length)
theorem Tr.szGo_ok (l:List Tr.Nd) (left:Int) (hl:left≤1048576) (h:¬ Tr.szGo l left < 0):∀ x∈l,x.text.size≤1048576:=by
 induction l generalizing left with
 | nil=>intro x hx;cases hx
 | cons y r ih =>
  rw [Tr.szGo] at h
  by_cases hc:left - y.text.size < 0
  ·rw [if_pos hc] at h;omega
  ·rw [if_neg hc] at h
   intro x hx
   rcases List.mem_cons.1 hx with rfl | hx
   ·omega
   ·exact ih _ (by omega) h x hx
theorem Tr.szS_ok (l:List Tr.Nd) (h:¬ Tr.szS l 1048576 < 0):l.length≤1048576∧∀ x∈l,x.text.size≤1048576:=by
 unfold Tr.szS at h
 by_cases hc:(1048576:Int) - l.length < 0
 ·rw [if_pos hc] at h;omega
 ·rw [if_neg hc] at h
  exact ⟨by omega,Tr.szGo_ok l _ (by omega) h⟩
theorem Tr.szGo_at (l:List Tr.Nd) (i:Nat) (left:Int) (h:i < l.length):Tr.szGo (l.drop i) left=if left - l[i].text.size < 0 then -1 else Tr.szGo (l.drop (i+1)) (left - l[i].text.size):=by
 rw [List.drop_eq_getElem_cons h];rfl
set_option maxHeartbeats 400000 in
theorem szNode_any (k op n m left:Int) (s:ByteArray) (w:World) (hs:s.size≤9223372036854775807) (h0:0≤left) (h1:left≤1048576) :
  Calls Tryz.prog 27 #[.agg #[.int .i64 k,.int .i64 op,.int .i64 n,.string s,.int .i64 m],.int .i64 left] w fun e w'=>e = .returned (.int .i64 (if left - s.size < 0 then -1 else left - s.size))∧Below w.heap.size w w':=by
 have hsub:wrap64 (left - (s.size:Int))=left - s.size:=by unfold wrap64;omega
 by_cases hc:left - (s.size:Int) < 0
 ·rw [if_pos hc]
  go_enter Tryz.func27,Tryz.ntmps27
  go_wp2
  go_ret
  exact ⟨rfl,bA _⟩
 ·rw [if_neg hc]
  go_enter Tryz.func27,Tryz.ntmps27
  go_wp2
  go_ret
  exact ⟨rfl,bA _⟩
set_option maxHeartbeats 400000 in
theorem toNode_any (k op n m:Int) (s:ByteArray) (w:World) :
  Calls Tryz.prog 35 #[.agg #[.int .i64 k,.int .i64 op,.int .i64 n,.string s,.int .i64 m]] w fun e w'=>e = .returned (.agg #[.int .i64 k,.int .i64 op,.int .i64 n,.string s,.int .i64 m])∧Below w.heap.size w w':=by
 go_enter Tryz.func35,Tryz.ntmps35
 go_wp2
 refine bodyPost_ret (v:= .agg #[.int .i64 k,.int .i64 op,.int .i64 n,.string s,.int .i64 m]) (by simp [results,Tryz.results35,go_sem]) rfl ⟨rfl,?_⟩
 exact ((bA _).alloc (by simp) _).alloc (by simp;omega) _
set_option maxHeartbeats 400000 in
theorem eqNode_same (k op n m:Int) (s:ByteArray) (w:World) :
  Calls Tryz.prog 74 #[.agg #[.int .i64 k,.int .i64 op,.int .i64 n,.string s,.int .i64 m],.agg #[.int .i64 k,.int .i64 op,.int .i64 n,.string s,.int .i64 m]] w fun e w'=>e = .returned (.bool true)∧Below w.heap.size w w':=by
 go_enter Tryz.func74,Tryz.ntmps74
 go_wp2
 go_ret
 exact ⟨rfl,(bA _).alloc (by simp) _⟩
set_option maxHeartbeats 400000 in
theorem szS_nil (p:Option Addr) (c:Nat) (w:World) :
  Calls Tryz.prog 11 #[.slice p 0 c,.int .i64 1048576] w fun e w'=>e = .returned (.int .i64 1048576)∧Below w.heap.size w w':=by
 go_enter Tryz.func11,Tryz.ntmps11
 go_wp2
 go_loop [1,5] (fun a t=>a = .int .i64 1048576∧t = .int .i64 0) (fun _ _=>0)
 case atStart=>exact ⟨rfl,rfl⟩
 case round =>
  obtain ⟨rfl,rfl⟩:=hrel
  go_wp2
  go_ret
  exact ⟨rfl,Below.refl _ _⟩
set_option maxRecDepth 100000 in
set_option maxHeartbeats 1000000 in
theorem szS_some (l:List Tr.Nd) (g o c:Nat) (w:World) (hl:l.length≤9223372036854775807) (hx:∀ x∈l,x.text.size≤9223372036854775807) (ht:NodesO w g o l) :
  Calls Tryz.prog 11 #[.slice (some ⟨g,o,none⟩) l.length c,.int .i64 1048576] w fun e w'=>e = .returned (.int .i64 (Tr.szS l 1048576))∧Below w.heap.size w w':=by
 have HT:=hide ht
 have HX:=hide hx
 clear ht hx
 have hsub:wrap64 (1048576 - (l.length:Int))=1048576 - l.length:=by unfold wrap64;omega
 by_cases hc:(1048576:Int) - l.length < 0
 ·have HD:Hid (Tr.szS l 1048576 = -1):=hide (by unfold Tr.szS;rw [if_pos hc])
  go_enter Tryz.func11,Tryz.ntmps11
  go_wp2
  go_ret
  exact ⟨ret_int HD.out.symm,Below.refl _ _⟩
 ·have HD:Hid (Tr.szS l 1048576=Tr.szGo l (1048576 - l.length)):=hide (by unfold Tr.szS;rw [if_neg hc])
  go_enter Tryz.func11,Tryz.ntmps11
  go_wp2
  go_loopw [1,5] (fun a t wr=>∃ (i:Nat) (left:Int),i≤l.length∧t = .int .i64 i∧a = .int .i64 left∧0≤left∧left≤1048576∧Below w.heap.size w wr∧Tr.szS l 1048576=Tr.szGo (l.drop i) left) (fun _ t _=>l.length - (intOf t).toNat)
  case atStart=>exact ⟨0,_,Nat.zero_le _,rfl,rfl,by omega,by omega,Below.refl _ _,by rw [HD.out,List.drop_zero]⟩
  case round =>
   obtain ⟨i,left,hi,rfl,rfl,h0,h1,hB,he⟩:=hrel
   have HE:=hide he
   clear he
   by_cases hlt:i < l.length
   ·obtain ⟨c0,c1,c2,c3,c4⟩:=(HT.out.below hB).2 i hlt
    have HS:=hide (show Tr.szS l 1048576=if left - l[i].text.size < 0 then -1 else Tr.szGo (l.drop (i+1)) (left - l[i].text.size) by rw [HE.out,Tr.szGo_at l i left hlt])
    have hN:=szNode_any l[i].kind l[i].op l[i].n l[i].kids left l[i].text wr (HX.out _ (List.getElem_mem hlt)) h0 h1
    have HN:=hide hN
    clear hN
    generalize l[i]=d at *
    by_cases hq:left - (d.text.size:Int) < 0
    ·have HN2:=HN.out
     rw [if_pos hq] at HN2
     replace HN2:=hide HN2
     go_wp2_with fail
     refine HN2.out.mono ?_
     rintro e w1 ⟨rfl,hb1⟩
     go_wp2
     go_ret
     exact ⟨ret_int (by rw [HS.out,if_pos hq]),hB.trans (hb1.mono hB.size)⟩
    ·have HN2:=HN.out
     rw [if_neg hq] at HN2
     replace HN2:=hide HN2
     go_wp2_with fail
     refine HN2.out.mono ?_
     rintro e w1 ⟨rfl,hb1⟩
     go_wp2
     go_roundw
     case rel=>exact ⟨i+1,left - d.text.size,by omega,by go_num,rfl,by omega,by omega,hB.trans (hb1.mono hB.size),by rw [HS.out,if_neg (by omega)]⟩
     case measure=>simp [intOf];omega
   ·go_wp2
    go_ret
    refine ⟨ret_int ?_,hB⟩
    rw [HE.out,List.drop_of_length_le (by omega)];rfl
theorem szS_any (l:List Tr.Nd) (v:Value) (w:World) (hl:l.length≤9223372036854775807) (hx:∀ x∈l,x.text.size≤9223372036854775807) (ht:NodesV w v l) :
  Calls Tryz.prog 11 #[v,.int .i64 1048576] w fun e w'=>e = .returned (.int .i64 (Tr.szS l 1048576))∧Below w.heap.size w w':=by
 rcases ht with ⟨p,c,rfl,rfl⟩ | ⟨g,o,c,rfl,h⟩
 ·exact szS_nil p c w
 ·exact szS_some l g o c w hl hx h
set_option maxHeartbeats 400000 in
theorem szTree_any (l:List Tr.Nd) (v:Value) (w:World) (hl:l.length≤9223372036854775807) (hx:∀ x∈l,x.text.size≤9223372036854775807) (ht:NodesV w v l) :
  Calls Tryz.prog 4 #[.agg #[v],.int .i64 1048576] w fun e w'=>e = .returned (.int .i64 (if Tr.szS l 1048576 < 0 then -1 else Tr.szS l 1048576))∧Below w.heap.size w w':=by
 have HS:=hide (szS_any l v (w.alloc (.cells #[v] 24)) hl hx (ht.below (bA _)))
 generalize Tr.szS l 1048576=r at *
 clear ht
 by_cases hr:r < 0
 ·rw [if_pos hr]
  go_enter Tryz.func4,Tryz.ntmps4
  go_wp2_with fail
  refine HS.out.mono ?_
  rintro e w1 ⟨rfl,hb1⟩
  go_wp2
  go_ret
  exact ⟨rfl,(bA _).trans (hb1.mono (by simp))⟩
 ·rw [if_neg hr]
  go_enter Tryz.func4,Tryz.ntmps4
  go_wp2_with fail
  refine HS.out.mono ?_
  rintro e w1 ⟨rfl,hb1⟩
  go_wp2
  go_ret
  exact ⟨rfl,(bA _).trans (hb1.mono (by simp))⟩
def Tr.Gr.cells (x:Tr.Gr):List Value:=[.int .i64 x.nd.kind,.int .i64 x.nd.op,.int .i64 x.nd.n,.string x.nd.text,.int .i64 x.nd.kids,.int .i64 x.high]
def Tr.grCells (l:List Tr.Gr):List Value:=l.flatMap Tr.Gr.cells
theorem Tr.grCells_len (l:List Tr.Gr):(Tr.grCells l).length=l.length*6:=by
 induction l with
 | nil=>rfl
 | cons x r ih=>rw [show Tr.grCells (x :: r)=x.cells++Tr.grCells r from rfl,List.length_append,ih,List.length_cons];simp [Tr.Gr.cells];omega
theorem Tr.grCells_take (l:List Tr.Gr) (m:Nat):(Tr.grCells l).take (m*6)=Tr.grCells (l.take m):=by
 induction l generalizing m with
 | nil=>simp [Tr.grCells]
 | cons x r ih =>
  cases m with
  | zero=>simp [Tr.grCells]
  | succ m =>
   rw [show Tr.grCells (x :: r)=x.cells++Tr.grCells r from rfl,List.take_succ_cons,show Tr.grCells (x :: r.take m)=x.cells++Tr.grCells (r.take m) from rfl,← ih m,List.take_append,show x.cells.length=6 from rfl,List.take_of_length_le (by rw [show x.cells.length=6 from rfl];omega)]
   congr 2;omega
theorem Tr.grCells_at (l:List Tr.Gr) (i:Nat) (h:i < l.length):(Tr.grCells l)[i*6]?=some (.int .i64 l[i].nd.kind)∧(Tr.grCells l)[i*6+1]?=some (.int .i64 l[i].nd.op)∧(Tr.grCells l)[i*6+2]?=some (.int .i64 l[i].nd.n)∧(Tr.grCells l)[i*6+3]?=some (.string l[i].nd.text)∧(Tr.grCells l)[i*6+4]?=some (.int .i64 l[i].nd.kids)∧(Tr.grCells l)[i*6+5]?=some (.int .i64 l[i].high):=by
 induction l generalizing i with
 | nil=>simp at h
 | cons x r ih =>
  rw [show Tr.grCells (x :: r)=x.cells++Tr.grCells r from rfl]
  match i,h with
  | 0,_=>simp [Tr.Gr.cells]
  | i+1,h =>
   have:=ih i (by simpa using h)
   have hl:x.cells.length=6:=rfl
   refine ⟨?_,?_,?_,?_,?_,?_⟩
   all_goals rw [List.getElem?_append_right (by omega),hl]
   ·rw [show (i+1)*6 - 6=i*6 from by omega];exact this.1
   ·rw [show (i+1)*6+1 - 6=i*6+1 from by omega];exact this.2.1
   ·rw [show (i+1)*6+2 - 6=i*6+2 from by omega];exact this.2.2.1
   ·rw [show (i+1)*6+3 - 6=i*6+3 from by omega];exact this.2.2.2.1
   ·rw [show (i+1)*6+4 - 6=i*6+4 from by omega];exact this.2.2.2.2.1
   ·rw [show (i+1)*6+5 - 6=i*6+5 from by omega];exact this.2.2.2.2.2
theorem gr_of_row {w:World} {base:Nat} {e:TypeId} {g cap:Nat} {l:List Tr.Gr} (h:w.ownsRow base e 6 (.slice (some ⟨g,0,none⟩) l.length cap) l.length (Tr.grCells l)):GrAt w g 0 l:=by
 refine ⟨(row_room h).2.2,fun i hi=>?_⟩
 obtain ⟨p0,p1,p2,p3,p4,p5⟩:=Tr.grCells_at l i hi
 simp only [Nat.zero_add]
 exact ⟨(h.cellAt (i*6) (by omega)).trans p0,(h.cellAt (i*6+1) (by omega)).trans p1,(h.cellAt (i*6+2) (by omega)).trans p2,(h.cellAt (i*6+3) (by omega)).trans p3,(h.cellAt (i*6+4) (by omega)).trans p4,(h.cellAt (i*6+5) (by omega)).trans p5⟩
theorem row_takeS {w:World} {base size:Nat} {e:TypeId} {g n cap:Nat} {xs:List Value} (h:w.ownsRow base e size (.slice (some ⟨g,0,none⟩) n cap) n xs) (m:Nat) (hm:m≤n):w.ownsRow base e size (.slice (some ⟨g,0,none⟩) m cap) m (xs.take (m * size)):=by
 obtain ⟨h1,h2⟩:=h
 have hms:m * size≤n * size:=Nat.mul_le_mul_right _ hm
 refine ⟨by rw [List.length_take,h1];omega,.inr ?_⟩
 rcases h2 with ⟨h2,_⟩ | ⟨g',cap',cur,hv,hb,hg,hn,hc,hs,ht⟩
 ·cases h2
 ·cases hv
  refine ⟨g,cap,cur,rfl,hb,hg,by omega,hc,hs,?_⟩
  rw [← ht,List.take_take,Nat.min_eq_left hms]
theorem row_belowG {w w1:World} {base:Nat} {e:TypeId} {size:Nat} {v:Value} {n:Nat} {xs:List Value} (h:w.ownsRow base e size v n xs) (hb:Below w.heap.size w w1):w1.ownsRow base e size v n xs:=by
 have hg:w.grownBy w1 none:=⟨hb.os,hb.tape,hb.output,hb.size,fun k hk _=>hb.block k hk⟩
 refine h.kept hg ?_
 cases hv:v.ownBlock with
 | none=>exact .inl rfl
 | some k=>exact .inr (by simp)
theorem map_below {w w1:World} {P:Program} {k b n:Nat} {D:DataW Unit} (h:w.ownsMap P k unitElem b n D) (hb:Below w.heap.size w w1):w1.ownsMap P k unitElem b n D:=by
 obtain ⟨es,clock,h1,h2⟩:=h
 have hlt:b < w.heap.size:=(Array.getElem?_eq_some_iff.1 h1).1
 exact ⟨es,clock,(hb.block b hlt).trans h1,h2⟩
theorem step_call1 {P:Program} {ops:Array Oper} {o:Oper} {a:Act} {w:World} {K:Act→World→Prop} {Q:Exit→Act→World→Prop} {E:Prop}
  (hg:o.guard=none) (f:FuncId) (x:Operand) (t:TypeId) (hop:o.op=Op.call {callee:=Callee.value (Operand.func f),args:=#[x],argTypes:=#[t]})
  (v r:Value) (hx:a.eval x=v) (fn:Func) (hfn:P.funcs[f]?=some fn) (hne:(fn.name == "runtime.NumGoroutine")=false) (hbd:fn.body.isNone=false) (R:World→Prop) (hC:Calls P f #[v] w fun e w'=>e = .returned r∧R w') (hK:∀ w',R w'→K (a.put o.dst r) w') :
  if Region.wanted o (yielded ops a.tmps)=true then Oper.wp P o a w K Q else E:=by
 have hw:Region.wanted o (yielded ops a.tmps)=true:=by simp [Region.wanted,hg]
 rw [if_pos hw]
 have h1:(callFunc f #[v]).run P w = .ok (.enter f #[v]) w:=by
  simp only [callFunc,Sem.run_bind,run_program,Result.andThen_ok,hfn,hne,hbd];rfl
 unfold Oper.wp
 simp only [execOp,hop,resolve,invoke,List.map_toArray,List.map_cons,List.map_nil,hx,Deferred.ofValue,Sem.run_bind]
 rw [show a.eval (Operand.func f)=Value.func (Fn.func f) #[] #[] from rfl]
 simp only [Sem.run_pure,Result.andThen_ok]
 simp [h1]
 refine hC.mono fun e w2 h=>?_
 obtain ⟨rfl,h2⟩:=h
 exact hK _ h2
theorem step_append_ownJ {P:Program} {ops:Array Oper} {o:Oper} {a:Act} {w:World} {K:Act→World→Prop} {Q:Exit→Act→World→Prop} {E:Prop}
  (hgd:o.guard=none) (s x:Operand) (t:TypeId) (ho:o.op = .call {callee:= .builtin .append,args:=#[s,x],argTypes:=#[t,t]})
  (base:Nat) (e:TypeId) (i:TypeInfo) (z:Value) (size bytes:Nat) (ht:P.underlying t=some (.slice e)) (hi:P.info? e=some i) (hz:i.zero=some z)
  (hsize:i.size=size) (hby:i.bytes=bytes) (hzs:z.cells.size=size) (hsz:0 < size)
  (v:Value) (n:Nat) (xs:List Value) (hs:a.eval s=v) (hown:w.ownsRow base e size v n xs)
  (ad:Addr) (m c:Nat) (news:List Value) (hx:a.eval x = .slice (some ad) m c) (hl:news.length=m * size) (hnews:∀ j u,news[j]?=some u→w.cell? (ad.add j)=some u) (h1:∀ u∈news,u.oneCell'=true)
  (h63:n+m≤maxLen) (hbytes:(n+m) * bytes≤140737488355328) (hbase:base≤w.heap.size)
  (hK:∀ v' w',w'.ownsRow base e size v' (n+m) (xs++news)→w.grownBy w' v.ownBlock→(v' = .slice none 0 0↔v = .slice none 0 0∧m=0)→(v'.ownBlock=v.ownBlock∨v'.ownBlock=some w.heap.size)→K (a.put o.dst v') w') :
  if Region.wanted o (yielded ops a.tmps)=true then Oper.wp P o a w K Q else E:=by
 have hw:Region.wanted o (yielded ops a.tmps)=true:=by simp [Region.wanted,hgd]
 rw [if_pos hw]
 obtain ⟨v',w',hr,h2,h3,h4,h5⟩:=run_append_own_at (P:=P) w base t o.type e i z size bytes ht hi hz hsize hby hzs hsz v n xs hown ad m c news hl hnews h1 h63 hbytes hbase
 unfold Oper.wp execOp
 simp only [ho,resolve,invoke,builtin,Sem.run_bind,Sem.run_pure,Result.andThen_ok,List.map_toArray,List.map_cons,List.map_nil,hs,hx,hr]
 exact hK _ _ h2 h3 h4 h5
end Go.Proofs.YthbojbbmpcmoaaaGreatDoor
