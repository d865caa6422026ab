/- Ji, Kg. -/
import Derived.Test.YthbfdaifgnhkbaaGreatDoorM47
import Derived.Test.YthbfdaifgnhkbaaGreatDoorM26
import Derived.Deep.RegionLaw
import Derived.Test.YthbfdaifgnhkbaaGreatDoorM42
namespace Go.Proofs.YthbfdaifgnhkbaaGreatDoor
open Go.RowKit
def Tr.Gr.cells (x:Tr.Gr):List Value:=[.int .i64 x.nd.kind,.int .i64 x.nd.op,.int .i64 x.nd.n,.string x.nd.text,.int .i64 x.nd.kids,.int .i64 x.high]
def Xu (l:List Tr.Gr):List Value:=l.flatMap Tr.Gr.cells
theorem Qc (l:List Tr.Gr) (m:Nat):(Xu l).take (m*6)=Xu (l.take m):=by
 induction l generalizing m with
 | nil=>simp [Xu]
 | cons x r ih =>
  cases m with
  | zero=>simp [Xu]
  | succ m =>
   rw [show Xu (x :: r)=x.cells++Xu r from rfl,List.take_succ_cons,show Xu (x :: r.take m)=x.cells++Xu (r.take m) from rfl,← ih m,List.take_append,show x.cells.length=6 from rfl,List.take_of_length_le (by rw [show x.cells.length=6 from rfl];omega)]
   congr 2;omega
theorem Tr.grCells_at (l:List Tr.Gr) (i:Nat) (h:i < l.length):(Xu l)[i*6]?=some (.int .i64 l[i].nd.kind)∧(Xu l)[i*6+1]?=some (.int .i64 l[i].nd.op)∧(Xu l)[i*6+2]?=some (.int .i64 l[i].nd.n)∧(Xu l)[i*6+3]?=some (.string l[i].nd.text)∧(Xu l)[i*6+4]?=some (.int .i64 l[i].nd.kids)∧(Xu l)[i*6+5]?=some (.int .i64 l[i].high):=by
 induction l generalizing i with
 | nil=>simp at h
 | cons x r ih =>
  rw [show Xu (x :: r)=x.cells++Xu r from rfl]
  match i,h with
  | 0,_=>simp [Tr.Gr.cells]
  | i+1,h =>
   have:=ih i (by simpa using h)
   have hl:x.cells.length=6:=rfl
   refine ⟨?_,?_,?_,?_,?_,?_⟩
   all_goals rw [List.getElem?_append_right (by omega),hl]
   ·rw [show (i+1)*6 - 6=i*6 from by omega];exact this.1
   ·rw [show (i+1)*6+1 - 6=i*6+1 from by omega];exact this.2.1
   ·rw [show (i+1)*6+2 - 6=i*6+2 from by omega];exact this.2.2.1
   ·rw [show (i+1)*6+3 - 6=i*6+3 from by omega];exact this.2.2.2.1
   ·rw [show (i+1)*6+4 - 6=i*6+4 from by omega];exact this.2.2.2.2.1
   ·rw [show (i+1)*6+5 - 6=i*6+5 from by omega];exact this.2.2.2.2.2
theorem gr_of_row {w:World} {base:Nat} {e:TypeId} {g cap:Nat} {l:List Tr.Gr} (h:w.ownsRow base e 6 (.slice (some ⟨g,0,none⟩) l.length cap) l.length (Xu l)):GrAt w g 0 l:=by
 refine ⟨(YH h).2.2,fun i hi=>?_⟩
 obtain ⟨p0,p1,p2,p3,p4,p5⟩:=Tr.grCells_at l i hi
 simp only [Nat.zero_add]
 exact ⟨(h.cellAt (i*6) (by omega)).trans p0,(h.cellAt (i*6+1) (by omega)).trans p1,(h.cellAt (i*6+2) (by omega)).trans p2,(h.cellAt (i*6+3) (by omega)).trans p3,(h.cellAt (i*6+4) (by omega)).trans p4,(h.cellAt (i*6+5) (by omega)).trans p5⟩
theorem row_takeS {w:World} {base size:Nat} {e:TypeId} {g n cap:Nat} {xs:List Value} (h:w.ownsRow base e size (.slice (some ⟨g,0,none⟩) n cap) n xs) (m:Nat) (hm:m≤n):w.ownsRow base e size (.slice (some ⟨g,0,none⟩) m cap) m (xs.take (m * size)):=by
 obtain ⟨h1,h2⟩:=h
 have hms:m * size≤n * size:=Nat.mul_le_mul_right _ hm
 refine ⟨by rw [List.length_take,h1];omega,.inr ?_⟩
 rcases h2 with ⟨h2,_⟩ | ⟨g',cap',cur,hv,hb,hg,hn,hc,hs,ht⟩
 ·cases h2
 ·cases hv
  refine ⟨g,cap,cur,rfl,hb,hg,by omega,hc,hs,?_⟩
  rw [← ht,List.take_take,Nat.min_eq_left hms]
theorem ZZ {w w1:World} {base:Nat} {e:TypeId} {size:Nat} {v:Value} {n:Nat} {xs:List Value} (h:w.ownsRow base e size v n xs) (hb:Below w.heap.size w w1):w1.ownsRow base e size v n xs:=by
 have hg:w.grownBy w1 none:=⟨hb.os,hb.tape,hb.output,hb.size,fun k hk _=>hb.block k hk⟩
 refine h.kept hg ?_
 cases hv:v.ownBlock with
 | none=>exact .inl rfl
 | some k=>exact .inr (by simp)
theorem map_below {w w1:World} {P:Program} {k b n:Nat} {D:DataW Unit} (h:w.ownsMap P k unitElem b n D) (hb:Below w.heap.size w w1):w1.ownsMap P k unitElem b n D:=by
 obtain ⟨es,clock,h1,h2⟩:=h
 have hlt:b < w.heap.size:=(Array.getElem?_eq_some_iff.1 h1).1
 exact ⟨es,clock,(hb.block b hlt).trans h1,h2⟩
theorem ZW {P:Program} {ops:Array Oper} {o:Oper} {a:Act} {w:World} {K:Act→World→Prop} {Q:Exit→Act→World→Prop} {E:Prop}
  (hg:o.guard=none) (f:FuncId) (x:Operand) (t:TypeId) (hop:o.op=Op.call {callee:=Callee.value (Operand.func f),args:=#[x],argTypes:=#[t]})
  (v r:Value) (hx:a.eval x=v) (fn:Func) (hfn:P.funcs[f]?=some fn) (hne:(fn.name == "runtime.NumGoroutine")=false) (hbd:fn.body.isNone=false) (R:World→Prop) (hC:Calls P f #[v] w fun e w'=>e = .returned r∧R w') (hK:∀ w',R w'→K (a.put o.dst r) w') :
  if Region.wanted o (yielded ops a.tmps)=true then Oper.wp P o a w K Q else E:=by
 have hw:Region.wanted o (yielded ops a.tmps)=true:=by simp [Region.wanted,hg]
 rw [if_pos hw]
 have h1:(callFunc f #[v]).run P w = .ok (.enter f #[v]) w:=by
  simp only [callFunc,Sem.run_bind,run_program,Result.andThen_ok,hfn,hne,hbd];rfl
 unfold Oper.wp
 simp only [execOp,hop,resolve,invoke,List.map_toArray,List.map_cons,List.map_nil,hx,Deferred.ofValue,Sem.run_bind]
 rw [show a.eval (Operand.func f)=Value.func (Fn.func f) #[] #[] from rfl]
 simp only [Sem.run_pure,Result.andThen_ok]
 simp [h1]
 refine hC.mono fun e w2 h=>?_
 obtain ⟨rfl,h2⟩:=h
 exact hK _ h2
theorem ZY {P:Program} {ops:Array Oper} {o:Oper} {a:Act} {w:World} {K:Act→World→Prop} {Q:Exit→Act→World→Prop} {E:Prop}
  (hgd:o.guard=none) (s x:Operand) (t:TypeId) (ho:o.op = .call {callee:= .builtin .append,args:=#[s,x],argTypes:=#[t,t]})
  (base:Nat) (e:TypeId) (i:TypeInfo) (z:Value) (size bytes:Nat) (ht:P.underlying t=some (.slice e)) (hi:P.info? e=some i) (hz:i.zero=some z)
  (hsize:i.size=size) (hby:i.bytes=bytes) (hzs:z.cells.size=size) (hsz:0 < size)
  (v:Value) (n:Nat) (xs:List Value) (hs:a.eval s=v) (hown:w.ownsRow base e size v n xs)
  (ad:Addr) (m c:Nat) (news:List Value) (hx:a.eval x = .slice (some ad) m c) (hl:news.length=m * size) (hnews:∀ j u,news[j]?=some u→w.cell? (ad.add j)=some u) (h1:∀ u∈news,u.oneCell'=true)
  (h63:n+m≤maxLen) (hbytes:(n+m) * bytes≤140737488355328) (hbase:base≤w.heap.size)
  (hK:∀ v' w',w'.ownsRow base e size v' (n+m) (xs++news)→w.grownBy w' v.ownBlock→(v' = .slice none 0 0↔v = .slice none 0 0∧m=0)→(v'.ownBlock=v.ownBlock∨v'.ownBlock=some w.heap.size)→K (a.put o.dst v') w') :
  if Region.wanted o (yielded ops a.tmps)=true then Oper.wp P o a w K Q else E:=by
 have hw:Region.wanted o (yielded ops a.tmps)=true:=by simp [Region.wanted,hgd]
 rw [if_pos hw]
 obtain ⟨v',w',hr,h2,h3,h4,h5⟩:=run_append_own_at (P:=P) w base t o.type e i z size bytes ht hi hz hsize hby hzs hsz v n xs hown ad m c news hl hnews h1 h63 hbytes hbase
 unfold Oper.wp execOp
 simp only [ho,resolve,invoke,builtin,Sem.run_bind,Sem.run_pure,Result.andThen_ok,List.map_toArray,List.map_cons,List.map_nil,hs,hx,hr]
 exact hK _ _ h2 h3 h4 h5
def Zh (ns:List Tr.Nd) (x:Nat) (kn:List Tr.Kn) (s:Tr.St):Tr.St:=kn.foldl (fun s p=>if p.1=Xi ns x then Xd x 8 s else s) s
def Zy (ns:List Tr.Nd):List Nat→List Tr.Kn→Tr.St→List Tr.Kn × Tr.St
 | [],kn,s=>(kn,s)
 | x :: r,kn,s=>Zy ns r (kn++[(Xi ns x,x)]) (Zh ns x kn s)
def Z3 (n:Nat):Tr.St:=⟨List.replicate n 0,List.replicate n (-1)⟩
def Zb (ns:List Tr.Nd) (ks:List (List Nat)):Tr.St :=
 XK ns ks ns.length (ns.length - 1) (Zy ns (Xs ns ks (X8 ks (ns.length - 1))) [] (Z3 ns.length)).1 (Zy ns (Xs ns ks (X8 ks (ns.length - 1))) [] (Z3 ns.length)).2
theorem Tr.dupK_at (ns:List Tr.Nd) (x:Nat) (kn:List Tr.Kn) (j:Nat) (s:Tr.St) (h:j < kn.length):Zh ns x (kn.take (j+1)) s=if kn[j].1=Xi ns x then Xd x 8 (Zh ns x (kn.take j) s) else Zh ns x (kn.take j) s:=by
 unfold Zh
 rw [List.take_succ_eq_append_getElem h,List.foldl_append];rfl
theorem Tr.mkS_at (ns:List Tr.Nd) (ms:List Nat) (i:Nat) (kn:List Tr.Kn) (s:Tr.St) (h:i < ms.length):Zy ns (ms.drop i) kn s=Zy ns (ms.drop (i+1)) (kn++[(Xi ns ms[i],ms[i])]) (Zh ns ms[i] kn s):=by
 rw [List.drop_eq_getElem_cons h];rfl
theorem Tr.makes_lt (ns:List Tr.Nd) (ks:List (List Nat)) (m:Nat) (hks:∀ k (h:k < ks.length),∀ x∈ks[k],x < ns.length):∀ x∈Xs ns ks (X8 ks m),x < ns.length:=by
 have hk:∀ k,∀ x∈X8 ks k,x < ns.length:=by
  intro k x hx
  unfold X8 at hx
  by_cases h:k < ks.length
  ·rw [List.getElem?_eq_getElem h] at hx;exact hks k h x hx
  ·rw [List.getElem?_eq_none (by omega)] at hx;cases hx
 intro x hx
 obtain ⟨y,hy,hxy⟩:=List.mem_flatMap.1 hx
 unfold Kl at hxy
 split at hxy
 ·have:x=y:=by simpa using hxy
  subst this;exact hk m x hy
 ·split at hxy
  ·exact hk y x hxy
  ·cases hxy
theorem rep_set (n i:Nat) (h:i < n):(List.replicate i (-1:Int)++List.replicate (n - i) 0).set i (-1)=List.replicate (i+1) (-1)++List.replicate (n - (i+1)) 0:=by
 obtain ⟨k,rfl⟩:∃ k,n=i+1+k:=⟨n - (i+1),by omega⟩
 rw [show i+1+k - i=k+1 from by omega,show i+1+k - (i+1)=k from by omega,List.replicate_succ,List.set_append_right (h:=by simp),List.replicate_succ']
 simp
theorem K7 (w:World) (n base:Nat) (hb:base≤w.heap.size) (hn:n≤maxLen):(w.alloc (.cells (madeCells #[.int .i64 0] n) 3)).ownsRow base 3 1 (.slice (some ⟨w.heap.size,0,none⟩) n n) n ((List.replicate n (0:Int)).map vi):=by
 refine ⟨by simp,.inr ⟨w.heap.size,n,_,rfl,hb,Xf w _,Nat.le_refl _,hn,by rw [size_madeCells,Nat.mul_one],?_⟩⟩
 rw [List.take_of_length_le (by simp [size_madeCells])]
 apply List.ext_getElem
 ·simp [size_madeCells]
 ·intro i h1 h2
  simp [madeCells,vi,Nat.mod_one]
abbrev mdO (n:Nat):Obj:= .cells (madeCells #[.int .i64 0] n) 3
theorem look_made (ns:List Tr.Nd) (ks:List (List Nat)) (tg tc g4 c4 base cg bg:Nat) (vs:List Value) (w1:World) (hn:ns.length≤5000) (hcb:(cg=w1.heap.size∧bg=w1.heap.size+1)∨(cg=w1.heap.size+1∧bg=w1.heap.size))
  (ht:NodesAt w1 tg ns) (ho:w1.ownsRow base 30 1 (.slice (some ⟨g4,0,none⟩) ks.length c4) ks.length vs) (hr:Rows w1 base g4 g4 vs ks) (hl:ks.length=ns.length) :
  Fx ns ks (w1.heap.size+1+1) tg tc g4 c4 cg bg (((w1.alloc (mdO ns.length)).alloc (mdO ns.length)).alloc (.cells #[.slice (some ⟨tg,0,none⟩) ns.length tc,.slice (some ⟨g4,0,none⟩) ns.length c4,.slice (some ⟨cg,0,none⟩) ns.length ns.length,.slice (some ⟨bg,0,none⟩) ns.length ns.length] 43)).drew ∧
  Dy ns.length cg bg ⟨List.replicate ns.length 0,List.replicate ns.length 0⟩ (((w1.alloc (mdO ns.length)).alloc (mdO ns.length)).alloc (.cells #[.slice (some ⟨tg,0,none⟩) ns.length tc,.slice (some ⟨g4,0,none⟩) ns.length c4,.slice (some ⟨cg,0,none⟩) ns.length ns.length,.slice (some ⟨bg,0,none⟩) ns.length ns.length] 43)).drew ∧
  Below w1.heap.size w1 (((w1.alloc (mdO ns.length)).alloc (mdO ns.length)).alloc (.cells #[.slice (some ⟨tg,0,none⟩) ns.length tc,.slice (some ⟨g4,0,none⟩) ns.length c4,.slice (some ⟨cg,0,none⟩) ns.length ns.length,.slice (some ⟨bg,0,none⟩) ns.length ns.length] 43)).drew:=by
 have hm0:=K7 w1 ns.length 0 (Nat.zero_le _) (by unfold maxLen;omega)
 have hm1:=K7 (w1.alloc (mdO ns.length)) ns.length 0 (Nat.zero_le _) (by unfold maxLen;omega)
 rw [World.size_alloc] at hm1
 have hB:Below w1.heap.size w1 ((((w1.alloc (mdO ns.length)).alloc (mdO ns.length)).alloc (.cells #[.slice (some ⟨tg,0,none⟩) ns.length tc,.slice (some ⟨g4,0,none⟩) ns.length c4,.slice (some ⟨cg,0,none⟩) ns.length ns.length,.slice (some ⟨bg,0,none⟩) ns.length ns.length] 43)).drew):=(((bA _).alloc (by simp) _).alloc (by simp;omega) _).drew
 have hnew:=Xf ((w1.alloc (mdO ns.length)).alloc (mdO ns.length)) (.cells #[.slice (some ⟨tg,0,none⟩) ns.length tc,.slice (some ⟨g4,0,none⟩) ns.length c4,.slice (some ⟨cg,0,none⟩) ns.length ns.length,.slice (some ⟨bg,0,none⟩) ns.length ns.length] 43)
 rw [World.size_alloc,World.size_alloc] at hnew
 have hg4:=(ho.lt g4 rfl).2
 have htg:=ht.1
 have hcell:∀ (j:Nat) (v:Value),(#[.slice (some ⟨tg,0,none⟩) ns.length tc,.slice (some ⟨g4,0,none⟩) ns.length c4,.slice (some ⟨cg,0,none⟩) ns.length ns.length,.slice (some ⟨bg,0,none⟩) ns.length ns.length]:Array Value)[j]?=some v→((((w1.alloc (mdO ns.length)).alloc (mdO ns.length)).alloc (.cells #[.slice (some ⟨tg,0,none⟩) ns.length tc,.slice (some ⟨g4,0,none⟩) ns.length c4,.slice (some ⟨cg,0,none⟩) ns.length ns.length,.slice (some ⟨bg,0,none⟩) ns.length ns.length] 43)).drew).cell? ⟨w1.heap.size+1+1,j,none⟩=some v:=by
  intro j v hv
  show World.cell? (((w1.alloc (mdO ns.length)).alloc (mdO ns.length)).alloc (.cells #[.slice (some ⟨tg,0,none⟩) ns.length tc,.slice (some ⟨g4,0,none⟩) ns.length c4,.slice (some ⟨cg,0,none⟩) ns.length ns.length,.slice (some ⟨bg,0,none⟩) ns.length ns.length] 43)) _=_
  rw [World.cell?,hnew]
  exact hv
 refine ⟨⟨by omega,by omega,by omega,by omega,by omega,by omega,?_,Nat.lt_of_lt_of_le hg4 hB.size,?_,?_,?_,?_,ht.below hB,hl,fun k hk=>?_⟩,⟨by omega,?_,?_⟩,hB⟩
 ·show _ < (((w1.alloc (mdO ns.length)).alloc (mdO ns.length)).alloc (.cells #[.slice (some ⟨tg,0,none⟩) ns.length tc,.slice (some ⟨g4,0,none⟩) ns.length c4,.slice (some ⟨cg,0,none⟩) ns.length ns.length,.slice (some ⟨bg,0,none⟩) ns.length ns.length] 43)).heap.size;simp
 ·exact hcell 0 _ rfl
 ·exact hcell 1 _ rfl
 ·exact hcell 2 _ rfl
 ·exact hcell 3 _ rfl
 ·obtain ⟨g,c,hv,_,_,_,hi,_⟩:=hr.2 k hk
  have hgl:=hi.1
  exact ⟨g,c,(hB.cell (p:=⟨g4,k,none⟩) hg4).trans ((ho.cellAt k (by omega)).trans hv),by omega,by omega,hi.below hB⟩
 ·rcases hcb with ⟨rfl,rfl⟩ | ⟨rfl,rfl⟩
  ·exact ((hm0.alloc _).alloc _).drew
  ·exact (hm1.alloc _).drew
 ·rcases hcb with ⟨rfl,rfl⟩ | ⟨rfl,rfl⟩
  ·exact (hm1.alloc _).drew
  ·exact ((hm0.alloc _).alloc _).drew
theorem make_eq (n:Nat) (hn:n≤5000) (W:World):(Instr.makeSlice 30 (.int .i64 (n:Int)) (.int .i64 (n:Int))).run Tryz.prog W = .ok (.slice (some ⟨W.heap.size,0,none⟩) n n) (W.alloc (.cells (madeCells (Value.cells (.int .i64 0)) (n*1)) 3)):=by
 obtain ⟨iI,hI,hIz,hIs,hIb⟩:=info_parts Tryz.infoInt
 have:=run_make (P:=Tryz.prog) W 30 3 iI (.int .i64 0) Tryz.underlying30 hI hIz .i64 .i64 (n:Int) (n:Int) (by omega) (Int.le_refl _) (by rw [hIb];omega) (by omega)
 rw [hIs,Int.toNat_natCast] at this
 exact this
set_option maxRecDepth 100000 in
set_option maxHeartbeats 1000000 in
theorem look_any (ns:List Tr.Nd) (tg tc:Nat) (w:World) (hn1:1≤ns.length) (hn5:ns.length≤5000) (hgood:Y3 ns=true)
  (hlen:∀ k (h:k < (Xk ns).length),((Xk ns)[k]).length≤5000∧(X6 ns k=14→((Xk ns)[k]).length=2)∧(X6 ns k=16→1≤((Xk ns)[k]).length)∧(X6 ns k=15∨X6 ns k=20→1≤((Xk ns)[k]).length))
  (ht:NodesAt w tg ns) :
  Calls Tryz.prog 15 #[.agg #[.slice (some ⟨tg,0,none⟩) ns.length tc]] w fun e w'=>∃ wb kg kc cg bg,e = .returned (.pointer (some ⟨wb,0,none⟩))∧Fx ns (Xk ns) wb tg tc kg kc cg bg w'∧Dy ns.length cg bg (Zb ns (Xk ns)) w'∧w.heap.size≤cg∧w.heap.size≤bg∧Below w.heap.size w w':=by
 obtain ⟨iK,hKi,hKz,hKs,hKb⟩:=info_parts Tryz.infoKn
 have r1:Below w.heap.size w (w.alloc (.cells #[.slice (some ⟨tg,0,none⟩) ns.length tc] 25)):=bA _
 have hkl:=Zv hgood
 have hlt:=Kq ns
 have hmk:=make_eq ns.length hn5
 have HKC:=X1 (fun w' (hb:Below w.heap.size w w')=>kids_any ns tg tc w' (by omega) (ht.below hb))
 have HLN:=X1 hlen
 have HLT:=X1 hlt
 have HT:=X1 ht
 clear hlen hlt ht
 rw [hgood] at HKC
 generalize hks:Xk ns=ks at *
 go_enter Tryz.func15,Tryz.ntmps15
 go_wp2_with fail
 refine (HKC.out _ r1).mono ?_
 rintro e w1 ⟨g4,c4,vs,rfl,ho4,hrows,hb1⟩
 have hB1:=r1.trans (hb1.mono (by simp))
 have hbox:w1.cell? ⟨w.heap.size,0,none⟩=some (.slice (some ⟨tg,0,none⟩) ns.length tc):=(hb1.cell (p:=⟨w.heap.size,0,none⟩) (by simp)).trans (by simp)
 have hz1:w.heap.size < w1.heap.size:=Nat.lt_of_lt_of_le (by simp) hb1.size
 have HO4:=X1 ho4
 have HRW:=X1 hrows
 clear ho4 hrows hb1
 go_upto_region 2 with fail
 go_cut [5] from 16 to 27 (fun v5 wx=>∃ wb cg bg,v5 = .pointer (some ⟨wb,0,none⟩)∧w1.heap.size≤wb∧w1.heap.size≤cg∧w1.heap.size≤bg∧Fx ns ks wb tg tc g4 c4 cg bg wx∧Dy ns.length cg bg ⟨List.replicate ns.length 0,List.replicate ns.length 0⟩ wx∧Below w1.heap.size w1 wx)
 case first =>
  have HLM1:=X1 (look_made ns ks tg tc g4 c4 _ w1.heap.size (w1.heap.size+1) vs w1 hn5 (.inl ⟨rfl,rfl⟩) (HT.out.below hB1) HO4.out HRW.out hkl)
  have HLM2:=X1 (look_made ns ks tg tc g4 c4 _ (w1.heap.size+1) w1.heap.size vs w1 hn5 (.inr ⟨rfl,rfl⟩) (HT.out.below hB1) HO4.out HRW.out hkl)
  go_region
  all_goals
   go_wp2_with fail
   go_meet
   case rel =>
    first
    | exact ⟨_,_,_,rfl,by omega,by omega,by omega,HLM1.out.1,HLM1.out.2.1,HLM1.out.2.2⟩
    | exact ⟨_,_,_,rfl,by omega,by omega,by omega,HLM2.out.1,HLM2.out.2.1,HLM2.out.2.2⟩
 case rest =>
  obtain ⟨wb,cg,bg,rfl,hwb,hcg,hbg,hFx,hDx,hBx⟩:=hcut
  have HFX:=X1 hFx
  have HDX:=X1 hDx
  have hzc:=hBx.size
  have bx0:=(hBx.cell (p:=⟨w.heap.size,0,none⟩) hz1).trans hbox
  have HBX:=X1 (hB1.trans (hBx.mono (Nat.le_of_lt hz1)))
  have hcgl:=(hDx.c.lt cg rfl).2
  have hbgl:=(hDx.b.lt bg rfl).2
  clear hFx hDx hBx hbox
  go_wp2
  go_loopw [6] (fun t wr=>∃ i:Nat,i≤ns.length∧t = .int .i64 i∧Kp cg bg wc wr∧Dy ns.length cg bg ⟨List.replicate ns.length 0,List.replicate i (-1)++List.replicate (ns.length - i) 0⟩ wr) (fun t _=>ns.length - (intOf t).toNat)
  case atStart=>exact ⟨0,Nat.zero_le _,rfl,Kp.refl _ _ _,by simpa using HDX.out⟩
  case round =>
   obtain ⟨i,hi,rfl,hKr,hDr⟩:=hrel
   have f3:=(HFX.out.kept hKr).f3
   by_cases hlt:i < ns.length
   ·obtain ⟨cb,fb⟩:=hDr.cellB i hlt
    have HDr:=X1 hDr
    clear hDr
    have hset:(List.replicate i (-1:Int)++List.replicate (ns.length - i) 0).set i (-1)=List.replicate (i+1) (-1)++List.replicate (ns.length - (i+1)) 0:=rep_set ns.length i hlt
    have HST:=X1 hset
    clear hset
    go_wp2
    go_roundw
    case rel=>exact ⟨i+1,by omega,by go_num,hKr.setCell _ _ (.inr rfl),by have:=HDr.out.setB i (-1);rwa [HST.out] at this⟩
    case measure=>simp [intOf];omega
   ·have e:i=ns.length:=by omega
    have hD0:Dy ns.length cg bg (Z3 ns.length) wr:=by
     rw [e] at hDr
     simpa [Z3] using hDr
    have hF0:=HFX.out.kept hKr
    have HD0:=X1 hD0
    have HF0:=X1 hF0
    have hzr:=hKr.size
    have bx1:=(hKr.cell (p:=⟨w.heap.size,0,none⟩) (by show w.heap.size < wc.heap.size;omega) (by show w.heap.size≠cg;omega) (by show w.heap.size≠bg;omega)).trans bx0
    have HB0:Hid (Below w.heap.size w wr):=X1 ⟨hKr.os.trans HBX.out.os,hKr.tape.trans HBX.out.tape,hKr.output.trans HBX.out.output,Nat.le_trans HBX.out.size hKr.size,fun b hb=>(hKr.block b (Nat.lt_of_lt_of_le hb HBX.out.size) (by omega) (by omega)).trans (HBX.out.block b hb)⟩
    clear hDr hD0 hF0 bx0
    subst e
    have hwlt:w.heap.size < wr.heap.size:=by omega
    have bx2:=((Zk wr emO).cell (p:=⟨w.heap.size,0,none⟩) hwlt).trans bx1
    have HMK:=X1 (makes_any ns ks tg tc g4 c4 (ns.length - 1) (wr.alloc emO) (by omega) hn5 hkl (fun k h x hx=>by have:=HLT.out k h x hx;omega) (fun k h=>(HLN.out k h).1) (HF0.out.nodes.below (Zk wr emO)) (KidsAt.below ⟨HF0.out.klt,fun k h=>by obtain ⟨g,c,h1,_,_,h4⟩:=HF0.out.kids k h;exact ⟨g,c,h1,h4⟩⟩ (Zk wr emO)))
    have HML:=X1 (Tr.makes_lt ns ks (ns.length - 1) (fun k h x hx=>by have:=HLT.out k h x hx;omega))
    have HLK:=X1 (show Zb ns ks=XK ns ks ns.length (ns.length - 1) (Zy ns (Xs ns ks (X8 ks (ns.length - 1))) [] (Z3 ns.length)).1 (Zy ns (Xs ns ks (X8 ks (ns.length - 1))) [] (Z3 ns.length)).2 from rfl)
    generalize Xs ns ks (X8 ks (ns.length - 1))=ms at *
    go_wp2_with fail
    refine HMK.out.mono ?_
    rintro e w3 ⟨g5,c5,rfl,hg5,hI5,hm5,hb3⟩
    rw [World.size_alloc] at hg5
    have hz3:wr.heap.size+1≤w3.heap.size:=by have:=hb3.size;rwa [World.size_alloc] at this
    have hbr:Below wr.heap.size wr w3:=(Zk wr emO).trans (hb3.mono (by simp))
    have bx3:=(hbr.cell (p:=⟨w.heap.size,0,none⟩) hwlt).trans bx1
    have hrow0:w3.ownsRow wr.heap.size 71 2 (.slice (some ⟨wr.heap.size,0,none⟩) 0 0) 0 []:=by
     have h0:=World.ownsRow_lit (base:=wr.heap.size) (e:=71) (size:=2) wr #[] 0 (Nat.le_refl _) (Nat.zero_le _) rfl
     exact Yo h0 (hb3.block _ (by simp))
    have HR0:=X1 hrow0
    have HF3:=X1 (HF0.out.kept (Kp.of_below (cg:=cg) (bg:=bg) hbr))
    have HD3:=X1 (HD0.out.below hbr)
    have HI5:=X1 hI5
    have HB3:=X1 (HB0.out.trans (hbr.mono HB0.out.size))
    clear hb3 bx1 bx2 hrow0 hI5
    have h5c:g5≠cg:=by omega
    have h5b:g5≠bg:=by omega
    obtain ⟨H,hH⟩:∃ H,H=wr.heap.size:=⟨_,rfl⟩
    rw [← hH] at HR0 hz3 hg5 hzr hwlt
    go_wp2
    go_loopw [7,9] (fun v7 t wy=>∃ (i g7 c7:Nat) (kni:List Tr.Kn) (si:Tr.St),i≤ms.length∧t = .int .i64 i∧v7 = .slice (some ⟨g7,0,none⟩) kni.length c7∧g7≠g5∧g7≠cg∧g7≠bg∧w.heap.size < g7∧kni.length=i∧wy.ownsRow H 71 2 (.slice (some ⟨g7,0,none⟩) kni.length c7) kni.length (Xp kni)∧Kp cg bg wr wy∧Dy ns.length cg bg si wy∧Zy ns ms [] (Z3 ns.length)=Zy ns (ms.drop i) kni si∧wy.cell? ⟨w.heap.size,0,none⟩=some (.slice (some ⟨tg,0,none⟩) ns.length tc)∧IntsAt wy g5 0 ms) (fun _ t _=>ms.length - (intOf t).toNat)
    case atStart=>exact ⟨0,H,0,[],Z3 ns.length,Nat.zero_le _,rfl,by rw [hH];rfl,by omega,by omega,by omega,hwlt,rfl,HR0.out,Kp.of_below hbr,HD3.out,rfl,bx3,HI5.out⟩
    case round =>
     obtain ⟨i,g7,c7,kni,si,hi,rfl,rfl,h75,h7c,h7b,h7w,hkli,ho,hKy,hDy,he,bxy,hIy⟩:=hrel
     have HKLI:=X1 hkli
     have hkle:kni.length≤i:=Nat.le_of_eq hkli
     have HOy:=X1 ho
     have HE:=X1 he
     have HDy:=X1 hDy
     have HIy:=X1 hIy
     have HFy:=X1 (HF0.out.kept hKy)
     clear hkli ho he hDy hIy
     by_cases hlt:i < ms.length
     ·have hlti:(i:Int) < (ms.length:Int):=by omega
      have hx:=HIy.out.2 i hlt
      rw [Nat.zero_add] at hx
      have hxn:=HML.out _ (List.getElem_mem hlt)
      have HS:=X1 (Tr.mkS_at ns ms i kni si hlt)
      have HTX:=X1 (Zg hxn)
      have HDU:=X1 (fun j (hj:j < kni.length)=>Tr.dupK_at ns ms[i] kni j si hj)
      have htx:=(HFy.out.nodes.2 ms[i] hxn).2.2.2.1
      generalize ms[i]=x at *
      have HNT0:=X1 (show ∃ t,ns[x].text=t from ⟨_,rfl⟩)
      obtain ⟨tp,hnt⟩:=HNT0.out
      have HNT:=X1 hnt
      rw [hnt] at htx
      clear hnt HNT0
      go_wp2
      go_loopw [10] (fun t wq=>∃ (j:Nat),j≤kni.length∧t = .int .i64 j∧Kp cg bg wr wq∧Dy ns.length cg bg (Zh ns x (kni.take j) si) wq∧wq.ownsRow H 71 2 (.slice (some ⟨g7,0,none⟩) kni.length c7) kni.length (Xp kni)) (fun t _=>kni.length - (intOf t).toNat)
      case atStart=>exact ⟨0,Nat.zero_le _,rfl,Kp.refl _ _ _,HDy.out,HOy.out⟩
      case round =>
       obtain ⟨j,hj,rfl,hKq,hDq,hoq⟩:=hrel
       obtain ⟨wo,hwo⟩:∃ wo,Kp cg bg wo wr∧wo.cell? ⟨w.heap.size,0,none⟩=some (.slice (some ⟨tg,0,none⟩) ns.length tc)∧wo.cell? ⟨g5,i,none⟩=some (.int .i64 x)∧IntsAt wo g5 0 ms∧Fx ns ks wb tg tc g4 c4 cg bg wo:=⟨_,hKq,bxy,hx,HIy.out,HFy.out⟩
       obtain ⟨hKo,bxo,hxo,hIo,hFo⟩:=hwo
       have hFq:=hFo.kept hKo
       have HFq:=X1 hFq
       have HDq:=X1 hDq
       have HOq:=X1 hoq
       have hwy:w.heap.size < wo.heap.size:=World.block_lt_of_cell? wo ⟨w.heap.size,0,none⟩ bxo
       have f0q:=(hKo.cell (p:=⟨w.heap.size,0,none⟩) hwy (by show w.heap.size≠cg;omega) (by show w.heap.size≠bg;omega)).trans bxo
       have hxq:=(hKo.cell (p:=⟨g5,i,none⟩) hIo.1 h5c h5b).trans hxo
       have HIQ:=X1 (hIo.heap (hKo.block g5 hIo.1 h5c h5b))
       clear hKo bxo hxo hIo hFo
       have htq:=(hFq.nodes.2 x hxn).2.2.2.1
       rw [HNT.out] at htq
       clear hFq hDq
       by_cases hjl:j < kni.length
       ·obtain ⟨e0,e1⟩:=(KM hoq).2 j hjl
        have HDJ:=X1 (HDU.out j hjl)
        have hba:=ba_eq kni[j].1 tp
        generalize kni[j].1=tj at *
        generalize kni[j].2=aj at *
        clear hoq
        cases hqq:(tj.toList == tp.toList)
        ·have HD2:Hid (Zh ns x (kni.take (j+1)) si=Zh ns x (kni.take j) si):=X1 (by rw [HDJ.out,HTX.out,HNT.out,if_neg (fun h=>by rw [hba.2 h] at hqq;cases hqq)])
         go_wp2
         go_quiet (fail)
         go_wp2
         go_roundw
         case rel=>exact ⟨j+1,by omega,by go_num,hKq.below (below_drewN (Below.refl _ _) _),by rw [HD2.out];exact HDq.out.below (below_drewN (Below.refl _ _) _),Yo HOq.out rfl⟩
         case measure=>simp [intOf];omega
        ·have HD2:Hid (Zh ns x (kni.take (j+1)) si=Xd x 8 (Zh ns x (kni.take j) si)):=X1 (by rw [HDJ.out,HTX.out,HNT.out,if_pos (hba.1 hqq)])
         go_wp2
         go_quiet (fail)
         go_wp2_with fail
         refine (QB ns ks wb tg tc g4 c4 cg bg x 8 _ _ hxn (HFq.out.kept (Kp.of_below (below_drewN (Below.refl _ _) _))) (HDq.out.below (below_drewN (Below.refl _ _) _))).mono ?_
         rintro e w4 ⟨rfl,hk4,hd4⟩
         go_wp2
         go_roundw
         case rel=>exact ⟨j+1,by omega,by go_num,(hKq.below (below_drewN (Below.refl _ _) _)).trans hk4,by rw [HD2.out];exact hd4,Qf (w:=wr.drewN _) (Yo HOq.out rfl) hk4 h7c h7b⟩
         case measure=>simp [intOf];omega
       ·have HDF:Hid (Dy ns.length cg bg (Zh ns x kni si) wr):=X1 (by have:=HDq.out;rwa [List.take_of_length_le (by omega)] at this)
        have HKN:=X1 (show ∀ (j:Nat) (u:Value),(Xp [(tp,x)])[j]?=some u→(wr.alloc (knO tp x)).drew.cell? ((⟨wr.heap.size,0,none⟩:Addr).add j)=some u from J2 wr tp x)
        have hzq:=hKq.size
        have hHq:=HOq.out.lt g7 rfl
        clear hoq
        go_wp2
        go_region_law (refine Yv rfl (.tmp 80) (.tmp 95) 68 rfl H 71 iK _ 2 24 Tryz.underlying68 hKi hKz hKs hKb rfl (by decide) (.slice (some ⟨g7,0,none⟩) kni.length c7) kni.length (Xp kni) (by first | (simp [Act.eval];done) | simp [Act.eval,Act.put]) (HOq.out.alloc _).drew ⟨wr.heap.size,0,none⟩ 1 1 (Xp [(tp,x)]) (by first | (simp [Act.eval];done) | simp [Act.eval,Act.put]) rfl HKN.out (Yb _) (by unfold maxLen;omega) (by omega) (by simp;omega) ?_;intro v8 w8 hown8 hgrow8 hnil8 hat8)
        all_goals
         obtain ⟨g8,c8,rfl,hg8⟩:=YT hown8 (fun e=>by simpa using hnil8.1 e) (by simpa [Value.ownBlock] using hat8)
         have hg7l:=HOq.out.lt g7 rfl
         have hK8:Kp cg bg _ w8:=(((hKy.trans hKq).alloc _).drew).grown hgrow8 (fun q e=>by simp [Value.ownBlock] at e;omega)
         have hD8:=((HDF.out.below (Zk wr (knO tp x))).below (Below.refl _ _).drew).grown hgrow8 (by simp [Value.ownBlock];omega) (by simp [Value.ownBlock];omega)
         have hbk:∀ b,b < wr.heap.size→b≠g7→w8.heap[b]?=wr.heap[b]?:=fun b hb hne=>(hgrow8.block b (by show b < (wr.alloc (knO tp x)).heap.size;simp;omega) (by simp [Value.ownBlock];omega)).trans ((Zk wr (knO tp x)).block b hb)
         have bx8:=(World.cell?_of_block (a:=⟨w.heap.size,0,none⟩) (hbk w.heap.size (by omega) (by omega))).trans f0q
         have hI8:=HIQ.out.heap (hbk g5 HIQ.out.1 (by omega))
         have hg8':w.heap.size < g8∧g8≠g5∧g8≠cg∧g8≠bg:=by
          have h5l:=HIQ.out.1
          have hcl:=(HDF.out.c.lt cg rfl).2
          have hbl:=(HDF.out.b.lt bg rfl).2
          rcases hg8 with h | h
          ·subst h;exact ⟨by omega,by omega,by omega,by omega⟩
          ·omega
         clear hgrow8 hnil8 hat8
         go_wp2
         go_roundw
         case rel =>
          refine ⟨i+1,g8,c8,kni++[(tp,x)],Zh ns x kni si,by omega,by go_num,by simp,hg8'.2.1,hg8'.2.2.1,hg8'.2.2.2,hg8'.1,by have:=HKLI.out;simp;omega,?_,hK8,hD8,?_,bx8,hI8⟩
          ·rw [List.length_append,List.length_singleton,Zl];exact hown8
          ·rw [HE.out,HS.out,HTX.out,HNT.out]
         case measure=>simp [intOf];omega
     ·have HFIN:Hid (Zb ns ks=XK ns ks ns.length (ns.length - 1) kni si):=X1 (by rw [HLK.out,HE.out,List.drop_of_length_le (by omega)];rfl)
      have HGG:=X1 (go1_any ns ks wb tg tc g4 c4 cg bg hn5 HLT.out HLN.out ns.length (ns.length - 1) g7 c7 kni si wr (by omega) (by omega) (by omega) HFy.out HDy.out (KM HOy.out) h7c h7b)
      obtain ⟨m,hm⟩:∃ m,ns.length - 1=m:=⟨_,rfl⟩
      have hmi:(ns.length:Int) - 1=(m:Int):=by omega
      rw [hm] at HGG HFIN
      go_wp2_with fail
      refine HGG.out.mono ?_
      rintro e w9 ⟨rfl,hk9,hd9⟩
      go_wp2
      go_ret
      have hK9:=hKy.trans hk9
      refine ⟨wb,g4,c4,cg,bg,rfl,HFy.out.kept hk9,by rw [HFIN.out];exact hd9,by omega,by omega,?_⟩
      exact ⟨hK9.os.trans HB0.out.os,hK9.tape.trans HB0.out.tape,hK9.output.trans HB0.out.output,Nat.le_trans HB0.out.size hK9.size,fun b hb=>(hK9.block b (Nat.lt_of_lt_of_le hb HB0.out.size) (by omega) (by omega)).trans (HB0.out.block b hb)⟩
end Go.Proofs.YthbfdaifgnhkbaaGreatDoor
