/- Ni, Nj, Jd. -/
import Derived.Test.YtimbaebigjjkaaaGreatDoorP38
import Derived.Deep.CutRange
import Derived.Test.YtimbaebigjjkaaaGreatDoorP01
import Derived.Maps.OwnSet
import Derived.Lib.IndexAny
import Derived.Lib.IndexLaws
import Derived.Shelf.Small.Strs
namespace Go.Proofs.YtimbaebigjjkaaaGreatDoor
open Go.RowKit
theorem Kk {P:Program} {ops:Array Oper} {o:Oper} {a:Act} {w:World} {K:Act→World→Prop} {Q:Exit→Act→World→Prop} {E:Prop}
  (hgd:o.guard=none) (s x:Operand) (t:TypeId) (ho:o.op = .call {callee:= .builtin .append,args:=#[s,x],argTypes:=#[t,t]})
  (e:TypeId) (i:TypeInfo) (ht:P.underlying t=some (.slice e)) (hi:P.info? e=some i) (ax:Option Addr) (cx:Nat)
  (hs:a.eval s = .slice none 0 0) (hx:a.eval x = .slice ax 0 cx) (hK:K (a.put o.dst (.slice none 0 0)) w) :
  if Region.wanted o (yielded ops a.tmps)=true then Oper.wp P o a w K Q else E:=by
 have hw:Region.wanted o (yielded ops a.tmps)=true:=by simp [Region.wanted,hgd]
 rw [if_pos hw]
 have hr:(Builtin.append_ #[t,t] o.type #[.slice none 0 0,.slice ax 0 cx]).run P w = .ok (.slice none 0 0) w:=by
  cases ax <;> simp [Builtin.append_,run_underlying ht,sizeOf,typeInfo,hi,Builtin.lenOf,Builtin.firstCells,loadCells,loadCellsFrom]
 unfold Oper.wp execOp
 simp only [ho,resolve,invoke,builtin,Sem.run_bind,Sem.run_pure,Result.andThen_ok,List.map_toArray,List.map_cons,List.map_nil,hs,hx,hr]
 exact hK
theorem made_rows (w:World) (n base:Nat) (hb:base≤w.heap.size) (hn:n≤maxLen):(w.alloc (.cells (madeCells #[.slice none 0 0] n) 31)).ownsRow base 31 1 (.slice (some ⟨w.heap.size,0,none⟩) n n) n (List.replicate n (.slice none 0 0)):=by
 refine ⟨by simp,.inr ⟨w.heap.size,n,_,rfl,hb,Xi w _,Nat.le_refl _,hn,by rw [size_madeCells,Nat.mul_one],?_⟩⟩
 rw [List.take_of_length_le (by simp [size_madeCells])]
 apply List.ext_getElem
 ·simp [size_madeCells]
 ·intro i h1 h2
  simp [madeCells,Nat.mod_one]
theorem make_eqR (n:Nat) (hn:n≤5000) (W:World):(Instr.makeSlice 60 (.int .i64 (n:Int)) (.int .i64 (n:Int))).run Tryz.prog W = .ok (.slice (some ⟨W.heap.size,0,none⟩) n n) (W.alloc (.cells (madeCells (Value.cells (.slice none 0 0)) (n*1)) 31)):=by
 obtain ⟨iI,hI,hIz,hIs,hIb⟩:=info_parts Tryz.infoInts
 have:=run_make (P:=Tryz.prog) W 60 31 iI (.slice none 0 0) Tryz.underlying60 hI hIz .i64 .i64 (n:Int) (n:Int) (by omega) (Int.le_refl _) (by rw [hIb];omega) (by omega)
 rw [hIs,Int.toNat_natCast] at this
 exact this
def Pl1 (B:Nat) (v3:Value) (w:World) (v:Value) (ls:List Nat):Prop:=(v = .slice none 0 0∧ls=[])∨∃ g c,v = .slice (some ⟨g,0,none⟩) ls.length c∧B≤g∧v3.ownBlock≠some g∧ls.length≤c∧IntsAt w g 0 ls
theorem Pl1.same {B:Nat} {v3 v3':Value} {w w':World} {v:Value} {ls:List Nat} (h:Pl1 B v3 w v ls) (hb:∀ g,B≤g→g < w.heap.size→v3.ownBlock≠some g→w'.heap[g]?=w.heap[g]?) (h3:∀ g,g < w.heap.size→v3.ownBlock≠some g→v3'.ownBlock≠some g):Pl1 B v3' w' v ls:=by
 rcases h with h | ⟨g,c,h1,h2,h4,h5,h6⟩
 ·exact .inl h
 ·exact .inr ⟨g,c,h1,h2,h3 g h6.1 h4,h5,h6.heap (hb g h2 h6.1 h4)⟩
structure Kd (w:World) (n i:Nat) (v3:Value) (vs:List Value) (ks:List (List Nat)) (op:List Nat) (wr:World):Prop where
 B:Below w.heap.size w wr
 sz:w.heap.size < wr.heap.size
 kr:wr.ownsRow w.heap.size 31 1 (.slice (some ⟨w.heap.size,0,none⟩) n n) n (vs++List.replicate (n - i) (.slice none 0 0))
 vl:vs.length=i
 kl:ks.length=i
 ol:op.length≤i
 or3:wr.ownsRow (w.heap.size+1) 3 1 v3 op.length (op.map vint)
 rows:∀ j (h:j < ks.length),∃ v,vs[j]?=some v∧Pl1 (w.heap.size+1) v3 wr v ks[j]
theorem Kd.cell {w:World} {n i:Nat} {v3:Value} {vs:List Value} {ks:List (List Nat)} {op:List Nat} {wr:World} (h:Kd w n i v3 vs ks op wr) (hi:i < n):wr.cell? ⟨w.heap.size,i,none⟩=some (.slice none 0 0)∧wr.frozen? ⟨w.heap.size,i,none⟩=false:=by
 refine ⟨?_,h.kr.frozenAt i⟩
 rw [h.kr.cellAt i (by omega),List.getElem?_append_right (by rw [h.vl];exact Nat.le_refl _),h.vl,Nat.sub_self,List.getElem?_replicate,if_pos (by omega)]
theorem row_some {w2:World} {b:Nat} {e:TypeId} {v2:Value} {n:Nat} {xs:List Value} (hown:w2.ownsRow b e 1 v2 n xs) (hnil:¬ v2 = .slice none 0 0):∃ g2 c2,v2 = .slice (some ⟨g2,0,none⟩) n c2:=by
 rcases hown.2 with ⟨h,_⟩ | ⟨g2,c2,_,h,_⟩
 ·exact absurd h hnil
 ·exact ⟨g2,c2,h⟩
theorem set_snoc (vs:List Value) (n i:Nat) (z v:Value) (hl:vs.length=i) (hi:i < n):(vs++List.replicate (n - i) z).set i v=vs++[v]++List.replicate (n - (i+1)) z:=by
 obtain ⟨k,rfl⟩:∃ k,n=i+1+k:=⟨n - (i+1),by omega⟩
 rw [show i+1+k - i=k+1 from by omega,show i+1+k - (i+1)=k from by omega,List.replicate_succ,List.set_append_right (h:=by omega)]
 simp [hl]
structure Km (w:World) (n i m:Nat) (v3 v1:Value) (vs:List Value) (ks:List (List Nat)) (op:List Nat) (wx:World):Prop where
 B:Below w.heap.size w wx
 sz:w.heap.size < wx.heap.size
 kr:wx.ownsRow w.heap.size 31 1 (.slice (some ⟨w.heap.size,0,none⟩) n n) n (vs++[v1]++List.replicate (n - (i+1)) (.slice none 0 0))
 or3:wx.ownsRow (w.heap.size+1) 3 1 v3 op.length (op.map vint)
 rows:∀ j (h:j < ks.length),∃ v,vs[j]?=some v∧Pl1 (w.heap.size+1) v3 wx v ks[j]
 new:Pl1 (w.heap.size+1) v3 wx v1 (op.drop m)
theorem Kd.mid {w:World} {n i m:Nat} {v3 v1:Value} {vs:List Value} {ks:List (List Nat)} {op:List Nat} {wr X w1:World} (h:Kd w n i v3 vs ks op wr) (hi:i < n) (hBX:Below wr.heap.size wr X) (hg:X.grownBy w1 none)
  (h1:(v1 = .slice none 0 0∧op.drop m=[])∨∃ g c,v1 = .slice (some ⟨g,0,none⟩) (op.drop m).length c∧wr.heap.size≤g∧(op.drop m).length≤c∧IntsAt w1 g 0 (op.drop m)):Km w n i m v3 v1 vs ks op (w1.setCell ⟨w.heap.size,i,none⟩ v1):=by
 have a:∀ b,b < wr.heap.size→w1.heap[b]?=wr.heap[b]?:=fun b hb=>(hg.block b (Nat.lt_of_lt_of_le hb hBX.size) (by simp)).trans (hBX.block b hb)
 have d:∀ b,b≠w.heap.size→(w1.setCell ⟨w.heap.size,i,none⟩ v1).heap[b]?=w1.heap[b]?:=fun b hb=>Below.heap_setCell _ _ _ _ (by simpa using hb)
 have hsz:=h.sz
 have hs1:wr.heap.size≤w1.heap.size:=Nat.le_trans hBX.size hg.size
 have hB1:Below w.heap.size w w1:=((h.B.trans (hBX.mono (by omega)))).grown hg (by have:=hBX.size;omega) (fun q e=>by cases e)
 have h3:∀ g,v3.ownBlock=some g→g < wr.heap.size:=fun g e=>(h.or3.lt g e).2
 refine ⟨hB1.setCell (Nat.le_refl _) _,by simp;omega,?_,?_,fun j hj=>?_,?_⟩
 ·have hr:=Y5 h.kr (a _ hsz)
  have hs:=(hr.stored i v1).1
  rw [set_snoc vs n i _ v1 h.vl hi] at hs
  exact hs
 ·exact row_sameV h.or3 fun g hg' hl=>(d g (by omega)).trans (a g hl)
 ·obtain ⟨v,hv,hp⟩:=h.rows j hj
  exact ⟨v,hv,hp.same (fun g hg' hl _=>(d g (by omega)).trans (a g hl)) (fun _ _ e=>e)⟩
 ·rcases h1 with ⟨e1,e2⟩ | ⟨g,c,e1,e2,e3,e4⟩
  ·exact .inl ⟨e1,e2⟩
  ·exact .inr ⟨g,c,e1,by omega,fun e=>by have:=h3 g e;omega,e3,e4.heap (d g (by omega))⟩
theorem Km.alloc {w:World} {n i m:Nat} {v3 v1:Value} {vs:List Value} {ks:List (List Nat)} {op:List Nat} {wx:World} (h:Km w n i m v3 v1 vs ks op wx) (o:Obj):Km w n i m v3 v1 vs ks op (wx.alloc o).drew:=by
 have hb:∀ g,g < wx.heap.size→(wx.alloc o).heap[g]?=wx.heap[g]?:=fun g hg=>((Below.refl wx.heap.size wx).alloc (Nat.le_refl _) o).block g hg
 have hsz:=h.sz
 refine ⟨(h.B.alloc (by omega) o).drew,?_,h.kr.alloc o,h.or3.alloc o,fun j hj=>?_,?_⟩
 ·show w.heap.size < (wx.alloc o).heap.size
  simp;omega
 ·obtain ⟨v,hv,hp⟩:=h.rows j hj
  exact ⟨v,hv,hp.same (fun g _ hl _=>hb g hl) (fun _ _ e=>e)⟩
 ·exact h.new.same (fun g _ hl _=>hb g hl) (fun _ _ e=>e)
theorem Km.next {w:World} {n i m k:Nat} {a7:Option Addr} {c7:Nat} {v1 v3:Value} {vs:List Value} {ks:List (List Nat)} {op:List Nat} {wx w3:World} {o:Obj} (h:Km w n i m (.slice a7 op.length c7) v1 vs ks op wx) (hm:op.length=m+k) (hvl:vs.length=i) (hkl:ks.length=i) (hol:op.length≤i)
  (hown:w3.ownsRow (w.heap.size+1) 3 1 v3 (m+1) ((op.map vint).take m++[.int .i64 (i:Int)])) (hg:(wx.alloc o).grownBy w3 (Value.slice a7 m c7).ownBlock) (hat:v3.ownBlock=(Value.slice a7 m c7).ownBlock∨v3.ownBlock=some (wx.heap.size+1)) :
  Kd w n (i+1) v3 (vs++[v1]) (ks++[op.drop m]) (op.take m++[i]) w3:=by
 have hob:(Value.slice a7 m c7).ownBlock=(Value.slice a7 op.length c7).ownBlock:=by cases a7 <;> rfl
 rw [hob] at hg hat
 have h3:∀ g,(Value.slice a7 op.length c7).ownBlock=some g→w.heap.size+1≤g∧g < wx.heap.size:=fun g e=>h.or3.lt g e
 have hb:∀ b,b < wx.heap.size→(Value.slice a7 op.length c7).ownBlock≠some b→w3.heap[b]?=wx.heap[b]?:=fun b hb hne=>Zq hg b hb (fun e=>hne e.symm)
 have hsz:=h.sz
 have hs3:wx.heap.size < w3.heap.size:=by have:=hg.size;simp at this;omega
 have hne:∀ g,g < wx.heap.size→(Value.slice a7 op.length c7).ownBlock≠some g→v3.ownBlock≠some g:=by
  intro g hgl hq e
  rcases hat with e2 | e2
  ·rw [e2] at e;exact hq e
  ·rw [e2] at e;cases e;omega
 refine ⟨?_,by omega,?_,by simp [hvl],by simp [hkl],by simp;omega,?_,fun j hj=>?_⟩
 ·exact (h.B.alloc (by omega) o).grown hg (by simp;omega) (fun q e=>by have:=(h3 q e).1;omega)
 ·exact Y5 h.kr (hb _ hsz (fun e=>by have:=(h3 _ e).1;omega))
 ·have hl2:(op.take m++[i]).length=m+1:=by rw [List.length_append,List.length_take,Nat.min_eq_left (by omega)];rfl
  have a0:(op.take m++[i]).map vint=(op.map vint).take m++[.int .i64 i]:=by rw [List.map_append,List.map_take];rfl
  rw [hl2,a0];exact hown
 ·by_cases e:j < ks.length
  ·obtain ⟨v,hv,hp⟩:=h.rows j e
   rw [List.getElem_append_left e,List.getElem?_append_left (by omega)]
   exact ⟨v,hv,hp.same (fun g _ hl hq=>hb g hl hq) hne⟩
  ·have e2:j=ks.length:=by simp at hj;omega
   subst e2
   refine ⟨v1,?_,?_⟩
   ·rw [List.getElem?_append_right (by omega),hvl,hkl,Nat.sub_self];rfl
   ·have e3:(ks++[op.drop m])[ks.length]=op.drop m:=by simp
    rw [e3]
    exact h.new.same (fun g _ hl hq=>hb g hl hq) hne
set_option maxRecDepth 100000 in
set_option maxHeartbeats 1000000 in
theorem places_any (ns:List Tr.Nd) (tg tc:Nat) (w:World) (hn:ns.length≤5000) (hgood:XY ns=true) (ht:NodesAt w tg ns) :
  Calls Tryz.prog 50 #[.slice (some ⟨tg,0,none⟩) ns.length tc] w fun e w'=>∃ vs v3 op,e = .returned (.slice (some ⟨w.heap.size,0,none⟩) ns.length ns.length)∧Kd w ns.length ns.length v3 vs (Xf ns) op w':=by
 obtain ⟨iI,hI,E,D,C⟩:=info_parts Tryz.infoInt
 obtain ⟨iR,hR,hRz,hRs,hRb⟩:=info_parts Tryz.infoInts
 have hmk:=make_eqR ns.length hn
 have HT:=X1 ht
 have HGD:=X1 hgood
 have HM0:=X1 (made_rows w ns.length w.heap.size (Nat.le_refl _) (by unfold maxLen;omega))
 clear ht hgood
 go_enter Tryz.func50,Tryz.ntmps50
 go_wp2
 go_loopw [3,13] (fun v3 t wr=>∃ (i:Nat) (vs:List Value) (ks:List (List Nat)) (op:List Nat),i≤ns.length∧t = .int .i64 i∧Kd w ns.length i v3 vs ks op wr ∧
   Xw ns 0 []=(ks++(Xw (ns.drop i) i op).1,(Xw (ns.drop i) i op).2)) (fun _ t _=>ns.length - (intOf t).toNat)
 case atStart=>exact ⟨0,[],[],[],Nat.zero_le _,rfl,⟨bA _,by simp,HM0.o,rfl,rfl,Nat.le_refl _,World.ownsRow_nil _ _ _ _,fun j h=>absurd h (Nat.not_lt_zero _)⟩,rfl⟩
 case round =>
  obtain ⟨i,vs,ks,op,hin,rfl,l,he⟩:=hrel
  have HE:=X1 he
  have HK:=X1 l
  clear he
  by_cases hlt:i < ns.length
  ·obtain ⟨b0,b1,b2,b3,b4⟩:=HT.o.2 i hlt
   have a0:=(l.B.cell (p:=⟨tg,i*5,none⟩) HT.o.1).trans b0
   have a1:=(l.B.cell (p:=⟨tg,i*5+1,none⟩) HT.o.1).trans b1
   have a2:=(l.B.cell (p:=⟨tg,i*5+2,none⟩) HT.o.1).trans b2
   have a3:=(l.B.cell (p:=⟨tg,i*5+3,none⟩) HT.o.1).trans b3
   have a4:=(l.B.cell (p:=⟨tg,i*5+4,none⟩) HT.o.1).trans b4
   have a9:¬ (ns[i].kids < 0∨(op.length:Int) < ns[i].kids):=by
    intro a6
    have:=(QN HE.o (Tr.krun_bad ns i hlt op a6)).2
    have hg:=HGD.o
    unfold XY at hg
    rw [this] at hg
    cases hg
   have HKG:=X1 (JR ns i hlt op)
   obtain ⟨hk0,hk1⟩:=l.cell hlt
   obtain ⟨a7,c7,hv7⟩:=lens_of l.or3
   subst hv7
   have hol:=l.ol
   generalize hkk:ns[i].kids=kd at *
   obtain ⟨k,rfl⟩:∃ k:Nat,kd=k:=⟨kd.toNat,by omega⟩
   obtain ⟨m,hm⟩:∃ m,op.length=m+k:=⟨op.length - k,by omega⟩
   clear b0 b1 b2 b3 b4 a9 hkk l
   have HM:=X1 hm
   have hmi:m+k≤i:=by omega
   have s:=HK.o.or3
   rw [hm] at s ⊢
   have A:=HK.o.sz
   have HK1:=X1 (HK.o.kl)
   have HK2:=X1 (HK.o.vl)
   have hX0:∀ o:Obj,Below wr.heap.size wr (wr.alloc o).drew:=fun o=>(bA o).drew
   have x:=X1 hX0
   clear hX0
   go_upto_region 7 with fail
   go_cut [] from 23 to 34 (fun wx=>∃ v1,Km w ns.length i m (.slice a7 op.length c7) v1 vs ks op wx)
   case first =>
    have hA:∀ o:Obj,(wr.alloc o).cell? ⟨w.heap.size,i,none⟩=some (.slice none 0 0)∧(wr.alloc o).frozen? ⟨w.heap.size,i,none⟩=false:=fun o=>⟨(((Below.refl wr.heap.size wr).alloc (Nat.le_refl _) o).cell (p:=⟨w.heap.size,i,none⟩) A).trans hk0,(((Below.refl wr.heap.size wr).alloc (Nat.le_refl _) o).frozen (p:=⟨w.heap.size,i,none⟩) A).trans hk1⟩
    obtain ⟨hA0,hA1⟩:=hA (.cells #[.int .i64 ns[i].kind,.int .i64 ns[i].op,.int .i64 ns[i].n,.string ns[i].text,.int .i64 (k:Int)] 35)
    have HA:=X1 hA
    clear hA
    rcases s.2 with ⟨hnil,hop0⟩ | ⟨g5,c5,cur,hsome,_⟩
    ·obtain ⟨rfl,hz,rfl⟩:a7=none∧m+k=0∧c7=0:=by simpa using hnil
     obtain rfl:m=0:=by omega
     obtain rfl:k=0:=by omega
     have u:op.drop 0=[]:=by
      cases op with
      | nil=>rfl
      | cons _ _=>simp at hm
     have y:=X1 u
     clear u hnil hop0
     go_region_law (refine Kk rfl (.tmp 28) (.tmp 31) 31 rfl 3 iI Tryz.underlying31 hI none 0 (by first | (simp [Act.eval];done) | simp [Act.eval,Act.put]) (by first | (simp [Act.eval];done) | simp [Act.eval,Act.put]) ?_)
     all_goals
      go_wp2_with fail
      go_meet
      case rel=>exact ⟨_,(Kd.mid (w1:=wr) HK.o hlt (Below.refl _ _) ⟨rfl,rfl,rfl,Nat.le_refl _,fun _ _ _=>rfl⟩ (.inl ⟨rfl,y.o⟩)).alloc _⟩
    ·obtain ⟨rfl,rfl⟩:a7=some ⟨g5,0,none⟩∧c7=c5:=by simpa using hsome
     have a8:=(Z2 s).1
     have hg5:=(s.lt g5 rfl)
     clear hsome
     by_cases hkz:k=0
     ·subst hkz
      have u:op.drop m=[]:=List.drop_eq_nil_of_le (by omega)
      have y:=X1 u
      clear u
      by_cases hcm:c7=m
      ·subst hcm
       go_region_law (refine Kk rfl (.tmp 28) (.tmp 31) 31 rfl 3 iI Tryz.underlying31 hI (some ⟨g5,0,none⟩) 0 (by first | (simp [Act.eval];done) | simp [Act.eval,Act.put]) (by first | (simp [Act.eval];done) | simp [Act.eval,Act.put]) ?_)
       all_goals
        go_wp2_with fail
        go_meet
        case rel=>exact ⟨_,(Kd.mid (w1:=wr) HK.o hlt (Below.refl _ _) ⟨rfl,rfl,rfl,Nat.le_refl _,fun _ _ _=>rfl⟩ (.inl ⟨rfl,y.o⟩)).alloc _⟩
      ·go_region_law (refine Kk rfl (.tmp 28) (.tmp 31) 31 rfl 3 iI Tryz.underlying31 hI (some ⟨g5,m,none⟩) (c7 - m) (by first | (simp [Act.eval];done) | simp [Act.eval,Act.put]) (by first | (simp [Act.eval];done) | simp [Act.eval,Act.put]) ?_)
       all_goals
        go_wp2_with fail
        go_meet
        case rel=>exact ⟨_,(Kd.mid (w1:=wr) HK.o hlt (Below.refl _ _) ⟨rfl,rfl,rfl,Nat.le_refl _,fun _ _ _=>rfl⟩ (.inl ⟨rfl,y.o⟩)).alloc _⟩
     ·have hcm:¬ c7=m:=by omega
      have hmk':(m:Int)≤(m:Int)+(k:Int):=by omega
      have HNW:=X1 (fun o=>news_drop (o:=m) HM.o ((HK.o.or3.alloc o)) (fun _=>rfl))
      have v:Hid ((op.drop m).length=k):=X1 (by simp;omega)
      go_region_law (refine YO rfl (.tmp 28) (.tmp 31) 31 rfl wr.heap.size 3 iI (.int .i64 0) 1 8 Tryz.underlying31 hI E D C rfl (by decide) (.slice none 0 0) 0 [] (by first | (simp [Act.eval];done) | simp [Act.eval,Act.put]) (World.ownsRow_nil _ _ _ _) ⟨g5,m,none⟩ k (c7 - m) ((op.drop m).map vint) (by first | (simp [Act.eval];done) | simp [Act.eval,Act.put]) (by rw [List.length_map,v.o,Nat.mul_one]) (HNW.o _) (vint_one _) (by unfold maxLen;omega) (by omega) ((x.o _).size) ?_;intro v1 w1 b d a5 hat1;rw [Nat.zero_add,List.nil_append] at b;have hc1:w1.cell? ⟨w.heap.size,i,none⟩=some (.slice none 0 0):=(World.cell?_of_block (d.block w.heap.size (Nat.lt_of_lt_of_le A (x.o _).size) (by simp [Value.ownBlock]))).trans hA0;have hf1:w1.frozen? ⟨w.heap.size,i,none⟩=false:=(World.frozen?_of_block (d.block w.heap.size (Nat.lt_of_lt_of_le A (x.o _).size) (by simp [Value.ownBlock]))).trans hA1;obtain ⟨g1,c1,rfl⟩:=row_some b (fun e=>hkz (a5.1 e).2))
      all_goals
       go_wp2_with fail
       go_meet
       case rel =>
        refine ⟨_,Kd.mid HK.o hlt (x.o _) d (.inr ⟨g1,c1,by rw [v.o],(b.lt g1 rfl).1,by rw [v.o];exact (Z2 b).1,?_⟩)⟩
        have q:=b
        rw [← v.o] at q
        exact Qa q
   case rest =>
    obtain ⟨v1,z⟩:=hcut
    have HKM:=X1 z
    have hszc:=z.sz
    have r:=z.or3
    rw [hm] at r
    clear z
    rcases s.2 with ⟨hnil,hop0⟩ | ⟨g5,c5,cur,hsome,_⟩
    ·obtain ⟨rfl,hz,rfl⟩:a7=none∧m+k=0∧c7=0:=by simpa using hnil
     obtain rfl:m=0:=by omega
     obtain rfl:k=0:=by omega
     have hop:op=[]:=List.eq_nil_of_length_eq_zero (by have:=HM.o;omega)
     subst hop
     clear hnil hop0 s r
     go_wp2_with (at_builtin;refine wpList_append_own_at _ rfl _ _ 31 rfl (w.heap.size+1) 3 iI (.int .i64 0) 1 8 Tryz.underlying31 hI E D C rfl (by decide) (.slice none 0 0) 0 [] rfl (World.ownsRow_nil _ _ _ _) ⟨wc.heap.size,0,none⟩ 1 1 [.int .i64 i] rfl rfl (ZV _ _ _) (by simp [Value.oneCell']) (by unfold maxLen;omega) (by omega) (by simp;omega) ?_)
     intro v3 w3 c a g f
     have HN:=X1 (Km.next HKM.o HM.o HK2.o HK1.o (Nat.zero_le _) c a (by simpa using f))
     clear c a g f
     go_wp2
     go_roundw
     case rel=>exact ⟨i+1,_,_,_,by omega,by go_num,HN.o,by rw [HE.o,HKG.o 0 0 rfl rfl];simp⟩
     case measure=>simp [intOf];omega
    ·obtain ⟨rfl,rfl⟩:a7=some ⟨g5,0,none⟩∧c7=c5:=by simpa using hsome
     have a8:=(Z2 s).1
     have HTK:=X1 (row_take r m (by omega))
     have HL:=X1 hol
     have hmc:(m:Int)≤(c7:Int):=by omega
     clear hsome s r
     go_wp2_with (at_builtin;refine wpList_append_own_at _ rfl _ _ 31 rfl (w.heap.size+1) 3 iI (.int .i64 0) 1 8 Tryz.underlying31 hI E D C rfl (by decide) (.slice (some ⟨g5,0,none⟩) m c7) m ((op.map vint).take m) rfl (HTK.o.alloc _) ⟨wc.heap.size,0,none⟩ 1 1 [.int .i64 i] rfl rfl (ZV _ _ _) (by simp [Value.oneCell']) (by unfold maxLen;omega) (by omega) (by simp;omega) ?_)
     intro v3 w3 c a g f
     have HN:=X1 (Km.next HKM.o HM.o HK2.o HK1.o HL.o c a (by simpa using f))
     clear c a g f
     go_wp2
     go_roundw
     case rel=>exact ⟨i+1,_,_,_,by omega,by go_num,HN.o,by rw [HE.o,HKG.o k m rfl HM.o];simp⟩
     case measure=>simp [intOf];omega
  ·have hi:i=ns.length:=by omega
   subst hi
   obtain ⟨e1,_⟩:=QN HE.o (show Xw (ns.drop ns.length) ns.length op=([],some op) by rw [List.drop_of_length_le (Nat.le_refl _)];rfl)
   have E1:=X1 e1
   clear e1
   go_wp2
   go_ret
   exact ⟨vs,_,op,rfl,by rw [E1.o];exact HK.o⟩
def builtBA:List ByteArray:=[[108,101,110],[116,101,120,116],[105,110,116],[114,97,110,103,101],[115,111,114,116,101,100],[117,110,105,113,117,101],[106,111,105,110],[115,112,108,105,116],[107,101,121,115],[114,101,99,111,114,100],[119,105,116,104,111,117,116],[98,101,103,105,110,115],[99,117,116],[102,105,108,101,115],[102,97,105,108]].map fun l=>⟨l.toArray⟩
def GlobB (w:World):Prop:=0 < w.heap.size∧∀ j (h:j < builtBA.length),w.cell? ⟨0,j,none⟩=some (.string builtBA[j])
theorem GlobB.below {w w':World} (h:GlobB w) (hb:Below w.heap.size w w'):GlobB w':=⟨Nat.lt_of_lt_of_le h.1 hb.size,fun j hj=>(hb.cell (p:=⟨0,j,none⟩) h.1).trans (h.2 j hj)⟩
def Qb (j:Nat):Tr.Sp:=((builtBA.take j).map fun x=>(x,(-2:Int))).reverse
theorem builtSc_end:Qb 15=YX:=rfl
theorem builtSc_len (j:Nat):(Qb j).length≤15:=by
 unfold Qb
 rw [List.length_reverse,List.length_map,List.length_take]
 exact Nat.min_le_right _ _
theorem builtSc_at (j:Nat) (h:j < builtBA.length):Qb (j+1)=(builtBA[j],-2) :: Qb j:=by
 unfold Qb
 rw [List.take_succ_eq_append_getElem h,List.map_append,List.reverse_append];rfl
theorem idx_arr (cs:Array Value) (j:Nat) (x:ByteArray) (W:World) (hj:j < 15) (h:cs[j]?=some (.string x)):(Instr.index 121 (.agg cs) (.int .i64 j)).run Tryz.prog W = .ok (.string x) W:=by
 simp [Instr.index,part,asIntOf,run_underlying Tryz.underlying121,h,Result.andThen]
 omega
set_option maxRecDepth 100000 in
set_option maxHeartbeats 1000000 in
theorem QQ (cg bg:Nat) (w:World) (hG:GlobB w) (h1:cg < w.heap.size) (h2:bg < w.heap.size) :
  Calls Tryz.prog 37 #[] w fun e w'=>e = .returned (.pointer (some ⟨w.heap.size+1,0,none⟩))∧Below w.heap.size w w'∧Chain cg bg w' w'.heap.size (some ⟨w.heap.size+1,0,none⟩) [YX]:=by
 have hmm:=@run_makeMap Tryz.prog
 obtain ⟨n0,n1,n2,n3,n4⟩:=sc_new w none
 have b:=X1 (hG.below n3)
 have e0:=b.o.2 0 (by decide)
 have e1:=b.o.2 1 (by decide)
 have e2:=b.o.2 2 (by decide)
 have e3:=b.o.2 3 (by decide)
 have e4:=b.o.2 4 (by decide)
 have e5:=b.o.2 5 (by decide)
 have e6:=b.o.2 6 (by decide)
 have e7:=b.o.2 7 (by decide)
 have e8:=b.o.2 8 (by decide)
 have e9:=b.o.2 9 (by decide)
 have e10:=b.o.2 10 (by decide)
 have e11:=b.o.2 11 (by decide)
 have e12:=b.o.2 12 (by decide)
 have e13:=b.o.2 13 (by decide)
 have e14:=b.o.2 14 (by decide)
 have HN0:=X1 n0
 have HN1:=X1 n1
 have HN2:=X1 n2
 have HN3:=X1 n3
 have HN4:=X1 n4
 clear hG n0 n1 n2 n3 n4
 go_enter Tryz.func37,Tryz.ntmps37
 go_wp2
 generalize hcs:(#[Value.string builtBA[0],Value.string builtBA[1],Value.string builtBA[2],Value.string builtBA[3],Value.string builtBA[4],Value.string builtBA[5],Value.string builtBA[6],Value.string builtBA[7],Value.string builtBA[8],Value.string builtBA[9],Value.string builtBA[10],Value.string builtBA[11],Value.string builtBA[12],Value.string builtBA[13],Value.string builtBA[14]]:Array Value)=cs at *
 have hcz:cs.size=15:=by rw [← hcs];rfl
 have HCS:Hid (∀ j (h:j < builtBA.length),cs[j]?=some (.string builtBA[j])):=X1 (by
  intro j h
  rw [← hcs]
  match j,h with
  | 0,_=>rfl
  | 1,_=>rfl
  | 2,_=>rfl
  | 3,_=>rfl
  | 4,_=>rfl
  | 5,_=>rfl
  | 6,_=>rfl
  | 7,_=>rfl
  | 8,_=>rfl
  | 9,_=>rfl
  | 10,_=>rfl
  | 11,_=>rfl
  | 12,_=>rfl
  | 13,_=>rfl
  | 14,_=>rfl
  | n+15,h=>exact absurd h (by rw [show builtBA.length=15 from rfl];omega))
 clear hcs e0 e1 e2 e3 e4 e5 e6 e7 e8 e9 e10 e11 e12 e13 e14
 go_loopw [8] (fun t wr=>∃ j:Nat,j≤15∧t = .int .i64 j∧Below w.heap.size w wr∧w.heap.size+1 < wr.heap.size∧wr.cell? ⟨w.heap.size+1,0,none⟩=some (.map (some w.heap.size))∧wr.cell? ⟨w.heap.size+1,1,none⟩=some (.pointer none)∧SpAt wr w.heap.size (Qb j)) (fun t _=>15 - (intOf t).toNat)
 case atStart=>exact ⟨0,Nat.zero_le _,rfl,HN3.o,by rw [HN4.o];omega,HN0.o,HN1.o,HN2.o⟩
 case round =>
  obtain ⟨j,hj,rfl,hB,hz,c0,c1,hsp⟩:=hrel
  by_cases hlt:j < 15
  ·have hcj:=HCS.o j hlt
   have HS:=X1 (builtSc_at j hlt)
   have hxs:builtBA[j].size≤1048576:=by
    have:∀ x∈builtBA,x.size≤1048576:=by decide
    exact this _ (List.getElem_mem hlt)
   generalize builtBA[j]=x at *
   have hix:=idx_arr cs j x wr hlt hcj
   have hbl:=builtSc_len j
   obtain ⟨D,a1,hDD⟩:=hsp
   have HO:=X1 a1
   have HDD:=X1 hDD
   have HC1:=X1 c1
   have HY:Hid (keyOf Tryz.prog 9 (.string x)=some (.string x.data.toList)):=X1 (WideMaps.keyOf_string_mk Tryz.underlying9 (by unfold maxLen;omega))
   have HPE:Hid (plainElem (H:=Unit) Tryz.prog 3 (.int .i64 (-2))=some (.lit (.int .i64 (-2)),[])):=X1 (plainElem_int Tryz.underlying3 (by decide))
   clear a1 hDD c1
   go_wp2_with (at_mapUpdate;refine wpList_mapUpdate_own _ rfl _ _ _ 118 rfl 9 3 lawT Tryz.underlying118 _ w.heap.size _ D rfl HO.o (by unfold maxLen;omega) _ _ _ rfl rfl HY.o _ [] HPE.o ?_)
   intro w1 a0 a
   have HSP:Hid (SpAt w1 w.heap.size (Qb (j+1))):=X1 (by rw [HS.o];exact SpAt.put HDD.o HO.o.isMap a0)
   have c0':w1.cell? ⟨w.heap.size+1,0,none⟩=some (.map (some w.heap.size)):=(World.cell?_of_block (a.block (w.heap.size+1) hz (by simp))).trans c0
   have a2:Hid (w1.cell? ⟨w.heap.size+1,1,none⟩=some (.pointer none)):=X1 ((World.cell?_of_block (a.block (w.heap.size+1) hz (by simp))).trans HC1.o)
   have hB1:Below w.heap.size w w1:=hB.grown a (by omega) (fun k e=>by cases e;exact Nat.le_refl _)
   have hz1:=Nat.lt_of_lt_of_le hz a.size
   clear a0 a
   go_wp2
   go_roundw
   case rel=>exact ⟨j+1,by omega,by go_num,hB1,hz1,c0',a2.o,HSP.o⟩
   case measure=>simp [intOf];omega
  ·obtain rfl:j=15:=by omega
   go_wp2
   go_ret
   exact ⟨rfl,hB,⟨w.heap.size+1,w.heap.size,none,rfl,hz,Nat.lt_succ_self _,by omega,by omega,by omega,by omega,c0,c1,by rw [← builtSc_end];exact hsp,rfl⟩⟩
structure Tr.Gr where
 nd:Tr.Nd
 high:Nat
def Yo:List Tr.Gr→Nat→Nat
 | [],h=>h
 | x :: r,h=>Yo r (if h < x.high+1 then x.high+1 else h)
def Z4 (k n:Int):Bool :=
 if k=1∨k=2∨k=3∨k=4∨k=5 then decide (0≤n∧n≤0)
 else if k=6∨k=11∨k=17∨k=18∨k=21∨k=22 then decide (1≤n∧n≤1)
 else if k=7∨k=10∨k=14 then decide (2≤n∧n≤2)
 else if k=13 then decide (3≤n∧n≤3)
 else if k=16 then decide (2≤n∧n≤3)
 else if k=19 then decide (0≤n∧n≤1)
 else if k=8∨k=9∨k=24 then decide (0≤n∧n≤200)
 else if k=23 then decide (1≤n∧n≤200)
 else if k=12∨k=15∨k=20 then decide (1≤n∧n≤9)
 else decide (0≤n∧n≤ -1)
def Xt (a b:Int) (l:List Tr.Gr):Bool:=l.all fun g=>decide (a≤g.nd.kind) && decide (g.nd.kind≤b)
def YW (l:List Tr.Gr):Bool:=decide ((l.map fun g=>g.nd.text).Nodup)
def Yw (l:List Tr.Gr):Nat:=1+((l.drop 1).takeWhile fun g=>g.nd.kind != 18).length
def Ys (k:Int) (l:List Tr.Gr):Bool :=
 if k=9 then Xt 17 17 l && YW l
 else if k=12 then Xt 1 16 (l.take (Yw l)) && Xt 18 18 (l.drop (Yw l)) && YW (l.drop (Yw l))
 else if k=15∨k=20 then Xt 19 19 (l.take (l.length - 1)) && Xt 1 16 (l.drop (l.length - 1))
 else if k=23 then Xt 5 5 l
 else if k=24 then Xt 20 23 l
 else Xt 1 16 l
def YN (x:Tr.Nd) (l:List Tr.Gr):Bool:=X9 x && Z4 x.kind x.kids && Ys x.kind l
def Ze:List Tr.Nd→List Tr.Gr→Option (List Tr.Gr)
 | [],op=>some op
 | x :: r,op=>if x.kids < 0∨(op.length:Int) < x.kids then none else
   if YN x (op.drop (op.length - x.kids.toNat))=true then Ze r (op.take (op.length - x.kids.toNat)++[⟨x,Yo (op.drop (op.length - x.kids.toNat)) 0⟩]) else none
def Qd:Option (List Tr.Gr)→Bool
 | some [g]=>(g.nd.kind == 24) && decide (g.high≤50)
 | _=>false
def Yj (ns:List Tr.Nd):Bool:=decide (ns.length≤5000) && Qd (Ze ns [])
def GrAt (w:World) (g o:Nat) (l:List Tr.Gr):Prop:=g < w.heap.size∧∀ j (h:j < l.length),w.cell? ⟨g,o+j*6,none⟩=some (.int .i64 l[j].nd.kind)∧w.cell? ⟨g,o+j*6+1,none⟩=some (.int .i64 l[j].nd.op)∧w.cell? ⟨g,o+j*6+2,none⟩=some (.int .i64 l[j].nd.n)∧w.cell? ⟨g,o+j*6+3,none⟩=some (.string l[j].nd.text)∧w.cell? ⟨g,o+j*6+4,none⟩=some (.int .i64 l[j].nd.kids)∧w.cell? ⟨g,o+j*6+5,none⟩=some (.int .i64 l[j].high)
theorem GrAt.below {w w':World} {g o:Nat} {l:List Tr.Gr} (h:GrAt w g o l) (hb:Below w.heap.size w w'):GrAt w' g o l:=by
 refine ⟨Nat.lt_of_lt_of_le h.1 hb.size,fun i hi=>?_⟩
 obtain ⟨a,b,c,d,e,f⟩:=h.2 i hi
 exact ⟨(hb.cell (p:=⟨g,o+i*6,none⟩) h.1).trans a,(hb.cell (p:=⟨g,o+i*6+1,none⟩) h.1).trans b,(hb.cell (p:=⟨g,o+i*6+2,none⟩) h.1).trans c,(hb.cell (p:=⟨g,o+i*6+3,none⟩) h.1).trans d,(hb.cell (p:=⟨g,o+i*6+4,none⟩) h.1).trans e,(hb.cell (p:=⟨g,o+i*6+5,none⟩) h.1).trans f⟩
theorem GrAt.drop {w:World} {g o:Nat} {l:List Tr.Gr} (h:GrAt w g o l) (k:Nat):GrAt w g (o+k*6) (l.drop k):=by
 refine ⟨h.1,fun j hj=>?_⟩
 have:=h.2 (k+j) (by simp at hj;omega)
 rw [List.getElem_drop]
 rw [show o+k*6+j*6=o+(k+j)*6 from by omega]
 exact this
theorem GrAt.take {w:World} {g o:Nat} {l:List Tr.Gr} (h:GrAt w g o l) (k:Nat):GrAt w g o (l.take k):=by
 refine ⟨h.1,fun j hj=>?_⟩
 have:=h.2 j (by simp at hj;omega)
 rw [List.getElem_take]
 exact this
def GrV (w:World) (v:Value) (l:List Tr.Gr):Prop:=(∃ p c,v = .slice p 0 c∧l=[])∨∃ g o c,v = .slice (some ⟨g,o,none⟩) l.length c∧l.length≤c∧GrAt w g o l
theorem GrV.below {w w':World} {v:Value} {l:List Tr.Gr} (h:GrV w v l) (hb:Below w.heap.size w w'):GrV w' v l:=by
 rcases h with h | ⟨g,o,c,h1,h3,h2⟩
 ·exact .inl h
 ·exact .inr ⟨g,o,c,h1,h3,h2.below hb⟩
theorem GrAt.dropV {w:World} {g o c p n:Nat} {l:List Tr.Gr} (h:GrAt w g o l) (hp:p≤l.length) (hc:l.length≤c) (hn:n=l.length - p):GrV w (.slice (if c=p then some ⟨g,o,none⟩ else some ⟨g,o+p*6,none⟩) n (c - p)) (l.drop p):=by
 subst hn
 by_cases e:c=p
 ·rw [if_pos e]
  have:l.length - p=0:=by omega
  exact .inl ⟨_,_,by rw [this],List.drop_of_length_le (by omega)⟩
 ·rw [if_neg e]
  exact .inr ⟨g,_,_,by rw [List.length_drop],by rw [List.length_drop];omega,h.drop p⟩
theorem GrAt.dropQ {w:World} {g o c p n:Nat} {l:List Tr.Gr} (h:GrAt w g o l) (hp:p≤l.length) (hc:l.length≤c) (hn:n=l.length - p):∀ q,q=some ⟨g,o+p*6,none⟩∨c=p→GrV w (.slice q n (c - p)) (l.drop p):=by
 intro q hq
 subst hn
 by_cases e:c=p
 ·have:l.length - p=0:=by omega
  exact .inl ⟨_,_,by rw [this],List.drop_of_length_le (by omega)⟩
 ·obtain rfl:=hq.resolve_right e
  exact .inr ⟨g,_,_,by rw [List.length_drop],by rw [List.length_drop];omega,h.drop p⟩
theorem GrAt.takeV {w:World} {g o c p:Nat} {l:List Tr.Gr} (h:GrAt w g o l) (hp:p≤l.length) (hc:l.length≤c):GrV w (.slice (some ⟨g,o,none⟩) p c) (l.take p) :=
 .inr ⟨g,o,c,by rw [List.length_take,Nat.min_eq_left hp],by rw [List.length_take,Nat.min_eq_left hp];omega,h.take p⟩
end Go.Proofs.YtimbaebigjjkaaaGreatDoor
