/- Cf, Co, Cg. -/
import Derived.Test.YtbckhbeebngjfaaGreatDoorT29
namespace Go.Proofs.YtbckhbeebngjfaaGreatDoor
open Go.RowKit
theorem Tryz.infoSeen:(Tryz.prog.info? 123).map (fun i=>(i.zero,i.size,i.bytes))=some (some (.agg #[.string ⟨#[]⟩,.int .i64 0]),2,24):=by kernel_rfl
theorem SeenC.snoc [Inhabited Bs] {xs:List Value} {k:Nat} (h:SeenC xs k) (hl:xs.length=k*2) (s:Short) (z:Int):SeenC (xs++[.string s,.int .i64 z]) (k+1):=fun i hi=>by
 by_cases hk:i < k
 ·obtain ⟨s',z',h1,h2⟩:=h i hk
  exact ⟨s',z',by rw [List.getElem?_append_left (by omega)];exact h1,by rw [List.getElem?_append_left (by omega)];exact h2⟩
 ·obtain rfl:i=k:=by omega
  exact ⟨s,z,by rw [List.getElem?_append_right (by omega),hl];simp,by rw [List.getElem?_append_right (by omega),hl,show i*2+1 - i*2=1 from by omega];rfl⟩
theorem SeenC.take [Inhabited Bs] {xs:List Value} {k m:Nat} (h:SeenC xs k) (hm:m≤k):SeenC (xs.take (m*2)) m:=fun i hi=>by
 obtain ⟨s',z',h1,h2⟩:=h i (by omega)
 exact ⟨s',z',by rw [List.getElem?_take_of_lt (by omega)];exact h1,by rw [List.getElem?_take_of_lt (by omega)];exact h2⟩
theorem row_prefix [Inhabited Bs] {w:World} {B g c k m:Nat} {e:TypeId} {size:Nat} {xs:List Value} (h:w.ownsRow B e size (.slice (some ⟨g,0,none⟩) k c) k xs) (hm:m≤k):w.ownsRow B e size (.slice (some ⟨g,0,none⟩) m c) m (xs.take (m * size)):=by
 have hms:m * size≤k * size:=Nat.mul_le_mul_right _ hm
 refine ⟨by rw [List.length_take,h.1];omega,?_⟩
 rcases h.2 with ⟨h1,_⟩ | ⟨g',cap',cur,hv,h2,h3,h4,h5,h6,h7⟩
 ·cases h1
 ·cases hv
  exact .inr ⟨g,c,cur,rfl,h2,h3,by omega,h5,h6,by rw [← h7,List.take_take,Nat.min_eq_left hms]⟩
theorem row_cap [Inhabited Bs] {w:World} {B g c k:Nat} {e:TypeId} {size:Nat} {xs:List Value} (h:w.ownsRow B e size (.slice (some ⟨g,0,none⟩) k c) k xs):k≤c∧c≤maxLen:=by
 rcases h.2 with ⟨h1,_⟩ | ⟨g',cap',cur,hv,h2,h3,h4,h5,_⟩
 ·cases h1
 ·cases hv
  exact ⟨h4,h5⟩
variable (gb rb:Nat) (vb:Value) (n:Nat)
def EAt [Inhabited Bs] (d kd:Nat):Prop:=∀ (q k:Nat) (kind:Int) (w:World),Gn gb rb vb n q k w→q+kd≤700000000→k+d≤900→Calls Tryz.prog 83 #[.pointer (some ⟨gb,0,none⟩),.int .i64 kind,.int .i64 (d:Int)] w fun e w'=>GMk gb rb vb n q kd k w e w'
set_option maxRecDepth 100000 in
set_option maxHeartbeats 4000000 in
theorem insideG_any [Inhabited Bs] (d kd:Nat) (HE:EAt gb rb vb n d kd) (q k:Nat) (s:Short) (kind want:Int) (w:World) (h:Gn gb rb vb n q k w) (hq:q+kd≤700000000) (hk:k+1+d≤900):Calls Tryz.prog 92 #[.pointer (some ⟨gb,0,none⟩),.string s,.int .i64 kind,.int .i64 want,.int .i64 (d:Int)] w fun e w'=>GMk gb rb vb n q kd k w e w':=by
 obtain ⟨iN,hN,hNz,hNs,hNb⟩:=info_parts Tryz.infoSeen
 obtain ⟨v,xs,n1,n2,n3⟩:=h.nm
 obtain ⟨vp,vc,rfl⟩:=row_formP n2
 have hlx:=n2.1
 have hlt:=h.lt
 have hup:=h.up
 have bx:=(Below.refl w.heap.size w).alloc (Nat.le_refl _) (.cells #[.string s,.int .i64 kind] 123)
 have HGa:=hide (h.below bx)
 have n1a:=(bx.cell (p:=⟨gb,1,none⟩) hlt).trans n1
 have HRa:=hide (n2.alloc (.cells #[.string s,.int .i64 kind] 123))
 have HS:=hide (n3.snoc hlx s kind)
 have HTa:Hid (Ty w (w.alloc (.cells #[.string s,.int .i64 kind] 123))):=hide (.of bx)
 have f1:=h.fr 1
 have HE':=hide HE
 clear h n2 n3 bx HE
 go_enter Tryz.func92,Tryz.ntmps92
 go_wp2_with (at_builtin;refine wpList_append_own_at _ rfl _ _ 100 rfl (rb+1) 123 iN _ 2 24 Tryz.underlying100 hN hNz hNs hNb rfl (by decide) _ k xs rfl HRa.out ⟨w.heap.size,0,none⟩ 1 1 [.string s,.int .i64 kind] rfl rfl (cells_litC _ [_,_] _ _ rfl) (by simp [Value.oneCell']) (by unfold maxLen;omega) (by omega) (by simp;omega) ?_)
 intro v5 w5 r1 r2 r3 r4
 have q5:=(World.cell?_of_block (a:=⟨gb,1,none⟩) (r2.block gb HGa.out.lt (fun e=>by have h1:=row_tyAt HRa.out e.symm;rw [HGa.out.ty] at h1;cases h1))).trans n1a
 have q6:=(World.frozen?_of_block (a:=⟨gb,1,none⟩) (r2.block gb HGa.out.lt (fun e=>by have h1:=row_tyAt HRa.out e.symm;rw [HGa.out.ty] at h1;cases h1))).trans (HGa.out.fr 1)
 obtain ⟨g5,c5,hv5⟩:∃ g c,v5 = .slice (some ⟨g,0,none⟩) (k+1) c:=by
  rcases r1.2 with ⟨_,h0⟩ | ⟨g,c,_,h2,_⟩
  ·omega
  ·exact ⟨g,c,h2⟩
 subst hv5
 have HG5:=hide (HGa.out.push n1a r2 r1 HS.out (by omega))
 have HT5:Hid (Ty w (w5.setCell ⟨gb,1,none⟩ (.slice (some ⟨g5,0,none⟩) (k+1) c5))):=hide ((HTa.out.trans (.grown r2 (fun b hb=>by rw [row_tyAt HRa.out hb];exact .inr (.inr rfl)) (fun b hb=>by rw [row_tyAt HRa.out hb];decide) (fun b hb=>Nat.le_trans HGa.out.lo (Nat.le_of_succ_le (HRa.out.lt b hb).1)))).trans (.set (by rw [tyAt_block (r2.block gb HGa.out.lt (fun e=>by have h1:=row_tyAt HRa.out e.symm;rw [HGa.out.ty] at h1;cases h1))];exact HGa.out.mine) (by decide)))
 clear r1 r2 r3 r4
 go_wp2_with fail
 refine (HE'.out _ _ _ _ HG5.out (by omega) (by omega)).mono ?_
 rintro e w6 ⟨v6,l6,rfl,nr6,p6,m6,hg6,ht6⟩
 obtain ⟨gq,cq,hvq⟩:=nr6.form p6
 subst hvq
 obtain ⟨v7,xs7,n17,n27,n37⟩:=hg6.nm
 obtain ⟨g7,c7,hv7⟩:∃ g c,v7 = .slice (some ⟨g,0,none⟩) (k+1) c:=by
  rcases n27.2 with ⟨_,h0⟩ | ⟨g,c,_,h2,_⟩
  ·omega
  ·exact ⟨g,c,h2⟩
 subst hv7
 have hcap:=row_cap n27
 have hkc:k≤c7:=by omega
 have hcm:c7≤9223372036854775807:=by have:=hcap.2;unfold maxLen at this;omega
 have f17:=hg6.fr 1
 have HG7:=hide (hg6.names (row_prefix n27 (m:=k) (by omega)) (n37.take (by omega)) (by omega))
 have HT7:Hid (Ty w (w6.setCell ⟨gb,1,none⟩ (.slice (some ⟨g7,0,none⟩) k c7))):=hide ((HT5.out.trans ht6).trans (.set hg6.mine (by decide)))
 have HN7:Hid (NR (w6.setCell ⟨gb,1,none⟩ (.slice (some ⟨g7,0,none⟩) k c7)) _ _):=hide (nr6.ty (.set hg6.mine (by decide)))
 clear hg6 ht6 nr6 n27 n37 hcap
 go_wp2
 go_ret
 exact ⟨_,_,rfl,HN7.out,p6,m6,HG7.out,HT7.out⟩
def PW (B:Nat) (w:World) (v:Value) (ls:List (List Tr.Nd)):Prop:=∃ vs:List Value,w.ownsRow B 48 1 v ls.length vs∧∀ i (h:i < ls.length),∃ u,vs[i]?=some u∧NR w u ls[i]∧0 < ls[i].length
theorem PW.pr [Inhabited Bs] {B:Nat} {w:World} {v:Value} {ls:List (List Tr.Nd)} (h:PW B w v ls):PR w v ls:=by
 obtain ⟨vs,h1,h2⟩:=h
 exact ⟨vs,rowLeC h1 (Nat.zero_le _),h2⟩
theorem PW.ty [Inhabited Bs] {B:Nat} {w w':World} {v:Value} {ls:List (List Tr.Nd)} (h:PW B w v ls) (hb:Ty w w'):PW B w' v ls:=by
 obtain ⟨vs,h1,h2⟩:=h
 exact ⟨vs,row_ty h1 hb mine_nodes,fun i hi=>by obtain ⟨u,a,b,c⟩:=h2 i hi;exact ⟨u,a,b.ty hb,c⟩⟩
theorem PW.tf [Inhabited Bs] {B:Nat} {w w':World} {v:Value} {ls:List (List Tr.Nd)} (h:PW B w v ls) (hb:Tf w w'):PW B w' v ls:=by
 obtain ⟨vs,h1,h2⟩:=h
 exact ⟨vs,row_ty h1 hb mineF_nodes,fun i hi=>by obtain ⟨u,a,b,c⟩:=h2 i hi;exact ⟨u,a,b.tf hb,c⟩⟩
theorem PW.below [Inhabited Bs] {B:Nat} {w w':World} {v:Value} {ls:List (List Tr.Nd)} (h:PW B w v ls) (hb:Below w.heap.size w w'):PW B w' v ls:=h.ty (.of hb)
theorem PW.new [Inhabited Bs] {B:Nat} (w:World) (hB:B≤w.heap.size):PW B (w.alloc (.cells #[] 48)) (.slice (some ⟨w.heap.size,0,none⟩) 0 0) [] :=
 ⟨[],World.ownsRow_lit (base:=B) (e:=48) (size:=1) w #[] 0 hB (Nat.zero_le _) rfl,fun _ hi=>absurd hi (Nat.not_lt_zero _)⟩
theorem PW.one [Inhabited Bs] {B:Nat} {w:World} {v1:Value} {l1:List Tr.Nd} (h1:NR w v1 l1) (k1:0 < l1.length) (hB:B≤w.heap.size):PW B (w.alloc (.cells #[v1] 48)) (.slice (some ⟨w.heap.size,0,none⟩) 1 1) [l1] :=
 ⟨[v1],World.ownsRow_lit (base:=B) (e:=48) (size:=1) w #[v1] 1 hB (by unfold maxLen;omega) rfl,fun i hi=>by
  obtain rfl:i=0:=by simpa using hi
  exact ⟨_,rfl,h1.below (bA _),k1⟩⟩
structure Pf (B:Nat) (w w':World):Prop where
 os:w'.os=w.os
 tape:w'.tape=w.tape
 output:w'.output=w.output
 size:w.heap.size≤w'.heap.size
 block:∀ b,b < w.heap.size→(b < B∨tyAt w b≠some 48)→w'.heap[b]?=w.heap[b]?
theorem Pf.row [Inhabited Bs] {B base size:Nat} {w w':World} {e:TypeId} {v:Value} {m:Nat} {xs:List Value} (h:Pf B w w') (hr:w.ownsRow base e size v m xs) (he:e≠48):w'.ownsRow base e size v m xs :=
 row_tyM hr (fun q hq ht=>h.block q hq (.inr (by rw [ht];exact fun e'=>he (Option.some.inj e'))))
theorem Pf.nr [Inhabited Bs] {B:Nat} {w w':World} {v:Value} {l:List Tr.Nd} (h:Pf B w w') (hr:NR w v l):NR w' v l:=⟨h.row hr.1 (by decide),hr.2⟩
theorem Pf.tyM [Inhabited Bs] {B:Nat} {M:Option TypeId→Prop} {w W W':World} (h:Pf B W W') (ht:TyM M w W) (hB:w.heap.size≤B):TyM M w W' :=
 ⟨h.os.trans ht.os,h.tape.trans ht.tape,h.output.trans ht.output,Nat.le_trans ht.size h.size,fun q h1 h2=>(h.block q (Nat.lt_of_lt_of_le h1 ht.size) (.inl (Nat.lt_of_lt_of_le h1 hB))).trans (ht.block q h1 h2),fun hn q h1 h2=>by
  obtain ⟨x1,x2⟩:=ht.two hn q h1 h2
  have e:=h.block q (Nat.lt_of_lt_of_le h1 ht.size) (.inl (Nat.lt_of_lt_of_le h1 hB))
  exact ⟨(tyAt_block e).trans x1,(World.cell?_of_block (a:=⟨q,2,none⟩) e).trans x2⟩,fun q h1 h2=>(h.block q (Nat.lt_of_lt_of_le h1 ht.size) (.inl (Nat.lt_of_lt_of_le h1 hB))).trans (ht.old q h1 h2)⟩
theorem Pf.gn [Inhabited Bs] {B gb rb n q k:Nat} {vb:Value} {w w':World} (h:Pf B w w') (hg:Gn gb rb vb n q k w) (hB:rb < B):Gn gb rb vb n q k w':=by
 have kt:∀ t,t≠48→∀ q,q < w.heap.size→tyAt w q=some t→w'.heap[q]?=w.heap[q]?:=fun t ht q hq hty=>h.block q hq (.inr (by rw [hty];exact fun e=>ht (Option.some.inj e)))
 have eb:=kt _ (by decide) gb hg.lt hg.ty
 have cb:∀ j,w'.cell? ⟨gb,j,none⟩=w.cell? ⟨gb,j,none⟩:=fun j=>World.cell?_of_block (a:=⟨gb,j,none⟩) eb
 have hlt:=hg.lt
 have hup:=hg.up
 obtain ⟨p,hp,hr⟩:=hg.R
 obtain ⟨v,xs,n1,n2,n3⟩:=hg.nm
 obtain ⟨vf,m,ys,f1,f2,f3,f4⟩:=hg.fn
 obtain ⟨c,hc,h5⟩:=hg.ct
 obtain ⟨z,hz,hz1,h6⟩:=hg.sz
 exact ⟨⟨p,hp,hr.upto (fun b hb=>h.block b (by omega) (.inl (by omega)))⟩,hup,(tyAt_block eb).trans hg.ty,(cb 0).trans hg.c0,⟨v,xs,(cb 1).trans n1,row_tyM n2 (kt _ (by decide)),n3⟩,⟨vf,m,ys,(cb 2).trans f1,row_tyM f2 (kt _ (by decide)),f3,f4.keep (kt _ (by decide))⟩,⟨c,hc,(cb 3).trans h5⟩,⟨z,hz,hz1,(cb 4).trans h6⟩,fun j=>(World.frozen?_of_block (a:=⟨gb,j,none⟩) eb).trans (hg.fr j),hg.km⟩
theorem pushed [Inhabited Bs] {B:Nat} {W W':World} {O:Obj} {v v' u:Value} {l:List Tr.Nd} {ls:List (List Tr.Nd)} {vs:List Value} (h1:W.ownsRow B 48 1 v ls.length vs) (h2:∀ i (h:i < ls.length),∃ u,vs[i]?=some u∧NR W u ls[i]∧0 < ls[i].length) (hu:NR W u l) (hl:0 < l.length) (hx:W'.ownsRow B 48 1 v' (ls.length+1) (vs++[u])) (hg:(W.alloc O).grownBy W' v.ownBlock):PW B W' v' (ls++[l])∧Pf B W W':=by
 have hb:=(Below.refl W.heap.size W).alloc (Nat.le_refl _) O
 have hpf:Pf B W W':=⟨hg.os.trans hb.os,hg.tape.trans hb.tape,hg.output.trans hb.output,Nat.le_trans hb.size hg.size,fun b hq hc=>by
  refine (hg.block b (Nat.lt_of_lt_of_le hq hb.size) (fun e=>?_)).trans (hb.block b hq)
  have h3:=h1.lt b e.symm
  have h4:=row_tyAt h1 e.symm
  rcases hc with hc | hc
  ·omega
  ·exact hc h4⟩
 have hvl:vs.length=ls.length:=by have:=h1.1;omega
 refine ⟨⟨vs++[u],by rw [List.length_append];exact hx,fun i hi=>?_⟩,hpf⟩
 by_cases hk:i < ls.length
 ·obtain ⟨u',a,b,c⟩:=h2 i hk
  rw [List.getElem_append_left hk]
  exact ⟨u',by rw [List.getElem?_append_left (by omega)];exact a,hpf.nr b,c⟩
 ·have hi':i=ls.length:=by simp only [List.length_append,List.length_cons,List.length_nil] at hi;omega
  subst hi'
  have e:(ls++[l])[ls.length]'hi=l:=by simp
  rw [e]
  exact ⟨u,by rw [List.getElem?_append_right (by omega),hvl];simp,hpf.nr hu,hl⟩
variable (gb rb:Nat) (vb:Value) (n:Nat)
def CallAt [Inhabited Bs] (d kd:Nat):Prop:=∀ (q k:Nat) (kind:Int) (w:World),Gn gb rb vb n q k w→q+5 * kd+40≤700000000→k+1+d≤900→Calls Tryz.prog 93 #[.pointer (some ⟨gb,0,none⟩),.int .i64 kind,.int .i64 ((d:Int)+1)] w fun e w'=>GOk gb rb vb n q (4 * kd+30) k w e w'
theorem pick_keep [Inhabited Bs] {q k:Nat} {w:World} (h:Gn gb rb vb n q k w) (hq:q≤900000000) (m:Nat) (h2:m≤1000000):Calls Tryz.prog 8 #[.pointer (some ⟨rb,0,none⟩),.int .i64 m] w fun e w'=>∃ z:Nat,(0 < m→z < m)∧e = .returned (.int .i64 (z:Int))∧Gn gb rb vb n (q+1) k w'∧Ty w w'∧z≤m∧∀ b,b < w.heap.size→b≠rb→w'.heap[b]?=w.heap[b]?:=by
 obtain ⟨p,hp,hr⟩:=h.R
 rcases Nat.eq_zero_or_pos m with rfl | hm
 ·refine (pick_none rb n p vb w hr (by omega)).mono ?_
  rintro e w1 ⟨rfl,hr1,hd⟩
  exact ⟨0,fun h=>h,rfl,h.keep (by omega) hd.block ⟨p+1,by omega,hr1⟩,.dr hd hr.own,Nat.le_refl _,hd.block⟩
 ·refine (pick_any rb n p vb m w hr (by omega) (by omega) (by omega)).mono ?_
  rintro e w1 ⟨z,hz,rfl,hr1,hd⟩
  exact ⟨z,fun _=>by omega,rfl,h.keep (by omega) hd.block ⟨p+1,by omega,hr1⟩,.dr hd hr.own,by omega,hd.block⟩
theorem step_call2E [Inhabited Bs] {P:Program} {ops:Array Oper} {o:Oper} {a:Act} {w:World} {K:Act→World→Prop} {Q:Exit→Act→World→Prop} {E:Prop}
  (hg:o.guard=none) (f:FuncId) (x1 x2:Operand) (t1 t2:TypeId) (hop:o.op=Op.call {callee:=Callee.value (Operand.func f),args:=#[x1,x2],argTypes:=#[t1,t2]})
  (v1 v2:Value) (hx1:a.eval x1=v1) (hx2:a.eval x2=v2) (fn:Func) (hfn:P.funcs[f]?=some fn) (hne:(fn.name == "runtime.NumGoroutine")=false) (hbd:fn.body.isNone=false) (R:Value→World→Prop) (hC:Calls P f #[v1,v2] w fun e w'=>∃ r,e = .returned r∧R r w') (hK:∀ r w',R r w'→K (a.put o.dst r) w') :
  if Region.wanted o (yielded ops a.tmps)=true then Oper.wp P o a w K Q else E:=by
 have hw:Region.wanted o (yielded ops a.tmps)=true:=by simp [Region.wanted,hg]
 rw [if_pos hw]
 have h1:(callFunc f #[v1,v2]).run P w = .ok (.enter f #[v1,v2]) w:=by
  simp only [callFunc,Sem.run_bind,run_program,Result.andThen_ok,hfn,hne,hbd];rfl
 unfold Oper.wp
 simp only [execOp,hop,resolve,invoke,List.map_toArray,List.map_cons,List.map_nil,hx1,hx2,Deferred.ofValue,Sem.run_bind]
 rw [show a.eval (Operand.func f)=Value.func (Fn.func f) #[] #[] from rfl]
 simp only [Sem.run_pure,Result.andThen_ok]
 simp [h1]
 refine hC.mono fun e w2 h=>?_
 obtain ⟨r,rfl,h2⟩:=h
 exact hK _ _ h2
theorem step_call3E [Inhabited Bs] {P:Program} {ops:Array Oper} {o:Oper} {a:Act} {w:World} {K:Act→World→Prop} {Q:Exit→Act→World→Prop} {E:Prop}
  (hg:o.guard=none) (f:FuncId) (x1 x2 x3:Operand) (t1 t2 t3:TypeId) (hop:o.op=Op.call {callee:=Callee.value (Operand.func f),args:=#[x1,x2,x3],argTypes:=#[t1,t2,t3]})
  (v1 v2 v3:Value) (hx1:a.eval x1=v1) (hx2:a.eval x2=v2) (hx3:a.eval x3=v3) (fn:Func) (hfn:P.funcs[f]?=some fn) (hne:(fn.name == "runtime.NumGoroutine")=false) (hbd:fn.body.isNone=false) (R:Value→World→Prop) (hC:Calls P f #[v1,v2,v3] w fun e w'=>∃ r,e = .returned r∧R r w') (hK:∀ r w',R r w'→K (a.put o.dst r) w') :
  if Region.wanted o (yielded ops a.tmps)=true then Oper.wp P o a w K Q else E:=by
 have hw:Region.wanted o (yielded ops a.tmps)=true:=by simp [Region.wanted,hg]
 rw [if_pos hw]
 have h1:(callFunc f #[v1,v2,v3]).run P w = .ok (.enter f #[v1,v2,v3]) w:=by
  simp only [callFunc,Sem.run_bind,run_program,Result.andThen_ok,hfn,hne,hbd];rfl
 unfold Oper.wp
 simp only [execOp,hop,resolve,invoke,List.map_toArray,List.map_cons,List.map_nil,hx1,hx2,hx3,Deferred.ofValue,Sem.run_bind]
 rw [show a.eval (Operand.func f)=Value.func (Fn.func f) #[] #[] from rfl]
 simp only [Sem.run_pure,Result.andThen_ok]
 simp [h1]
 refine hC.mono fun e w2 h=>?_
 obtain ⟨r,rfl,h2⟩:=h
 exact hK _ _ h2
theorem step_call5E [Inhabited Bs] {P:Program} {ops:Array Oper} {o:Oper} {a:Act} {w:World} {K:Act→World→Prop} {Q:Exit→Act→World→Prop} {E:Prop}
  (hg:o.guard=none) (f:FuncId) (x1 x2 x3 x4 x5:Operand) (t1 t2 t3 t4 t5:TypeId) (hop:o.op=Op.call {callee:=Callee.value (Operand.func f),args:=#[x1,x2,x3,x4,x5],argTypes:=#[t1,t2,t3,t4,t5]})
  (v1 v2 v3 v4 v5:Value) (hx1:a.eval x1=v1) (hx2:a.eval x2=v2) (hx3:a.eval x3=v3) (hx4:a.eval x4=v4) (hx5:a.eval x5=v5) (fn:Func) (hfn:P.funcs[f]?=some fn) (hne:(fn.name == "runtime.NumGoroutine")=false) (hbd:fn.body.isNone=false) (R:Value→World→Prop) (hC:Calls P f #[v1,v2,v3,v4,v5] w fun e w'=>∃ r,e = .returned r∧R r w') (hK:∀ r w',R r w'→K (a.put o.dst r) w') :
  if Region.wanted o (yielded ops a.tmps)=true then Oper.wp P o a w K Q else E:=by
 have hw:Region.wanted o (yielded ops a.tmps)=true:=by simp [Region.wanted,hg]
 rw [if_pos hw]
 have h1:(callFunc f #[v1,v2,v3,v4,v5]).run P w = .ok (.enter f #[v1,v2,v3,v4,v5]) w:=by
  simp only [callFunc,Sem.run_bind,run_program,Result.andThen_ok,hfn,hne,hbd];rfl
 unfold Oper.wp
 simp only [execOp,hop,resolve,invoke,List.map_toArray,List.map_cons,List.map_nil,hx1,hx2,hx3,hx4,hx5,Deferred.ofValue,Sem.run_bind]
 rw [show a.eval (Operand.func f)=Value.func (Fn.func f) #[] #[] from rfl]
 simp only [Sem.run_pure,Result.andThen_ok]
 simp [h1]
 refine hC.mono fun e w2 h=>?_
 obtain ⟨r,rfl,h2⟩:=h
 exact hK _ _ h2
theorem mk_ex [Inhabited Bs] {P:Program} {f:FuncId} {a:Array Value} {w:World} {m:Nat} (h:Calls P f a w fun e w'=>Mk w m e w'):Calls P f a w fun e w'=>∃ r,e = .returned r∧∃ l,NR w' r l∧0 < l.length∧l.length≤m∧Below w.heap.size w w':=h.mono fun _ _ ⟨v,l,h1,h2⟩=>⟨v,h1,l,h2⟩
variable (gb rb:Nat) (vb:Value) (n:Nat)
theorem gmk_ex [Inhabited Bs] {P:Program} {f:FuncId} {a:Array Value} {w:World} {q m k:Nat} (h:Calls P f a w fun e w'=>GMk gb rb vb n q m k w e w'):Calls P f a w fun e w'=>∃ r,e = .returned r∧∃ l,NR w' r l∧0 < l.length∧l.length≤m∧Gn gb rb vb n (q+m) k w'∧Ty w w':=h.mono fun _ _ ⟨v,l,h1,h2⟩=>⟨v,h1,l,h2⟩
set_option maxRecDepth 100000 in
set_option maxHeartbeats 8000000 in
theorem each_any [Inhabited Bs] (d kd:Nat) (HE:EAt gb rb vb n d kd) (q k:Nat) (kind:Int) (w:World) (h:Gn gb rb vb n q k w) (hq:q+5 * kd+20≤700000000) (hk:k+1+d≤900) (hkd:kd≤1000000):Calls Tryz.prog 108 #[.pointer (some ⟨gb,0,none⟩),.int .i64 kind,.int .i64 ((d:Int)+1)] w fun e w'=>GMk gb rb vb n q (4 * kd+10) k w e w':=by
 have hwd:IntKind.i64.wrap (d:Int)=(d:Int):=by rw [IntKind.wrap_i64];omega
 have HG0:=hide h
 have HT0:Hid (Ty w w):=hide (.refl w)
 have HI:=hide (insideG_any gb rb vb n d kd HE)
 have HE:=hide HE
 clear h
 go_enter Tryz.func108,Tryz.ntmps108
 go_wp2_with fail
 refine (fresh_any gb rb vb n _ _ _ HG0.out (by omega)).mono ?_
 rintro e21 w21 ⟨t21,rfl,hg21,ht21⟩
 have HR21:=hide ht21
 have HG21:=hide hg21
 have HT21:=hide (HT0.out.trans HR21.out)
 have c0_21:=HG21.out.c0
 clear hg21 ht21
 have HNx_22:=hide (nr_new w21 ⟨16,0,0,t21,0⟩)
 have pn22:0 < 1:=by decide
 have mn22:([⟨16,0,0,t21,0⟩]:List Tr.Nd).length≤1:=Nat.le_refl 1
 go_wp2_with fail
 refine (HE.out _ _ _ _ (HG21.out.below (bA _)) (by omega) (by omega)).mono ?_
 rintro e23 w23 ⟨v23,l23,rfl,nr23,pn23,mn23,hg23,ht23⟩
 have HR23:=hide (TyM.trans (TyM.of (M:=Mine) (bA _)) ht23)
 have HG23:=hide hg23
 have HT23:=hide (HT21.out.trans HR23.out)
 have HNx_23:=hide (HNx_22.out.ty ht23)
 have c0_23:=HG23.out.c0
 clear hg23 ht23
 obtain ⟨gq23,cq23,hv23⟩:=nr23.form pn23
 subst hv23
 have HNsrc_23:=hide nr23
 clear nr23
 go_wp2_with fail
 refine (Gn.pick HG23.out (by omega) 3 (by omega) (by omega)).mono ?_
 rintro e24 w24 ⟨z24,hz24,rfl,hg24,ht24⟩
 have HR24:=hide ht24
 have HG24:=hide hg24
 have HT24:=hide (HT23.out.trans HR24.out)
 have HNx_24:=hide (HNx_23.out.ty HR24.out)
 have HNsrc_24:=hide (HNsrc_23.out.ty HR24.out)
 have c0_24:=HG24.out.c0
 clear hg24 ht24
 by_cases hz0:z24=0
 ·subst hz0
  go_wp2_with fail
  refine (Gn.pick HG24.out (by omega) 5 (by omega) (by omega)).mono ?_
  rintro e25 w25 ⟨z25,hz25,rfl,hg25,ht25⟩
  have HR25:=hide ht25
  have HG25:=hide hg25
  have HT25:=hide (HT24.out.trans HR25.out)
  have HNx_25:=hide (HNx_24.out.ty HR25.out)
  have HNsrc_25:=hide (HNsrc_24.out.ty HR25.out)
  have c0_25:=HG25.out.c0
  clear hg25 ht25
  go_wp2_with fail
  refine (intN_any _ _).mono ?_
  rintro e26 w26 ⟨v26,l26,rfl,nr26,pn26,mn26,b26⟩
  have HR26:=hide (TyM.of (M:=Mine) b26)
  have HG26:=hide (HG25.out.below b26)
  have HT26:=hide (HT25.out.trans HR26.out)
  have HNx_26:=hide (HNx_25.out.ty HR26.out)
  have HNsrc_26:=hide (HNsrc_25.out.ty HR26.out)
  have c0_26:=HG26.out.c0
  clear b26
  obtain ⟨gq26,cq26,hv26⟩:=nr26.form pn26
  subst hv26
  have HNi_26:=hide nr26
  clear nr26
  go_wp2_with fail
  have HC:=hide (callN_any ⟨#[114,97,110,103,101]⟩ [_] _ _ 1 (pr1 HNi_26.out pn26) (by simpa using mn26) (by omega) (by simp) (by simp))
  refine (HC.out).mono ?_
  rintro e27 w27 ⟨v27,l27,rfl,nr27,pn27,mn27,b27⟩
  have HR27:=hide (TyM.trans (TyM.of (M:=Mine) (bA _)) (TyM.of (M:=Mine) b27))
  have HG27:=hide ((HG26.out.below (bA _)).below b27)
  have HT27:=hide (HT26.out.trans HR27.out)
  have HNx_27:=hide (HNx_26.out.ty HR27.out)
  have c0_27:=HG27.out.c0
  clear b27
  obtain ⟨gq27,cq27,hv27⟩:=nr27.form pn27
  subst hv27
  have HNsrc_27:=hide nr27
  clear nr27
  go_wp2_with fail
  refine (HI.out _ _ _ _ _ _ HG27.out (by omega) (by omega)).mono ?_
  rintro e28 w28 ⟨v28,l28,rfl,nr28,pn28,mn28,hg28,ht28⟩
  have HR28:=hide ht28
  have HG28:=hide hg28
  have HT28:=hide (HT27.out.trans HR28.out)
  have HNx_28:=hide (HNx_27.out.ty HR28.out)
  have HNsrc_28:=hide (HNsrc_27.out.ty HR28.out)
  have c0_28:=HG28.out.c0
  clear hg28 ht28
  obtain ⟨gq28,cq28,hv28⟩:=nr28.form pn28
  subst hv28
  have HNbody_28:=hide nr28
  clear nr28
  go_wp2_with fail
  refine (Gn.pick HG28.out (by omega) 2 (by omega) (by omega)).mono ?_
  rintro e29 w29 ⟨z29,hz29,rfl,hg29,ht29⟩
  have HR29:=hide ht29
  have HG29:=hide hg29
  have HT29:=hide (HT28.out.trans HR29.out)
  have HNx_29:=hide (HNx_28.out.ty HR29.out)
  have HNsrc_29:=hide (HNsrc_28.out.ty HR29.out)
  have HNbody_29:=hide (HNbody_28.out.ty HR29.out)
  have c0_29:=HG29.out.c0
  clear hg29 ht29
  have bx029:=HNx_29.out.1.cells rfl 0 _ rfl
  rw [add_plainP,Nat.zero_add] at bx029
  have bx129:=HNx_29.out.1.cells rfl 1 _ rfl
  rw [add_plainP,Nat.zero_add] at bx129
  have bx229:=HNx_29.out.1.cells rfl 2 _ rfl
  rw [add_plainP,Nat.zero_add] at bx229
  have bx329:=HNx_29.out.1.cells rfl 3 _ rfl
  rw [add_plainP,Nat.zero_add] at bx329
  have bx429:=HNx_29.out.1.cells rfl 4 _ rfl
  rw [add_plainP,Nat.zero_add] at bx429
  by_cases hy:z29=0
  ·subst hy
   go_wp2_with fail
   have HO:=hide (over_mk ⟨16,0,0,t21,0⟩ [_,_] _ _ (kd+kd+5) (pr2 HNsrc_29.out HNbody_29.out pn27 pn28) (by rw [fl2];omega) (by omega) (by simp))
   unfold ndV at HO
   refine (HO.out).mono ?_
   rintro e30 w30 ⟨v30,l30,rfl,nr30,pn30,mn30,b30⟩
   have HR30:=hide (TyM.trans (TyM.of (M:=Mine) (bA _)) (TyM.of (M:=Mine) b30))
   have HG30:=hide ((HG29.out.below (bA _)).below b30)
   have HT30:=hide (HT29.out.trans HR30.out)
   have HNx_30:=hide (HNx_29.out.ty HR30.out)
   have c0_30:=HG30.out.c0
   clear b30
   obtain ⟨gq30,cq30,hv30⟩:=nr30.form pn30
   subst hv30
   have HNr_30:=hide nr30
   clear nr30
   go_wp2
   go_ret
   exact ⟨_,_,rfl,HNr_30.out,pn30,by omega,HG30.out.mono (by omega),HT30.out⟩
  have hy0:((z29:Int) == 0)=false:=by simp;omega
  have HGd:=hide (HG29.out.below (Below.refl _ _).drew)
  have HTd:=hide (HT29.out.trans (.of (Below.refl _ _).drew))
  have HNds:=hide (HNsrc_29.out.below (Below.refl _ _).drew)
  have HNdb:=hide (HNbody_29.out.below (Below.refl _ _).drew)
  have HNdx:=hide (HNx_29.out.below (Below.refl _ _).drew)
  go_wp2_with fail
  go_region_law (first
   | (refine step_call5E rfl 92 (.tmp 55) (.tmp 56) (.tmp 57) (.const (.int .i64 2)) (.tmp 59) _ _ _ _ _ rfl (.pointer (some ⟨gb,0,none⟩)) (.string t21) (.int .i64 0) (.int .i64 2) (.int .i64 (d:Int)) (by first | (simp [Act.eval];done) | simp [Act.eval,Act.put]) (by first | (simp [Act.eval];done) | simp [Act.eval,Act.put]) (by first | (simp [Act.eval];done) | simp [Act.eval,Act.put]) (by first | (simp [Act.eval];done) | simp [Act.eval,Act.put]) (by first | (simp [Act.eval];done) | simp [Act.eval,Act.put]) Tryz.f92 Tryz.func92 (by kernel_rfl) (by kernel_rfl) _ (gmk_ex gb rb vb n (HI.out _ _ _ _ _ _ HGd.out (by omega) (by omega))) ?_;intro v9 w9 h9;obtain ⟨l9,nr9,p9,m9,hg9,ht9⟩:=h9;obtain ⟨gq9,cq9,hv9⟩:=nr9.form p9;subst hv9;have HN9:=hide nr9;have HG9:=hide hg9;have HR9:=hide ht9;have HNs9:=hide (HNds.out.ty ht9);have HNb9:=hide (HNdb.out.ty ht9);have HNx9:=(HNdx.out.ty ht9);have y0:=HNx9.1.cells rfl 0 _ rfl;have y1:=HNx9.1.cells rfl 1 _ rfl;have y2:=HNx9.1.cells rfl 2 _ rfl;have y3:=HNx9.1.cells rfl 3 _ rfl;have y4:=HNx9.1.cells rfl 4 _ rfl;rw [add_plainP,Nat.zero_add] at y0 y1 y2 y3 y4;have HNx8:=HNx9.below (bA (.cells #[.slice (some ⟨gq27,0,none⟩) l27.length cq27,.slice (some ⟨gq28,0,none⟩) l28.length cq28,.slice (some ⟨gq9,0,none⟩) l9.length cq9] 48));have x0:=HNx8.1.cells rfl 0 _ rfl;have x1:=HNx8.1.cells rfl 1 _ rfl;have x2:=HNx8.1.cells rfl 2 _ rfl;have x3:=HNx8.1.cells rfl 3 _ rfl;have x4:=HNx8.1.cells rfl 4 _ rfl;rw [add_plainP,Nat.zero_add] at x0 x1 x2 x3 x4;clear nr9 hg9 ht9 HNx9 HNx8)
   | (refine step_call2E rfl 61 (.tmp 52) (.tmp 61) _ _ rfl (ndV ⟨16,0,0,t21,0⟩) (.slice (some ⟨w9.heap.size,0,none⟩) 3 3) (by unfold ndV;first | (simp [Act.eval];done) | simp [Act.eval,Act.put]) (by first | (simp [Act.eval];done) | simp [Act.eval,Act.put]) Tryz.f61 Tryz.func61 (by kernel_rfl) (by kernel_rfl) _ (mk_ex (over_mk ⟨16,0,0,t21,0⟩ [_,_,_] _ (w9.alloc _) (3 * kd+5) (pr3 HNs9.out HNb9.out HN9.out pn27 pn28 p9) (by simp only [List.flatten_cons,List.flatten_nil,List.length_append,List.length_nil];omega) (by omega) (by simp))) ?_;intro v8 w8 h8;obtain ⟨l8,nr8,p8,m8,b8⟩:=h8;obtain ⟨gq8,cq8,hv8⟩:=nr8.form p8;subst hv8))
  all_goals
   have HG8:=hide ((HG9.out.below (bA _)).below b8)
   have HT8:=hide (((HTd.out.trans HR9.out).trans (.of (bA _))).trans (.of b8))
   have HN8:=hide nr8
   clear b8 nr8
   go_wp2
   go_ret
   exact ⟨_,_,rfl,HN8.out,p8,by omega,HG8.out.mono (by omega),HT8.out⟩
 have hz1:((z24:Int) == 0)=false:=by simp;omega
 go_wp2_with fail
 refine (HI.out _ _ _ _ _ _ HG24.out (by omega) (by omega)).mono ?_
 rintro e32 w32 ⟨v32,l32,rfl,nr32,pn32,mn32,hg32,ht32⟩
 have HR32:=hide ht32
 have HG32:=hide hg32
 have HT32:=hide (HT24.out.trans HR32.out)
 have HNx_32:=hide (HNx_24.out.ty HR32.out)
 have HNsrc_32:=hide (HNsrc_24.out.ty HR32.out)
 have c0_32:=HG32.out.c0
 clear hg32 ht32
 obtain ⟨gq32,cq32,hv32⟩:=nr32.form pn32
 subst hv32
 have HNbody_32:=hide nr32
 clear nr32
 go_wp2_with fail
 refine (Gn.pick HG32.out (by omega) 2 (by omega) (by omega)).mono ?_
 rintro e33 w33 ⟨z33,hz33,rfl,hg33,ht33⟩
 have HR33:=hide ht33
 have HG33:=hide hg33
 have HT33:=hide (HT32.out.trans HR33.out)
 have HNx_33:=hide (HNx_32.out.ty HR33.out)
 have HNsrc_33:=hide (HNsrc_32.out.ty HR33.out)
 have HNbody_33:=hide (HNbody_32.out.ty HR33.out)
 have c0_33:=HG33.out.c0
 clear hg33 ht33
 have bx033:=HNx_33.out.1.cells rfl 0 _ rfl
 rw [add_plainP,Nat.zero_add] at bx033
 have bx133:=HNx_33.out.1.cells rfl 1 _ rfl
 rw [add_plainP,Nat.zero_add] at bx133
 have bx233:=HNx_33.out.1.cells rfl 2 _ rfl
 rw [add_plainP,Nat.zero_add] at bx233
 have bx333:=HNx_33.out.1.cells rfl 3 _ rfl
 rw [add_plainP,Nat.zero_add] at bx333
 have bx433:=HNx_33.out.1.cells rfl 4 _ rfl
 rw [add_plainP,Nat.zero_add] at bx433
 by_cases hy:z33=0
 ·subst hy
  go_wp2_with fail
  have HO:=hide (over_mk ⟨16,0,0,t21,0⟩ [_,_] _ _ (kd+kd+5) (pr2 HNsrc_33.out HNbody_33.out pn23 pn32) (by rw [fl2];omega) (by omega) (by simp))
  unfold ndV at HO
  refine (HO.out).mono ?_
  rintro e34 w34 ⟨v34,l34,rfl,nr34,pn34,mn34,b34⟩
  have HR34:=hide (TyM.trans (TyM.of (M:=Mine) (bA _)) (TyM.of (M:=Mine) b34))
  have HG34:=hide ((HG33.out.below (bA _)).below b34)
  have HT34:=hide (HT33.out.trans HR34.out)
  have HNx_34:=hide (HNx_33.out.ty HR34.out)
  have c0_34:=HG34.out.c0
  clear b34
  obtain ⟨gq34,cq34,hv34⟩:=nr34.form pn34
  subst hv34
  have HNr_34:=hide nr34
  clear nr34
  go_wp2
  go_ret
  exact ⟨_,_,rfl,HNr_34.out,pn34,by omega,HG34.out.mono (by omega),HT34.out⟩
 have hy0:((z33:Int) == 0)=false:=by simp;omega
 have HGd:=hide (HG33.out.below (Below.refl _ _).drew)
 have HTd:=hide (HT33.out.trans (.of (Below.refl _ _).drew))
 have HNds:=hide (HNsrc_33.out.below (Below.refl _ _).drew)
 have HNdb:=hide (HNbody_33.out.below (Below.refl _ _).drew)
 have HNdx:=hide (HNx_33.out.below (Below.refl _ _).drew)
 go_wp2_with fail
 go_region_law (first
  | (refine step_call5E rfl 92 (.tmp 55) (.tmp 56) (.tmp 57) (.const (.int .i64 2)) (.tmp 59) _ _ _ _ _ rfl (.pointer (some ⟨gb,0,none⟩)) (.string t21) (.int .i64 1) (.int .i64 2) (.int .i64 (d:Int)) (by first | (simp [Act.eval];done) | simp [Act.eval,Act.put]) (by first | (simp [Act.eval];done) | simp [Act.eval,Act.put]) (by first | (simp [Act.eval];done) | simp [Act.eval,Act.put]) (by first | (simp [Act.eval];done) | simp [Act.eval,Act.put]) (by first | (simp [Act.eval];done) | simp [Act.eval,Act.put]) Tryz.f92 Tryz.func92 (by kernel_rfl) (by kernel_rfl) _ (gmk_ex gb rb vb n (HI.out _ _ _ _ _ _ HGd.out (by omega) (by omega))) ?_;intro v9 w9 h9;obtain ⟨l9,nr9,p9,m9,hg9,ht9⟩:=h9;obtain ⟨gq9,cq9,hv9⟩:=nr9.form p9;subst hv9;have HN9:=hide nr9;have HG9:=hide hg9;have HR9:=hide ht9;have HNs9:=hide (HNds.out.ty ht9);have HNb9:=hide (HNdb.out.ty ht9);have HNx9:=(HNdx.out.ty ht9);have y0:=HNx9.1.cells rfl 0 _ rfl;have y1:=HNx9.1.cells rfl 1 _ rfl;have y2:=HNx9.1.cells rfl 2 _ rfl;have y3:=HNx9.1.cells rfl 3 _ rfl;have y4:=HNx9.1.cells rfl 4 _ rfl;rw [add_plainP,Nat.zero_add] at y0 y1 y2 y3 y4;have HNx8:=HNx9.below (bA (.cells #[.slice (some ⟨gq23,0,none⟩) l23.length cq23,.slice (some ⟨gq32,0,none⟩) l32.length cq32,.slice (some ⟨gq9,0,none⟩) l9.length cq9] 48));have x0:=HNx8.1.cells rfl 0 _ rfl;have x1:=HNx8.1.cells rfl 1 _ rfl;have x2:=HNx8.1.cells rfl 2 _ rfl;have x3:=HNx8.1.cells rfl 3 _ rfl;have x4:=HNx8.1.cells rfl 4 _ rfl;rw [add_plainP,Nat.zero_add] at x0 x1 x2 x3 x4;clear nr9 hg9 ht9 HNx9 HNx8)
  | (refine step_call2E rfl 61 (.tmp 52) (.tmp 61) _ _ rfl (ndV ⟨16,0,0,t21,0⟩) (.slice (some ⟨w9.heap.size,0,none⟩) 3 3) (by unfold ndV;first | (simp [Act.eval];done) | simp [Act.eval,Act.put]) (by first | (simp [Act.eval];done) | simp [Act.eval,Act.put]) Tryz.f61 Tryz.func61 (by kernel_rfl) (by kernel_rfl) _ (mk_ex (over_mk ⟨16,0,0,t21,0⟩ [_,_,_] _ (w9.alloc _) (3 * kd+5) (pr3 HNs9.out HNb9.out HN9.out pn23 pn32 p9) (by simp only [List.flatten_cons,List.flatten_nil,List.length_append,List.length_nil];omega) (by omega) (by simp))) ?_;intro v8 w8 h8;obtain ⟨l8,nr8,p8,m8,b8⟩:=h8;obtain ⟨gq8,cq8,hv8⟩:=nr8.form p8;subst hv8))
 all_goals
  have HG8:=hide ((HG9.out.below (bA _)).below b8)
  have HT8:=hide (((HTd.out.trans HR9.out).trans (.of (bA _))).trans (.of b8))
  have HN8:=hide nr8
  clear b8 nr8
  go_wp2
  go_ret
  exact ⟨_,_,rfl,HN8.out,p8,by omega,HG8.out.mono (by omega),HT8.out⟩
end Go.Proofs.YtbckhbeebngjfaaGreatDoor
