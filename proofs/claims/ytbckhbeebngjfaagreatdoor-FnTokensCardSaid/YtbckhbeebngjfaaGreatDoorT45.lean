/- Gf, Gp, Gp0. -/
import Derived.Test.YtbckhbeebngjfaaGreatDoorT40
import Derived.Test.YtbckhbeebngjfaaGreatDoorT41
import Derived.Laws.AppendOwnNone
import Derived.Deep.CutRange
import Derived.BigQuiet
namespace Go.Proofs.YtbckhbeebngjfaaGreatDoor
open Go.RowKit
theorem lt_heapS [Inhabited Bs] {w:World} {b:Nat} {o:Obj} (h:w.heap[b]?=some o):b < w.heap.size:=by
 rcases Nat.lt_or_ge b w.heap.size with h1 | h1
 ·exact h1
 ·rw [Array.getElem?_eq_none h1] at h;cases h
theorem row_atS [Inhabited Bs] {w w':World} {base size:Nat} {e:TypeId} {v:Value} {n:Nat} {xs:List Value} (h:w.ownsRow base e size v n xs) (hb:∀ q,v.ownBlock=some q→w'.heap[q]?=w.heap[q]?):w'.ownsRow base e size v n xs:=by
 refine ⟨h.1,?_⟩
 rcases h.2 with h1 | ⟨g,cap,cur,hv,h2,h3,h4⟩
 ·exact .inl h1
 ·exact .inr ⟨g,cap,cur,hv,h2,(hb g (by rw [hv];rfl)).trans h3,h4⟩
theorem Rq.pick_ex [Inhabited Bs] {rb:Nat} {vb:Value} {n q:Nat} {w:World} (h:Rq rb vb n q w) (hq:q≤900000000) (m:Int) (h1:1≤m) (h2:m≤1000000):Calls Tryz.prog 8 #[.pointer (some ⟨rb,0,none⟩),.int .i64 m] w fun e w1=>∃ r,e = .returned r∧∃ z:Nat,(z:Int) < m∧r = .int .i64 (z:Int)∧Rq rb vb n (q+1) w1∧Ty w w1:=(h.pick hq m h1 h2).mono fun _ _ ⟨z,a,b,c⟩=>⟨_,b,z,a,rfl,c⟩
theorem cellsOf_len5 [Inhabited Bs] (l:List Tr.Nd):(Tr.cellsOf l).length=l.length*5:=by
 induction l with
 | nil=>rfl
 | cons d l ih =>
  have e:Tr.cellsOf (d :: l)=Tr.cellsOf [d]++Tr.cellsOf l:=cellsOf_app [d] l
  rw [e,List.length_append,ih,List.length_cons]
  show 5+_=_
  omega
theorem cells_split5 [Inhabited Bs] (l:List Tr.Nd) (k:Nat) (hk:k < l.length):Tr.cellsOf l=Tr.cellsOf (l.take k)++ .int .i64 l[k].kind :: .int .i64 l[k].op :: .int .i64 l[k].n :: .string l[k].text :: .int .i64 l[k].kids :: Tr.cellsOf (l.drop (k+1)):=by
 conv=>lhs;rw [← List.take_append_drop k l,List.drop_eq_getElem_cons hk]
 rw [cellsOf_app]
 rfl
theorem cells_set5 [Inhabited Bs] (l:List Tr.Nd) (k:Nat) (x:Tr.Nd) (hk:k < l.length):Tr.cellsOf (l.set k x)=Tr.cellsOf (l.take k)++ .int .i64 x.kind :: .int .i64 x.op :: .int .i64 x.n :: .string x.text :: .int .i64 x.kids :: Tr.cellsOf (l.drop (k+1)):=by
 rw [List.set_eq_take_append_cons_drop,if_pos hk,cellsOf_app]
 rfl
theorem set5_at [Inhabited Bs] (A B:List Value) (a b c d e v:Value) (m i:Nat) (hm:A.length=m):(A++a :: b :: c :: d :: e :: B).set (m+i) v=A++(a :: b :: c :: d :: e :: B).set i v:=by
 rw [List.set_append_right _ _ (by omega),show m+i - A.length=i by omega]
theorem take_len5 [Inhabited Bs] (l:List Tr.Nd) (k:Nat) (hk:k < l.length):(Tr.cellsOf (l.take k)).length=k*5:=by rw [cellsOf_len5,List.length_take];congr 1;omega
theorem row_text [Inhabited Bs] {W:World} {B g c k:Nat} {l:List Tr.Nd} (t:ByteArray) (hk:k < l.length) (hr:W.ownsRow B 82 5 (.slice (some ⟨g,0,none⟩) l.length c) l.length (Tr.cellsOf l)):(W.setCell ⟨g,k*5+3,none⟩ (.string t)).ownsRow B 82 5 (.slice (some ⟨g,0,none⟩) l.length c) l.length (Tr.cellsOf (l.set k {l[k] with text:=t})):=by
 have t0:=(hr.stored (k*5+3) (.string t)).1
 rw [cells_split5 l k hk,set5_at _ _ _ _ _ _ _ _ _ 3 (take_len5 l k hk)] at t0
 rw [cells_set5 l k _ hk]
 exact t0
theorem row_kids [Inhabited Bs] {W:World} {B g c k:Nat} {l:List Tr.Nd} (z:Int) (hk:k < l.length) (hr:W.ownsRow B 82 5 (.slice (some ⟨g,0,none⟩) l.length c) l.length (Tr.cellsOf l)):(W.setCell ⟨g,k*5+4,none⟩ (.int .i64 z)).ownsRow B 82 5 (.slice (some ⟨g,0,none⟩) l.length c) l.length (Tr.cellsOf (l.set k {l[k] with kids:=z})):=by
 have t0:=(hr.stored (k*5+4) (.int .i64 z)).1
 rw [cells_split5 l k hk,set5_at _ _ _ _ _ _ _ _ _ 4 (take_len5 l k hk)] at t0
 rw [cells_set5 l k _ hk]
 exact t0
theorem row_set5 [Inhabited Bs] {W:World} {B g c k:Nat} {l:List Tr.Nd} (x:Tr.Nd) (hk:k < l.length) (hr:W.ownsRow B 82 5 (.slice (some ⟨g,0,none⟩) l.length c) l.length (Tr.cellsOf l)) :
  (((((W.setCell ⟨g,k*5,none⟩ (.int .i64 x.kind)).setCell ⟨g,k*5+1,none⟩ (.int .i64 x.op)).setCell ⟨g,k*5+2,none⟩ (.int .i64 x.n)).setCell ⟨g,k*5+3,none⟩ (.string x.text)).setCell ⟨g,k*5+4,none⟩ (.int .i64 x.kids)).ownsRow B 82 5 (.slice (some ⟨g,0,none⟩) l.length c) l.length (Tr.cellsOf (l.set k x)):=by
 have hl:=take_len5 l k hk
 rw [cells_split5 l k hk] at hr
 have t0:=(hr.stored (k*5) (.int .i64 x.kind)).1
 have e0:=set5_at (Tr.cellsOf (l.take k)) (Tr.cellsOf (l.drop (k+1))) (.int .i64 l[k].kind) (.int .i64 l[k].op) (.int .i64 l[k].n) (.string l[k].text) (.int .i64 l[k].kids) (.int .i64 x.kind) (k*5) 0 hl
 change List.set _ (k*5) _=_ at e0
 rw [e0] at t0
 have t1:=(t0.stored (k*5+1) (.int .i64 x.op)).1
 simp only [List.set_cons_zero] at t1
 rw [set5_at _ _ _ _ _ _ _ _ _ 1 hl] at t1
 have t2:=(t1.stored (k*5+2) (.int .i64 x.n)).1
 simp only [List.set_cons_zero,List.set_cons_succ] at t2
 rw [set5_at _ _ _ _ _ _ _ _ _ 2 hl] at t2
 have t3:=(t2.stored (k*5+3) (.string x.text)).1
 simp only [List.set_cons_zero,List.set_cons_succ] at t3
 rw [set5_at _ _ _ _ _ _ _ _ _ 3 hl] at t3
 have t4:=(t3.stored (k*5+4) (.int .i64 x.kids)).1
 simp only [List.set_cons_zero,List.set_cons_succ] at t4
 rw [set5_at _ _ _ _ _ _ _ _ _ 4 hl] at t4
 rw [cells_set5 l k x hk]
 exact t4
theorem cells_drop [Inhabited Bs] {W:World} {B g c k:Nat} {l:List Tr.Nd} (hr:W.ownsRow B 82 5 (.slice (some ⟨g,0,none⟩) l.length c) l.length (Tr.cellsOf l)) (hk:k≤l.length) (j:Nat) (u:Value) (hu:(Tr.cellsOf (l.drop k))[j]?=some u):W.cell? ((⟨g,k*5,none⟩:Addr).add j)=some u:=by
 have h1:=World.ownsRow.cells hr rfl (k*5+j) u (by
  have e:Tr.cellsOf l=Tr.cellsOf (l.take k)++Tr.cellsOf (l.drop k):=by rw [← cellsOf_app,List.take_append_drop]
  have hl:(Tr.cellsOf (l.take k)).length=k*5:=by rw [cellsOf_len5,List.length_take];congr 1;omega
  rw [e,List.getElem?_append_right (by omega),show k*5+j - (Tr.cellsOf (l.take k)).length=j by omega]
  exact hu)
 rw [add_plainP,Nat.zero_add] at h1
 rw [add_plainP]
 exact h1
theorem sh_set [Inhabited Bs] {l:List Tr.Nd} {k:Nat} {x:Tr.Nd} (h:Sh l) (hx:x.text.size≤1000000):Sh (l.set k x):=fun y hy=>by
 rcases List.mem_or_eq_of_mem_set hy with h1 | rfl
 ·exact h y h1
 ·exact hx
section
variable (rb:Nat) (vb:Value) (n:Nat) (W0:World) (v:Value) (l0:List Tr.Nd) (tb rx ob:Nat)
structure SP [Inhabited Bs] (q:Nat) (ov:Value) (l:List Tr.Nd) (w:World):Prop where
 r:Rq rb vb n q w
 tf:Tf W0 w
 src:NR w v l0
 vlo:∀ b,v.ownBlock=some b→b < W0.heap.size
 tbx:w.heap[tb]?=some (.cells #[v] 50)
 rbx:w.heap[rx]?=some (.cells #[.slice none 0 0] 50)
 obx:w.heap[ob]?=some (.cells #[ov] 50)
 out:w.ownsRow W0.heap.size 82 5 ov l.length (Tr.cellsOf l)
 sh:Sh l
 lo:rb < W0.heap.size∧W0.heap.size≤rx∧W0.heap.size≤ob∧rx≠ob∧tb≠ob∧W0.heap.size≤tb
end
section
variable {rb:Nat} {vb:Value} {n:Nat} {W0:World} {v:Value} {l0:List Tr.Nd} {tb rx ob:Nat} {q:Nat} {ov:Value} {l:List Tr.Nd} {w w':World}
theorem SP.ty [Inhabited Bs] (h:SP rb vb n W0 v l0 tb rx ob q ov l w) (ht:Ty w w') {q':Nat} (hr:Rq rb vb n q' w'):SP rb vb n W0 v l0 tb rx ob q' ov l w' :=
 ⟨hr,h.tf.trans (Ty.tf ht),h.src.ty ht,h.vlo,Ty.same ht h.tbx mine_tree,Ty.same ht h.rbx mine_tree,Ty.same ht h.obx mine_tree,row_ty h.out ht mine_node,h.sh,h.lo⟩
theorem SP.below [Inhabited Bs] (h:SP rb vb n W0 v l0 tb rx ob q ov l w) (hb:Below w.heap.size w w'):SP rb vb n W0 v l0 tb rx ob q ov l w':=h.ty (.of hb) (h.r.below hb)
theorem SP.mono [Inhabited Bs] (h:SP rb vb n W0 v l0 tb rx ob q ov l w) {q':Nat} (hq:q≤q'):SP rb vb n W0 v l0 tb rx ob q' ov l w:=h.ty (.refl _) (h.r.mono hq)
theorem SP.cells [Inhabited Bs] (h:SP rb vb n W0 v l0 tb rx ob q ov l w):w.cell? ⟨tb,0,none⟩=some v∧w.cell? ⟨rx,0,none⟩=some (.slice none 0 0)∧w.cell? ⟨ob,0,none⟩=some ov∧w.frozen? ⟨rx,0,none⟩=false∧w.frozen? ⟨ob,0,none⟩=false :=
 ⟨(box_cell h.tbx).1,(box_cell h.rbx).1,(box_cell h.obx).1,(box_cell h.rbx).2,(box_cell h.obx).2⟩
theorem SP.rty [Inhabited Bs] (h:SP rb vb n W0 v l0 tb rx ob q ov l w):tyAt w rx=some 50:=by unfold tyAt;rw [h.rbx];rfl
theorem SP.oty [Inhabited Bs] (h:SP rb vb n W0 v l0 tb rx ob q ov l w):tyAt w ob=some 50:=by unfold tyAt;rw [h.obx];rfl
theorem SP.ret [Inhabited Bs] (h:SP rb vb n W0 v l0 tb rx ob q ov l w) {v':Value} {l':List Tr.Nd} (hn:NR w v' l'):NR (w.setCell ⟨rx,0,none⟩ v') v' l'∧Rq rb vb n q (w.setCell ⟨rx,0,none⟩ v')∧Tf W0 (w.setCell ⟨rx,0,none⟩ v'):=by
 have lo:=h.lo
 exact ⟨hn.setT (by rw [h.rty];decide),h.r.set (by omega),set_aboveM h.tf lo.2.1⟩
theorem SP.rows [Inhabited Bs] (h:SP rb vb n W0 v l0 tb rx ob q ov l w) {l':List Tr.Nd} (hs:w'.os=w.os∧w'.tape=w.tape∧w'.output=w.output∧w.heap.size≤w'.heap.size) (hb:∀ b,some b≠ov.ownBlock→w'.heap[b]?=w.heap[b]?) (hr:w'.ownsRow W0.heap.size 82 5 ov l'.length (Tr.cellsOf l')) (hsh:Sh l'):SP rb vb n W0 v l0 tb rx ob q ov l' w':=by
 have lo:=h.lo
 have own:∀ b,ov.ownBlock=some b→W0.heap.size≤b∧tyAt w b=some 82:=fun b e=>⟨(h.out.lt b e).1,row_tyAt h.out e⟩
 have nt:∀ b t,tyAt w b=some t→t≠82→w'.heap[b]?=w.heap[b]?:=fun b t ht hne=>hb b (fun e=>by have:=(own b e.symm).2;rw [ht] at this;exact hne (Option.some.inj this))
 have lw:∀ b,b < W0.heap.size→w'.heap[b]?=w.heap[b]?:=fun b hlt=>hb b (fun e=>by have:=(own b e.symm).1;omega)
 refine ⟨?_,?_,?_,h.vlo,(nt tb _ (by unfold tyAt;rw [h.tbx];rfl) (by decide)).trans h.tbx,(nt rx _ h.rty (by decide)).trans h.rbx,(nt ob _ h.oty (by decide)).trans h.obx,hr,hsh,h.lo⟩
 ·obtain ⟨p,hp,hr⟩:=h.r
  exact ⟨p,hp,hr.upto (fun b hb=>lw b (by omega))⟩
 ·exact ⟨hs.1.trans h.tf.os,hs.2.1.trans h.tf.tape,hs.2.2.1.trans h.tf.output,Nat.le_trans h.tf.size hs.2.2.2,fun b h1 h2=>(lw b h1).trans (h.tf.block b h1 h2),fun hn=>absurd (.inr rfl) hn,fun b h1 h2=>(lw b h1).trans (h.tf.old b h1 h2)⟩
 ·exact ⟨row_atS h.src.1 (fun b e=>lw b (h.vlo b e)),h.src.2⟩
theorem SP.rowsG [Inhabited Bs] (h:SP rb vb n W0 v l0 tb rx ob q ov l w) (hg:w.grownBy w' ov.ownBlock) {ov':Value} {l':List Tr.Nd} (hr:w'.ownsRow W0.heap.size 82 5 ov' l'.length (Tr.cellsOf l')) (hsh:Sh l'):w'.heap[ob]?=w.heap[ob]?∧SP rb vb n W0 v l0 tb rx ob q ov' l' (w'.setCell ⟨ob,0,none⟩ ov'):=by
 have lo:=h.lo
 have own:∀ b,ov.ownBlock=some b→W0.heap.size≤b∧tyAt w b=some 82:=fun b e=>⟨(h.out.lt b e).1,row_tyAt h.out e⟩
 have nt:∀ b t,b < w.heap.size→tyAt w b=some t→t≠82→w'.heap[b]?=w.heap[b]?:=fun b t hl ht hne=>hg.block b hl (fun e=>by have:=(own b e.symm).2;rw [ht] at this;exact hne (Option.some.inj this))
 have hW:=h.tf.size
 have lw:∀ b,b < W0.heap.size→w'.heap[b]?=w.heap[b]?:=fun b hlt=>hg.block b (by omega) (fun e=>by have:=(own b e.symm).1;omega)
 have eo:=nt ob _ (lt_heapS h.obx) h.oty (by decide)
 have hoty:tyAt w' ob=some 50:=(tyAt_block eo).trans h.oty
 have sb:∀ b,b≠ob→(w'.setCell ⟨ob,0,none⟩ ov').heap[b]?=w'.heap[b]?:=fun b hb=>Below.heap_setCell _ _ _ _ hb
 refine ⟨eo,?_,?_,?_,h.vlo,(sb tb lo.2.2.2.2.1).trans ((nt tb _ (lt_heapS h.tbx) (by unfold tyAt;rw [h.tbx];rfl) (by decide)).trans h.tbx),(sb rx lo.2.2.2.1).trans ((nt rx _ (lt_heapS h.rbx) h.rty (by decide)).trans h.rbx),?_,row_setC hr (by rw [hoty];decide),hsh,h.lo⟩
 ·obtain ⟨p,hp,hr⟩:=h.r
  exact ⟨p,hp,hr.upto (fun b hb=>(sb b (by omega)).trans (lw b (by omega)))⟩
 ·exact set_aboveM ⟨hg.os.trans h.tf.os,hg.tape.trans h.tf.tape,hg.output.trans h.tf.output,Nat.le_trans h.tf.size hg.size,fun b h1 h2=>(lw b h1).trans (h.tf.block b h1 h2),fun hn=>absurd (.inr rfl) hn,fun b h1 h2=>(lw b h1).trans (h.tf.old b h1 h2)⟩ lo.2.2.1
 ·exact ⟨row_atS h.src.1 (fun b e=>(sb b (by have:=h.vlo b e;omega)).trans (lw b (h.vlo b e))),h.src.2⟩
 ·rw [heap_setC (eo.trans h.obx)];rfl
end
section
variable {rb:Nat} {vb:Value} {n:Nat} {W0:World} {v:Value} {l0:List Tr.Nd} {tb rx ob:Nat} {q:Nat} {ov:Value} {l:List Tr.Nd} {w:World}
theorem SP.setOut [Inhabited Bs] (h:SP rb vb n W0 v l0 tb rx ob q ov l w) {ov':Value} {l':List Tr.Nd} (hr:w.ownsRow W0.heap.size 82 5 ov' l'.length (Tr.cellsOf l')) (hsh:Sh l'):SP rb vb n W0 v l0 tb rx ob q ov' l' (w.setCell ⟨ob,0,none⟩ ov'):=by
 have lo:=h.lo
 have sb:∀ b,b≠ob→(w.setCell ⟨ob,0,none⟩ ov').heap[b]?=w.heap[b]?:=fun b hb=>Below.heap_setCell _ _ _ _ hb
 refine ⟨h.r.set (by omega),set_aboveM h.tf lo.2.2.1,h.src.setT (by rw [h.oty];decide),h.vlo,(sb tb lo.2.2.2.2.1).trans h.tbx,(sb rx lo.2.2.2.1).trans h.rbx,?_,row_setC hr (by rw [h.oty];decide),hsh,h.lo⟩
 rw [heap_setC h.obx];rfl
end
section
variable (W0:World) (xb:Nat) (ov:Value)
structure XN (x:Tr.Nd) (w:World):Prop where
 box:w.heap[xb]?=some (.cells #[.int .i64 x.kind,.int .i64 x.op,.int .i64 x.n,.string x.text,.int .i64 x.kids] 82)
 sh:x.text.size≤1000000
 ne:ov.ownBlock≠some xb
 lo:W0.heap.size≤xb
end
section
variable {rb:Nat} {vb:Value} {n:Nat} {W0:World} {v:Value} {l0:List Tr.Nd} {tb rx ob xb:Nat} {q:Nat} {ov:Value} {l:List Tr.Nd} {w w':World} {x:Tr.Nd}
theorem XN.ty [Inhabited Bs] (h:XN W0 xb ov x w) (ht:Ty w w'):XN W0 xb ov x w':=⟨Ty.same ht h.box mine_node,h.sh,h.ne,h.lo⟩
theorem XN.below [Inhabited Bs] (h:XN W0 xb ov x w) (hb:Below w.heap.size w w'):XN W0 xb ov x w':=h.ty (.of hb)
theorem XN.cells [Inhabited Bs] (h:XN W0 xb ov x w):w.cell? ⟨xb,0,none⟩=some (.int .i64 x.kind)∧w.cell? ⟨xb,1,none⟩=some (.int .i64 x.op)∧w.cell? ⟨xb,2,none⟩=some (.int .i64 x.n)∧w.cell? ⟨xb,3,none⟩=some (.string x.text)∧w.cell? ⟨xb,4,none⟩=some (.int .i64 x.kids)∧∀ j,w.frozen? ⟨xb,j,none⟩=false:=by
 refine ⟨?_,?_,?_,?_,?_,fun j=>?_⟩
 ·rw [World.cell?,h.box];rfl
 ·rw [World.cell?,h.box];rfl
 ·rw [World.cell?,h.box];rfl
 ·rw [World.cell?,h.box];rfl
 ·rw [World.cell?,h.box];rfl
 ·rw [World.frozen?,h.box];simp
theorem XN.set [Inhabited Bs] (h:XN W0 xb ov x w) (o:Nat) (u:Value) (x':Tr.Nd) (hx:(#[.int .i64 x.kind,.int .i64 x.op,.int .i64 x.n,.string x.text,.int .i64 x.kids]:Array Value).setIfInBounds o u=#[.int .i64 x'.kind,.int .i64 x'.op,.int .i64 x'.n,.string x'.text,.int .i64 x'.kids]) (hs:x'.text.size≤1000000):XN W0 xb ov x' (w.setCell ⟨xb,o,none⟩ u) :=
 ⟨by rw [heap_setC h.box,hx],hs,h.ne,h.lo⟩
theorem SP.setX [Inhabited Bs] (h:SP rb vb n W0 v l0 tb rx ob q ov l w) (hx:XN W0 xb ov x w) (o:Nat) (u:Value):SP rb vb n W0 v l0 tb rx ob q ov l (w.setCell ⟨xb,o,none⟩ u):=by
 have lo:=h.lo
 have xl:=hx.lo
 have sb:∀ b,b≠xb→(w.setCell ⟨xb,o,none⟩ u).heap[b]?=w.heap[b]?:=fun b hb=>Below.heap_setCell _ _ _ _ hb
 have nt:∀ b,tyAt w b=some 50→b≠xb:=fun b ht e=>by
  have:tyAt w xb=some 82:=by unfold tyAt;rw [hx.box];rfl
  rw [← e,ht] at this
  cases this
 refine ⟨?_,set_aboveM h.tf xl,⟨row_atS h.src.1 (fun b e=>sb b (by have:=h.vlo b e;omega)),h.src.2⟩,h.vlo,(sb tb (nt tb (by unfold tyAt;rw [h.tbx];rfl))).trans h.tbx,(sb rx (nt rx h.rty)).trans h.rbx,(sb ob (nt ob h.oty)).trans h.obx,row_atS h.out (fun b e=>sb b (fun e'=>hx.ne (by rw [e,e']))),h.sh,h.lo⟩
 exact h.r.set (by omega)
end
theorem nd_cells [Inhabited Bs] (l:List Tr.Nd) (k:Nat) (hk:k < l.length):(Tr.cellsOf l)[k*5]?=some (.int .i64 l[k].kind)∧(Tr.cellsOf l)[k*5+1]?=some (.int .i64 l[k].op)∧(Tr.cellsOf l)[k*5+2]?=some (.int .i64 l[k].n)∧(Tr.cellsOf l)[k*5+3]?=some (.string l[k].text)∧(Tr.cellsOf l)[k*5+4]?=some (.int .i64 l[k].kids):=by
 have hm:=take_len5 l k hk
 rw [cells_split5 l k hk]
 refine ⟨?_,?_,?_,?_,?_⟩
 ·rw [List.getElem?_append_right (by omega),show k*5 - (Tr.cellsOf (l.take k)).length=0 by omega];rfl
 ·rw [List.getElem?_append_right (by omega),show k*5+1 - (Tr.cellsOf (l.take k)).length=1 by omega];rfl
 ·rw [List.getElem?_append_right (by omega),show k*5+2 - (Tr.cellsOf (l.take k)).length=2 by omega];rfl
 ·rw [List.getElem?_append_right (by omega),show k*5+3 - (Tr.cellsOf (l.take k)).length=3 by omega];rfl
 ·rw [List.getElem?_append_right (by omega),show k*5+4 - (Tr.cellsOf (l.take k)).length=4 by omega];rfl
theorem World.grownBy.refl' [Inhabited Bs] (w:World) (o:Option Nat):w.grownBy w o:=⟨rfl,rfl,rfl,Nat.le_refl _,fun _ _ _=>rfl⟩
section
variable {rb:Nat} {vb:Value} {n:Nat} {W0:World} {v:Value} {l0:List Tr.Nd} {tb rx ob xb:Nat} {q g c k:Nat} {l:List Tr.Nd} {w:World} {x:Tr.Nd}
theorem SP.node [Inhabited Bs] (h:SP rb vb n W0 v l0 tb rx ob q (.slice (some ⟨g,0,none⟩) l.length c) l w) (hk:k < l.length):w.cell? ⟨g,k*5,none⟩=some (.int .i64 l[k].kind)∧w.cell? ⟨g,k*5+1,none⟩=some (.int .i64 l[k].op)∧w.cell? ⟨g,k*5+2,none⟩=some (.int .i64 l[k].n)∧w.cell? ⟨g,k*5+3,none⟩=some (.string l[k].text)∧w.cell? ⟨g,k*5+4,none⟩=some (.int .i64 l[k].kids)∧∀ j,w.frozen? ⟨g,j,none⟩=false:=by
 obtain ⟨a0,a1,a2,a3,a4⟩:=nd_cells l k hk
 exact ⟨row_cellsC h.out a0,row_cellsC h.out a1,row_cellsC h.out a2,row_cellsC h.out a3,row_cellsC h.out a4,fun j=>h.out.frozenAt j⟩
theorem SP.put5 [Inhabited Bs] (h:SP rb vb n W0 v l0 tb rx ob q (.slice (some ⟨g,0,none⟩) l.length c) l w) (x:Tr.Nd) (hx:x.text.size≤1000000) (hk:k < l.length):SP rb vb n W0 v l0 tb rx ob q (.slice (some ⟨g,0,none⟩) l.length c) (l.set k x) (((((w.setCell ⟨g,k*5,none⟩ (.int .i64 x.kind)).setCell ⟨g,k*5+1,none⟩ (.int .i64 x.op)).setCell ⟨g,k*5+2,none⟩ (.int .i64 x.n)).setCell ⟨g,k*5+3,none⟩ (.string x.text)).setCell ⟨g,k*5+4,none⟩ (.int .i64 x.kids)):=by
 have b:=(((((Below.refl 0 w).setCell (p:=⟨g,k*5,none⟩) (Nat.zero_le _) (.int .i64 x.kind)).setCell (p:=⟨g,k*5+1,none⟩) (Nat.zero_le _) (.int .i64 x.op)).setCell (p:=⟨g,k*5+2,none⟩) (Nat.zero_le _) (.int .i64 x.n)).setCell (p:=⟨g,k*5+3,none⟩) (Nat.zero_le _) (.string x.text)).setCell (p:=⟨g,k*5+4,none⟩) (Nat.zero_le _) (.int .i64 x.kids)
 refine h.rows ⟨b.os,b.tape,b.output,b.size⟩ (fun b hb=>?_) (by rw [List.length_set];exact row_set5 x hk h.out) (sh_set h.sh hx)
 have hb:b≠g:=fun e=>hb (by rw [e];rfl)
 rw [Below.heap_setCell _ _ _ _ hb,Below.heap_setCell _ _ _ _ hb,Below.heap_setCell _ _ _ _ hb,Below.heap_setCell _ _ _ _ hb,Below.heap_setCell _ _ _ _ hb]
theorem SP.putT [Inhabited Bs] (h:SP rb vb n W0 v l0 tb rx ob q (.slice (some ⟨g,0,none⟩) l.length c) l w) (t:ByteArray) (ht:t.size≤1000000) (hk:k < l.length):SP rb vb n W0 v l0 tb rx ob q (.slice (some ⟨g,0,none⟩) l.length c) (l.set k {l[k] with text:=t}) (w.setCell ⟨g,k*5+3,none⟩ (.string t)):=by
 have b:=(Below.refl 0 w).setCell (p:=⟨g,k*5+3,none⟩) (Nat.zero_le _) (.string t)
 refine h.rows ⟨b.os,b.tape,b.output,b.size⟩ (fun b hb=>?_) (by rw [List.length_set];exact row_text t hk h.out) (sh_set h.sh ht)
 have hb:b≠g:=fun e=>hb (by rw [e];rfl)
 exact Below.heap_setCell _ _ _ _ hb
theorem SP.start [Inhabited Bs] {w w5:World} {q:Nat} {v ov:Value} {l:List Tr.Nd} (h:Rq rb vb n q w) (hn:NR w v l) (hg:(((w.alloc (.cells #[v] 50)).alloc (.cells #[.slice none 0 0] 50)).alloc (.cells #[] 82)).grownBy w5 (some (w.heap.size+1+1))) (hr:w5.ownsRow w.heap.size 82 5 ov l.length (Tr.cellsOf l)):SP rb vb n w v l w.heap.size (w.heap.size+1) w5.heap.size q ov l (w5.alloc (.cells #[ov] 50)):=by
 have hrl:=h.lt
 have b1:Below w.heap.size w (w.alloc (.cells #[v] 50)):=bA _
 have b2:Below w.heap.size w ((w.alloc (.cells #[v] 50)).alloc (.cells #[.slice none 0 0] 50)):=b1.alloc b1.size _
 have b3:Below w.heap.size w (((w.alloc (.cells #[v] 50)).alloc (.cells #[.slice none 0 0] 50)).alloc (.cells #[] 82)):=b2.alloc b2.size _
 have b5:Below w.heap.size w w5:=b3.grown hg b3.size (fun q e=>by have:=Option.some.inj e;omega)
 have b6:Below w5.heap.size w5 (w5.alloc (.cells #[ov] 50)):=bA _
 have hs3:(((w.alloc (.cells #[v] 50)).alloc (.cells #[.slice none 0 0] 50)).alloc (.cells #[] 82)).heap.size=w.heap.size+1+1+1:=by simp
 have hs5:=hg.size
 rw [hs3] at hs5
 have t1:(((w.alloc (.cells #[v] 50)).alloc (.cells #[.slice none 0 0] 50)).alloc (.cells #[] 82)).heap[w.heap.size]?=some (.cells #[v] 50):=by
  rw [(bA _).block _ (by simp;omega),(bA _).block _ (by simp)]
  exact heap_alloc_new' _ _
 have t2:(((w.alloc (.cells #[v] 50)).alloc (.cells #[.slice none 0 0] 50)).alloc (.cells #[] 82)).heap[w.heap.size+1]?=some (.cells #[.slice none 0 0] 50):=by
  rw [(bA _).block _ (by simp)]
  have:=heap_alloc_new' (w.alloc (.cells #[v] 50)) (.cells #[.slice none 0 0] 50)
  rw [World.size_alloc] at this
  exact this
 refine ⟨(h.below b5).below b6,((TyM.of b5).trans (.of b6)),(hn.below b5).below b6,fun b hb=>(hn.1.lt b hb).2,?_,?_,heap_alloc_new' _ _,row_belowP hr b6,hn.2,hrl,by omega,by omega,by omega,by omega,Nat.le_refl _⟩
 ·rw [b6.block _ (by omega),hg.block _ (by omega) (fun e=>by have:=Option.some.inj e;omega)];exact t1
 ·rw [b6.block _ (by omega),hg.block _ (by omega) (fun e=>by have:=Option.some.inj e;omega)];exact t2
end
theorem many31 [Inhabited Bs] (w:World):Calls Tryz.prog 10 #[.string ⟨#[110]⟩,.int .i64 31] w fun e w'=>∃ t:Short,e = .returned (.string t)∧w'=w:=many_any ⟨#[110]⟩ 31 w (by omega) (by decide)
theorem short10 [Inhabited Bs] (tx:Short) (zq:Nat) (h:zq < 10):∃ u:Short,([.string ⟨#[]⟩,.string ⟨#[110,49]⟩,.string ⟨#[112,48]⟩,.string ⟨#[115,48]⟩,.string ⟨#[102,48]⟩,.string ⟨#[108,101,116]⟩,.string ⟨#[57,120]⟩,.string ⟨#[65]⟩,.string ⟨#[108,101,110]⟩,.string tx.val]:List Value)[zq]?=some (.string u.val):=by
 have hz2:zq=9∨zq=0∨zq=1∨zq=2∨zq=3∨zq=4∨zq=5∨zq=6∨zq=7∨zq=8:=by omega
 rcases hz2 with rfl | hz2
 ·exact ⟨tx,rfl⟩
 ·rcases hz2 with rfl | rfl | rfl | rfl | rfl | rfl | rfl | rfl | rfl <;> exact ⟨⟨_,by exact Nat.le_of_ble_eq_true rfl⟩,rfl⟩
theorem short8 [Inhabited Bs] (zq:Nat) (h:zq < 8):∃ u:Short,([.string ⟨#[110,49]⟩,.string ⟨#[110,50]⟩,.string ⟨#[112,48]⟩,.string ⟨#[112,49]⟩,.string ⟨#[115,48]⟩,.string ⟨#[115,49]⟩,.string ⟨#[102,48]⟩,.string ⟨#[110,111,110,101,95,115,117,99,104]⟩]:List Value)[zq]?=some (.string u.val):=by
 have hz2:zq=0∨zq=1∨zq=2∨zq=3∨zq=4∨zq=5∨zq=6∨zq=7:=by omega
 rcases hz2 with rfl | rfl | rfl | rfl | rfl | rfl | rfl | rfl <;> exact ⟨⟨_,by exact Nat.le_of_ble_eq_true rfl⟩,rfl⟩
theorem sh_leaf [Inhabited Bs]:Sh [(⟨1,0,0,⟨#[]⟩,0⟩:Tr.Nd)]:=sh_one (Nat.le_of_ble_eq_true rfl)
def swOf:Code→Option Code
 | .block n c=>some (.block n c)
 | .seq a b=>match swOf a with
  | some c=>some c
  | none=>swOf b
 | _=>none
theorem wp_at [Inhabited Bs] {P:Program} {c:Code} {Q:Exit→Act→World→Prop} {a:Act} {w:World} {o:Option Code} (h:o=some c) (hw:Code.wp P c Q a w) (c':Code) (h':o=some c'):Code.wp P c' Q a w:=by
 cases h.symm.trans h';exact hw
set_option maxRecDepth 100000 in
def spJ [Inhabited Bs] (rb:Nat) (vb:Value) (n q:Nat) (l:List Tr.Nd) (w:World) (g c ob og oc xb k:Nat) (s1 s2 s14 s15 s16 s17 s18 s19 s20 s21 s22 s23 s24 s25 s26 s27 s28 s29 s30 s31 s32 s33 s34 s35 s36 s37 s38:Value) (J:Act→World→Prop):Prop:=∀ (a':Act) (w':World),(∃ u9 u10 u11 u12 u13 u39 u40 u41 u42 u43 u44 u45 u46 u47 u48 u49 u50 u51 u52 u53 u54 u55 u56 u57 u58 u59 u60 u61 u62 u63 u64 u65 u66 u67 u68 u69 u70 u71 u72 u73 u74 u75 u76 u77 u78 u79 u80 u81 u82 u83 u84 u85 u86 u87 u88 u89 u90 u91 u92 u93 u94 u95 u96 u97 u98 u99 u100 u101 u102 u103 u104 u105 u106 u107 u108 u109 u110 u111 u112 u113 u114 u115 u116 u117 u118 u119 u120 u121 u122 u123 u124 u125 u126 u127 u128 u129 u130 u131 u132 u133 u134 u135 u136 u137 u138 u139 u140 u141 u142 u143 u144 u145 u146 u147 u148 u149 u150 u151 u152 u153 u154 u155 u156 u157 u158 u159 u160 u161 u162 u163 u164 u165 u166 u167 u168 u169 u170 u171 u172 u173 u174 u175 u176 u177 u178 u179 u180 u181 u182 u183 u184 u185 u186 u187 u188 u189 u190 u191 u192 u193 u194 u195 u196 u197 u198 u199 u200:Value,(∃ x,SP rb vb n w (.slice (some ⟨g,0,none⟩) l.length c) l w.heap.size (w.heap.size+1) ob (q+6) (.slice (some ⟨og,0,none⟩) l.length oc) l w'∧XN w xb (.slice (some ⟨og,0,none⟩) l.length oc) x w')∧a'={tmps:=#[.pointer (some ⟨rb,0,none⟩),s1,s2,.pointer (some ⟨w.heap.size,0,none⟩),.pointer (some ⟨w.heap.size+1,0,none⟩),.pointer (some ⟨ob,0,none⟩),.int .i64 (l.length:Int),.int .i64 (k:Int),.pointer (some ⟨xb,0,none⟩),u9,u10,u11,u12,u13,s14,s15,s16,s17,s18,s19,s20,s21,s22,s23,s24,s25,s26,s27,s28,s29,s30,s31,s32,s33,s34,s35,s36,s37,s38,u39,u40,u41,u42,u43,u44,u45,u46,u47,u48,u49,u50,u51,u52,u53,u54,u55,u56,u57,u58,u59,u60,u61,u62,u63,u64,u65,u66,u67,u68,u69,u70,u71,u72,u73,u74,u75,u76,u77,u78,u79,u80,u81,u82,u83,u84,u85,u86,u87,u88,u89,u90,u91,u92,u93,u94,u95,u96,u97,u98,u99,u100,u101,u102,u103,u104,u105,u106,u107,u108,u109,u110,u111,u112,u113,u114,u115,u116,u117,u118,u119,u120,u121,u122,u123,u124,u125,u126,u127,u128,u129,u130,u131,u132,u133,u134,u135,u136,u137,u138,u139,u140,u141,u142,u143,u144,u145,u146,u147,u148,u149,u150,u151,u152,u153,u154,u155,u156,u157,u158,u159,u160,u161,u162,u163,u164,u165,u166,u167,u168,u169,u170,u171,u172,u173,u174,u175,u176,u177,u178,u179,u180,u181,u182,u183,u184,u185,u186,u187,u188,u189,u190,u191,u192,u193,u194,u195,u196,u197,u198,u199,u200],defers:=[]})→J a' w'
set_option maxRecDepth 100000 in
set_option maxHeartbeats 16000000 in
theorem sp_0 [Inhabited Bs] (z:Nat) (hz5:z=0∨z=1∨z=2∨z=3∨z=4) (rb:Nat) (vb:Value) (n q:Nat) (l:List Tr.Nd) (w:World) (g c ob og oc xb k:Nat) (x0:Tr.Nd) (wc:World) (_hl:l.length≤300000) (_hq:q≤700000000) (_hl1:((l.length:Int) == 0)=false) (_hlp:(0:Int) < (l.length:Int)) (_hk:k < l.length) (_hrw:rb < w.heap.size) (_HSH:Hid (Sh l)) (HS4:Hid (SP rb vb n w (.slice (some ⟨g,0,none⟩) l.length c) l w.heap.size (w.heap.size+1) ob (q+3) (.slice (some ⟨og,0,none⟩) l.length oc) l wc)) (HX4:Hid (XN w xb (.slice (some ⟨og,0,none⟩) l.length oc) x0 wc))
  {s1 s2 s14 s15 s16 s17 s18 s19 s20 s21 s22 s23 s24 s25 s26 s27 s28 s29 s30 s31 s32 s33 s34 s35 s36 s37 s38 u9 u10 u11 u12 u13 u40 u41 u42 u43 u44 u45 u46 u47 u48 u49 u50 u51 u52 u53 u54 u55 u56 u57 u58 u59 u60 u61 u62 u63 u64 u65 u66 u67 u68 u69 u70 u71 u72 u73 u74 u75 u76 u77 u78 u79 u80 u81 u82 u83 u84 u85 u86 u87 u88 u89 u90 u91 u92 u93 u94 u95 u96 u97 u98 u99 u100 u101 u102 u103 u104 u105 u106 u107 u108 u109 u110 u111 u112 u113 u114 u115 u116 u117 u118 u119 u120 u121 u122 u123 u124 u125 u126 u127 u128 u129 u130 u131 u132 u133 u134 u135 u136 u137 u138 u139 u140 u141 u142 u143 u144 u145 u146 u147 u148 u149 u150 u151 u152 u153 u154 u155 u156 u157 u158 u159 u160 u161 u162 u163 u164 u165 u166 u167 u168 u169 u170 u171 u172 u173 u174 u175 u176 u177 u178 u179 u180 u181 u182 u183 u184 u185 u186 u187 u188 u189 u190 u191 u192 u193 u194 u195 u196 u197 u198 u199 u200:Value} (J K':Act→World→Prop)
  (hJ:spJ rb vb n q l w g c ob og oc xb k s1 s2 s14 s15 s16 s17 s18 s19 s20 s21 s22 s23 s24 s25 s26 s27 s28 s29 s30 s31 s32 s33 s34 s35 s36 s37 s38 J)
  (hM:∀ (a':Act) (w':World),Met J a' w'→K' a' w') (cc:Code) (hcc:(Tryz.f40.body.bind swOf)=some cc) :
  Code.wp Tryz.prog cc (Exit.then K' (bodyPost Tryz.prog Tryz.f40 fun e w'=>∃ v' l',e = .returned (.agg #[v'])∧NR w' v' l'∧l'.length≤l.length+1∧Rq rb vb n (q+10) w'∧Tf w w')) {tmps:=#[.pointer (some ⟨rb,0,none⟩),s1,s2,.pointer (some ⟨w.heap.size,0,none⟩),.pointer (some ⟨w.heap.size+1,0,none⟩),.pointer (some ⟨ob,0,none⟩),.int .i64 (l.length:Int),.int .i64 (k:Int),.pointer (some ⟨xb,0,none⟩),u9,u10,u11,u12,u13,s14,s15,s16,s17,s18,s19,s20,s21,s22,s23,s24,s25,s26,s27,s28,s29,s30,s31,s32,s33,s34,s35,s36,s37,s38,.int .i64 (z:Int),u40,u41,u42,u43,u44,u45,u46,u47,u48,u49,u50,u51,u52,u53,u54,u55,u56,u57,u58,u59,u60,u61,u62,u63,u64,u65,u66,u67,u68,u69,u70,u71,u72,u73,u74,u75,u76,u77,u78,u79,u80,u81,u82,u83,u84,u85,u86,u87,u88,u89,u90,u91,u92,u93,u94,u95,u96,u97,u98,u99,u100,u101,u102,u103,u104,u105,u106,u107,u108,u109,u110,u111,u112,u113,u114,u115,u116,u117,u118,u119,u120,u121,u122,u123,u124,u125,u126,u127,u128,u129,u130,u131,u132,u133,u134,u135,u136,u137,u138,u139,u140,u141,u142,u143,u144,u145,u146,u147,u148,u149,u150,u151,u152,u153,u154,u155,u156,u157,u158,u159,u160,u161,u162,u163,u164,u165,u166,u167,u168,u169,u170,u171,u172,u173,u174,u175,u176,u177,u178,u179,u180,u181,u182,u183,u184,u185,u186,u187,u188,u189,u190,u191,u192,u193,u194,u195,u196,u197,u198,u199,u200],defers:=[]} wc:=by
 obtain ⟨iN,hNi,hNz,hNs,hNb⟩:=info_parts Tryz.infoNdP
 refine wp_at (o:=Tryz.f40.body.bind swOf) rfl ?_ cc hcc
 unfold spJ at hJ
 clear hcc
 rcases hz5 with rfl | rfl | rfl | rfl | rfl
 ·go_wp2_with fail
  refine (Rq.pick HS4.out.r (by omega) 27 (by omega) (by omega)).mono ?_
  rintro e w10 ⟨zq,hzq,rfl,hr10,ht10⟩
  have HS8:=hide (HS4.out.ty ht10 hr10)
  have HX8:=hide (HX4.out.ty ht10)
  clear hr10 ht10
  have hwz:IntKind.i64.wrap ((zq:Int) - 1)=(zq:Int) - 1:=by rw [IntKind.wrap_i64];omega
  obtain ⟨y0,y1,y2,y3,y4,yf⟩:=HX8.out.cells
  have yfo:=yf 0
  have HS9:=hide (HS8.out.setX HX8.out 0 (.int .i64 ((zq:Int) - 1)))
  have HX9:=hide (HX8.out.set 0 (.int .i64 ((zq:Int) - 1)) ⟨(zq:Int) - 1,x0.op,x0.n,x0.text,x0.kids⟩ rfl HX8.out.sh)
  clear yf
  go_wp2_with fail
  go_meet
  case rel=>exact ⟨_,HS9.out.mono (by omega),HX9.out⟩
 ·have BD:Below wc.heap.size wc wc.drew:=(Below.refl _ _).drew
  have HSd:=hide (HS4.out.below BD)
  have HXd:=hide (HX4.out.below BD)
  obtain ⟨y0,y1,y2,y3,y4,yf⟩:=HXd.out.cells
  clear yf BD
  go_wp2_with fail
  go_region_law (first
   | (refine step_call2E rfl 8 (.tmp 64) (.const (.int .i64 5)) _ _ rfl (.pointer (some ⟨rb,0,none⟩)) (.int .i64 5) (by first | (simp [Act.eval];done) | simp [Act.eval,Act.put]) (by first | (simp [Act.eval];done) | simp [Act.eval,Act.put]) Tryz.f8 Tryz.func8 (by kernel_rfl) (by kernel_rfl) _ (Rq.pick_ex HSd.out.r (by omega) 5 (by omega) (by omega)) ?_;intro v10 w10 h10;obtain ⟨zq,hzq,hv10,hr10,ht10⟩:=h10;subst hv10;have HS8:=hide (HSd.out.ty ht10 hr10);have HX8:=hide (HXd.out.ty ht10);obtain ⟨z0,z1',z2',z3,z4,zf⟩:=HX8.out.cells;have zfo:=zf 1;clear hr10 ht10 zf))
  all_goals
   have HS9:=hide (fun z:Int=>HS8.out.setX HX8.out 1 (.int .i64 z))
   have HX9:=hide (fun z:Int=>HX8.out.set 1 (.int .i64 z) ⟨x0.kind,z,x0.n,x0.text,x0.kids⟩ rfl HX8.out.sh)
   go_wp2_with fail
   go_meet
   case rel=>exact ⟨_,(HS9.out _).mono (by omega),HX9.out _⟩
 ·have BL:Below wc.heap.size wc (wc.alloc (.cells #[.int .i64 (-1),.int .i64 0,.int .i64 1,.int .i64 2] 2)):=bA _
  have HSL:=hide (HS4.out.below BL)
  have HXL:=hide (HX4.out.below BL)
  have HLL:=hide (World.ownsRow_lit (base:=0) (e:=2) (size:=1) wc #[.int .i64 (-1),.int .i64 0,.int .i64 1,.int .i64 2] 4 (Nat.zero_le _) (by unfold maxLen;omega) rfl)
  clear BL
  go_wp2_with fail
  refine (Rq.pick HSL.out.r (by omega) 4 (by omega) (by omega)).mono ?_
  rintro e w10 ⟨zq,hzq,rfl,hr10,ht10⟩
  have HS8:=hide (HSL.out.ty ht10 hr10)
  have HX8:=hide (HXL.out.ty ht10)
  have HL9:=hide (row_ty HLL.out ht10 (by unfold Mine;simp))
  clear hr10 ht10
  obtain ⟨u,hu⟩:∃ u,([.int .i64 (-1),.int .i64 0,.int .i64 1,.int .i64 2]:List Value)[zq]?=some (.int .i64 u):=by
   have hz2:zq=0∨zq=1∨zq=2∨zq=3:=by omega
   rcases hz2 with rfl | rfl | rfl | rfl <;> exact ⟨_,rfl⟩
  have cl:=row_cellsC HL9.out hu
  clear hu
  obtain ⟨y0,y1,y2,y3,y4,yf⟩:=HX8.out.cells
  have yfo:=yf 2
  have HS9:=hide (HS8.out.setX HX8.out 2 (.int .i64 u))
  have HX9:=hide (HX8.out.set 2 (.int .i64 u) ⟨x0.kind,x0.op,u,x0.text,x0.kids⟩ rfl HX8.out.sh)
  clear yf
  go_wp2_with fail
  go_meet
  case rel=>exact ⟨_,HS9.out.mono (by omega),HX9.out⟩
 ·have HM:=hide (many31 wc)
  go_wp2_with fail
  refine HM.out.mono ?_
  rintro e w9 ⟨tx,rfl,rfl⟩
  have BL:Below w9.heap.size w9 (w9.alloc (.cells #[.string ⟨#[]⟩,.string ⟨#[110,49]⟩,.string ⟨#[112,48]⟩,.string ⟨#[115,48]⟩,.string ⟨#[102,48]⟩,.string ⟨#[108,101,116]⟩,.string ⟨#[57,120]⟩,.string ⟨#[65]⟩,.string ⟨#[108,101,110]⟩,.string tx.val] 9)):=bA _
  have HSL:=hide (HS4.out.below BL)
  have HXL:=hide (HX4.out.below BL)
  have HLL:=hide (World.ownsRow_lit (base:=0) (e:=9) (size:=1) w9 #[.string ⟨#[]⟩,.string ⟨#[110,49]⟩,.string ⟨#[112,48]⟩,.string ⟨#[115,48]⟩,.string ⟨#[102,48]⟩,.string ⟨#[108,101,116]⟩,.string ⟨#[57,120]⟩,.string ⟨#[65]⟩,.string ⟨#[108,101,110]⟩,.string tx.val] 10 (Nat.zero_le _) (by unfold maxLen;omega) rfl)
  clear BL HM
  go_wp2_with fail
  refine (Rq.pick HSL.out.r (by omega) 10 (by omega) (by omega)).mono ?_
  rintro e w10 ⟨zq,hzq,rfl,hr10,ht10⟩
  have HS8:=hide (HSL.out.ty ht10 hr10)
  have HX8:=hide (HXL.out.ty ht10)
  have HL9:=hide (row_ty HLL.out ht10 (by unfold Mine;simp))
  clear hr10 ht10
  obtain ⟨u,hu⟩:=short10 tx zq (by omega)
  have cl:=row_cellsC HL9.out hu
  clear hu
  obtain ⟨y0,y1,y2,y3,y4,yf⟩:=HX8.out.cells
  have yfo:=yf 3
  have HS9:=hide (HS8.out.setX HX8.out 3 (.string u.val))
  have HX9:=hide (HX8.out.set 3 (.string u.val) ⟨x0.kind,x0.op,x0.n,u.val,x0.kids⟩ rfl u.2)
  clear yf
  go_wp2_with fail
  go_meet
  case rel=>exact ⟨_,HS9.out.mono (by omega),HX9.out⟩
 ·have BD:Below wc.heap.size wc wc.drew:=(Below.refl _ _).drew
  have HSd:=hide (HS4.out.below BD)
  have HXd:=hide (HX4.out.below BD)
  obtain ⟨y0,y1,y2,y3,y4,yf⟩:=HXd.out.cells
  clear yf BD
  go_wp2_with fail
  go_region_law (first
   | (refine step_call2E rfl 8 (.tmp 90) (.const (.int .i64 3)) _ _ rfl (.pointer (some ⟨rb,0,none⟩)) (.int .i64 3) (by first | (simp [Act.eval];done) | simp [Act.eval,Act.put]) (by first | (simp [Act.eval];done) | simp [Act.eval,Act.put]) Tryz.f8 Tryz.func8 (by kernel_rfl) (by kernel_rfl) _ (Rq.pick_ex HSd.out.r (by omega) 3 (by omega) (by omega)) ?_;intro v10 w10 h10;obtain ⟨zq,hzq,hv10,hr10,ht10⟩:=h10;subst hv10;have HS8:=hide (HSd.out.ty ht10 hr10);have HX8:=hide (HXd.out.ty ht10);obtain ⟨z0,z1',z2',z3,z4,zf⟩:=HX8.out.cells;have zfo:=zf 4;clear hr10 ht10 zf))
  all_goals
   have HS9:=hide (fun z:Int=>HS8.out.setX HX8.out 4 (.int .i64 z))
   have HX9:=hide (fun z:Int=>HX8.out.set 4 (.int .i64 z) ⟨x0.kind,x0.op,x0.n,x0.text,z⟩ rfl HX8.out.sh)
   go_wp2_with fail
   go_meet
   case rel=>exact ⟨_,(HS9.out _).mono (by omega),HX9.out _⟩
end Go.Proofs.YtbckhbeebngjfaaGreatDoor
