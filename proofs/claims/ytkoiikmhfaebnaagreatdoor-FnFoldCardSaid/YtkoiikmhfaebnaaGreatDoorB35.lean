import Derived.Test.YtkoiikmhfaebnaaGreatDoorB26
import Derived.Test.YtkoiikmhfaebnaaGreatDoorB33
import Derived.Laws.AppendOwnNone
set_option maxRecDepth 100000
namespace Go.Proofs.YtkoiikmhfaebnaaGreatDoor
open Tryz Go.RowKit
theorem S5[LB]{w w':World}{base size:Nat}{e:TypeId}{v:Value}{n:Nat}{j:List Value}(h:w.ownsRow base e size v n j)(t:∀q,v.ownBlock=some q->w'.heap[q]?=w.heap[q]?):w'.ownsRow base e size v n j:=by
 refine⟨h.1,?_⟩;rcases h.2 with k|⟨g,a,c,d,m,r,s⟩
 .exact .inl k
 .exact .inr ⟨g,a,c,d,m,(t g (by rw[d];rfl)).trans r,s⟩
theorem Rq.pick_ex[LB]{rb:Nat}{vb:Value}{n q:Nat}{w:World}(h:Rq rb vb n q w)(j:q<=900000000)(m:Int)(d:1<=m)(g:m<=1000000):Calls prog 23 #[.pointer (some ⟨rb,0,none⟩),.int .i64 m] w fun e w1=>∃r,e= .returned r/\∃z:Nat,(z:Int)<m/\r= .int .i64 (z:Int)/\Rq rb vb n (q+1) w1/\Ty w w1:=(h.pick j m d g).mono fun _ _ ⟨z,a,b,c⟩=>⟨_,b,z,a,rfl,c⟩
theorem Il[LB](l:List Nd):(Xe l).length=l.length*5:=by
 induction l with
 | nil=>rfl
 | cons d l a=>
  have e:Xe (d::l)=Xe [d]++Xe l:=Vw [d] l;rw[e,Xo,a,Ya];show 5+_=_;omega
theorem DV[LB](l:List Nd)(k:Nat)(a:k<l.length):Xe l=Xe (l.take k)++ .int .i64 l[k].kind :: .int .i64 l[k].op :: .int .i64 l[k].n :: .string l[k].text :: .int .i64 l[k].kids::Xe (l.drop (k+1)):=by
 conv=>lhs;rw[←Vh k l,Zp a]
 rw[Vw];rfl
theorem PD[LB](l:List Nd)(k:Nat)(x:Nd)(a:k<l.length):Xe (l.set k x)=Xe (l.take k)++ .int .i64 x.kind :: .int .i64 x.op :: .int .i64 x.n :: .string x.text :: .int .i64 x.kids::Xe (l.drop (k+1)):=by
 rw[List.set_eq_take_append_cons_drop,X3 a,Vw];rfl
theorem Di[LB](A B:List Value)(a b c d e v:Value)(m i:Nat)(g:A.length=m):(A++a::b::c::d::e::B).set (m+i) v=A++(a::b::c::d::e::B).set i v:=by
 rw[P3 _ _ (by omega),show m+i-A.length=i by omega]
theorem Gt[LB](l:List Nd)(k:Nat)(a:k<l.length):(Xe (l.take k)).length=k*5:=by rw[Il,YM];congr 1;omega
theorem Y1r[LB]{W:World}{B g c k:Nat}{l:List Nd}(t:ByteArray)(a:k<l.length)(j:W.ownsRow B 48 5 (.slice (some ⟨g,0,none⟩) l.length c) l.length (Xe l)):(W.setCell ⟨g,k*5+3,none⟩ (.string t)).ownsRow B 48 5 (.slice (some ⟨g,0,none⟩) l.length c) l.length (Xe (l.set k {l[k]with text:=t})):=by
 have d:=(j.stored (k*5+3) (.string t)).1;rw[DV l k a,Di _ _ _ _ _ _ _ _ _ 3 (Gt l k a)]at d;rw[PD l k _ a];exact d
theorem Y1l[LB]{W:World}{B g c k:Nat}{l:List Nd}(z:Int)(a:k<l.length)(j:W.ownsRow B 48 5 (.slice (some ⟨g,0,none⟩) l.length c) l.length (Xe l)):(W.setCell ⟨g,k*5+4,none⟩ (.int .i64 z)).ownsRow B 48 5 (.slice (some ⟨g,0,none⟩) l.length c) l.length (Xe (l.set k {l[k]with kids:=z})):=by
 have d:=(j.stored (k*5+4) (.int .i64 z)).1;rw[DV l k a,Di _ _ _ _ _ _ _ _ _ 4 (Gt l k a)]at d;rw[PD l k _ a];exact d
theorem Y1n[LB]{W:World}{B g c k:Nat}{l:List Nd}(x:Nd)(d:k<l.length)(u:W.ownsRow B 48 5 (.slice (some ⟨g,0,none⟩) l.length c) l.length (Xe l)): (((((W.setCell ⟨g,k*5,none⟩ (.int .i64 x.kind)).setCell ⟨g,k*5+1,none⟩ (.int .i64 x.op)).setCell ⟨g,k*5+2,none⟩ (.int .i64 x.n)).setCell ⟨g,k*5+3,none⟩ (.string x.text)).setCell ⟨g,k*5+4,none⟩ (.int .i64 x.kids)).ownsRow B 48 5 (.slice (some ⟨g,0,none⟩) l.length c) l.length (Xe (l.set k x)):=by
 have a:=Gt l k d;rw[DV l k d]at u;have y:=(u.stored (k*5) (.int .i64 x.kind)).1;have t:=Di (Xe (l.take k)) (Xe (l.drop (k+1))) (.int .i64 l[k].kind) (.int .i64 l[k].op) (.int .i64 l[k].n) (.string l[k].text) (.int .i64 l[k].kids) (.int .i64 x.kind) (k*5) 0 a;change List.set _ (k*5) _=_ at t;rw[t]at y;have j:=(y.stored (k*5+1) (.int .i64 x.op)).1;simp only[Lt]at j;rw[Di _ _ _ _ _ _ _ _ _ 1 a]at j;have m:=(j.stored (k*5+2) (.int .i64 x.n)).1;simp only[Lt,A0]at m;rw[Di _ _ _ _ _ _ _ _ _ 2 a]at m;have r:=(m.stored (k*5+3) (.string x.text)).1;simp only[Lt,A0]at r;rw[Di _ _ _ _ _ _ _ _ _ 3 a]at r;have s:=(r.stored (k*5+4) (.int .i64 x.kids)).1;simp only[Lt,A0]at s;rw[Di _ _ _ _ _ _ _ _ _ 4 a]at s;rw[PD l k x d];exact s
theorem AW[LB]{W:World}{B g c k:Nat}{l:List Nd}(d:W.ownsRow B 48 5 (.slice (some ⟨g,0,none⟩) l.length c) l.length (Xe l))(r:k<=l.length)(j:Nat)(u:Value)(m:(Xe (l.drop k))[j]?=some u):W.cell? ((⟨g,k*5,none⟩:Addr).add j)=some u:=by
 have a:=JN d rfl (k*5+j) u (by
  have e:Xe l=Xe (l.take k)++Xe (l.drop k):=by rw[←Vw,Vh]
  have s:(Xe (l.take k)).length=k*5:=by rw[Il,YM];congr 1;omega
  rw[e,K6 (by omega),show k*5+j-(Xe (l.take k)).length=j by omega];exact m)
 rw[Ye,Xn]at a;rw[Ye];exact a
theorem Sb[LB]{l:List Nd}{k:Nat}{x:Nd}(h:Sh l)(c:Sm x):Sh (l.set k x):=fun y d=>by
 rcases List.mem_or_eq_of_mem_set d with a|rfl
 .exact h y a
 .exact c
section
variable (rb:Nat) (vb:Value) (n:Nat) (W0:World) (v:Value) (l0:List Nd) (tb rx ob:Nat)
structure SP [LB] (q:Nat) (ov:Value) (l:List Nd) (w:World):Prop where
 r:Rq rb vb n q w
 tf:Tf W0 w
 src:NR w v l0
 vlo:∀b,v.ownBlock=some b->b<W0.heap.size
 tbx:w.heap[tb]?=some (.cells #[v] 25)
 rbx:w.heap[rx]?=some (.cells #[.slice none 0 0] 25)
 obx:w.heap[ob]?=some (.cells #[ov] 25)
 o:w.ownsRow W0.heap.size 48 5 ov l.length (Xe l)
 sh:Sh l
 lo:rb<W0.heap.size/\W0.heap.size<=rx/\W0.heap.size<=ob/\rx≠ob/\tb≠ob/\W0.heap.size<=tb
end
section
variable {rb:Nat} {vb:Value} {n:Nat} {W0:World} {v:Value} {l0:List Nd} {tb rx ob:Nat} {q:Nat} {ov:Value} {l:List Nd} {w w':World}
theorem SP.ty[LB](h:SP rb vb n W0 v l0 tb rx ob q ov l w)(a:Ty w w'){q':Nat}(c:Rq rb vb n q' w'):SP rb vb n W0 v l0 tb rx ob q' ov l w':=⟨c,h.tf.trans (Ty.tf a),h.src.ty a,h.vlo,Ty.same a h.tbx VD,Ty.same a h.rbx VD,Ty.same a h.obx VD,YL h.o a IV,h.sh,h.lo⟩
theorem SP.below[LB](h:SP rb vb n W0 v l0 tb rx ob q ov l w)(a:BL w w'):SP rb vb n W0 v l0 tb rx ob q ov l w':=h.ty (.of a) (h.r.below a)
theorem SP.mono[LB](h:SP rb vb n W0 v l0 tb rx ob q ov l w){q':Nat}(a:q<=q'):SP rb vb n W0 v l0 tb rx ob q' ov l w:=h.ty (.refl _) (h.r.mono a)
theorem SP.cells[LB](h:SP rb vb n W0 v l0 tb rx ob q ov l w):w.cell? ⟨tb,0,none⟩=some v/\w.cell? ⟨rx,0,none⟩=some (.slice none 0 0)/\w.cell? ⟨ob,0,none⟩=some ov/\w.frozen? ⟨rx,0,none⟩=false/\w.frozen? ⟨ob,0,none⟩=false:=⟨(ZK h.tbx).1,(ZK h.rbx).1,(ZK h.obx).1,(ZK h.rbx).2,(ZK h.obx).2⟩
theorem SP.rty[LB](h:SP rb vb n W0 v l0 tb rx ob q ov l w):Xm w rx=some 25:=by unfold Xm;rw[h.rbx];rfl
theorem SP.oty[LB](h:SP rb vb n W0 v l0 tb rx ob q ov l w):Xm w ob=some 25:=by unfold Xm;rw[h.obx];rfl
theorem SP.ret[LB](h:SP rb vb n W0 v l0 tb rx ob q ov l w){v':Value}{l':List Nd}(a:NR w v' l'):NR (w.setCell ⟨rx,0,none⟩ v') v' l'/\Rq rb vb n q (w.setCell ⟨rx,0,none⟩ v')/\Tf W0 (w.setCell ⟨rx,0,none⟩ v'):=by
 have lo:=h.lo;exact⟨a.S9 (by rw[h.rty];decide),h.r.set (by omega),Uq h.tf lo.2.1⟩
theorem SP.rows[LB](h:SP rb vb n W0 v l0 tb rx ob q ov l w){l':List Nd}(c:w'.os=w.os/\w'.tape=w.tape/\w'.output=w.output/\w.heap.size<=w'.heap.size)(j:∀b,some b≠ov.ownBlock->w'.heap[b]?=w.heap[b]?)(k:w'.ownsRow W0.heap.size 48 5 ov l'.length (Xe l'))(m:Sh l'):SP rb vb n W0 v l0 tb rx ob q ov l' w':=by
 have lo:=h.lo;have own:∀b,ov.ownBlock=some b->W0.heap.size<=b/\Xm w b=some 48:=fun b e=>⟨(h.o.lt b e).1,Q5 h.o e⟩;have s:∀b t,Xm w b=some t->t≠48->w'.heap[b]?=w.heap[b]?:=fun b t A hne=>j b (fun e=>by have:=(own b e.symm).2;rw[A]at this;exact hne (YD this));have d:∀b,b<W0.heap.size->w'.heap[b]?=w.heap[b]?:=fun b u=>j b (fun e=>by have:=(own b e.symm).1;omega);refine⟨?_,?_,?_,h.vlo,(s tb _ (by unfold Xm;rw[h.tbx];rfl) (by decide)).trans h.tbx,(s rx _ h.rty (by decide)).trans h.rbx,(s ob _ h.oty (by decide)).trans h.obx,k,m,h.lo⟩
 .obtain⟨p,z,k⟩:=h.r;exact⟨p,z,k.Uw (fun b j=>d b (by omega))⟩
 .exact⟨c.1.trans h.tf.os,c.2.1.trans h.tf.tape,c.2.2.1.trans h.tf.output,XO h.tf.size c.2.2.2,fun b a g=>(d b a).trans (h.tf.block b a g),fun y=>absurd (.inr rfl) y,fun b a g=>(d b a).trans (h.tf.old b a g)⟩
 .exact⟨S5 h.src.1 (fun b e=>d b (h.vlo b e)),h.src.2⟩
end
section
variable {rb:Nat} {vb:Value} {n:Nat} {W0:World} {v:Value} {l0:List Nd} {tb rx ob:Nat} {q:Nat} {ov:Value} {l:List Nd} {w:World}
theorem SP.EX[LB](h:SP rb vb n W0 v l0 tb rx ob q ov l w){ov':Value}{l':List Nd}(g:w.ownsRow W0.heap.size 48 5 ov' l'.length (Xe l'))(a:Sh l'):SP rb vb n W0 v l0 tb rx ob q ov' l' (w.setCell ⟨ob,0,none⟩ ov'):=by
 have lo:=h.lo;have c:∀b,b≠ob->(w.setCell ⟨ob,0,none⟩ ov').heap[b]?=w.heap[b]?:=fun b d=>Y4 _ _ _ _ d;refine⟨h.r.set (by omega),Uq h.tf lo.2.2.1,h.src.S9 (by rw[h.oty];decide),h.vlo,(c tb lo.2.2.2.2.1).trans h.tbx,(c rx lo.2.2.2.1).trans h.rbx,?_,Kc g (by rw[h.oty];decide),a,h.lo⟩;rw[Mo h.obx];rfl
end
section
variable (W0:World) (xb:Nat) (ov:Value)
structure XN (x:Nd) (w:World):Prop where
 box:w.heap[xb]?=some (.cells #[.int .i64 x.kind,.int .i64 x.op,.int .i64 x.n,.string x.text,.int .i64 x.kids] 48)
 sh:Sm x
 ne:ov.ownBlock≠some xb
 lo:W0.heap.size<=xb
end
section
variable {rb:Nat} {vb:Value} {n:Nat} {W0:World} {v:Value} {l0:List Nd} {tb rx ob xb:Nat} {q:Nat} {ov:Value} {l:List Nd} {w w':World} {x:Nd}
theorem XN.ty[LB](h:XN W0 xb ov x w)(a:Ty w w'):XN W0 xb ov x w':=⟨Ty.same a h.box IV,h.sh,h.ne,h.lo⟩
theorem XN.below[LB](h:XN W0 xb ov x w)(a:BL w w'):XN W0 xb ov x w':=h.ty (.of a)
theorem XN.cells[LB](h:XN W0 xb ov x w):w.cell? ⟨xb,0,none⟩=some (.int .i64 x.kind)/\w.cell? ⟨xb,1,none⟩=some (.int .i64 x.op)/\w.cell? ⟨xb,2,none⟩=some (.int .i64 x.n)/\w.cell? ⟨xb,3,none⟩=some (.string x.text)/\w.cell? ⟨xb,4,none⟩=some (.int .i64 x.kids)/\∀j,w.frozen? ⟨xb,j,none⟩=false:=by
 refine⟨?_,?_,?_,?_,?_,fun j=>?_⟩
 .rw[World.cell?,h.box];rfl
 .rw[World.cell?,h.box];rfl
 .rw[World.cell?,h.box];rfl
 .rw[World.cell?,h.box];rfl
 .rw[World.cell?,h.box];rfl
 .rw[World.frozen?,h.box];simp
theorem XN.set[LB](h:XN W0 xb ov x w)(o:Nat)(u:Value)(a:Nd)(d:(#[.int .i64 x.kind,.int .i64 x.op,.int .i64 x.n,.string x.text,.int .i64 x.kids]:Array Value).setIfInBounds o u=#[.int .i64 a.kind,.int .i64 a.op,.int .i64 a.n,.string a.text,.int .i64 a.kids])(c:Sm a):XN W0 xb ov a (w.setCell ⟨xb,o,none⟩ u):=⟨by rw[Mo h.box,d],c,h.ne,h.lo⟩
theorem SP.L5[LB](h:SP rb vb n W0 v l0 tb rx ob q ov l w)(c:XN W0 xb ov x w)(o:Nat)(u:Value):SP rb vb n W0 v l0 tb rx ob q ov l (w.setCell ⟨xb,o,none⟩ u):=by
 have lo:=h.lo;have k:=c.lo;have a:∀b,b≠xb->(w.setCell ⟨xb,o,none⟩ u).heap[b]?=w.heap[b]?:=fun b g=>Y4 _ _ _ _ g;have d:∀b,Xm w b=some 25->b≠xb:=fun b j e=>by
  have:Xm w xb=some 48:=by unfold Xm;rw[c.box];rfl
  rw[←e,j]at this;cases this
 refine⟨?_,Uq h.tf k,⟨S5 h.src.1 (fun b e=>a b (by have:=h.vlo b e;omega)),h.src.2⟩,h.vlo,(a tb (d tb (by unfold Xm;rw[h.tbx];rfl))).trans h.tbx,(a rx (d rx h.rty)).trans h.rbx,(a ob (d ob h.oty)).trans h.obx,S5 h.o (fun b e=>a b (fun e'=>c.ne (by rw[e,e']))),h.sh,h.lo⟩;exact h.r.set (by omega)
end
theorem Ec[LB](l:List Nd)(k:Nat)(a:k<l.length):(Xe l)[k*5]?=some (.int .i64 l[k].kind)/\(Xe l)[k*5+1]?=some (.int .i64 l[k].op)/\(Xe l)[k*5+2]?=some (.int .i64 l[k].n)/\(Xe l)[k*5+3]?=some (.string l[k].text)/\(Xe l)[k*5+4]?=some (.int .i64 l[k].kids):=by
 have d:=Gt l k a;rw[DV l k a];refine⟨?_,?_,?_,?_,?_⟩
 .rw[K6 (by omega),show k*5-(Xe (l.take k)).length=0 by omega];rfl
 .rw[K6 (by omega),show k*5+1-(Xe (l.take k)).length=1 by omega];rfl
 .rw[K6 (by omega),show k*5+2-(Xe (l.take k)).length=2 by omega];rfl
 .rw[K6 (by omega),show k*5+3-(Xe (l.take k)).length=3 by omega];rfl
 .rw[K6 (by omega),show k*5+4-(Xe (l.take k)).length=4 by omega];rfl
theorem World.grownBy.Y1g[LB](w:World)(o:Option Nat):w.grownBy w o:=⟨rfl,rfl,rfl,X4 _,fun _ _ _=>rfl⟩
section
variable {rb:Nat} {vb:Value} {n:Nat} {W0:World} {v:Value} {l0:List Nd} {tb rx ob xb:Nat} {q g c k:Nat} {l:List Nd} {w:World} {x:Nd}
theorem SP.node[LB](h:SP rb vb n W0 v l0 tb rx ob q (.slice (some ⟨g,0,none⟩) l.length c) l w)(t:k<l.length):w.cell? ⟨g,k*5,none⟩=some (.int .i64 l[k].kind)/\w.cell? ⟨g,k*5+1,none⟩=some (.int .i64 l[k].op)/\w.cell? ⟨g,k*5+2,none⟩=some (.int .i64 l[k].n)/\w.cell? ⟨g,k*5+3,none⟩=some (.string l[k].text)/\w.cell? ⟨g,k*5+4,none⟩=some (.int .i64 l[k].kids)/\∀j,w.frozen? ⟨g,j,none⟩=false:=by
 obtain⟨a,d,m,r,s⟩:=Ec l k t;exact⟨Kb h.o a,Kb h.o d,Kb h.o m,Kb h.o r,Kb h.o s,fun j=>h.o.frozenAt j⟩
theorem SP.Y0z[LB](h:SP rb vb n W0 v l0 tb rx ob q (.slice (some ⟨g,0,none⟩) l.length c) l w)(x:Nd)(j:Sm x)(d:k<l.length):SP rb vb n W0 v l0 tb rx ob q (.slice (some ⟨g,0,none⟩) l.length c) (l.set k x) (((((w.setCell ⟨g,k*5,none⟩ (.int .i64 x.kind)).setCell ⟨g,k*5+1,none⟩ (.int .i64 x.op)).setCell ⟨g,k*5+2,none⟩ (.int .i64 x.n)).setCell ⟨g,k*5+3,none⟩ (.string x.text)).setCell ⟨g,k*5+4,none⟩ (.int .i64 x.kids)):=by
 have b:=(((((X5 0 w).setCell (p:=⟨g,k*5,none⟩) (X6 _) (.int .i64 x.kind)).setCell (p:=⟨g,k*5+1,none⟩) (X6 _) (.int .i64 x.op)).setCell (p:=⟨g,k*5+2,none⟩) (X6 _) (.int .i64 x.n)).setCell (p:=⟨g,k*5+3,none⟩) (X6 _) (.string x.text)).setCell (p:=⟨g,k*5+4,none⟩) (X6 _) (.int .i64 x.kids);refine h.rows ⟨b.os,b.tape,b.output,b.size⟩ (fun b a=>?_) (by rw[DA];exact Y1n x d h.o) (Sb h.sh j);have a:b≠g:=fun e=>a (by rw[e];rfl);rw[Y4 _ _ _ _ a,Y4 _ _ _ _ a,Y4 _ _ _ _ a,Y4 _ _ _ _ a,Y4 _ _ _ _ a]
theorem SP.EG[LB](h:SP rb vb n W0 v l0 tb rx ob q (.slice (some ⟨g,0,none⟩) l.length c) l w)(t:ByteArray)(j:t.size<=1000000)(d:k<l.length):SP rb vb n W0 v l0 tb rx ob q (.slice (some ⟨g,0,none⟩) l.length c) (l.set k {l[k]with text:=t}) (w.setCell ⟨g,k*5+3,none⟩ (.string t)):=by
 have b:=(X5 0 w).setCell (p:=⟨g,k*5+3,none⟩) (X6 _) (.string t);refine h.rows ⟨b.os,b.tape,b.output,b.size⟩ (fun b a=>?_) (by rw[DA];exact Y1r t d h.o) (Sb h.sh ⟨j,(h.sh _ (XR d)).2⟩);have a:b≠g:=fun e=>a (by rw[e];rfl);exact Y4 _ _ _ _ a
theorem SP.start[LB]{w w5:World}{q:Nat}{v j:Value}{l:List Nd}(h:Rq rb vb n q w)(r:NR w v l)(d:(((w.alloc (.cells #[v] 25)).alloc (.cells #[.slice none 0 0] 25)).alloc (.cells #[] 48)).grownBy w5 (some (w.heap.size+1+1)))(C:w5.ownsRow w.heap.size 48 5 j l.length (Xe l)):SP rb vb n w v l w.heap.size (w.heap.size+1) w5.heap.size q j l (w5.alloc (.cells #[j] 25)):=by
 have s:=h.lt;have y:BL w (w.alloc (.cells #[v] 25)):=bA _;have z:BL w ((w.alloc (.cells #[v] 25)).alloc (.cells #[.slice none 0 0] 25)):=y.alloc y.size _;have A:BL w (((w.alloc (.cells #[v] 25)).alloc (.cells #[.slice none 0 0] 25)).alloc (.cells #[] 48)):=z.alloc z.size _;have m:BL w w5:=A.grown d A.size (fun q e=>by have:=YD e;omega);have a:BL w5 (w5.alloc (.cells #[j] 25)):=bA _;have t:(((w.alloc (.cells #[v] 25)).alloc (.cells #[.slice none 0 0] 25)).alloc (.cells #[] 48)).heap.size=w.heap.size+1+1+1:=by simp
 have u:=d.size;rw[t]at u;have D:(((w.alloc (.cells #[v] 25)).alloc (.cells #[.slice none 0 0] 25)).alloc (.cells #[] 48)).heap[w.heap.size]?=some (.cells #[v] 25):=by
  rw[(bA _).block _ (by simp;omega),(bA _).block _ (by simp)];exact XM _ _
 have E:(((w.alloc (.cells #[v] 25)).alloc (.cells #[.slice none 0 0] 25)).alloc (.cells #[] 48)).heap[w.heap.size+1]?=some (.cells #[.slice none 0 0] 25):=by
  rw[(bA _).block _ (by simp)];have:=XM (w.alloc (.cells #[v] 25)) (.cells #[.slice none 0 0] 25);rw[Xb]at this;exact this
 refine⟨(h.below m).below a,((TyM.of m).trans (.of a)),(r.below m).below a,fun b B=>(r.1.lt b B).2,?_,?_,XM _ _,Qi C a,r.2,s,by omega,by omega,by omega,by omega,X4 _⟩
 .rw[a.block _ (by omega),d.block _ (by omega) (fun e=>by have:=YD e;omega)];exact D
 .rw[a.block _ (by omega),d.block _ (by omega) (fun e=>by have:=YD e;omega)];exact E
end
theorem Xbv[LB](w:World):Calls prog 81 #[.string ⟨#[110]⟩,.int .i64 31] w fun e w'=>∃t:XC,e= .returned (.string t)/\w'=w:=Xbw ⟨#[110]⟩ 31 w (by omega) (by decide)
theorem Y2b[LB](j:XC)(a:Nat)(h:a<10):∃u:XC,([.string ⟨#[]⟩,.string ⟨#[110,49]⟩,.string ⟨#[112,48]⟩,.string ⟨#[115,48]⟩,.string ⟨#[102,48]⟩,.string ⟨#[108,101,116]⟩,.string ⟨#[57,120]⟩,.string ⟨#[65]⟩,.string ⟨#[108,101,110]⟩,.string j.val]:List Value)[a]?=some (.string u.val):=by
 have d:a=9\/a=0\/a=1\/a=2\/a=3\/a=4\/a=5\/a=6\/a=7\/a=8:=by omega
 rcases d with rfl|d
 .exact⟨j,rfl⟩
 .rcases d with rfl|rfl|rfl|rfl|rfl|rfl|rfl|rfl|rfl<;>exact⟨⟨_,by exact YC rfl⟩,rfl⟩
theorem F4[LB](a:Nat)(h:a<8):∃u:XC,([.string ⟨#[110,49]⟩,.string ⟨#[110,50]⟩,.string ⟨#[112,48]⟩,.string ⟨#[112,49]⟩,.string ⟨#[115,48]⟩,.string ⟨#[115,49]⟩,.string ⟨#[102,48]⟩,.string ⟨#[110,111,110,101,95,115,117,99,104]⟩]:List Value)[a]?=some (.string u.val):=by
 have d:a=0\/a=1\/a=2\/a=3\/a=4\/a=5\/a=6\/a=7:=by omega
 rcases d with rfl|rfl|rfl|rfl|rfl|rfl|rfl|rfl<;>exact⟨⟨_,by exact YC rfl⟩,rfl⟩
theorem Y2a[LB]:Sh [(⟨1,0,0,⟨#[]⟩,0⟩:Nd)]:=Oa ⟨YC rfl,n0⟩
def V8:Code->Option Code
 | .block n c=>some (.block n c)
 | .seq a b=>match V8 a with
  | some c=>some c
  | none=>V8 b
 | _=>none
theorem Ov[LB]{P:Program}{c:Code}{Q:Exit->Act->World->Prop}{a:Act}{w:World}{o:Option Code}(h:o=some c)(j:Code.wp P c Q a w)(c':Code)(d:o=some c'):Code.wp P c' Q a w:=by
 cases h.symm.trans d;exact j
def spJ[LB](rb:Nat)(vb:Value)(n q:Nat)(l:List Nd)(w:World)(g c ob og oc xb k:Nat)(s1 s2 s14 s15 s16 s17 s18 s19 s20 s21 s22 s23 s24 s25 s26 s27 s28 s29 s30 s31 s32 s33 s34 s35 s36 s37 s38:Value)(J:Act->World->Prop):Prop:=∀(a':Act) (w':World),(∃u9 u10 u11 u12 u13 u39 u40 u41 u42 u43 u44 u45 u46 u47 u48 u49 u50 u51 u52 u53 u54 u55 u56 u57 u58 u59 u60 u61 u62 u63 u64 u65 u66 u67 u68 u69 u70 u71 u72 u73 u74 u75 u76 u77 u78 u79 u80 u81 u82 u83 u84 u85 u86 u87 u88 u89 u90 u91 u92 u93 u94 u95 u96 u97 u98 u99 u100 u101 u102 u103 u104 u105 u106 u107 u108 u109 u110 u111 u112 u113 u114 u115 u116 u117 u118 u119 u120 u121 u122 u123 u124 u125 u126 u127 u128 u129 u130 u131 u132 u133 u134 u135 u136 u137 u138 u139 u140 u141 u142 u143 u144 u145 u146 u147 u148 u149 u150 u151 u152 u153 u154 u155 u156 u157 u158 u159 u160 u161 u162 u163 u164 u165 u166 u167 u168 u169 u170 u171 u172 u173 u174 u175 u176 u177 u178 u179 u180 u181 u182 u183 u184 u185 u186 u187 u188 u189 u190 u191 u192 u193 u194 u195 u196 u197 u198 u199 u200:Value,(∃x,SP rb vb n w (.slice (some ⟨g,0,none⟩) l.length c) l w.heap.size (w.heap.size+1) ob (q+6) (.slice (some ⟨og,0,none⟩) l.length oc) l w'/\XN w xb (.slice (some ⟨og,0,none⟩) l.length oc) x w')/\a'={tmps:=#[.pointer (some ⟨rb,0,none⟩),s1,s2,.pointer (some ⟨w.heap.size,0,none⟩),.pointer (some ⟨w.heap.size+1,0,none⟩),.pointer (some ⟨ob,0,none⟩),.int .i64 (l.length:Int),.int .i64 (k:Int),.pointer (some ⟨xb,0,none⟩),u9,u10,u11,u12,u13,s14,s15,s16,s17,s18,s19,s20,s21,s22,s23,s24,s25,s26,s27,s28,s29,s30,s31,s32,s33,s34,s35,s36,s37,s38,u39,u40,u41,u42,u43,u44,u45,u46,u47,u48,u49,u50,u51,u52,u53,u54,u55,u56,u57,u58,u59,u60,u61,u62,u63,u64,u65,u66,u67,u68,u69,u70,u71,u72,u73,u74,u75,u76,u77,u78,u79,u80,u81,u82,u83,u84,u85,u86,u87,u88,u89,u90,u91,u92,u93,u94,u95,u96,u97,u98,u99,u100,u101,u102,u103,u104,u105,u106,u107,u108,u109,u110,u111,u112,u113,u114,u115,u116,u117,u118,u119,u120,u121,u122,u123,u124,u125,u126,u127,u128,u129,u130,u131,u132,u133,u134,u135,u136,u137,u138,u139,u140,u141,u142,u143,u144,u145,u146,u147,u148,u149,u150,u151,u152,u153,u154,u155,u156,u157,u158,u159,u160,u161,u162,u163,u164,u165,u166,u167,u168,u169,u170,u171,u172,u173,u174,u175,u176,u177,u178,u179,u180,u181,u182,u183,u184,u185,u186,u187,u188,u189,u190,u191,u192,u193,u194,u195,u196,u197,u198,u199,u200],defers:=[]})->J a' w'
