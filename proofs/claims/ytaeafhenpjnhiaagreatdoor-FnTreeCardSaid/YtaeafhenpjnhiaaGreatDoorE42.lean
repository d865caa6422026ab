import Derived.Laws.AppendOwnNone
import Derived.Test.YtaeafhenpjnhiaaGreatDoorE40
import Derived.Test.YtaeafhenpjnhiaaGreatDoorE41
set_option maxHeartbeats 4000000
set_option maxRecDepth 100000
namespace Go.Proofs.YtaeafhenpjnhiaaGreatDoor
open Tryz Go.RowKit
section
def DTk[LB](w:World)(e:Ending)(w':World):Prop:=∃v l,e= .returned (.agg #[v])/\NR w' v l/\l.length<=300000/\Tf w w'
theorem TX[LB](j:∀rb vb n q w,Rq rb vb n q w->q<=90000000->Calls prog 36 #[.p rb] w (RTk rb vb n q 250010 w))(r:∀rb vb n,Ir rb vb n)(m:Nat)(v:Value)(w:World)(h:ByV w v m)(hB:Ji<=w.heap.size):Calls prog 4 #[v] w (DTk w):=by
 have u:BL w (w.z #[.slice none 0 0] 25):=bA _;have Q:ByV (w.z #[.slice none 0 0] 25) v m:=by
  rcases h with h|⟨g,o,c,V,W,X,O,Z⟩
  .exact .inl h
  .refine .inr ⟨g,o,c,V,W,X,XH O u.size,fun i hi=>?_⟩;obtain⟨k,hk,hc⟩:=Z i hi;exact⟨k,hk,(u.cell (p:=⟨g,o+i,none⟩) O).trans hc⟩
 have U:=X1 (C4 m v _ Q (Xz hB u.size));have F:Hid (Ty w (w.z #[.slice none 0 0] 25)):=X1 (.of u);have J:Hid ((w.z #[.slice none 0 0] 25).heap[w.heap.size]?=some (.cells #[.slice none 0 0] 25)):=X1 (YV w _);have j:=X1 j;have r:=X1 r;clear u Q;obtain⟨vp,vl,vc,hv⟩:∃p l c,v= .slice p l c:=by
  rcases h with⟨q,c,h,_⟩|⟨g,o,c,h,_⟩
  .exact⟨_,_,_,h⟩
  .exact⟨_,_,_,h⟩
 subst hv;clear h;go_enter func4,ntmps4;go_wp2_with fail;go_fit U.o;rintro e S⟨rb,vb,n,rfl,N,y,L⟩;have E:Hid (Rq rb vb n 0 S):=X1 ⟨0,X5 _,y⟩;have H:=X1 (F.o.trans (.of L));have K:=X1 (TyM.same J.o L);have a0:w.heap.size<rb:=by simp at N;omega
 clear y L;go_wp2_with fail;go_fit(Sj rb vb n (j.o rb vb n) (r.o rb vb n) 0 S E.o (by omega));rintro e w2⟨v2,l2,rfl,d,m2,M,s⟩;obtain⟨B,A,rfl⟩:=d.val;have a:=Tf.same s K.o W5;have t0:=(ZP a).1;have ft:=(ZP a).2;have C:Hid (NR (w2.setCell ⟨w.heap.size,0,none⟩ (.slice B l2.length A)) (.slice B l2.length A) l2):=X1 ⟨Kc d.1 (by unfold Xo;rw[a];decide),d.2⟩;have I:=X1 (U4 (o:=0) (v:= .slice B l2.length A) ((Ty.tf H.o).trans s) (X5 _));clear d M s a;go_wp2;exact Xq (v:= .agg #[.slice B l2.length A]) (by simp[results,results4,go_sem,t0]) rfl ⟨_,_,rfl,C.o,by omega,I.o⟩
theorem Ps[LB]{w w':World}{base size:Nat}{e:TypeId}{v:Value}{n:Nat}{j:List Value}(h:w.ownsRow base e size v n j)(u:∀q,v.ownBlock=some q->w'.heap[q]?=w.heap[q]?):w'.ownsRow base e size v n j:=by
 refine⟨h.1,?_⟩;rcases h.2 with k|⟨g,cap,a,d,m,r,s⟩
 .exact .inl k
 .exact .inr ⟨g,cap,a,d,m,(u g (by rw[d];rfl)).trans r,s⟩
theorem Rq.pick_ex[LB]{rb:Nat}{vb:Value}{n q:Nat}{w:World}(h:Rq rb vb n q w)(k:q<=900000000)(m:Int)(g:1<=m)(j:m<=1000000):Calls prog 22 #[.p rb,.q m] w fun e d=>∃r,e= .returned r/\∃z:Nat,(z:Int)<m/\r= .q (z:Int)/\Rq rb vb n (q+1) d/\Ty w d:=(h.pick k m g j).mono fun _ _ ⟨z,a,b,c⟩=>⟨_,b,z,a,rfl,c⟩
theorem DP[LB](l:List Nd):(Xh l).length=l.length*5:=by
 induction l with
 | nil=>rfl
 | cons d l a=>
  have e:Xh (d::l)=Xh [d]++Xh l:=UN [d] l;rw[e,Xj,a,XI];show 5+_=_;omega
theorem WE[LB](l:List Nd)(k:Nat)(a:k<l.length):Xh l=Xh (l.take k)++ .q l[k].kind :: .q l[k].op :: .q l[k].n :: .string l[k].text :: .q l[k].kids::Xh (l.drop (k+1)):=by
 conv=>lhs;rw[←JX k l,KM a]
 rw[UN];rfl
theorem MN[LB](l:List Nd)(k:Nat)(x:Nd)(a:k<l.length):Xh (l.set k x)=Xh (l.take k)++ .q x.kind :: .q x.op :: .q x.n :: .string x.text :: .q x.kids::Xh (l.drop (k+1)):=by
 rw[List.set_eq_take_append_cons_drop,Xa a,UN];rfl
theorem Wb[LB](A B:List Value)(a b c d e v:Value)(m i:Nat)(hm:A.length=m):(A++a::b::c::d::e::B).set (m+i) v=A++(a::b::c::d::e::B).set i v:=by
 rw[List.set_append_right _ _ (by omega),show m+i-A.length=i by omega]
theorem Dd[LB](l:List Nd)(k:Nat)(a:k<l.length):(Xh (l.take k)).length=k*5:=by rw[DP,YO];congr 1;omega
theorem Y0j[LB]{W:World}{B g c k:Nat}{l:List Nd}(t:ByteArray)(a:k<l.length)(j:W.ownsRow B 64 5 (.l g l.length c) l.length (Xh l)):(W.setCell ⟨g,k*5+3,none⟩ (.string t)).ownsRow B 64 5 (.l g l.length c) l.length (Xh (l.set k {l[k]with text:=t})):=by
 have d:=(j.stored (k*5+3) (.string t)).1;rw[WE l k a,Wb _ _ _ _ _ _ _ _ _ 3 (Dd l k a)]at d;rw[MN l k _ a];exact d
theorem Y0g[LB]{W:World}{B g c k:Nat}{l:List Nd}(z:Int)(a:k<l.length)(j:W.ownsRow B 64 5 (.l g l.length c) l.length (Xh l)):(W.setCell ⟨g,k*5+4,none⟩ (.q z)).ownsRow B 64 5 (.l g l.length c) l.length (Xh (l.set k {l[k]with kids:=z})):=by
 have d:=(j.stored (k*5+4) (.q z)).1;rw[WE l k a,Wb _ _ _ _ _ _ _ _ _ 4 (Dd l k a)]at d;rw[MN l k _ a];exact d
theorem Y0i[LB]{W:World}{B g c k:Nat}{l:List Nd}(x:Nd)(d:k<l.length)(y:W.ownsRow B 64 5 (.l g l.length c) l.length (Xh l)): (((((W.setCell ⟨g,k*5,none⟩ (.q x.kind)).setCell ⟨g,k*5+1,none⟩ (.q x.op)).setCell ⟨g,k*5+2,none⟩ (.q x.n)).setCell ⟨g,k*5+3,none⟩ (.string x.text)).setCell ⟨g,k*5+4,none⟩ (.q x.kids)).ownsRow B 64 5 (.l g l.length c) l.length (Xh (l.set k x)):=by
 have a:=Dd l k d;rw[WE l k d]at y;have A:=(y.stored (k*5) (.q x.kind)).1;have u:=Wb (Xh (l.take k)) (Xh (l.drop (k+1))) (.q l[k].kind) (.q l[k].op) (.q l[k].n) (.string l[k].text) (.q l[k].kids) (.q x.kind) (k*5) 0 a;change List.set _ (k*5) _=_ at u;rw[u]at A;have j:=(A.stored (k*5+1) (.q x.op)).1;simp only[Ml]at j;rw[Wb _ _ _ _ _ _ _ _ _ 1 a]at j;have m:=(j.stored (k*5+2) (.q x.n)).1;simp only[Ml,Ru]at m;rw[Wb _ _ _ _ _ _ _ _ _ 2 a]at m;have r:=(m.stored (k*5+3) (.string x.text)).1;simp only[Ml,Ru]at r;rw[Wb _ _ _ _ _ _ _ _ _ 3 a]at r;have s:=(r.stored (k*5+4) (.q x.kids)).1;simp only[Ml,Ru]at s;rw[Wb _ _ _ _ _ _ _ _ _ 4 a]at s;rw[MN l k x d];exact s
theorem SF[LB]{W:World}{B g c k:Nat}{l:List Nd}(d:W.ownsRow B 64 5 (.l g l.length c) l.length (Xh l))(r:k<=l.length)(j:Nat)(u:Value)(m:(Xh (l.drop k))[j]?=some u):W.cell? ((⟨g,k*5,none⟩:Addr).add j)=some u:=by
 have a:=JO d rfl (k*5+j) u (by
  have e:Xh l=Xh (l.take k)++Xh (l.drop k):=by rw[←UN,JX]
  have s:(Xh (l.take k)).length=k*5:=by rw[DP,YO];congr 1;omega
  rw[e,Q7 (by omega),show k*5+j-(Xh (l.take k)).length=j by omega];exact m)
 rw[Y8,Xu]at a;rw[Y8];exact a
theorem Py[LB]{l:List Nd}{k:Nat}{x:Nd}(h:Sh l)(d:Sm x):Sh (l.set k x):=fun y g=>by
 rcases List.mem_or_eq_of_mem_set g with a|rfl
 .exact h y a
 .exact d
section
variable (rb:Nat) (vb:Value) (n:Nat) (W0:World) (v:Value) (l0:List Nd) (tb rx ob:Nat)
structure SP [LB] (q:Nat) (ov:Value) (l:List Nd) (w:World):Prop where
 r:Rq rb vb n q w
 tf:Tf W0 w
 src:NR w v l0
 vlo:∀b,v.ownBlock=some b->b<W0.heap.size
 tbx:w.heap[tb]?=some (.cells #[v] 25)
 rbx:w.heap[rx]?=some (.cells #[.slice none 0 0] 25)
 obx:w.heap[ob]?=some (.cells #[ov] 25)
 o:w.ownsRow W0.heap.size 64 5 ov l.length (Xh l)
 sh:Sh l
 lo:rb<W0.heap.size/\W0.heap.size<=rx/\W0.heap.size<=ob/\rx≠ob/\tb≠ob/\W0.heap.size<=tb
end
section
variable {rb:Nat} {vb:Value} {n:Nat} {W0:World} {v:Value} {l0:List Nd} {tb rx ob:Nat} {q:Nat} {ov:Value} {l:List Nd} {w w':World}
theorem SP.ty[LB](h:SP rb vb n W0 v l0 tb rx ob q ov l w)(a:Ty w w'){q':Nat}(d:Rq rb vb n q' w'):SP rb vb n W0 v l0 tb rx ob q' ov l w':=⟨d,h.tf.trans (Ty.tf a),h.src.ty a,h.vlo,Ty.same a h.tbx US,Ty.same a h.rbx US,Ty.same a h.obx US,Yz h.o a Gq,h.sh,h.lo⟩
theorem SP.below[LB](h:SP rb vb n W0 v l0 tb rx ob q ov l w)(a:BL w w'):SP rb vb n W0 v l0 tb rx ob q ov l w':=h.ty (.of a) (h.r.below a)
theorem SP.mono[LB](h:SP rb vb n W0 v l0 tb rx ob q ov l w){q':Nat}(a:q<=q'):SP rb vb n W0 v l0 tb rx ob q' ov l w:=h.ty (.refl _) (h.r.mono a)
theorem SP.cells[LB](h:SP rb vb n W0 v l0 tb rx ob q ov l w):w.cell? ⟨tb,0,none⟩=some v/\w.cell? ⟨rx,0,none⟩=some (.slice none 0 0)/\w.cell? ⟨ob,0,none⟩=some ov/\w.frozen? ⟨rx,0,none⟩=false/\w.frozen? ⟨ob,0,none⟩=false:=⟨(ZP h.tbx).1,(ZP h.rbx).1,(ZP h.obx).1,(ZP h.rbx).2,(ZP h.obx).2⟩
theorem SP.rty[LB](h:SP rb vb n W0 v l0 tb rx ob q ov l w):Xo w rx=some 25:=by unfold Xo;rw[h.rbx];rfl
theorem SP.oty[LB](h:SP rb vb n W0 v l0 tb rx ob q ov l w):Xo w ob=some 25:=by unfold Xo;rw[h.obx];rfl
theorem SP.ret[LB](h:SP rb vb n W0 v l0 tb rx ob q ov l w){v':Value}{l':List Nd}(a:NR w v' l'):NR (w.setCell ⟨rx,0,none⟩ v') v' l'/\Rq rb vb n q (w.setCell ⟨rx,0,none⟩ v')/\Tf W0 (w.setCell ⟨rx,0,none⟩ v'):=by
 have lo:=h.lo;exact⟨a.Pw (by rw[h.rty];decide),h.r.set (by omega),U4 h.tf lo.2.1⟩
theorem SP.rows[LB](h:SP rb vb n W0 v l0 tb rx ob q ov l w){l':List Nd}(d:w'.os=w.os/\w'.tape=w.tape/\w'.output=w.output/\w.heap.size<=w'.heap.size)(k:∀b,some b≠ov.ownBlock->w'.heap[b]?=w.heap[b]?)(m:w'.ownsRow W0.heap.size 64 5 ov l'.length (Xh l'))(s:Sh l'):SP rb vb n W0 v l0 tb rx ob q ov l' w':=by
 have lo:=h.lo;have own:∀b,ov.ownBlock=some b->W0.heap.size<=b/\Xo w b=some 64:=fun b e=>⟨(h.o.lt b e).1,KH h.o e⟩;have u:∀b t,Xo w b=some t->t≠64->w'.heap[b]?=w.heap[b]?:=fun b t C hne=>k b (fun e=>by have:=(own b e.symm).2;rw[C]at this;exact hne (Zq this));have g:∀b,b<W0.heap.size->w'.heap[b]?=w.heap[b]?:=fun b y=>k b (fun e=>by have:=(own b e.symm).1;omega);refine⟨?_,?_,?_,h.vlo,(u tb _ (by unfold Xo;rw[h.tbx];rfl) (by decide)).trans h.tbx,(u rx _ h.rty (by decide)).trans h.rbx,(u ob _ h.oty (by decide)).trans h.obx,m,s,h.lo⟩
 .obtain⟨p,B,m⟩:=h.r;exact⟨p,B,m.JV (fun b k=>g b (by omega))⟩
 .exact⟨d.1.trans h.tf.os,d.2.1.trans h.tf.tape,d.2.2.1.trans h.tf.output,Xz h.tf.size d.2.2.2,fun b a j=>(g b a).trans (h.tf.block b a j),fun A=>absurd (.inr rfl) A,fun b a j=>(g b a).trans (h.tf.old b a j)⟩
 .exact⟨Ps h.src.1 (fun b e=>g b (h.vlo b e)),h.src.2⟩
end
section
variable {rb:Nat} {vb:Value} {n:Nat} {W0:World} {v:Value} {l0:List Nd} {tb rx ob:Nat} {q:Nat} {ov:Value} {l:List Nd} {w:World}
theorem SP.E6[LB](h:SP rb vb n W0 v l0 tb rx ob q ov l w){ov':Value}{l':List Nd}(j:w.ownsRow W0.heap.size 64 5 ov' l'.length (Xh l'))(a:Sh l'):SP rb vb n W0 v l0 tb rx ob q ov' l' (w.setCell ⟨ob,0,none⟩ ov'):=by
 have lo:=h.lo;have d:∀b,b≠ob->(w.setCell ⟨ob,0,none⟩ ov').heap[b]?=w.heap[b]?:=fun b g=>Y0 _ _ _ _ g;refine⟨h.r.set (by omega),U4 h.tf lo.2.2.1,h.src.Pw (by rw[h.oty];decide),h.vlo,(d tb lo.2.2.2.2.1).trans h.tbx,(d rx lo.2.2.2.1).trans h.rbx,?_,Kc j (by rw[h.oty];decide),a,h.lo⟩;rw[La h.obx];rfl
end
section
variable (W0:World) (xb:Nat) (ov:Value)
structure XN (x:Nd) (w:World):Prop where
 box:w.heap[xb]?=some (.cells #[.q x.kind,.q x.op,.q x.n,.string x.text,.q x.kids] 64)
 sh:Sm x
 ne:ov.ownBlock≠some xb
 lo:W0.heap.size<=xb
end
section
variable {rb:Nat} {vb:Value} {n:Nat} {W0:World} {v:Value} {l0:List Nd} {tb rx ob xb:Nat} {q:Nat} {ov:Value} {l:List Nd} {w w':World} {x:Nd}
theorem XN.ty[LB](h:XN W0 xb ov x w)(a:Ty w w'):XN W0 xb ov x w':=⟨Ty.same a h.box Gq,h.sh,h.ne,h.lo⟩
theorem XN.below[LB](h:XN W0 xb ov x w)(a:BL w w'):XN W0 xb ov x w':=h.ty (.of a)
theorem XN.cells[LB](h:XN W0 xb ov x w):w.cell? ⟨xb,0,none⟩=some (.q x.kind)/\w.cell? ⟨xb,1,none⟩=some (.q x.op)/\w.cell? ⟨xb,2,none⟩=some (.q x.n)/\w.cell? ⟨xb,3,none⟩=some (.string x.text)/\w.cell? ⟨xb,4,none⟩=some (.q x.kids)/\∀j,w.frozen? ⟨xb,j,none⟩=false:=by
 refine⟨?_,?_,?_,?_,?_,fun j=>?_⟩
 .rw[World.cell?,h.box];rfl
 .rw[World.cell?,h.box];rfl
 .rw[World.cell?,h.box];rfl
 .rw[World.cell?,h.box];rfl
 .rw[World.cell?,h.box];rfl
 .rw[World.frozen?,h.box];simp
theorem XN.set[LB](h:XN W0 xb ov x w)(o:Nat)(u:Value)(a:Nd)(g:(#[.q x.kind,.q x.op,.q x.n,.string x.text,.q x.kids]:Array Value).setIfInBounds o u=#[.q a.kind,.q a.op,.q a.n,.string a.text,.q a.kids])(d:Sm a):XN W0 xb ov a (w.setCell ⟨xb,o,none⟩ u):=⟨by rw[La h.box,g],d,h.ne,h.lo⟩
theorem SP.GS[LB](h:SP rb vb n W0 v l0 tb rx ob q ov l w)(d:XN W0 xb ov x w)(o:Nat)(u:Value):SP rb vb n W0 v l0 tb rx ob q ov l (w.setCell ⟨xb,o,none⟩ u):=by
 have lo:=h.lo;have s:=d.lo;have a:∀b,b≠xb->(w.setCell ⟨xb,o,none⟩ u).heap[b]?=w.heap[b]?:=fun b k=>Y0 _ _ _ _ k;have g:∀b,Xo w b=some 25->b≠xb:=fun b m e=>by
  have:Xo w xb=some 64:=by unfold Xo;rw[d.box];rfl
  rw[←e,m]at this;cases this
 refine⟨?_,U4 h.tf s,⟨Ps h.src.1 (fun b e=>a b (by have:=h.vlo b e;omega)),h.src.2⟩,h.vlo,(a tb (g tb (by unfold Xo;rw[h.tbx];rfl))).trans h.tbx,(a rx (g rx h.rty)).trans h.rbx,(a ob (g ob h.oty)).trans h.obx,Ps h.o (fun b e=>a b (fun j=>d.ne (by rw[e,j]))),h.sh,h.lo⟩;exact h.r.set (by omega)
end
theorem BF[LB](l:List Nd)(k:Nat)(a:k<l.length):(Xh l)[k*5]?=some (.q l[k].kind)/\(Xh l)[k*5+1]?=some (.q l[k].op)/\(Xh l)[k*5+2]?=some (.q l[k].n)/\(Xh l)[k*5+3]?=some (.string l[k].text)/\(Xh l)[k*5+4]?=some (.q l[k].kids):=by
 have hm:=Dd l k a;rw[WE l k a];refine⟨?_,?_,?_,?_,?_⟩
 .rw[Q7 (by omega),show k*5-(Xh (l.take k)).length=0 by omega];rfl
 .rw[Q7 (by omega),show k*5+1-(Xh (l.take k)).length=1 by omega];rfl
 .rw[Q7 (by omega),show k*5+2-(Xh (l.take k)).length=2 by omega];rfl
 .rw[Q7 (by omega),show k*5+3-(Xh (l.take k)).length=3 by omega];rfl
 .rw[Q7 (by omega),show k*5+4-(Xh (l.take k)).length=4 by omega];rfl
theorem World.grownBy.Y0a[LB](w:World)(o:Option Nat):w.grownBy w o:=⟨rfl,rfl,rfl,X5 _,fun _ _ _=>rfl⟩
section
variable {rb:Nat} {vb:Value} {n:Nat} {W0:World} {v:Value} {l0:List Nd} {tb rx ob xb:Nat} {q g c k:Nat} {l:List Nd} {w:World} {x:Nd}
theorem SP.node[LB](h:SP rb vb n W0 v l0 tb rx ob q (.l g l.length c) l w)(u:k<l.length):w.cell? ⟨g,k*5,none⟩=some (.q l[k].kind)/\w.cell? ⟨g,k*5+1,none⟩=some (.q l[k].op)/\w.cell? ⟨g,k*5+2,none⟩=some (.q l[k].n)/\w.cell? ⟨g,k*5+3,none⟩=some (.string l[k].text)/\w.cell? ⟨g,k*5+4,none⟩=some (.q l[k].kids)/\∀j,w.frozen? ⟨g,j,none⟩=false:=by
 obtain⟨a,d,m,r,s⟩:=BF l k u;exact⟨Za h.o a,Za h.o d,Za h.o m,Za h.o r,Za h.o s,fun j=>h.o.frozenAt j⟩
theorem SP.Xfg[LB](h:SP rb vb n W0 v l0 tb rx ob q (.l g l.length c) l w)(x:Nd)(j:Sm x)(d:k<l.length):SP rb vb n W0 v l0 tb rx ob q (.l g l.length c) (l.set k x) (((((w.setCell ⟨g,k*5,none⟩ (.q x.kind)).setCell ⟨g,k*5+1,none⟩ (.q x.op)).setCell ⟨g,k*5+2,none⟩ (.q x.n)).setCell ⟨g,k*5+3,none⟩ (.string x.text)).setCell ⟨g,k*5+4,none⟩ (.q x.kids)):=by
 have b:=(((((X8 0 w).setCell (p:=⟨g,k*5,none⟩) (Xb _) (.q x.kind)).setCell (p:=⟨g,k*5+1,none⟩) (Xb _) (.q x.op)).setCell (p:=⟨g,k*5+2,none⟩) (Xb _) (.q x.n)).setCell (p:=⟨g,k*5+3,none⟩) (Xb _) (.string x.text)).setCell (p:=⟨g,k*5+4,none⟩) (Xb _) (.q x.kids);refine h.rows ⟨b.os,b.tape,b.output,b.size⟩ (fun b a=>?_) (by rw[Wp];exact Y0i x d h.o) (Py h.sh j);have a:b≠g:=fun e=>a (by rw[e];rfl);rw[Y0 _ _ _ _ a,Y0 _ _ _ _ a,Y0 _ _ _ _ a,Y0 _ _ _ _ a,Y0 _ _ _ _ a]
theorem SP.Co[LB](h:SP rb vb n W0 v l0 tb rx ob q (.l g l.length c) l w)(t:ByteArray)(j:t.size<=1000000)(d:k<l.length):SP rb vb n W0 v l0 tb rx ob q (.l g l.length c) (l.set k {l[k]with text:=t}) (w.setCell ⟨g,k*5+3,none⟩ (.string t)):=by
 have b:=(X8 0 w).setCell (p:=⟨g,k*5+3,none⟩) (Xb _) (.string t);refine h.rows ⟨b.os,b.tape,b.output,b.size⟩ (fun b a=>?_) (by rw[Wp];exact Y0j t d h.o) (Py h.sh ⟨j,(h.sh _ (YJ d)).2⟩);have a:b≠g:=fun e=>a (by rw[e];rfl);exact Y0 _ _ _ _ a
theorem SP.start[LB]{w w5:World}{q:Nat}{v j:Value}{l:List Nd}(h:Rq rb vb n q w)(r:NR w v l)(d:(((w.alloc (.cells #[v] 25)).alloc (.cells #[.slice none 0 0] 25)).alloc (.cells #[] 64)).grownBy w5 (some (w.heap.size+1+1)))(F:w5.ownsRow w.heap.size 64 5 j l.length (Xh l)):SP rb vb n w v l w.heap.size (w.heap.size+1) w5.heap.size q j l (w5.alloc (.cells #[j] 25)):=by
 have s:=h.lt;have A:BL w (w.alloc (.cells #[v] 25)):=bA _;have B:BL w ((w.alloc (.cells #[v] 25)).alloc (.cells #[.slice none 0 0] 25)):=A.alloc A.size _;have C:BL w (((w.alloc (.cells #[v] 25)).alloc (.cells #[.slice none 0 0] 25)).alloc (.cells #[] 64)):=B.alloc B.size _;have m:BL w w5:=C.grown d C.size (fun q e=>by have:=Zq e;omega);have a:BL w5 (w5.alloc (.cells #[j] 25)):=bA _;have u:(((w.alloc (.cells #[v] 25)).alloc (.cells #[.slice none 0 0] 25)).alloc (.cells #[] 64)).heap.size=w.heap.size+1+1+1:=by simp
 have y:=d.size;rw[u]at y;have H:(((w.alloc (.cells #[v] 25)).alloc (.cells #[.slice none 0 0] 25)).alloc (.cells #[] 64)).heap[w.heap.size]?=some (.cells #[v] 25):=by
  rw[(bA _).block _ (by simp;omega),(bA _).block _ (by simp)];exact YV _ _
 have I:(((w.alloc (.cells #[v] 25)).alloc (.cells #[.slice none 0 0] 25)).alloc (.cells #[] 64)).heap[w.heap.size+1]?=some (.cells #[.slice none 0 0] 25):=by
  rw[(bA _).block _ (by simp)];have:=YV (w.alloc (.cells #[v] 25)) (.cells #[.slice none 0 0] 25);rw[Yx]at this;exact this
 refine⟨(h.below m).below a,((TyM.of m).trans (.of a)),(r.below m).below a,fun b E=>(r.1.lt b E).2,?_,?_,YV _ _,Qu F a,r.2,s,by omega,by omega,by omega,by omega,X5 _⟩
 .rw[a.block _ (by omega),d.block _ (by omega) (fun e=>by have:=Zq e;omega)];exact H
 .rw[a.block _ (by omega),d.block _ (by omega) (fun e=>by have:=Zq e;omega)];exact I
end
theorem X9j[LB](w:World):Calls prog 23 #[.t #[110],.q 31] w fun e w'=>∃t:XJ,e= .returned (.string t)/\w'=w:=X9k ⟨#[110]⟩ 31 w (by omega) (by decide)
theorem Y1d[LB](tx:XJ)(a:Nat)(h:a<10):∃u:XJ,([.t #[],.t #[110,49],.t #[112,48],.t #[115,48],.t #[102,48],.t #[108,101,116],.t #[57,120],.t #[65],.t #[108,101,110],.string tx.val]:List Value)[a]?=some (.string u.val):=by
 have d:a=9\/a=0\/a=1\/a=2\/a=3\/a=4\/a=5\/a=6\/a=7\/a=8:=by omega
 rcases d with rfl|d
 .exact⟨tx,rfl⟩
 .rcases d with rfl|rfl|rfl|rfl|rfl|rfl|rfl|rfl|rfl<;>exact⟨⟨_,by exact YM rfl⟩,rfl⟩
theorem E9[LB](a:Nat)(h:a<8):∃u:XJ,([.t #[110,49],.t #[110,50],.t #[112,48],.t #[112,49],.t #[115,48],.t #[115,49],.t #[102,48],.t #[110,111,110,101,95,115,117,99,104]]:List Value)[a]?=some (.string u.val):=by
 have d:a=0\/a=1\/a=2\/a=3\/a=4\/a=5\/a=6\/a=7:=by omega
 rcases d with rfl|rfl|rfl|rfl|rfl|rfl|rfl|rfl<;>exact⟨⟨_,by exact YM rfl⟩,rfl⟩
theorem Y1b[LB]:Sh [(⟨1,0,0,⟨#[]⟩,0⟩:Nd)]:=LN ⟨YM rfl,n0⟩
def Ut:Code->Option Code
 | .block n c=>some (.block n c)
 | .seq a b=>match Ut a with
  | some c=>some c
  | none=>Ut b
 | _=>none
theorem M8[LB]{P:Program}{c:Code}{Q:Exit->Act->World->Prop}{a:Act}{w:World}{o:Option Code}(h:o=some c)(m:Code.wp P c Q a w)(d:Code)(j:o=some d):Code.wp P d Q a w:=by
 cases h.symm.trans j;exact m
def spJ[LB](rb:Nat)(vb:Value)(n q:Nat)(l:List Nd)(w:World)(g c ob og oc xb k:Nat)(s1 s2 s14 s15 s16 s17 s18 s19 s20 s21 s22 s23 s24 s25 s26 s27 s28 s29 s30 s31 s32 s33 s34 s35 s36 s37 s38:Value)(J:Act->World->Prop):Prop:=∀(a':Act) (w':World),(∃u9 u10 u11 u12 u13 u39 u40 u41 u42 u43 u44 u45 u46 u47 u48 u49 u50 u51 u52 u53 u54 u55 u56 u57 u58 u59 u60 u61 u62 u63 u64 u65 u66 u67 u68 u69 u70 u71 u72 u73 u74 u75 u76 u77 u78 u79 u80 u81 u82 u83 u84 u85 u86 u87 u88 u89 u90 u91 u92 u93 u94 u95 u96 u97 u98 u99 u100 u101 u102 u103 u104 u105 u106 u107 u108 u109 u110 u111 u112 u113 u114 u115 u116 u117 u118 u119 u120 u121 u122 u123 u124 u125 u126 u127 u128 u129 u130 u131 u132 u133 u134 u135 u136 u137 u138 u139 u140 u141 u142 u143 u144 u145 u146 u147 u148 u149 u150 u151 u152 u153 u154 u155 u156 u157 u158 u159 u160 u161 u162 u163 u164 u165 u166 u167 u168 u169 u170 u171 u172 u173 u174 u175 u176 u177 u178 u179 u180 u181 u182 u183 u184 u185 u186 u187 u188 u189 u190 u191 u192 u193 u194 u195 u196 u197 u198 u199 u200:Value,(∃x,SP rb vb n w (.l g l.length c) l w.heap.size (w.heap.size+1) ob (q+6) (.l og l.length oc) l w'/\XN w xb (.l og l.length oc) x w')/\a'={tmps:=#[.p rb,s1,s2,.p w.heap.size,.p (w.heap.size+1),.p ob,.q (l.length:Int),.q (k:Int),.p xb,u9,u10,u11,u12,u13,s14,s15,s16,s17,s18,s19,s20,s21,s22,s23,s24,s25,s26,s27,s28,s29,s30,s31,s32,s33,s34,s35,s36,s37,s38,u39,u40,u41,u42,u43,u44,u45,u46,u47,u48,u49,u50,u51,u52,u53,u54,u55,u56,u57,u58,u59,u60,u61,u62,u63,u64,u65,u66,u67,u68,u69,u70,u71,u72,u73,u74,u75,u76,u77,u78,u79,u80,u81,u82,u83,u84,u85,u86,u87,u88,u89,u90,u91,u92,u93,u94,u95,u96,u97,u98,u99,u100,u101,u102,u103,u104,u105,u106,u107,u108,u109,u110,u111,u112,u113,u114,u115,u116,u117,u118,u119,u120,u121,u122,u123,u124,u125,u126,u127,u128,u129,u130,u131,u132,u133,u134,u135,u136,u137,u138,u139,u140,u141,u142,u143,u144,u145,u146,u147,u148,u149,u150,u151,u152,u153,u154,u155,u156,u157,u158,u159,u160,u161,u162,u163,u164,u165,u166,u167,u168,u169,u170,u171,u172,u173,u174,u175,u176,u177,u178,u179,u180,u181,u182,u183,u184,u185,u186,u187,u188,u189,u190,u191,u192,u193,u194,u195,u196,u197,u198,u199,u200],defers:=[]})->J a' w'
theorem X5o(k o n c:Int)(s:ByteArray)(sl:Value)(w:World):CB 213 #[.agg #[.q k,.q o,.q n,.string s,.q c,sl]] w (.q 8):=by
 go_enter func213,ntmps213;go_wp2;go_ret;exact⟨rfl,by first|exact X8 _ _|exact bA _⟩
theorem X5l(k o n c:Int)(s:ByteArray)(sl:Value)(w:World):CB 215 #[.agg #[.q k,.q o,.q n,.string s,.q c,sl]] w (.q 8):=by
 go_enter func215,ntmps215;go_wp2;go_ret;exact⟨rfl,by first|exact X8 _ _|exact bA _⟩
theorem X5k(k o n c:Int)(s:ByteArray)(sl:Value)(w:World):CB 217 #[.agg #[.q k,.q o,.q n,.string s,.q c,sl]] w (.q 8):=by
 go_enter func217,ntmps217;go_wp2;go_ret;exact⟨rfl,by first|exact X8 _ _|exact bA _⟩
theorem X5n(k o n c:Int)(s:ByteArray)(sl:Value)(w:World):CB 220 #[.agg #[.q k,.q o,.q n,.string s,.q c,sl]] w (.q 0):=by
 go_enter func220,ntmps220;go_wp2;go_ret;exact⟨rfl,by first|exact X8 _ _|exact bA _⟩
theorem X5p(k o n c:Int)(s:ByteArray)(sl:Value)(w:World):CB 224 #[.agg #[.q k,.q o,.q n,.string s,.q c,sl]] w (.q 0):=by
 go_enter func224,ntmps224;go_wp2;go_ret;exact⟨rfl,by first|exact X8 _ _|exact bA _⟩
theorem X5m(k o n c:Int)(s:ByteArray)(sl:Value)(w:World):CB 227 #[.agg #[.q k,.q o,.q n,.string s,.q c,sl]] w (.q 0):=by
 go_enter func227,ntmps227;go_wp2;go_ret;exact⟨rfl,by first|exact X8 _ _|exact bA _⟩
theorem QG(k o n c:Int)(s:ByteArray)(sl:Value)(w:World):CB 199 #[.agg #[.q k,.q o,.q n,.string s,.q c,sl]] w (.q 9):=by
 go_enter func199,ntmps199;go_wp2;go_ret;exact⟨rfl,by first|exact X8 _ _|exact bA _⟩
def fl(bs:List (List UInt8)):Nat->List UInt8
 | 0=>[]
 | i+1=>fl bs i++bs[i]?.getD []
theorem X1h(a:List (List UInt8)){i j:Nat}(h:i<=j):(fl a i).length<=(fl a j).length:=by
 induction h with
 | refl=>exact X5 _
 | step _ d=>rw[fl,Xj];omega
theorem X6l{K:Nat->Prop}{w0:World}{B:Nat}{m v:Value}{t:List UInt8}{w:World}{a:List Value}{y:List (List UInt8)}(M:KpW K w0 B v w)(U:PtR B m v t w)(k o n c:Int)(s:ByteArray)(p:Option Addr)(g I:Nat)(d:KD w0 K B m a y g 0)(E:a=[]\/p=some ⟨g,0,none⟩)(hn:t.length+(fl y a.length).length<=90000000):Calls prog 239 #[.agg #[.q k,.q o,.q n,.string s,.q c,.slice p a.length I],.p B] w (Wd B m v t (fl y a.length) w):=by
 have Z:=X1 (WS.box M U (.cells #[.q k,.q o,.q n,.string s,.q c,.slice p a.length I] 152));have H:=X1 (d.box M (.cells #[.q k,.q o,.q n,.string s,.q c,.slice p a.length I] 152));have hl:=d.le;have L:=X1 E;clear M U d E;go_enter func239,ntmps239;go_wp2;go_loopw[5,10] (fun _ i wr=>∃(j:Nat) (J:Value),j<=a.length/\i= .q j/\WS (fun q=>K q\/q=w.heap.size\/q=w.heap.size) (w.alloc (.cells #[.q k,.q o,.q n,.string s,.q c,.slice p a.length I] 152)) B m v w J (t++fl y j) wr) (fun _ i _=>a.length-(intOf i).toNat)
 case atStart=>
  exact⟨0,v,Xb _,rfl,by simpa[fl]using Z.o⟩
 case round=>
  obtain⟨j,J,hj,rfl,F⟩:=hrel;have r:=X1 F;clear F;by_cases u:j<a.length
  .have hne:a≠[]:=fun e=>by rw[e]at u;cases u
   have A:=(r.o.kp.cell (H.o.gk hne) (0+j)).trans (H.o.ce j u);obtain⟨T,x,hu⟩:=H.o.fi j u;have N:=X1h y (show j+1<=a.length from u);have O:Hid (fl y (j+1)=fl y j++y[j]?.getD []):=X1 (by rw[fl]);have C:(fl y (j+1)).length=(fl y j).length+(y[j]?.getD []).length:=by rw[O.o,Xj]
   have Q:=X1 (H.o.wr j u);rw[hu]at A Q;have X:=X1 (Q.o wr J (t++fl y j) r.o.kp r.o.pr (by rw[Xj];omega));clear C N;simp only[Xu]at A;obtain rfl:=L.o.resolve_left hne;go_wp2_with(show wpList _ _ _ ({dst:=_,op:=Op.call {callee:=Callee.invoke _ _,args:=_,argTypes:=_},type:=_,pos:=_,after:=_,guard:=_}::_) _ _;refine Wl rfl (.tmp 14) (.tmp 15) _ rfl (.iface T x) (.p B) _ (by first|(simp[Act.eval];done)|simp[Act.eval,Act.put]) (by first|(simp[Act.eval];done)|simp[Act.eval,Act.put]) X.o ?_;rintro w4⟨v4,V,S⟩);have W:=X1 (r.o.go V S);clear V S;go_wp2;go_roundw
   case rel=>exact⟨j+1,v4,by omega,by go_num,by rw[O.o,←KL];exact W.o⟩
   case measure=>simp[intOf];omega
  .obtain rfl:j=a.length:=by omega
   go_wp2;refine Xw ?_;exact⟨rfl,J,r.o.pr,r.o.gr⟩
attribute [local simp] Act.eval Act.put
variable {K:Nat->Prop} {w0:World} {ob:Nat} {m v0:Value} {wS:World} {v:Value} {t:List UInt8} {w:World}
theorem KpW.o{O:Obj}{j:Value}{k:World}(d:KpW (fun q=>K q\/q=w.heap.size\/q=w.heap.size) (w.alloc O) ob j k)(g:KpW K w0 ob v w):KpW K w0 ob j k:=⟨fun q a=>(d.same q (.inl a)).trans ((bA O:BL w (w.alloc O)).block q (g.lt q a) |>.trans (g.same q a)),fun q a=>d.lt q (.inl a),fun q a=>d.ob q (.inl a),fun q a=>d.own q (.inl a)⟩
theorem Oi(k n c:Int)(op:Nat)(s:ByteArray)(sl:Value)(w:World)(g:op<=14)(d:Ip.Zy w)(a:0<w.heap.size):CB 208 #[.agg #[.q k,.q (op:Int),.q n,.string s,.q c,sl]] w (.q (Xi op:Nat)):=by
 have j:=((bA (.cells #[.q k,.q (op:Int),.q n,.string s,.q c,sl] 135):BL w _).cell (p:=⟨0,op*2+1,none⟩) a).trans (d op g).2;go_enter func208,ntmps208;go_wp2;go_ret;exact⟨rfl,bA _⟩
theorem X6b(J:KpW K w0 ob v w)(hp:PtR ob m v t w)(k n c:Int)(op:Nat)(s:ByteArray)(g a:Nat)(T T2:TypeId)(x x2:Value)(b S:List UInt8)(r r2:Int)(F:op<=14)(a2:∀w v,KpW K w0 ob v w->Ip.Zy w/\0<w.heap.size)(hn:t.length+(rkB r (if Xi op=4 then 5 else Xi op:Nat) b).length+(Yd op).length+2+(rkB r2 ((Xi op:Nat)+1:Int) S).length<=90000000)(d:KD w0 K ob m [.iface T x,.iface T2 x2] [b,S] g 0)(hR:Rkd w0 K ob (.iface T x) r)(X:Rkd w0 K ob (.iface T2 x2) r2):Calls prog 209 #[.agg #[.q k,.q (op:Int),.q n,.string s,.q c,.l g 2 a],.p ob] w fun e w'=>Wd ob m v t (rkB r (if Xi op=4 then 5 else Xi op:Nat) b++32::(Yd op++32::rkB r2 ((Xi op:Nat)+1:Int) S)) w e w':=by
 obtain⟨I,A⟩:∃I,I=rkB r (if Xi op=4 then 5 else Xi op:Nat) b:=⟨_,rfl⟩;obtain⟨B2,B⟩:∃B2,B2=rkB r2 ((Xi op:Nat)+1:Int) S:=⟨_,rfl⟩;rw[←A,←B]at hn⊢;have HS:=X1 (WS.box J hp (.cells #[.q k,.q (op:Int),.q n,.string s,.q c,.l g 2 a] 135));have C:=X1 (d.box J (.cells #[.q k,.q (op:Int),.q n,.string s,.q c,.l g 2 a] 135));have HR:=X1 (hR.box J (.cells #[.q k,.q (op:Int),.q n,.string s,.q c,.l g 2 a] 135));have a4:=X1 (X.box J (.cells #[.q k,.q (op:Int),.q n,.string s,.q c,.l g 2 a] 135));have u:Hid (∀w1 v1,KpW (fun q=>K q\/q=w.heap.size\/q=w.heap.size) (w.z #[.q k,.q (op:Int),.q n,.string s,.q c,.l g 2 a] 135) ob v1 w1->Ip.Zy w1/\0<w1.heap.size):=X1 (fun w1 v1 h1=>a2 w1 v1 (h1.o J));have a5:Xi op<=6:=by unfold Xi;(repeat' split)<;>omega
 clear J hp d hR X a2;obtain⟨rk,H⟩:∃rk,Xi op=rk:=⟨_,rfl⟩;rw[H]at A B a5;have N:=X1 A;have O:=X1 B;have Q:=X1 H;obtain⟨U,a1⟩:∃U:Nat,U=if rk=4 then 5 else rk:=⟨_,rfl⟩;have E:=X1 a1;clear A B H a1;have L:=X1 (HS.o.below (X8 _ _).drew);obtain⟨e0,e1,e2,e3,e4,e5⟩:=L.o.six;have c0:=C.o.kid L.o 0 (by simp);go_enter func209,ntmps209;go_wp2_with fail;go_region_held3 (fun W=>W.c w.heap.size 0=some (.q k)/\W.c w.heap.size 1=some (.q (op:Int))/\W.c w.heap.size 2=some (.q n)/\W.c w.heap.size 3=some (.string s)/\W.c w.heap.size 4=some (.q c)/\W.c w.heap.size 5=some (.l g 2 a)/\W.c g 0=some (.iface T x)) (go_keep) (first
  | (refine J9 rfl 208 [.tmp 10] _ rfl [.agg #[.q k,.q (op:Int),.q n,.string s,.q c,.l g 2 a]] (by simp) f208 func208 (by kernel_rfl) (by kernel_rfl) (fun z w2=>z= .q (rk:Nat)/\Below (w.z #[.q k,.q (op:Int),.q n,.string s,.q c,.l g 2 a] 135).drew.heap.size (w.z #[.q k,.q (op:Int),.q n,.string s,.q c,.l g 2 a] 135).drew w2) ((Oi k n c op s (.l g 2 a) _ F (u.o _ _ L.o.kp).1 (u.o _ _ L.o.kp).2).mono (fun _ _ ⟨j,y⟩=>⟨_,by rw[Q.o]at j;exact j,rfl,y⟩)) ?_;rintro z2 w2⟨rfl,Z⟩;have H2:=X1 (L.o.below Z);clear Z;obtain⟨f0,f1,f2,f3,f4,f5⟩:=H2.o.six;have g0:=C.o.kid H2.o 0 (by simp))
  | (refine J9 rfl 127 [.tmp 11] _ rfl [.q (rk:Nat)] (by simp) f127 func127 (by kernel_rfl) (by kernel_rfl) (fun z w3=>z= .q (U:Nat)/\w3=w2) ((MZ rk w2 (by omega)).mono (fun _ _ ⟨j,y⟩=>⟨_,by rw[←E.o]at j;exact j,rfl,y⟩)) ?_;rintro z3 w3⟨rfl,e3⟩;subst e3)
  | (refine J9 rfl 205 [.tmp 4,.tmp 9,.tmp 12] _ rfl [.p ob,.iface T x,.q (U:Nat)] (by simp) f205 func205 (by kernel_rfl) (by kernel_rfl) (fun z w4=>z= .tuple #[]/\∃v',WS (fun q=>K q\/q=w.heap.size\/q=w.heap.size) (w.z #[.q k,.q (op:Int),.q n,.string s,.q c,.l g 2 a] 135) ob m v w v' (t++I) w4) ((C.o.rk H2.o 0 (by simp) rfl b rfl r U HR.o (by rw[E.o,←N.o];omega)).mono (fun _ _ ⟨j,y⟩=>⟨_,j,rfl,by rw[E.o,←N.o]at y;exact y⟩)) ?_;rintro z4 w4⟨rfl,v4,V⟩;obtain⟨i0,i1,i2,i3,i4,i5⟩:=V.six;have j0:=C.o.kid V 0 (by simp)))
 all_goals
  obtain⟨G4,g4⟩:=u.o _ _ V.kp;have k1:=(G4 op F).1;have dm:¬(1+(⟨(Yd op).toArray⟩:ByteArray).size > 9223372036854775807):=by show ¬(1+(Yd op).toArray.size > _);rw[List.size_toArray];omega
  have a6:¬(1+(⟨(Yd op).toArray⟩:ByteArray).size+1 > 9223372036854775807):=by show ¬(1+(Yd op).toArray.size+1 > _);rw[List.size_toArray];omega
  have HP:=X1 (V.put ((⟨#[32]⟩:ByteArray)++⟨(Yd op).toArray⟩++⟨#[32]⟩) (by rw[Xj,KA,KA];show _+(1+(Yd op).toArray.size+1)<=_;rw[List.size_toArray];omega));clear V G4 g4;go_wp2_with fail;go_fit HP.o;rintro e w5⟨rfl,v5,h5⟩;have a3:t++I++((⟨#[32]⟩:ByteArray)++⟨(Yd op).toArray⟩++⟨#[32]⟩).data.toList=t++(I++32::(Yd op++[32])):=by simp
  rw[a3]at h5;have M:=X1 (h5.below (X8 _ _).drew);clear h5 a3;obtain⟨l0,l1,l2,l3,l4,l5⟩:=M.o.six;have c1:=C.o.kid M.o 1 (by simp);have ew:IntKind.i64.wrap ((rk:Int)+1)=(rk:Int)+1:=by rw[Yp];omega
  go_wp2_with fail;go_region_held3 (fun W=>W.c w.heap.size 0=some (.q k)/\W.c w.heap.size 1=some (.q (op:Int))/\W.c w.heap.size 2=some (.q n)/\W.c w.heap.size 3=some (.string s)/\W.c w.heap.size 4=some (.q c)/\W.c w.heap.size 5=some (.l g 2 a)/\W.c g 1=some (.iface T2 x2)) (go_keep) (first
   | (refine J9 rfl 208 [.tmp 31] _ rfl [.agg #[.q k,.q (op:Int),.q n,.string s,.q c,.l g 2 a]] (by simp) f208 func208 (by kernel_rfl) (by kernel_rfl) (fun z w6=>z= .q (rk:Nat)/\Below w5.drew.heap.size w5.drew w6) ((Oi k n c op s (.l g 2 a) _ F (u.o _ _ M.o.kp).1 (u.o _ _ M.o.kp).2).mono (fun _ _ ⟨j,y⟩=>⟨_,by rw[Q.o]at j;exact j,rfl,y⟩)) ?_;rintro z6 w6⟨rfl,a0⟩;have H6:=X1 (M.o.below a0);clear a0;obtain⟨p0,p1,p2,p3,p4,p5⟩:=H6.o.six;have q1:=C.o.kid H6.o 1 (by simp))
   | (refine J9 rfl 205 [.tmp 25,.tmp 30,.tmp 33] _ rfl [.p ob,.iface T2 x2,.q ((rk:Int)+1)] (by simp) f205 func205 (by kernel_rfl) (by kernel_rfl) (fun z w7=>z= .tuple #[]/\∃v',WS (fun q=>K q\/q=w.heap.size\/q=w.heap.size) (w.z #[.q k,.q (op:Int),.q n,.string s,.q c,.l g 2 a] 135) ob m v w v' (t++(I++32::(Yd op++[32]))++B2) w7) ((C.o.rk H6.o 1 (by simp) rfl S rfl r2 ((rk:Int)+1) a4.o (by rw[←O.o];simp;omega)).mono (fun _ _ ⟨j,y⟩=>⟨_,j,rfl,by rw[←O.o]at y;exact y⟩)) ?_;rintro z7 w7⟨rfl,vT,hT⟩;obtain⟨u0,u1,u2,u3,u4,u5⟩:=hT.six;have j:=C.o.kid hT 1 (by simp)))
  all_goals
   have HT:=X1 hT;clear hT;go_wp2;refine Xw ?_;exact⟨rfl,vT,by have:=HT.o.pr;simpa[wv]using this,HT.o.gr⟩
end
namespace Rb
def szs:List (Nat × List Sc.T)->Nat
 | []=>0
 | i::r=>(bts i.2).length+4+szs r
theorem St(k:Nat)(i:Nat × List Sc.T):(bts (br k i)).length<=(bts i.2).length+2:=by
 unfold br;split<;>simp[Uh,Jz,Y4h,Y4g]
theorem SQ:∀l:List (Nat × List Sc.T),(bts (csg [sp] (l.map (·.2)))).length<=szs l
 | []=>by simp[csg,Y4g]
 | i::r=>by
  have:=SQ r;simp[csg,Uh,Jz,Y4h,Y4i,szs]at this⊢;omega
theorem MP(l:List (Nat × List Sc.T)):(bts (cmg [sp] (l.map (·.2)))).length<=szs l:=by
 cases l with
 | nil=>simp[cmg,Y4g]
 | cons i r=>
  have:=SQ r;simp[cmg,Jz,szs]at this⊢;omega
theorem IV:∀l:List (Nat × List Sc.T),(bts (l.flatMap (·.2))).length<=szs l
 | []=>by simp[Y4g]
 | i::r=>by
  have:=IV r;simp[Jz,szs]at this⊢;omega
theorem Ej:∀l r:List (Nat × List Sc.T),szs (l++r)=szs l+szs r
 | [],r=>by simp[szs]
 | i::l,r=>by rw[Ux,szs,szs,Ej l r];omega
theorem X8h(l:List (Nat × List Sc.T)):szs l.dropLast+(bts (l.getLast?.getD (0,[])).2).length<=szs l:=by
 rcases List.eq_nil_or_concat l with rfl|⟨q,z,rfl⟩
 .simp[szs,Y4g]
 .simp[Ej,szs]
theorem X9r(o:Nat):(Yd o).length<=3:=by
 have:=OE o;exact this
attribute [local simp] Uh Jz Y4g Y4h Y4n Y4l Y4k Y4m Y4i Y4j MK szs Zj ZK K4 Zk XR Qi Qq XM Y1 Zz Z7 K3 Kj Zr
theorem Lj{c:Prop}[Decidable c]{a b:List Sc.T}{N:Nat}(d:(bts a).length<=N)(g:(bts b).length<=N):(bts (if c then a else b)).length<=N:=by
 split
 .exact d
 .exact g
theorem X1n(x:Nd)(l:List (Nat × List Sc.T)):(bts (frm [sp] [nl] x l)).length<=szs l+((Y3 (tx x)).length+(Yh x.n.toNat).length+(tx x).length+40):=by
 have m:=MP l;have s:=IV l;have g:=MP l.dropLast;have j:=X8h l;have u:=X9r x.op.toNat;unfold frm;repeat' (refine Lj ?_ ?_)
 all_goals first|omega|(split<;>simp<;>omega)|(simp;omega)|(simp at g j⊢;omega)|skip
 cases l with
 | nil=>simp;omega
 | cons a r=>
  have E:=MP r;have d:=fun k=>St k a;have A:=d 3;have B:=d 7;have C:=d 8;have y:=d (if Xi x.op.toNat=4 then 5 else Xi x.op.toNat);clear m s g j d;show(bts (if _ then _ else _)).length<=_;repeat' (refine Lj ?_ ?_)
  all_goals first|(simp;omega)|skip
  .cases v:K6 x.text<;>simp<;>omega
  .cases r with
   | nil=>simp
   | cons b q=>
    have d:=St (Xi x.op.toNat+1) b;show(bts (if _ then _ else _)).length<=_;repeat' (refine Lj ?_ ?_)
    all_goals first|(simp;omega)|skip
    cases q with
    | nil=>simp;omega
    | cons c q=>
     show(bts (if _ then _ else _)).length<=_;repeat' (refine Lj ?_ ?_)
     all_goals simp;omega
theorem Y2d:∀(n:Nat) (y:Fd),y.size<=n->y.VF=true->(∀z∈y.Xy,z.n<=9223372036854775807)->(bts (P y)).length+100<=5000*y.size:=by
 intro n;induction n with
 | zero=>intro y a;have:=Fd.size_pos y;omega
 | succ n B=>
  intro y a u d;obtain⟨x,p,b,ks⟩:=y;rw[Fd.UU]at a⊢;have h:=Nf.of u;have j:=(Wj u).2.2.2;rw[Fd.Zh]at d;have I:szs (ks.map fun t=>(rk t.x,P t))<=5000*Fd.Jn ks:=by
   have:∀l:List Fd,(∀t∈l,t∈ks)->szs (l.map fun t=>(rk t.x,P t))<=5000*Fd.Jn l:=by
    intro l;induction l with
    | nil=>intro _;exact Xb _
    | cons t l k=>
     intro s;have g:=s t (by simp);have m:=B t (by have:=Fd.Wc g;omega) (j t g) (fun z A=>d z (List.mem_append_left _ (G9 g A)));have r:=k (fun y a=>s y (by simp[a]));rw[Fd.PJ,Y5,szs];show(bts (P t)).length+4+_<=_;omega
   exact this ks (fun _ h=>h)
  have H:=X1n x (ks.map fun t=>(rk t.x,P t));have m:=Cr x.text (Ik.LZ h.pl);have v:x.n<=9223372036854775807:=d {x with kids:=ks.length} (by simp);have r:=SY x.n.toNat (by omega);have C:(tx x).length<=1000:=by have:=Ik.LZ h.pl;exact this
  have E:(Y3 (tx x)).length<=3002:=by exact m
  have F:(Yh x.n.toNat).length<=19:=by exact r
  rw[VA];omega
