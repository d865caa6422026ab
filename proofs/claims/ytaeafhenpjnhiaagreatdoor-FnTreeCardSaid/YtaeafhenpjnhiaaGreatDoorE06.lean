import Derived.Test.YtaeafhenpjnhiaaGreatDoorE04
set_option maxHeartbeats 1000000
set_option maxRecDepth 100000
namespace Go.Proofs.YtaeafhenpjnhiaaGreatDoor
open Tryz Go.RowKit
section
structure Pr.Mv (P:Nat->Prop) (w w':World):Prop where
 os:w'.os=w.os
 tape:w'.tape=w.tape
 output:w'.output=w.output
 size:w.heap.size<=w'.heap.size
 block:∀q,q<w.heap.size->¬P q->w'.heap[q]?=w.heap[q]?
theorem Pr.Mv.below{P:Nat->Prop}{w w':World}(a:BL w w'):Pr.Mv P w w':=⟨a.os,a.tape,a.output,a.size,fun q d _=>a.block q d⟩
theorem Pr.Mv.grown{P:Nat->Prop}{w w':World}{r:Option Nat}(a:w.grownBy w' r)(d:∀q,r=some q->P q):Pr.Mv P w w':=⟨a.os,a.tape,a.output,a.size,fun q j g=>a.block q j (fun e=>g (d q e.symm))⟩
theorem Pr.Mv.trans{P Q R:Nat->Prop}{a b c:World}(h:Pr.Mv P a b)(k:Pr.Mv Q b c)(j:∀q,q<a.heap.size->P q->R q)(m:∀q,q<a.heap.size->Q q->R q):Pr.Mv R a c:=⟨k.os.trans h.os,k.tape.trans h.tape,k.output.trans h.output,Xz h.size k.size,fun q d g=>(k.block q (XH d h.size) (fun e=>g (m q d e))).trans (h.block q d (fun e=>g (j q d e)))⟩
structure Pr.Gr (b:Nat) (v v':Value) (w w':World):Prop where
 mv:Pr.Mv (fun q=>q=b\/v.ownBlock=some q) w w'
 own:v'.ownBlock=v.ownBlock\/∀q,v'.ownBlock=some q->w.heap.size<=q
theorem Pr.Gr.below{b:Nat}{v:Value}{w w':World}(a:BL w w'):Pr.Gr b v v w w':=⟨.below a,.inl rfl⟩
theorem Pr.Gr.refl(b:Nat)(v:Value)(w:World):Pr.Gr b v v w w:= .below (X8 _ _)
theorem Pr.Gr.trans{b:Nat}{v v' a:Value}{w w' d:World}(h:Pr.Gr b v v' w w')(k:Pr.Gr b v' a w' d):Pr.Gr b v a w d:=by
 refine⟨h.mv.trans k.mv (fun _ _ e=>e) ?_,?_⟩
 .rintro q m (e|e)
  .exact .inl e
  .rcases h.own with g|g
   .exact .inr (g.symm.trans e)
   .exact absurd (g q e) (by omega)
 .rcases k.own with j|j
  .rw[j];exact h.own
  .exact .inr fun q e=>Xz h.mv.size (j q e)
theorem Pr.Gr.cell{b:Nat}{v v':Value}{w w':World}(h:Pr.Gr b v v' w w'){q:Nat}(g:q<w.heap.size)(d:q≠b)(k:v.ownBlock≠some q)(j:Nat):w'.cell? ⟨q,j,none⟩=w.cell? ⟨q,j,none⟩:=XQ (a:=⟨q,j,none⟩) (h.mv.block q g (fun e=>e.elim d k))
def XB(x:Sc.T):Value:= .agg #[.q x.kind,.string ⟨x.text.toArray⟩,.q x.n,.q x.place]
structure DK (b tg tc:Nat) (ts:List Sc.T) (sz:Nat) (v:Value) (s:Pr.Dk) (w:World):Prop where
 c0:w.cell? ⟨b,0,none⟩=some (.l tg ts.length tc)
 c1:w.cell? ⟨b,1,none⟩=some (.q sz)
 c2:w.cell? ⟨b,2,none⟩=some (.q s.p)
 c3:w.cell? ⟨b,3,none⟩=some (.bool s.bad)
 c4:w.cell? ⟨b,4,none⟩=some (.q s.place)
 c5:w.cell? ⟨b,5,none⟩=some v
 fr:∀j,w.frozen? ⟨b,j,none⟩=false
 tk:tg<b
 ks:∀(i:Nat) (h:i<ts.length),w.cell? ⟨tg,i*4,none⟩=some (.q ts[i].kind)/\w.cell? ⟨tg,i*4+1,none⟩=some (.string ⟨ts[i].text.toArray⟩)/\w.cell? ⟨tg,i*4+2,none⟩=some (.q ts[i].n)/\w.cell? ⟨tg,i*4+3,none⟩=some (.q ts[i].place)
 le:s.p<=ts.length
 XP:ts.length<=1048576
 row:w.ownsRow (b+1) 64 5 v s.o.length (Xh s.o)
section
variable {b tg tc:Nat} {ts:List Sc.T} {sz:Nat} {v:Value} {s:Pr.Dk} {w w':World}
theorem DK.lt(h:DK b tg tc ts sz v s w):b<w.heap.size:=QE w ⟨b,0,none⟩ h.c0
theorem DK.own(h:DK b tg tc ts sz v s w){q:Nat}(a:v.ownBlock=some q):b<q/\q<w.heap.size:=⟨(h.row.lt q a).1,(h.row.lt q a).2⟩
theorem DK.below(h:DK b tg tc ts sz v s w)(d:BL w w'):DK b tg tc ts sz v s w':=by
 have g:=h.lt;have m:=h.tk;have a:∀q j,q<=b->w'.cell? ⟨q,j,none⟩=w.cell? ⟨q,j,none⟩:=fun q j k=>d.cell (p:=⟨q,j,none⟩) (show q<w.heap.size by omega)
 exact⟨(a b _ (X5 _)).trans h.c0,(a b _ (X5 _)).trans h.c1,(a b _ (X5 _)).trans h.c2,(a b _ (X5 _)).trans h.c3,(a b _ (X5 _)).trans h.c4,(a b _ (X5 _)).trans h.c5,fun j=>(d.frozen (p:=⟨b,j,none⟩) g).trans (h.fr j),h.tk,
  fun i hi=>⟨(a tg _ (by omega)).trans (h.ks i hi).1,(a tg _ (by omega)).trans (h.ks i hi).2.1,(a tg _ (by omega)).trans (h.ks i hi).2.2.1,(a tg _ (by omega)).trans (h.ks i hi).2.2.2⟩,h.le,h.XP,Qu h.row d⟩
theorem DK.set(h:DK b tg tc ts sz v s w)(j:Nat)(u:Value)(a:Pr.Dk)(E:j=2/\u= .q a.p/\a.bad=s.bad/\a.place=s.place\/j=3/\u= .bool a.bad/\a.p=s.p/\a.place=s.place\/j=4/\u= .q a.place/\a.p=s.p/\a.bad=s.bad)(H:a.o=s.o)(A:a.p<=ts.length):DK b tg tc ts sz v a (w.setCell ⟨b,j,none⟩ u):=by
 have J:=h.lt;have C:=h.tk;have ne:∀k,k≠j->(w.setCell ⟨b,j,none⟩ u).cell? ⟨b,k,none⟩=w.cell? ⟨b,k,none⟩:=fun k F=>Zt _ _ _ _ (fun e=>F (Yt Addr.off e).symm);have tn:∀k,(w.setCell ⟨b,j,none⟩ u).cell? ⟨tg,k,none⟩=w.cell? ⟨tg,k,none⟩:=fun k=>Zt _ _ _ _ (fun e=>by have:=Yt Addr.block e;simp at this;omega);have B:(w.setCell ⟨b,j,none⟩ u).ownsRow (b+1) 64 5 v a.o.length (Xh a.o):=by
  rw[H];exact GQ h.row (fun g I _=>Y0 _ _ _ _ (show g≠b by omega))
 have d:∀k,(w.setCell ⟨b,j,none⟩ u).frozen? ⟨b,k,none⟩=false:=fun k=>by rw[UJ];exact h.fr k
 have m:∀(i:Nat) (h:i<ts.length),(w.setCell ⟨b,j,none⟩ u).cell? ⟨tg,i*4,none⟩=some (.q ts[i].kind)/\(w.setCell ⟨b,j,none⟩ u).cell? ⟨tg,i*4+1,none⟩=some (.string ⟨ts[i].text.toArray⟩)/\(w.setCell ⟨b,j,none⟩ u).cell? ⟨tg,i*4+2,none⟩=some (.q ts[i].n)/\(w.setCell ⟨b,j,none⟩ u).cell? ⟨tg,i*4+3,none⟩=some (.q ts[i].place):=
  fun i hi=>⟨(tn _).trans (h.ks i hi).1,(tn _).trans (h.ks i hi).2.1,(tn _).trans (h.ks i hi).2.2.1,(tn _).trans (h.ks i hi).2.2.2⟩
 rcases E with⟨rfl,rfl,r,y⟩|⟨rfl,rfl,r,y⟩|⟨rfl,rfl,r,y⟩
 .exact⟨(ne 0 (by decide)).trans h.c0,(ne 1 (by decide)).trans h.c1,Qk _ _ _ h.c2,by rw[r];exact(ne 3 (by decide)).trans h.c3,by rw[y];exact(ne 4 (by decide)).trans h.c4,(ne 5 (by decide)).trans h.c5,d,C,m,A,h.XP,B⟩
 .exact⟨(ne 0 (by decide)).trans h.c0,(ne 1 (by decide)).trans h.c1,by rw[r];exact(ne 2 (by decide)).trans h.c2,Qk _ _ _ h.c3,by rw[y];exact(ne 4 (by decide)).trans h.c4,(ne 5 (by decide)).trans h.c5,d,C,m,A,h.XP,B⟩
 .exact⟨(ne 0 (by decide)).trans h.c0,(ne 1 (by decide)).trans h.c1,by rw[r];exact(ne 2 (by decide)).trans h.c2,by rw[y];exact(ne 3 (by decide)).trans h.c3,Qk _ _ _ h.c4,(ne 5 (by decide)).trans h.c5,d,C,m,A,h.XP,B⟩
theorem Ii(w:World)(b j:Nat)(v:Value):w.grownBy (w.setCell ⟨b,j,none⟩ v) (some b):=by
 refine⟨rfl,rfl,rfl,Nat.le_of_eq (by simp[World.setCell]),fun k _ hne=>?_⟩;exact Y0 _ _ _ _ (fun e=>hne (by rw[e]))
theorem Pr.Gr.set(v:Value)(w:World)(b j:Nat)(u:Value):Pr.Gr b v v w (w.setCell ⟨b,j,none⟩ u):=⟨.grown (Ii w b j u) (fun q e=>by cases e;exact .inl rfl),.inl rfl⟩
theorem DK.M0(h:DK b tg tc ts sz v s w)(a:s.p<ts.length):w.cell? ⟨tg,s.p*4,none⟩=some (.q (X3 ts sz s).kind)/\w.cell? ⟨tg,s.p*4+1,none⟩=some (.string ⟨(X3 ts sz s).text.toArray⟩)/\w.cell? ⟨tg,s.p*4+2,none⟩=some (.q (X3 ts sz s).n)/\w.cell? ⟨tg,s.p*4+3,none⟩=some (.q (X3 ts sz s).place):=by
 have e:X3 ts sz s=ts[s.p]:=by unfold X3;rw[K0 a];rfl
 rw[e];exact h.ks s.p a
end
theorem QP{b tg tc:Nat}{ts:List Sc.T}{sz:Nat}{v:Value}{s:Pr.Dk}{w:World}(h:DK b tg tc ts sz v s w): CB 58 #[.p b] w (XB (X3 ts sz s)):=by
 have B:=h.lt;have k:=h.tk;have j:=h.le;have hm:=h.XP;have hne:w.heap.size≠b:=by omega
 have m:w.heap.size≠tg:=by omega
 have g:BL w (w.alloc (.cells #[.q 0,.t #[],.q 0,.q 0] 101)):=bA _;have a:=h.below g;have u:=a.c0;have y:=a.c1;have A:=a.c2;by_cases n:s.p<ts.length
 .obtain⟨C,E,F,H⟩:=a.M0 n;have d:(s.p:Int)<ts.length:=by omega
  clear a;go_enter func58,ntmps58;go_wp2;go_region;go_wp2;go_region;go_wp2;refine Xq (v:=XB (X3 ts sz s)) (by simp[results,results58,go_sem,XB]) rfl ⟨rfl,?_⟩;repeat(first|(refine Qw ?_ (by show w.heap.size<=w.heap.size;exact X5 _) _)|(refine Jp ?_))
  exact bA _
 .have d:¬(s.p:Int)<ts.length:=by omega
  have r:X3 ts sz s=⟨0,[],0,sz⟩:=by unfold X3;rw[Dp (by omega)];rfl
  rw[r];clear a;go_enter func58,ntmps58;go_wp2;go_region;go_wp2;refine Xq (v:=XB ⟨0,[],0,sz⟩) (by simp[results,results58,go_sem,XB]) rfl ⟨rfl,?_⟩;repeat(first|(refine Qw ?_ (by show w.heap.size<=w.heap.size;exact X5 _) _)|(refine Jp ?_))
  exact bA _
theorem U6(k n q:Int)(t:ByteArray)(W:World):Sem.run prog (Instr.field 101 (Value.agg #[.q k,.string t,.q n,.q q]) 0) W= .ok (.q k) W:=by kernel_rfl
theorem Er(k n q:Int)(t:ByteArray)(W:World):Sem.run prog (Instr.field 101 (Value.agg #[.q k,.string t,.q n,.q q]) 3) W= .ok (.q q) W:=by kernel_rfl
def Jb(b tg tc:Nat)(ts:List Sc.T)(sz:Nat)(v:Value)(w:World)(r:Pr.Dk)(w':World):Prop:=∃v',DK b tg tc ts sz v' r w'/\Pr.Gr b v v' w w'
theorem PO{b tg tc:Nat}{ts:List Sc.T}{sz:Nat}{v:Value}{s:Pr.Dk}{w:World}(h:DK b tg tc ts sz v s w): Calls prog 59 #[.p b] w fun e w'=>e= .returned (.tuple #[])/\DK b tg tc ts sz v (Z0 ts sz s) w'/\Pr.Gr b v v w w':=by
 have y:=h.c3;have I:=h.fr 3;cases m:s.bad
 .rw[m]at y;have r:=h.set 3 (.bool true) {s with bad:=true} (.inr (.inl ⟨rfl,rfl,rfl,rfl⟩)) rfl h.le;have E:=X1 (QP r);have C:=X1 r;have j:=X1 h;have a:Z0 ts sz s={s with bad:=true,place:=(X3 ts sz s).place}:=by unfold Z0;rw[m];rfl
  have k:X3 ts sz {s with bad:=true}=X3 ts sz s:=rfl;rw[a];have B:=X1 k;clear r h a k;go_enter func59,ntmps59;go_wp2_with fail;go_fit E.o;rintro e K⟨rfl,g⟩;have d:=C.o.below g;have H:=d.c4;have J:=d.fr 4;have u:=X1 d;have A:=X1 g;rw[B.o];unfold XB;clear d g;have F:=Er (X3 ts sz s).kind (X3 ts sz s).n (X3 ts sz s).place ⟨(X3 ts sz s).text.toArray⟩;go_wp2;refine Xw ?_;refine⟨rfl,u.o.set 4 _ _ (.inr (.inr ⟨rfl,rfl,rfl,rfl⟩)) rfl u.o.le,?_⟩;exact((Pr.Gr.set v w b 3 _).trans (.below A.o)).trans (.set v _ b 4 _)
 .rw[m]at y;have j:=X1 h;have a:Z0 ts sz s=s:=by unfold Z0;rw[m];rfl
  rw[a];clear h a;go_enter func59,ntmps59;go_wp2;refine Xw ?_;exact⟨rfl,j.o,.refl _ _ _⟩
theorem Gc{b tg tc:Nat}{ts:List Sc.T}{sz:Nat}{v:Value}{s:Pr.Dk}{w:World}(h:DK b tg tc ts sz v s w)(t:ByteArray): CB 92 #[.p b,.string t] w (.bool (X4 ts sz s t.data.toList)):=by
 have A:=X1 (QP h);have u:=X1 h;have C:=h.lt;clear h;go_enter func92,ntmps92;go_wp2_with fail;go_fit A.o;rintro e r⟨rfl,a⟩;have m:=a.size;have g:=a.trans (((X8 r.heap.size r).alloc (X5 _) (.cells #[.q (X3 ts sz s).kind,.string ⟨(X3 ts sz s).text.toArray⟩,.q (X3 ts sz s).n,.q (X3 ts sz s).place] 101)).mono m);have j:=u.o.below g;have B:=j.c3;have d:=X1 a;unfold XB;have y:Hid (X4 ts sz s t.data.toList=(!s.bad&&((X3 ts sz s).kind==2||(X3 ts sz s).kind==5)&&(X3 ts sz s).text==t.data.toList)):=X1 rfl;clear j g a;generalize X3 ts sz s=x at *;obtain⟨k,tx,n,E⟩:=x;go_wp2;all_goals
  go_ret;refine⟨?_,d.o.alloc m _⟩;rw[y.o];simp_all[Js];try(intro h;omega)
theorem DK.adv{b tg tc:Nat}{ts:List Sc.T}{sz:Nat}{v:Value}{s:Pr.Dk}{w:World}(h:DK b tg tc ts sz v s w)(a:s.p<ts.length):DK b tg tc ts sz v (X2 s) (w.setCell ⟨b,2,none⟩ (.q ((s.p:Int)+1))):=h.set 2 _ (X2 s) (.inl ⟨rfl,rfl,rfl,rfl⟩) rfl a
theorem PZ{b tg tc:Nat}{ts:List Sc.T}{sz:Nat}{v:Value}{s:Pr.Dk}{w:World}(h:DK b tg tc ts sz v s w)(t:ByteArray): Calls prog 53 #[.p b,.string t] w fun e w'=>e= .returned (.bool (X4 ts sz s t.data.toList))/\DK b tg tc ts sz v (V7 ts sz s t.data.toList) w'/\Pr.Gr b v v w w':=by
 have g:=X1 (Gc h t);have k:=X1 h;have hm:=h.XP;clear h;unfold V7;cases hi:X4 ts sz s t.data.toList
 .rw[hi]at g;go_enter func53,ntmps53;go_wp2_with fail;go_fit g.o;rintro e r⟨rfl,a⟩;have d:=X1 a;clear a;go_wp2;go_ret;exact⟨rfl,k.o.below d.o,.below d.o⟩
 .have n:=Yb hi;rw[hi]at g;go_enter func53,ntmps53;go_wp2_with fail;go_fit g.o;rintro e r⟨rfl,a⟩;have j:=k.o.below a;have u:=j.c2;have y:=j.fr 2;have m:=X1 j;have d:=X1 a;clear a j;go_wp2;go_ret;exact⟨rfl,m.o.adv n,(Pr.Gr.below d.o).trans (.set _ _ _ _ _)⟩
theorem Xap{b tg tc:Nat}{ts:List Sc.T}{sz:Nat}{v:Value}{s:Pr.Dk}{w:World}(h:DK b tg tc ts sz v s w)(t:ByteArray): Calls prog 56 #[.p b,.string t] w fun e w'=>e= .returned (.tuple #[])/\DK b tg tc ts sz v (Xd ts sz s t.data.toList) w'/\Pr.Gr b v v w w':=by
 have k:=X1 (PZ h t);clear h;unfold Xd;cases hi:X4 ts sz s t.data.toList
 .have u:V7 ts sz s t.data.toList=s:=by unfold V7;rw[hi];rfl
  rw[hi,u]at k;go_enter func56,ntmps56;go_wp2_with fail;go_fit k.o;rintro e B⟨rfl,a,d⟩;have A:=X1 (PO a);have n:=X1 d;clear a d;go_wp2_with fail;go_fit A.o;rintro e C⟨rfl,g,j⟩;have m:=X1 g;have r:=X1 j;clear g j;go_wp2;refine Xw ?_;exact⟨rfl,m.o,n.o.trans r.o⟩
 .have u:V7 ts sz s t.data.toList=X2 s:=by unfold V7;rw[hi];rfl
  rw[hi,u]at k;go_enter func56,ntmps56;go_wp2_with fail;go_fit k.o;rintro e B⟨rfl,a,d⟩;have y:=X1 a;have n:=X1 d;clear a d;go_wp2;refine Xw ?_;exact⟨rfl,y.o,n.o⟩
theorem Xae{b tg tc:Nat}{ts:List Sc.T}{sz:Nat}{v:Value}{s:Pr.Dk}{w:World}(h:DK b tg tc ts sz v s w): Calls prog 54 #[.p b] w fun e w'=>e= .returned (.string ⟨(Xe ts sz s).toArray⟩)/\DK b tg tc ts sz v (Xm ts sz s) w'/\Pr.Gr b v v w w':=by
 have F:=X1 (QP h);have E:=X1 (fun W (u:BL w W)=>PO (h.below u));have L:=X1 h;have hm:=h.XP;have B:=h.c3;clear h;unfold Xm Xe;cases hi:K2 ts sz s
 .cases u:s.bad
  .rw[u]at B;have H:¬((X3 ts sz s).kind:Int)=1:=by unfold K2 at hi;rw[u]at hi;simp at hi;omega
   have C:=U6 (X3 ts sz s).kind (X3 ts sz s).n (X3 ts sz s).place ⟨(X3 ts sz s).text.toArray⟩;go_enter func54,ntmps54;go_wp2_with fail;go_fit F.o;rintro e J⟨rfl,d⟩;have A:=X1 d;clear d;unfold XB;go_wp2_with fail;go_fit(E.o _ A.o);rintro e M⟨rfl,g,j⟩;have m:=X1 g;have r:=X1 j;clear g j;go_wp2;go_ret;exact⟨rfl,m.o,(Pr.Gr.below A.o).trans r.o⟩
  .rw[u]at B;go_enter func54,ntmps54;go_wp2_with fail;go_fit(E.o _ (X8 _ _));rintro e M⟨rfl,g,j⟩;have m:=X1 g;have r:=X1 j;clear g j;go_wp2;go_ret;exact⟨rfl,m.o,r.o⟩
 .have I:=RB hi;have u:s.bad=false:=by unfold K2 at hi;simp at hi;exact hi.1
  have H:((X3 ts sz s).kind:Int)=1:=by unfold K2 at hi;simp at hi;omega
  rw[u]at B;have C:=U6 1 (X3 ts sz s).n (X3 ts sz s).place ⟨(X3 ts sz s).text.toArray⟩;go_enter func54,ntmps54;go_wp2_with fail;go_fit F.o;rintro e J⟨rfl,d⟩;have y:=L.o.below d;have N:=y.c2;have U:=y.fr 2;have k:=y.adv I;have O:=k.c0;have Q:=k.c2;have hne:tg≠b:=by have:=y.tk;omega
  have S:=((Zt (w:=J) (a:=⟨b,2,none⟩) (b:=⟨tg,s.p*4+1,none⟩) (.q ((s.p:Int)+1)) (fun e=>hne (Yt Addr.block e).symm))).trans (y.M0 (sz:=sz) I).2.1;have K:=X1 k;have A:=X1 d;clear d y k;unfold XB;rw[H];go_wp2;go_region;go_wp2;go_ret;exact⟨rfl,K.o.below (X8 _ _).drew,((Pr.Gr.below A.o).trans (.set _ _ _ _ _)).trans (.below (X8 _ _).drew)⟩
theorem DK.W9{b d tc:Nat}{ts:List Sc.T}{sz:Nat}{v v':Value}{s m:Pr.Dk}{w w':World}(h:DK b d tc ts sz v s w)(B:w.grownBy w' v.ownBlock)(C:m.p=s.p)(H:m.bad=s.bad)(F:m.place=s.place)(L:w'.ownsRow (b+1) 64 5 v' m.o.length (Xh m.o)): DK b d tc ts sz v' m (w'.setCell ⟨b,5,none⟩ v'):=by
 have K:=h.lt;have M:=h.tk;have r:v.ownBlock≠some b:=fun e=>by have:=(h.own e).1;omega
 have u:v.ownBlock≠some d:=fun e=>by have:=(h.own e).1;omega
 have A:w'.heap[b]?=w.heap[b]?:=B.block b K (fun e=>r e.symm);have E:w'.heap[d]?=w.heap[d]?:=B.block d (by omega) (fun e=>u e.symm);have y:∀j,w'.cell? ⟨b,j,none⟩=w.cell? ⟨b,j,none⟩:=fun j=>XQ (a:=⟨b,j,none⟩) A;have n:∀j,(w'.setCell ⟨b,5,none⟩ v').cell? ⟨d,j,none⟩=w.cell? ⟨d,j,none⟩:=fun j=>(Zt _ _ _ _ (fun e=>by have:=Yt Addr.block e;simp at this;omega)).trans (XQ (a:=⟨d,j,none⟩) E);have ne:∀k,k≠5->(w'.setCell ⟨b,5,none⟩ v').cell? ⟨b,k,none⟩=w.cell? ⟨b,k,none⟩:=fun k J=>(Zt _ _ _ _ (fun e=>J (Yt Addr.off e).symm)).trans (y k);refine⟨(ne 0 (by decide)).trans h.c0,(ne 1 (by decide)).trans h.c1,?_,?_,?_,Qk _ _ _ ((y 5).trans h.c5),fun j=>?_,M,fun i hi=>⟨(n _).trans (h.ks i hi).1,(n _).trans (h.ks i hi).2.1,(n _).trans (h.ks i hi).2.2.1,(n _).trans (h.ks i hi).2.2.2⟩,by rw[C];exact h.le,h.XP,?_⟩
 .rw[C];exact(ne 2 (by decide)).trans h.c2
 .rw[H];exact(ne 3 (by decide)).trans h.c3
 .rw[F];exact(ne 4 (by decide)).trans h.c4
 .rw[UJ];exact(ZC (a:=⟨b,j,none⟩) A).trans (h.fr j)
 .exact GQ L (fun g I _=>Y0 _ _ _ _ (show g≠b by omega))
theorem Pr.Gr.grown{b:Nat}{v v':Value}{w w':World}(a:w.grownBy w' v.ownBlock)(d:v'.ownBlock=v.ownBlock\/v'.ownBlock=some w.heap.size):Pr.Gr b v v' w w':=⟨.grown a (fun _ e=> .inr e),d.imp id (fun e q h=>by rw[e]at h;cases h;exact X5 _)⟩
theorem Yk{b I tc:Nat}{ts:List Sc.T}{sz:Nat}{v:Value}{s:Pr.Dk}{w:World}(h:DK b I tc ts sz v s w)(V:s.o.length<=100000000)(k o n:Int)(t:List UInt8)(c:Nat): Calls prog 28 #[.p b,.agg #[.q k,.q o,.q n,.string ⟨t.toArray⟩,.q c]] w fun e w'=>e= .returned (.tuple #[])/\Jb b I tc ts sz v w (X9 s k o n t c) w':=by
 obtain⟨N,L,B,A,y⟩:=YK Un;have U:=h.lt;have u:BL w (w.alloc (.cells #[.q k,.q o,.q n,.string ⟨t.toArray⟩,.q c] 64)):=bA _;have j:=h.below u;have Q:=j.c5;have S:=j.fr 5;have M:(w.alloc (.cells #[.q k,.q o,.q n,.string ⟨t.toArray⟩,.q c] 64)).heap.size=w.heap.size+1:=by simp
 have E:=j.below (bA (.cells #[.q k,.q o,.q n,.string ⟨t.toArray⟩,.q c] 64));have F:=E.below (X8 _ _).drew;have C:Pr.Gr b v v w _:=(Pr.Gr.below u).trans ((Pr.Gr.below (bA (.cells #[.q k,.q o,.q n,.string ⟨t.toArray⟩,.q c] 64))).trans (.below (X8 _ _).drew));have d:=X1 F;have J:=X1 C;clear h j E F C u;go_enter func28,ntmps28;go_wp2_with fail;go_region_law((refine U5 rfl (.tmp 8) (.tmp 10) 23 rfl (b+1) 64 N _ 5 48 underlying23 L B A y rfl (by decide) v s.o.length (Xh s.o) (by simp[Act.eval]) d.o.row ⟨w.heap.size+1,0,none⟩ 1 1 [.q k,.q o,.q n,.string ⟨t.toArray⟩,.q c] (by simp[Act.eval]) rfl (MM _ [_,_,_,_,_] _ _ (by simp)) (by simp[Value.oneCell']) (by unfold maxLen;omega) (by omega) (by have:=d.o.lt;omega) ?_;intro v5 w5 r1 r2 O H;obtain⟨W,K,rfl⟩:=XA r1;have X:=(XQ (a:=⟨b,5,none⟩) (r2.block b d.o.lt (fun e=>by have:=(d.o.own e.symm).1;omega))).trans d.o.c5;have Z:=(ZC (a:=⟨b,5,none⟩) (r2.block b d.o.lt (fun e=>by have:=(d.o.own e.symm).1;omega))).trans (d.o.fr 5)));all_goals
  have m:=X1 r1;have g:=X1 r2;have r:=X1 H;clear r1 r2 O H;go_wp2;refine Xw ?_;refine⟨rfl,_,d.o.W9 g.o rfl rfl rfl ?_,(J.o.trans (.grown g.o r.o)).trans (.set _ _ _ _ _)⟩;show w5.ownsRow (b+1) 64 5 _ (s.o++[_]).length (Xh (s.o++[_]));rw[S0,Xj];exact m.o
def UC(ts:List Sc.T)(s:Pr.Dk):Nat:=s.o.length+4*(ts.length-s.p)
theorem Pr.Stp.phi{ts:List Sc.T}{s r:Pr.Dk}{x:Int}(h:Pr.Stp ts s r x)(g:s.p<=ts.length)(j:UC ts s<=1000000)(k:x<=0:=by first|omega|(simp only[XX];omega)):UC ts r<=1000000:=by
 obtain⟨a,b,c,d⟩:=h;unfold UC at *;omega
theorem Pr.Stp.len{ts:List Sc.T}{s r:Pr.Dk}{x:Int}(h:Pr.Stp ts s r x)(g:s.p<=ts.length)(j:UC ts s<=1000000)(k:x<=100:=by first|omega|(simp only[XX];omega)):r.o.length<=100000000:=by
 obtain⟨a,b,c,d⟩:=h;unfold UC at *;omega
section
variable {b tg tc:Nat} {ts:List Sc.T} {sz:Nat} {v:Value} {s:Pr.Dk} {w:World}
theorem YA(h:DK b tg tc ts sz v s w)(t:List UInt8)(a:Array UInt8)(k:a.toList=t)(hi:X4 ts sz s t=true): Calls prog 53 #[.p b,.string ⟨a⟩] w fun e w'=>e= .returned (.bool true)/\Jb b tg tc ts sz v w (X2 s) w':=by
 have:=PZ h ⟨a⟩;simp only[k,hi,V7,Kv]at this;exact this.mono fun _ _ ⟨d,g,j⟩=>⟨d,v,g,j⟩
theorem XD(h:DK b tg tc ts sz v s w)(t:List UInt8)(a:Array UInt8)(k:a.toList=t)(hi:X4 ts sz s t=false): Calls prog 53 #[.p b,.string ⟨a⟩] w fun e w'=>e= .returned (.bool false)/\Jb b tg tc ts sz v w s w':=by
 have:=PZ h ⟨a⟩;simp only[k,hi,V7,Jq,Kl]at this;exact this.mono fun _ _ ⟨d,g,j⟩=>⟨d,v,g,j⟩
theorem XW(h:DK b tg tc ts sz v s w)(t:List UInt8)(a:Array UInt8)(k:a.toList=t): Calls prog 56 #[.p b,.string ⟨a⟩] w fun e w'=>e= .returned (.tuple #[])/\Jb b tg tc ts sz v w (Xd ts sz s t) w':=by
 have:=Xap h ⟨a⟩;simp only[k]at this;exact this.mono fun _ _ ⟨d,g,j⟩=>⟨d,v,g,j⟩
theorem Jk(h:DK b tg tc ts sz v s w): Calls prog 54 #[.p b] w fun e w'=>e= .returned (.string ⟨(Xe ts sz s).toArray⟩)/\Jb b tg tc ts sz v w (Xm ts sz s) w':=(Xae h).mono fun _ _ ⟨a,d,g⟩=>⟨a,v,d,g⟩
end
def Uf(b tg tc:Nat)(ts:List Sc.T)(sz:Nat)(f:FuncId)(xs:List Value)(ret:Nat->Value)(c:Zb)(s:Pr.Dk):Prop:=∀(v:Value) (w:World),DK b tg tc ts sz v s w->UC ts s<=1000000->Calls prog f (Value.p b::xs).toArray w fun e w'=>∃r:Pr.Dk × Nat,e= .returned (ret r.2)/\Pr.Cv ts sz c s r/\Jb b tg tc ts sz v w r.1 w'
section
variable {b tg tc:Nat} {ts:List Sc.T} {sz:Nat} {v v0:Value} {s s0 q:Pr.Dk} {w w0:World} {f:Nat} {A:Array Value} {R:Ending} {ret:Nat->Value} {c:Zb} {x:Int}
theorem grt{a:Value}{d:World}(g:Hid (Pr.Gr b v0 v w0 w))(k:Hid (Pr.Gr b v a w d)):Hid (Pr.Gr b v0 a w0 d):=X1 (g.o.trans k.o)
theorem up0(C:Calls prog f A w fun e w'=>e=R/\Jb b tg tc ts sz v w s w'):Calls prog f A w fun e w'=>e=R/\∃v',Hid (DK b tg tc ts sz v' s w')/\Hid (Pr.Gr b v v' w w'):=C.mono fun _ _ ⟨a,v',d,g⟩=>⟨a,v',X1 d,X1 g⟩
theorem up(G:Hid (Pr.Gr b v0 v w0 w))(S:Pr.Stp ts s0 s x)(C:Calls prog f A w fun e w'=>e=R/\Jb b tg tc ts sz v w s w'):Calls prog f A w fun e w'=>e=R/\∃v',Hid (DK b tg tc ts sz v' s w')/\Hid (Pr.Gr b v0 v' w0 w')/\Hid (Pr.Stp ts s0 s x):=C.mono fun _ _ ⟨a,v',d,g⟩=>⟨a,v',X1 d,X1 (G.o.trans g),X1 S⟩
theorem De(C:Calls prog f A w fun e w'=>∃r:Pr.Dk × Nat,e= .returned (ret r.2)/\Pr.Cv ts sz c q r/\Jb b tg tc ts sz v w r.1 w'):Calls prog f A w fun e w'=>∃r:Pr.Dk × Nat,e= .returned (ret r.2)/\Hid (Pr.Cv ts sz c q r)/\∃v',Hid (DK b tg tc ts sz v' r.1 w')/\Hid (Pr.Gr b v v' w w'):=C.mono fun _ _ ⟨r,a,h,v',d,g⟩=>⟨r,a,X1 h,v',X1 d,X1 g⟩
theorem upc(G:Hid (Pr.Gr b v0 v w0 w))(S:Hid (Pr.Stp ts s0 q x))(C:Calls prog f A w fun e w'=>∃r:Pr.Dk × Nat,e= .returned (ret r.2)/\Pr.Cv ts sz c q r/\Jb b tg tc ts sz v w r.1 w'):Calls prog f A w fun e w'=>∃r:Pr.Dk × Nat,e= .returned (ret r.2)/\Hid (Pr.Cv ts sz c q r)/\∃v',Hid (DK b tg tc ts sz v' r.1 w')/\Hid (Pr.Gr b v0 v' w0 w')/\Hid (Pr.Stp ts s0 r.1 (x+XX c)):=C.mono fun _ _ ⟨r,a,h,v',d,g⟩=>⟨r,a,X1 h,v',X1 d,X1 (G.o.trans g),X1 (S.o.trans (h.stp S.o.le))⟩
end
def V8(_:Nat):Value:= .tuple #[]
def Qa(n:Nat):Value:= .q n
abbrev Pr.SE(b tg tc:Nat)(ts:List Sc.T)(sz:Nat)(s:Pr.Dk):Prop:=Uf b tg tc ts sz 57 [] V8 .e s
abbrev Pr.SP(b tg tc:Nat)(ts:List Sc.T)(sz:Nat)(s:Pr.Dk):Prop:=Uf b tg tc ts sz 55 [] Qa .params s
abbrev Pr.SO(b tg tc:Nat)(ts:List Sc.T)(sz:Nat)(r:Nat)(s:Pr.Dk):Prop:=Uf b tg tc ts sz 93 [.q r] V8 (.ops r) s
abbrev Pr.ST(b tg tc:Nat)(ts:List Sc.T)(sz:Nat)(s:Pr.Dk):Prop:=Uf b tg tc ts sz 113 [] V8 .post s
abbrev Pr.SA(b tg tc:Nat)(ts:List Sc.T)(sz:Nat)(s:Pr.Dk):Prop:=Uf b tg tc ts sz 129 [] Qa .args s
abbrev Pr.SL(b tg tc:Nat)(ts:List Sc.T)(sz:Nat)(s:Pr.Dk):Prop:=Uf b tg tc ts sz 146 [] V8 .list s
abbrev Pr.SR(b tg tc:Nat)(ts:List Sc.T)(sz:Nat)(s:Pr.Dk):Prop:=Uf b tg tc ts sz 147 [] V8 .record s
abbrev Pr.SI(b tg tc:Nat)(ts:List Sc.T)(sz:Nat)(s:Pr.Dk):Prop:=Uf b tg tc ts sz 128 [] V8 .single s
theorem X0c{b tg tc:Nat}{ts:List Sc.T}{sz:Nat}{s:Pr.Dk}(Q:∀q:Pr.Dk,s.p<q.p->q.p<=ts.length->Pr.SE b tg tc ts sz q)(b7:∀q:Pr.Dk,s.p<q.p->q.p<=ts.length->Pr.SP b tg tc ts sz q)(b6:Pr.SO b tg tc ts sz 1 s):Pr.SE b tg tc ts sz s:=by
 intro v0 w0 a8 hN;have S:=a8.le;have W:=X1 a8;have a4:=X1 (Pr.Gr.refl b v0 w0);have a5:=X1 (Pr.Stp.refl S);clear a8;cases r:X4 ts sz s XM
 .cases N:X4 ts sz s XR
  .cases O:X4 ts sz s Zz
   .go_enter func57,ntmps57;go_wp2_with fail;go_fit(up a4 (a5.o) (XD W.o XM #[108,101,116] rfl r));rintro e w1⟨rfl,v1,E,J,y⟩;go_wp2_with fail;go_fit(up J (y.o) (XD E.o XR #[105,102] rfl N));rintro e w2⟨rfl,v2,F,K,d⟩;go_wp2_with fail;go_fit(up K (d.o) (XD F.o Zz #[102,110] rfl O));rintro e w3⟨rfl,v3,H,L,a⟩;go_wp2_with fail;go_fit(upc L a (b6 _ _ H.o (a.o.phi S hN)));rintro e w4⟨r4,rfl,u,v4,I,M,k⟩;go_wp2;refine Xw ?_;exact⟨r4,rfl,Pr.Cv.VP r N O u.o,v4,I.o,M.o⟩
   .go_enter func57,ntmps57;go_wp2_with fail;go_fit(up a4 (a5.o) (XD W.o XM #[108,101,116] rfl r));rintro e w1⟨rfl,v1,E,J,y⟩;go_wp2_with fail;go_fit(up J (y.o) (XD E.o XR #[105,102] rfl N));rintro e w2⟨rfl,v2,F,K,d⟩;go_wp2_with fail;go_fit(up K (d.o.adv O) (YA F.o Zz #[102,110] rfl O));rintro e w3⟨rfl,v3,H,L,a⟩;have g:=X1 (Pr.Stp.refl a.o.le);go_wp2_with fail;go_fit(upc L a (b7 _ g.o.ge a.o.le _ _ H.o (a.o.phi S hN)));rintro e w4⟨r4,rfl,u,v4,I,M,k⟩;have B:=X1 (g.o.trans (u.o.stp g.o.le));have b5:=u.o.num rfl (Yb O);have c0:=k.o.le;have hm:=W.o.XP;simp only[Zf]at b5;unfold Qa;go_wp2_with fail;go_fit(up M (k.o.X7 (sz:=sz) [61,62]) (XW I.o [61,62] #[61,62] rfl));rintro e w5⟨rfl,v5,X,a1,m⟩;have j:=X1 (B.o.X7 (sz:=sz) [61,62]);go_wp2_with fail;go_fit(upc a1 m (Q _ j.o.ge m.o.le _ _ X.o (m.o.phi S hN)));rintro e w6⟨r6,rfl,V,v6,Z,a2,n⟩;have C:=X1 (j.o.trans (V.o.stp j.o.le));go_wp2_with fail;go_fit(up a2 (n.o.put 15 0 0 [] (r4.2+1)) (Yk Z.o (n.o.len S hN) 15 0 0 [] (r4.2+1)));rintro e w7⟨rfl,v7,a0,a3,a6⟩;have a7:=X1 (C.o.put 15 0 0 [] (r4.2+1));go_wp2;refine Xw ?_;exact⟨(_,0),rfl,Pr.Cv.IN r N O u.o V.o,v7,a0.o,a3.o⟩
  .go_enter func57,ntmps57;go_wp2_with fail;go_fit(up a4 (a5.o) (XD W.o XM #[108,101,116] rfl r));rintro e w1⟨rfl,v1,E,J,y⟩;go_wp2_with fail;go_fit(up J (y.o.adv N) (YA E.o XR #[105,102] rfl N));rintro e w2⟨rfl,v2,F,K,d⟩;have U:=X1 (Pr.Stp.refl d.o.le);go_wp2_with fail;go_fit(upc K d (Q _ U.o.ge d.o.le _ _ F.o (d.o.phi S hN)));rintro e w3⟨r3,rfl,a9,v3,H,L,a⟩;have g:=X1 (U.o.trans (a9.o.stp U.o.le));go_wp2_with fail;go_fit(up L (a.o.X7 (sz:=sz) Qi) (XW H.o Qi #[116,104,101,110] rfl));rintro e w4⟨rfl,v4,I,M,k⟩;have B:=X1 (g.o.X7 (sz:=sz) Qi);go_wp2_with fail;go_fit(upc M k (Q _ B.o.ge k.o.le _ _ I.o (k.o.phi S hN)));rintro e w5⟨r5,rfl,b0,v5,X,a1,m⟩;have j:=X1 (B.o.trans (b0.o.stp B.o.le));go_wp2_with fail;go_fit(up a1 (m.o.X7 (sz:=sz) Qq) (XW X.o Qq #[101,108,115,101] rfl));rintro e w6⟨rfl,v6,Z,a2,n⟩;have C:=X1 (j.o.X7 (sz:=sz) Qq);go_wp2_with fail;go_fit(upc a2 n (Q _ C.o.ge n.o.le _ _ Z.o (n.o.phi S hN)));rintro e w7⟨r7,rfl,b1,v7,a0,a3,a6⟩;have a7:=X1 (C.o.trans (b1.o.stp C.o.le));go_wp2_with fail;go_fit(up a3 (a6.o.put 13 0 0 [] 3) (Yk a0.o (a6.o.len S hN) 13 0 0 [] 3));rintro e w8⟨rfl,v8,b3,b4,b9⟩;have b8:=X1 (a7.o.put 13 0 0 [] 3);go_wp2;refine Xw ?_;exact⟨(_,0),rfl,Pr.Cv.IQ r N a9.o b0.o b1.o,v8,b3.o,b4.o⟩
 .go_enter func57,ntmps57;go_wp2_with fail;go_fit(up a4 (a5.o.adv r) (YA W.o XM #[108,101,116] rfl r));rintro e w1⟨rfl,v1,E,J,y⟩;have b2:=X1 (Pr.Stp.refl y.o.le);go_wp2_with fail;go_fit(up J (y.o.name (sz:=sz)) (Jk E.o));rintro e w2⟨rfl,v2,F,K,d⟩;have U:=X1 (b2.o.name (sz:=sz));go_wp2_with fail;go_fit(up K (d.o.X7 (sz:=sz) [61]) (XW F.o [61] #[61] rfl));rintro e w3⟨rfl,v3,H,L,a⟩;have g:=X1 (U.o.X7 (sz:=sz) [61]);go_wp2_with fail;go_fit(upc L a (Q _ g.o.ge a.o.le _ _ H.o (a.o.phi S hN)));rintro e w4⟨r4,rfl,u,v4,I,M,k⟩;have B:=X1 (g.o.trans (u.o.stp g.o.le));go_wp2_with fail;go_fit(up M (k.o.X7 (sz:=sz) Y1) (XW I.o Y1 #[105,110] rfl));rintro e w5⟨rfl,v5,X,a1,m⟩;have j:=X1 (B.o.X7 (sz:=sz) Y1);go_wp2_with fail;go_fit(upc a1 m (Q _ j.o.ge m.o.le _ _ X.o (m.o.phi S hN)));rintro e w6⟨r6,rfl,V,v6,Z,a2,n⟩;have C:=X1 (j.o.trans (V.o.stp j.o.le));go_wp2_with fail;go_fit(up a2 (n.o.put 14 0 0 (Xe ts sz (X2 s)) 2) (Yk Z.o (n.o.len S hN) 14 0 0 (Xe ts sz (X2 s)) 2));rintro e w7⟨rfl,v7,a0,a3,a6⟩;have a7:=X1 (C.o.put 14 0 0 (Xe ts sz (X2 s)) 2);go_wp2;refine Xw ?_;exact⟨(_,0),rfl,Pr.Cv.DW r u.o V.o,v7,a0.o,a3.o⟩
namespace Sc
theorem A4{b:UInt8}(h:dig b=true):nm b=true:=by simp[nm,h]
theorem PU(d r:List UInt8)(a:d.all dig=true):(d++r).takeWhile nm=d++r.takeWhile nm:=by
 induction d with
 | nil=>rfl
 | cons x d g=>
  simp only[List.all_cons,XE]at a;simp[A4 a.1,g a.2]
theorem BV(d r:List UInt8)(a:d.all dig=true)(g:r.takeWhile nm=[])(j:YR d<=9223372036854775807)(k:¬((d++r).head?=some 48/\1<d.length)): ZV (d++r)=⟨0,3,[],YR d,d.length⟩:=by
 unfold ZV;rw[PU d r a,g,JW,Xa ⟨a,j,k⟩]
theorem Xbz(d r:List UInt8)(k:d.all dig=true)(m:∃b a,r=b::a/\nm b=true/\dig b=false):ZV (d++r)=bad 3:=by
 obtain⟨b,a,rfl,g,j⟩:=m;unfold ZV;rw[PU d _ k,X6];simp[g,j]
theorem BU(d r:List UInt8)(g:d.all dig=true)(j:r.takeWhile nm=[])(h:9223372036854775807<YR d\/((d++r).head?=some 48/\1<d.length)):ZV (d++r)=bad 3:=by
 unfold ZV;rw[PU d r g,j,JW,X6];rintro⟨_,k,a⟩;rcases h with h|h
 .omega
 .exact a h
theorem Y1n(s:ByteArray)(k j:Nat)(a:k<=j):s.data.toList.drop k=(s.data.toList.drop k).take (j-k)++s.data.toList.drop j:=by
 conv=>lhs;rw[←JX (j-k) (s.data.toList.drop k)]
 rw[Ub,show k+(j-k)=j from by omega]
theorem take_len(s:ByteArray)(k j:Nat)(a:k<=j)(d:j<=s.size):((s.data.toList.drop k).take (j-k)).length=j-k:=by
 simp;omega
theorem X2h(s:ByteArray)(k:Nat)(a:k<s.size):(s.data.toList.drop k).head?=some s[k]:=by rw[drop_cons s k a];rfl
theorem BP(s:ByteArray)(k j:Nat)(E:k<s.size)(r:k<=j)(C:j<=s.size)(m:((s.data.toList.drop k).take (j-k)).all dig=true)(A:∀h:j<s.size,dig s[j]=false): ((9223372036854775807<YR ((s.data.toList.drop k).take (j-k))\/(s[k].toNat=48/\k+1<j)\/(∃h:j<s.size,nm s[j]=true))->ZV (s.data.toList.drop k)=bad 3)/\((YR ((s.data.toList.drop k).take (j-k))<=9223372036854775807/\¬(s[k].toNat=48/\k+1<j)/\(∀h:j<s.size,nm s[j]=false))->ZV (s.data.toList.drop k)=⟨0,3,[],YR ((s.data.toList.drop k).take (j-k)),j-k⟩):=by
 have B:=X2h s k E;have y:=take_len s k j r C;have a:(s.data.toList.drop k).head?=some 48↔s[k].toNat=48:=by
  rw[B,ZO,←Sd];rfl
 have hsp:=Y1n s k j r;generalize F:(s.data.toList.drop k).take (j-k)=d at *;rw[hsp]at a⊢;by_cases g:j<s.size
 .have n:=drop_cons s j g;cases v:nm s[j]
  .have u:(s.data.toList.drop j).takeWhile nm=[]:=by rw[n];simp[v]
   refine⟨fun h=>BU d _ m u ?_,fun h=>?_⟩
   .rcases h with h|h|⟨_,h⟩
    .exact .inl h
    .exact .inr ⟨a.2 h.1,by omega⟩
    .rw[v]at h;cases h
   .rw[BV d _ m u h.1 (fun q=>h.2.1 ⟨a.1 q.1,by omega⟩),y]
  .refine⟨fun _=>Xbz d _ m ⟨_,_,n,v,A g⟩,fun h=>?_⟩;have:=h.2.2 g;rw[v]at this;cases this
 .have u:(s.data.toList.drop j).takeWhile nm=[]:=by rw[YI (by simp;omega)];rfl
  refine⟨fun h=>BU d _ m u ?_,fun h=>?_⟩
  .rcases h with h|h|⟨h,_⟩
   .exact .inl h
   .exact .inr ⟨a.2 h.1,by omega⟩
   .exact absurd h g
  .rw[BV d _ m u h.1 (fun q=>h.2.1 ⟨a.1 q.1,by omega⟩),y]
theorem Xat(l:List UInt8)(c:UInt8)(h:9223372036854775807<YR l):9223372036854775807<YR (l++[c]):=by rw[WY];omega
theorem IM{b:UInt8}(h:dig b=true):48<=b.toNat/\b.toNat<=57:=by simpa[dig]using h
end Sc
def QL(k:Nat)(r:Sc.R):Value:=
 if r.code=0 then .tuple #[.agg #[.q r.kind,.string ⟨r.text.toArray⟩,.q r.n,.q k],.q ((k:Int)+r.size),.q 0]
 else .tuple #[.agg #[.q 0,.t #[],.q 0,.q 0],.q 0,.q r.code]
theorem Us{k:Nat}{r:Sc.R}{c:Nat}(h:r=Sc.bad c)(a:c≠0):QL k r= .tuple #[.agg #[.q 0,.t #[],.q 0,.q 0],.q 0,.q c]:=by
 subst h;unfold QL Sc.bad;rw[X6 a]
theorem Vg{k:Nat}{r:Sc.R}{a n size:Nat}{text:List UInt8}(h:r=⟨0,a,text,n,size⟩):QL k r= .tuple #[.agg #[.q a,.string ⟨text.toArray⟩,.q n,.q k],.q ((k:Int)+size),.q 0]:=by
 subst h;unfold QL;rw[Xa rfl]
theorem IY{k j n:Nat}{x:Int}(a:k<=j)(d:x=n): Ending.returned (.tuple #[.agg #[.q 3,.t #[],.q x,.q k],.q j,.q 0])= .returned (.tuple #[.agg #[.q (3:Nat),.string ⟨([]:List UInt8).toArray⟩,.q n,.q k],.q ((k:Int)+(j-k:Nat)),.q 0]):=by
 rw[d,show(k:Int)+(j-k:Nat)=j from by omega];rfl
theorem BQ{x:Int}{n:Nat}{c:UInt8}(d:x=n)(h:x<=922337203685477580)(a:48<=c.toNat/\c.toNat<=57): IntKind.u64.wrap (IntKind.u64.wrap (x*10)+((c.toNat:Int)-48)%256)=x*10+(c.toNat-48):=by
 rw[IntKind.wrap_u64,IntKind.wrap_u64];omega
theorem Xau(s:ByteArray)(k:Nat)(a:Int)(w:World)(hs:s.size<=1048576)(S:k<s.size)(X:a=(k:Int)): CB 89 #[.string s,.q a] w (QL k (Sc.ZV (s.data.toList.drop k))):=by
 subst X;go_enter func89,ntmps89;go_wp2
 go_loop[7,8,9] (fun L nv W=>∃(j:Nat) (x:Int) (b:Bool),k<=j/\j<=s.size/\L= .q j/\nv= .int .u64 x/\W= .bool b/\
   (((s.data.toList.drop k).take (j-k)).all Sc.dig=true)/\(b=false->x=Sc.YR ((s.data.toList.drop k).take (j-k))/\x<=9223372036854775807)/\(b=true->9223372036854775807<Sc.YR ((s.data.toList.drop k).take (j-k))))
  (fun L _ _=>s.size-(intOf L).toNat)
 case atStart=>exact⟨k,0,false,X5 _,by omega,rfl,rfl,rfl,by simp,by simp[Sc.YR],by simp⟩
 case round=>
  obtain⟨j,x,b,m,Q,rfl,rfl,rfl,E,O,U⟩:=hrel;have H:=X1 E;have B:=X1 O;have C:=X1 U;clear E O U;by_cases n:j<s.size
  .have g:=X1 (Sc.Y2c s k j m n);cases I:Sc.dig s[j]
   .have u:=X1 (Sc.BP s k j S m Q H.o (fun _=>I));cases b
    .have d:=X1 (B.o rfl);clear B C;have M:0<=x:=by have:=d.o.1;omega
     have N:x<=9223372036854775807:=d.o.2;cases A:((s[k].toNat:Int)==48)
     .cases hm:Sc.nm s[j]
      .have F:=X1 (u.o.2 ⟨by have:=d.o.1;omega,fun q=>by simp at A;omega,fun _=>hm⟩);go_wp2_with(first|(go_at_call 88;go_fit(KG _ _);rintro e w'⟨rfl,rfl⟩)|(go_at_call 77;go_fit(QJ _ _);rintro e w'⟨rfl,rfl⟩));exact Xq (v:= .tuple #[.agg #[.q 3,.t #[],.q x,.q k],.q j,.q 0]) (by simp[results,results89,go_sem]) rfl ⟨by rw[Vg F.o];exact IY m d.o.1,bA _⟩
      .have r:=X1 (u.o.1 (.inr (.inr ⟨n,hm⟩)));go_wp2_with(first|(go_at_call 88;go_fit(KG _ _);rintro e w'⟨rfl,rfl⟩)|(go_at_call 77;go_fit(QJ _ _);rintro e w'⟨rfl,rfl⟩));exact Xq (v:= .tuple #[.agg #[.q 0,.t #[],.q 0,.q 0],.q 0,.q 3]) (by simp[results,results89,go_sem]) rfl ⟨by rw[Us r.o (by decide)];rfl,bA _⟩
     .by_cases J:k+1<j
      .have r:=X1 (u.o.1 (.inr (.inl ⟨by simp at A;omega,J⟩)));go_wp2_with(first|(go_at_call 88;go_fit(KG _ _);rintro e w'⟨rfl,rfl⟩)|(go_at_call 77;go_fit(QJ _ _);rintro e w'⟨rfl,rfl⟩));exact Xq (v:= .tuple #[.agg #[.q 0,.t #[],.q 0,.q 0],.q 0,.q 3]) (by simp[results,results89,go_sem]) rfl ⟨by rw[Us r.o (by decide)];rfl,bA _⟩
      .cases hm:Sc.nm s[j]
       .have F:=X1 (u.o.2 ⟨by have:=d.o.1;omega,fun q=>J q.2,fun _=>hm⟩);go_wp2_with(first|(go_at_call 88;go_fit(KG _ _);rintro e w'⟨rfl,rfl⟩)|(go_at_call 77;go_fit(QJ _ _);rintro e w'⟨rfl,rfl⟩));exact Xq (v:= .tuple #[.agg #[.q 3,.t #[],.q x,.q k],.q j,.q 0]) (by simp[results,results89,go_sem]) rfl ⟨by rw[Vg F.o];exact IY m d.o.1,bA _⟩
       .have r:=X1 (u.o.1 (.inr (.inr ⟨n,hm⟩)));go_wp2_with(first|(go_at_call 88;go_fit(KG _ _);rintro e w'⟨rfl,rfl⟩)|(go_at_call 77;go_fit(QJ _ _);rintro e w'⟨rfl,rfl⟩));exact Xq (v:= .tuple #[.agg #[.q 0,.t #[],.q 0,.q 0],.q 0,.q 3]) (by simp[results,results89,go_sem]) rfl ⟨by rw[Us r.o (by decide)];rfl,bA _⟩
    .have y:=X1 (C.o rfl);clear B C;have r:=X1 (u.o.1 (.inl y.o));go_wp2_with(first|(go_at_call 88;go_fit(KG _ _);rintro e w'⟨rfl,rfl⟩)|(go_at_call 77;go_fit(QJ _ _);rintro e w'⟨rfl,rfl⟩));exact Xq (v:= .tuple #[.agg #[.q 0,.t #[],.q 0,.q 0],.q 0,.q 3]) (by simp[results,results89,go_sem]) rfl ⟨by rw[Us r.o (by decide)];rfl,bA _⟩
   .have K:=X1 (Sc.IM I);cases b
    .have d:=X1 (B.o rfl);clear B C;by_cases V:x<=922337203685477580
     .go_wp2_with(go_at_call 88;go_fit(KG _ _);rintro e w'⟨rfl,rfl⟩)
      .go_round
       case rel=>
        have Z:=BQ d.o.1 V K.o;refine⟨j+1,_,_,by omega,by omega,by go_num,rfl,rfl,?_,?_,?_⟩
        .rw[g.o];simp[H.o,I]
        .intro h;cases h
        .intro _;rw[g.o,Sc.WY];have:=d.o.1;have:=K.o;omega
       case measure=>simp[intOf];omega
      .go_round
       case rel=>
        have Z:=BQ d.o.1 V K.o;refine⟨j+1,_,_,by omega,by omega,by go_num,rfl,rfl,?_,?_,?_⟩
        .rw[g.o];simp[H.o,I]
        .intro _;rw[g.o,Sc.WY];have:=d.o.1;have:=K.o;omega
        .intro h;cases h
       case measure=>simp[intOf];omega
     .go_wp2_with(go_at_call 88;go_fit(KG _ _);rintro e w'⟨rfl,rfl⟩);all_goals
       go_round
       case rel=>
        refine⟨j+1,_,_,by omega,by omega,by go_num,rfl,rfl,?_,?_,?_⟩
        .rw[g.o];simp[H.o,I]
        .intro h;cases h
        .intro _;rw[g.o,Sc.WY];have:=d.o.1;omega
       case measure=>simp[intOf];omega
    .have y:=X1 (C.o rfl);clear B C;go_wp2_with(go_at_call 88;go_fit(KG _ _);rintro e w'⟨rfl,rfl⟩);all_goals
      go_round
      case rel=>
       refine⟨j+1,_,_,by omega,by omega,by go_num,rfl,rfl,?_,?_,?_⟩
       .rw[g.o];simp[H.o,I]
       .intro h;cases h
       .intro _;rw[g.o];exact Sc.Xat _ _ y.o
      case measure=>simp[intOf];omega
  .have u:=X1 (Sc.BP s k j S m Q H.o (fun h=>absurd h n));cases b
   .have d:=X1 (B.o rfl);clear B C;have M:0<=x:=by have:=d.o.1;omega
    have N:x<=9223372036854775807:=d.o.2;cases A:((s[k].toNat:Int)==48)
    .have F:=X1 (u.o.2 ⟨by have:=d.o.1;omega,fun q=>by simp at A;omega,fun h=>absurd h n⟩);go_wp2_with(first|(go_at_call 88;go_fit(KG _ _);rintro e w'⟨rfl,rfl⟩)|(go_at_call 77;go_fit(QJ _ _);rintro e w'⟨rfl,rfl⟩));exact Xq (v:= .tuple #[.agg #[.q 3,.t #[],.q x,.q k],.q j,.q 0]) (by simp[results,results89,go_sem]) rfl ⟨by rw[Vg F.o];exact IY m d.o.1,bA _⟩
    .by_cases J:k+1<j
     .have r:=X1 (u.o.1 (.inr (.inl ⟨by simp at A;omega,J⟩)));go_wp2_with(first|(go_at_call 88;go_fit(KG _ _);rintro e w'⟨rfl,rfl⟩)|(go_at_call 77;go_fit(QJ _ _);rintro e w'⟨rfl,rfl⟩));exact Xq (v:= .tuple #[.agg #[.q 0,.t #[],.q 0,.q 0],.q 0,.q 3]) (by simp[results,results89,go_sem]) rfl ⟨by rw[Us r.o (by decide)];rfl,bA _⟩
     .have F:=X1 (u.o.2 ⟨by have:=d.o.1;omega,fun q=>J q.2,fun h=>absurd h n⟩);go_wp2_with(first|(go_at_call 88;go_fit(KG _ _);rintro e w'⟨rfl,rfl⟩)|(go_at_call 77;go_fit(QJ _ _);rintro e w'⟨rfl,rfl⟩));exact Xq (v:= .tuple #[.agg #[.q 3,.t #[],.q x,.q k],.q j,.q 0]) (by simp[results,results89,go_sem]) rfl ⟨by rw[Vg F.o];exact IY m d.o.1,bA _⟩
   .have y:=X1 (C.o rfl);clear B C;have r:=X1 (u.o.1 (.inl y.o));go_wp2_with(first|(go_at_call 88;go_fit(KG _ _);rintro e w'⟨rfl,rfl⟩)|(go_at_call 77;go_fit(QJ _ _);rintro e w'⟨rfl,rfl⟩));exact Xq (v:= .tuple #[.agg #[.q 0,.t #[],.q 0,.q 0],.q 0,.q 3]) (by simp[results,results89,go_sem]) rfl ⟨by rw[Us r.o (by decide)];rfl,bA _⟩
end
section
variable {ts:List Sc.T} {sz:Nat} {s:Pr.Dk}
def Pr.Ends(ts:List Sc.T)(sz:Nat)(c:Zb)(s:Pr.Dk)(q:Nat):Prop:=∃r,Pr.Cv ts sz c s r/\r.1.bad=true/\r.1.place=q
theorem V6(h:s.bad=true)(t:List UInt8):X4 ts sz s t=false:=by unfold X4;rw[h];rfl
theorem Fk(h:s.bad=true):Z0 ts sz s=s:=by unfold Z0;rw[h];rfl
theorem Il(h:s.bad=true)(t:List UInt8):Xd ts sz s t=s:=by unfold Xd;rw[V6 h,Fk h];rfl
theorem RF(h:s.bad=true)(r:Nat):∀f o,Ks ts sz s r f o=0
 | 0,_=>rfl
 | f+1,o=>by rw[Ks,V6 h,Bool.and_false];exact RF h r f (o+1)
theorem Fc(h:s.bad=true)(r:Nat):YT ts sz s r=0:=RF h r _ _
theorem Fa{t:List UInt8}(a:s.bad=false)(h:X4 ts sz s t=false):(Xd ts sz s t).bad=true/\(Xd ts sz s t).place=(X3 ts sz s).place:=by
 unfold Xd Z0;rw[h,a];exact⟨rfl,rfl⟩
theorem Yw{t:List UInt8}(h:X4 ts sz s t=true):Xd ts sz s t=X2 s:=by unfold Xd;rw[h];rfl
theorem Pr.Ends.e(h:s.bad=true):Pr.Ends ts sz .e s s.place:=⟨(s,0),Pr.Cv.VP (V6 h _) (V6 h _) (V6 h _) (Pr.Cv.ops_bad h),h,rfl⟩
theorem Pr.Lv.bad(h:s.bad=true)(l:List Nat):Pr.Lv ts sz l s s:=Pr.Lv.none (fun r _=>Fc h r)
theorem Pr.Ends.Yr(h:s.bad=true):Pr.Ends ts sz .Yr s s.place:=⟨(s,0),Pr.Cv.Cf h,h,rfl⟩
theorem Pr.Ends.Yn(h:s.bad=true)(n:Nat):Pr.Ends ts sz (.Yn n) s s.place:=⟨(s,n),Pr.Cv.P8 h,h,rfl⟩
theorem Pr.Ends.params(h:s.bad=true):Pr.Ends ts sz .params s s.place:=⟨_,Pr.Cv.params (by rw[Il h];exact Pr.Cv.P8 h),by simp only[Il h];exact h,by simp only[Il h]⟩
theorem Pr.Ends.Zl(h:s.bad=true)(n:Nat):Pr.Ends ts sz (.Zl n) s s.place:=⟨(s,n),Pr.Cv.Gh (V6 h _),h,rfl⟩
theorem Pr.Ends.YX(h:s.bad=true)(n:Nat):Pr.Ends ts sz (.YX n) s s.place:=⟨(s,n),Pr.Cv.Bp h,h,rfl⟩
theorem Pr.Ends.Xcq{q lo:Nat}(g:s.bad=false)(h:Pr.Ends ts sz (.ops 7) s q)(a:1<=lo)(d:lo<=7)(j:lo<=3->X4 ts sz s Zk=false):Pr.Ends ts sz (.ops lo) s q:=by
 obtain⟨m,k,b,p⟩:=h;obtain⟨r,r1,r2⟩:=Pr.Lv.ops (t:=m.1) g k lo a d j (Pr.Lv.bad b _);exact⟨r,r1,by rw[r2];exact b,by rw[r2];exact p⟩
theorem Pr.Ends.Xcr{q lo:Nat}(j:s.bad=false)(n:X4 ts sz s Zk=true)(h:Pr.Ends ts sz (.ops 3) (X2 s) q)(d:1<=lo)(g:lo<=3):Pr.Ends ts sz (.ops lo) s q:=by
 obtain⟨m,k,b,p⟩:=h;have a:(X9 m.1 6 1 0 [] 1).bad=true:=b;obtain⟨r,r1,r2⟩:=Pr.Lv.C5 (t:=X9 m.1 6 1 0 [] 1) j n k lo d g (Pr.Lv.bad a _);exact⟨r,r1,by rw[r2];exact b,by rw[r2];exact p⟩
