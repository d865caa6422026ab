import Derived.Test.YtaeafhenpjnhiaaGreatDoorE19
import Derived.Test.YtaeafhenpjnhiaaGreatDoorE20
set_option maxHeartbeats 16000000
set_option maxRecDepth 100000
namespace Go.Proofs.YtaeafhenpjnhiaaGreatDoor
open Tryz Go.RowKit
def Fm(gb M:Nat)(w:World):Prop:=∃p m c,m<=M/\w.cell? ⟨gb,2,none⟩=some (.slice p m c)
theorem Fm.ty[LB]{gb M:Nat}{w w':World}(h:Fm gb M w)(j:Xo w gb=some 128)(g:gb<w.heap.size)(a:Ty w w'):Fm gb M w':=by
 obtain⟨p,m,c,hm,d⟩:=h;exact⟨p,m,c,hm,(a.two (by unfold XL;simp) gb g j).2.trans d⟩
theorem Fm.pf[LB]{gb M B:Nat}{w w':World}(h:Fm gb M w)(r:Xo w gb=some 128)(j:gb<w.heap.size)(d:Pf B w w'):Fm gb M w':=by
 obtain⟨p,m,c,hm,g⟩:=h;exact⟨p,m,c,hm,(XQ (a:=⟨gb,2,none⟩) (d.block gb j (.inr (by rw[r];decide)))).trans g⟩
theorem Fm.mono[LB]{gb M a:Nat}{w:World}(h:Fm gb M w)(hm:M<=a):Fm gb a w:=by
 obtain⟨p,m,c,g,d⟩:=h;exact⟨p,m,c,by omega,d⟩
theorem U4[LB]{M:Option TypeId->Prop}{w W:World}{b o:Nat}{v:Value}(h:TyM M w W)(u:w.heap.size<=b):TyM M w (W.setCell ⟨b,o,none⟩ v):=by
 have k:=(X8 0 W).setCell (p:=⟨b,o,none⟩) (Xb _) v;have e:∀q,q<w.heap.size->(W.setCell ⟨b,o,none⟩ v).heap[q]?=W.heap[q]?:=fun q y=>Y0 _ _ _ _ (show q≠b by omega);exact⟨k.os.trans h.os,k.tape.trans h.tape,k.output.trans h.output,Xz h.size k.size,fun q d g=>(e q d).trans (h.block q d g),fun j q d g=>by
  obtain⟨r,s⟩:=h.two j q d g;exact⟨(KI (e q d)).trans r,(XQ (a:=⟨q,2,none⟩) (e q d)).trans s⟩,fun q d g=>(e q d).trans (h.old q d g)⟩
theorem X1z[LB]{gb rb n q k b o:Nat}{vb v x:Value}{w:World}(h:Gn gb rb vb n q k w)(hb:rb<b)(S:w.heap[b]?=some (.cells #[x] 25)):Gn gb rb vb n q k (w.setCell ⟨b,o,none⟩ v):=by
 have Q:Xo w b=some 25:=by unfold Xo;rw[S];rfl
 have e:∀c,c≠b->(w.setCell ⟨b,o,none⟩ v).heap[c]?=w.heap[c]?:=fun c g=>Y0 _ _ _ _ g;have r:∀t,t≠25->∀c,c<w.heap.size->Xo w c=some t->(w.setCell ⟨b,o,none⟩ v).heap[c]?=w.heap[c]?:=fun t I c _ A=>e c (fun B=>by rw[B,Q]at A;exact I (Zq A).symm);have s:=r _ (by decide) gb h.lt h.ty;have d:∀j,(w.setCell ⟨b,o,none⟩ v).cell? ⟨gb,j,none⟩=w.cell? ⟨gb,j,none⟩:=fun j=>XQ (a:=⟨gb,j,none⟩) s;have u:=h.up;obtain⟨p,N,O⟩:=h.R;obtain⟨v',X,n1,n2,n3⟩:=h.nm;obtain⟨V,m,Z,C,E,F,H⟩:=h.fn;obtain⟨c,g,J⟩:=h.ct;obtain⟨z,U,y,K⟩:=h.sz;exact⟨⟨p,N,O.JV (fun c g=>e c (by omega))⟩,u,(KI s).trans h.ty,(d 0).trans h.c0,⟨v',X,(d 1).trans n1,Kz n2 (r _ (by decide)),n3⟩,⟨V,m,Z,(d 2).trans C,Kz E (r _ (by decide)),F,H.Zi (r _ (by decide))⟩,⟨c,g,(d 3).trans J⟩,⟨z,U,y,(d 4).trans K⟩,fun j=>(ZC (a:=⟨gb,j,none⟩) s).trans (h.fr j),h.km⟩
theorem Tf.same[LB]{w w':World}(h:Tf w w'){b:Nat}{cs:Array Value}{t:TypeId}(a:w.heap[b]?=some (.cells cs t))(g:¬V3 (some t)):w'.heap[b]?=some (.cells cs t):=by
 have d:b<w.heap.size:=by
  rcases V5 b w.heap.size with h|h
  .exact h
  .rw[Wm h]at a;cases a
 exact(h.block b d (by unfold Xo;rw[a];exact g)).trans a
theorem W5[LB]:¬V3 (some 25):=by unfold V3 XL;simp
variable (gb rb:Nat) (vb:Value) (n:Nat)
def Mc[LB]:Prop:=∀(q k M:Nat) (s:XJ) (w:World),Gn gb rb vb n q k w->Fm gb M w->M<=500->q+9000<=700000000->k+20<=900->Calls prog 98 #[.pointer (some ⟨gb,0,none⟩),.string s,.int .i64 3] w fun e w'=>∃v l,e= .returned v/\NR w' v l/\0<l.length/\l.length<=9000/\Gn gb rb vb n (q+9000) k w'/\Tf w w'/\Fm gb (M+2) w'
structure FV [LB] (gb rb:Nat) (vb:Value) (n:Nat) (W:World) (M:Nat) (sv:Value) (ls:List (List Nd)) (L:NL) (q k:Nat) (w:World):Prop where
 g:Gn gb rb vb n q k w
 t:Tf W w
 p:PW W.heap.size w sv ls
 f:Fm gb M w
 x:w.heap[W.heap.size]?=some (.cells #[.slice none 0 0] 25)
 n:NRs w L
section
variable {gb rb n M q k m:Nat} {vb sv:Value} {W w w':World} {ls:List (List Nd)} {L:NL}
theorem FV.ty[LB]{q' k':Nat}(B:FV gb rb vb n W M sv ls L q k w)(a:Gn gb rb vb n q' k' w')(h:Ty w w'):FV gb rb vb n W M sv ls L q' k' w':=⟨a,B.t.trans (Ty.tf h),B.p.ty h,B.f.ty B.g.ty B.g.lt h,Ty.same h B.x US,B.n.ty h⟩
theorem FV.be[LB](B:FV gb rb vb n W M sv ls L q k w)(h:BL w w'):FV gb rb vb n W M sv ls L q k w':=B.ty (B.g.below h) (.of h)
def FN[LB](gb rb:Nat)(vb:Value)(n:Nat)(W:World)(M:Nat)(sv:Value)(ls:List (List Nd))(L:NL)(q m k:Nat)(e:Ending)(w':World):Prop:=∃g c l,e= .returned (.slice (some ⟨g,0,none⟩) (List.length l) c)/\l.length<=m/\w'.cell? ⟨gb,0,none⟩=some (.pointer (some ⟨rb,0,none⟩))/\FV gb rb vb n W M sv ls ((.slice (some ⟨g,0,none⟩) l.length c,l)::L) q k w'
theorem FV.pk[LB](B:FV gb rb vb n W M sv ls L q k w)(m:Int)(h:q<=900000000/\1<=m/\m<=1000000):Calls prog 22 #[.pointer (some ⟨rb,0,none⟩),.int .i64 m] w fun e w'=>∃z:Nat,(z:Int)<m/\e= .returned (.int .i64 (z:Int))/\w'.cell? ⟨gb,0,none⟩=some (.pointer (some ⟨rb,0,none⟩))/\FV gb rb vb n W M sv ls L (q+1) k w':=(B.g.pick h.1 m h.2.1 h.2.2).mono fun _ _ ⟨z,j,e,a,d⟩=>⟨z,j,e,a.c0,B.ty a d⟩
theorem FV.e[LB]{d kd:Nat}{a:Int}(B:FV gb rb vb n W M sv ls L q k w)(r:EAt gb rb vb n d kd)(h:q+kd<=700000000/\k+d<=900):Calls prog 99 #[.pointer (some ⟨gb,0,none⟩),.int .i64 a,.int .i64 (d:Int)] w (FN gb rb vb n W M sv ls L (q+kd) kd k):=(r _ _ _ _ B.g h.1 h.2).mono fun _ w' ⟨v,l,e,n1,n2,n3,j,s⟩=>by
 obtain⟨g,c,rfl⟩:=n1.form n2
 have B':=B.ty j s
 exact⟨g,c,l,e,n3,j.c0,B'.g,B'.t,B'.p,B'.f,B'.x,⟨n1,n2⟩,B'.n⟩
theorem FV.o1[LB]{r:Value}{j:List Nd}(B:FV gb rb vb n W M sv ls ((r,j)::L) q k w)(d:Nd)(h:j.length<=100000000)(a:Sm d:=by first|exact⟨XJ.le _,n0⟩|exact⟨YM rfl,n0⟩|exact⟨by assumption,n0⟩|assumption|exact⟨YM rfl,by decide⟩):Calls prog 66 #[ndV d,.slice (some ⟨w.heap.size,0,none⟩) 1 1] (w.alloc (.cells #[r] 23)) (FN gb rb vb n W M sv ls L q (j.length+1) k):=
 (ZW d [_] _ _ _ (pr1 B.n.1.1 B.n.1.2) (by rw[fl1];exact X5 _) h (by simp) a).mono fun _ w' ⟨v,l,e,n1,n2,n3,s⟩=>by
 obtain⟨g,c,rfl⟩:=n1.form n2;have B':=(B.be (bA _)).be s;exact⟨g,c,l,e,n3,B'.g.c0,B'.g,B'.t,B'.p,B'.f,B'.x,⟨n1,n2⟩,B'.n.2⟩
theorem FV.ap[LB]{O:Obj}{u v':Value}{l:List Nd}{j:List Value}(B:FV gb rb vb n W M sv ls ((u,l)::L) q k w)(d:rb<W.heap.size)(r:w.ownsRow W.heap.size 23 1 sv ls.length j)(s:∀i (h:i<ls.length),∃u,j[i]?=some u/\NR w u ls[i]/\0<ls[i].length)(A:w'.ownsRow W.heap.size 23 1 v' (ls.length+1) (j++[u]))(v:(w.alloc O).grownBy w' sv.ownBlock):FV gb rb vb n W M v' (ls++[l]) [] q k w':=by
 obtain⟨y,a⟩:=D5 r s B.n.1.1 B.n.1.2 A v;exact⟨a.gn B.g d,a.tyM B.t (X5 _),y,B.f.pf B.g.ty B.g.lt a,a.same B.x (by decide),trivial⟩
end
theorem X0w[LB](Z:EAt gb rb vb n 3 6860)(a0:EAt gb rb vb n 4 34360)(X:Mc gb rb vb n)(q lb N:Nat)(w:World)(h:Gn gb rb vb n q 0 w)(hf:Fm gb 0 w)(hN:N<=6)(hq:q<=100000000):Calls prog 67 #[.pointer (some ⟨gb,0,none⟩),.slice (some ⟨lb,0,none⟩) 0 0,.int .i64 (N:Int)] w fun e w'=>∃v l k,e= .returned (.agg #[v])/\NR w' v l/\0<l.length/\l.length<=250000/\Gn gb rb vb n (q+250000) k w'/\Tf w w':=by
 obtain⟨iP,hP,O,K,J⟩:=YK WR;obtain⟨iN,c4,c8,c7,c3⟩:=YK Oe;have e7:=h.up;have Q:rb<w.heap.size:=Ic h.up h.lt;have b1:BL w (w.alloc (.cells #[.slice none 0 0] 25)):=bA _;have H:=X1 (h.below b1);have a2:=X1 (hf.ty h.ty h.lt (.of b1));have a6:Hid (Tf w (w.alloc (.cells #[.slice none 0 0] 25))):=X1 (.of b1);have a8:Hid ((w.alloc (.cells #[.slice none 0 0] 25)).heap[w.heap.size]?=some (.cells #[.slice none 0 0] 25)):=X1 (YV w _);have a1:=X1 (Y4 (base:=w.heap.size) (e:=23) (size:=1) (w.alloc (.cells #[.slice none 0 0] 25)) #[] 0 b1.size (Xb _) rfl);have Z:=X1 Z;have a0:=X1 a0;have X:=X1 X;have b7:=X1 b1;clear h hf b1;rw[Yx]at a1;go_enter func67,ntmps67;go_wp2_with(at_builtin;refine YY _ rfl _ _ 119 rfl w.heap.size 23 iP _ 1 24 underlying119 hP O K J rfl (by decide) _ 0 [] rfl a1.o ⟨lb,0,none⟩ 0 0 [] rfl rfl (by intro j u hu;simp at hu) (by simp) (by unfold maxLen;omega) (by omega) (by simp;omega) ?_);intro v1 y r1 r2 r3 r4;have B1:Below (w.alloc (.cells #[.slice none 0 0] 25)).heap.size (w.alloc (.cells #[.slice none 0 0] 25)) y:=(bA (.cells #[] 23)).grown r2 (by simp) (fun q e=>by cases e;simp);obtain⟨d8,d7,d2⟩:=XA r1;subst d2;have a4:=X1 (H.o.below B1);have a3:=X1 (a2.o.ty H.o.ty H.o.lt (.of B1));have a7:=X1 (a6.o.trans (.of B1));have a9:=X1 (TyM.same a8.o B1);have a5:Hid (PW w.heap.size y (.slice d8 0 d7) []):=X1 ⟨[],r1,fun _ hi=>absurd hi (JK _)⟩;clear r1 r2 r3 r4 B1 b7 a1 H a2 a6 a8;go_wp2_with fail;go_loopw[7,8,9,10] (fun sv tv _ _ wr=>∃(i k:Nat) (ls:List (List Nd)),i<=N/\tv= .int .i64 (i:Int)/\k<=i/\ls.length<=i/\ls.flatten.length<=i*40000/\FV gb rb vb n w (2*i) sv ls [] (q+i*40000) k wr) (fun _ tv _ _ _=>N-(intOf tv).toNat)
 case atStart=>exact⟨0,0,[],Xb _,rfl,X5 _,X5 _,X5 _,a4.o,a7.o,a5.o,a3.o,a9.o,trivial⟩
 case round=>
  obtain⟨i,k,ls,hi,rfl,e1,e3,e0,B⟩:=hrel;have F:=B.g.c0;obtain⟨f5,b5,_⟩:=B.p;obtain⟨f4,f3,rfl⟩:=XA b5;clear b5 a4 a7 a5 a3 a9;by_cases e4:(i:Int)<(N:Int)
  .go_wp2_with fail;go_fit(B.pk 8 (by omega));rintro e W⟨z,hz,rfl,F,B⟩;by_cases d4:z=0\/z=1
   .rcases d4 with rfl|rfl;all_goals
     have V:=X1 (fun x0=>WI i x0 (by omega));have c9:=Wy i;generalize KE i=I at *;have b2:(⟨I.toArray⟩:ByteArray).size<=1000:=by show I.toArray.size<=_;simp;omega
     go_wp2_with fail;go_fit(V.o _);rintro e y⟨rfl,b⟩;have B:=B.be b;have F:=B.g.c0;clear b;go_wp2_with fail;obtain⟨sf,s⟩:∃sf:XJ,sf.val=(⟨#[102]⟩:ByteArray)++⟨I.toArray⟩:=⟨⟨(⟨#[102]⟩:ByteArray)++⟨I.toArray⟩,(by rw[KA];show 1+_<=_;omega)⟩,rfl⟩;rw[←s];go_fit(X.o _ _ _ sf _ B.g B.f (by omega) (by omega) (by omega));rintro e W⟨v,l,rfl,nr,pn,mn,hg,ht,hf⟩;obtain⟨g,c,rfl⟩:=nr.form pn;have B:FV gb rb vb n w _ _ ls [(_,l)] _ k W:=⟨hg,B.t.trans ht,B.p.tf ht,hf,Tf.same ht B.x W5,⟨nr,pn⟩,trivial⟩;have F:=B.g.c0;clear nr hg ht hf;obtain⟨vs,pv,pw⟩:=B.p;have U:=X1 pv;have HW:=X1 pw;have b3:=B.t.size;clear pv pw;focus go_wp2_with(at_builtin;refine YY _ rfl _ _ 119 rfl w.heap.size 23 iP _ 1 24 underlying119 hP O K J rfl (by decide) _ ls.length vs rfl (U.o.alloc _) ⟨W.heap.size,0,none⟩ 1 1 [.slice (some ⟨g,0,none⟩) l.length c] rfl rfl (Qr _ [_] _ _ rfl) (by simp[Value.oneCell']) (by unfold maxLen;omega) (by omega) (by simp;omega) ?_)
     intro v1 y E r rc rd;obtain⟨sp,sc,rfl⟩:=XA E;have B:=B.ap Q U.o HW.o E r;clear E r rc rd;go_wp2;go_roundw
     case rel=>exact⟨i+1,k,_,by omega,by go_num,by omega,by rw[Xj];simp only[XI,Ya];omega,by rw[Uc,Xj,fl1];omega,(B.g.mono (by omega)),B.t,B.p,B.f.mono (by omega),B.x,trivial⟩
     case measure=>simp[intOf];omega
   by_cases d5:z=2\/z=3\/z=4
   .rcases d5 with rfl|rfl|rfl;all_goals
     have V:=X1 (fun x0=>WI i x0 (by omega));have c9:=Wy i;generalize KE i=I at *;have b2:(⟨I.toArray⟩:ByteArray).size<=1000:=by show I.toArray.size<=_;simp;omega
     go_wp2_with fail;go_fit(V.o _);rintro e y⟨rfl,b⟩;have B:=B.be b;have F:=B.g.c0;clear b;have d9:((⟨#[115]⟩:ByteArray)++⟨I.toArray⟩).size<=2000:=by rw[KA];show 1+_<=_;omega
     generalize b0:(⟨#[115]⟩:ByteArray)++⟨I.toArray⟩=st at *;go_wp2_with fail;try rw[b0]
     clear b0;go_fit(B.pk 8 (by omega));rintro e W⟨z,hz,rfl,F,B⟩;have d6:z=0\/((z:Int)==0)=false:=by rcases Ia z with h|h;exact .inl h;exact .inr (by simp;omega)
     rcases d6 with rfl|e5;focus
      go_wp2_with fail;obtain⟨st,s⟩:∃sf:XJ,sf.val=(⟨#[95]⟩:ByteArray)++st:=⟨⟨_,(by rw[KA];show 1+_<=_;omega)⟩,rfl⟩;rw[←s];clear s
     rotate_left;focus
      go_wp2_with fail;obtain⟨st,s⟩:∃sf:XJ,sf.val=st:=⟨⟨st,by omega⟩,rfl⟩;rw[←s];clear s
     all_goals
      go_fit(B.pk 6 (by omega));rintro e W⟨z,hz,rfl,F,B⟩;go_wp2_with fail;refine(B.e a0.o (by omega)).mono (?_);rintro e W⟨g,c,l,rfl,hl,F,B⟩;go_wp2_with fail;go_fit(B.o1 ⟨21,0,0,st,0⟩ (by omega));rintro e W⟨g,c,l,rfl,hl,F,B⟩;obtain⟨vs,pv,pw⟩:=B.p;have U:=X1 pv;have HW:=X1 pw;have b3:=B.t.size;clear pv pw;focus go_wp2_with(at_builtin;refine YY _ rfl _ _ 119 rfl w.heap.size 23 iP _ 1 24 underlying119 hP O K J rfl (by decide) _ ls.length vs rfl (U.o.alloc _) ⟨W.heap.size,0,none⟩ 1 1 [.slice (some ⟨g,0,none⟩) l.length c] rfl rfl (Qr _ [_] _ _ rfl) (by simp[Value.oneCell']) (by unfold maxLen;omega) (by omega) (by simp;omega) ?_)
      intro v1 y E r rc rd;obtain⟨sp,sc,rfl⟩:=XA E;have B:=B.ap Q U.o HW.o E r;clear E r rc rd;obtain⟨vn,xs,n1,n2,n3⟩:=B.g.nm;obtain⟨np,nc,rfl⟩:=XA n2;have d0:=n2.1;have e2:=B.g.km;have bx:=(X8 y.heap.size y).alloc (X5 _) (.cells #[.string st,.int .i64 (z:Int)] 171);have d:=X1 (B.g.below bx);have b4:=(bx.cell (p:=⟨gb,1,none⟩) B.g.lt).trans n1;have A:=X1 (n2.alloc (.cells #[.string st,.int .i64 (z:Int)] 171));have HS:=X1 (n3.snoc d0 st (z:Int));have c2:Hid (Ty y (y.alloc (.cells #[.string st,.int .i64 (z:Int)] 171))):=X1 (.of bx);have d1:rb+1<=(y.alloc (.cells #[.string st,.int .i64 (z:Int)] 171)).heap.size:=by have:=B.t.size;simp;omega
      clear n2 n3 bx;focus go_wp2_with(at_builtin;refine YY _ rfl _ _ 125 rfl (rb+1) 171 iN _ 2 24 underlying125 c4 c8 c7 c3 rfl (by decide) _ _ xs rfl A.o ⟨y.heap.size,0,none⟩ 1 1 [.string st,.int .i64 (z:Int)] rfl rfl (Qr _ [_,_] _ _ rfl) (by simp[Value.oneCell']) (by unfold maxLen;omega) (by omega) d1 ?_)
      intro v5 w5 r1 r2 r3 r4;have ne:some gb≠(Value.slice np k nc).ownBlock:=fun e=>by have h1:=KH A.o e.symm;rw[d.o.ty]at h1;cases h1
      have q5:=(XQ (a:=⟨gb,1,none⟩) (r2.block gb d.o.lt ne)).trans b4;have q6:=(ZC (a:=⟨gb,1,none⟩) (r2.block gb d.o.lt ne)).trans (d.o.fr 1);obtain⟨g5,c5,rfl⟩:∃g c,v5= .slice (some ⟨g,0,none⟩) (k+1) c:=by
       rcases r1.2 with⟨_,h0⟩|⟨g,c,_,h2,_⟩
       .omega
       .exact⟨g,c,h2⟩
      have B:=B.ty (d.o.push b4 r2 r1 HS.o (by omega)) ((c2.o.trans (.grown r2 (fun b hb=>by rw[KH A.o hb];exact .inr (.inr rfl)) (fun b hb=>by rw[KH A.o hb];decide) (fun b hb=>Xz d.o.lo (Mo (A.o.lt b hb).1)))).trans (.set (by rw[KI (r2.block gb d.o.lt ne)];exact d.o.Up) (by decide)));clear r1 r2 r3 r4 ne;go_wp2;go_roundw
      case rel=>exact⟨i+1,k+1,_,by omega,by go_num,by omega,by rw[Xj];simp only[XI,Ya];omega,by rw[Uc,Xj,fl1];omega,(B.g.mono (by omega)),B.t,B.p,B.f.mono (by omega),B.x,trivial⟩
      case measure=>simp[intOf];omega
   have e8:((z:Int)==0)=false:=by simp;omega
   have e9:((z:Int)==1)=false:=by simp;omega
   have f0:((z:Int)==2)=false:=by simp;omega
   have f1:((z:Int)==3)=false:=by simp;omega
   have f2:((z:Int)==4)=false:=by simp;omega
   go_wp2_with fail;refine(B.e Z.o (by omega)).mono (?_);rintro e W⟨g,c,l,rfl,hl,F,B⟩;go_wp2_with fail;go_fit(B.o1 ⟨22,0,0,⟨#[]⟩,0⟩ (by omega));rintro e W⟨g,c,l,rfl,hl,F,B⟩;obtain⟨vs,pv,pw⟩:=B.p;have U:=X1 pv;have HW:=X1 pw;have b3:=B.t.size;clear pv pw;go_wp2_with(at_builtin;refine YY _ rfl _ _ 119 rfl w.heap.size 23 iP _ 1 24 underlying119 hP O K J rfl (by decide) _ ls.length vs rfl (U.o.alloc _) ⟨W.heap.size,0,none⟩ 1 1 [.slice (some ⟨g,0,none⟩) l.length c] rfl rfl (Qr _ [_] _ _ rfl) (by simp[Value.oneCell']) (by unfold maxLen;omega) (by omega) (by simp;omega) ?_);intro v1 y E r rc rd;obtain⟨sp,sc,rfl⟩:=XA E;have B:=B.ap Q U.o HW.o E r;clear E r rc rd;go_wp2;go_roundw
   case rel=>exact⟨i+1,k,_,by omega,by go_num,by omega,by rw[Xj];simp only[XI,Ya];omega,by rw[Uc,Xj,fl1];omega,(B.g.mono (by omega)),B.t,B.p,B.f.mono (by omega),B.x,trivial⟩
   case measure=>simp[intOf];omega
  .have HO:=X1 (ZW ⟨24,0,0,⟨#[]⟩,0⟩ ls _ _ 240000 B.p.pr (by omega) (by omega) (by omega));unfold ndV at HO;go_wp2_with fail;go_fit HO.o;rintro e6 w6⟨v6,l6,rfl,S,p6,m6,b6⟩;obtain⟨g6,c6,rfl⟩:=S.form p6;have C:=TyM.same B.x b6;have t0:=(ZP C).1;have ft:=(ZP C).2;have d3:Xo w6 w.heap.size≠some 64:=by unfold Xo;rw[C];decide
   have b9:Hid (NR (w6.setCell ⟨w.heap.size,0,none⟩ (.slice (some ⟨g6,0,none⟩) l6.length c6)) (.slice (some ⟨g6,0,none⟩) l6.length c6) l6):=X1 ⟨Kc S.1 d3,S.2⟩;have b8:=X1 (X1z (o:=0) (v:= .slice (some ⟨g6,0,none⟩) l6.length c6) (B.g.below b6) Q C);have c1:=X1 (U4 (o:=0) (v:= .slice (some ⟨g6,0,none⟩) l6.length c6) (B.t.trans (.of b6)) (X5 _));clear S b6 C;go_wp2;exact Xq (v:= .agg #[.slice (some ⟨g6,0,none⟩) l6.length c6]) (by simp[results,results67,go_sem,t0]) rfl ⟨_,_,k,rfl,b9.o,p6,by omega,b8.o.mono (by omega),c1.o⟩
attribute [local simp] Act.eval Act.put
variable (gb rb:Nat) (vb:Value) (n:Nat)
theorem Xaw[LB](d kd:Nat){a:Int}(h0:a≠0)(h1:a≠1)(h2:a≠2)(h3:a≠3)(h4:a≠4):OfK gb rb vb n d kd a:=by
 intro HE a7 a8 q k w h hq hk b8;have b9:IntKind.i64.wrap (d:Int)=(d:Int):=by rw[Yp];omega
 have B:=h.B0;have c0:=h.c0;have a7:=X1 a7;have a8:=X1 a8;have HE:=X1 HE;clear h;have c2:(a==0)=false:=by simpa using h0
 have c3:(a==1)=false:=by simpa using h1
 have c4:(a==2)=false:=by simpa using h2
 have c5:(a==3)=false:=by simpa using h3
 have c6:(a==4)=false:=by simpa using h4
 go_enter func120,ntmps120;have HG:=X1 B.g;have HT:=X1 B.t;clear B;have b2:=X1 (HG.o.below (X8 _ _).drew);have b6:=X1 (HT.o.trans (.of (X8 _ _).drew));have c1:w.drew.heap.size=w.heap.size:=rfl;have b1:=X1 (HG.o.below (bA (.cells #[.t #[97],.t #[98]] 9)).drew);have b5:=X1 (HT.o.trans (.of (bA (.cells #[.t #[97],.t #[98]] 9)).drew));have b4:Hid ((((w.z #[.t #[97],.t #[98]] 9).drew).ownsRow 0 9 1 (.l w.heap.size 2 2) 2 [.t #[97],.t #[98]])):=X1 (Y4 (base:=0) (e:=9) (size:=1) w #[.t #[97],.t #[98]] 2 (Xb _) (by unfold maxLen;omega) rfl);have C:Hid (¬XL (some 9)):=X1 (by unfold XL;simp);go_wp2_with fail;go_region_law(first
  | ((with_reducible refine KJ ((w.z #[.t #[97],.t #[98]] 9).drew) ?_);refine Kf rfl 22 (.tmp 328) (.const (.q 2)) _ _ rfl (.p rb) (.q 2) (by simp) (by simp) f22 func22 (by kernel_rfl) (by kernel_rfl) _ (W8 gb rb vb n b1.o (by omega) 2 (by omega) (by omega)) ?_;intro v1 w1 h1;obtain⟨A,b7,a6,L,E⟩:=h1;subst a6;have U:=X1 L;obtain⟨u,S⟩:∃u:XJ,([.t #[97],.t #[98]]:List Value)[A]?=some (.string u):=(by have hz:A=0\/A=1:=(by omega);rcases hz with rfl|rfl<;>exact⟨⟨_,by exact YM rfl⟩,rfl⟩);have V:=X1 (b5.o.trans E);have Z:=X1 (Yz b4.o E C.o);have a1:=Z.o.cells rfl A _ S;rw[Y8,Xu]at a1;clear L E)
  | ((with_reducible refine KJ (w.drew) ?_);refine Kf rfl 22 (.tmp 328) (.const (.q 2)) _ _ rfl (.p rb) (.q 2) (by simp) (by simp) f22 func22 (by kernel_rfl) (by kernel_rfl) _ (W8 gb rb vb n b2.o (by omega) 2 (by omega) (by omega)) ?_;intro v1 w1 h1;obtain⟨A,b7,a6,L,E⟩:=h1;subst a6;have U:=X1 L;obtain⟨u,S⟩:∃u:XJ,([.t #[97],.t #[98]]:List Value)[A]?=some (.string u):=(by have hz:A=0\/A=1:=(by omega);rcases hz with rfl|rfl<;>exact⟨⟨_,by exact YM rfl⟩,rfl⟩);have V:=X1 (b6.o.trans E);have a1:=(Y4 (base:=0) (e:=9) (size:=1) w1 #[.t #[97],.t #[98]] 2 (Xb _) (by unfold maxLen;omega) rfl).cells rfl A _ S;rw[Y8,Xu]at a1;clear L E)
  | ((with_reducible refine KJ (w1.z #[.t #[97],.t #[98]] 9) ?_);refine Vp rfl 99 (.tmp 333) (.const (.q 4)) (.tmp 335) _ _ _ rfl (.p gb) (.q 4) (.q (d:Int)) (by simp) (by simp) (by simp) f99 func99 (by kernel_rfl) (by kernel_rfl) _ (Uk gb rb vb n (HE.o _ _ _ _ (U.o.below (bA (.cells #[.t #[97],.t #[98]] 9))) (by omega) (by omega))) ?_;intro v2 Q h2;obtain⟨l2,j,W,m2,y,r⟩:=h2;obtain⟨v,s,N⟩:=j.form W;subst N;have I:=X1 j;have F:=X1 y;have J:=X1 ((V.o.trans (.of (bA (.cells #[.t #[97],.t #[98]] 9)))).trans r);have H:=X1 (Yz (Y4 (base:=0) (e:=9) (size:=1) w1 #[.t #[97],.t #[98]] 2 (Xb _) (by unfold maxLen;omega) rfl) r C.o);have a2:=H.o.cells rfl A _ S;have a3:=(Yz H.o (TyM.of (M:=XL) (bA (.cells #[.l v l2.length s] 23))) C.o).cells rfl A _ S;rw[Y8,Xu]at a2 a3;clear y r j)
  | ((with_reducible refine KJ (w1) ?_);have _hl:=Z.o;refine Vp rfl 99 (.tmp 333) (.const (.q 4)) (.tmp 335) _ _ _ rfl (.p gb) (.q 4) (.q (d:Int)) (by simp) (by simp) (by simp) f99 func99 (by kernel_rfl) (by kernel_rfl) _ (Uk gb rb vb n (HE.o _ _ _ _ U.o (by omega) (by omega))) ?_;intro v2 Q h2;obtain⟨l2,j,W,m2,y,r⟩:=h2;obtain⟨v,s,N⟩:=j.form W;subst N;have I:=X1 j;have F:=X1 y;have J:=X1 (V.o.trans r);have H:=X1 (Yz Z.o r C.o);have a2:=H.o.cells rfl A _ S;have a3:=(Yz H.o (TyM.of (M:=XL) (bA (.cells #[.l v l2.length s] 23))) C.o).cells rfl A _ S;rw[Y8,Xu]at a2 a3;clear y r j)
  | ((with_reducible refine KJ (w1) ?_);refine Vp rfl 99 (.tmp 333) (.const (.q 4)) (.tmp 335) _ _ _ rfl (.p gb) (.q 4) (.q (d:Int)) (by simp) (by simp) (by simp) f99 func99 (by kernel_rfl) (by kernel_rfl) _ (Uk gb rb vb n (HE.o _ _ _ _ U.o (by omega) (by omega))) ?_;intro v2 Q h2;obtain⟨l2,j,W,m2,y,r⟩:=h2;obtain⟨v,s,N⟩:=j.form W;subst N;have I:=X1 j;have F:=X1 y;have J:=X1 (V.o.trans r);have a2:=(Y4 (base:=0) (e:=9) (size:=1) Q #[.t #[97],.t #[98]] 2 (Xb _) (by unfold maxLen;omega) rfl).cells rfl A _ S;rw[Y8,Xu]at a2;have a3:=(Y4 (base:=0) (e:=9) (size:=1) (Q.z #[.l v l2.length s] 23) #[.t #[97],.t #[98]] 2 (Xb _) (by unfold maxLen;omega) rfl).cells rfl A _ S;rw[Y8,Xu]at a3;have a4:=(Yz (Y4 (base:=0) (e:=9) (size:=1) Q #[.t #[97],.t #[98]] 2 (Xb _) (by unfold maxLen;omega) rfl) (TyM.of (M:=XL) (bA (.cells #[.l v l2.length s] 23))) C.o).cells rfl A _ S;rw[Y8,Xu]at a4;rw[Yx]at a3;clear y r j)
  | ((with_reducible refine KJ (Q.z #[.l v l2.length s] 23) ?_);refine Kf rfl 66 (.tmp 332) (.tmp 337) _ _ rfl (ndV ⟨11,0,0,u,0⟩) (.l Q.heap.size 1 1) (by unfold ndV;first|(simp[Act.eval];done)|simp[Act.eval,Act.put]) (by simp) f66 func66 (by kernel_rfl) (by kernel_rfl) _ (Uq (by have hh:=ZW ⟨11,0,0,u,0⟩ [_] _ _ kd (pr1 I.o W) (by simpa using m2) (by omega) (by simp);exact hh)) ?_;intro v3 w3 h3;obtain⟨l3,m,p3,m3,K⟩:=h3;obtain⟨b0,a9,O⟩:=m.form p3;subst O;have a0:=X1 m;have X:=X1 ((F.o.below (bA _)).below K);have a5:=X1 ((J.o.trans (.of (bA _))).trans (.of K));clear m K)
  | ((with_reducible refine KJ ((Q.z #[.t #[97],.t #[98]] 9).z #[.l v l2.length s] 23) ?_);refine Kf rfl 66 (.tmp 332) (.tmp 337) _ _ rfl (ndV ⟨11,0,0,u,0⟩) (.l ((Q.heap.size+1)) 1 1) (by unfold ndV;first|(simp[Act.eval];done)|simp[Act.eval,Act.put]) (by simp) f66 func66 (by kernel_rfl) (by kernel_rfl) _ (Uq (by have hh:=ZW ⟨11,0,0,u,0⟩ [_] _ _ kd (pr1 (I.o.below (bA (.cells #[.t #[97],.t #[98]] 9))) W) (by simpa using m2) (by omega) (by simp);rw[Yx]at hh;exact hh)) ?_;intro v3 w3 h3;obtain⟨l3,m,p3,m3,K⟩:=h3;obtain⟨b0,a9,O⟩:=m.form p3;subst O;have a0:=X1 m;have X:=X1 ((F.o.below ((bA _).alloc (by simp) _)).below K);have a5:=X1 ((J.o.trans (.of ((bA _).alloc (by simp) _))).trans (.of K));clear m K)
  | ((with_reducible refine KJ ((Q.z #[.l v l2.length s] 23).z #[.t #[97],.t #[98]] 9) ?_);refine Kf rfl 66 (.tmp 332) (.tmp 337) _ _ rfl (ndV ⟨11,0,0,u,0⟩) (.l Q.heap.size 1 1) (by unfold ndV;first|(simp[Act.eval];done)|simp[Act.eval,Act.put]) (by simp) f66 func66 (by kernel_rfl) (by kernel_rfl) _ (Uq (by have hh:=ZW ⟨11,0,0,u,0⟩ [_] _ _ kd ((pr1 I.o W).below (bA (.cells #[.t #[97],.t #[98]] 9))) (by simpa using m2) (by omega) (by simp);exact hh)) ?_;intro v3 w3 h3;obtain⟨l3,m,p3,m3,K⟩:=h3;obtain⟨b0,a9,O⟩:=m.form p3;subst O;have a0:=X1 m;have X:=X1 ((F.o.below ((bA _).alloc (by simp) _)).below K);have a5:=X1 ((J.o.trans (.of ((bA _).alloc (by simp) _))).trans (.of K));clear m K)
  )
 all_goals
  go_wp2;go_ret;exact⟨_,_,rfl,a0.o,p3,by omega,X.o.mono (by omega),a5.o⟩
