import Derived.Test.YtkoiikmhfaebnaaGreatDoorB50
import Derived.Test.YtkoiikmhfaebnaaGreatDoorB51
import Derived.Test.YtkoiikmhfaebnaaGreatDoorB52
import Derived.HandedShaped
import Derived.Shelf.Vars
set_option maxHeartbeats 4000000
set_option maxRecDepth 100000
namespace Go.Proofs.YtkoiikmhfaebnaaGreatDoor
open Go.Proofs.Tryz Go.RowKit
theorem FR{B:Nat}(p:Option Addr)(n c:Nat)(l:List Nd)(w:World)(h:w.ownsRow B 48 5 (.slice p n c) l.length (Xe l))(u:l.length<=1048576):Calls prog 8 #[.agg #[.slice p n c]] w fun e w'=>e= .returned (.bool (Zb l))/\Below w.heap.size w w':=by
 have r:BL w (w.alloc (.cells #[.slice p n c] 25)):=bA _;have d:=X1 (X2n (.slice p n c) l (w.alloc (.cells #[.slice p n c] 25)) (Qi h r) u);have k:=X1 (NA l);clear h;generalize Zb l=b at *;obtain⟨x,y,j⟩:∃x y,Yi l=(x,y):=⟨_,_,rfl⟩;rw[j]at d k;simp only at d;clear j;by_cases m:x=0
 .subst m;by_cases q:y=0
  .subst q;have g:b=true:=k.o.2 rfl;subst g;go_enter func8,ntmps8;go_wp2_with fail;refine d.o.mono ?_;rintro e w1⟨rfl,a⟩;go_wp2;go_ret;exact⟨rfl,r.trans (a.mono (by simp))⟩
  .have g:b=false:=by cases b with
    | false=>rfl
    | true=>exact absurd (Zd Prod.snd (k.o.1 rfl)) q
   subst g;have t:((y:Int)==0)=false:=by simpa using q
   have v:¬(y:Int)=0:=by omega
   go_enter func8,ntmps8;go_wp2_with fail;refine d.o.mono ?_;rintro e w1⟨rfl,a⟩;go_wp2;go_ret;exact⟨by first|rfl|simp[t,q],r.trans (a.mono (by simp))⟩
 .have g:b=false:=by cases b with
   | false=>rfl
   | true=>exact absurd (Zd Prod.fst (k.o.1 rfl)) m
  subst g;have s:(x==0)=false:=by simpa using m
  go_enter func8,ntmps8;go_wp2_with fail;refine d.o.mono ?_;rintro e w1⟨rfl,a⟩;go_wp2;go_ret;exact⟨by first|rfl|simp[s,m],r.trans (a.mono (by simp))⟩
theorem Y6o(r s:Option Addr)(d j:Nat)(l:List Nd)(w:World){N P:Nat}(J:w.ownsRow N 48 5 (.slice r l.length d) l.length (Xe l))(K:w.ownsRow P 48 5 (.slice s l.length j) l.length (Xe l))(hl:l.length<=1048576):Calls prog 6 #[.agg #[.slice r l.length d],.agg #[.slice s l.length j]] w fun e w'=>e= .returned (.bool true)/\Below w.heap.size w w':=by
 have z:BL w ((w.alloc (.cells #[.slice r l.length d] 25)).alloc (.cells #[.slice s l.length j] 25)):=(bA _).alloc (by simp) _;have M:((w.alloc (.cells #[.slice r l.length d] 25)).alloc (.cells #[.slice s l.length j] 25)).cell? ⟨w.heap.size,0,none⟩=some (.slice r l.length d):=by
  have Y:=(X5 (w.heap.size+1) (w.alloc (.cells #[.slice r l.length d] 25))).alloc (by simp) (.cells #[.slice s l.length j] 25);exact(Y.cell (p:=⟨w.heap.size,0,none⟩) (XI _)).trans (by simp)
 have x1:((w.alloc (.cells #[.slice r l.length d] 25)).alloc (.cells #[.slice s l.length j] 25)).cell? ⟨w.heap.size+1,0,none⟩=some (.slice s l.length j):=by
  have:=Vl.KX (w.alloc (.cells #[.slice r l.length d] 25)) (.slice s l.length j) 25;rw[Xb]at this;exact this.1
 have Q:=X1 (L2 J);have S:=X1 (L2 K);clear J K;have Z:((w.alloc (.cells #[.slice r l.length d] 25)).alloc (.cells #[.slice s l.length j] 25)).heap.size=w.heap.size+1+1:=by simp
 go_enter func6,ntmps6;go_upto_region 3 with fail;generalize I:(w.alloc (.cells #[.slice r l.length d] 25)).alloc (.cells #[.slice s l.length j] 25)=w2 at *;clear I;go_wp2_with fail;go_loopw[5] (fun t wr=>∃i:Nat,i<=l.length/\t= .int .i64 (i:Int)/\BL w2 wr) (fun t _=>l.length-(intOf t).toNat)
 case atStart=>exact⟨0,X6 _,rfl,X5 _ _⟩
 case round=>
  obtain⟨i,hi,rfl,E⟩:=hrel;have d0:=(E.cell (p:=⟨w.heap.size,0,none⟩) (by show w.heap.size<_;omega)).trans M;have a:=X1 E;clear E;by_cases c:i<l.length
  .have L:(i:Int)<(l.length:Int):=by omega
   obtain⟨u,V,F,v⟩:∃g c',Value.slice r l.length d= .slice (some ⟨g,0,none⟩) l.length c'/\Yw w g l:=by
    rcases Q.o with⟨_,C⟩|D
    .rw[C]at c;cases c
    .exact D
   obtain⟨gb,W,H,y⟩:∃g c',Value.slice s l.length j= .slice (some ⟨g,0,none⟩) l.length c'/\Yw w g l:=by
    rcases S.o with⟨_,C⟩|D
    .rw[C]at c;cases c
    .exact D
   cases F;cases H;have k:=X1 (fun q:KB wr=>(((v.below z).below a.o).below q.below).2 i c);have m:=X1 (fun q:KB wr=>(((y.below z).below a.o).below q.below).2 i c);clear v y;haveI hne:Nonempty (KB wr):=⟨⟨_,X5 _ _⟩⟩;generalize l[i]=x at *;have e0:∀q:KB wr,q.w.cell? ⟨w.heap.size,0,none⟩=some (.slice (some ⟨u,0,none⟩) l.length d):=fun q=>((a.o.trans (q.below.mono a.o.size)).cell (p:=⟨w.heap.size,0,none⟩) (by show w.heap.size<_;omega)).trans M;have e1:∀q:KB wr,q.w.cell? ⟨w.heap.size+1,0,none⟩=some (.slice (some ⟨gb,0,none⟩) l.length j):=fun q=>((a.o.trans (q.below.mono a.o.size)).cell (p:=⟨w.heap.size+1,0,none⟩) (by show w.heap.size+1<_;omega)).trans x1;have a0:∀q:KB wr,q.w.cell? ⟨u,i*5,none⟩=some (.int .i64 x.kind):=fun q=>(k.o q).1;have a1:∀q:KB wr,q.w.cell? ⟨u,i*5+1,none⟩=some (.int .i64 x.op):=fun q=>(k.o q).2.1;have a2:∀q:KB wr,q.w.cell? ⟨u,i*5+2,none⟩=some (.int .i64 x.n):=fun q=>(k.o q).2.2.1;have a3:∀q:KB wr,q.w.cell? ⟨u,i*5+3,none⟩=some (.string x.text):=fun q=>(k.o q).2.2.2.1;have a4:∀q:KB wr,q.w.cell? ⟨u,i*5+4,none⟩=some (.int .i64 x.kids):=fun q=>(k.o q).2.2.2.2;have b0:∀q:KB wr,q.w.cell? ⟨gb,i*5,none⟩=some (.int .i64 x.kind):=fun q=>(m.o q).1;have b1:∀q:KB wr,q.w.cell? ⟨gb,i*5+1,none⟩=some (.int .i64 x.op):=fun q=>(m.o q).2.1;have b2:∀q:KB wr,q.w.cell? ⟨gb,i*5+2,none⟩=some (.int .i64 x.n):=fun q=>(m.o q).2.2.1;have b3:∀q:KB wr,q.w.cell? ⟨gb,i*5+3,none⟩=some (.string x.text):=fun q=>(m.o q).2.2.2.1;have b4:∀q:KB wr,q.w.cell? ⟨gb,i*5+4,none⟩=some (.int .i64 x.kids):=fun q=>(m.o q).2.2.2.2;go_wp2_with fail;refine JY (KB.w (w:=wr)) (by kernel_rfl) (by kernel_rfl) ⟨⟨_,below_drewN (X5 _ _) _⟩,rfl⟩ ?_;repeat(go_big_quiet_step (fail))
   refine wpQuiet_nil ?_;rintro _⟨q,rfl⟩;have B:=X1 (a.o.trans (q.below.mono a.o.size));go_wp2;go_roundw
   case rel=>exact⟨i+1,by omega,by go_num,B.o⟩
   case measure=>simp[intOf];omega
  .have X:¬(i:Int)<(l.length:Int):=by omega
   have A:=X1 (z.trans (a.o.mono z.size));go_wp2;go_ret;exact⟨rfl,A.o⟩
theorem Fd.C6(O:FOp):Fd.ZX O []=[]:=by unfold Fd.ZX;rw[NB];rfl
theorem X6f(w:World):Calls prog 7 #[.agg #[.slice none 0 0]] w fun e w'=>Wy Fd.O [] w e w':=by
 have g:BL w ((w.alloc (.cells #[.slice none 0 0] 25)).alloc (.cells #[.slice none 0 0] 25)):=(bA _).alloc (by simp) _;have c:=X1 (X5s ((w.alloc (.cells #[.slice none 0 0] 25)).alloc (.cells #[.slice none 0 0] 25)));obtain⟨j,k⟩:=Sx w (.slice none 0 0);have m:=(QT j).1;go_enter func7,ntmps7;go_wp2_with fail;refine c.o.mono ?_;rintro e w1⟨rfl,a⟩;rw[Xb,Xb]at a;have d:=g.trans (a.mono (by omega));obtain⟨l,n⟩:=QT ((a.block (w.heap.size+1) (by omega)).trans k);clear a;go_wp2;refine X7 (v:= .agg #[.slice none 0 0]) (by simp[results,results7,go_sem,l]) rfl ⟨_,rfl,by rw[Fd.C6];exact ZJ _ _ _ _,?_⟩;exact d.setCell (p:=⟨w.heap.size+1,0,none⟩) (by simp) _
theorem X6d(w:World):Calls prog 5 #[.agg #[.slice none 0 0]] w fun e w'=>Wy Fd.O [] w e w':=by
 have g:BL w ((w.alloc (.cells #[.slice none 0 0] 25)).alloc (.cells #[.slice none 0 0] 25)):=(bA _).alloc (by simp) _;have c:=X1 (X7w ((w.alloc (.cells #[.slice none 0 0] 25)).alloc (.cells #[.slice none 0 0] 25)));obtain⟨j,k⟩:=Sx w (.slice none 0 0);have m:=(QT j).1;go_enter func5,ntmps5;go_wp2_with fail;refine c.o.mono ?_;rintro e w1⟨rfl,a⟩;rw[Xb,Xb]at a;have d:=g.trans (a.mono (by omega));obtain⟨l,n⟩:=QT ((a.block (w.heap.size+1) (by omega)).trans k);clear a;go_wp2;all_goals
  refine X7 (v:= .agg #[.slice none 0 0]) (by simp[results,results5,go_sem,l]) rfl ⟨_,rfl,by rw[Fd.C6];exact ZJ _ _ _ _,?_⟩;exact d.setCell (p:=⟨w.heap.size+1,0,none⟩) (by simp) _
theorem X6e(v:Value)(l:List Nd)(w:World)(h:NR w v l)(a:l.length<=1048576):Calls prog 7 #[.agg #[v]] w fun e w'=>Wy Fd.O l w e w':=by
 rcases L2 h.1 with⟨rfl,rfl⟩|⟨g,c,rfl,d⟩
 .exact X6f w
 .exact Y2h (X6i Xes Fd.WW) l g c w a d (fun x j=>(h.2 x j).2)
theorem X6c(v:Value)(l:List Nd)(w:World)(h:NR w v l)(k:l.length<=1048576)(j:U4 w)(a:Vl.GI w):Calls prog 5 #[.agg #[v]] w fun e w'=>Wy Fd.O l w e w':=by
 rcases L2 h.1 with⟨rfl,rfl⟩|⟨g,c,rfl,m⟩
 .exact X6d w
 .exact X8f l g c w k (fun x d=>XO (h.2 x d).1 (by omega)) (fun x d=>(h.2 x d).2) j a m
structure LF (w0:World) (b1 b2:Nat) (p1 p2:Option Addr) (c1 c2:Nat) (l f:List Nd) (w:World):Prop where
 B:Below w0.heap.size w0 w
 x1:w.heap[b1]?=some (.cells #[.slice p1 l.length c1] 25)
 x2:w.heap[b2]?=some (.cells #[.slice p2 f.length c2] 25)
 r1:NR w (.slice p1 l.length c1) l
 r2:w.ownsRow 0 48 5 (.slice p2 f.length c2) f.length (Xe f)
theorem LF.below{k w w':World}{c d c1 c2:Nat}{g j:Option Addr}{l f:List Nd}(h:LF k c d g j c1 c2 l f w)(a:BL w w'):LF k c d g j c1 c2 l f w':=⟨h.B.trans (a.mono h.B.size),(a.block _ (Kh.1 h.x1).1).trans h.x1,(a.block _ (Kh.1 h.x2).1).trans h.x2,⟨Qi h.r1.1 a,h.r1.2⟩,Qi h.r2 a⟩
theorem Xas(HD:∀m v w,ByV w v m->Calls prog 4 #[v] w fun e w'=>∃v l,e= .returned (.agg #[v])/\NR w' v l/\l.length<=300000/\BL w w')(N:∀l,Sh l->Zb l=true->Zb (Fd.ZX Fd.O l)=true/\(Fd.ZX Fd.O l).length<=l.length)(m:Nat)(v:Value)(w:World)(h:ByV w v m)(hG:U4 w)(Q:Vl.GI w):Calls prog 3 #[v] w fun e w'=>e= .returned (.bool true)/\Below w.heap.size w w':=by
 have J:=X1 (HD m v w h);have HG:=X1 hG;have a3:=X1 Q;have N:=X1 N;obtain⟨vp,vl,vc,rfl⟩:∃p l c,v= .slice p l c:=by
  rcases h with⟨q,c,h,_⟩|⟨g,o,c,h,_⟩
  .exact⟨_,_,_,h⟩
  .exact⟨_,_,_,h⟩
 clear h hG Q HD;by_cases a8:(1048576:Int)<(vl:Int)
 .go_enter func3,ntmps3;go_wp2;go_ret;exact⟨rfl,X5 _ _⟩
 go_enter func3,ntmps3;go_wp2_with fail;refine J.o.mono ?_;rintro e w1⟨v1,l,rfl,d,a9,C⟩;obtain⟨p,c,rfl⟩:=XQ d.1;have q1:BL w1 (w1.alloc (.cells #[.slice p l.length c] 25)):=bA _;have A:NR (w1.alloc (.cells #[.slice p l.length c] 25)) (.slice p l.length c) l:=⟨Qi d.1 q1,d.2⟩;have n:=C.trans (q1.mono C.size);have S:(Fd.ZX Fd.O l).length<=1048576/\(Zb l=false->Fd.ZX Fd.O l=[]):=by
  cases E:Zb l
  .have:Fd.ZX Fd.O l=[]:=by unfold Fd.ZX;rw[E];rfl
   rw[this];exact⟨X6 _,fun _=>rfl⟩
  .exact⟨by have:=(N.o l d.2 E).2;omega,fun h=>by cases h⟩
 have HQ:=X1 (X6c _ l _ A (by omega) (HG.o.below n) (a3.o.below n));have HS:=X1 (fun w' (h:NR w' (.slice p l.length c) l)=>X6e _ l w' h (by omega));have y:=X1 A;have r:=X1 n;have z:=X1 (N.o l d.2);have u:=X1 S;have P:Hid ((w1.alloc (.cells #[.slice p l.length c] 25)).heap[w1.heap.size]?=some (.cells #[.slice p l.length c] 25)):=X1 (XM w1 _);unfold Wy at HQ HS;clear d C q1 A n J N S;generalize Fd.ZX Fd.O l=f at *;go_wp2_with fail;refine HQ.o.mono ?_;rintro e I⟨v2,rfl,F,k⟩;obtain⟨H,c2,rfl⟩:=XQ F;have q2:BL I (I.alloc (.cells #[.slice H f.length c2] 25)):=bA _;have s:=r.o.trans (k.mono r.o.size);have K:Hid (LF w w1.heap.size I.heap.size p H c c2 l f (I.alloc (.cells #[.slice H f.length c2] 25))):=X1 ⟨s.trans (q2.mono s.size),(q2.block _ (Xd (by simp) k.size)).trans ((k.block _ (by simp)).trans P.o),XM _ _,⟨Qi (Qi y.o.1 k) q2,y.o.2⟩,S0 (Qi F q2) (X6 _)⟩;clear F k q2 s y P r HQ;go_upto_region 5 with fail;generalize a6:I.alloc (.cells #[.slice H f.length c2] 25)=w3 at *;generalize w1.heap.size=b1 at *;generalize I.heap.size=b2 at *;clear a6;have a1:=(QT K.o.x1).1;have a2:=(QT K.o.x2).1;go_cut[16]from 12 to 16 (fun a7 wx=>a7= .bool false/\BL w3 wx)
 case first=>
  have M:=X1 (K.o.below (X5 _ _).drew);go_region_with(first
   | (go_at_call 7;refine(HS.o _ M.o.r1).mono ?_;rintro e w4⟨v4,rfl,Z,D⟩;obtain⟨p4,c4,rfl⟩:=XQ Z;have L:=M.o.below D;have s4:=(QT L.x2).1)
   | (go_at_call 6;refine(Y6o H p4 c2 c4 f w4 L.r2 Z u.o.1).mono ?_;rintro e w5⟨rfl,a4⟩))
  all_goals
   go_wp2_with fail;go_meet
   case rel=>exact⟨rfl,(X5 _ _).drew.trans (D.trans (a4.mono D.size))⟩
 case rest=>
  obtain⟨rfl,V⟩:=hcut;have j:=X1 (K.o.below V);have e1:=(QT j.o.x1).1;have e2:=(QT j.o.x2).1;clear V a1 a2 K HS;go_wp2_with fail;refine(FR p l.length c l _ j.o.r1.1 (by omega)).mono ?_;rintro e w7⟨rfl,W⟩;have a:=X1 (j.o.below W);have g1:=(QT a.o.x1).1;have g2:=(QT a.o.x2).1;clear W e1 e2 j;cases E:Zb l
  .obtain rfl:=u.o.2 E;clear z E;go_wp2;go_ret;exact⟨rfl,a.o.B⟩
  .obtain⟨Y,a5⟩:=z.o E;have b0:(f.length:Int)<=(l.length:Int):=by omega
   have a0:=X1 Y;clear E Y z a5;go_wp2_with fail;refine(FR H f.length c2 f _ a.o.r2 u.o.1).mono ?_;rintro e w8⟨rfl,X⟩;rw[a0.o];have t:=X1 (a.o.below X);have k1:=(QT t.o.x1).1;have k2:=(QT t.o.x2).1;clear X g1 g2 a;go_wp2;go_ret;exact⟨rfl,t.o.B⟩
end Go.Proofs.YtkoiikmhfaebnaaGreatDoor
namespace Go.Proofs.YtkoiikmhfaebnaaGreatDoor
open Go.Proofs.Tryz Go.ChangeShapes Go.WideShapes Go.ChangeAt Go.RowKit Go.ChangeMaps
theorem Y1j{H:Type}{enc:TypeId × Value->H}{a:Assume}{C:Checked}{os:Os}{f:FuncId}{fn:Func}{s:ChangeSpec}{n:List PathCond}{apart fresh k m:Bool}{X:World->Array Value->Prop}(L:∀(w w':World) (c:Array Value),w.heap=w'.heap->X w c->X w' c)(own:ownKnob C.prog.godebug=none)(q:os.Started)(u:C.prog.inits.idxOf? f=none)(F:C.prog.funcs[f]?=some fn)(r:∃(w:World) (d:Tape) (i:Input),w.os=os/\(w.forCall d i).Shaped C.prog/\i.vars=[]/\Input.okWide C.prog (w.forCall d i) .any w.heap.size f i/\((s.pre enc C.prog fn n apart (w.forCall d i).memory i.args/\X (w.forCall d i).memory i.args)/\sizedMet enc C.prog fn (OpenSpec.ofChange s) apart (w.forCall d i).memory i.args)/\a.holds C.prog (lone (Frame.enter C.prog f i.args .normal) [] (w.forCall d i)))(l:∀(W:World) (base:Nat) (c:Array Value) (B E:List (DataW H)) (g:List MemPlace), (∀(j:Nat) t v,fn.params[j]?=some t->c[j]?=some v->Value.okWide C.prog W .any base t v)->DataW.Whole enc C.prog fn.params.toList s.vars apart W c.toList B E g->X W c->W.ShapedOpen C.prog->Calls C.prog f c W fun e K=>∃v,e= .returned v/\s.post enc C.prog fn apart fresh k m W c v K): ReturnsInHanded a C os f .any (fun w c=>(s.pre enc C.prog fn n apart w c/\X w c)/\sizedMet enc C.prog fn (OpenSpec.ofChange s) apart w c) (s.post enc C.prog fn apart fresh k m):=by
 refine returnsInHanded_of_calls own q u r fun w d i _ J _ I z _=>?_;obtain⟨_,_,_,D,y,_,_,_,_,A⟩:=I;have e:D=fn:=YD (y.symm.trans F);subst e;obtain⟨⟨⟨B,E,g,P,_⟩,Q⟩,_⟩:=z;refine(l (w.forCall d i) w.heap.size i.args B E g A (DataW.Whole.of_heap (w':=w.forCall d i) (by rfl) P) (L _ _ _ (by rfl) Q) J).mono fun e K ⟨v,M,N⟩=>?_;subst M;exact ChangeSpec.post_blind N
theorem X3x(os:Os)(a:Array Value):laidMetH prog Rows.fnFoldRow.laid ((World.doorLaid prog 348 os).forCall (fun _ _=>0) ⟨#[],a,[]⟩).memory:=laidMetH_of_parts3 (fuel:=8) (laidMet_of_run' 8 (by kernel_rfl) (by kernel_rfl)) (by kernel_rfl) (by kernel_rfl)
theorem Xbm(os:Os)(d:os.Started)(H:Type)(enc:TypeId × Value->H): ReturnsInHanded {} checked os 3 .any (fun w a=>(Rows.fnFoldSpec.pre enc prog f3 [] false w a/\laidMetH prog Rows.fnFoldRow.laid w)/\sizedMet enc prog f3 (OpenSpec.ofChange Rows.fnFoldSpec) false w a) (Rows.fnFoldSpec.post enc prog f3 false true false false):=by
 refine Y1j (C:=checked) (X:=fun w _=>laidMetH prog Rows.fnFoldRow.laid w) (fun _ _ _ hh h=>h.of_heap hh) own d (by kernel_rfl) func3
  (ChangeSpec.witness_shaped (enc:=enc) (C:=checked) (os:=os) (X:=fun w _=>laidMetH prog Rows.fnFoldRow.laid w) false (World.doorLaid prog 348 os) #[.slice none 0 0] 8 rfl (World.shaped_of_RefB (by kernel_rfl) (by kernel_rfl)) (by kernel_rfl) (by kernel_rfl) (by kernel_rfl) (X3x os _)) ?_
 intro W base a M N s c J I B;have y:Vl.GI W:=Go.Proofs.cell_of_shapedOpen_int (zero:=#[.int .i64 0]) (t:=3) B (QR (by kernel_rfl)) (by kernel_rfl) rfl (by kernel_rfl) (by kernel_rfl) underlying3;have g:∀(j:Nat) t v,f3.params[j]?=some t->a[j]?=some v->Value.okWide prog W .any base t v:=c;have r:=J;obtain⟨p,q,k,S,rfl,Z,a1⟩:=J;have F:DataW.TrodAll enc prog W 0 (fun _=>true) true f3.params.toList a.toList M p:=k;rw[params3]at F g;obtain⟨v0,K,rfl,rfl,E⟩:=trodAll_one F;have m:DataW.TrodVars enc prog W (fun _=>true) ["loop.example/kilnclay/impl.builtNames"] N q:=S;obtain⟨_,_,_,_,L,_,rfl,_⟩:=trodVars_one m;have u:=E;have A:∀x∈p,x.block<W.heap.size:=fun x D=>by simpa using r.lt x (by simp[D])
 obtain⟨a0,l0,c0,rfl⟩:=okWide_slice underlying22 (g 0 22 v0 rfl rfl);obtain⟨n,Q⟩:=Xen rfl E;have P:=X6r I;clear k c I;refine(Xas (fun n v w h=>X4a n v w h) (fun l hs Y=>Fd.X6j Fd.WW Fd.Bg (fun x D=>(hs x D).2) Y) n _ W Q P y).mono fun e W' ⟨V,z⟩=>?_;subst V;exact⟨_,rfl,[K],[L],_,[],p,q,r,trodAll_mk1 (shut_bool underlying4 _),trodAll_mk1 (Below.trod CJ (by kernel_rfl) (QR (by kernel_rfl)) u z A),Below.trodVars CJ z (by kernel_rfl) m,z.frame _,fun h=>by cases h⟩
theorem Y1v:Rows.FnFoldSaid:=
 OpenClaim.holds_of_wide 3 f3 rfl rfl rfl rfl rfl rfl rfl ⟨rfl,rfl,rfl,rfl,rfl⟩ rfl rfl rfl rfl rfl (by kernel_rfl) func3 (by kernel_rfl)
  (QR (by kernel_rfl)) (by unfold Func.isWrapper;first|(rw[X3 (by decide +kernel)];kernel_rfl)|(rw[X2 (by decide +kernel)];exact⟨rfl,rfl⟩))
  (fun os a H enc _=>Xbm os a H enc)
theorem Xfh(f:FuncId)(fn:Func)(d:Tryz.pinned.checked.prog.funcNamed Rows.fnFoldRow.func=some f)(a:Tryz.pinned.checked.prog.funcs[f]?=some fn): true=Tryz.pinned.checked.prog.looks []/\∀(j:Nat) t,fn.params[j]?=some t->Tryz.pinned.checked.prog.wantsStandIn t=false:=by
 obtain rfl:f=3:=YD ((show prog.funcNamed Rows.fnFoldRow.func=some 3 by kernel_rfl).symm.trans d) |>.symm;obtain rfl:fn=f3:=(YD (func3.symm.trans a)).symm;refine⟨by kernel_rfl,fun j t c=>?_⟩;rw[params3]at c;obtain rfl:t=22:=by simpa using SF c
 exact(show prog.wantsStandIn 22=false by kernel_rfl)
theorem cardN:Rows.FnFoldCardSaid:=Claim7.holds_tied_plain_at .later [] _ _ _ _ Y1v (fun _ h=>by cases h) (by kernel_rfl) (fun _ h=>by cases h) fnFold_row_tie rfl ⟨rfl,rfl⟩ (by kernel_rfl) rfl Xfh (by kernel_rfl)
