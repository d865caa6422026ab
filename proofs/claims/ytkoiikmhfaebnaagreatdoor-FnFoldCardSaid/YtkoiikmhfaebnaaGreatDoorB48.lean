import Derived.Test.YtkoiikmhfaebnaaGreatDoorB43
import Derived.Test.YtkoiikmhfaebnaaGreatDoorB47
import Derived.Test.YtkoiikmhfaebnaaGreatDoorB40
set_option maxHeartbeats 2000000
set_option maxRecDepth 100000
namespace Go.Proofs.YtkoiikmhfaebnaaGreatDoor
open Tryz Go.RowKit
structure AC (w:World) (g:Nat) (x:Nd):Prop where
 lt:g<w.heap.size
 c0:w.cell? ⟨g,0,none⟩=some (.int .i64 x.kind)
 c1:w.cell? ⟨g,1,none⟩=some (.int .i64 x.n)
 c2:w.cell? ⟨g,2,none⟩=some (.string x.text)
 c3:w.cell? ⟨g,3,none⟩=some (.int .i64 0)
theorem AC.below{w w':World}{g:Nat}{x:Nd}(h:AC w g x)(a:BL w w'):AC w' g x:=⟨Xd h.lt a.size,(a.cell (p:=⟨g,0,none⟩) h.lt).trans h.c0,(a.cell (p:=⟨g,1,none⟩) h.lt).trans h.c1,(a.cell (p:=⟨g,2,none⟩) h.lt).trans h.c2,(a.cell (p:=⟨g,3,none⟩) h.lt).trans h.c3⟩
abbrev av(g c:Nat):Value:= .agg #[.slice (some ⟨g,0,none⟩) 1 c]
theorem VAt.ac{w:World}{v:Value}{x:Nd}(h:VAt w v x):∃g c,v=av g c/\AC w g x:=by
 obtain⟨g,c,a,d,j,k,l,m⟩:=h;exact⟨g,c,a,d,j,k,l,m⟩
theorem AC.vat{w:World}{g c:Nat}{x:Nd}(h:AC w g x):VAt w (av g c) x:=⟨g,c,rfl,h.lt,h.c0,h.c1,h.c2,h.c3⟩
theorem AC.set{w:World}{g b i:Nat}{u:Value}{x:Nd}(h:AC w g x)(d:g≠b):AC (w.setCell ⟨b,i,none⟩ u) g x:=by
 have c:∀j,(w.setCell ⟨b,i,none⟩ u).cell? ⟨g,j,none⟩=w.cell? ⟨g,j,none⟩:=fun j=>Xy (w:=w) (a:=⟨g,j,none⟩) (UY d);exact⟨by rw[Ie];exact h.lt,(c 0).trans h.c0,(c 1).trans h.c1,(c 2).trans h.c2,(c 3).trans h.c3⟩
abbrev agA(x:Nd):Value:= .agg #[.int .i64 x.kind,.int .i64 x.n,.string x.text,.int .i64 0]
theorem Qu(x:Nd)(g c:Nat)(w:World)(h:AC w g x):Calls prog 126 #[av g c] w fun e w'=>e= .returned (agA x)/\Below w.heap.size w w':=by
 have a:BL w ((w.alloc (.cells #[.slice (some ⟨g,0,none⟩) 1 c] 118)).alloc (.cells #[.int .i64 0,.int .i64 0,.string ⟨#[]⟩,.int .i64 0] 220)):=(bA _).alloc (by simp) _;have d:=(h.below a).c0;have j:=(h.below a).c1;have k:=(h.below a).c2;have l:=(h.below a).c3;have m:=h.lt;clear h;go_enter func126,ntmps126;go_wp2;refine X7 (v:=agA x) (by simp[results,results126,go_sem]) rfl ⟨rfl,?_⟩;exact(bA _).alloc (by simp) _
theorem X5y(k n q:Int)(s:ByteArray)(w:World):(Instr.field 220 (.agg #[.int .i64 k,.int .i64 n,.string s,.int .i64 q]) 0).run prog w= .ok (.int .i64 k) w:=by kernel_rfl
theorem Uf(k n q:Int)(s:ByteArray)(w:World):(Instr.field 220 (.agg #[.int .i64 k,.int .i64 n,.string s,.int .i64 q]) 1).run prog w= .ok (.int .i64 n) w:=by kernel_rfl
theorem Mj(k n q:Int)(s:ByteArray)(w:World):(Instr.field 220 (.agg #[.int .i64 k,.int .i64 n,.string s,.int .i64 q]) 2).run prog w= .ok (.string s) w:=by kernel_rfl
theorem Jt(x:Nd)(g c:Nat)(w:World)(h:AC w g x):Calls prog 125 #[av g c] w fun e w'=>e= .returned (.int .i64 x.kind)/\Below w.heap.size w w':=by
 have d:BL w (w.alloc (.cells #[.slice (some ⟨g,0,none⟩) 1 c] 118)):=bA _;have j:=X1 (Qu x g c _ (h.below d));clear h;go_enter func125,ntmps125;go_wp2_with fail;refine j.o.mono ?_;rintro e w1⟨rfl,a⟩;have k:=fun w=>X5y x.kind x.n 0 x.text w;go_wp2;go_ret;exact⟨rfl,d.trans (a.mono d.size)⟩
theorem noW(s:ByteArray)(w:World):Calls prog 127 #[.string s] w fun e w'=>e= .returned (.tuple #[.agg #[.slice none 0 0],.string s])/\Below w.heap.size w w':=by
 go_enter func127,ntmps127;go_wp2;refine X7 (v:= .tuple #[.agg #[.slice none 0 0],.string s]) (by simp[results,results127,go_sem]) rfl ⟨rfl,?_⟩;exact bA _
theorem We(x:Nd)(g c:Nat)(w:World)(h:AC w g x):Calls prog 185 #[av g c] w fun e w'=>∃q,e= .returned (.tuple #[.slice (some ⟨q,0,none⟩) 0 0,.bool true])/\Below w.heap.size w w':=by
 have k:BL w ((w.alloc (.cells #[.slice (some ⟨g,0,none⟩) 1 c] 118)).alloc (.cells #[] 3)):=(bA _).alloc (by simp) _;have u:=(h.below k).c3;have v:=h.lt;clear h;go_enter func185,ntmps185;go_wp2_with fail;have d:=X1 k;generalize m:(w.alloc (.cells #[.slice (some ⟨g,0,none⟩) 1 c] 118)).alloc (.cells #[] 3)=W at *;have y:W.cell? ⟨w.heap.size,0,none⟩=some (.slice (some ⟨g,0,none⟩) 1 c):=by
  rw[←m];exact((bA (.cells #[] 3)).cell (p:=⟨w.heap.size,0,none⟩) (by simp)).trans (by simp)
 clear k m;go_loopw[4,5] (fun n r wr=>n= .slice (some ⟨w.heap.size+1,0,none⟩) 0 0/\r= .int .i64 0/\wr=W) (fun _ _ _=>0)
 case atStart=>exact⟨rfl,rfl,rfl⟩
 case round=>
  obtain⟨rfl,rfl,a⟩:=hrel;have a:=a.symm;subst a;go_wp2_with fail;go_loopw[7,8] (fun s t l=>(∃q,s= .slice (some ⟨q,0,none⟩) 0 0)/\t= .int .i64 0/\BL W l) (fun _ _ _=>0)
  case atStart=>exact⟨⟨_,rfl⟩,rfl,bA _⟩
  case round=>
   obtain⟨⟨q,rfl⟩,rfl,j⟩:=hrel;go_wp2;go_ret2;exact⟨q,rfl,d.o.trans (j.mono d.o.size)⟩
theorem ok1(x:Nd)(a:Fd.CN x\/(x.kind=4/\x.n=0/\x.text.size<=1000))(g c:Nat)(w:World)(h:AC w g x):Calls prog 183 #[av g c,.int .i64 0] w fun e w'=>e= .returned (.bool true)/\Below w.heap.size w w':=by
 have v:=X1 h;have F:BL w (w.alloc (.cells #[.slice (some ⟨g,0,none⟩) 1 c] 118)):=bA _;have A:=X1 F;have y:=X1 (fun(w':World) (t:BL w w')=>We x g c w' (h.below t));have z:=X1 (fun(w':World) (t:BL w w')=>Qu x g c w' (h.below t));have D:Hid ((w.alloc (.cells #[.slice (some ⟨g,0,none⟩) 1 c] 118)).cell? ⟨w.heap.size,0,none⟩=some (.slice (some ⟨g,0,none⟩) 1 c)/\w.heap.size<(w.alloc (.cells #[.slice (some ⟨g,0,none⟩) 1 c] 118)).heap.size):=X1 ⟨by simp,by simp⟩;have C:(x.kind=1/\x.n=0/\x.text=⟨#[]⟩)\/(x.kind=2/\(x.n=0\/x.n=1)/\x.text=⟨#[]⟩)\/(x.kind=3/\x.text=⟨#[]⟩)\/(x.kind=4/\x.n=0/\x.text.size<=1000):=by
  rcases a with a|a
  .have H:=a.c;unfold Fd.isC at H;have:x.kind=1\/x.kind=2\/x.kind=3\/x.kind=4:=by omega
   rcases this with e|e|e|e
   .exact .inl ⟨e,a.zero (by omega) (by omega),a.text (by omega)⟩
   .exact .inr (.inl ⟨e,a.bit e,a.text (by omega)⟩)
   .exact .inr (.inr (.inl ⟨e,a.text (by omega)⟩))
   .exact .inr (.inr (.inr ⟨e,a.zero (by omega) (by omega),a.long⟩))
  .exact .inr (.inr (.inr a))
 obtain⟨k,o,n,s,d⟩:=x;simp only at C;clear h F a v;have l:(k=1/\n=0/\s=⟨#[]⟩)\/(k=2/\n=0/\s=⟨#[]⟩)\/(k=2/\n=1/\s=⟨#[]⟩)\/(k=3/\s=⟨#[]⟩)\/(k=4/\n=0/\s.size<=1000):=by
  rcases C with h|⟨h,B|B,E⟩|h|h
  .exact .inl h
  .exact .inr (.inl ⟨h,B,E⟩)
  .exact .inr (.inr (.inl ⟨h,B,E⟩))
  .exact .inr (.inr (.inr (.inl h)))
  .exact .inr (.inr (.inr (.inr h)))
 clear C;rcases l with⟨rfl,rfl,rfl⟩|⟨rfl,rfl,rfl⟩|⟨rfl,rfl,rfl⟩|⟨rfl,rfl⟩|⟨rfl,rfl,K⟩;all_goals
  go_enter func183,ntmps183;go_wp2_with fail;refine(y.o _ A.o).mono ?_;rintro e w1⟨q,rfl,r⟩;have m:=X1 (A.o.trans (r.mono A.o.size));have I:=(r.cell (p:=⟨w.heap.size,0,none⟩) D.o.2).trans D.o.1;clear r;go_wp2_with fail;refine(z.o _ m.o).mono ?_;rintro e L⟨rfl,u⟩;have j:=X1 (m.o.trans (u.mono m.o.size));clear u I;go_wp2_with fail
  first
   | (go_ret
      exact⟨by first|rfl|exact Xf (YJ (by omega)),j.o.alloc j.o.size _⟩)
   | (go_loopw[9] (fun J wr=>J= .int .i64 0/\BL w wr) (fun _ _=>0)
      case atStart=>exact⟨rfl,j.o.alloc j.o.size _⟩
      case round=>
       obtain⟨rfl,t⟩:=hrel;go_wp2;go_ret;exact⟨rfl,t⟩)
theorem V9(x:Nd)(l:Fd.CN x\/(x.kind=4/\x.n=0/\x.text.size<=1000))(g c:Nat)(w:World)(h:AC w g x):Calls prog 124 #[av g c] w fun e w'=>e= .returned (.bool true)/\Below w.heap.size w w':=by
 have d:BL w (w.alloc (.cells #[.slice (some ⟨g,0,none⟩) 1 c] 118)):=bA _;have k:=X1 (ok1 x l g c _ (h.below d));clear h;go_enter func124,ntmps124;go_wp2_with fail;refine k.o.mono ?_;rintro e w1⟨rfl,a⟩;have j:=X1 (d.trans (a.mono d.size));clear a;go_wp2;go_ret;exact⟨rfl,j.o⟩
theorem If{w:World}{g:Nat}{k n:Int}{s:ByteArray}(h:Vl.Kr w g 0 [⟨k,n,s,0⟩]):AC w g (Fd.cn k n s):=by
 obtain⟨c0,c1,c2,c3⟩:=h.2 0 (by simp);exact⟨h.1,by show w.cell? _=some (.int .i64 k);simpa using c0,by show w.cell? _=some (.int .i64 n);simpa using c1,by show w.cell? _=some (.string s);simpa using c2,by simpa using c3⟩
theorem Ou{w:World}{k n:Int}{s:ByteArray}{e:Ending}{w':World}(h:∃g,w.heap.size<=g/\e= .returned (.agg #[.slice (some ⟨g,0,none⟩) 1 1])/\Vl.Kr w' g 0 [⟨k,n,s,0⟩]/\BL w w'):Ia w (Fd.cn k n s) e w':=by
 obtain⟨g,a,c,d,j⟩:=h;exact⟨g,1,c,a,(If d).vat,j⟩
theorem Xcw(w:World):Calls prog 120 #[] w fun e w'=>∃g,w.heap.size<=g/\e= .returned (.agg #[.slice (some ⟨g,0,none⟩) 1 1])/\Vl.Kr w' g 0 [⟨1,0,⟨#[]⟩,0⟩]/\Below w.heap.size w w':=by
 have j:=X1 (fun w=>Vl.MM ⟨1,0,⟨#[]⟩,0⟩ w);go_enter func120,ntmps120;go_wp2_with fail;have d:BL w (w.alloc (.cells #[.slice none 0 0] 118)):=bA _;refine(j.o _).mono ?_;rintro e w1⟨g,m,rfl,l,a⟩;simp only[Xb]at m;have c:=Vl.KX w (.slice none 0 0) 118;have n:w1.cell? ⟨w.heap.size,0,none⟩=some (.slice none 0 0):=(a.cell (p:=⟨w.heap.size,0,none⟩) (by simp)).trans c.1;have q:w1.frozen? ⟨w.heap.size,0,none⟩=false:=(a.frozen (p:=⟨w.heap.size,0,none⟩) (by simp)).trans c.2;have k:=d.trans (a.mono d.size);clear a d c;go_wp2;refine X7 (v:= .agg #[.slice (some ⟨g,0,none⟩) 1 1]) (by simp[results,results120,go_sem,n]) rfl ⟨g,by omega,rfl,Vl.Vs l _ (by simp;omega) _,k.setCell (p:=⟨w.heap.size,0,none⟩) (X4 _) _⟩
theorem Xax:OQ:=⟨fun w=>(Xcw w).mono fun _ _ h=>Ou h,fun b w=>(Vl.AP b w).mono fun _ _ h=>Ou h,fun n w=>(Vl.QO n w).mono fun _ _ h=>Ou h,fun t w=>(Vl.Ff t w).mono fun _ _ h=>Ou h⟩
theorem X2r(l e:Bool)(w:World):Calls prog 184 #[.bool l,.bool e] w fun a w'=>a= .returned (.int .i64 (Vl.ZV l e))/\w'=w:=by
 cases l;all_goals cases e
 all_goals
  go_enter func184,ntmps184;go_wp2;go_ret;exact⟨rfl,rfl⟩
theorem RL{W:World}{g:Nat}{v:Value}{t:TypeId}(h:W.heap[g]?=some (.cells #[v] t)):W.cell? ⟨g,0,none⟩=some v:=by rw[World.cell?,h];rfl
theorem AQ{W:World}{g:Nat}{x:Nd}(h:W.heap[g]?=some (.cells #[.int .i64 x.kind,.int .i64 x.n,.string x.text,.int .i64 0] 220)):W.cell? ⟨g,0,none⟩=some (.int .i64 x.kind)/\W.cell? ⟨g,1,none⟩=some (.int .i64 x.n)/\W.cell? ⟨g,2,none⟩=some (.string x.text):=by
 refine⟨?_,?_,?_⟩<;>(rw[World.cell?,h];rfl)
theorem MS(x y:Nd)(hx:Fd.isC x)(g c t c':Nat)(w:World)(h:AC w g x)(Z:AC w t y):Calls prog 128 #[av g c,av t c'] w fun e w'=>e= .returned (.int .i64 ((Fd.tn x).ord (Fd.tn y)))/\Below w.heap.size w w':=by
 have HO:=X1 (Vl.T.RN (Fd.tn x) (Fd.tn y));have E:BL w ((w.alloc (.cells #[.slice (some ⟨g,0,none⟩) 1 c] 118)).alloc (.cells #[.slice (some ⟨t,0,none⟩) 1 c'] 118)):=(bA _).alloc (by simp) _;have Q:=X1 E;have X:=X1 (fun(w':World) (A:BL w w')=>Qu x g c w' (h.below A));have Y:=X1 (fun(w':World) (A:BL w w')=>Qu y t c' w' (Z.below A));have V:=X1 (fun(w':World) (A:BL w w')=>We x g c w' (h.below A));have W:=X1 (fun(w':World) (A:BL w w')=>We y t c' w' (Z.below A));have m:((w.alloc (.cells #[.slice (some ⟨g,0,none⟩) 1 c] 118)).alloc (.cells #[.slice (some ⟨t,0,none⟩) 1 c'] 118)).heap[w.heap.size]?=some (.cells #[.slice (some ⟨g,0,none⟩) 1 c] 118):=((bA (.cells #[.slice (some ⟨t,0,none⟩) 1 c'] 118)).block w.heap.size (by simp)).trans (XM w _);have s:((w.alloc (.cells #[.slice (some ⟨g,0,none⟩) 1 c] 118)).alloc (.cells #[.slice (some ⟨t,0,none⟩) 1 c'] 118)).heap[w.heap.size+1]?=some (.cells #[.slice (some ⟨t,0,none⟩) 1 c'] 118):=by have:=XM (w.alloc (.cells #[.slice (some ⟨g,0,none⟩) 1 c] 118)) (.cells #[.slice (some ⟨t,0,none⟩) 1 c'] 118);rw[Xb]at this;exact this
 have HZ:Hid (w.heap.size+1<((w.alloc (.cells #[.slice (some ⟨g,0,none⟩) 1 c] 118)).alloc (.cells #[.slice (some ⟨t,0,none⟩) 1 c'] 118)).heap.size):=X1 (by simp);have J:=X1 m;have K:=X1 s;have N:x.kind=1\/x.kind=2\/x.kind=3\/x.kind=4:=by unfold Fd.isC at hx;omega
 have r:=X1 N;clear h Z E m s hx N;go_enter func128,ntmps128;go_wp2_with fail;refine(X.o _ Q.o).mono ?_;rintro e w1⟨rfl,u⟩;have z:=X1 ((Q.o.trans (u.mono Q.o.size)).alloc (XO Q.o.size u.size) (.cells #[.int .i64 x.kind,.int .i64 x.n,.string x.text,.int .i64 0] 220));have a6:=Xd HZ.o u.size;have F:=X1 (XM w1 (.cells #[.int .i64 x.kind,.int .i64 x.n,.string x.text,.int .i64 0] 220));have a:∀q,q<=w.heap.size+1->(w1.alloc (.cells #[.int .i64 x.kind,.int .i64 x.n,.string x.text,.int .i64 0] 220)).heap[q]?=((w.alloc (.cells #[.slice (some ⟨g,0,none⟩) 1 c] 118)).alloc (.cells #[.slice (some ⟨t,0,none⟩) 1 c'] 118)).heap[q]?:=fun q E=>(((X5 w1.heap.size w1).alloc (X4 _) _).block q (by omega)).trans (u.block q (A3 E HZ.o));have L:=X1 ((a w.heap.size (by omega)).trans J.o);have D:=X1 ((a (w.heap.size+1) (by omega)).trans K.o);have k3:=(RL D.o);have C:Hid (w1.heap.size<(w1.alloc (.cells #[.int .i64 x.kind,.int .i64 x.n,.string x.text,.int .i64 0] 220)).heap.size):=X1 (by simp);clear u a J K;go_wp2_with fail;refine(Y.o _ z.o).mono ?_;rintro e P⟨rfl,m⟩;have j:=X1 ((z.o.trans (m.mono z.o.size)).alloc (XO z.o.size m.size) (.cells #[.int .i64 y.kind,.int .i64 y.n,.string y.text,.int .i64 0] 220));have H:=X1 (XM P (.cells #[.int .i64 y.kind,.int .i64 y.n,.string y.text,.int .i64 0] 220));have a7:=m.size;have a:∀q,q<=w1.heap.size->(P.alloc (.cells #[.int .i64 y.kind,.int .i64 y.n,.string y.text,.int .i64 0] 220)).heap[q]?=(w1.alloc (.cells #[.int .i64 x.kind,.int .i64 x.n,.string x.text,.int .i64 0] 220)).heap[q]?:=fun q E=>(((X5 P.heap.size P).alloc (X4 _) _).block q (by have:=C.o;omega)).trans (m.block q (A3 E C.o));obtain⟨p0,p1,p2⟩:=AQ ((a w1.heap.size (X4 _)).trans F.o);obtain⟨q0,q1,q2⟩:=AQ H.o;have k2:=RL ((a w.heap.size (by omega)).trans L.o);have k3:=RL ((a (w.heap.size+1) (by omega)).trans D.o);have a4:=X1 k2;have I:=X1 k3;have a1:w.heap.size+1<(P.alloc (.cells #[.int .i64 y.kind,.int .i64 y.n,.string y.text,.int .i64 0] 220)).heap.size:=by rw[Xb];have:=C.o;omega
 clear m a F H L D;have k:=X1 (fun l e w=>X2r l e w);have d:Hid ((Fd.tn x).ord (Fd.tn y)=if x.kind≠y.kind then Vl.ZV (decide (x.kind<y.kind)) false else if x.kind=2\/x.kind=3 then Vl.YY x.n y.n else if x.kind=4 then Vl.WS x.text y.text else Vl.ZV (decide ((0:Nat)<0)) true):=X1 (HO.o.trans rfl);clear HO;have a3:=j;by_cases v:x.kind=y.kind
 .have a0:(x.kind !=y.kind)=false:=by simpa using v
  rw[X2 (fun h=>h v)]at d;rcases r.o with e|e|e|e
  .have t2:(x.kind==2)=false:=by simpa using(by omega:x.kind≠2)
   have t3:(x.kind==3)=false:=by simpa using(by omega:x.kind≠3)
   have t4:(x.kind==4)=false:=by simpa using(by omega:x.kind≠4)
   rw[X2 (by omega),X2 (by omega)]at d;clear v r e;go_wp2_with fail;refine(V.o _ j.o).mono ?_;rintro e w3⟨qa,rfl,s⟩;have B:=X1 (j.o.trans (s.mono j.o.size));have a2:=(s.cell (p:=⟨w.heap.size+1,0,none⟩) a1).trans I.o;clear s k2 k3;go_wp2_with fail;refine(W.o _ B.o).mono ?_;rintro e w4⟨qb,rfl,M⟩;have S:=X1 (B.o.trans (M.mono B.o.size));clear M a2;go_wp2_with fail;go_loopw[11] (fun v9 wr=>v9= .int .i64 0/\BL w wr) (fun _ _=>0)
   case atStart=>exact⟨rfl,S.o⟩
   case round=>
    obtain⟨rfl,A⟩:=hrel;go_wp2_with fail;refine(k.o _ _ _).mono ?_;rintro e w5⟨rfl,rfl⟩;go_wp2;go_ret;exact⟨Vl.Jy d.o.symm,A⟩
  .have t2:(x.kind==2)=true:=by simpa using e
   rw[X3 (.inl e)]at d;clear v r e;go_wp2_with fail;refine(k.o _ _ _).mono ?_;rintro e w5⟨rfl,rfl⟩;go_wp2;go_ret;exact⟨Vl.Jy d.o.symm,j.o⟩
  .have t2:(x.kind==2)=false:=by simpa using(by omega:x.kind≠2)
   have t3:(x.kind==3)=true:=by simpa using e
   rw[X3 (.inr e)]at d;clear v r e;go_wp2_with fail;refine(k.o _ _ _).mono ?_;rintro e w5⟨rfl,rfl⟩;go_wp2;go_ret;exact⟨Vl.Jy d.o.symm,j.o⟩
  .have t2:(x.kind==2)=false:=by simpa using(by omega:x.kind≠2)
   have t3:(x.kind==3)=false:=by simpa using(by omega:x.kind≠3)
   have t4:(x.kind==4)=true:=by simpa using e
   rw[X2 (by omega),X3 e]at d;clear v r e;go_wp2_with fail;refine(k.o _ _ _).mono ?_;rintro e w5⟨rfl,rfl⟩;go_wp2;go_ret;exact⟨Vl.Jy d.o.symm,j.o⟩
 .have a0:(x.kind !=y.kind)=true:=by simpa using v
  have a5:¬(x.kind=y.kind):=v;rw[X3 v]at d;clear r v;go_wp2_with fail;refine(k.o _ _ _).mono ?_;rintro e w5⟨rfl,rfl⟩;go_wp2;go_ret;exact⟨Vl.Jy d.o.symm,j.o⟩
def SV(o:Vl.Out)(n:Nat)(v:Value)(w':World):Prop:=(Fd.raw o=none/\v= .slice none 0 0)\/∃g c x,v= .slice (some ⟨g,0,none⟩) 1 c/\n<=g/\Fd.raw o=some x/\RC x/\AC w' g x
theorem SV.set{o:Vl.Out}{n a b i:Nat}{v u:Value}{w':World}(h:SV o n v w')(r:b<n)(q:a<=n):SV o a v (w'.setCell ⟨b,i,none⟩ u):=by
 rcases h with h|⟨g,c,x,d,j,k,l,m⟩
 .exact .inl h
 .exact .inr ⟨g,c,x,d,XO q j,k,l,m.set (by omega)⟩
def KR(o:Vl.Out)(w:World)(e:Ending)(w':World):Prop:=∃p m c s,e= .returned (.tuple #[.agg #[.slice p m c],.string s])/\SV o w.heap.size (.slice p m c) w'/\Below w.heap.size w w'
theorem RY{k n:Int}{s:ByteArray}(h:1<=k/\k<=4)(a:k≠2->k≠3->n=0)(c:k≠4->s=⟨#[]⟩):RC (Fd.cn k n s):=⟨h,rfl,rfl,a,c⟩
theorem J5{l:List UInt8}{s:ByteArray}{w w':World}(a:BL w w'):KR (.inl l) w (.returned (.tuple #[.agg #[.slice none 0 0],.string s])) w':=⟨none,0,0,s,rfl,.inl ⟨rfl,rfl⟩,a⟩
theorem V5{b:Bool}{g c:Nat}{s:ByteArray}{w w':World}(h:AC w' g (Fd.cn 2 (if b then 1 else 0) ⟨#[]⟩))(d:w.heap.size<=g)(a:BL w w'):KR (.inr (Vl.YT b)) w (.returned (.tuple #[av g c,.string s])) w':=⟨_,_,_,s,rfl,.inr ⟨g,c,_,rfl,d,rfl,RY ⟨by show(1:Int)<=2;decide,by show(2:Int)<=4;decide⟩ (fun h=>absurd rfl h) (fun _=>rfl),h⟩,a⟩
theorem Sg{n:Int}{g c:Nat}{s:ByteArray}{w w':World}(h:AC w' g (Fd.cn 3 n ⟨#[]⟩))(d:w.heap.size<=g)(a:BL w w'):KR (.inr (Vl.QF n)) w (.returned (.tuple #[av g c,.string s])) w':=⟨_,_,_,s,rfl,.inr ⟨g,c,_,rfl,d,rfl,RY ⟨by show(1:Int)<=3;decide,by show(3:Int)<=4;decide⟩ (fun _ h=>absurd rfl h) (fun _=>rfl),h⟩,a⟩
theorem Y2g{t:ByteArray}{g c:Nat}{s:ByteArray}{w w':World}(h:AC w' g (Fd.cn 4 0 t))(d:w.heap.size<=g)(a:BL w w'):KR (.inr (.mk 4 0 t [])) w (.returned (.tuple #[av g c,.string s])) w':=⟨_,_,_,s,rfl,.inr ⟨g,c,_,rfl,d,rfl,RY ⟨by show(1:Int)<=4;decide,by show(4:Int)<=4;decide⟩ (fun _ _=>rfl) (fun h=>absurd rfl h),h⟩,a⟩
theorem KR.vr{o:Vl.Out}{w:World}{e:Ending}{w':World}(h:KR o w e w'):∃p m c s r,e= .returned (.tuple #[.agg #[.slice p m c],.string s])/\VR w' (.agg #[.slice p m c]) r/\Fd.okC r=Fd.okC (Fd.raw o)/\Below w.heap.size w w':=by
 obtain⟨p,m,c,s,d,k,j⟩:=h;rcases k with⟨a,l⟩|⟨g,c',x,a,_,n,q,t⟩
 .cases l;exact⟨_,_,_,s,none,d,⟨none,0,0,rfl,by decide⟩,by rw[a],j⟩
 .cases a;exact⟨_,_,_,s,some x,d,⟨t.vat,q⟩,by rw[n],j⟩
structure UB (w:World) (va:Value) (W:World):Prop where
 B:Below w.heap.size w W
 a:W.cell? ⟨w.heap.size,0,none⟩=some va
 r:W.cell? ⟨w.heap.size+1,0,none⟩=some (.slice none 0 0)
 f:W.frozen? ⟨w.heap.size+1,0,none⟩=false
 z:w.heap.size+1<W.heap.size
theorem UB.start(w:World)(a:Value):UB w a ((w.alloc (.cells #[a] 118)).alloc (.cells #[.slice none 0 0] 118)):=by
 have c1:=Vl.KX w a 118;have c3:=Vl.KX (w.alloc (.cells #[a] 118)) (.slice none 0 0) 118;simp only[Xb]at c3;refine⟨(bA _).alloc (by simp) _,?_,c3.1,c3.2,by simp⟩;exact((bA (.cells #[.slice none 0 0] 118)).cell (p:=⟨w.heap.size,0,none⟩) (by simp)).trans c1.1
theorem UB.below{w W d:World}{g:Value}(h:UB w g W)(c:BL W d):UB w g d:=by
 have k:=h.z;have e:∀b,b<=w.heap.size+1->d.cell? ⟨b,0,none⟩=W.cell? ⟨b,0,none⟩:=fun b j=>c.cell (p:=⟨b,0,none⟩) (by show b<_;omega);exact⟨h.B.trans (c.mono h.B.size),(e _ (by omega)).trans h.a,(e _ (by omega)).trans h.r,(c.frozen (p:=⟨w.heap.size+1,0,none⟩) (by show w.heap.size+1<_;omega)).trans h.f,Xd k c.size⟩
theorem UB.set{w W:World}{a:Value}(h:UB w a W)(v:Value):Below w.heap.size w (W.setCell ⟨w.heap.size+1,0,none⟩ v):=h.B.setCell (p:=⟨w.heap.size+1,0,none⟩) (by show w.heap.size<=w.heap.size+1;omega) _
theorem Jr(b:Bool)(w:World):Calls prog 121 #[.bool b] w fun e w'=>∃g,e= .returned (av g 1)/\w.heap.size<=g/\AC w' g (Fd.cn 2 (if b then 1 else 0) ⟨#[]⟩)/\Below w.heap.size w w':=(Vl.AP b w).mono fun _ _ ⟨g,a,c,d,j⟩=>⟨g,c,a,If d,j⟩
theorem CA(n:Int)(w:World):Calls prog 122 #[.int .i64 n] w fun e w'=>∃g,e= .returned (av g 1)/\w.heap.size<=g/\AC w' g (Fd.cn 3 n ⟨#[]⟩)/\Below w.heap.size w w':=(Vl.QO n w).mono fun _ _ ⟨g,a,c,d,j⟩=>⟨g,c,a,If d,j⟩
theorem Y3s(s:ByteArray)(w:World):Calls prog 123 #[.string s] w fun e w'=>∃g,e= .returned (av g 1)/\w.heap.size<=g/\AC w' g (Fd.cn 4 0 s)/\Below w.heap.size w w':=(Vl.Ff s w).mono fun _ _ ⟨g,a,c,d,j⟩=>⟨g,c,a,If d,j⟩
theorem Y2j(op:Int)(a5:op=1\/op=2)(x:Nd)(N:Fd.CN x)(g c:Nat)(w:World)(h:AC w g x):Calls prog 68 #[.int .i64 op,av g c] w (KR (Vl.QX op (Fd.tn x)) w):=by
 have J:=X1 (fun(w':World) (V:BL w w')=>V9 x (.inl N) g c w' (h.below V));have P:=X1 (fun(w':World) (V:BL w w')=>Jt x g c w' (h.below V));have HL:=X1 (fun(w':World) (V:BL w w')=>Qu x g c w' (h.below V));have HF:=fun w=>Uf x.kind x.n 0 x.text w;have a7:=N.n0;have a8:=N.n1;have K:=N.bit;have hc:=N.c;have o0:=UB.start w (.slice (some ⟨g,0,none⟩) 1 c);have F:=X1 o0;have Q:=o0.a;have E:(op=1/\x.kind=2/\x.n=0)\/(op=1/\x.kind=2/\x.n=1)\/(op=1/\x.kind≠2)\/(op=2/\x.kind=3)\/(op=2/\x.kind≠3):=by
  rcases a5 with e|e
  .by_cases L:x.kind=2
   .rcases K L with h3|h3
    .exact .inl ⟨e,L,h3⟩
    .exact .inr (.inl ⟨e,L,h3⟩)
   .exact .inr (.inr (.inl ⟨e,L⟩))
  .by_cases L:x.kind=3
   .exact .inr (.inr (.inr (.inl ⟨e,L⟩)))
   .exact .inr (.inr (.inr (.inr ⟨e,L⟩)))
 have a6:Vl.QX op (Fd.tn x)=if op=1 then(if x.kind=2 then .inr (Vl.YT (!(x.n==1)))else .inl Vl.tyW)else if x.kind=3 then Vl.Qw (Vl.XL (0-x.n)) Vl.rgW else .inl Vl.tyW:=rfl;rw[a6];obtain⟨k,o,n,s,d⟩:=x;simp only at E a7 a8 K;clear h o0 N a5 a6 hc;rcases E with⟨rfl,rfl,rfl⟩|⟨rfl,rfl,rfl⟩|⟨rfl,hk⟩|⟨rfl,rfl⟩|⟨rfl,hk⟩
 .show Calls _ _ _ _ (KR (.inr (Vl.YT true)) w);go_enter func68,ntmps68;go_wp2_with fail;refine(J.o _ F.o.B).mono ?_;rintro e w1⟨rfl,j⟩;have t:=X1 (F.o.below j);have H:=t.o.a;clear j Q;go_wp2_with fail;refine(P.o _ t.o.B).mono ?_;rintro e w2⟨rfl,l⟩;have u:=X1 (t.o.below l);have I:=u.o.a;clear l H;go_wp2_with fail;refine(HL.o _ u.o.B).mono ?_;rintro e w3⟨rfl,m⟩;have C:=X1 (u.o.below m);clear m I;go_wp2_with fail;refine(Jr true _).mono ?_;rintro e w4⟨S,rfl,Z,A,q⟩;have y:=X1 (C.o.below q);have M:=y.o.r;have f4:=y.o.f;have D:=X1 A;have a9:=C.o.z;clear q A;go_wp2;refine X7 (v:= .tuple #[av S 1,.string ⟨#[]⟩]) (by simp[results,results68,go_sem,M]) rfl ?_;exact V5 (D.o.set (by omega)) (by have:=C.o.B.size;omega) (y.o.set _)
 .show Calls _ _ _ _ (KR (.inr (Vl.YT false)) w);go_enter func68,ntmps68;go_wp2_with fail;refine(J.o _ F.o.B).mono ?_;rintro e w1⟨rfl,j⟩;have t:=X1 (F.o.below j);have H:=t.o.a;clear j Q;go_wp2_with fail;refine(P.o _ t.o.B).mono ?_;rintro e w2⟨rfl,l⟩;have u:=X1 (t.o.below l);have I:=u.o.a;clear l H;go_wp2_with fail;refine(HL.o _ u.o.B).mono ?_;rintro e w3⟨rfl,m⟩;have C:=X1 (u.o.below m);clear m I;go_wp2_with fail;refine(Jr false _).mono ?_;rintro e w4⟨S,rfl,Z,A,q⟩;have y:=X1 (C.o.below q);have M:=y.o.r;have f4:=y.o.f;have D:=X1 A;have a9:=C.o.z;clear q A;go_wp2;refine X7 (v:= .tuple #[av S 1,.string ⟨#[]⟩]) (by simp[results,results68,go_sem,M]) rfl ?_;exact V5 (D.o.set (by omega)) (by have:=C.o.B.size;omega) (y.o.set _)
 .rw[X3 rfl,X2 hk];have tk:(k==2)=false:=by simpa using hk
  go_enter func68,ntmps68;go_wp2_with fail;refine(J.o _ F.o.B).mono ?_;rintro e w1⟨rfl,j⟩;have t:=X1 (F.o.below j);have H:=t.o.a;clear j Q;go_wp2_with fail;refine(P.o _ t.o.B).mono ?_;rintro e w2⟨rfl,l⟩;have u:=X1 (t.o.below l);have I:=u.o.a;clear l H;go_wp2_with fail;refine(J.o _ u.o.B).mono ?_;rintro e w3⟨rfl,m⟩;have C:=X1 (u.o.below m);clear m I;go_wp2_with fail;refine(noW _ _).mono ?_;rintro e w4⟨rfl,q⟩;have y:=X1 (C.o.below q);have M:=y.o.r;have f4:=y.o.f;clear q;go_wp2;refine X7 (v:= .tuple #[.agg #[.slice none 0 0],.string ⟨#[116,121,112,101]⟩]) (by simp[results,results68,go_sem,M]) rfl ?_;exact J5 (y.o.set _)
 .rw[X2 (by decide),X3 rfl];have Y:Vl.Qw (Vl.XL (0-n)) Vl.rgW= .inr (Vl.QF (-n)):=by
   unfold Vl.XL;rw[X3 (by omega),Int.zero_sub];rfl
  rw[Y];have tm:(n == -9223372036854775808)=false:=by simpa using(by omega:n≠ -9223372036854775808)
  have ew:IntKind.i64.wrap (-n)= -n:=by rw[Yt];omega
  go_enter func68,ntmps68;go_wp2_with fail;refine(J.o _ F.o.B).mono ?_;rintro e w1⟨rfl,j⟩;have t:=X1 (F.o.below j);have H:=t.o.a;clear j Q;go_wp2_with fail;refine(J.o _ t.o.B).mono ?_;rintro e w2⟨rfl,l⟩;have u:=X1 (t.o.below l);have I:=u.o.a;clear l H;go_wp2_with fail;refine(P.o _ u.o.B).mono ?_;rintro e w3⟨rfl,m⟩;have C:=X1 (u.o.below m);have a3:=C.o.a;clear m I;go_wp2_with fail;refine(HL.o _ C.o.B).mono ?_;rintro e w4⟨rfl,q⟩;have y:=X1 (C.o.below q);have a4:=y.o.a;clear q a3;go_wp2_with fail;refine(HL.o _ y.o.B).mono ?_;rintro e w5⟨rfl,W⟩;have O5:=X1 (y.o.below W);clear W a4;go_wp2_with fail;refine(CA _ _).mono ?_;rintro e w6⟨S,rfl,Z,A,X⟩;have O6:=X1 (O5.o.below X);have r6:=O6.o.r;have f6:=O6.o.f;have D:=X1 A;have b0:=O5.o.z;clear X A;go_wp2;refine X7 (v:= .tuple #[av S 1,.string ⟨#[]⟩]) (by simp[results,results68,go_sem,r6]) rfl ?_;exact Sg (D.o.set (by omega)) (by have:=O5.o.B.size;omega) (O6.o.set _)
 .rw[X2 (by decide),X2 hk];have tk:(k==3)=false:=by simpa using hk
  go_enter func68,ntmps68;go_wp2_with fail;refine(J.o _ F.o.B).mono ?_;rintro e w1⟨rfl,j⟩;have t:=X1 (F.o.below j);have H:=t.o.a;clear j Q;go_wp2_with fail;refine(J.o _ t.o.B).mono ?_;rintro e w2⟨rfl,l⟩;have u:=X1 (t.o.below l);have I:=u.o.a;clear l H;go_wp2_with fail;refine(P.o _ u.o.B).mono ?_;rintro e w3⟨rfl,m⟩;have C:=X1 (u.o.below m);clear m I;go_wp2_with fail;refine(noW _ _).mono ?_;rintro e w4⟨rfl,q⟩;have y:=X1 (C.o.below q);have M:=y.o.r;have f4:=y.o.f;clear q;go_wp2;refine X7 (v:= .tuple #[.agg #[.slice none 0 0],.string ⟨#[116,121,112,101]⟩]) (by simp[results,results68,go_sem,M]) rfl ?_;exact J5 (y.o.set _)
theorem X8k:(prog.info? 220).map (fun i=>(i.zero,i.size,i.bytes))=some (some (.agg #[.int .i64 0,.int .i64 0,.string ⟨#[]⟩,.int .i64 0]),4,40):=by kernel_rfl
theorem Y6f(t:ByteArray)(C:1000<t.size)(g c:Nat)(w:World)(h:AC w g (Fd.cn 4 0 t)):Calls prog 124 #[av g c] w fun e w'=>e= .returned (.bool false)/\Below w.heap.size w w':=by
 have n:∀w,AC w g (Fd.cn 4 0 t)->Calls prog 183 #[av g c,.int .i64 0] w fun e w'=>e= .returned (.bool false)/\BL w w':=by
  intro w h;have j:BL w (w.alloc (.cells #[.slice (some ⟨g,0,none⟩) 1 c] 118)):=bA _;have s:=X1 j;have r:=X1 (fun(w':World) (u:BL w w')=>We _ g c w' (h.below u));have l:=X1 (fun(w':World) (u:BL w w')=>Qu _ g c w' (h.below u));unfold agA Fd.cn at l;have v:Hid ((w.alloc (.cells #[.slice (some ⟨g,0,none⟩) 1 c] 118)).cell? ⟨w.heap.size,0,none⟩=some (.slice (some ⟨g,0,none⟩) 1 c)/\w.heap.size<(w.alloc (.cells #[.slice (some ⟨g,0,none⟩) 1 c] 118)).heap.size):=X1 ⟨by simp,by simp⟩;have B:¬((t.size:Int)<=1000):=by omega
  clear h j;go_enter func183,ntmps183;go_wp2_with fail;refine(r.o _ s.o).mono ?_;rintro e w1⟨q,rfl,a⟩;have d:=X1 (s.o.trans (a.mono s.o.size));have A:=(a.cell (p:=⟨w.heap.size,0,none⟩) v.o.2).trans v.o.1;clear a;go_wp2_with fail;refine(l.o _ d.o).mono ?_;rintro e D⟨rfl,m⟩;have k:=X1 (d.o.trans (m.mono d.o.size));clear m A;go_wp2;go_ret;exact⟨by first|rfl|exact Vl.Xf (Yb (by omega)),k.o.alloc k.o.size _⟩
 have j:BL w (w.alloc (.cells #[.slice (some ⟨g,0,none⟩) 1 c] 118)):=bA _;have z:=X1 (n _ (h.below j));clear h n;go_enter func124,ntmps124;go_wp2_with fail;refine z.o.mono ?_;rintro e w1⟨rfl,a⟩;have y:=X1 (j.trans (a.mono j.size));clear a;go_wp2;go_ret;exact⟨rfl,y.o⟩
theorem Y1k(t:ByteArray)(g c:Nat)(w:World)(h:AC w g (Fd.cn 4 0 t)):Calls prog 188 #[av g c] w (KR (if t.size<=1000 then .inr (.mk 4 0 t [])else .inl Vl.lgW) w):=by
 obtain⟨iN,hN,Q,P,N⟩:=Yk X8k;have HA:=X1 h;have H:=UB.start w (.slice (some ⟨g,0,none⟩) 1 c);have F:=X1 H;have a0:=H.a;by_cases E:t.size<=1000
 .rw[X3 E];have L:=X1 (fun(w':World) (S:BL w w')=>V9 _ (.inr ⟨rfl,rfl,E⟩) g c w' (h.below S));clear h H E;go_enter func188,ntmps188;go_wp2_with fail;refine(L.o _ F.o.B).mono ?_;rintro e w1⟨rfl,l⟩;have s:=X1 (F.o.below l);have X:=s.o.z;have y:=X1 (s.o.below ((X5 w1.heap.size w1).alloc (X4 _) (.cells #[] 220)));have a2:=y.o.a;have D:=XV (base:=w1.heap.size) (e:=220) (size:=4) w1 #[] 0 (X4 _) (X6 _) rfl;have k:=HA.o.below y.o.B;have K:Hid (∀j u,([.int .i64 4,.int .i64 0,.string t,.int .i64 0]:List Value)[j]?=some u->(w1.alloc (.cells #[] 220)).cell? ((⟨g,0,none⟩:Addr).add j)=some u):=X1 (fun j u m=>by
   rw[Vl.Vq,Xn]
   match j,m with
   | 0,m=>cases m;exact k.c0
   | 1,m=>cases m;exact k.c1
   | 2,m=>cases m;exact k.c2
   | 3,m=>cases m;exact k.c3
   | j+4,m=>cases m)
  clear l a0 k;go_wp2_with(at_builtin;refine Yg _ rfl _ _ 116 rfl w1.heap.size 220 iN _ 4 40 underlying116 hN Q P N rfl (by decide) (.slice (some ⟨w1.heap.size,0,none⟩) 0 0) 0 [] rfl D ⟨g,0,none⟩ 1 c [.int .i64 4,.int .i64 0,.string t,.int .i64 0] rfl rfl K.o (by intro z Y;simp only[Y6,ZA,Zy]at Y;rcases Y with rfl|rfl|rfl|rfl<;>rfl) (by unfold maxLen;omega) (by omega) (by simp) ?_)
  intro v3 Z d A W V;obtain⟨M,c3,rfl⟩:=Q3 d (by omega);have C:=d.lt M rfl;have n:Below w1.heap.size (w1.alloc (.cells #[] 220)) Z:=(X5 _ _).grown A (by simp) (fun q e=>by simp[Value.ownBlock]at e;omega);have r3:=(n.cell (p:=⟨w.heap.size+1,0,none⟩) (by show w.heap.size+1<_;omega)).trans y.o.r;have f3:=(n.frozen (p:=⟨w.heap.size+1,0,none⟩) (by show w.heap.size+1<_;omega)).trans y.o.f;have J:=X1 (y.o.B.trans (n.mono (XO (UF _) (GS (A3 (X4 _) X)))));have I:Hid (AC Z M (Fd.cn 4 0 t)):=X1 ⟨C.2,ZF (j:=0) d rfl,ZF (j:=1) d rfl,ZF (j:=2) d rfl,ZF (j:=3) d rfl⟩;clear d A W V n;go_wp2;refine X7 (v:= .tuple #[av M c3,.string ⟨#[]⟩]) (by simp[results,results188,go_sem,r3]) rfl ?_;exact Y2g (I.o.set (by omega)) (by omega) (J.o.setCell (p:=⟨w.heap.size+1,0,none⟩) (by show w.heap.size<=w.heap.size+1;omega) _)
 .rw[X2 E];have L:=X1 (fun(w':World) (S:BL w w')=>Y6f t (by omega) g c w' (h.below S));clear h H E;go_enter func188,ntmps188;go_wp2_with fail;refine(L.o _ F.o.B).mono ?_;rintro e w1⟨rfl,l⟩;have s:=X1 (F.o.below l);have r1:=s.o.r;have f1:=s.o.f;clear l;go_wp2;refine X7 (v:= .tuple #[.agg #[.slice none 0 0],.string ⟨#[108,97,114,103,101]⟩]) (by simp[results,results188,go_sem,r1]) rfl ?_;exact J5 (s.o.set _)
structure OB (w:World) (va vb:Value) (W:World):Prop where
 B:Below w.heap.size w W
 a:W.cell? ⟨w.heap.size,0,none⟩=some va
 b:W.cell? ⟨w.heap.size+1,0,none⟩=some vb
 r:W.cell? ⟨w.heap.size+1+1,0,none⟩=some (.slice none 0 0)
 f:W.frozen? ⟨w.heap.size+1+1,0,none⟩=false
 z:w.heap.size+1+1<W.heap.size
theorem OB.start(w:World)(a vb:Value):OB w a vb (((w.alloc (.cells #[a] 118)).alloc (.cells #[vb] 118)).alloc (.cells #[.slice none 0 0] 118)):=by
 have n1:∀(X:World) (o:Obj) (b:Nat),b<X.heap.size->(X.alloc o).cell? ⟨b,0,none⟩=X.cell? ⟨b,0,none⟩:=fun X o b c=>((X5 X.heap.size X).alloc (X4 _) o).cell (p:=⟨b,0,none⟩) c;have c1:=Vl.KX w a 118;have c2:=Vl.KX (w.alloc (.cells #[a] 118)) vb 118;have c3:=Vl.KX ((w.alloc (.cells #[a] 118)).alloc (.cells #[vb] 118)) (.slice none 0 0) 118;simp only[Xb]at c2 c3;refine⟨((bA _).alloc (by simp) _).alloc (by simp;omega) _,?_,?_,c3.1,c3.2,by simp⟩
 .rw[n1 _ _ _ (by simp;omega),n1 _ _ _ (by simp)];exact c1.1
 .rw[n1 _ _ _ (by simp)];exact c2.1
theorem OB.below{w W d:World}{g vb:Value}(h:OB w g vb W)(c:BL W d):OB w g vb d:=by
 have k:=h.z;have e:∀b,b<=w.heap.size+1+1->d.cell? ⟨b,0,none⟩=W.cell? ⟨b,0,none⟩:=fun b j=>c.cell (p:=⟨b,0,none⟩) (by show b<_;omega);exact⟨h.B.trans (c.mono h.B.size),(e _ (by omega)).trans h.a,(e _ (by omega)).trans h.b,(e _ (by omega)).trans h.r,(c.frozen (p:=⟨w.heap.size+1+1,0,none⟩) (by show w.heap.size+1+1<_;omega)).trans h.f,Xd k c.size⟩
theorem OB.drew{w W:World}{c vb:Value}(h:OB w c vb W):OB w c vb W.drew:=⟨h.B.drew,h.a,h.b,h.r,h.f,h.z⟩
theorem OB.set{w W:World}{a vb:Value}(h:OB w a vb W)(v:Value):Below w.heap.size w (W.setCell ⟨w.heap.size+1+1,0,none⟩ v):=h.B.setCell (p:=⟨w.heap.size+1+1,0,none⟩) (by show w.heap.size<=w.heap.size+1+1;omega) _
theorem X3f(s x:ByteArray):Lib.contains s.data.toList x.data.toList=Vl.Jc s x:=by
 have j:s.data.toList.length=s.size:=rfl;have c:x.data.toList.length=x.size:=rfl;rcases Lib.index_spec s.data.toList x.data.toList with⟨h,g⟩|⟨i,h,hi,d,_⟩
 .have e:Lib.contains s.data.toList x.data.toList=false:=by unfold Lib.contains;rw[h];rfl
  rw[e];refine(Eq.symm ?_);unfold Vl.Jc;rw[List.any_eq_false];intro i hi;rw[DE]at hi;unfold Vl.V6;by_cases a:i+x.size<=s.size
  .have:=g i (by omega);rw[Lib.occ_of_piece s x i a]at this;rw[this];simp
  .simp[a]
 .have e:Lib.contains s.data.toList x.data.toList=true:=by unfold Lib.contains;rw[h];simp
  have a:=Lib.index_room s.data.toList x.data.toList (by rw[h];omega);rw[h,j,c]at a;rw[e];refine(Vl.Cx (i:=i) ?_).symm;unfold Vl.V6;rw[Lib.occ_of_piece s x i (by omega)]at d;rw[d,YJ (by omega)];rfl
theorem X7f{t u:Vl.T}(h:t.kind=4)(a:u.kind=4):Vl.G8 t u= .inr (Vl.YT (Vl.Jc t.text u.text)):=by
 have e:Vl.VM Vl.DY t u= .inr (Vl.YT (Vl.Jc t.text u.text)):=by
  unfold Vl.VM Vl.DY;rw[X3 ⟨h,a⟩,X3f]
 unfold Vl.G8;simp only[Xu,Yc,e];rfl
theorem Cp{t u:Vl.T}(h:¬(t.kind=4/\u.kind=4)):Vl.G8 t u= .inl Vl.tyW:=by
 have e:Vl.VM Vl.DY t u= .inl Vl.tyW:=X2 h;unfold Vl.G8;simp only[Xu,Yc,e];rfl
theorem X0b{t u:Vl.T}(h:t.kind=3)(a:u.kind=3):Vl.UJ t u=Vl.Qw (Vl.XL (t.num+u.num)) Vl.rgW:=by
 have e:Vl.Uu Vl.Ig t u=Vl.Qw (Vl.XL (t.num+u.num)) Vl.rgW:=X3 ⟨h,a⟩;unfold Vl.UJ;simp only[Xu,Yc,e];cases Vl.XL (t.num+u.num)<;>rfl
theorem X0c{t u:Vl.T}(h:t.kind=4)(c:u.kind=4):Vl.UJ t u=if(t.text++u.text).size<=1000 then .inr (.mk 4 0 (t.text++u.text) [])else .inl Vl.lgW:=by
 have a:Vl.Uu Vl.Ig t u= .inl Vl.tyW:=X2 (fun e=>by omega);have e:Vl.VM Vl.Ik t u=if(t.text++u.text).size<=1000 then .inr (.mk 4 0 (t.text++u.text) [])else .inl Vl.lgW:=X3 ⟨h,c⟩;unfold Vl.UJ;simp only[Xu,Yc,e,a];split<;>rfl
theorem AB{t u:Vl.T}(h:¬(t.kind=3/\u.kind=3))(c:¬(t.kind=4/\u.kind=4)):Vl.UJ t u= .inl Vl.tyW:=by
 have a:Vl.Uu Vl.Ig t u= .inl Vl.tyW:=X2 h;have e:Vl.VM Vl.Ik t u= .inl Vl.tyW:=X2 c;unfold Vl.UJ;simp only[Xu,Yc,e,a];rfl
theorem Mn(x y:Nd)(hx:Fd.CN x)(hy:Fd.CN y)(g c P c':Nat)(w:World)(h:AC w g x)(h':AC w P y):Calls prog 129 #[av g c,av P c'] w (KR (Vl.G8 (Fd.tn x) (Fd.tn y)) w):=by
 have S:=X1 (fun(w':World) (H:BL w w')=>Jt x g c w' (h.below H));have X:=X1 (fun(w':World) (H:BL w w')=>Jt y P c' w' (h'.below H));have b4:=X1 (fun(w':World) (H:BL w w')=>Qu x g c w' (h.below H));have b5:=X1 (fun(w':World) (H:BL w w')=>Qu y P c' w' (h'.below H));have Q:=X1 (fun(w':World) (H:BL w w')=>We x g c w' (h.below H));have d0:=X1 (fun(w':World) (H:BL w w')=>We y P c' w' (h'.below H));have N:=X1 (OB.start w (.slice (some ⟨g,0,none⟩) 1 c) (.slice (some ⟨P,0,none⟩) 1 c'));have a0:=N.o.a;have b0:=N.o.b;have V:=hx.c;unfold Fd.isC at V;have F1:=fun w=>Mj x.kind x.n 0 x.text w;have F2:=fun w=>Mj y.kind y.n 0 y.text w;have a9:=X1 (fun w=>Vl.X8i x.text y.text w (by have:=hx.long;omega) (by have:=hy.long;omega));clear h h';by_cases h4:x.kind=4
 .have t4:(x.kind==4)=true:=by simpa using h4
  by_cases h5:y.kind=4
  .have t5:(y.kind==4)=true:=by simpa using h5
   have q:=X1 (X7f (t:=Fd.tn x) (u:=Fd.tn y) h4 h5);clear h4 h5 V hx hy;cases hI:Vl.Jc x.text y.text
   .go_enter func129,ntmps129;go_wp2_with fail;refine(Q.o _ N.o.B).mono ?_;rintro e w1⟨q1,rfl,j⟩;have s:=X1 (N.o.below j);have Y:=s.o.a;have b1:=s.o.b;clear j a0 b0;go_wp2_with fail;refine(S.o _ s.o.B).mono ?_;rintro e w2⟨rfl,k⟩;have C:=X1 (s.o.below k);have a2:=C.o.a;have b2:=C.o.b;clear k Y b1;go_wp2_with fail;refine(X.o _ C.o.B).mono ?_;rintro e w3⟨rfl,l⟩;have D:=X1 (C.o.below l);have a3:=D.o.a;have b3:=D.o.b;clear l a2 b2;go_wp2_with fail;go_region_held3 (fun w'=>w'.cell? ⟨w.heap.size,0,none⟩=some (.slice (some ⟨g,0,none⟩) 1 c)/\w'.cell? ⟨w.heap.size+1,0,none⟩=some (.slice (some ⟨P,0,none⟩) 1 c')) (go_keep) (first
     | (refine Vl.Dj rfl 126 (.tmp 23) 118 rfl (av g c) (agA x) (by simp[Act.eval]) f126 func126 (by kernel_rfl) (by kernel_rfl) _ (b4.o _ D.o.drew.B) ?_;intro w6 J;have m:=D.o.drew.below J;have Z:=m.a;have a5:=m.b)
     | (refine Vl.Dj rfl 126 (.tmp 26) 118 rfl (av P c') (agA y) (by simp[Act.eval]) f126 func126 (by kernel_rfl) (by kernel_rfl) _ (b5.o _ m.B) ?_;intro L K;have d:=m.below K;have a4:=d.a;have a6:=d.b)
     | (refine Z8 rfl 186 [.tmp 25,.tmp 28,.const (.int .i64 0)] _ rfl [.string x.text,.string y.text,.int .i64 0] (by simp[Act.eval]) f186 func186 (by kernel_rfl) (by kernel_rfl) (fun r w'=>∃z:Int,r= .int .i64 z/\decide (0<=z)=Vl.Jc x.text y.text/\L=w') ((a9.o L).mono (fun _ _ ⟨⟨z,y1,y2⟩,y3⟩=>⟨_,y1,z,rfl,y2,y3.symm⟩)) ?_;rintro r c9⟨z,rfl,a7,rfl⟩;have hz:¬0<=z:=by have hq:=a7;rw[hI]at hq;exact of_decide_eq_false hq)
     | (refine Z8 rfl 121 [.tmp 30] _ rfl [.bool false] (by first|(simp[Act.eval];done)|(simp[Act.eval];omega)) f121 func121 (by kernel_rfl) (by kernel_rfl) (fun r M=>∃A,r=av A 1/\L.heap.size<=A/\AC M A (Fd.cn 2 (if false then 1 else 0) ⟨#[]⟩)/\BL L M) ((Jr false L).mono (fun _ _ ⟨A,y1,y2,y3,y4⟩=>⟨_,y1,A,rfl,y2,y3,y4⟩)) ?_;rintro r M⟨A,rfl,b9,F,I⟩;have E:=d.below I;have a8:=E.a;have b8:=E.b;have r8:=E.r;have f8:=E.f;have s0:=(Zs M ⟨w.heap.size+1+1,0,none⟩ ⟨w.heap.size,0,none⟩ (.slice (some ⟨A,0,none⟩) 1 1) (by simp)).trans a8;have s1:=(Zs M ⟨w.heap.size+1+1,0,none⟩ ⟨w.heap.size+1,0,none⟩ (.slice (some ⟨A,0,none⟩) 1 1) (by simp)).trans b8))
    have c8:=d.z;have O8:=X1 E;have W:=X1 F;have b7:=d.B.size;clear s0 s1 a8 b8 m d J K I Z a5 a4 a6 F E;go_wp2;refine X7 (v:= .tuple #[av A 1,.string ⟨#[]⟩]) (by simp[results,results129,go_sem,r8]) rfl ?_;rw[q.o];show KR (.inr (Vl.YT (Vl.Jc x.text y.text))) _ _ _;rw[hI];exact V5 (W.o.set (by omega)) (by omega) (O8.o.set _)
   .go_enter func129,ntmps129;go_wp2_with fail;refine(Q.o _ N.o.B).mono ?_;rintro e w1⟨q1,rfl,j⟩;have s:=X1 (N.o.below j);have Y:=s.o.a;have b1:=s.o.b;clear j a0 b0;go_wp2_with fail;refine(S.o _ s.o.B).mono ?_;rintro e w2⟨rfl,k⟩;have C:=X1 (s.o.below k);have a2:=C.o.a;have b2:=C.o.b;clear k Y b1;go_wp2_with fail;refine(X.o _ C.o.B).mono ?_;rintro e w3⟨rfl,l⟩;have D:=X1 (C.o.below l);have a3:=D.o.a;have b3:=D.o.b;clear l a2 b2;go_wp2_with fail;go_region_held3 (fun w'=>w'.cell? ⟨w.heap.size,0,none⟩=some (.slice (some ⟨g,0,none⟩) 1 c)/\w'.cell? ⟨w.heap.size+1,0,none⟩=some (.slice (some ⟨P,0,none⟩) 1 c')) (go_keep) (first
     | (refine Vl.Dj rfl 126 (.tmp 23) 118 rfl (av g c) (agA x) (by simp[Act.eval]) f126 func126 (by kernel_rfl) (by kernel_rfl) _ (b4.o _ D.o.drew.B) ?_;intro w6 J;have m:=D.o.drew.below J;have Z:=m.a;have a5:=m.b)
     | (refine Vl.Dj rfl 126 (.tmp 26) 118 rfl (av P c') (agA y) (by simp[Act.eval]) f126 func126 (by kernel_rfl) (by kernel_rfl) _ (b5.o _ m.B) ?_;intro L K;have d:=m.below K;have a4:=d.a;have a6:=d.b)
     | (refine Z8 rfl 186 [.tmp 25,.tmp 28,.const (.int .i64 0)] _ rfl [.string x.text,.string y.text,.int .i64 0] (by simp[Act.eval]) f186 func186 (by kernel_rfl) (by kernel_rfl) (fun r w'=>∃z:Int,r= .int .i64 z/\decide (0<=z)=Vl.Jc x.text y.text/\L=w') ((a9.o L).mono (fun _ _ ⟨⟨z,y1,y2⟩,y3⟩=>⟨_,y1,z,rfl,y2,y3.symm⟩)) ?_;rintro r c9⟨z,rfl,a7,rfl⟩;have hz:0<=z:=by have hq:=a7;rw[hI]at hq;exact QR hq)
     | (refine Z8 rfl 121 [.tmp 30] _ rfl [.bool true] (by first|(simp[Act.eval];done)|(simp[Act.eval];omega)) f121 func121 (by kernel_rfl) (by kernel_rfl) (fun r M=>∃A,r=av A 1/\L.heap.size<=A/\AC M A (Fd.cn 2 (if true then 1 else 0) ⟨#[]⟩)/\BL L M) ((Jr true L).mono (fun _ _ ⟨A,y1,y2,y3,y4⟩=>⟨_,y1,A,rfl,y2,y3,y4⟩)) ?_;rintro r M⟨A,rfl,b9,F,I⟩;have E:=d.below I;have a8:=E.a;have b8:=E.b;have r8:=E.r;have f8:=E.f;have s0:=(Zs M ⟨w.heap.size+1+1,0,none⟩ ⟨w.heap.size,0,none⟩ (.slice (some ⟨A,0,none⟩) 1 1) (by simp)).trans a8;have s1:=(Zs M ⟨w.heap.size+1+1,0,none⟩ ⟨w.heap.size+1,0,none⟩ (.slice (some ⟨A,0,none⟩) 1 1) (by simp)).trans b8))
    have c8:=d.z;have O8:=X1 E;have W:=X1 F;have b7:=d.B.size;clear s0 s1 a8 b8 m d J K I Z a5 a4 a6 F E;go_wp2;refine X7 (v:= .tuple #[av A 1,.string ⟨#[]⟩]) (by simp[results,results129,go_sem,r8]) rfl ?_;rw[q.o];show KR (.inr (Vl.YT (Vl.Jc x.text y.text))) _ _ _;rw[hI];exact V5 (W.o.set (by omega)) (by omega) (O8.o.set _)
  .have t5:(y.kind==4)=false:=by simpa using h5
   have q:=X1 (Cp (t:=Fd.tn x) (u:=Fd.tn y) (fun e=>h5 e.2));rw[q.o];clear h4 h5 V hx hy;go_enter func129,ntmps129;go_wp2_with fail;refine(Q.o _ N.o.B).mono ?_;rintro e w1⟨q1,rfl,j⟩;have s:=X1 (N.o.below j);have Y:=s.o.a;have b1:=s.o.b;clear j a0 b0;go_wp2_with fail;refine(S.o _ s.o.B).mono ?_;rintro e w2⟨rfl,k⟩;have C:=X1 (s.o.below k);have a2:=C.o.a;have b2:=C.o.b;clear k Y b1;go_wp2_with fail;refine(X.o _ C.o.B).mono ?_;rintro e w3⟨rfl,l⟩;have D:=X1 (C.o.below l);have a3:=D.o.a;have b3:=D.o.b;clear l a2 b2;go_wp2_with fail;refine(noW _ _).mono ?_;rintro e w4⟨rfl,b6⟩;have O4:=X1 (D.o.below b6);have r4:=O4.o.r;have f4:=O4.o.f;clear b6;go_wp2;refine X7 (v:= .tuple #[.agg #[.slice none 0 0],.string ⟨#[116,121,112,101]⟩]) (by simp[results,results129,go_sem,r4]) rfl ?_;exact J5 (O4.o.set _)
 .have t4:(x.kind==4)=false:=by simpa using h4
  have t5:(x.kind==5)=false:=by simpa using(by omega:x.kind≠5)
  have t6:(x.kind==6)=false:=by simpa using(by omega:x.kind≠6)
  have q:=X1 (Cp (t:=Fd.tn x) (u:=Fd.tn y) (fun e=>h4 e.1));rw[q.o];clear h4 V hx hy;go_enter func129,ntmps129;go_wp2_with fail;refine(Q.o _ N.o.B).mono ?_;rintro e w1⟨q1,rfl,j⟩;have s:=X1 (N.o.below j);have Y:=s.o.a;have b1:=s.o.b;clear j a0 b0;go_wp2_with fail;refine(S.o _ s.o.B).mono ?_;rintro e w2⟨rfl,k⟩;have C:=X1 (s.o.below k);have a2:=C.o.a;have b2:=C.o.b;clear k Y b1;go_wp2_with fail;refine(noW _ _).mono ?_;rintro e w3⟨rfl,l⟩;have D:=X1 (C.o.below l);have r3:=D.o.r;have f3:=D.o.f;clear l;go_wp2;refine X7 (v:= .tuple #[.agg #[.slice none 0 0],.string ⟨#[116,121,112,101]⟩]) (by simp[results,results129,go_sem,r3]) rfl ?_;exact J5 (D.o.set _)
