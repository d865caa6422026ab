import Derived.Test.YtkoiikmhfaebnaaGreatDoorB40
set_option maxHeartbeats 1000000
set_option maxRecDepth 100000
namespace Go.Proofs.YtkoiikmhfaebnaaGreatDoor
open Tryz Go.RowKit
theorem W5{w w1:World}{o:Obj}(h:Below (w.alloc o).heap.size (w.alloc o) w1)(i:Nat)(v:Value):Below w.heap.size w (w1.setCell ⟨w.heap.size,i,none⟩ v):=((bA _).trans (h.mono (by simp))).setCell (by exact X4 _) v
theorem YG{w w1:World}{a b c d e:Value}{t:TypeId}(h:Below (w.alloc (.cells #[a,b,c,d,e] t)).heap.size (w.alloc (.cells #[a,b,c,d,e] t)) w1):w1.cell? ⟨w.heap.size,0,none⟩=some a/\w1.cell? ⟨w.heap.size,1,none⟩=some b/\w1.cell? ⟨w.heap.size,2,none⟩=some c/\w1.cell? ⟨w.heap.size,3,none⟩=some d/\w1.cell? ⟨w.heap.size,4,none⟩=some e/\w1.frozen? ⟨w.heap.size,3,none⟩=false:=by
 have g:w1.heap[w.heap.size]?=some (.cells #[a,b,c,d,e] t):=(h.block w.heap.size (by simp)).trans (XM w _);have j:w1.frozen? ⟨w.heap.size,3,none⟩=(w.alloc (.cells #[a,b,c,d,e] t)).frozen? ⟨w.heap.size,3,none⟩:=h.frozen (p:=⟨w.heap.size,3,none⟩) (by simp);refine⟨?_,?_,?_,?_,?_,?_⟩;all_goals first|(rw[World.cell?,g];rfl)|(rw[j];simp)
theorem TF(op n m:Int)(s:ByteArray):Xh ⟨2,op,n,s,m⟩=((n==0||n==1)&&(op==0)&&s.toList.isEmpty):=by
 rw[Y5];simp[Xh,XU,Xl];grind
theorem TJ(op n m:Int)(s:ByteArray):Xh ⟨3,op,n,s,m⟩=(decide (0<=n)&&(op==0)&&s.toList.isEmpty):=by
 rw[Y5];simp[Xh,XU,Xl];grind
theorem TM(op n m:Int)(s:ByteArray):Xh ⟨6,op,n,s,m⟩=((op==1||op==2)&&(n==0)&&s.toList.isEmpty):=by
 rw[Y5];simp[Xh,XU,Xl];grind
theorem TN(op n m:Int)(s:ByteArray):Xh ⟨7,op,n,s,m⟩=(decide (1<=op)&&decide (op<=14)&&(n==0)&&s.toList.isEmpty):=by
 rw[Y5];simp[Xh,XU,Xl];grind
theorem TK(op n m:Int)(s:ByteArray):Xh ⟨4,op,n,s,m⟩=(decide ((s.size:Int)<=1000)&&(op==0)&&(n==0)):=by
 rw[Y5];simp[Xh,XU,Xl];grind
theorem TC(op n m:Int)(s:ByteArray):Xh ⟨17,op,n,s,m⟩=(decide ((s.size:Int)<=1000)&&(op==0)&&(n==0)):=by
 rw[Y5];simp[Xh,XU,Xl];grind
theorem TI(op n m:Int)(s:ByteArray):Xh ⟨23,op,n,s,m⟩=(Uc s&&(op==0)&&(n==0)):=by
 rw[Y5];simp[Xh,XU,Xl];grind
theorem TL(op n m:Int)(s:ByteArray):Xh ⟨5,op,n,s,m⟩=(KT s&&(op==0)&&(n==0)):=by
 rw[Y5];simp[Xh,XU,Xl];grind
theorem Tx(op n m:Int)(s:ByteArray):Xh ⟨11,op,n,s,m⟩=(KT s&&(op==0)&&(n==0)):=by
 rw[Y5];simp[Xh,XU,Xl];grind
theorem Tz(op n m:Int)(s:ByteArray):Xh ⟨14,op,n,s,m⟩=(KT s&&(op==0)&&(n==0)):=by
 rw[Y5];simp[Xh,XU,Xl];grind
theorem TA(op n m:Int)(s:ByteArray):Xh ⟨16,op,n,s,m⟩=(KT s&&(op==0)&&(n==0)):=by
 rw[Y5];simp[Xh,XU,Xl];grind
theorem TD(op n m:Int)(s:ByteArray):Xh ⟨18,op,n,s,m⟩=(KT s&&(op==0)&&(n==0)):=by
 rw[Y5];simp[Xh,XU,Xl];grind
theorem TE(op n m:Int)(s:ByteArray):Xh ⟨19,op,n,s,m⟩=(KT s&&(op==0)&&(n==0)):=by
 rw[Y5];simp[Xh,XU,Xl];grind
theorem TG(op n m:Int)(s:ByteArray):Xh ⟨20,op,n,s,m⟩=(KT s&&(op==0)&&(n==0)):=by
 rw[Y5];simp[Xh,XU,Xl];grind
theorem TH(op n m:Int)(s:ByteArray):Xh ⟨21,op,n,s,m⟩=(KT s&&(op==0)&&(n==0)):=by
 rw[Y5];simp[Xh,XU,Xl];grind
theorem TO(k op n m:Int)(s:ByteArray)(h:XU k=false)(d:k≠2)(g:k≠3)(l:k≠6)(q:k≠7)(j:k≠4)(a:k≠17)(c:k≠23):Xh ⟨k,op,n,s,m⟩=((op==0)&&(n==0)&&s.toList.isEmpty):=by
 rw[Y5];simp[Xh,h,d,g,l,q,j,a,c];grind
theorem Y5v(op n m:Int)(s:ByteArray)(b:Nat)(w:World)(_hs:s.size<=1048576)(a:w.ownsMap (H:=Unit) prog 9 unitElem b 17 Sc.KM): Calls prog 85 #[.agg #[.int .i64 2,.int .i64 op,.int .i64 n,.string s,.int .i64 m],.map (some b)] w fun e w'=>e= .returned (.bool (Xh ⟨2,op,n,s,m⟩))/\Below w.heap.size w w':=by
 have d:=X1 a;have c:=X1 (TF op n m s);clear a;go_enter func85,ntmps85;go_wp2;all_goals
  go_ret;refine⟨Xf ?_,bA _⟩;rw[c.o];first|(simp[*];done)|(simp_all;done)|(simp_all;intros;omega)
theorem Y5z(op n m:Int)(s:ByteArray)(b:Nat)(w:World)(_hs:s.size<=1048576)(a:w.ownsMap (H:=Unit) prog 9 unitElem b 17 Sc.KM): Calls prog 85 #[.agg #[.int .i64 3,.int .i64 op,.int .i64 n,.string s,.int .i64 m],.map (some b)] w fun e w'=>e= .returned (.bool (Xh ⟨3,op,n,s,m⟩))/\Below w.heap.size w w':=by
 have d:=X1 a;have c:=X1 (TJ op n m s);clear a;go_enter func85,ntmps85;go_wp2;all_goals
  go_ret;refine⟨Xf ?_,bA _⟩;rw[c.o];first|(simp[*];done)|(simp_all;done)|(simp_all;intros;omega)
theorem Y6c(op n m:Int)(s:ByteArray)(b:Nat)(w:World)(_hs:s.size<=1048576)(a:w.ownsMap (H:=Unit) prog 9 unitElem b 17 Sc.KM): Calls prog 85 #[.agg #[.int .i64 6,.int .i64 op,.int .i64 n,.string s,.int .i64 m],.map (some b)] w fun e w'=>e= .returned (.bool (Xh ⟨6,op,n,s,m⟩))/\Below w.heap.size w w':=by
 have d:=X1 a;have c:=X1 (TM op n m s);clear a;go_enter func85,ntmps85;go_wp2;all_goals
  go_ret;refine⟨Xf ?_,bA _⟩;rw[c.o];first|(simp[*];done)|(simp_all;done)|(simp_all;intros;omega)
theorem Y6d(op n m:Int)(s:ByteArray)(b:Nat)(w:World)(_hs:s.size<=1048576)(a:w.ownsMap (H:=Unit) prog 9 unitElem b 17 Sc.KM): Calls prog 85 #[.agg #[.int .i64 7,.int .i64 op,.int .i64 n,.string s,.int .i64 m],.map (some b)] w fun e w'=>e= .returned (.bool (Xh ⟨7,op,n,s,m⟩))/\Below w.heap.size w w':=by
 have d:=X1 a;have c:=X1 (TN op n m s);clear a;go_enter func85,ntmps85;go_wp2;all_goals
  go_ret;refine⟨Xf ?_,bA _⟩;rw[c.o];first|(simp[*];done)|(simp_all;done)|(simp_all;intros;omega)
theorem Y6a(op n m:Int)(s:ByteArray)(b:Nat)(w:World)(_hs:s.size<=1048576)(a:w.ownsMap (H:=Unit) prog 9 unitElem b 17 Sc.KM): Calls prog 85 #[.agg #[.int .i64 4,.int .i64 op,.int .i64 n,.string s,.int .i64 m],.map (some b)] w fun e w'=>e= .returned (.bool (Xh ⟨4,op,n,s,m⟩))/\Below w.heap.size w w':=by
 have d:=X1 a;have c:=X1 (TK op n m s);clear a;go_enter func85,ntmps85;go_wp2;all_goals
  go_ret;refine⟨Xf ?_,bA _⟩;rw[c.o];first|(simp[*];done)|(simp_all;done)|(simp_all;intros;omega)
theorem Y5s(op n m:Int)(s:ByteArray)(b:Nat)(w:World)(_hs:s.size<=1048576)(a:w.ownsMap (H:=Unit) prog 9 unitElem b 17 Sc.KM): Calls prog 85 #[.agg #[.int .i64 17,.int .i64 op,.int .i64 n,.string s,.int .i64 m],.map (some b)] w fun e w'=>e= .returned (.bool (Xh ⟨17,op,n,s,m⟩))/\Below w.heap.size w w':=by
 have d:=X1 a;have c:=X1 (TC op n m s);clear a;go_enter func85,ntmps85;go_wp2;all_goals
  go_ret;refine⟨Xf ?_,bA _⟩;rw[c.o];first|(simp[*];done)|(simp_all;done)|(simp_all;intros;omega)
theorem Y5y(op n m:Int)(s:ByteArray)(b:Nat)(w:World)(d:s.size<=1048576)(a:w.ownsMap (H:=Unit) prog 9 unitElem b 17 Sc.KM): Calls prog 85 #[.agg #[.int .i64 23,.int .i64 op,.int .i64 n,.string s,.int .i64 m],.map (some b)] w fun e w'=>e= .returned (.bool (Xh ⟨23,op,n,s,m⟩))/\Below w.heap.size w w':=by
 have g:=X1 a;have c:=X1 (TI op n m s);clear a;go_enter func85,ntmps85;go_wp2_with(go_at_call 148;refine(X9f _ _ d).mono ?_;rintro e w'⟨rfl,rfl⟩);all_goals
  go_ret;refine⟨Xf ?_,bA _⟩;rw[c.o];first|(simp[*];done)|(simp_all;done)|(simp_all;intros;omega)
theorem Y6b(op n m:Int)(s:ByteArray)(b:Nat)(w:World)(j:s.size<=1048576)(c:w.ownsMap (H:=Unit) prog 9 unitElem b 17 Sc.KM): Calls prog 85 #[.agg #[.int .i64 5,.int .i64 op,.int .i64 n,.string s,.int .i64 m],.map (some b)] w fun e w'=>e= .returned (.bool (Xh ⟨5,op,n,s,m⟩))/\Below w.heap.size w w':=by
 have g:=X1 c;have d:=X1 (TL op n m s);clear c;go_enter func85,ntmps85;go_wp2_with(go_at_call 149;refine(Wd s b _ j (g.o.alloc _)).mono ?_;rintro e w1⟨rfl,a⟩;obtain⟨l,q,r,t,u,v⟩:=YG a;have k:w.heap.size<w1.heap.size:=Xd (by simp) a.size);all_goals
  go_ret;refine⟨Xf ?_,W5 a _ _⟩;rw[d.o];first|(simp[*];done)|(simp_all;done)|(simp_all;intros;omega)
theorem Y5p(op n m:Int)(s:ByteArray)(b:Nat)(w:World)(j:s.size<=1048576)(c:w.ownsMap (H:=Unit) prog 9 unitElem b 17 Sc.KM): Calls prog 85 #[.agg #[.int .i64 11,.int .i64 op,.int .i64 n,.string s,.int .i64 m],.map (some b)] w fun e w'=>e= .returned (.bool (Xh ⟨11,op,n,s,m⟩))/\Below w.heap.size w w':=by
 have g:=X1 c;have d:=X1 (Tx op n m s);clear c;go_enter func85,ntmps85;go_wp2_with(go_at_call 149;refine(Wd s b _ j (g.o.alloc _)).mono ?_;rintro e w1⟨rfl,a⟩;obtain⟨l,q,r,t,u,v⟩:=YG a;have k:w.heap.size<w1.heap.size:=Xd (by simp) a.size);all_goals
  go_ret;refine⟨Xf ?_,W5 a _ _⟩;rw[d.o];first|(simp[*];done)|(simp_all;done)|(simp_all;intros;omega)
theorem Y5q(op n m:Int)(s:ByteArray)(b:Nat)(w:World)(j:s.size<=1048576)(c:w.ownsMap (H:=Unit) prog 9 unitElem b 17 Sc.KM): Calls prog 85 #[.agg #[.int .i64 14,.int .i64 op,.int .i64 n,.string s,.int .i64 m],.map (some b)] w fun e w'=>e= .returned (.bool (Xh ⟨14,op,n,s,m⟩))/\Below w.heap.size w w':=by
 have g:=X1 c;have d:=X1 (Tz op n m s);clear c;go_enter func85,ntmps85;go_wp2_with(go_at_call 149;refine(Wd s b _ j (g.o.alloc _)).mono ?_;rintro e w1⟨rfl,a⟩;obtain⟨l,q,r,t,u,v⟩:=YG a;have k:w.heap.size<w1.heap.size:=Xd (by simp) a.size);all_goals
  go_ret;refine⟨Xf ?_,W5 a _ _⟩;rw[d.o];first|(simp[*];done)|(simp_all;done)|(simp_all;intros;omega)
theorem Y5r(op n m:Int)(s:ByteArray)(b:Nat)(w:World)(j:s.size<=1048576)(c:w.ownsMap (H:=Unit) prog 9 unitElem b 17 Sc.KM): Calls prog 85 #[.agg #[.int .i64 16,.int .i64 op,.int .i64 n,.string s,.int .i64 m],.map (some b)] w fun e w'=>e= .returned (.bool (Xh ⟨16,op,n,s,m⟩))/\Below w.heap.size w w':=by
 have g:=X1 c;have d:=X1 (TA op n m s);clear c;go_enter func85,ntmps85;go_wp2_with(go_at_call 149;refine(Wd s b _ j (g.o.alloc _)).mono ?_;rintro e w1⟨rfl,a⟩;obtain⟨l,q,r,t,u,v⟩:=YG a;have k:w.heap.size<w1.heap.size:=Xd (by simp) a.size);all_goals
  go_ret;refine⟨Xf ?_,W5 a _ _⟩;rw[d.o];first|(simp[*];done)|(simp_all;done)|(simp_all;intros;omega)
theorem Y5t(op n m:Int)(s:ByteArray)(b:Nat)(w:World)(j:s.size<=1048576)(c:w.ownsMap (H:=Unit) prog 9 unitElem b 17 Sc.KM): Calls prog 85 #[.agg #[.int .i64 18,.int .i64 op,.int .i64 n,.string s,.int .i64 m],.map (some b)] w fun e w'=>e= .returned (.bool (Xh ⟨18,op,n,s,m⟩))/\Below w.heap.size w w':=by
 have g:=X1 c;have d:=X1 (TD op n m s);clear c;go_enter func85,ntmps85;go_wp2_with(go_at_call 149;refine(Wd s b _ j (g.o.alloc _)).mono ?_;rintro e w1⟨rfl,a⟩;obtain⟨l,q,r,t,u,v⟩:=YG a;have k:w.heap.size<w1.heap.size:=Xd (by simp) a.size);all_goals
  go_ret;refine⟨Xf ?_,W5 a _ _⟩;rw[d.o];first|(simp[*];done)|(simp_all;done)|(simp_all;intros;omega)
theorem Y5u(op n m:Int)(s:ByteArray)(b:Nat)(w:World)(j:s.size<=1048576)(c:w.ownsMap (H:=Unit) prog 9 unitElem b 17 Sc.KM): Calls prog 85 #[.agg #[.int .i64 19,.int .i64 op,.int .i64 n,.string s,.int .i64 m],.map (some b)] w fun e w'=>e= .returned (.bool (Xh ⟨19,op,n,s,m⟩))/\Below w.heap.size w w':=by
 have g:=X1 c;have d:=X1 (TE op n m s);clear c;go_enter func85,ntmps85;go_wp2_with(go_at_call 149;refine(Wd s b _ j (g.o.alloc _)).mono ?_;rintro e w1⟨rfl,a⟩;obtain⟨l,q,r,t,u,v⟩:=YG a;have k:w.heap.size<w1.heap.size:=Xd (by simp) a.size);all_goals
  go_ret;refine⟨Xf ?_,W5 a _ _⟩;rw[d.o];first|(simp[*];done)|(simp_all;done)|(simp_all;intros;omega)
theorem Y5w(op n m:Int)(s:ByteArray)(b:Nat)(w:World)(j:s.size<=1048576)(c:w.ownsMap (H:=Unit) prog 9 unitElem b 17 Sc.KM): Calls prog 85 #[.agg #[.int .i64 20,.int .i64 op,.int .i64 n,.string s,.int .i64 m],.map (some b)] w fun e w'=>e= .returned (.bool (Xh ⟨20,op,n,s,m⟩))/\Below w.heap.size w w':=by
 have g:=X1 c;have d:=X1 (TG op n m s);clear c;go_enter func85,ntmps85;go_wp2_with(go_at_call 149;refine(Wd s b _ j (g.o.alloc _)).mono ?_;rintro e w1⟨rfl,a⟩;obtain⟨l,q,r,t,u,v⟩:=YG a;have k:w.heap.size<w1.heap.size:=Xd (by simp) a.size);all_goals
  go_ret;refine⟨Xf ?_,W5 a _ _⟩;rw[d.o];first|(simp[*];done)|(simp_all;done)|(simp_all;intros;omega)
theorem Y5x(op n m:Int)(s:ByteArray)(b:Nat)(w:World)(j:s.size<=1048576)(c:w.ownsMap (H:=Unit) prog 9 unitElem b 17 Sc.KM): Calls prog 85 #[.agg #[.int .i64 21,.int .i64 op,.int .i64 n,.string s,.int .i64 m],.map (some b)] w fun e w'=>e= .returned (.bool (Xh ⟨21,op,n,s,m⟩))/\Below w.heap.size w w':=by
 have g:=X1 c;have d:=X1 (TH op n m s);clear c;go_enter func85,ntmps85;go_wp2_with(go_at_call 149;refine(Wd s b _ j (g.o.alloc _)).mono ?_;rintro e w1⟨rfl,a⟩;obtain⟨l,q,r,t,u,v⟩:=YG a;have k:w.heap.size<w1.heap.size:=Xd (by simp) a.size);all_goals
  go_ret;refine⟨Xf ?_,W5 a _ _⟩;rw[d.o];first|(simp[*];done)|(simp_all;done)|(simp_all;intros;omega)
theorem Y6e(k op n m:Int)(s:ByteArray)(b:Nat)(w:World)(h:XU k=false)(c:k≠2)(d:k≠3)(g:k≠6)(j:k≠7): Calls prog 85 #[.agg #[.int .i64 k,.int .i64 op,.int .i64 n,.string s,.int .i64 m],.map (some b)] w fun e w'=>e= .returned (.bool (Xh ⟨k,op,n,s,m⟩))/\Below w.heap.size w w':=by
 have a:k≠4/\k≠5/\k≠11/\k≠14/\k≠16/\k≠17/\k≠18/\k≠19/\k≠20/\k≠21/\k≠23:=by
  simp[XU,Xl]at h;omega
 have l:=X1 (TO k op n m s h c d g j a.1 a.2.2.2.2.2.1 a.2.2.2.2.2.2.2.2.2.2);have C:(k==2)=false:=by simp;omega
 have D:(k==3)=false:=by simp;omega
 have H:(k==6)=false:=by simp;omega
 have I:(k==7)=false:=by simp;omega
 have E:(k==4)=false:=by simp;omega
 have u:(k==17)=false:=by simp;omega
 have B:(k==23)=false:=by simp;omega
 have F:(k==5)=false:=by simp;omega
 have q:(k==11)=false:=by simp;omega
 have r:(k==14)=false:=by simp;omega
 have t:(k==16)=false:=by simp;omega
 have v:(k==18)=false:=by simp;omega
 have y:(k==19)=false:=by simp;omega
 have z:(k==20)=false:=by simp;omega
 have A:(k==21)=false:=by simp;omega
 clear h c d g j a;go_enter func85,ntmps85;go_wp2;all_goals
  go_ret;refine⟨Xf ?_,bA _⟩;rw[l.o];first|(simp[*];done)|(simp_all;done)|(simp_all;intros;omega)
theorem Sz(k op n m:Int)(s:ByteArray)(b:Nat)(w:World)(c:s.size<=1048576)(a:w.ownsMap (H:=Unit) prog 9 unitElem b 17 Sc.KM): Calls prog 85 #[.agg #[.int .i64 k,.int .i64 op,.int .i64 n,.string s,.int .i64 m],.map (some b)] w fun e w'=>e= .returned (.bool (Xh ⟨k,op,n,s,m⟩))/\Below w.heap.size w w':=by
 by_cases y:k=2
 .subst y;exact Y5v op n m s b w c a
 by_cases z:k=3
 .subst z;exact Y5z op n m s b w c a
 by_cases A:k=6
 .subst A;exact Y6c op n m s b w c a
 by_cases B:k=7
 .subst B;exact Y6d op n m s b w c a
 by_cases C:k=4
 .subst C;exact Y6a op n m s b w c a
 by_cases l:k=17
 .subst l;exact Y5s op n m s b w c a
 by_cases v:k=23
 .subst v;exact Y5y op n m s b w c a
 by_cases D:k=5
 .subst D;exact Y6b op n m s b w c a
 by_cases d:k=11
 .subst d;exact Y5p op n m s b w c a
 by_cases g:k=14
 .subst g;exact Y5q op n m s b w c a
 by_cases j:k=16
 .subst j;exact Y5r op n m s b w c a
 by_cases q:k=18
 .subst q;exact Y5t op n m s b w c a
 by_cases r:k=19
 .subst r;exact Y5u op n m s b w c a
 by_cases t:k=20
 .subst t;exact Y5w op n m s b w c a
 by_cases u:k=21
 .subst u;exact Y5x op n m s b w c a
 exact Y6e k op n m s b w (by simp[XU,Xl];omega) y z A B
theorem KV{w w1:World}{o:Obj}(h:Below (w.alloc o).heap.size (w.alloc o) w1):Below w.heap.size w w1:=(bA _).trans (h.mono (by simp))
theorem LJ(l:List Gr):YE 12 l=(XY 1 16 (l.take (Kl l))&&XY 18 18 (l.drop (Kl l))&&Qn (l.drop (Kl l))):=rfl
theorem Nz(k:Int)(l:List Gr)(h:k=15\/k=20):YE k l=(XY 19 19 (l.take (l.length-1))&&XY 1 16 (l.drop (l.length-1))):=by
 rcases h with rfl|rfl<;>rfl
theorem NC(k:Int)(l:List Gr)(m:k≠9)(a:k≠12)(g:k≠15)(j:k≠20)(c:k≠23)(d:k≠24):YE k l=XY 1 16 l:=by
 unfold YE;rw[X2 m,X2 a,X2 (by omega),X2 c,X2 d]
theorem X9r(op n m:Int)(s:ByteArray)(l:List Gr)(g o c:Nat)(w:World)(I:l.length<=1048576)(Z:1<=l.length)(A:l.length<=c)(Q:∀x∈l,x.nd.text.size<=1048576)(W:KN w g o l): Calls prog 87 #[.agg #[.int .i64 12,.int .i64 op,.int .i64 n,.string s,.int .i64 m],.slice (some ⟨g,o,none⟩) l.length c] w fun e w'=>e= .returned (.bool (YE 12 l))/\Below w.heap.size w w':=by
 have J:=X1 (W.below (bA (.cells #[.int .i64 12,.int .i64 op,.int .i64 n,.string s,.int .i64 m] 48)));have Y:=X1 Q;clear Q W;go_enter func87,ntmps87;go_wp2;go_loop[5] (fun t=>∃p:Nat,1<=p/\p<=l.length/\t= .int .i64 p/\Kl l=p+((l.drop p).takeWhile fun g=>g.nd.kind !=18).length) (fun t=>l.length-(intOf t).toNat)
 case atStart=>exact⟨1,X4 _,Z,rfl,rfl⟩
 case round=>
  obtain⟨p,a0,V,rfl,P⟩:=hrel;have C:=X1 P;clear P;have j:=X1 (J.o.Fc V A);have k:=X1 (J.o.PN (n:=l.length-p) V A rfl);have y:(l.take p).length<=1048576:=by rw[YM];omega
  have v:(l.drop p).length<=1048576:=by rw[YA];omega
  have D:Hid (∀x∈l.drop p,x.nd.text.size<=1048576):=X1 fun x hx=>Y.o x (KQ hx);have L:((l.length-p:Nat):Int)=(l.length:Int)-p:=by omega
  by_cases E:p<l.length
  .obtain⟨c0,c1,c2,c3,c4,c5⟩:=J.o.2 p E;have F:=X1 (Zp E);cases S:(l[p].nd.kind !=18)
   .have z:=X1 (show Kl l=p by rw[C.o,F.o,DF,S];simp);generalize l[p].nd.kind=kp at *;clear C F;cases u:XY 1 16 (l.take p)
    .go_wp2_with fail;refine(QG (l.take p) _ 1 16 _ y j.o).mono ?_;rintro e w1⟨rfl,a⟩;go_wp2;go_ret;exact⟨Xf (by rw[LJ,z.o,u];rfl),KV a⟩
    .cases N:XY 18 18 (l.drop p)
     .go_wp2_with fail;refine(QG (l.take p) _ 1 16 _ y j.o).mono ?_;rintro e w1⟨rfl,a⟩;go_wp2_with fail;refine(QG (l.drop p) _ 18 18 _ v ((k.o _ (.inl rfl)).below a)).mono ?_;rintro e M⟨rfl,d⟩;go_wp2;go_ret;exact⟨Xf (by rw[LJ,z.o,u,N];rfl),(KV a).trans (d.mono (KV a).size)⟩
     .go_wp2_with fail;refine(QG (l.take p) _ 1 16 _ y j.o).mono ?_;rintro e w1⟨rfl,a⟩;go_wp2_with fail;refine(QG (l.drop p) _ 18 18 _ v ((k.o _ (.inl rfl)).below a)).mono ?_;rintro e M⟨rfl,d⟩;go_wp2_with fail;refine(Fh (l.drop p) _ _ v D.o (((k.o _ (.inl rfl)).below a).below d)).mono ?_;rintro e X⟨rfl,q⟩;go_wp2;go_ret;have B:=(KV a).trans (d.mono (KV a).size);exact⟨Xf (by rw[LJ,z.o,u,N];rfl),B.trans (q.mono B.size)⟩
   .have z:=X1 (show Kl l=(p+1)+((l.drop (p+1)).takeWhile fun g=>g.nd.kind !=18).length by rw[C.o,F.o,DF,S];simp;omega);generalize l[p].nd.kind=kp at *;clear C F j k;go_wp2;go_round
    case rel=>exact⟨p+1,by omega,by omega,by go_num,z.o⟩
    case measure=>simp[intOf];omega
  .have z:=X1 (show Kl l=p by rw[C.o,Yu (by omega)];rfl);clear C k D;obtain rfl:p=l.length:=by omega
   have H:Hid (YE 12 l=XY 1 16 l):=X1 (by
    rw[LJ,z.o,JG,List.drop_length];rw[show XY 18 18 []=true from rfl,show Qn []=true from rfl];simp)
   have r:Hid (GrV (w.alloc (.cells #[.int .i64 12,.int .i64 op,.int .i64 n,.string s,.int .i64 m] 48)) (.slice (some ⟨g,o,none⟩) l.length c) l):=X1 (by have:=j.o;rwa[JG]at this);clear j z L y v;by_cases K:c=l.length
   .subst K;cases u:XY 1 16 l
    .go_wp2_with fail;refine(QG l _ 1 16 _ I r.o).mono ?_;rintro e w1⟨rfl,a⟩;go_wp2;go_ret;exact⟨Xf (by rw[H.o,u]),KV a⟩
    .go_wp2_with fail;refine(QG l _ 1 16 _ I r.o).mono ?_;rintro e w1⟨rfl,a⟩;go_wp2_with fail;refine(Rp _ _ 18 18 _).mono ?_;rintro e M⟨rfl,d⟩;go_wp2_with fail;refine(So _ _ _).mono ?_;rintro e X⟨rfl,q⟩;go_wp2;go_ret;have B:=(KV a).trans (d.mono (KV a).size);exact⟨Xf (by rw[H.o,u]),B.trans (q.mono B.size)⟩
   .cases u:XY 1 16 l
    .go_wp2_with fail;refine(QG l _ 1 16 _ I r.o).mono ?_;rintro e w1⟨rfl,a⟩;go_wp2;go_ret;exact⟨Xf (by rw[H.o,u]),KV a⟩
    .go_wp2_with fail;refine(QG l _ 1 16 _ I r.o).mono ?_;rintro e w1⟨rfl,a⟩;go_wp2_with fail;refine(Rp _ _ 18 18 _).mono ?_;rintro e M⟨rfl,d⟩;go_wp2_with fail;refine(So _ _ _).mono ?_;rintro e X⟨rfl,q⟩;go_wp2;go_ret;have B:=(KV a).trans (d.mono (KV a).size);exact⟨Xf (by rw[H.o,u]),B.trans (q.mono B.size)⟩
theorem X9t(k op n m:Int)(s:ByteArray)(l:List Gr)(g o c:Nat)(w:World)(A:k=15\/k=20)(E:l.length<=1048576)(D:1<=l.length)(d:l.length<=c)(B:KN w g o l): Calls prog 87 #[.agg #[.int .i64 k,.int .i64 op,.int .i64 n,.string s,.int .i64 m],.slice (some ⟨g,o,none⟩) l.length c] w fun e w'=>e= .returned (.bool (YE k l))/\Below w.heap.size w w':=by
 have t:=X1 (Nz k l A);have u:=X1 (B.below (bA (.cells #[.int .i64 k,.int .i64 op,.int .i64 n,.string s,.int .i64 m] 48)));obtain⟨p,C⟩:∃p,l.length=p+1:=⟨l.length-1,by omega⟩;have j:=X1 (u.o.Fc (c:=c) (p:=p) (by omega) d);have r:=X1 (u.o.PN (c:=c) (n:=1) (p:=p) (by omega) d (by omega));have q:(l.take p).length<=1048576:=by rw[YM];omega
 have y:(l.drop p).length<=1048576:=by rw[YA];omega
 rw[C,Lx]at t;clear B u;rcases A with rfl|rfl;all_goals
  cases z:XY 19 19 (l.take p)
  .go_enter func87,ntmps87;go_wp2_with fail;refine(QG (l.take p) _ 19 19 _ q j.o).mono ?_;rintro e w1⟨rfl,a⟩;go_wp2;go_ret;exact⟨Xf (by rw[t.o,z];rfl),KV a⟩
  .go_enter func87,ntmps87;go_wp2_with fail;refine(QG (l.take p) _ 19 19 _ q j.o).mono ?_;rintro e w1⟨rfl,a⟩;go_wp2_with fail;refine(QG (l.drop p) _ 1 16 _ y ((r.o _ (.inl rfl)).below a)).mono ?_;rintro e F⟨rfl,v⟩;go_wp2;go_ret;exact⟨Xf (by rw[t.o,z];rfl),(KV a).trans (v.mono (KV a).size)⟩
theorem X9s(op n m:Int)(s:ByteArray)(l:List Gr)(v:Value)(w:World)(g:l.length<=1048576)(k:∀x∈l,x.nd.text.size<=1048576)(q:GrV w v l): Calls prog 87 #[.agg #[.int .i64 9,.int .i64 op,.int .i64 n,.string s,.int .i64 m],v] w fun e w'=>e= .returned (.bool (YE 9 l))/\Below w.heap.size w w':=by
 have c:=X1 (q.below (bA (.cells #[.int .i64 9,.int .i64 op,.int .i64 n,.string s,.int .i64 m] 48)));have r:=X1 k;clear k q;cases j:XY 17 17 l
 .go_enter func87,ntmps87;go_wp2_with fail;refine(QG l _ 17 17 _ g c.o).mono ?_;rintro e w1⟨rfl,a⟩;go_wp2;go_ret;exact⟨Xf (by rw[show YE 9 l=(XY 17 17 l&&Qn l)from rfl,j];rfl),KV a⟩
 .go_enter func87,ntmps87;go_wp2_with fail;refine(QG l _ 17 17 _ g c.o).mono ?_;rintro e w1⟨rfl,a⟩;go_wp2_with fail;refine(Fh l _ _ g r.o (c.o.below a)).mono ?_;rintro e t⟨rfl,d⟩;go_wp2;go_ret;exact⟨Xf (by rw[show YE 9 l=(XY 17 17 l&&Qn l)from rfl,j];rfl),(KV a).trans (d.mono (KV a).size)⟩
theorem X9u(k op n m:Int)(s:ByteArray)(l:List Gr)(v:Value)(w:World)(t:l.length<=1048576)(u:GrV w v l)(z:k≠9)(j:k≠12)(q:k≠15)(r:k≠20): Calls prog 87 #[.agg #[.int .i64 k,.int .i64 op,.int .i64 n,.string s,.int .i64 m],v] w fun e w'=>e= .returned (.bool (YE k l))/\Below w.heap.size w w':=by
 have g:=X1 (u.below (bA (.cells #[.int .i64 k,.int .i64 op,.int .i64 n,.string s,.int .i64 m] 48)));clear u;by_cases c:k=23
 .subst c;go_enter func87,ntmps87;go_wp2_with fail;refine(QG l _ 5 5 _ t g.o).mono ?_;rintro e w1⟨rfl,a⟩;go_wp2;go_ret;exact⟨rfl,KV a⟩
 .by_cases d:k=24
  .subst d;go_enter func87,ntmps87;go_wp2_with fail;refine(QG l _ 20 23 _ t g.o).mono ?_;rintro e w1⟨rfl,a⟩;go_wp2;go_ret;exact⟨rfl,KV a⟩
  .have y:=X1 (NC k l z j q r c d);have F:(k==9)=false:=by simp;omega
   have A:(k==12)=false:=by simp;omega
   have B:(k==15)=false:=by simp;omega
   have C:(k==20)=false:=by simp;omega
   have D:(k==23)=false:=by simp;omega
   have E:(k==24)=false:=by simp;omega
   go_enter func87,ntmps87;go_wp2_with fail;refine(QG l _ 1 16 _ t g.o).mono ?_;rintro e w1⟨rfl,a⟩;go_wp2;go_ret;exact⟨Xf y.o.symm,KV a⟩
theorem Rn(k op n m:Int)(s:ByteArray)(l:List Gr)(v:Value)(w:World)(d:l.length<=1048576)(z:k=12\/k=15\/k=20->1<=l.length)(y:∀x∈l,x.nd.text.size<=1048576)(q:GrV w v l): Calls prog 87 #[.agg #[.int .i64 k,.int .i64 op,.int .i64 n,.string s,.int .i64 m],v] w fun e w'=>e= .returned (.bool (YE k l))/\Below w.heap.size w w':=by
 by_cases r:k=9
 .subst r;exact X9s op n m s l v w d y q
 by_cases A:k=12\/k=15\/k=20
 .have a:=z A;rcases q with⟨p,c,_,rfl⟩|⟨g,o,c,rfl,t,u⟩
  .simp at a
  .by_cases j:k=12
   .subst j;exact X9r op n m s l g o c w d a t y u
   .exact X9t k op n m s l g o c w (by omega) d a t u
 .exact X9u k op n m s l v w d q r (by omega) (by omega) (by omega)
def Gr.cells(x:Gr):List Value:=[.int .i64 x.nd.kind,.int .i64 x.nd.op,.int .i64 x.nd.n,.string x.nd.text,.int .i64 x.nd.kids,.int .i64 x.high]
def YN(l:List Gr):List Value:=l.flatMap Gr.cells
theorem Am(l:List Gr)(m:Nat):(YN l).take (m*6)=YN (l.take m):=by
 induction l generalizing m with
 | nil=>simp[YN]
 | cons x r a=>
  cases m with
  | zero=>simp[YN]
  | succ m=>
   rw[show YN (x::r)=x.cells++YN r from rfl,UE,show YN (x::r.take m)=x.cells++YN (r.take m)from rfl,←a m,List.take_append,show x.cells.length=6 from rfl,U7 (by rw[show x.cells.length=6 from rfl];omega)];congr 2;omega
theorem NM(l:List Gr)(i:Nat)(h:i<l.length):(YN l)[i*6]?=some (.int .i64 l[i].nd.kind)/\(YN l)[i*6+1]?=some (.int .i64 l[i].nd.op)/\(YN l)[i*6+2]?=some (.int .i64 l[i].nd.n)/\(YN l)[i*6+3]?=some (.string l[i].nd.text)/\(YN l)[i*6+4]?=some (.int .i64 l[i].nd.kids)/\(YN l)[i*6+5]?=some (.int .i64 l[i].high):=by
 induction l generalizing i with
 | nil=>simp at h
 | cons x r c=>
  rw[show YN (x::r)=x.cells++YN r from rfl]
  match i,h with
  | 0,_=>simp[Gr.cells]
  | i+1,h=>
   have:=c i (by simpa using h);have a:x.cells.length=6:=rfl;refine⟨?_,?_,?_,?_,?_,?_⟩;all_goals rw[K6 (by omega),a]
   .rw[show(i+1)*6-6=i*6 from by omega];exact this.1
   .rw[show(i+1)*6+1-6=i*6+1 from by omega];exact this.2.1
   .rw[show(i+1)*6+2-6=i*6+2 from by omega];exact this.2.2.1
   .rw[show(i+1)*6+3-6=i*6+3 from by omega];exact this.2.2.2.1
   .rw[show(i+1)*6+4-6=i*6+4 from by omega];exact this.2.2.2.2.1
   .rw[show(i+1)*6+5-6=i*6+5 from by omega];exact this.2.2.2.2.2
theorem Cn{w:World}{base:Nat}{e:TypeId}{g a:Nat}{l:List Gr}(h:w.ownsRow base e 6 (.slice (some ⟨g,0,none⟩) l.length a) l.length (YN l)):KN w g 0 l:=by
 refine⟨(Qx h).2.2,fun i hi=>?_⟩;obtain⟨c,d,j,k,m,n⟩:=NM l i hi;simp only[Xn];exact⟨(h.cellAt (i*6) (by omega)).trans c,(h.cellAt (i*6+1) (by omega)).trans d,(h.cellAt (i*6+2) (by omega)).trans j,(h.cellAt (i*6+3) (by omega)).trans k,(h.cellAt (i*6+4) (by omega)).trans m,(h.cellAt (i*6+5) (by omega)).trans n⟩
theorem ES{w:World}{base size:Nat}{e:TypeId}{g n a:Nat}{l:List Value}(h:w.ownsRow base e size (.slice (some ⟨g,0,none⟩) n a) n l)(m:Nat)(u:m<=n):w.ownsRow base e size (.slice (some ⟨g,0,none⟩) m a) m (l.take (m*size)):=by
 obtain⟨q,d⟩:=h;have j:m*size<=n*size:=DH _ u;refine⟨by rw[YM,q];omega,.inr ?_⟩;rcases d with⟨d,_⟩|⟨A,k,c,z,r,t,B,s,v,y⟩
 .cases d
 .cases z;refine⟨g,a,c,rfl,r,t,by omega,s,v,?_⟩;rw[←y,Lu,QL j]
theorem Gk{w w1:World}{base:Nat}{e:TypeId}{size:Nat}{v:Value}{n:Nat}{c:List Value}(h:w.ownsRow base e size v n c)(a:BL w w1):w1.ownsRow base e size v n c:=by
 have d:w.grownBy w1 none:=⟨a.os,a.tape,a.output,a.size,fun k g _=>a.block k g⟩;refine h.kept d ?_;cases j:v.ownBlock with
 | none=>exact .inl rfl
 | some k=>exact .inr (by simp)
theorem Da{w w1:World}{P:Program}{k b n:Nat}{D:DataW Unit}(h:w.ownsMap P k unitElem b n D)(l:BL w w1):w1.ownsMap P k unitElem b n D:=by
 obtain⟨g,a,d,j⟩:=h;have c:b<w.heap.size:=(Kh.1 d).1;exact⟨g,a,(l.block b c).trans d,j⟩
theorem Dj{P:Program}{c:Array Oper}{o:Oper}{a:Act}{w:World}{K:Act->World->Prop}{Q:Exit->Act->World->Prop}{E:Prop}(q:o.guard=none)(f:FuncId)(x:Operand)(t:TypeId)(j:o.op=Op.call {callee:=Callee.value (Operand.func f),args:=#[x],argTypes:=#[t]})(v r:Value)(u:a.eval x=v)(fn:Func)(g:P.funcs[f]?=some fn)(hne:(fn.name == "runtime.NumGoroutine")=false)(d:fn.body.isNone=false)(R:World->Prop)(m:Calls P f #[v] w fun e w'=>e= .returned r/\R w')(n:∀w',R w'->K (a.put o.dst r) w'): if Region.wanted o (yielded c a.tmps)=true then Oper.wp P o a w K Q else E:=by
 have s:Region.wanted o (yielded c a.tmps)=true:=by simp[Region.wanted,q]
 rw[X3 s];have k:(callFunc f #[v]).run P w= .ok (.enter f #[v]) w:=by
  simp only[callFunc,Zk,Wk,Zj,g,hne,d];rfl
 unfold Oper.wp;simp only[execOp,j,resolve,invoke,KP,Xu,Yc,u,Deferred.ofValue,Zk];rw[show a.eval (Operand.func f)=Value.func (Fn.func f) #[] #[]from rfl];simp only[QM,Zj];simp[k];refine m.mono fun e y h=>?_;obtain⟨rfl,l⟩:=h;exact n _ l
theorem Sj{P:Program}{A:Array Oper}{o:Oper}{a:Act}{w:World}{K:Act->World->Prop}{Q:Exit->Act->World->Prop}{E:Prop}(F:o.guard=none)(s x:Operand)(t:TypeId)(Y:o.op= .call {callee:= .builtin .append,args:=#[s,x],argTypes:=#[t,t]})(base:Nat)(e:TypeId)(i:TypeInfo)(z:Value)(size g:Nat)(ht:P.underlying t=some (.slice e))(hi:P.info? e=some i)(hz:i.zero=some z)(r:i.size=size)(D:i.bytes=g)(I:z.cells.size=size)(H:0<size)(v:Value)(n:Nat)(J:List Value)(hs:a.eval s=v)(y:w.ownsRow base e size v n J)(B:Addr)(m c:Nat)(d:List Value)(hx:a.eval x= .slice (some B) m c)(X:d.length=m*size)(q:∀j u,d[j]?=some u->w.cell? (B.add j)=some u)(L:∀u∈d,u.oneCell'=true)(C:n+m<=maxLen)(k:(n+m)*g<=140737488355328)(l:base<=w.heap.size)(W:∀v' w',w'.ownsRow base e size v' (n+m) (J++d)->w.grownBy w' v.ownBlock->(v'= .slice none 0 0↔v= .slice none 0 0/\m=0)->(v'.ownBlock=v.ownBlock\/v'.ownBlock=some w.heap.size)->K (a.put o.dst v') w'): if Region.wanted o (yielded A a.tmps)=true then Oper.wp P o a w K Q else E:=by
 have hw:Region.wanted o (yielded A a.tmps)=true:=by simp[Region.wanted,F]
 rw[X3 hw];obtain⟨v',w',Z,M,N,S,V⟩:=S8 (P:=P) w base t o.type e i z size g ht hi hz r D I H v n J y B m c d X q L C k l;unfold Oper.wp execOp;simp only[Y,resolve,invoke,builtin,Zk,QM,Zj,KP,Xu,Yc,hs,hx,Z];exact W _ _ M N S V
