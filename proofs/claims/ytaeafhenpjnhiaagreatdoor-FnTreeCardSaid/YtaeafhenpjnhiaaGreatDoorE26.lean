import Derived.Test.YtaeafhenpjnhiaaGreatDoorE18
import Derived.Shelf.LaysM
import Derived.Shelf.Strconv.Itoa4
set_option maxHeartbeats 4000000
set_option maxRecDepth 100000
namespace Go.Proofs.YtaeafhenpjnhiaaGreatDoor
open Tryz Go.RowKit
section
theorem Xcc(W:World)(g:Nat)(x:Int)(h:W.cell? ⟨g,0,none⟩=some (.int .u8 x)):(convert 22 9 (.l g 1 1)).run prog W= .ok (.string (strOfNums [x])) W:=
 run_convert_bytes_arg (P:=prog) W 22 5 underlying22 underlying5 g 0 1 1 [x] rfl (fun i hi=>by
  obtain rfl:i=0:=by omega
  simpa using h) 9 underlying9
variable (w0:World) (pb tg tc kg kc:Nat) (ns:List Nd) (ks:List (List Nat))
theorem X4a(I:Ink w0 pb tg tc kg kc ns ks)(k:Nat)(hk:k<ns.length)(K:k<ks.length)(_hn:ns.length<=5000)(_hm:ks.length<=5000)(L:ns[k].kind=13)(_htx:ns[k].text.size<=1000)(a b d:Nat)(N:ks[k]=[a,b,d])(A:ByteArray)(sA:A.size<=20000000)(hA:Xk w0 18 #[.p pb,.q a] A)(C:ByteArray)(sC:C.size<=20000000)(hC:Xk w0 18 #[.p pb,.q b] C)(D:ByteArray)(sD:D.size<=20000000)(hD:Xk w0 18 #[.p pb,.q d] D):Xk w0 18 #[.p pb,.q k] ((⟨#[105,102,32]⟩:ByteArray)++A++(⟨#[32,116,104,101,110,32]⟩:ByteArray)++C++(⟨#[32,101,108,115,101,32]⟩:ByteArray)++D):=by
 intro w H;obtain⟨g,c,m,j,J⟩:=I.rows k K;have F:=X1 (I.below H);have E:=(H.cell (p:=⟨kg,k,none⟩) I.kl).trans m;obtain⟨n0,n1,n2,n3,n4⟩:=F.o.nodes.2 k hk;have c0:=F.o.c0;have X:=F.o.c1;have O:=F.o.pl;have M:=F.o.kl;rw[L]at n0;generalize a2:ns[k].text=u at *;generalize ns[k].op=s at *;generalize ns[k].n=y at *;generalize ns[k].kids=v at *;rw[N]at m j J E;have r1:BL w (w.z #[.q 13,.q s,.q y,.string u,.q v] 64):=bA _;have r:=H.trans (r1.mono H.size);have d1:=(r1.cell (p:=⟨pb,1,none⟩) O).trans X;have Q:=(r1.cell (p:=⟨kg,k,none⟩) M).trans E;obtain⟨x0,x1,x2,x3⟩:=Zm w ⟨13,s,y,u,v⟩;have B:=X1 (fun q:KB (w.z #[.q 13,.q s,.q y,.string u,.q v] 64)=>j.below (r.trans (q.below.mono r.size)));have fo:∀q:KB (w.z #[.q 13,.q s,.q y,.string u,.q v] 64),q.w.c w.heap.size 1=some (.q s):=fun q=>(q.below.cell (p:=⟨w.heap.size,1,none⟩) (by simp)).trans x1;have ft:∀q:KB (w.z #[.q 13,.q s,.q y,.string u,.q v] 64),q.w.c w.heap.size 3=some (.string u):=fun q=>(q.below.cell (p:=⟨w.heap.size,3,none⟩) (by simp)).trans x3;have Z:∀q:KB (w.z #[.q 13,.q s,.q y,.string u,.q v] 64),q.w.c g 0=some (.q a):=fun q=>(B.o q).2 0 (by simp);have a0:∀q:KB (w.z #[.q 13,.q s,.q y,.string u,.q v] 64),q.w.c g 1=some (.q b):=fun q=>(B.o q).2 1 (by simp);have a1:∀q:KB (w.z #[.q 13,.q s,.q y,.string u,.q v] 64),q.w.c g 2=some (.q d):=fun q=>(B.o q).2 2 (by simp);have S:=X1 (fun q=>Xk.kb hA r q);have U:=X1 (fun q=>Xk.kb hC r q);have V:=X1 (fun q=>Xk.kb hD r q);have W:=X1 (fun q:KB (w.z #[.q 13,.q s,.q y,.string u,.q v] 64)=>r1.trans (q.below.mono r1.size));haveI hne:Nonempty (KB (w.z #[.q 13,.q s,.q y,.string u,.q v] 64)):=⟨⟨_,X8 _ _⟩⟩;have gt:=ft ⟨_,X8 _ _⟩;have go:=fo ⟨_,X8 _ _⟩;simp only[KB.w]at gt go;clear r1 j m H r B I F;go_enter func18,ntmps18;go_wp2_with fail;refine Z2 (KB.w (w:=(w.z #[.q 13,.q s,.q y,.string u,.q v] 64))) (by kernel_rfl) (by kernel_rfl) ⟨⟨_,(X8 _ _).drew⟩,rfl⟩ ?_;repeat(go_big_quiet_step (first|with_reducible exact S.o _|with_reducible exact U.o _|with_reducible exact V.o _))
 refine wpQuiet_nil ?_;rintro _⟨q,rfl⟩;go_wp2;go_ret;exact⟨rfl,W.o q⟩
theorem X3x(H:Ink w0 pb tg tc kg kc ns ks)(k:Nat)(hk:k<ns.length)(J:k<ks.length)(_hn:ns.length<=5000)(_hm:ks.length<=5000)(K:ns[k].kind=10)(_htx:ns[k].text.size<=1000)(a b:Nat)(M:ks[k]=[a,b])(A:ByteArray)(sA:A.size<=20000002)(hA:Xk w0 44 #[.p pb,.q a,.q 8] A)(C:ByteArray)(sC:C.size<=20000000)(hC:Xk w0 18 #[.p pb,.q b] C):Xk w0 18 #[.p pb,.q k] (A++(⟨#[91]⟩:ByteArray)++C++(⟨#[93]⟩:ByteArray)):=by
 intro w F;obtain⟨g,c,j,d,I⟩:=H.rows k J;have E:=X1 (H.below F);have y:=(F.cell (p:=⟨kg,k,none⟩) H.kl).trans j;obtain⟨n0,n1,n2,n3,n4⟩:=E.o.nodes.2 k hk;have c0:=E.o.c0;have V:=E.o.c1;have N:=E.o.pl;have L:=E.o.kl;rw[K]at n0;generalize a0:ns[k].text=s at *;generalize ns[k].op=r at *;generalize ns[k].n=v at *;generalize ns[k].kids=u at *;rw[M]at j d I y;have r1:BL w (w.z #[.q 10,.q r,.q v,.string s,.q u] 64):=bA _;have m:=F.trans (r1.mono F.size);have d1:=(r1.cell (p:=⟨pb,1,none⟩) N).trans V;have O:=(r1.cell (p:=⟨kg,k,none⟩) L).trans y;obtain⟨x0,x1,x2,x3⟩:=Zm w ⟨10,r,v,s,u⟩;have B:=X1 (fun q:KB (w.z #[.q 10,.q r,.q v,.string s,.q u] 64)=>d.below (m.trans (q.below.mono m.size)));have Z:∀q:KB (w.z #[.q 10,.q r,.q v,.string s,.q u] 64),q.w.c w.heap.size 1=some (.q r):=fun q=>(q.below.cell (p:=⟨w.heap.size,1,none⟩) (by simp)).trans x1;have ft:∀q:KB (w.z #[.q 10,.q r,.q v,.string s,.q u] 64),q.w.c w.heap.size 3=some (.string s):=fun q=>(q.below.cell (p:=⟨w.heap.size,3,none⟩) (by simp)).trans x3;have W:∀q:KB (w.z #[.q 10,.q r,.q v,.string s,.q u] 64),q.w.c g 0=some (.q a):=fun q=>(B.o q).2 0 (by simp);have X:∀q:KB (w.z #[.q 10,.q r,.q v,.string s,.q u] 64),q.w.c g 1=some (.q b):=fun q=>(B.o q).2 1 (by simp);have Q:=X1 (fun q=>Xk.kb hA m q);have S:=X1 (fun q=>Xk.kb hC m q);have U:=X1 (fun q:KB (w.z #[.q 10,.q r,.q v,.string s,.q u] 64)=>r1.trans (q.below.mono r1.size));haveI hne:Nonempty (KB (w.z #[.q 10,.q r,.q v,.string s,.q u] 64)):=⟨⟨_,X8 _ _⟩⟩;have gt:=ft ⟨_,X8 _ _⟩;have go:=Z ⟨_,X8 _ _⟩;simp only[KB.w]at gt go;clear r1 d j F m B H E;go_enter func18,ntmps18;go_wp2_with fail;refine Z2 (KB.w (w:=(w.z #[.q 10,.q r,.q v,.string s,.q u] 64))) (by kernel_rfl) (by kernel_rfl) ⟨⟨_,(X8 _ _).drew⟩,rfl⟩ ?_;repeat(go_big_quiet_step (first|with_reducible exact Q.o _|with_reducible exact S.o _))
 refine wpQuiet_nil ?_;rintro _⟨q,rfl⟩;go_wp2;go_ret;exact⟨rfl,U.o q⟩
theorem X3y(F:Ink w0 pb tg tc kg kc ns ks)(k:Nat)(Z:k<ns.length)(I:k<ks.length)(_hn:ns.length<=5000)(_hm:ks.length<=5000)(J:ns[k].kind=11)(_htx:ns[k].text.size<=1000)(a:Nat)(L:ks[k]=[a])(A:ByteArray)(sA:A.size<=20000002)(X:Xk w0 44 #[.p pb,.q a,.q 8] A):Xk w0 18 #[.p pb,.q k] (A++(⟨#[46]⟩:ByteArray)++ns[k].text):=by
 intro w E;obtain⟨g,c,j,d,H⟩:=F.rows k I;have B:=X1 (F.below E);have y:=(E.cell (p:=⟨kg,k,none⟩) F.kl).trans j;obtain⟨n0,n1,n2,n3,n4⟩:=B.o.nodes.2 k Z;have c0:=B.o.c0;have S:=B.o.c1;have M:=B.o.pl;have K:=B.o.kl;rw[J]at n0;generalize a0:ns[k].text=r at *;generalize ns[k].op=m at *;generalize ns[k].n=v at *;generalize ns[k].kids=u at *;rw[L]at j d H y;have r1:BL w (w.z #[.q 11,.q m,.q v,.string r,.q u] 64):=bA _;have s:=E.trans (r1.mono E.size);have d1:=(r1.cell (p:=⟨pb,1,none⟩) M).trans S;have N:=(r1.cell (p:=⟨kg,k,none⟩) K).trans y;obtain⟨x0,x1,x2,x3⟩:=Zm w ⟨11,m,v,r,u⟩;have C:=X1 (fun q:KB (w.z #[.q 11,.q m,.q v,.string r,.q u] 64)=>d.below (s.trans (q.below.mono s.size)));have V:∀q:KB (w.z #[.q 11,.q m,.q v,.string r,.q u] 64),q.w.c w.heap.size 1=some (.q m):=fun q=>(q.below.cell (p:=⟨w.heap.size,1,none⟩) (by simp)).trans x1;have W:∀q:KB (w.z #[.q 11,.q m,.q v,.string r,.q u] 64),q.w.c w.heap.size 3=some (.string r):=fun q=>(q.below.cell (p:=⟨w.heap.size,3,none⟩) (by simp)).trans x3;have U:∀q:KB (w.z #[.q 11,.q m,.q v,.string r,.q u] 64),q.w.c g 0=some (.q a):=fun q=>(C.o q).2 0 (by simp);have O:=X1 (fun q=>Xk.kb X s q);have Q:=X1 (fun q:KB (w.z #[.q 11,.q m,.q v,.string r,.q u] 64)=>r1.trans (q.below.mono r1.size));haveI hne:Nonempty (KB (w.z #[.q 11,.q m,.q v,.string r,.q u] 64)):=⟨⟨_,X8 _ _⟩⟩;have gt:=W ⟨_,X8 _ _⟩;have go:=V ⟨_,X8 _ _⟩;simp only[KB.w]at gt go;clear r1 d j E s C F B;go_enter func18,ntmps18;go_wp2_with fail;refine Z2 (KB.w (w:=(w.z #[.q 11,.q m,.q v,.string r,.q u] 64))) (by kernel_rfl) (by kernel_rfl) ⟨⟨_,(X8 _ _).drew⟩,rfl⟩ ?_;repeat(go_big_quiet_step (first|with_reducible exact O.o _))
 refine wpQuiet_nil ?_;rintro _⟨q,rfl⟩;go_wp2;go_ret;exact⟨rfl,Q.o q⟩
theorem X4b(H:Ink w0 pb tg tc kg kc ns ks)(k:Nat)(hk:k<ns.length)(J:k<ks.length)(_hn:ns.length<=5000)(_hm:ks.length<=5000)(K:ns[k].kind=14)(_htx:ns[k].text.size<=1000)(a b:Nat)(M:ks[k]=[a,b])(A:ByteArray)(sA:A.size<=20000000)(hA:Xk w0 18 #[.p pb,.q a] A)(C:ByteArray)(sC:C.size<=20000000)(hC:Xk w0 18 #[.p pb,.q b] C):Xk w0 18 #[.p pb,.q k] ((⟨#[108,101,116,32]⟩:ByteArray)++ns[k].text++(⟨#[32,61,32]⟩:ByteArray)++A++(⟨#[32,105,110,32]⟩:ByteArray)++C):=by
 intro w F;obtain⟨g,c,j,d,I⟩:=H.rows k J;have E:=X1 (H.below F);have y:=(F.cell (p:=⟨kg,k,none⟩) H.kl).trans j;obtain⟨n0,n1,n2,n3,n4⟩:=E.o.nodes.2 k hk;have c0:=E.o.c0;have V:=E.o.c1;have N:=E.o.pl;have L:=E.o.kl;rw[K]at n0;generalize a0:ns[k].text=s at *;generalize ns[k].op=r at *;generalize ns[k].n=v at *;generalize ns[k].kids=u at *;rw[M]at j d I y;have r1:BL w (w.z #[.q 14,.q r,.q v,.string s,.q u] 64):=bA _;have m:=F.trans (r1.mono F.size);have d1:=(r1.cell (p:=⟨pb,1,none⟩) N).trans V;have O:=(r1.cell (p:=⟨kg,k,none⟩) L).trans y;obtain⟨x0,x1,x2,x3⟩:=Zm w ⟨14,r,v,s,u⟩;have B:=X1 (fun q:KB (w.z #[.q 14,.q r,.q v,.string s,.q u] 64)=>d.below (m.trans (q.below.mono m.size)));have Z:∀q:KB (w.z #[.q 14,.q r,.q v,.string s,.q u] 64),q.w.c w.heap.size 1=some (.q r):=fun q=>(q.below.cell (p:=⟨w.heap.size,1,none⟩) (by simp)).trans x1;have ft:∀q:KB (w.z #[.q 14,.q r,.q v,.string s,.q u] 64),q.w.c w.heap.size 3=some (.string s):=fun q=>(q.below.cell (p:=⟨w.heap.size,3,none⟩) (by simp)).trans x3;have W:∀q:KB (w.z #[.q 14,.q r,.q v,.string s,.q u] 64),q.w.c g 0=some (.q a):=fun q=>(B.o q).2 0 (by simp);have X:∀q:KB (w.z #[.q 14,.q r,.q v,.string s,.q u] 64),q.w.c g 1=some (.q b):=fun q=>(B.o q).2 1 (by simp);have Q:=X1 (fun q=>Xk.kb hA m q);have S:=X1 (fun q=>Xk.kb hC m q);have U:=X1 (fun q:KB (w.z #[.q 14,.q r,.q v,.string s,.q u] 64)=>r1.trans (q.below.mono r1.size));haveI hne:Nonempty (KB (w.z #[.q 14,.q r,.q v,.string s,.q u] 64)):=⟨⟨_,X8 _ _⟩⟩;have gt:=ft ⟨_,X8 _ _⟩;have go:=Z ⟨_,X8 _ _⟩;simp only[KB.w]at gt go;clear r1 d j F m B H E;go_enter func18,ntmps18;go_wp2_with fail;refine Z2 (KB.w (w:=(w.z #[.q 14,.q r,.q v,.string s,.q u] 64))) (by kernel_rfl) (by kernel_rfl) ⟨⟨_,(X8 _ _).drew⟩,rfl⟩ ?_;repeat(go_big_quiet_step (first|with_reducible exact Q.o _|with_reducible exact S.o _))
 refine wpQuiet_nil ?_;rintro _⟨q,rfl⟩;go_wp2;go_ret;exact⟨rfl,U.o q⟩
theorem X4h(F:Ink w0 pb tg tc kg kc ns ks)(k:Nat)(Z:k<ns.length)(I:k<ks.length)(_hn:ns.length<=5000)(_hm:ks.length<=5000)(J:ns[k].kind=18)(_htx:ns[k].text.size<=1000)(a:Nat)(L:ks[k]=[a])(A:ByteArray)(sA:A.size<=20000000)(X:Xk w0 18 #[.p pb,.q a] A):Xk w0 18 #[.p pb,.q k] (ns[k].text++(⟨#[32,61,32]⟩:ByteArray)++A):=by
 intro w E;obtain⟨g,c,j,d,H⟩:=F.rows k I;have B:=X1 (F.below E);have y:=(E.cell (p:=⟨kg,k,none⟩) F.kl).trans j;obtain⟨n0,n1,n2,n3,n4⟩:=B.o.nodes.2 k Z;have c0:=B.o.c0;have S:=B.o.c1;have M:=B.o.pl;have K:=B.o.kl;rw[J]at n0;generalize a0:ns[k].text=r at *;generalize ns[k].op=m at *;generalize ns[k].n=v at *;generalize ns[k].kids=u at *;rw[L]at j d H y;have r1:BL w (w.z #[.q 18,.q m,.q v,.string r,.q u] 64):=bA _;have s:=E.trans (r1.mono E.size);have d1:=(r1.cell (p:=⟨pb,1,none⟩) M).trans S;have N:=(r1.cell (p:=⟨kg,k,none⟩) K).trans y;obtain⟨x0,x1,x2,x3⟩:=Zm w ⟨18,m,v,r,u⟩;have C:=X1 (fun q:KB (w.z #[.q 18,.q m,.q v,.string r,.q u] 64)=>d.below (s.trans (q.below.mono s.size)));have V:∀q:KB (w.z #[.q 18,.q m,.q v,.string r,.q u] 64),q.w.c w.heap.size 1=some (.q m):=fun q=>(q.below.cell (p:=⟨w.heap.size,1,none⟩) (by simp)).trans x1;have W:∀q:KB (w.z #[.q 18,.q m,.q v,.string r,.q u] 64),q.w.c w.heap.size 3=some (.string r):=fun q=>(q.below.cell (p:=⟨w.heap.size,3,none⟩) (by simp)).trans x3;have U:∀q:KB (w.z #[.q 18,.q m,.q v,.string r,.q u] 64),q.w.c g 0=some (.q a):=fun q=>(C.o q).2 0 (by simp);have O:=X1 (fun q=>Xk.kb X s q);have Q:=X1 (fun q:KB (w.z #[.q 18,.q m,.q v,.string r,.q u] 64)=>r1.trans (q.below.mono r1.size));haveI hne:Nonempty (KB (w.z #[.q 18,.q m,.q v,.string r,.q u] 64)):=⟨⟨_,X8 _ _⟩⟩;have gt:=W ⟨_,X8 _ _⟩;have go:=V ⟨_,X8 _ _⟩;simp only[KB.w]at gt go;clear r1 d j E s C F B;go_enter func18,ntmps18;go_wp2_with fail;refine Z2 (KB.w (w:=(w.z #[.q 18,.q m,.q v,.string r,.q u] 64))) (by kernel_rfl) (by kernel_rfl) ⟨⟨_,(X8 _ _).drew⟩,rfl⟩ ?_;repeat(go_big_quiet_step (first|with_reducible exact O.o _))
 refine wpQuiet_nil ?_;rintro _⟨q,rfl⟩;go_wp2;go_ret;exact⟨rfl,Q.o q⟩
theorem X4l(F:Ink w0 pb tg tc kg kc ns ks)(k:Nat)(Z:k<ns.length)(I:k<ks.length)(_hn:ns.length<=5000)(_hm:ks.length<=5000)(J:ns[k].kind=21)(_htx:ns[k].text.size<=1000)(a:Nat)(L:ks[k]=[a])(A:ByteArray)(sA:A.size<=20000000)(X:Xk w0 18 #[.p pb,.q a] A):Xk w0 18 #[.p pb,.q k] ((⟨#[108,101,116,32]⟩:ByteArray)++ns[k].text++(⟨#[32,61,32]⟩:ByteArray)++A++(⟨#[59,10]⟩:ByteArray)):=by
 intro w E;obtain⟨g,c,j,d,H⟩:=F.rows k I;have B:=X1 (F.below E);have y:=(E.cell (p:=⟨kg,k,none⟩) F.kl).trans j;obtain⟨n0,n1,n2,n3,n4⟩:=B.o.nodes.2 k Z;have c0:=B.o.c0;have S:=B.o.c1;have M:=B.o.pl;have K:=B.o.kl;rw[J]at n0;generalize a0:ns[k].text=r at *;generalize ns[k].op=m at *;generalize ns[k].n=v at *;generalize ns[k].kids=u at *;rw[L]at j d H y;have r1:BL w (w.z #[.q 21,.q m,.q v,.string r,.q u] 64):=bA _;have s:=E.trans (r1.mono E.size);have d1:=(r1.cell (p:=⟨pb,1,none⟩) M).trans S;have N:=(r1.cell (p:=⟨kg,k,none⟩) K).trans y;obtain⟨x0,x1,x2,x3⟩:=Zm w ⟨21,m,v,r,u⟩;have C:=X1 (fun q:KB (w.z #[.q 21,.q m,.q v,.string r,.q u] 64)=>d.below (s.trans (q.below.mono s.size)));have V:∀q:KB (w.z #[.q 21,.q m,.q v,.string r,.q u] 64),q.w.c w.heap.size 1=some (.q m):=fun q=>(q.below.cell (p:=⟨w.heap.size,1,none⟩) (by simp)).trans x1;have W:∀q:KB (w.z #[.q 21,.q m,.q v,.string r,.q u] 64),q.w.c w.heap.size 3=some (.string r):=fun q=>(q.below.cell (p:=⟨w.heap.size,3,none⟩) (by simp)).trans x3;have U:∀q:KB (w.z #[.q 21,.q m,.q v,.string r,.q u] 64),q.w.c g 0=some (.q a):=fun q=>(C.o q).2 0 (by simp);have O:=X1 (fun q=>Xk.kb X s q);have Q:=X1 (fun q:KB (w.z #[.q 21,.q m,.q v,.string r,.q u] 64)=>r1.trans (q.below.mono r1.size));haveI hne:Nonempty (KB (w.z #[.q 21,.q m,.q v,.string r,.q u] 64)):=⟨⟨_,X8 _ _⟩⟩;have gt:=W ⟨_,X8 _ _⟩;have go:=V ⟨_,X8 _ _⟩;simp only[KB.w]at gt go;clear r1 d j E s C F B;go_enter func18,ntmps18;go_wp2_with fail;refine Z2 (KB.w (w:=(w.z #[.q 21,.q m,.q v,.string r,.q u] 64))) (by kernel_rfl) (by kernel_rfl) ⟨⟨_,(X8 _ _).drew⟩,rfl⟩ ?_;repeat(go_big_quiet_step (first|with_reducible exact O.o _))
 refine wpQuiet_nil ?_;rintro _⟨q,rfl⟩;go_wp2;go_ret;exact⟨rfl,Q.o q⟩
end
namespace Rb
def prs:List Nd->List (Nat × List Sc.T)->List (Nat × List Sc.T)
 | [],s=>s
 | x::r,s=>prs r (s.take (s.length-x.kids.toNat)++[(rk x,frm [sp] [nl] x (s.drop (s.length-x.kids.toNat)))])
theorem Cn:∀(n:Nat) (y:Fd),y.size<=n->∀r s,prs (y.Xy++r) s=prs r (s++[(rk y.x,P y)]):=by
 intro n;induction n with
 | zero=>intro y a;have:=Fd.size_pos y;omega
 | succ n u=>
  intro y a r s;obtain⟨x,p,b,ks⟩:=y;rw[Fd.UU]at a;have k:∀t∈ks,t.size<=n:=fun t m=>by have:=Fd.Wc m;omega
  have g:∀l:List Fd,(∀t∈l,t.size<=n)->∀r s,prs (Fd.Xy.giveL l++r) s=prs r (s++l.map fun t=>(rk t.x,P t)):=by
   intro l;induction l with
   | nil=>intro _ r s;simp[Fd.Xy.giveL]
   | cons t l d=>
    intro j r s;rw[Fd.Jh,KL,u t (j t (by simp)),d (fun y a=>j y (by simp[a])),KL];rfl
  rw[Fd.Zh,KL,g ks k,VA];show prs r ((s++_).take ((s++_).length-ks.length)++[(_,frm _ _ _ ((s++_).drop ((s++_).length-ks.length)))])=_;rw[Xj,Ju,Dt,List.drop_left,List.take_left];rfl
theorem F2{y z:Fd}(h:y.Xy=z.Xy):P y=P z:=by
 have a:=Cn _ y (X5 _) [] [];have b:=Cn _ z (X5 _) [] [];rw[JW]at a b;rw[h,b]at a;simp[prs]at a;exact a.2.symm
theorem Y3c{y z:Fd}(h:y.Xy=z.Xy)(d:z.VF=true):y.VF=true:=by
 have a:=Fd.Oj y;rw[h,Fd.Oj z,Xa d]at a;cases e:y.VF
 .rw[e]at a;cases a
 .rfl
end Rb
theorem JS(k o m d:Int)(t:ByteArray)(p:Option Addr)(n c:Nat)(w:World): CB 37 #[.agg #[.q k,.q o,.q m,.string t,.q d],.slice p n c] w (Ip.pv ⟨k,o,m,t,n⟩ (.slice p n c)):=by
 have a:Hid (∀k:Int,Ip.pv ⟨k,o,m,t,n⟩ (.slice p n c)= .iface (Ip.ty k) (.agg #[.q k,.q o,.q m,.string t,.q n,.slice p n c])):=X1 (fun _=>rfl);rw[a.o];go_enter func37,ntmps37;go_wp2;all_goals
  go_ret;refine⟨?_,?_⟩
  .clear a;simp only[Ip.ty, *,cond_true,cond_false];rfl
  .repeat(first|(refine Qw ?_ (by show w.heap.size<=w.heap.size;exact X5 _) _)|(refine Below.alloc ?_ (by simp) _))
   exact X8 _ _
section
variable {b tc sz:Nat} {tp:Option Addr} {ts:List Sc.T} {w w0 w' W:World} {lo n:Nat} {v v1 v2 v3:Value} {l l1 l2 l3:List Nd} {x:Nd} {o:Obj}
def Ip.Out(b:Nat)(tp:Option Addr)(tc:Nat)(ts:List Sc.T)(sz:Nat)(c:Zb)(s:Pr.Dk)(w:World)(e:Ending)(w':World):Prop:=
 (∃(r:Pr.Dk × Nat) (v:Value) (l:List Nd),e= .returned v/\Pr.Cv ts sz c s r/\r.1.bad=false/\r.1.o=s.o++l/\IP b tp tc ts sz r.1.p w'/\Ip.Mv b w w'/\Ip.Pt w.heap.size w' v l)\/
 (∃q,e= .panicked (Ip.stuck q)/\Pr.Ends ts sz c s q/\Ip.Mv b w w')
def Ip.Jr(b:Nat)(tp:Option Addr)(tc:Nat)(ts:List Sc.T)(sz:Nat)(f:Nat)(args:Array Value)(c:Zb)(s d:Pr.Dk):Prop:=∀w,IP b tp tc ts sz d.p w->Calls prog f args w (Ip.Out b tp tc ts sz c s w)
abbrev Ip.DE(b:Nat)(tp:Option Addr)(tc:Nat)(ts:List Sc.T)(sz:Nat)(d:Pr.Dk):Prop:=Ip.Jr b tp tc ts sz 84 #[.p b] .e d d
theorem Ip.Pt.low(h:Ip.Pt lo w v l){lo':Nat}(a:lo'<=lo):Ip.Pt lo' w v l:=h.go a (X5 _) (fun _ _ _=>rfl)
theorem Ip.Row.low(h:Ip.Row lo w v n l){lo':Nat}(a:lo'<=lo):Ip.Row lo' w v n l:=h.go a (X5 _) (fun _ _ _=>rfl)
theorem Ip.Pt.iface(h:Ip.Pt lo w v l):∃t u,v= .iface t u:=by
 obtain⟨n,h⟩:=h;cases n with
 | zero=>exact h.elim
 | succ n=>obtain⟨x,sl,d,r,a,_⟩:=h;exact⟨_,_,a⟩
def Ip.UE(lo:Nat)(w:World)(vs:List Value)(l:List Nd):Prop:=∃m,Ip.Kids (Ip.At (fun q=>lo<=q/\q<w.heap.size) w m) vs l
theorem Ip.QO(a:Ip.Pt lo w v1 l1):Ip.UE lo w [v1] l1:=by
 obtain⟨m,a⟩:=a;exact⟨m,.one a⟩
theorem Ip.UE.cons{g:List Value}(a:Ip.Pt lo w v1 l1)(d:Ip.UE lo w g l2):Ip.UE lo w (v1::g) (l1++l2):=by
 obtain⟨m,a⟩:=a;obtain⟨k,d⟩:=d;exact⟨m+k,.cons (a.le (Nat.le_add_right _ _)) (d.mono (fun _ _ e=>e.le (Nat.le_add_left _ _)))⟩
theorem Ip.LO(a:Ip.Pt lo w v1 l1)(d:Ip.Pt lo w v2 l2):Ip.UE lo w [v1,v2] (l1++l2):= .cons a (Ip.QO d)
theorem Ip.Y1j(a:Ip.Pt lo w v1 l1)(d:Ip.Pt lo w v2 l2)(g:Ip.Pt lo w v3 l3):Ip.UE lo w [v1,v2,v3] (l1++(l2++l3)):= .cons a (.cons d (Ip.QO g))
theorem Y0h(w:World)(a:List Value)(t:TypeId)(lo:Nat)(d:lo<=w.heap.size)(g:a.length<=1000):(w.z a.toArray t).ownsRow lo t 1 (.l w.heap.size a.length a.length) a.length a:=by
 refine⟨by omega,.inr ⟨w.heap.size,a.length,a.toArray,rfl,d,heap_alloc_new w _,X5 _,by unfold maxLen;omega,by simp,by simp⟩⟩
theorem Ip.UE.row{a:List Value}(h:Ip.UE lo w a l)(g:lo<=w.heap.size)(j:a.length<=1000):Ip.Row lo (w.z a.toArray 44) (.l w.heap.size a.length a.length) a.length l:=by
 obtain⟨m,h⟩:=h;refine⟨a,m,Y0h w a _ lo g j,h.mono (fun _ _ k=>k.go (fun q e=>⟨e.1,?_,?_⟩) (fun q e=>Below.heap_alloc w _ q e.2))⟩
 .have:(w.z a.toArray 44).heap.size=w.heap.size+1:=by simp
  rw[this];omega
 .intro d;have d:some w.heap.size=some q:=d;cases d;exact absurd e.2 (Nat.lt_irrefl _)
theorem Ip.Row.made(h:Ip.Row lo w v n l)(s:x.kids=(n:Int)):Ip.Pt lo w (Ip.pv x v) (l++[x]):=by
 have a:=fun q e=>h.lt (q:=q) e;obtain⟨j,m,d,r⟩:=h;have g:j.length=n:=by have:=d.1;omega
 exact⟨m+1,x,v,j,l,rfl,by rw[g];exact s,by rw[g];exact Vn d (fun _ _=>Xb _) (fun _ _=>rfl),a,r.mono (fun _ _ k=>k.go (fun q e=>⟨e.1,e.2.1⟩) (fun _ _=>rfl)),rfl⟩
theorem Ip.Pt.below(h:Ip.Pt lo w v l)(a:BL w w'):Ip.Pt lo w' v l:=h.go (X5 _) a.size (fun q _ d=>a.block q d)
theorem Ip.Row.below(h:Ip.Row lo w v n l)(a:BL w w'):Ip.Row lo w' v n l:=h.go (X5 _) a.size (fun q _ d=>a.block q d)
theorem Ip.Mv.more(h:Ip.Mv b w0 w)(a:BL w w'):Ip.Mv b w0 w':=Ip.Mv.t h (.below a)
theorem QF(w:World)(o:Obj):Below w.heap.size w (w.alloc o):=bA _
theorem WC(a:Below (w.alloc o).heap.size (w.alloc o) W):Below w.heap.size w W:=(QF w o).trans (a.mono (by simp))
theorem U7(k n q:Int)(t:ByteArray)(W:World):Sem.run prog (Instr.field 101 (Value.agg #[.q k,.string t,.q n,.q q]) 1) W= .ok (.string t) W:=by kernel_rfl
theorem Y2g(k n q:Int)(t:ByteArray)(W:World):Sem.run prog (Instr.field 101 (Value.agg #[.q k,.string t,.q n,.q q]) 2) W= .ok (.q n) W:=by kernel_rfl
theorem upN(k o m:Int)(t:ByteArray){c g:Nat}{p:Option Addr}(R:Hid (Ip.Row lo w (.slice p n c) n l))(H:Hid (IP b tp tc ts sz g w))(M:Hid (Ip.Mv b w0 w)):Calls prog 37 #[.agg #[.q k,.q o,.q m,.string t,.q 0],.slice p n c] w fun e w'=>e= .returned (Ip.pv ⟨k,o,m,t,n⟩ (.slice p n c))/\Hid (Ip.Pt lo w' (Ip.pv ⟨k,o,m,t,n⟩ (.slice p n c)) (l++[⟨k,o,m,t,n⟩]))/\Hid (IP b tp tc ts sz g w')/\Hid (Ip.Mv b w0 w'):=(JS k o m 0 t p n c w).mono fun _ _ ⟨a,d⟩=>⟨a,X1 ((R.o.below d).made rfl),X1 (H.o.below d),X1 (M.o.more d)⟩
theorem upM(k o m:Int)(t:ByteArray){j:Nat}{g:List Value}(n:Nat)(S:Ip.UE lo w g l)(u:g.length=n)(H:Hid (IP b tp tc ts sz j w))(M:Hid (Ip.Mv b w0 w))(s:lo<=w.heap.size)(r:n<=1000:=by decide):Calls prog 37 #[.agg #[.q k,.q o,.q m,.string t,.q 0],.l w.heap.size n n] (w.z g.toArray 44) fun e w'=>e= .returned (Ip.pv ⟨k,o,m,t,n⟩ (.l w.heap.size n n))/\Hid (Ip.Pt lo w' (Ip.pv ⟨k,o,m,t,n⟩ (.l w.heap.size n n)) (l++[⟨k,o,m,t,n⟩]))/\Hid (IP b tp tc ts sz j w')/\Hid (Ip.Mv b w0 w'):=by
 subst u;exact(JS k o m 0 t _ _ _ _).mono fun _ _ ⟨a,d⟩=>⟨a,X1 (((S.row s r).below d).made rfl),X1 (H.o.below (WC d)),X1 (M.o.more (WC d))⟩
theorem upI{f p:Nat}{A:Array Value}{R:Ending}{G:Prop}(M:Hid (Ip.Mv b w0 w))(g:G)(C:Calls prog f A w fun e w'=>e=R/\IP b tp tc ts sz p w'/\Ip.Mv b w w'):Calls prog f A w fun e w'=>e=R/\Hid (Ip.Mv b w w')/\Hid (IP b tp tc ts sz p w')/\Hid (Ip.Mv b w0 w')/\Hid G:=C.mono fun _ _ ⟨a,d,h⟩=>⟨a,X1 h,X1 d,X1 (M.o.t h),X1 g⟩
theorem upB{f p:Nat}{A:Array Value}{R:Ending}{G:Prop}(M:Hid (Ip.Mv b w0 w))(g:G)(C:Calls prog f A w fun e w'=>e=R/\IP b tp tc ts sz p w'/\BL w w'):Calls prog f A w fun e w'=>e=R/\Hid (Ip.Mv b w w')/\Hid (IP b tp tc ts sz p w')/\Hid (Ip.Mv b w0 w')/\Hid G:=upI M g (C.mono fun _ _ ⟨a,d,h⟩=>⟨a,d,.below h⟩)
theorem upE{f m:Nat}{A:Array Value}{c:Zb}{s:Pr.Dk}(C:Calls prog f A w (Ip.Out b tp tc ts sz c s w))(M:Hid (Ip.Mv b w0 w))(G:Hid (m<=s.p))(H:Hid (IP b tp tc ts sz s.p w))(E:lo<=w.heap.size):Calls prog f A w fun e w'=>(∃(r:Pr.Dk × Nat) (t:TypeId) (u:Value) (l:List Nd),e= .returned (.iface t u)/\Hid (Pr.Cv ts sz c s r)/\r.1.bad=false/\Hid (r.1.o=s.o++l)/\Hid (Ip.Mv b w w')/\Hid (IP b tp tc ts sz r.1.p w')/\Hid (Ip.Mv b w0 w')/\Hid (m<=r.1.p)/\Hid (Ip.Pt lo w' (.iface t u) l))\/(∃q,e= .panicked (Ip.stuck q)/\Pr.Ends ts sz c s q/\Ip.Mv b w w'):=by
 refine C.mono fun e w' h=>?_;rcases h with⟨r,v,l,j,a,k,y,B,d,g⟩|h
 .obtain⟨t,u,rfl⟩:=g.iface;exact .inl ⟨r,t,u,l,j,X1 a,k,X1 y,X1 d,X1 B,X1 (M.o.t d),X1 (Xz G.o (a.stp H.o.le).ge),X1 (g.low E)⟩
 .exact .inr h
end
end Go.Proofs.YtaeafhenpjnhiaaGreatDoor
namespace Go.Proofs
open Go.Shelf
def Tryz.X8n:Go.Shelf.Ren:=⟨fun|173=>242|246=>168|283=>169|284=>170|285=>171|286=>172|129=>174|317=>173|318=>175|319=>176|320=>177|337=>178|338=>179|n=>n,fun|2=>2|3=>3|9=>9|4=>4|171=>223|0=>0|53=>178|37=>22|5=>5|173=>226|212=>229|51=>230|20=>20|213=>231|46=>209|232=>234|233=>235|n=>n,fun|17=>4|18=>5|19=>6|n=>n⟩
theorem Tryz.X8m:Go.Proofs.LaysM.n173 Tryz.prog Tryz.X8n:=by repeat' first|kernel_rfl|(intro;kernel_rfl)|(intro;rfl)|constructor
end Go.Proofs
