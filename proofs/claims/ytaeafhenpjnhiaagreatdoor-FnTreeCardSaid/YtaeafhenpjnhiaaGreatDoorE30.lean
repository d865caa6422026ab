import Derived.Test.YtaeafhenpjnhiaaGreatDoorE28
set_option maxHeartbeats 4000000
set_option maxRecDepth 100000
namespace Go.Proofs.YtaeafhenpjnhiaaGreatDoor
open Tryz Go.RowKit
def Mn(v:Value)(name:String)(u:Value)(w:World)(P:Ending->World->Prop):Prop:=∃f r,(callMethod v name #[u]).run prog w= .ok (.enter f r) w/\Calls prog f r w P
theorem Wl{ops:Array Oper}{Q:Exit->Act->World->Prop}{a:Act}{w:World}{d:List Oper}{o:Oper}{name:String}(n:o.guard=none)(x y:Operand)(ts:Array TypeId)(g:o.op=Op.call {callee:=Callee.invoke x name,args:=#[y],argTypes:=ts})(v u:Value)(P:World->Prop)(B:a.eval x=v)(C:a.eval y=u)(s:Mn v name u w fun e w'=>e= .returned (.tuple #[])/\P w')(m:∀w',P w'->wpList prog ops Q d (a.put o.dst (.tuple #[])) w'):wpList prog ops Q (o::d) a w:=by
 refine wpList_step (fun K hKK=>?_);have A:Region.wanted o (yielded ops a.tmps)=true:=by simp[Region.wanted,n]
 rw[Xa A];obtain⟨f,r,hm,k⟩:=s;unfold Oper.wp;simp only[execOp,g,resolve,invoke,Qg,YD,Y5,B,C,ZB,Jd,ZA];simp[hm];refine k.mono fun e E h=>?_;obtain⟨rfl,j⟩:=h;exact hKK _ _ (m _ j)
structure KpW (K:Nat->Prop) (w0:World) (ob:Nat) (v:Value) (w:World):Prop where
 same:∀q,K q->w.heap[q]?=w0.heap[q]?
 lt:∀q,K q->q<w.heap.size
 ob:∀q,K q->q≠ob
 own:∀q,K q->v.ownBlock≠some q
theorem KpW.gr{K:Nat->Prop}{w0:World}{d:Nat}{v v':Value}{w w':World}(h:KpW K w0 d v w)(g:Pr.Gr d v v' w w'):KpW K w0 d v' w':=
 ⟨fun q a=>(g.mv.block q (h.lt q a) (fun e=>e.elim (h.ob q a) (h.own q a))).trans (h.same q a),fun q a=>XH (h.lt q a) g.mv.size,h.ob,fun q a e=>by
  rcases g.own with o|o
  .exact h.own q a (o ▸ e)
  .have:=o q e;have:=h.lt q a;omega⟩
theorem KpW.cell{K:Nat->Prop}{w0:World}{g:Nat}{v:Value}{w:World}(h:KpW K w0 g v w){q:Nat}(d:K q)(j:Nat):w.cell? ⟨q,j,none⟩=w0.cell? ⟨q,j,none⟩:=XQ (a:=⟨q,j,none⟩) (h.same q d)
def Wrt(w0:World)(K:Nat->Prop)(ob:Nat)(m u:Value)(b:List UInt8):Prop:=∀w v t,KpW K w0 ob v w->PtR ob m v t w->t.length+b.length<=90000000->Mn u "loop.example/kilnclay/impl.write" (.p ob) w fun e w'=>e= .returned (.tuple #[])/\∃v',PtR ob m v' (t++b) w'/\Pr.Gr ob v v' w w'
def jn(bs:List (List UInt8)):Nat->List UInt8
 | 0=>[]
 | i+1=>jn bs i++(if i=0 then[]else[44,32])++bs[i]?.getD []
theorem X7f(a:List (List UInt8)){i j:Nat}(h:i<=j):(jn a i).length<=(jn a j).length:=by
 induction h with
 | refl=>exact X5 _
 | step _ d=>rw[jn,Xj,Xj];omega
theorem X5q{K:Nat->Prop}{w0:World}{u:Nat}{m v:Value}{t:List UInt8}{w:World}(a:List Value)(d:List (List UInt8))(p:Option Addr)(g o c:Nat)(M:a=[]\/p=some ⟨g,o,none⟩)(I:∀i (h:i<a.length),∃T x,a[i]= .iface T x)(hg:a≠[]->K g)(hc:∀i (h:i<a.length),w0.cell? ⟨g,o+i,none⟩=some a[i])(hw:∀i (h:i<a.length),Wrt w0 K u m a[i] (d[i]?.getD []))(hl:a.length<=1000000)(hk:KpW K w0 u v w)(hp:PtR u m v t w)(hn:t.length+(jn d a.length).length<=90000000): Calls prog 211 #[.p u,.slice p a.length c] w (Ig u m v (t++jn d a.length) w):=by
 have a0:=X1 M;have HG:=X1 hg;have V:=X1 I;have HC:=X1 hc;have HW:=X1 hw;have X:=X1 hk;have HP:=X1 hp;clear I hc hw hk hp M hg;go_enter func211,ntmps211;go_wp2;go_loopw[4,5,8] (fun _ _ i wr=>∃(j:Nat) (Q:Value),j<=a.length/\i= .q j/\PtR u m Q (t++jn d j) wr/\Pr.Gr u v Q w wr) (fun _ _ i _=>a.length-(intOf i).toNat)
 case atStart=>
  exact⟨0,v,Xb _,rfl,by simpa[jn]using HP.o,.refl _ _ _⟩
 case round=>
  obtain⟨j,Q,hj,rfl,N,H⟩:=hrel;have C:=X1 N;have r:=X1 H;clear N H;by_cases n:j<a.length
  .have hne:a≠[]:=fun e=>by rw[e]at n;cases n
   obtain rfl:=a0.o.resolve_left hne;have A:=X1 (X.o.gr r.o);have k:=(A.o.cell (HG.o hne) (o+j)).trans (HC.o j n);obtain⟨T,x,hu⟩:=V.o j n;have a1:=X7f d (show j+1<=a.length from n);have S:Hid (jn d (j+1)=jn d j++(if j=0 then[]else[44,32])++d[j]?.getD []):=X1 (by rw[jn]);have L:(jn d (j+1)).length=(jn d j).length+(if j=0 then([]:List UInt8)else[44,32]).length+(d[j]?.getD []).length:=by rw[S.o,Xj,Xj]
   have Z:=X1 (HW.o j n);rw[hu]at k Z;generalize d[j]?.getD []=b at *;have s:t.length+(jn d j).length+(if j=0 then([]:List UInt8)else[44,32]).length+b.length<=90000000:=by omega
   clear L a1;by_cases J:j=0
   .subst J;have a2:(jn d 0).length=0:=rfl;have HQ:=X1 (Z.o wr Q (t++jn d 0) A.o C.o (by rw[Xj];omega));simp only[Vy]at k;clear s;go_wp2_with(show wpList _ _ _ ({dst:=_,op:=Op.call {callee:=Callee.invoke _ _,args:=_,argTypes:=_},type:=_,pos:=_,after:=_,guard:=_}::_) _ _;refine Wl rfl (.tmp 17) (.tmp 18) _ rfl (.iface T x) (.p u) _ (by first|(simp[Act.eval];done)|simp[Act.eval,Act.put]) (by first|(simp[Act.eval];done)|simp[Act.eval,Act.put]) HQ.o ?_;rintro w4⟨v4,O,E⟩);have B:=X1 O;have y:=X1 (r.o.trans E);clear O E;go_wp2;go_roundw
    case rel=>exact⟨1,v4,by omega,by go_num,by rw[S.o];simpa using B.o,y.o⟩
    case measure=>simp[intOf];omega
   .have a3:(0:Int)<(j:Int):=by omega
    rw[X6 J]at s S;have F:t.length+(jn d j).length+2+b.length<=90000000:=s;have HI:=X1 (Of C.o ⟨#[44,32]⟩ (by rw[Xj,sz2];omega));clear s;go_wp2_with fail;go_fit HI.o;rintro e w3⟨rfl,v3,p3,g3⟩;have W:=X1 (A.o.gr g3);have HQ:=X1 (Z.o w3 v3 _ W.o p3 (by rw[Xj,Xj];show _+2+_<=_;omega));have U:=X1 (r.o.trans g3);clear p3 g3 k F;go_wp2_with(show wpList _ _ _ ({dst:=_,op:=Op.call {callee:=Callee.invoke _ _,args:=_,argTypes:=_},type:=_,pos:=_,after:=_,guard:=_}::_) _ _;refine Wl rfl (.tmp 17) (.tmp 18) _ rfl (.iface T x) (.p u) _ (by first|(simp[Act.eval];done)|simp[Act.eval,Act.put]) (by first|(simp[Act.eval];done)|simp[Act.eval,Act.put]) HQ.o ?_;rintro w4⟨v4,O,E⟩);have B:=X1 O;have y:=X1 (U.o.trans E);clear O E;go_wp2;go_roundw
    case rel=>exact⟨j+1,v4,by omega,by go_num,by rw[S.o];simpa using B.o,y.o⟩
    case measure=>simp[intOf];omega
  .obtain rfl:j=a.length:=by omega
   go_wp2;refine Xw ?_;exact⟨rfl,Q,C.o,r.o⟩
theorem Wrt.mono{w0 n:World}{K j:Nat->Prop}{k:Nat}{m u:Value}{b:List UInt8}(h:Wrt w0 K k m u b)(d:∀q,K q->j q)(y:∀q,K q->n.heap[q]?=w0.heap[q]?):Wrt n j k m u b:=fun w v t g s r=>
 h w v t ⟨fun q a=>(g.same q (d q a)).trans (y q a),fun q a=>g.lt q (d q a),fun q a=>g.ob q (d q a),fun q a=>g.own q (d q a)⟩ s r
def wv(xs:List ByteArray)(bs:List (List UInt8))(n:Nat):Nat->List UInt8
 | 0=>[]
 | i+1=>wv xs bs n i++(xs[i]?.getD ⟨#[]⟩).data.toList++(if i<n then bs[i]?.getD []else[])
theorem Y3r(d:List ByteArray)(a:List (List UInt8))(n:Nat){i j:Nat}(h:i<=j):(wv d a n i).length<=(wv d a n j).length:=by
 induction h with
 | refl=>exact X5 _
 | step _ g=>rw[wv,Xj,Xj];omega
theorem Oo{K:Nat->Prop}{w0:World}{u:Nat}{m v:Value}{t:List UInt8}{w:World}(d:List Value)(k:List (List UInt8))(a:List ByteArray)(g o c tg tc:Nat)(N:∀i (h:i<d.length),∃T x,d[i]= .iface T x)(hg:K g)(a4:K tg)(hc:∀i (h:i<d.length),w0.cell? ⟨g,o+i,none⟩=some d[i])(hx:∀i (h:i<a.length),w0.cell? ⟨tg,i,none⟩=some (.string a[i]))(hw:∀i (h:i<d.length),Wrt w0 K u m d[i] (k[i]?.getD []))(hl:d.length<=1000000)(a5:a.length<=1000000)(hk:KpW K w0 u v w)(hp:PtR u m v t w)(hn:t.length+(wv a k d.length a.length).length<=90000000): Calls prog 206 #[.p u,.slice (some ⟨g,o,none⟩) d.length c,.l tg a.length tc] w (Ig u m v (t++wv a k d.length a.length) w):=by
 have Z:=X1 N;have HC:=X1 hc;have HX:=X1 hx;have HW:=X1 hw;have a0:=X1 hk;have HP:=X1 hp;clear N hc hw hk hp hx;go_enter func206,ntmps206;go_wp2;go_loopw[6,7,10] (fun _ _ i wr=>∃(j:Nat) (W:Value),j<=a.length/\i= .q j/\PtR u m W (t++wv a k d.length j) wr/\Pr.Gr u v W w wr) (fun _ _ i _=>a.length-(intOf i).toNat)
 case atStart=>
  exact⟨0,v,Xb _,rfl,by simpa[wv]using HP.o,.refl _ _ _⟩
 case round=>
  obtain⟨j,W,hj,rfl,U,M⟩:=hrel;have J:=X1 U;have r:=X1 M;clear U M;by_cases B:j<a.length
  .have H:=X1 (a0.o.gr r.o);have L:=(H.o.cell a4 j).trans (HX.o j B);have a2:=Y3r a k d.length (show j+1<=a.length from B);have F:Hid (wv a k d.length (j+1)=wv a k d.length j++(a[j]).data.toList++(if j<d.length then k[j]?.getD []else[])):=X1 (by rw[wv];simp[B]);have Q:(wv a k d.length (j+1)).length=(wv a k d.length j).length+(a[j]).data.toList.length+(if j<d.length then k[j]?.getD []else[]).length:=by rw[F.o,Xj,Xj]
   have a3:(a[j]).size=(a[j]).data.toList.length:=Array.length_toList.symm;have s:t.length+(wv a k d.length j).length+(a[j]).size+(if j<d.length then k[j]?.getD []else[]).length<=90000000:=by omega
   clear Q a2 a3;generalize a[j]=S at *;have HI:=X1 (Of J.o S (by rw[Xj];omega));by_cases n:j<d.length
   .rw[Xa n]at s F;have O:(j:Int)<(d.length:Int):=by omega
    have E:=X1 (HC.o j n);obtain⟨T,x,hu⟩:=Z.o j n;have HM:=X1 (HW.o j n);rw[hu]at E HM;clear hu;generalize k[j]?.getD []=b at *;go_wp2_with fail;go_fit HI.o;rintro e w3⟨rfl,v3,V,C⟩;have I:=X1 (H.o.gr C);have a1:=(I.o.cell hg (o+j)).trans E.o;have HQ:=X1 (HM.o w3 v3 _ I.o V (by rw[Xj,Xj];have:S.size=S.data.toList.length:=Array.length_toList.symm;omega));have X:=X1 (r.o.trans C);clear V C L s;go_wp2_with(show wpList _ _ _ ({dst:=_,op:=Op.call {callee:=Callee.invoke _ _,args:=_,argTypes:=_},type:=_,pos:=_,after:=_,guard:=_}::_) _ _;refine Wl rfl (.tmp 25) (.tmp 26) _ rfl (.iface T x) (.p u) _ (by first|(simp[Act.eval];done)|simp[Act.eval,Act.put]) (by first|(simp[Act.eval];done)|simp[Act.eval,Act.put]) HQ.o ?_;rintro w4⟨v4,p4,g4⟩);have A:=X1 p4;have y:=X1 (X.o.trans g4);clear p4 g4;go_wp2;go_roundw
    case rel=>exact⟨j+1,v4,by omega,by go_num,by rw[F.o];simpa using A.o,y.o⟩
    case measure=>simp[intOf];omega
   .rw[X6 n]at s F;have O:¬(j:Int)<(d.length:Int):=by omega
    clear s;go_wp2_with fail;go_fit HI.o;rintro e w3⟨rfl,v3,V,C⟩;have A:=X1 V;have y:=X1 (r.o.trans C);clear V C L;go_wp2;go_roundw
    case rel=>exact⟨j+1,v3,by omega,by go_num,by rw[F.o];simpa using A.o,y.o⟩
    case measure=>simp[intOf];omega
  .obtain rfl:j=a.length:=by omega
   go_wp2;refine Xw ?_;exact⟨rfl,W,J.o,r.o⟩
abbrev Ip.Mw(b nb:Nat)(w w':World):Prop:=Pr.Mv (fun q=>q=b\/q=nb) w w'
section
variable {b nb tc sz lo m:Nat} {tp:Option Addr} {ts:List Sc.T} {w w' w'':World}
theorem Ip.Mv.wide(h:Ip.Mv b w w')(nb:Nat):Ip.Mw b nb w w':=⟨h.os,h.tape,h.output,h.size,fun q a e=>h.block q a (fun x=>e (.inl x))⟩
theorem Ip.Mw.t(h:Ip.Mw b nb w w')(k:Ip.Mw b nb w' w''):Ip.Mw b nb w w'':=Pr.Mv.trans h k (fun _ _ e=>e) (fun _ _ e=>e)
theorem Ip.Mw.fresh(h:Ip.Mw b nb w w'){n:Nat}(k:Below n w' w'')(d:w.heap.size<=n):Ip.Mw b nb w w'':=⟨k.os.trans h.os,k.tape.trans h.tape,k.output.trans h.output,Xz h.size k.size,fun q a e=>(k.block q (XH a d)).trans (h.block q a e)⟩
theorem Ip.Mw.one(h:Ip.Mw b b w w'):Ip.Mv b w w':=⟨h.os,h.tape,h.output,h.size,fun q a e=>h.block q a (fun x=>e (x.elim id id))⟩
theorem Ip.Mw.off(h:Ip.Mw b nb w w')(d:w.heap.size<=nb):Ip.Mv b w w':=⟨h.os,h.tape,h.output,h.size,fun q a e=>h.block q a (fun x=>x.elim e (fun y=>by omega))⟩
theorem Ip.Row.mw{lo' n:Nat}{v:Value}{l:List Nd}(h:Ip.Row lo w v n l)(hm:Ip.Mw b nb w w')(j:b<lo)(k:nb<lo)(d:lo'<=lo):Ip.Row lo' w' v n l:=h.go d hm.size (fun q g a=>hm.block q a (fun e=>by omega))
def Ip.left(b:Nat)(ts:List Sc.T)(w:World):Nat:=ts.length-(intOf ((w.cell? ⟨b,1,none⟩).getD (.q 0))).toNat
theorem IP.left{p:Nat}(h:IP b tp tc ts sz p w):Ip.left b ts w=ts.length-p:=by unfold Ip.left;rw[h.c1];simp[intOf]
def Ip.Item(b:Nat)(tp:Option Addr)(tc:Nat)(ts:List Sc.T)(sz nb:Nat)(Inv:Bool->World->Prop)(Fin:Nat->Bool->Pr.Dk->Pr.Dk->Nat->Prop)(Bad:Nat->Bool->Pr.Dk->Nat->Prop)(i:Nat)(f:Bool)(s:Pr.Dk)(w:World)(e:Ending)(w':World):Prop:=
 (∃(t:Pr.Dk) (f':Bool) (v:Value) (l:List Nd),e= .returned v/\t.bad=false/\t.o=s.o++l/\s.p<=t.p/\IP b tp tc ts sz t.p w'/\Ip.Mw b nb w w'/\Ip.Pt w.heap.size w' v l/\Inv f' w'/\
   (X4 ts sz t [44]=true->(∀u n,Fin (i+1) f' (X2 t) u n->Fin i f s u n)/\(∀q,Bad (i+1) f' (X2 t) q->Bad i f s q))/\(X4 ts sz t [44]=false->Fin i f s t (i+1)))\/
 (∃q,e= .panicked (Ip.stuck q)/\Bad i f s q/\Ip.Mw b nb w w')
def Ip.U9(b:Nat)(tp:Option Addr)(tc:Nat)(ts:List Sc.T)(sz nb lo m:Nat)(Inv:Bool->World->Prop)(Fin:Nat->Bool->Pr.Dk->Pr.Dk->Nat->Prop)(Bad:Nat->Bool->Pr.Dk->Nat->Prop)(g:Pr.Dk->Bool)(K:Nat)(args:Array Value):Prop:=∀i f (s:Pr.Dk),(i==0&&g s)=false->m<=s.p->s.p<=ts.length->s.bad=false->∀w,lo<=w.heap.size->IP b tp tc ts sz s.p w->Inv f w->Calls prog K args w (Ip.Item b tp tc ts sz nb Inv Fin Bad i f s w)
def Ip.F0(b:Nat)(tp:Option Addr)(tc:Nat)(ts:List Sc.T)(sz nb:Nat)(Fin:Nat->Bool->Pr.Dk->Pr.Dk->Nat->Prop)(Bad:Nat->Bool->Pr.Dk->Nat->Prop)(f:Bool)(s:Pr.Dk)(w:World)(e:Ending)(w':World):Prop:=
 (∃(t:Pr.Dk) (n:Nat) (sv:Value) (l:List Nd),e= .returned sv/\Fin 0 f s t n/\t.bad=false/\X4 ts sz t [44]=false/\t.o=s.o++l/\s.p<=t.p/\IP b tp tc ts sz t.p w'/\Ip.Mw b nb w w'/\Ip.Row w.heap.size w' sv n l/\1<=n/\n<=ts.length+1)\/
 (∃q,e= .panicked (Ip.stuck q)/\Bad 0 f s q/\Ip.Mw b nb w w')
def Ip.Wn(b lo:Nat)(Inv:Bool->World->Prop):Prop:=∀f w w',Inv f w->(∀q,q<lo->q≠b->w'.heap[q]?=w.heap[q]?)->Inv f w'
theorem Ip.Wn.use{Inv:Bool->World->Prop}(h:Ip.Wn b lo Inv){f:Bool}(a:Inv f w)(d:∀q,q<lo->q≠b->w'.heap[q]?=w.heap[q]?):Inv f w':=h f w w' a d
theorem PK{Inv:Bool->World->Prop}{Fin:Nat->Bool->Pr.Dk->Pr.Dk->Nat->Prop}{j:Nat->Bool->Pr.Dk->Nat->Prop}{g:Pr.Dk->Bool}{K:Nat}{fst cap:Array Value}(hK:Ip.Wn b lo Inv)(hI:Ip.U9 b tp tc ts sz nb lo m Inv Fin j g K (fst++cap))(e5:nb<lo)(hE:∀w,Sem.run prog (callFunc K (fst++cap)) w= .ok (.enter K (fst++cap)) w){f:Bool}{s:Pr.Dk}(hg:g s=false)(d9:m<=s.p)(b2:s.bad=false){w0:World}(d8:lo<=w0.heap.size)(v:IP b tp tc ts sz s.p w0)(c0:Inv f w0): Calls prog 110 #[.p b,.func (.func K) fst cap] w0 (Ip.F0 b tp tc ts sz nb Fin j f s w0):=by
 have a3:=v.lt;have e0:=v.XP;have Q:=X1 (hI 0 f s (by rw[hg];rfl) d9 v.le b2 w0 d8 v c0);have HK:=X1 hK;have HI:=X1 hI;clear v hI hK;go_enter func110,ntmps110;go_wp2_with fail;go_fit Q.o;rintro e M (⟨t1,f1,v1,l1,rfl,a9,b5,b7,b3,a,E,c2,U,A⟩|⟨q,rfl,hq,a⟩);rotate_left
 .exact⟨rfl,.inr ⟨_,rfl,hq,a⟩⟩
 obtain⟨c1,u1,rfl⟩:=E.iface;have b9:Ip.Row w0.heap.size (M.z #[.iface c1 u1] 44) (.l M.heap.size 1 1) 1 l1:=(Ip.QO E).row a.size (by simp);have J:=QF M (.cells #[.iface c1 u1] 44);have O:=b3.below J;have X:=HK.o.use c2 (w':=M.z #[.iface c1 u1] 44) (fun q hq _=>J.block q (by have:=a.size;omega));have W:=a.fresh J a.size;have HS:=X1 (show ∃(i:Nat) (H:Bool) (t:Pr.Dk) (l:List Nd),Ip.Row w0.heap.size (M.z #[.iface c1 u1] 44) (.l M.heap.size 1 1) (i+1) l/\t.bad=false/\t.o=s.o++l/\s.p<=t.p/\i<=t.p/\IP b tp tc ts sz t.p (M.z #[.iface c1 u1] 44)/\Ip.Mw b nb w0 (M.z #[.iface c1 u1] 44)/\Inv H (M.z #[.iface c1 u1] 44)/\(X4 ts sz t [44]=true->(∀u n,Fin (i+1) H (X2 t) u n->Fin 0 f s u n)/\(∀q,j (i+1) H (X2 t) q->j 0 f s q))/\(X4 ts sz t [44]=false->Fin 0 f s t (i+1))from⟨0,f1,t1,l1,b9,a9,b5,b7,Xb _,O,W,X,U,A⟩);clear b9 J b3 O c2 X a W U A E b5 a9 b7 Q c0;go_wp2_with fail;go_loopw[5] (fun sv wr=>∃(i:Nat) (H:Bool) (t:Pr.Dk) (l:List Nd),Ip.Row w0.heap.size wr sv (i+1) l/\t.bad=false/\t.o=s.o++l/\s.p<=t.p/\i<=t.p/\IP b tp tc ts sz t.p wr/\Ip.Mw b nb w0 wr/\Inv H wr/\(X4 ts sz t [44]=true->(∀u n,Fin (i+1) H (X2 t) u n->Fin 0 f s u n)/\(∀q,j (i+1) H (X2 t) q->j 0 f s q))/\(X4 ts sz t [44]=false->Fin 0 f s t (i+1))) (fun _ wr=>Ip.left b ts wr)
 case atStart=>exact HS.o
 case round=>
  obtain⟨i,H,t,l,hr,hb,ho,hp,e4,hd,hm,hv,b4,S⟩:=hrel;obtain⟨sp,sc,rfl⟩:=hr.form;have HR:=X1 hr;have HO:=X1 ho;have HD:=X1 hd;have HM:=X1 hm;have HV:=X1 hv;have a8:=X1 b4;have a6:=X1 S;have HB:=X1 hb;have e8:=hm.size;have HL:=X1 hd.left;clear HS hr ho hd hm hv b4 S hb;cases hc:X4 ts sz t [44]
  .have Q:=X1 (XK (s:=t) HD.o HB.o [44] #[44] rfl hc);go_wp2_with fail;go_fit Q.o;rintro e w2⟨rfl,y,b0⟩;have r:=X1 y;have a5:=X1 b0;clear y b0 Q;go_wp2;go_ret;exact .inl ⟨t,i+1,_,l,rfl,a6.o hc,HB.o,hc,HO.o,hp,r.o,HM.o.fresh a5.o HM.o.size,HR.o.below a5.o,Nat.le_add_left _ _,by have:=r.o.le;omega⟩
  .have Q:=X1 (ZH (s:=t) HD.o [44] #[44] rfl hc);go_wp2_with fail;go_fit Q.o;rintro e w2⟨rfl,y,C⟩;have c4:=HK.o.use HV.o (w':=w2) (fun q hq e1=>C.block q (by omega) e1);have e6:=C.size;have r:=X1 y;have Z:=X1 (HM.o.t (C.wide nb));have a0:=X1 (HR.o.mw (C.wide nb) a3 (by omega) (X5 _));have Q2:=X1 (HI.o (i+1) H (X2 t) (by simp) (by rw[Pr.adv_p];omega) r.o.le (show(X2 t).bad=false from HB.o) w2 (by omega) r.o c4);have d:=X1 (a8.o hc);clear y C c4 Q HR HM HD HV a8 a6;go_wp2_with fail;go_fit Q2.o;rintro e w3 (⟨t3,f3,v3,l3,rfl,b1,b6,b8,a1,k,F,c5,V,B⟩|⟨q,rfl,hq,k⟩);rotate_left
   .exact⟨rfl,.inr ⟨_,rfl,d.o.2 _ hq,Z.o.t k⟩⟩
   obtain⟨c3,u3,rfl⟩:=F.iface;have e7:=k.size;have d3:=X1 F;have d4:=X1 (a0.o.mw k a3 (by omega) (X5 _));have HA:=X1 (show ∀q,(Value.slice sp (i+1) sc).ownBlock=some q->q<w2.heap.size from fun q e=>(a0.o.lt e).2);have c7:=X1 a1;have c9:=X1 (Z.o.t k);have d6:=X1 c5;have N:=X1 V;have a7:=X1 B;have d2:=X1 b6;have c6:=X1 b1;have e3:t.p+1<=t3.p:=b8;have e2:=a1.le;clear F a1 k c5 V B b6 b1 a0 Z Q2 b8;go_wp2_with(at_builtin;refine M9 rfl _ _ rfl w0.heap.size w2.heap.size (i+1) (.slice sp (i+1) sc) (.iface c3 u3) l l3 d4.o d3.o (by omega) (by omega) HA.o (by omega) rfl rfl ?_);intro v4 w4 a4 I;obtain⟨f0,e9,rfl⟩:=a4.form;have a2:=c7.o.fresh I a3;have d1:=X1 (show Ip.left b ts w4<Ip.left b ts wr from by rw[a2.left,HL.o];omega)
   have d5:=X1 a4;have c8:=X1 a2;have d0:=X1 (c9.o.fresh I (X5 _));have d7:=X1 (HK.o.use d6.o (w':=w4) (fun q hq _=>I.block q (by omega)));clear a4 I a2;go_wp2;go_roundw
   case rel=>exact⟨i+1,f3,t3,l++l3,d5.o,c6.o,by rw[d2.o,←KL,Pr.adv_out,HO.o],by omega,by omega,c8.o,d0.o,d7.o,fun L=>⟨fun u n h=>d.o.1 _ _ ((N.o L).1 _ _ h),fun q h=>d.o.2 _ ((N.o L).2 _ h)⟩,fun L=>d.o.1 _ _ (a7.o L)⟩
   case measure=>exact d1.o
end
def Ip.Ns(b:Nat)(tp:Option Addr)(tc:Nat)(ts:List Sc.T)(sz nb:Nat)(Fin:Nat->Bool->Pr.Dk->Pr.Dk->Nat->Prop)(Bad:Nat->Bool->Pr.Dk->Nat->Prop)(E:List UInt8)(f:Bool)(s:Pr.Dk)(w:World)(e:Ending)(w':World):Prop:=
 (∃(t:Pr.Dk) (n:Nat) (sv:Value) (l:List Nd),e= .returned sv/\Fin 0 f s t n/\t.bad=false/\X4 ts sz t E=true/\t.o=s.o++l/\s.p<=t.p/\IP b tp tc ts sz (X2 t).p w'/\Ip.Mw b nb w w'/\Ip.Row w.heap.size w' sv n l/\n<=ts.length+1)\/
 (∃q,e= .panicked (Ip.stuck q)/\(Bad 0 f s q\/∃t n,Fin 0 f s t n/\Pr.Bd q (Xd ts sz t E))/\Ip.Mw b nb w w')
section
variable {b nb tc sz lo m:Nat} {tp:Option Addr} {ts:List Sc.T}
theorem M6{Inv:Bool->World->Prop}{Fin:Nat->Bool->Pr.Dk->Pr.Dk->Nat->Prop}{y:Nat->Bool->Pr.Dk->Nat->Prop}{E:List UInt8}{a:Array UInt8}(L:a.toList=E){K:Nat}{fst cap:Array Value}(hK:Ip.Wn b lo Inv)(hI:Ip.U9 b tp tc ts sz nb lo m Inv Fin y (fun d=>X4 ts sz d E) K (fst++cap))(a2:nb<lo)(hE:∀w,Sem.run prog (callFunc K (fst++cap)) w= .ok (.enter K (fst++cap)) w){f:Bool}{s:Pr.Dk}(K8:X4 ts sz s E=true->Fin 0 f s s 0)(a1:m<=s.p)(g:s.bad=false){w0:World}(a3:lo<=w0.heap.size)(u:IP b tp tc ts sz s.p w0)(H:Inv f w0): Calls prog 107 #[.p b,.string ⟨a⟩,.func (.func K) fst cap] w0 (Ip.Ns b tp tc ts sz nb Fin y E f s w0):=by
 have a0:=u.lt;have HD:=X1 u;have HK:=X1 hK;have HI:=X1 hI;have HV:=X1 H;have HE:=X1 hE;clear u hI hK H hE;cases C:X4 ts sz s E
 .have Q:=X1 (XK (s:=s) HD.o g E a L C);go_enter func107,ntmps107;go_wp2_with fail;go_fit Q.o;rintro e w1⟨rfl,j,k⟩;have I:=HK.o.use HV.o (w':=w1) (fun q hq _=>k.block q (by omega));have a4:=k.size;have Q2:=X1 (PK HK.o HI.o a2 HE.o (f:=f) C a1 g (w0:=w1) (by omega) j I);have r:=X1 k;clear j k I Q;go_wp2_with fail;go_fit Q2.o;rintro e w2 (⟨t,n,sv,l,rfl,hf,Z,hc,ho,hp,hd,hm,hr,h1,hn⟩|⟨q,rfl,hq,hm⟩);rotate_left
  .exact⟨rfl,.inr ⟨_,rfl,.inl hq,(Ip.Mv.wide (.below r.o) nb).t hm⟩⟩
  have U:=X1 (Ip.Mw.t (Ip.Mv.wide (.below r.o) nb) hm);have HR:=X1 (hr.low (lo':=w0.heap.size) r.o.size);have HF:=X1 hf;have HO:=X1 ho;have A:=X1 hd;clear hm hr hf ho hd Q2;cases M:X4 ts sz t E
  .have J:=X1 (ZX (s:=t) A.o Z E a L M);have N:=X1 (Pr.Bd.Zw (ts:=ts) (sz:=sz) Z M);go_wp2_with fail;go_fit J.o;rintro e w3⟨rfl,hm⟩;exact⟨rfl,.inr ⟨_,rfl,.inr ⟨t,n,HF.o,N.o⟩,U.o.t (hm.wide nb)⟩⟩
  .have J:=X1 (ZY (s:=t) A.o E a L M);go_wp2_with fail;go_fit J.o;rintro e w3⟨rfl,B,v⟩;have S:=X1 B;have X:=X1 (HR.o.mv v a0 (X5 _));have W:=X1 (U.o.t (v.wide nb));clear B v J HR U;go_wp2;go_ret;exact .inl ⟨t,n,_,l,rfl,HF.o,Z,M,HO.o,hp,S.o,W.o,X.o,hn⟩
 .have Q:=X1 (ZH (s:=s) HD.o E a L C);go_enter func107,ntmps107;go_wp2_with fail;go_fit Q.o;rintro e w1⟨rfl,j,F⟩;have O:=X1 j;have V:=X1 F;clear j F Q;go_wp2;go_ret;exact .inl ⟨s,0,_,[],rfl,K8 C,g,C,by simp,X5 _,O.o,V.o.wide nb,.nil _ _,Xb _⟩
