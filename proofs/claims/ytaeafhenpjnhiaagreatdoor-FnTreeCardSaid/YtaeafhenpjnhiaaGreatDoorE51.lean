import Derived.Test.YtaeafhenpjnhiaaGreatDoorE43
import Derived.Test.YtaeafhenpjnhiaaGreatDoorE48
import Derived.Test.YtaeafhenpjnhiaaGreatDoorE50
set_option maxHeartbeats 4000000
set_option maxRecDepth 100000
namespace Go.Proofs.YtaeafhenpjnhiaaGreatDoor
open Tryz Go.RowKit
section
open Rb
def Zc:List (TypeId × Nat):=[(133,201),(134,204),(135,209),(136,210),(137,212),(138,214),(139,216),(140,218),(141,221),(142,225),(143,228),(144,230),(145,231),(146,233),(147,234),(148,235),(149,236),(150,237),(151,238),(152,239),(153,240)]
def ZI:List (TypeId × Nat):=[(133,199),(134,203),(135,208),(136,199),(137,199),(138,213),(139,215),(140,217),(141,220),(142,224),(143,227),(144,199),(145,199),(146,199),(147,199),(148,199),(149,199),(150,199),(151,199),(152,199),(153,199)]
theorem Tm(k o n c:Int)(s:ByteArray)(sl u:Value)(w:World):∀p∈Zc,(callMethod (.iface p.1 (.agg #[.q k,.q o,.q n,.string s,.q c,sl])) "loop.example/kilnclay/impl.write" #[u]).run prog w= .ok (.enter p.2 #[(.agg #[.q k,.q o,.q n,.string s,.q c,sl]),u]) w:=by
 intro p a;simp only[Zc,Kr,QU,J7]at a;rcases a with rfl|rfl|rfl|rfl|rfl|rfl|rfl|rfl|rfl|rfl|rfl|rfl|rfl|rfl|rfl|rfl|rfl|rfl|rfl|rfl|rfl<;>kernel_rfl
theorem Tl(k o n c:Int)(s:ByteArray)(sl:Value)(w:World):∀p∈ZI,(callMethod (.iface p.1 (.agg #[.q k,.q o,.q n,.string s,.q c,sl])) "loop.example/kilnclay/impl.rank" #[]).run prog w= .ok (.enter p.2 #[(.agg #[.q k,.q o,.q n,.string s,.q c,sl])]) w:=by
 intro p a;simp only[ZI,Kr,QU,J7]at a;rcases a with rfl|rfl|rfl|rfl|rfl|rfl|rfl|rfl|rfl|rfl|rfl|rfl|rfl|rfl|rfl|rfl|rfl|rfl|rfl|rfl|rfl<;>kernel_rfl
section
variable {K:Nat->Prop} {w0:World} {ob:Nat} {m sl:Value} {k o n c:Int} {s:ByteArray} {T:TypeId} {F:Nat}
theorem Wrt.of{b B:List UInt8}(d:(T,F)∈Zc)(h:∀w v t,KpW K w0 ob v w->PtR ob m v t w->t.length+B.length<=90000000->Calls prog F #[(.agg #[.q k,.q o,.q n,.string s,.q c,sl]),.p ob] w (Wd ob m v t B w))(e:b=B):Wrt w0 K ob m (.iface T (.agg #[.q k,.q o,.q n,.string s,.q c,sl])) b:=by
 intro w v t g j a;have q:=Tm k o n c s sl (.p ob) w (T,F) d;rw[e]at a⊢;exact⟨F,_,q,h w v t g j a⟩
theorem Rkd.of{r:Int}(a:(T,F)∈ZI)(h:∀w v,KpW K w0 ob v w->Calls prog F #[(.agg #[.q k,.q o,.q n,.string s,.q c,sl])] w fun e w'=>e= .returned (.q r)/\BL w w'):Rkd w0 K ob (.iface T (.agg #[.q k,.q o,.q n,.string s,.q c,sl])) r:=by
 intro w v d;have q:=Tl k o n c s sl w (T,F) a;exact⟨F,_,q,h w v d⟩
end
structure Gl (w0:World) (K:Nat->Prop) (ob mb:Nat):Prop where
 gl:∀w v,KpW K w0 ob v w->Ip.Zy w/\0<w.heap.size
 tb:∀w v,KpW K w0 ob v w->Lib.TabIs prog w "internal/strconv.uint64pow10" .u64 Lib.pow10Tab
 mp:∀w v,KpW K w0 ob v w->w.ownsMap (H:=Unit) prog 9 unitElem mb 17 Sc.Q6
def Rb.tb(t:Fd):List UInt8:=bts (P t)
theorem Rb.VX(ks:List Fd):∀i,i<=ks.length->jn (ks.map tb) i=bts (cmg [sp] ((ks.take i).map P))
 | 0,_=>by simp[jn,cmg,Y4g]
 | i+1,h=>by
  rw[jn,VX ks i (by omega),Vx h,JI,List.map_singleton,SJ];simp[Jv (Mo h),K0 (show i<ks.length by omega),tb]
theorem Rb.Al(ks:List Fd):∀i,i<=ks.length->fl (ks.map tb) i=bts ((ks.take i).flatMap P)
 | 0,_=>by simp[fl,Y4g]
 | i+1,h=>by
  rw[fl,Al ks i (by omega),Vx h,Dm,Jz];simp[K0 (show i<ks.length by omega),tb]
theorem Rb.Y0c(r j:Nat)(l:List Sc.T):bts (br j (r,l))=rkB r j (bts l):=by
 unfold rkB br;by_cases h:r<j
 .rw[Xa h,Xa (by omega)];simp[Uh,Jz,Y4h,Y4g]
 .rw[X6 h,X6 (by omega)]
theorem Rb.Nf.few{x:Nd}{ks:List Fd}(h:Nf x ks):ks.length<=1000/\1<=x.kind/\x.kind<=24:=by
 have:=h.cnt;unfold K5 at this;repeat' split at this
 all_goals
  have:=Qn this;omega
theorem Y0d{K:Nat->Prop}{w0:World}{ob j:Nat}(a:Gl w0 K ob j)(k o n c:Int)(s:ByteArray)(sl:Value)(r:1<=k/\k<=24)(d:k=7->1<=o/\o<=14):Rkd w0 K ob (Ip.pv ⟨k,o,n,s,c⟩ sl) (rk ⟨k,o,n,s,c⟩:Nat):=by
 have g:k=1\/k=2\/k=3\/k=4\/k=5\/k=6\/k=7\/k=8\/k=9\/k=10\/k=11\/k=12\/k=13\/k=14\/k=15\/k=16\/k=17\/k=18\/k=19\/k=20\/k=21\/k=22\/k=23\/k=24:=by omega
 rcases g with rfl|rfl|rfl|rfl|rfl|rfl|rfl|rfl|rfl|rfl|rfl|rfl|rfl|rfl|rfl|rfl|rfl|rfl|rfl|rfl|rfl|rfl|rfl|rfl
 .exact Rkd.of (T:=153) (F:=199) (by simp[ZI]) fun w v _=>by simpa[rk]using QG 1 o n c s sl w
 .exact Rkd.of (T:=153) (F:=199) (by simp[ZI]) fun w v _=>by simpa[rk]using QG 2 o n c s sl w
 .exact Rkd.of (T:=153) (F:=199) (by simp[ZI]) fun w v _=>by simpa[rk]using QG 3 o n c s sl w
 .exact Rkd.of (T:=153) (F:=199) (by simp[ZI]) fun w v _=>by simpa[rk]using QG 4 o n c s sl w
 .exact Rkd.of (T:=133) (F:=199) (by simp[ZI]) fun w v _=>by simpa[rk]using QG 5 o n c s sl w
 .by_cases e:o=1
  .exact Rkd.of (T:=134) (F:=203) (by simp[ZI]) fun w v _=>by have:=Le 6 o n c s sl w;rw[show unR o=3 from Xa e]at this;simpa[rk,e]using this
  .exact Rkd.of (T:=134) (F:=203) (by simp[ZI]) fun w v _=>by have:=Le 6 o n c s sl w;rw[show unR o=7 from X6 e]at this;simpa[rk,e]using this
 .have d:=d rfl;obtain⟨p,rfl⟩:∃p:Nat,o=p:=⟨o.toNat,by omega⟩;exact Rkd.of (T:=135) (F:=208) (by simp[ZI]) fun w v h=>by simpa[rk]using Oi 7 n c p s sl w (by omega) (a.gl w v h).1 (a.gl w v h).2
 .exact Rkd.of (T:=136) (F:=199) (by simp[ZI]) fun w v _=>by simpa[rk]using QG 8 o n c s sl w
 .exact Rkd.of (T:=137) (F:=199) (by simp[ZI]) fun w v _=>by simpa[rk]using QG 9 o n c s sl w
 .exact Rkd.of (T:=138) (F:=213) (by simp[ZI]) fun w v _=>by simpa[rk]using X5o 10 o n c s sl w
 .exact Rkd.of (T:=139) (F:=215) (by simp[ZI]) fun w v _=>by simpa[rk]using X5l 11 o n c s sl w
 .exact Rkd.of (T:=140) (F:=217) (by simp[ZI]) fun w v _=>by simpa[rk]using X5k 12 o n c s sl w
 .exact Rkd.of (T:=141) (F:=220) (by simp[ZI]) fun w v _=>by simpa[rk]using X5n 13 o n c s sl w
 .exact Rkd.of (T:=142) (F:=224) (by simp[ZI]) fun w v _=>by simpa[rk]using X5p 14 o n c s sl w
 .exact Rkd.of (T:=143) (F:=227) (by simp[ZI]) fun w v _=>by simpa[rk]using X5m 15 o n c s sl w
 .exact Rkd.of (T:=144) (F:=199) (by simp[ZI]) fun w v _=>by simpa[rk]using QG 16 o n c s sl w
 .exact Rkd.of (T:=145) (F:=199) (by simp[ZI]) fun w v _=>by simpa[rk]using QG 17 o n c s sl w
 .exact Rkd.of (T:=146) (F:=199) (by simp[ZI]) fun w v _=>by simpa[rk]using QG 18 o n c s sl w
 .exact Rkd.of (T:=147) (F:=199) (by simp[ZI]) fun w v _=>by simpa[rk]using QG 19 o n c s sl w
 .exact Rkd.of (T:=148) (F:=199) (by simp[ZI]) fun w v _=>by simpa[rk]using QG 20 o n c s sl w
 .exact Rkd.of (T:=149) (F:=199) (by simp[ZI]) fun w v _=>by simpa[rk]using QG 21 o n c s sl w
 .exact Rkd.of (T:=150) (F:=199) (by simp[ZI]) fun w v _=>by simpa[rk]using QG 22 o n c s sl w
 .exact Rkd.of (T:=151) (F:=199) (by simp[ZI]) fun w v _=>by simpa[rk]using QG 23 o n c s sl w
 .exact Rkd.of (T:=152) (F:=199) (by simp[ZI]) fun w v _=>by simpa[rk]using QG 24 o n c s sl w
attribute [local simp] frm VA ID Uh Jz Y4g Y4h Y4n Y4l Y4k Y4m Y4i Y4j MK Y0c tb Rb.tx wv Function.comp_def Zj ZK K4 Zk XR Qi Qq XM Y1 Zz Z7 K3 Kj Zr
set_option linter.unusedSimpArgs false
theorem Y3q{K:Nat->Prop}{w0:World}{ob Z:Nat}(hG:Gl w0 K ob Z)(k o n c:Int)(s:ByteArray)(C:List Value)(ks:List Fd)(q:Option Addr)(J:Nat)(W:C=[]\/∃g,q=some ⟨g,0,none⟩/\KD w0 K ob (.map (some Z)) C (ks.map tb) g 0)(N:C.length<=J)(E:ks.length=C.length)(X:∀i (h:i<C.length) (h':i<ks.length),Rkd w0 K ob C[i] (rk ks[i].x:Nat))(h:Nf ⟨k,o,n,s,c⟩ ks)(y:n<=9223372036854775807):Wrt w0 K ob (.map (some Z)) (Ip.pv ⟨k,o,n,s,c⟩ (.slice q C.length J)) (tb (.mk ⟨k,o,n,s,c⟩ 0 0 ks)):=by
 obtain⟨a1,h1,a0⟩:=h.few;have h1:1<=k:=h1;have a0:k<=24:=a0;have M:=h.len;have V:=Ik.LZ h.pl;obtain⟨p2,p3,p6,p7⟩:=Ik.num h.pl;have hc:k=1\/k=2\/k=3\/k=4\/k=5\/k=6\/k=7\/k=8\/k=9\/k=10\/k=11\/k=12\/k=13\/k=14\/k=15\/k=16\/k=17\/k=18\/k=19\/k=20\/k=21\/k=22\/k=23\/k=24:=by omega
 have nil:∀g,C=[]->KD w0 K ob (.map (some Z)) C (ks.map tb) g 0:=fun g e=>by
  subst e;exact⟨fun i hi=>absurd hi (JK _),fun a=>absurd rfl a,fun i hi=>absurd hi (JK _),fun i hi=>absurd hi (JK _),Xb _⟩
 have Q:∃g,(C=[]\/q=some ⟨g,0,none⟩)/\KD w0 K ob (.map (some Z)) C (ks.map tb) g 0:=W.elim (fun e=>⟨0,.inl e,nil 0 e⟩) (fun⟨g,e,d⟩=>⟨g,.inr e,d⟩);have j:1<=ks.length->∃g,q=some ⟨g,0,none⟩/\KD w0 K ob (.map (some Z)) C (ks.map tb) g 0:=fun e=>W.elim (fun e2=>by rw[e2]at E;rw[E]at e;cases e) id;rcases hc with rfl|rfl|rfl|rfl|rfl|rfl|rfl|rfl|rfl|rfl|rfl|rfl|rfl|rfl|rfl|rfl|rfl|rfl|rfl|rfl|rfl|rfl|rfl|rfl
 .exact Wrt.of (T:=153) (F:=240) (by simp[Zc]) (fun w v t A B y=>X6w A B o n c s q _ _ y) (by simp)
 .rcases p2 rfl with e|e
  .have e:n=0:=e;subst e;exact Wrt.of (T:=153) (F:=240) (by simp[Zc]) (fun w v t A B y=>X6i A B o c s q _ _ y) (by simp)
  .have e:n=1:=e;subst e;exact Wrt.of (T:=153) (F:=240) (by simp[Zc]) (fun w v t A B y=>X7d A B o c s q _ _ y) (by simp)
 .have h0:0<=n:=p3 rfl;obtain⟨d,rfl⟩:∃d:Nat,n=d:=⟨n.toNat,by omega⟩;exact Wrt.of (T:=153) (F:=240) (by simp[Zc]) (fun w v t A B y=>X6p A B o c s q _ _ d (by omega) hG.tb y) (by simp)
 .exact Wrt.of (T:=153) (F:=240) (by simp[Zc]) (fun w v t A B y=>X7c A B o n c s q _ _ (Xz V (by omega)) y) (by simp)
 .exact Wrt.of (T:=133) (F:=201) (by simp[Zc]) (fun w v t A B y=>X6t A B 5 o n c s q _ _ (by simpa using y)) (by simp)
 .obtain⟨a,rfl⟩:=ZG ks (M.1 (by simp));obtain⟨u,rfl⟩:=ZG C (show C.length=1 from E.symm);obtain⟨g,rfl,d⟩:=j (by simp);obtain⟨T,x,I⟩:=d.fi 0 (by simp);have O:=X 0 (by simp) (by simp);simp only[UZ]at I O;subst I;rcases p6 rfl with e|e
  .have e:o=1:=e;subst e;exact Wrt.of (T:=134) (F:=204) (by simp[Zc]) (fun w v t A B y=>X6x A B 6 n c s g _ T x (tb a) _ (by simp at y⊢;omega) d O) (by simp)
  .have e:o=2:=e;subst e;exact Wrt.of (T:=134) (F:=204) (by simp[Zc]) (fun w v t A B y=>X6v A B 6 2 n c s g _ T x (tb a) _ (by decide) (by simp at y⊢;omega) d O) (by simp)
 .obtain⟨a,U,rfl⟩:=QR ks (M.2.1 (by simp));obtain⟨u,u2,rfl⟩:=QR C (show C.length=2 from E.symm);obtain⟨g,rfl,d⟩:=j (by simp);obtain⟨T,x,I⟩:=d.fi 0 (by simp);have O:=X 0 (by simp) (by simp);simp only[UZ]at I O;subst I;obtain⟨T2,x2,L⟩:=d.fi 1 (by simp);have rb:=X 1 (by simp) (by simp);simp only[List.getElem_cons_succ,UZ]at L rb;subst L;have ho:1<=o/\o<=14:=p7 rfl;obtain⟨p,rfl⟩:∃p:Nat,o=p:=⟨o.toNat,by omega⟩;exact Wrt.of (T:=135) (F:=209) (by simp[Zc]) (fun w v t A B y=>X6b A B 7 n c p s g _ T T2 x x2 (tb a) (tb U) _ _ (by omega) hG.gl (by simp at y⊢;omega) d O rb) (by simp)
 .obtain⟨g,W,d⟩:=Q;have H:=VX ks ks.length (X5 _);rw[JY]at H;exact Wrt.of (T:=136) (F:=210) (by simp[Zc]) (fun w v t A B y=>X6r A B 8 o n c s q g J d W (by simp at y⊢;omega)) (by simp[←E,H])
 .obtain⟨g,W,d⟩:=Q;have H:=VX ks ks.length (X5 _);rw[JY]at H;exact Wrt.of (T:=137) (F:=212) (by simp[Zc]) (fun w v t A B y=>X7a A B 9 o n c s q g J d W (by simp at y⊢;omega)) (by simp[←E,H])
 .obtain⟨a,U,rfl⟩:=QR ks (M.2.1 (by simp));obtain⟨u,u2,rfl⟩:=QR C (show C.length=2 from E.symm);obtain⟨g,rfl,d⟩:=j (by simp);obtain⟨T,x,I⟩:=d.fi 0 (by simp);have O:=X 0 (by simp) (by simp);simp only[UZ]at I O;subst I;exact Wrt.of (T:=138) (F:=214) (by simp[Zc]) (fun w v t A B y=>X6o A B 10 o n c s g _ T x (tb a) _ u2 (tb U) N (by simp at y⊢;omega) d O) (by simp)
 .obtain⟨a,rfl⟩:=ZG ks (M.1 (by simp));obtain⟨u,rfl⟩:=ZG C (show C.length=1 from E.symm);obtain⟨g,rfl,d⟩:=j (by simp);obtain⟨T,x,I⟩:=d.fi 0 (by simp);have O:=X 0 (by simp) (by simp);simp only[UZ]at I O;subst I;exact Wrt.of (T:=139) (F:=216) (by simp[Zc]) (fun w v t A B y=>X6e A B 11 o n c s g _ T x (tb a) _ (by simp at y⊢;omega) d O) (by simp)
 .cases ks with
  | nil=>have:=M.2.2.2.2.2 (by simp);simp at this
  | cons a r=>
   cases C with
   | nil=>simp at E
   | cons u us=>
    obtain⟨g,rfl,d⟩:=j (by simp);obtain⟨T,x,I⟩:=d.fi 0 (by simp);have O:=X 0 (by simp) (by simp);simp only[UZ]at I O;subst I;have H:=VX r r.length (X5 _);rw[JY]at H;have a4:r.length=us.length:=by simpa using E
    exact Wrt.of (T:=140) (F:=218) (by simp[Zc]) (fun w v t A B y=>X6c A B 12 o n c s g J T x (tb a) _ us (r.map tb) N (by simp at y⊢;omega) d O) (by simp[←a4,H])
 .obtain⟨a,U,a3,rfl⟩:=Wf ks (M.2.2.1 rfl);obtain⟨g,rfl,d⟩:=j (by simp);exact Wrt.of (T:=141) (F:=221) (by simp[Zc]) (fun w v t A B y=>X6n A B 13 o n c s g J d (fun e=>by rw[e]at E;cases E) y) (by simp[←E])
 .obtain⟨a,U,rfl⟩:=QR ks (M.2.1 (by simp));obtain⟨u,u2,rfl⟩:=QR C (show C.length=2 from E.symm);obtain⟨g,rfl,d⟩:=j (by simp);exact Wrt.of (T:=142) (F:=225) (by simp[Zc]) (fun w v t A B y=>X6q A B 14 o n c s g J d (by simp) (by simp at y;omega) y) (by simp)
 .obtain⟨q',z,rfl⟩:=WU ks (M.2.2.2.2.2 (by simp));obtain⟨g,rfl,d⟩:=j (by simp);have S:C.length=q'.length+1:=by rw[←E];simp
  have H:=VX (q'++[z]) q'.length (by simp);rw[List.take_left,JI,List.map_singleton,show tb z=bts (P z)from rfl]at H;have e2:((q'++[z]).map tb)[q'.length]?.getD []=tb z:=by simp
  rw[S]at N⊢;exact Wrt.of (T:=143) (F:=228) (by simp[Zc]) (fun w v t A B y=>X6m A B 15 o n c s g J q'.length C _ d S N (by simp at y⊢;omega)) (by simp[H])
 .rcases M.2.2.2.1 rfl with e|e
  .obtain⟨a,U,rfl⟩:=QR ks e;obtain⟨u,u2,rfl⟩:=QR C (show C.length=2 from E.symm);obtain⟨g,rfl,d⟩:=j (by simp);obtain⟨T,x,I⟩:=d.fi 0 (by simp);obtain⟨T2,x2,L⟩:=d.fi 1 (by simp);simp only[List.getElem_cons_succ,UZ]at I L;subst I L;exact Wrt.of (T:=144) (F:=230) (by simp[Zc]) (fun w v t A B y=>X6f A B 16 o n c s g J T T2 x x2 (tb a) (tb U) y d) (by simp)
  .obtain⟨a,U,a3,rfl⟩:=Wf ks e;obtain⟨u,u2,u3,rfl⟩:=Wf C (show C.length=3 from E.symm);obtain⟨g,rfl,d⟩:=j (by simp);obtain⟨T,x,I⟩:=d.fi 0 (by simp);obtain⟨T2,x2,L⟩:=d.fi 1 (by simp);simp only[List.getElem_cons_succ,UZ]at I L;subst I L;exact Wrt.of (T:=144) (F:=230) (by simp[Zc]) (fun w v t A B y=>X6g A B 16 o n c s g J T T2 x x2 u3 (tb a) (tb U) (tb a3) N y d) (by simp)
 .obtain⟨a,rfl⟩:=ZG ks (M.1 (by simp));obtain⟨u,rfl⟩:=ZG C (show C.length=1 from E.symm);obtain⟨g,rfl,d⟩:=j (by simp);cases e:K6 s
  .exact Wrt.of (T:=145) (F:=231) (by simp[Zc]) (fun w v t A B y=>X6k A B 17 o n c s g _ u (tb a) V e hG.mp d (by simp at y⊢;omega)) (by simp[e])
  .exact Wrt.of (T:=145) (F:=231) (by simp[Zc]) (fun w v t A B y=>X6j A B 17 o n c s g _ u (tb a) V e hG.mp d (by simp at y⊢;omega)) (by simp[e])
 .obtain⟨a,rfl⟩:=ZG ks (M.1 (by simp));obtain⟨u,rfl⟩:=ZG C (show C.length=1 from E.symm);obtain⟨g,rfl,d⟩:=j (by simp);exact Wrt.of (T:=146) (F:=233) (by simp[Zc]) (fun w v t A B y=>X6u A B 18 o n c s g J d (by simp) (by simp at y;omega) y) (by simp)
 .rcases M.2.2.2.2.1 rfl with e|e
  .obtain rfl:=Uy.1 e;obtain rfl:=Uy.1 (show C.length=0 from E.symm);exact Wrt.of (T:=147) (F:=234) (by simp[Zc]) (fun w v t A B y=>X6y A B 19 o n c s q J (by simpa using y)) (by simp)
  .obtain⟨a,rfl⟩:=ZG ks e;obtain⟨u,rfl⟩:=ZG C (show C.length=1 from E.symm);obtain⟨g,rfl,d⟩:=j (by simp);exact Wrt.of (T:=147) (F:=234) (by simp[Zc]) (fun w v t A B y=>X6z A B 19 o n c s g _ u (tb a) d (by simp at y⊢;omega)) (by simp)
 .obtain⟨q',z,rfl⟩:=WU ks (M.2.2.2.2.2 (by simp));obtain⟨g,rfl,d⟩:=j (by simp);have S:C.length=q'.length+1:=by rw[←E];simp
  have H:=VX (q'++[z]) q'.length (by simp);rw[List.take_left,JI,List.map_singleton,show tb z=bts (P z)from rfl]at H;have e2:((q'++[z]).map tb)[q'.length]?.getD []=tb z:=by simp
  rw[S]at N⊢;exact Wrt.of (T:=148) (F:=235) (by simp[Zc]) (fun w v t A B y=>X6d A B 20 o n c s g J q'.length C _ d S N (by simp at y⊢;omega)) (by simp[H])
 .obtain⟨a,rfl⟩:=ZG ks (M.1 (by simp));obtain⟨u,rfl⟩:=ZG C (show C.length=1 from E.symm);obtain⟨g,rfl,d⟩:=j (by simp);exact Wrt.of (T:=149) (F:=236) (by simp[Zc]) (fun w v t A B y=>X7b A B 21 o n c s g J d (by simp) (by simp at y;omega) y) (by simp)
 .obtain⟨a,rfl⟩:=ZG ks (M.1 (by simp));obtain⟨u,rfl⟩:=ZG C (show C.length=1 from E.symm);obtain⟨g,rfl,d⟩:=j (by simp);exact Wrt.of (T:=150) (F:=237) (by simp[Zc]) (fun w v t A B y=>X6h A B 22 o n c s g J d (by simp) y) (by simp)
 .obtain⟨g,rfl,d⟩:=j (M.2.2.2.2.2 (by simp));have H:=VX ks ks.length (X5 _);rw[JY]at H;exact Wrt.of (T:=151) (F:=238) (by simp[Zc]) (fun w v t A B y=>X6s A B 23 o n c s g J d V (by simp at y⊢;omega)) (by simp[←E,H])
 .obtain⟨g,W,d⟩:=Q;have H:=Al ks ks.length (X5 _);rw[JY]at H;exact Wrt.of (T:=152) (F:=239) (by simp[Zc]) (fun w v t A B y=>X6l A B 24 o n c s q g J d W y) (by simp[←E,H,Mg])
end
open Rb
theorem Be{g:Value->List Nd->Prop}{Q:Value->Fd->Prop}(h:∀v l,g v l->∃y:Fd,y.Xy=l/\Q v y):∀{d:List Value} {l:List Nd},Ip.Kids g d l->∃ks:List Fd,Fd.Xy.giveL ks=l/\ks.length=d.length/\∀i (h:i<d.length) (s:i<ks.length),Q d[i] ks[i]
 | [],_,e=>⟨[],by rw[show _=[]from e];simp[Fd.Xy.giveL],rfl,fun i h=>absurd h (JK _)⟩
 | v::vs,_,⟨a,r,h1,h2,h3⟩=>by
  obtain⟨y,e,n⟩:=h _ _ h1;obtain⟨ks,j,m,k⟩:=Be h h2;refine⟨y::ks,by rw[Fd.Jh,e,j,h3],by simp[m],fun i hi hi'=>?_⟩;cases i with
  | zero=>exact n
  | succ i=>exact k i (by simpa using hi) (by simpa using hi')
section
variable {K:Nat->Prop} {w0:World} {ob mb:Nat}
theorem Eo(E:Gl w0 K ob mb){B:Nat->Prop}(O:∀q,B q->K q):∀(n:Nat) (v:Value) (l:List Nd),Ip.At B w0 n v l->∃y:Fd,y.Xy=l/\((∃T x,v= .iface T x)/\(y.VF=true->(∀z∈y.Xy,z.n<=9223372036854775807)->Wrt w0 K ob (.map (some mb)) v (tb y)/\Rkd w0 K ob v (rk y.x:Nat)))
 | n+1,v,l,⟨x,sl,xs,r,hv,hk,hrow,hbl,hkids,hl⟩=>by
  obtain⟨ks,U,M,N⟩:=Be (fun v l h=>Eo E O n v l h) hkids;refine⟨.mk x 0 0 ks,?_,⟨_,_,hv⟩,fun u J=>?_⟩
  .rw[Fd.Zh,U,hl,M,←hk]
  .have h:=Nf.of u;have H:=(Wj u).2.2.2;rw[Fd.Zh]at J;have d:=fun i (h:i<xs.length) (j:i<ks.length)=>(N i h j).2 (H _ (YJ j)) (fun z L=>J z (List.mem_append_left _ (G9 (YJ j) L)));have I:x.n<=9223372036854775807:=J {x with kids:=ks.length} (by simp);have a:=h.few;obtain⟨W,X,Z,V⟩:=Ik.num h.pl;obtain⟨p,A,F⟩:=XA hrow;subst F hv;obtain⟨k,o,m,s,c⟩:=x;have Q:(xs=[]\/∃g,p=some ⟨g,0,none⟩/\KD w0 K ob (.map (some mb)) xs (ks.map tb) g 0)/\xs.length<=A:=by
    rcases hrow.2 with⟨e,C⟩|⟨g,cap,S,e,_⟩
    .have C:xs.length=0:=C;exact⟨.inl (Qx C),by omega⟩
    .obtain⟨rfl,rfl⟩:p=some ⟨g,0,none⟩/\A=cap:=by simpa using e
     refine⟨.inr ⟨g,rfl,fun i hi=>(N i hi (by omega)).1,fun _=>O g (hbl g rfl),fun i hi=>?_,fun i hi=>?_,by omega⟩,(J8 hrow).1⟩
     .rw[Xu];exact JU hrow (by simp[hi])
     .have:=(d i hi (by omega)).1;simpa[show i<ks.length by omega]using this
   exact⟨Y3q E k o m c s xs ks p A Q.1 Q.2 M (fun i h j=>(d i h j).2) h I,Y0d E k o m c s _ ⟨a.2.1,a.2.2⟩ V⟩
end
theorem O7:prog.globalNamed "internal/strconv.uint64pow10"=some 4:=by kernel_rfl
structure GA (w:World):Prop where
 op:Ip.Zy w
 tab:Lib.TabIs prog w "internal/strconv.uint64pow10" .u64 Lib.pow10Tab
 sz:4<w.heap.size
theorem GA.same{w w':World}(h:GA w)(d:∀q,q<=4->w'.heap[q]?=w.heap[q]?)(k:4<w'.heap.size):GA w':=by
 refine⟨fun o g=>?_,?_,k⟩
 .have c:=fun j=>XQ (a:=⟨0,j,none⟩) (d 0 (Xb _));exact⟨(c _).trans (h.op o g).1,(c _).trans (h.op o g).2⟩
 .have:=h.tab;unfold Lib.TabIs World.var? at this⊢;rw[O7]at this⊢;simp only[Option.bind_some]at this⊢;rw[d _ (X5 _)];exact this
theorem GA.below{w w':World}(h:GA w)(a:BL w w'):GA w':=h.same (fun q d=>a.block q (Ib d h.sz)) (XH h.sz a.size)
theorem TE{w:World}{base:Nat}{t:List UInt8}{v:Value}(h:w.ownsRow base 5 1 v t.length (Y6 t)):(convert 22 9 v).run prog w= .ok (.string ⟨t.toArray⟩) w:=by
 rcases h.2 with⟨a,d⟩|⟨g,cap,_,a,_⟩
 .obtain rfl:t=[]:=Qx d;subst a;clear h;kernel_rfl
 .subst a;exact WH h
theorem Xfb{w d m k:World}{mb:Nat}{v:Value}{ns:List Nd}(M:GA w)(L:BL w k)(h2:w.heap.size<d.heap.size)(J:m=d.z #[.slice none 0 0,.map (some mb)] 42)(hm:m.ownsMap (H:=Unit) prog 9 unitElem mb 17 Sc.Q6)(a1:mb<d.heap.size)(u:BL m k)(hp:Ip.Pt m.heap.size k v ns)(N:YG ns=true)(h5:ns.length<=5000)(hN:∀x∈ns,x.n<=9223372036854775807): Mn v "loop.example/kilnclay/impl.write" (.p d.heap.size) k fun e w'=>e= .returned (.tuple #[])/\∃v',PtR d.heap.size (.map (some mb)) v' (txt (root ns)) w'/\Below d.heap.size k w':=by
 have hz:m.heap.size=d.heap.size+1:=by rw[J,Yx]
 have h4:=u.size;have X:k.heap[d.heap.size]?=some (.cells #[.slice none 0 0,.map (some mb)] 42):=(u.block _ (by omega)).trans (by rw[J];exact YV _ _);have a0:=M.sz;have kk:KpW (fun q=>q≠d.heap.size/\q<k.heap.size) k d.heap.size (.slice none 0 0) k:=⟨fun _ _=>rfl,fun _ h=>h.2,fun _ h=>h.1,fun _ _ e=>by cases e⟩;have pr:PtR d.heap.size (.map (some mb)) (.slice none 0 0) [] k:=⟨by omega,by rw[World.cell?,X];rfl,by rw[World.cell?,X];rfl,fun j=>by rw[World.frozen?,X];simp,K7 _ _ _ _⟩;have A:Gl k (fun q=>q≠d.heap.size/\q<k.heap.size) d.heap.size mb:=by
  have U:=M.below L;have V:=L.size;have g:∀w' v',KpW (fun q=>q≠d.heap.size/\q<k.heap.size) k d.heap.size v' w'->GA w':=fun w' v' h=>U.same (fun q hq=>h.same q ⟨by omega,by omega⟩) (h.lt _ ⟨by omega,by omega⟩);refine⟨fun w' v' h=>⟨(g w' v' h).op,Ib (Xb _) (g w' v' h).sz⟩,fun w' v' h=>(g w' v' h).tab,fun w' v' h=>?_⟩;obtain⟨Q,cl,s,F,hs,Z⟩:=hm;exact⟨Q,cl,(h.same mb ⟨by omega,by omega⟩).trans ((u.block mb (by omega)).trans s),F,hs,Z⟩
 obtain⟨n,B⟩:=hp;obtain⟨y,E,_,hW⟩:=Eo A (fun q e=>⟨by omega,e.2⟩) n _ _ B;have hr:=Pq N;have I:y.Xy=(root ns).Xy:=E.trans hr.symm;have O:=Y3c I (CI N).1;have s:∀z∈y.Xy,z.n<=9223372036854775807:=by rw[E];exact hN
 have hl:=Y2d _ y (X5 _) O s;rw[←Fd.X1w _ y (X5 _),E]at hl;have S:tb y=txt (root ns):=by unfold tb txt;rw[F2 I]
 obtain⟨f,r,C,W⟩:=(hW O s).1 k _ [] kk pr (by show 0+(bts (P y)).length<=_;omega);refine⟨f,r,C,W.mono fun e w' h=>?_⟩;obtain⟨a,v',p,g⟩:=h;rw[JJ,S]at p;exact⟨a,v',p,g.mv.os,g.mv.tape,g.mv.output,by have:=g.mv.size;omega,fun q hq=>g.mv.block q (by omega) (fun e=>by rcases e with e|e;omega;cases e)⟩
theorem X5i(ns:List Nd)(u tc:Nat)(w:World)(hn:ns.length<=1048576)(F:∀x∈ns,x.text.size<=1048576)(Z:K1 w u ns)(hN:∀x∈ns,x.n<=9223372036854775807)(hG:GA w): CB 5 #[.agg #[.l u ns.length tc]] w (.string (prn ns)):=by
 have HN:=X1 hN;have HG:=X1 hG;have r1:BL w (w.z #[.l u ns.length tc] 25):=bA _;have v:=X1 (On ns u tc _ hn F (Z.below r1));rw[Iw]at v;have HT:=X1 Z;clear Z hN hG F;cases A:YG ns
 .rw[A]at v;rw[GI A];go_enter func5,ntmps5;go_wp2_with fail;go_fit v.o;rintro e r⟨rfl,y⟩;go_wp2;go_ret;exact⟨rfl,r1.trans (y.mono r1.size)⟩
 .rw[A]at v;have V:ns.length<=5000/\Qc ns=true:=by
   have h:=A;unfold YG at h;simp only[XE]at h;have:=KP h.1.1.1;exact⟨by omega,h.1.2⟩
  obtain⟨h5,E⟩:=V;have B:=X1 A;have Q:=X1 E;have c0:(w.z #[.l u ns.length tc] 25).cell? ⟨w.heap.size,0,none⟩=some (.l u ns.length tc):=by simp
  clear A E;go_enter func5,ntmps5;go_wp2_with fail;go_fit v.o;rintro e r⟨rfl,y⟩;have t0:=(y.cell (p:=⟨w.heap.size,0,none⟩) (by simp)).trans c0;have B1:=r1.trans (y.mono r1.size);have X:w.heap.size<r.heap.size:=by have:=y.size;simp at this;omega
  clear y c0 v;go_wp2_with fail;go_fit(M7 r);rintro e a⟨rfl,s,I⟩;have t1:=(I.cell (p:=⟨w.heap.size,0,none⟩) X).trans t0;have B2:=B1.trans (I.mono B1.size);have d:w.heap.size<a.heap.size:=by have:=I.size;omega
  have W:r.heap.size<a.heap.size:=s.lt;have r3:BL a (a.z #[.slice none 0 0,.map (some r.heap.size)] 42):=bA _;have t2:=(r3.cell (p:=⟨w.heap.size,0,none⟩) d).trans t1;have S:=X1 (s.alloc (.cells #[.slice none 0 0,.map (some r.heap.size)] 42));have H:=B2.trans (r3.mono B2.size);have HP:=X1 (Xdp ns u tc _ h5 Q.o (HT.o.below H));have a0:=X1 (YV a (.cells #[.slice none 0 0,.map (some r.heap.size)] 42));have a3:a.heap.size<(a.z #[.slice none 0 0,.map (some r.heap.size)] 42).heap.size:=by simp
  clear I s t0 t1 r3 r1;go_wp2_with fail;go_fit HP.o;rintro e w4⟨t7,u7,rfl,hp,J⟩;have M:=H.trans (J.mono H.size);have U:=X1 (Xfb HG.o M d rfl S.o W J hp B.o h5 HN.o);have a2:a.heap.size<w4.heap.size:=by have:=J.size;omega
  clear hp J HP t2 H;obtain⟨t,L⟩:∃t,t=txt (root ns):=⟨_,rfl⟩;rw[←L]at U;have k:(⟨t.toArray⟩:ByteArray).data.toList=txt (root ns):=by rw[L]
  have j:(⟨t.toArray⟩:ByteArray).size=t.length:=by show t.toArray.size=_;rw[List.size_toArray]
  by_cases h8:(8000:Int)<(t.length:Int)
  .have O:=X1 (Cl k (by rw[j];exact h8));clear k j L;go_wp2_with(show wpList _ _ _ ({dst:=_,op:=Op.call {callee:=Callee.invoke _ _,args:=_,argTypes:=_},type:=_,pos:=_,after:=_,guard:=_}::_) _ _;refine Wl rfl (.tmp 10) (.tmp 3) _ rfl (.iface t7 u7) (.p a.heap.size) _ (by first|(simp[Act.eval];done)|simp[Act.eval,Act.put]) (by first|(simp[Act.eval];done)|simp[Act.eval,Act.put]) U.o ?_;rintro w5⟨v5,m,C⟩;have N:=M.trans (C.mono (Du d));clear C;obtain⟨p,c,hf⟩:=m.form;subst hf;have q0:=m.c0;clear m);go_ret;exact⟨by have:=O.o;simp[this],N⟩
  .have O:=X1 (Cj B.o k (by rw[j];exact h8));clear k j L;go_wp2_with(show wpList _ _ _ ({dst:=_,op:=Op.call {callee:=Callee.invoke _ _,args:=_,argTypes:=_},type:=_,pos:=_,after:=_,guard:=_}::_) _ _;refine Wl rfl (.tmp 10) (.tmp 3) _ rfl (.iface t7 u7) (.p a.heap.size) _ (by first|(simp[Act.eval];done)|simp[Act.eval,Act.put]) (by first|(simp[Act.eval];done)|simp[Act.eval,Act.put]) U.o ?_;rintro w5⟨v5,m,C⟩;have N:=M.trans (C.mono (Du d));clear C;rcases m.row.2 with⟨e1,e2⟩|⟨g,cap,_,e1,_⟩;(case' inl=>obtain rfl:t=[]:=Qx e2);all_goals(subst e1;have q0:=m.c0;have a1:=TE m.row;clear m));all_goals
    go_wp2;go_ret;exact⟨by have:=O.o;simp[this],N⟩
