import Derived.Test.YtkoiikmhfaebnaaGreatDoorB06
import Derived.Test.YtkoiikmhfaebnaaGreatDoorB07
import Derived.Test.YtkoiikmhfaebnaaGreatDoorB02
set_option maxHeartbeats 4000000
set_option maxRecDepth 100000
namespace Go.Proofs.YtkoiikmhfaebnaaGreatDoor
open Tryz Go.RowKit
theorem Xab(kind:Int)(ns:List Nd)(ls:List Nat)(d j g c:Nat)(w:World)(k:ls.length<=1048576)(l:Yw w d ns)(hi:Yz w g 0 ls)(a:∀x∈ls,x<ns.length)(m:ls.length<=c): Calls prog 136 #[.agg #[.slice (some ⟨d,0,none⟩) ns.length j],.int .i64 kind,.slice (some ⟨g,0,none⟩) ls.length c] w fun e w'=>e= .returned (.bool (XA ns kind ls))/\Below w.heap.size w w':=by
 by_cases t:kind<1\/24<kind
 .exact Xad kind ns ls d j g c w k l hi a t
 by_cases u:kind=9
 .exact Xaa kind ns ls d j g c w k l hi a u
 by_cases n:kind=12
 .exact X9v kind ns ls d j g c w k l hi a n m
 by_cases q:kind=15\/kind=20
 .exact Xac kind ns ls d j g c w k l hi a q
 by_cases r:kind=23
 .exact X9y kind ns ls d j g c w k l hi a r
 by_cases s:kind=24
 .exact X9z kind ns ls d j g c w k l hi a s
 exact Xae kind ns ls d j g c w k l hi a (by omega)
theorem Tm(ns:List Nd)(i:Nat)(op:List Nat)(h:∀x∈op,x<i):∀j ks,(Xv ns i op).1[j]?=some ks->∀x∈ks,x<i+j:=by
 induction ns generalizing i op with
 | nil=>intro j ks a;simp[Xv]at a
 | cons d r m=>
  intro j ks a x l;by_cases k:d.kids<0\/(op.length:Int)<d.kids
  .simp[Xv,k]at a
  .have e:(Xv (d::r) i op).1=op.drop (op.length-d.kids.toNat)::(Xv r (i+1) (op.take (op.length-d.kids.toNat)++[i])).1:=by
    rw[Xv,X2 k]
   have g:∀x∈op.take (op.length-d.kids.toNat)++[i],x<i+1:=by
    intro y c;rcases K7.1 c with c|c
    .have:=h y (UC c);omega
    .have:y=i:=by simpa using c
     omega
   rw[e]at a;cases j with
   | zero=>
    rw[KO]at a;cases a;exact h x (KQ l)
   | succ j=>
    rw[Q7]at a;have:=m (i+1) _ g j ks a x l;omega
theorem WJ(ns:List Nd)(j:Nat)(a:j<(Xc ns).length):∀x∈(Xc ns)[j],x<j:=by
 intro x c;have:=Tm ns 0 [] (fun x h=>by cases h) j _ (YH a) x c;omega
theorem Tn(ns:List Nd)(i:Nat)(op:List Nat):∀j ks,(Xv ns i op).1[j]?=some ks->ks.length<=op.length+j:=by
 induction ns generalizing i op with
 | nil=>intro j ks a;simp[Xv]at a
 | cons d r g=>
  intro j ks a;by_cases c:d.kids<0\/(op.length:Int)<d.kids
  .simp[Xv,c]at a
  .have e:(Xv (d::r) i op).1=op.drop (op.length-d.kids.toNat)::(Xv r (i+1) (op.take (op.length-d.kids.toNat)++[i])).1:=by
    rw[Xv,X2 c]
   rw[e]at a;cases j with
   | zero=>
    rw[KO]at a;cases a;simp
   | succ j=>
    rw[Q7]at a;have:=g (i+1) _ j ks a;simp at this;omega
theorem Ao(ns:List Nd)(j:Nat)(a:j<(Xc ns).length):((Xc ns)[j]).length<=j:=by
 have:=Tn ns 0 [] j _ (YH a);simpa using this
theorem Aq(ns:List Nd)(i:Nat)(op:List Nat):(Xv ns i op).1.length<=ns.length/\((Xv ns i op).2≠none->(Xv ns i op).1.length=ns.length):=by
 induction ns generalizing i op with
 | nil=>simp[Xv]
 | cons d r c=>
  by_cases a:d.kids<0\/(op.length:Int)<d.kids
  .simp[Xv,a]
  .have:=c (i+1) (op.take (op.length-d.kids.toNat)++[i]);simp only[Xv,X2 a,Ya];exact⟨by omega,fun h=>by have:=this.2 h;omega⟩
theorem Vn{ns:List Nd}(h:Kk ns=true):(Xc ns).length=ns.length:=by
 refine(Aq ns 0 []).2 fun e=>?_;unfold Kk at h;rw[e]at h;cases h
abbrev Kn:=ByteArray × Nat
structure St where
 Xj:List Int
 binds:List Int
def Xq(k:Nat)(c:Int)(s:St):St:=if s.Xj[k]?.getD 0=0\/c<s.Xj[k]?.getD 0 then {s with Xj:=s.Xj.set k c}else s
def Xi(ns:List Nd)(k:Nat):ByteArray:=(ns[k]?.map (·.text)).getD ⟨#[]⟩
def XE(x:ByteArray):List Kn->Option Nat
 | []=>none
 | p::r=>match XE x r with
  | some a=>some a
  | none=>if p.1=x then some p.2 else none
def Q9:List (List UInt8):=[[98,101,103,105,110,115],[99,117,116],[102,97,105,108],[102,105,108,101,115],[105,110,116],[106,111,105,110],[107,101,121,115],[108,101,110],[114,97,110,103,101],[114,101,99,111,114,100],[115,111,114,116,101,100],[115,112,108,105,116],[116,101,120,116],[117,110,105,113,117,101],[119,105,116,104,111,117,116]]
def K9(ns:List Nd)(k:Nat)(kn:List Kn)(s:St):St:=match XE (Xi ns k) kn with
 | some a=>{s with binds:=s.binds.set k a}
 | none=>if(Xi ns k).data.toList∈Q9 then {s with binds:=s.binds.set k (-2)}else Xq k 9 s
def X9(ks:List (List Nat))(k:Nat):List Nat:=ks[k]?.getD []
def Z1(ns:List Nd)(p:Nat)(seen:List Nat)(s:St):St:=seen.foldl (fun s x=>if Xi ns x=Xi ns p then Xq p 8 s else s) s
def Zv(G:Nat->List Kn->St->St)(ns:List Nd)(ks:List (List Nat))(p:Nat)(seen:List Nat)(kn:List Kn)(df:Bool)(s:St):St:=match X9 ks p with
 | []=>if df=true then Xq p 10 (Z1 ns p seen s)else Z1 ns p seen s
 | c::_=>G c kn (Z1 ns p seen s)
def Yd(G:Nat->List Kn->St->St)(ns:List Nd)(ks:List (List Nat)):List Nat->List Nat->List Kn->Bool->St->St
 | [],_,_,_,s=>s
 | [x],_,kn,_,s=>G x kn s
 | p::q::r,seen,kn,df,s=>
  Yd G ns ks (q::r) (seen++[p]) (kn++[(Xi ns p,p)]) (df||!decide ((X9 ks p).length=0)) (Zv G ns ks p seen kn df s)
def KS(G:Nat->List Kn->St->St)(kn more:List Kn)(s:St):List Nat->St
 | []=>s
 | x::r=>r.foldl (fun s y=>G y more s) (G x kn s)
def Xg(ns:List Nd)(ks:List (List Nat)):Nat->Nat->List Kn->St->St
 | 0,_,_,s=>s
 | f+1,k,kn,s=>
  if X8 ns k=5 then K9 ns k kn s
  else if X8 ns k=23 then s
  else if X8 ns k=15\/X8 ns k=20 then Yd (Xg ns ks f) ns ks (X9 ks k) [] kn false s
  else if X8 ns k=14\/X8 ns k=16 then KS (Xg ns ks f) kn (kn++[(Xi ns k,k)]) s (X9 ks k)
  else(X9 ks k).foldl (fun s y=>Xg ns ks f y kn s) s
structure Kp (cg bg:Nat) (w w':World):Prop where
 os:w'.os=w.os
 tape:w'.tape=w.tape
 output:w'.output=w.output
 size:w.heap.size<=w'.heap.size
 block:∀b,b<w.heap.size->b≠cg->b≠bg->w'.heap[b]?=w.heap[b]?
theorem Kp.refl(cg bg:Nat)(w:World):Kp cg bg w w:=⟨rfl,rfl,rfl,X4 _,fun _ _ _ _=>rfl⟩
theorem Kp.trans{cg bg:Nat}{w w' c:World}(h:Kp cg bg w w')(a:Kp cg bg w' c):Kp cg bg w c:=⟨a.os.trans h.os,a.tape.trans h.tape,a.output.trans h.output,XO h.size a.size,fun b j d g=>(a.block b (Xd j h.size) d g).trans (h.block b j d g)⟩
theorem Kp.Ky{cg bg:Nat}{w w':World}(h:BL w w'):Kp cg bg w w':=⟨h.os,h.tape,h.output,h.size,fun b a _ _=>h.block b a⟩
theorem Kp.below{cg bg:Nat}{w w' a:World}(h:Kp cg bg w w')(c:BL w' a):Kp cg bg w a:=h.trans (.Ky c)
theorem Kp.alloc{cg bg:Nat}{w w':World}(h:Kp cg bg w w')(o:Obj):Kp cg bg w (w'.alloc o):=h.below (bA o)
theorem Kp.drew{cg bg:Nat}{w w':World}(h:Kp cg bg w w'):Kp cg bg w w'.drew:=h.below (X5 _ _).drew
theorem Kp.setCell{cg bg:Nat}{w w':World}(h:Kp cg bg w w')(a:Addr)(v:Value)(g:a.block=cg\/a.block=bg):Kp cg bg w (w'.setCell a v):=h.trans ⟨rfl,rfl,rfl,by simp,fun b _ c d=>Y4 _ _ _ _ (by omega)⟩
theorem Kp.cell{cg bg:Nat}{w w':World}(h:Kp cg bg w w'){p:Addr}(d:p.block<w.heap.size)(a:p.block≠cg)(c:p.block≠bg):w'.cell? p=w.cell? p:=Xy (h.block p.block d a c)
def Vd(w:World)(g:Nat)(kn:List Kn):Prop:=g<w.heap.size/\∀j (h:j<kn.length),w.cell? ⟨g,j*2,none⟩=some (.string kn[j].1)/\w.cell? ⟨g,j*2+1,none⟩=some (.int .i64 kn[j].2)
theorem Vd.kept{cg bg:Nat}{w w':World}{g:Nat}{l:List Kn}(h:Vd w g l)(a:Kp cg bg w w')(c:g≠cg)(d:g≠bg):Vd w' g l:=⟨Xd h.1 a.size,fun j k=>⟨(a.cell (p:=⟨g,j*2,none⟩) h.1 c d).trans (h.2 j k).1,(a.cell (p:=⟨g,j*2+1,none⟩) h.1 c d).trans (h.2 j k).2⟩⟩
def Ym(kn:List Kn):List Value:=kn.flatMap fun p=>[.string p.1,.int .i64 p.2]
theorem I8(a:List Kn):(Ym a).length=a.length*2:=by
 induction a with
 | nil=>rfl
 | cons x r c=>rw[show Ym (x::r)=[.string x.1,.int .i64 x.2]++Ym r from rfl,Xo,c,Ya];simp;omega
theorem Pm(a:List Kn)(i:Nat)(h:i<a.length):(Ym a)[i*2]?=some (.string a[i].1)/\(Ym a)[i*2+1]?=some (.int .i64 a[i].2):=by
 induction a generalizing i with
 | nil=>simp at h
 | cons x r c=>
  rw[show Ym (x::r)=[.string x.1,.int .i64 x.2]++Ym r from rfl]
  match i,h with
  | 0,_=>simp
  | i+1,h=>
   have:=c i (by simpa using h);refine⟨?_,?_⟩;all_goals rw[K6 (by simp;omega)]
   .rw[show(i+1)*2-([.string x.1,.int .i64 x.2]:List Value).length=i*2 from by simp;omega];exact this.1
   .rw[show(i+1)*2+1-([.string x.1,.int .i64 x.2]:List Value).length=i*2+1 from by simp;omega];exact this.2
theorem IN{w:World}{base:Nat}{e:TypeId}{g c:Nat}{a:List Kn}(h:w.ownsRow base e 2 (.slice (some ⟨g,0,none⟩) a.length c) a.length (Ym a)):Vd w g a:=by
 refine⟨(Qx h).2.2,fun i hi=>?_⟩;obtain⟨d,j⟩:=Pm a i hi;exact⟨(h.cellAt (i*2) (by omega)).trans d,(h.cellAt (i*2+1) (by omega)).trans j⟩
theorem Ub(d:List Kn):∀u∈Ym d,u.oneCell'=true:=by
 intro u c;obtain⟨p,_,a⟩:=GR.1 c;simp only[Y6,ZA,Zy]at a;rcases a with rfl|rfl<;>rfl
theorem Mw{w:World}{g:Nat}{a:List Kn}(h:Vd w g a):∀j u,(Ym a)[j]?=some u->w.cell? ((⟨g,0,none⟩:Addr).add j)=some u:=by
 intro j u c;have k:j<a.length*2:=by have:=(GQ.1 c).1;rwa[I8]at this
 rw[Vq,Xn];rcases Nat.mod_two_eq_zero_or_one j with d|d
 .obtain⟨i,rfl⟩:∃i,j=i*2:=⟨j / 2,by omega⟩;rw[(h.2 i (by omega)).1,←c];exact(Pm a i (by omega)).1.symm
 .obtain⟨i,rfl⟩:∃i,j=i*2+1:=⟨j / 2,by omega⟩;rw[(h.2 i (by omega)).2,←c];exact(Pm a i (by omega)).2.symm
structure Fx (ns:List Nd) (ks:List (List Nat)) (wb tg tc kg kc cg bg:Nat) (w:World):Prop where
 wb1:wb≠cg
 wb2:wb≠bg
 tg1:tg≠cg
 tg2:tg≠bg
 kg1:kg≠cg
 kg2:kg≠bg
 wlt:wb<w.heap.size
 klt:kg<w.heap.size
 f0:w.cell? ⟨wb,0,none⟩=some (.slice (some ⟨tg,0,none⟩) ns.length tc)
 f1:w.cell? ⟨wb,1,none⟩=some (.slice (some ⟨kg,0,none⟩) ns.length kc)
 f2:w.cell? ⟨wb,2,none⟩=some (.slice (some ⟨cg,0,none⟩) ns.length ns.length)
 f3:w.cell? ⟨wb,3,none⟩=some (.slice (some ⟨bg,0,none⟩) ns.length ns.length)
 nodes:Yw w tg ns
 len:ks.length=ns.length
 kids:∀k (h:k<ks.length),∃g c,w.cell? ⟨kg,k,none⟩=some (.slice (some ⟨g,0,none⟩) (ks[k]).length c)/\g≠cg/\g≠bg/\Yz w g 0 ks[k]
theorem Fx.kept{ns:List Nd}{ks:List (List Nat)}{n m t r s cg bg:Nat}{w w':World}(h:Fx ns ks n m t r s cg bg w)(l:Kp cg bg w w'):Fx ns ks n m t r s cg bg w':=by
 refine⟨h.wb1,h.wb2,h.tg1,h.tg2,h.kg1,h.kg2,Xd h.wlt l.size,Xd h.klt l.size,?_,?_,?_,?_,?_,h.len,?_⟩
 .exact(l.cell (p:=⟨n,0,none⟩) h.wlt h.wb1 h.wb2).trans h.f0
 .exact(l.cell (p:=⟨n,1,none⟩) h.wlt h.wb1 h.wb2).trans h.f1
 .exact(l.cell (p:=⟨n,2,none⟩) h.wlt h.wb1 h.wb2).trans h.f2
 .exact(l.cell (p:=⟨n,3,none⟩) h.wlt h.wb1 h.wb2).trans h.f3
 .refine⟨Xd h.nodes.1 l.size,fun i hi=>?_⟩;obtain⟨a,b,c,d,e⟩:=h.nodes.2 i hi;exact⟨(l.cell (p:=⟨m,i*5,none⟩) h.nodes.1 h.tg1 h.tg2).trans a,(l.cell (p:=⟨m,i*5+1,none⟩) h.nodes.1 h.tg1 h.tg2).trans b,(l.cell (p:=⟨m,i*5+2,none⟩) h.nodes.1 h.tg1 h.tg2).trans c,(l.cell (p:=⟨m,i*5+3,none⟩) h.nodes.1 h.tg1 h.tg2).trans d,(l.cell (p:=⟨m,i*5+4,none⟩) h.nodes.1 h.tg1 h.tg2).trans e⟩
 .intro k q;obtain⟨g,c,a,b,d,e⟩:=h.kids k q;exact⟨g,c,(l.cell (p:=⟨r,k,none⟩) h.klt h.kg1 h.kg2).trans a,b,d,Xd e.1 l.size,fun j u=>(l.cell (p:=⟨g,0+j,none⟩) e.1 b d).trans (e.2 j u)⟩
def vi(x:Int):Value:= .int .i64 x
structure Dy (n cg bg:Nat) (s:St) (w:World):Prop where
 ne:cg≠bg
 c:w.ownsRow 0 3 1 (.slice (some ⟨cg,0,none⟩) n n) n (s.Xj.map vi)
 b:w.ownsRow 0 3 1 (.slice (some ⟨bg,0,none⟩) n n) n (s.binds.map vi)
theorem Dy.lens{n cg bg:Nat}{s:St}{w:World}(h:Dy n cg bg s w):s.Xj.length=n/\s.binds.length=n:=by
 have a:=h.c.1;have d:=h.b.1;simp at a d;exact⟨a,d⟩
theorem Q4{w w':World}{base size:Nat}{e:TypeId}{g n a:Nat}{j:List Value}(h:w.ownsRow base e size (.slice (some ⟨g,0,none⟩) n a) n j)(r:w'.heap[g]?=w.heap[g]?):w'.ownsRow base e size (.slice (some ⟨g,0,none⟩) n a) n j:=by
 refine⟨h.1,?_⟩;rcases h.2 with⟨k,_⟩|⟨t,d,c,s,l,m,q⟩
 .cases k
 .cases s;exact .inr ⟨g,a,c,rfl,l,r.trans m,q⟩
theorem Dy.below{n cg bg:Nat}{s:St}{w w':World}(h:Dy n cg bg s w)(a:BL w w'):Dy n cg bg s w':=⟨h.ne,Q4 h.c (a.block cg (h.c.lt cg rfl).2),Q4 h.b (a.block bg (h.b.lt bg rfl).2)⟩
theorem Dy.MZ{n cg bg:Nat}{s:St}{w:World}(h:Dy n cg bg s w)(k:Nat)(v:Int):Dy n cg bg {s with Xj:=s.Xj.set k v} (w.setCell ⟨cg,k,none⟩ (.int .i64 v)):=by
 refine⟨h.ne,?_,Q4 h.b (Y4 _ _ _ _ (by simpa using h.ne.symm))⟩;have:=(h.c.stored k (.int .i64 v)).1;rw[show(s.Xj.set k v).map vi=(s.Xj.map vi).set k (.int .i64 v)from by rw[List.map_set];rfl]
 exact this
theorem Dy.L4{n cg bg:Nat}{s:St}{w:World}(h:Dy n cg bg s w)(k:Nat)(v:Int):Dy n cg bg {s with binds:=s.binds.set k v} (w.setCell ⟨bg,k,none⟩ (.int .i64 v)):=by
 refine⟨h.ne,Q4 h.c (Y4 _ _ _ _ (by simpa using h.ne)),?_⟩;have:=(h.b.stored k (.int .i64 v)).1;rw[show(s.binds.set k v).map vi=(s.binds.map vi).set k (.int .i64 v)from by rw[List.map_set];rfl]
 exact this
theorem Dy.M0{n cg bg:Nat}{s:St}{w:World}(h:Dy n cg bg s w)(k:Nat)(a:k<n):w.cell? ⟨cg,k,none⟩=some (.int .i64 (s.Xj[k]?.getD 0))/\w.frozen? ⟨cg,k,none⟩=false:=by
 refine⟨?_,h.c.frozenAt k⟩;rw[h.c.cellAt k (by omega)];have:=h.lens.1;rw[Vf,YH (by omega)];rfl
theorem Dy.LZ{n cg bg:Nat}{s:St}{w:World}(h:Dy n cg bg s w)(k:Nat)(a:k<n):w.cell? ⟨bg,k,none⟩=some (.int .i64 (s.binds[k]?.getD 0))/\w.frozen? ⟨bg,k,none⟩=false:=by
 refine⟨?_,h.b.frozenAt k⟩;rw[h.b.cellAt k (by omega)];have:=h.lens.2;rw[Vf,YH (by omega)];rfl
theorem Me(ns:List Nd)(ks:List (List Nat))(q y v u t cg bg k:Nat)(c:Int)(s:St)(w:World)(r:k<ns.length)(m:Fx ns ks q y v u t cg bg w)(l:Dy ns.length cg bg s w): Calls prog 133 #[.pointer (some ⟨q,0,none⟩),.int .i64 k,.int .i64 c] w fun e w'=>e= .returned (.tuple #[])/\Kp cg bg w w'/\Dy ns.length cg bg (Xq k c s) w':=by
 have A:=m.f2;obtain⟨B,C⟩:=l.M0 k r;have g:=X1 l;have j:=X1 (show Xq k c s=if s.Xj[k]?.getD 0=0\/c<s.Xj[k]?.getD 0 then {s with Xj:=s.Xj.set k c}else s from rfl);clear m l;generalize s.Xj[k]?.getD 0=z at *;cases n:(z==0)
 .by_cases d:c<z
  .have a:Hid (Xq k c s={s with Xj:=s.Xj.set k c}):=X1 (by rw[j.o,X3 (.inr d)]);go_enter func133,ntmps133;go_wp2;(first|go_end0|refine X7 (Yf rfl _ _ _) rfl ?_);exact⟨rfl,(Kp.refl _ _ _).setCell _ _ (.inl rfl),by rw[a.o];exact g.o.MZ k c⟩
  .have a:Hid (Xq k c s=s):=X1 (by rw[j.o,X2 (by rintro(h|h);simp[h]at n;exact d h)]);go_enter func133,ntmps133;go_wp2;(first|go_end0|refine X7 (Yf rfl _ _ _) rfl ?_);exact⟨rfl,Kp.refl _ _ _,by rw[a.o];exact g.o⟩
 .have a:Hid (Xq k c s={s with Xj:=s.Xj.set k c}):=X1 (by rw[j.o,X3 (.inl (by simpa using n))]);go_enter func133,ntmps133;go_wp2;(first|go_end0|refine X7 (Yf rfl _ _ _) rfl ?_);exact⟨rfl,(Kp.refl _ _ _).setCell _ _ (.inl rfl),by rw[a.o];exact g.o.MZ k c⟩
theorem Ar(x:ByteArray)(a:List Kn)(p:Kn):XE x (a++[p])=if p.1=x then some p.2 else XE x a:=by
 induction a with
 | nil=>simp[XE]
 | cons q r c=>
  rw[OU,XE,c,XE];by_cases h:p.1=x
  .simp[h]
  .simp[h]
theorem Tp(x:ByteArray)(a:List Kn)(i:Nat)(h:i<a.length):XE x (a.take (i+1))=if a[i].1=x then some a[i].2 else XE x (a.take i):=by
 rw[Kt h,Ar]
theorem AS(w:World):Calls prog 236 #[] w fun e w'=>e= .returned (.slice (some ⟨w.heap.size,0,none⟩) 15 15)/\Below w.heap.size w w'/\w.heap.size<w'.heap.size/\VQ w' w.heap.size Q9:=by
 go_enter func236,ntmps236;go_wp2;go_ret;refine⟨rfl,bA _,by simp,?_⟩;exact Ry w 9 Q9
theorem X7d(s:ByteArray)(w:World)(b:Nat)(a:VQ w b Q9): Calls prog 202 #[.slice (some ⟨b,0,none⟩) 15 15,.string s] w fun e w'=>e= .returned (.bool (decide (s.data.toList∈Q9)))/\w'=w:=R9 Q9 b s w (by decide) a
theorem WM{ns:List Nd}{k:Nat}(h:k<ns.length):Xi ns k=ns[k].text:=by simp[Xi,h]
theorem Pv(a b:ByteArray):(a.toList==b.toList)=true↔a=b:=by
 rw[JP,Dz,Dz];exact⟨fun h=>Wx (Ww.1 h),fun h=>by rw[h]⟩
theorem Y5o(ns:List Nd)(ks:List (List Nat))(A K tc kg kc cg bg k y a1:Nat)(g:List Kn)(s:St)(w:World)(M:k<ns.length)(hl:g.length<=100000000)(C:Fx ns ks A K tc kg kc cg bg w)(L:Dy ns.length cg bg s w)(hK:Vd w y g): Calls prog 192 #[.pointer (some ⟨A,0,none⟩),.int .i64 k,.slice (some ⟨y,0,none⟩) g.length a1] w fun e w'=>e= .returned (.tuple #[])/\Kp cg bg w w'/\Dy ns.length cg bg (K9 ns k g s) w':=by
 obtain⟨_,_,_,hN,_⟩:=C.nodes.2 k M;have h0:=C.f0;have h3:=C.f3;obtain⟨V,X⟩:=L.LZ k M
 have S:=X1 (show K9 ns k g s=(match XE ns[k].text g with
  | some a=>{s with binds:=s.binds.set k a}
  | none=>if ns[k].text.data.toList∈Q9 then {s with binds:=s.binds.set k (-2)}else Xq k 9 s) by rw[←WM M];rfl)
 generalize ns[k].text=u at *;have N:=X1 L;have HF:=X1 C;have B:=X1 hK;have q:=C.wlt;have z:=C.nodes.1;have r:=(L.b.lt bg rfl).2;clear C L hK;go_enter func192,ntmps192;go_wp2;go_loopw[6] (fun t wr=>∃i:Nat,i<=g.length/\t= .int .i64 ((i:Int)-1)/\BL w wr/\XE u g=XE u (g.take i)) (fun t _=>(intOf t+1).toNat)
 case atStart=>exact⟨g.length,X4 _,rfl,X5 _ _,by rw[JG]⟩
 case round=>
  obtain⟨i,hi,rfl,l,he⟩:=hrel;have P:=X1 he;clear he;have q0:=(l.cell (p:=⟨A,0,none⟩) q).trans h0;have q3:=(l.cell (p:=⟨A,3,none⟩) q).trans h3;have qN:=(l.cell (p:=⟨K,k*5+3,none⟩) z).trans hN;have qb:=(l.cell (p:=⟨bg,k,none⟩) r).trans V;have qf:=(l.frozen (p:=⟨bg,k,none⟩) r).trans X;by_cases a2:0<i
  .obtain⟨j,rfl⟩:∃j,i=j+1:=⟨i-1,by omega⟩;have HS:=X1 (Tp u g j (by omega));obtain⟨e0,e1⟩:=B.o.2 j (by omega);have k0:=(l.cell (p:=⟨y,j*2,none⟩) B.o.1).trans e0;have k1:=(l.cell (p:=⟨y,j*2+1,none⟩) B.o.1).trans e1;have H:=Pv g[j].1 u;generalize g[j].1=tj at *;generalize g[j].2=aj at *;have Y:((j+1:Nat):Int)-1=j:=by omega
   rw[Y];cases hq:(tj.toList==u.toList)
   .have m:Hid (XE u g=XE u (g.take j)):=X1 (by rw[P.o,HS.o,X2 (fun h=>by rw[H.2 h]at hq;cases hq)]);go_wp2;go_quiet(fail);go_wp2;go_roundw
    case rel=>exact⟨j,by omega,by go_num,below_drewN l _,m.o⟩
    case measure=>simp[intOf]
   .have m:Hid (K9 ns k g s={s with binds:=s.binds.set k aj}):=X1 (by rw[S.o,P.o,HS.o,X3 (H.1 hq)]);go_wp2;go_quiet(fail);go_wp2;go_region;all_goals
     go_wp2;(first|go_end0|refine X7 (Yf rfl _ _ _) rfl ?_);exact⟨rfl,(Kp.Ky (below_drewN l _)).setCell _ _ (.inr rfl),by rw[m.o];exact(N.o.below (below_drewN l _)).L4 k aj⟩
  .obtain rfl:i=0:=by omega
   have HN:Hid (XE u g=none):=X1 (by rw[P.o];rfl);have E:=Xd q l.size;have I:=Xd z l.size;have J:=Xd r l.size;have F:=X1 (X7d u);cases v:decide (u.data.toList∈Q9)
   .have m:Hid (K9 ns k g s=Xq k 9 s):=X1 (by rw[S.o,HN.o];simp only;rw[X2 (by simpa using v)]);have c:=F.o;rw[v]at c
    replace c:=X1 c
    have Q:=X1 (fun w' (hb:BL w w')=>Me ns ks A K tc kg kc cg bg k 9 s w' M (HF.o.kept (.Ky hb)) (N.o.below hb));go_wp2;go_region_with(first
     | (go_at_call 236;refine(AS _).mono ?_;rintro e w1⟨rfl,d,a0,D⟩;have r0:=(d.cell (p:=⟨A,0,none⟩) E).trans q0;have rN:=(d.cell (p:=⟨K,k*5+3,none⟩) I).trans qN)
     | (go_at_call 202;refine(c.o _ _ D).mono ?_;rintro e w'⟨rfl,rfl⟩))
    all_goals
     have n:=l.drew.trans (d.mono l.size);go_wp2_with fail;refine(Q.o _ n).mono ?_;rintro e w2⟨rfl,Z,W⟩;go_wp2;(first|go_end0|refine X7 (Yf rfl _ _ _) rfl ?_);exact⟨rfl,(Kp.Ky n).trans Z,by rw[m.o];exact W⟩
   .have m:Hid (K9 ns k g s={s with binds:=s.binds.set k (-2)}):=X1 (by rw[S.o,HN.o];simp only;rw[X3 (by simpa using v)]);have c:=F.o;rw[v]at c
    replace c:=X1 c
    go_wp2;go_region_with(first
     | (go_at_call 236;refine(AS _).mono ?_;rintro e w1⟨rfl,d,a0,D⟩;have r0:=(d.cell (p:=⟨A,0,none⟩) E).trans q0;have rN:=(d.cell (p:=⟨K,k*5+3,none⟩) I).trans qN;have r3:=(d.cell (p:=⟨A,3,none⟩) E).trans q3;have rb:=(d.cell (p:=⟨bg,k,none⟩) J).trans qb;have rf:=(d.frozen (p:=⟨bg,k,none⟩) J).trans qf)
     | (go_at_call 202;refine(c.o _ _ D).mono ?_;rintro e w'⟨rfl,rfl⟩))
    all_goals
     have n:=l.drew.trans (d.mono l.size);go_wp2;(first|go_end0|refine X7 (Yf rfl _ _ _) rfl ?_);exact⟨rfl,(Kp.Ky n).setCell _ _ (.inr rfl),by rw[m.o];exact(N.o.below n).L4 k (-2)⟩
theorem Rg:(prog.info? 229).map (fun i=>(i.zero,i.size,i.bytes))=some (some (.agg #[.string ⟨#[]⟩,.int .i64 0]),2,24):=by kernel_rfl
theorem M2(w:World)(x:ByteArray)(a:Nat)(t:TypeId):∀(j:Nat) (u:Value),(Ym [(x,a)])[j]?=some u->(w.alloc (.cells #[.string x,.int .i64 a] t)).cell? ((⟨w.heap.size,0,none⟩:Addr).add j)=some u:=by
 intro j u h;rw[Vq,Xn,World.cell?,XM];simpa[Ym]using h
theorem I9(a:List Kn)(p:Kn):Ym (a++[p])=Ym a++Ym [p]:=by simp[Ym]
theorem L3{cg bg:Nat}{w w':World}{base size:Nat}{e:TypeId}{g n a:Nat}{c:List Value}(h:w.ownsRow base e size (.slice (some ⟨g,0,none⟩) n a) n c)(k:Kp cg bg w w')(d:g≠cg)(j:g≠bg):w'.ownsRow base e size (.slice (some ⟨g,0,none⟩) n a) n c:=Q4 h (k.block g (h.lt g rfl).2 d j)
theorem Kp.grown{cg bg:Nat}{w w1 d:World}{row:Option Nat}(h:Kp cg bg w w1)(a:w1.grownBy d row)(k:∀q,row=some q->w.heap.size<=q):Kp cg bg w d:=⟨a.os.trans h.os,a.tape.trans h.tape,a.output.trans h.output,XO h.size a.size,fun b c g j=>(a.block b (Xd c h.size) (fun e=>by have:=k b e.symm;omega)).trans (h.block b c g j)⟩
theorem Dy.grown{n cg bg:Nat}{s:St}{w w':World}{row:Option Nat}(h:Dy n cg bg s w)(a:w.grownBy w' row)(d:row≠some cg)(g:row≠some bg):Dy n cg bg s w':=⟨h.ne,Q4 h.c (a.block cg (h.c.lt cg rfl).2 (fun e=>d e.symm)),Q4 h.b (a.block bg (h.b.lt bg rfl).2 (fun e=>g e.symm))⟩
theorem Nn(ns:List Nd)(p:Nat)(ls:List Nat)(j:Nat)(s:St)(h:j<ls.length):Z1 ns p (ls.take (j+1)) s=if Xi ns ls[j]=Xi ns p then Xq p 8 (Z1 ns p (ls.take j) s)else Z1 ns p (ls.take j) s:=by
 unfold Z1;rw[Kt h,GP];rfl
theorem NG(G:Nat->List Kn->St->St)(ns:List Nd)(ks:List (List Nat))(ls:List Nat)(i:Nat)(c:List Kn)(a:Bool)(s:St)(h:i+1<ls.length): Yd G ns ks (ls.drop i) (ls.take i) c a s=Yd G ns ks (ls.drop (i+1)) (ls.take (i+1)) (c++[(Xi ns (ls[i]'(by omega)),ls[i]'(by omega))]) (a||!decide ((X9 ks (ls[i]'(by omega))).length=0)) (Zv G ns ks (ls[i]'(by omega)) (ls.take i) c a s):=by
 rw[Zp (by omega:i<ls.length),Zp h,Yd,Kt (by omega:i<ls.length)]
theorem NH(G:Nat->List Kn->St->St)(ns:List Nd)(ks:List (List Nat))(ls:List Nat)(i:Nat)(a:List Kn)(c:Bool)(s:St)(h:i+1=ls.length): Yd G ns ks (ls.drop i) (ls.take i) a c s=G (ls[i]'(by omega)) a s:=by
 rw[Zp (by omega:i<ls.length),Yu (by omega),Yd]
theorem Uk{l:World}{b size:Nat}{e:TypeId}{j:Value}{n g H:Nat}{m:List Value}(d:l.ownsRow b e size j n m)(c:¬j= .slice none 0 0)(k:j.ownBlock=some g\/j.ownBlock=some H):∃a c2,j= .slice (some ⟨a,0,none⟩) n c2/\(a=g\/a=H):=by
 rcases d.2 with⟨h,_⟩|⟨a,c2,_,h,_⟩
 .exact absurd h c
 .subst h;refine⟨a,c2,rfl,?_⟩;simpa[Value.ownBlock]using k
def Lq(ns:List Nd)(ks:List (List Nat))(wb tg tc kg kc cg bg f:Nat)(G:Nat->List Kn->St->St):Prop:=
 ∀(k kng knc:Nat) (kn:List Kn) (s:St) (w:World),k<f->k<ns.length->kn.length+5001*f<=100000000->Fx ns ks wb tg tc kg kc cg bg w->Dy ns.length cg bg s w->Vd w kng kn->kng≠cg->kng≠bg->
  Calls prog 134 #[.pointer (some ⟨wb,0,none⟩),.int .i64 k,.slice (some ⟨kng,0,none⟩) kn.length knc] w fun e w'=>e= .returned (.tuple #[])/\Kp cg bg w w'/\Dy ns.length cg bg (G k kn s) w'
theorem X6o(ns:List Nd)(ks:List (List Nat))(wb tg tc kg kc cg bg f:Nat)(G:Nat->List Kn->St->St)(hG:Lq ns ks wb tg tc kg kc cg bg f G)(hn:ns.length<=5000)(a9:∀k (h:k<ks.length),∀x∈ks[k],x<k)(ls:List Nat)(rg rc b7 e8:Nat)(L:List Kn)(s:St)(w:World)(e1:∀x∈ls,x<f/\x<ns.length)(f9:1<=ls.length)(h5:ls.length<=5000)(hb:L.length+5001*f+5001<=100000000)(hF:Fx ns ks wb tg tc kg kc cg bg w)(hD:Dy ns.length cg bg s w)(hK:Vd w b7 L)(hI:Yz w rg 0 ls)(e3:rg≠cg)(e4:rg≠bg)(g9:cg<w.heap.size)(h0:bg<w.heap.size): Calls prog 193 #[.pointer (some ⟨wb,0,none⟩),.slice (some ⟨rg,0,none⟩) ls.length rc,.slice (some ⟨b7,0,none⟩) L.length e8] w fun e w'=>e= .returned (.tuple #[])/\Kp cg bg w w'/\Dy ns.length cg bg (Yd G ns ks ls [] L false s) w':=by
 obtain⟨iK,a4,a6,a5,a3⟩:=Yk Rg;have HG:=X1 hG;have HF:=X1 hF;have HD:=X1 hD;have HK:=X1 hK;have HI:=X1 hI;have c9:=X1 e1;have f2:=X1 a9;clear hG hF hD hK hI e1 a9;go_enter func193,ntmps193;go_wp2_with(at_builtin;refine Yg _ rfl _ _ 226 rfl w.heap.size 229 iK _ 2 24 underlying226 a4 a6 a5 a3 rfl (by decide) (.slice (some ⟨w.heap.size,0,none⟩) 0 0) 0 [] rfl (XV (base:=w.heap.size) w #[] 0 (X4 _) (X6 _) rfl) ⟨b7,0,none⟩ L.length e8 (Ym L) rfl (I8 L) (Mw (HK.o.kept (cg:=w.heap.size) (bg:=w.heap.size) (Kp.Ky (bA _)) (GV HK.o.1) (GV HK.o.1))) (Ub L) (by unfold maxLen;omega) (by omega) (by simp) ?_);intro v6 w1 I B Z a7;obtain⟨K,c6,rfl,f7⟩:=Uk I Z (by simpa[Value.ownBlock]using a7);have a8:w.heap.size<=K:=by rcases f7 with h|h<;>(try simp at h)<;>omega
 have f6:Kp cg bg w w1:=((Kp.refl _ _ _).alloc _).grown B (fun q e=>by simp[Value.ownBlock]at e;omega);have f5:Dy ns.length cg bg s w1:=(HD.o.below (bA _)).grown B (by simp[Value.ownBlock];omega) (by simp[Value.ownBlock];omega);have f4:=X1 I;clear B Z a7 I;go_wp2
 go_loopw[6,7,8] (fun v6 v7 t wr=>∃(i K c6:Nat) (c:List Kn) (df:Bool) (y:St),i+1<=ls.length/\t= .int .i64 i/\v7= .bool df/\v6= .slice (some ⟨K,0,none⟩) c.length c6/\w.heap.size<=K/\c.length=L.length+i/\
   wr.ownsRow w.heap.size 229 2 (.slice (some ⟨K,0,none⟩) c.length c6) c.length (Ym c)/\Kp cg bg w wr/\Dy ns.length cg bg y wr/\Yd G ns ks ls [] L false s=Yd G ns ks (ls.drop i) (ls.take i) c df y) (fun _ _ t _=>ls.length-(intOf t).toNat)
 case atStart=>exact⟨0,K,c6,L,false,s,f9,rfl,rfl,rfl,a8,rfl,f4.o,f6,f5,rfl⟩
 case round=>
  obtain⟨i,K,c6,c,df,y,hi,rfl,rfl,rfl,a8,b4,ho,A,d3,he⟩:=hrel;have HE:=X1 he;have HO:=X1 ho;have b9:=X1 d3;have P:=X1 b4;have h4:c.length<=L.length+i:=Nat.le_of_eq b4;clear he ho d3 b4;have d4:=HF.o.kept A;have b3:Yz wr rg 0 ls:=⟨Xd HI.o.1 A.size,fun j hj=>(A.cell (p:=⟨rg,0+j,none⟩) HI.o.1 e3 e4).trans (HI.o.2 j hj)⟩;have hx:=b3.2 i (by omega);rw[Xn]at hx;have v:=c9.o _ (XR (by omega:i<ls.length));have n:=X1 d4;have c8:=X1 b3;clear d4 b3;by_cases g0:i+1<ls.length
  .have HS:=X1 (NG G ns ks ls i c df y g0);have g3:(i:Int)+1<(ls.length:Int):=by omega
   have b5:ls[i]<ks.length:=by rw[n.o.len];exact v.2
   obtain⟨g2,i1,d7,d8,d9,e0⟩:=n.o.kids ls[i] b5;have J:=X1 (show X9 ks ls[i]=ks[ls[i]] by simp[X9,b5]);have f3:=X1 (f2.o ls[i] b5);have e9:=X1 (fun j (hj:j<ls.length)=>Nn ns ls[i] ls j y hj);have h8:=(n.o.nodes.2 ls[i] v.2).2.2.2.1;have Q:=X1 (WM v.2);generalize h6:ls[i]=p at *;generalize ks[p]=kp at *;generalize e2:ns[p].text=tp at *;have a2:=X1 e2;clear e2;go_wp2;go_loopw[10] (fun t wq=>∃(j:Nat),j<=i/\t= .int .i64 j/\Kp cg bg wr wq/\Dy ns.length cg bg (Z1 ns p (ls.take j) y) wq) (fun t _=>i-(intOf t).toNat)
   case atStart=>exact⟨0,X6 _,rfl,Kp.refl _ _ _,b9.o⟩
   case round=>
    obtain⟨j,hj,rfl,z,d2⟩:=hrel;have W:=n.o.kept z;have a1:=X1 W;have N:=X1 d2;have f0:=W.f0;have f1:=W.f1;have g1:=(W.nodes.2 p v.2).2.2.2.1;rw[a2.o]at g1;clear W d2;by_cases h2:j<i
    .have d6:=c8.o.2 j (by omega);rw[Xn]at d6;have h1:=(z.cell (p:=⟨rg,j,none⟩) c8.o.1 e3 e4).trans d6;have e7:=c9.o ls[j] (XR (by omega:j<ls.length));have h7:=(a1.o.nodes.2 ls[j] e7.2).2.2.2.1;have b8:=X1 (e9.o j (by omega));have d0:=X1 (WM e7.2);have d5:=Pv ns[ls[j]].text tp;generalize ns[ls[j]].text=tj at *;generalize ls[j]=xj at *;cases b6:(tj.toList==tp.toList)
     .have b1:Hid (Z1 ns p (ls.take (j+1)) y=Z1 ns p (ls.take j) y):=X1 (by rw[b8.o,d0.o,Q.o,X2 (fun h=>by rw[d5.2 h]at b6;cases b6)]);go_wp2;go_quiet(fail);go_wp2;go_roundw
      case rel=>exact⟨j+1,by omega,by go_num,z.below (below_drewN (X5 _ _) _),by rw[b1.o];exact N.o.below (below_drewN (X5 _ _) _)⟩
      case measure=>simp[intOf];omega
     .have b1:Hid (Z1 ns p (ls.take (j+1)) y=Xq p 8 (Z1 ns p (ls.take j) y)):=X1 (by rw[b8.o,d0.o,Q.o,X3 (d5.1 b6)]);go_wp2;go_quiet(fail);go_wp2_with fail;refine(Me ns ks wb tg tc kg kc cg bg p 8 _ _ v.2 (a1.o.kept (Kp.Ky (below_drewN (X5 _ _) _))) (N.o.below (below_drewN (X5 _ _) _))).mono ?_;rintro e w2⟨rfl,H,F⟩;go_wp2;go_roundw
      case rel=>exact⟨j+1,by omega,by go_num,(z.below (below_drewN (X5 _ _) _)).trans H,by rw[b1.o];exact F⟩
      case measure=>simp[intOf];omega
    .obtain rfl:j=i:=by omega
     have f8:=(z.cell (p:=⟨kg,p,none⟩) n.o.klt n.o.kg1 n.o.kg2).trans d7;have g5:=X1 f8;cases kp with
     | nil=>
      cases df with
      | false=>
       have C:Hid (Zv G ns ks p (ls.take j) c false y=Z1 ns p (ls.take j) y):=X1 (by unfold Zv;rw[J.o];rfl);have l:=z;have D:=N.o;have u:=n.o.kept l;have d1:=u.f0;have S:=(u.nodes.2 p v.2).2.2.2.1;rw[a2.o]at S;have a0:=L3 HO.o l (by omega) (by omega);have e6:=l.size;have e5:=A.size;have M:=X1 D;clear u D;go_wp2_with(at_builtin;refine Yg _ rfl _ _ 226 rfl w.heap.size 229 iK _ 2 24 underlying226 a4 a6 a5 a3 rfl (by decide) (.slice (some ⟨K,0,none⟩) c.length c6) c.length (Ym c) rfl (a0.alloc _) ⟨wr.heap.size,0,none⟩ 1 1 (Ym [(tp,p)]) rfl rfl (M2 _ _ _ _) (Ub _) (by unfold maxLen;omega) (by omega) (by simp;omega) ?_);intro v7 w7 g a d r;obtain⟨g7,c7,rfl,Y⟩:=Uk g d (by simpa[Value.ownBlock]using r);have E:w.heap.size<=g7:=by rcases Y with h|h<;>(try simp at h)<;>omega
       have X:Kp cg bg w w7:=((A.trans l).alloc _).grown a (fun q e=>by simp[Value.ownBlock]at e;omega);have V:=(M.o.below (bA _)).grown a (by simp[Value.ownBlock];omega) (by simp[Value.ownBlock];omega);clear a d r;go_wp2;go_roundw
       case rel=>
        refine⟨j+1,g7,c7,c++[(tp,p)],false,Z1 ns p (ls.take j) y,by omega,by go_num,rfl,by simp,E,by have:=P.o;simp;omega,?_,X,V,?_⟩
        .rw[Xo,JE,I9];exact g
        .rw[HE.o,HS.o,Q.o,J.o,C.o];rfl
       case measure=>simp[intOf];omega
      | true=>
       have C:Hid (Zv G ns ks p (ls.take j) c true y=Xq p 10 (Z1 ns p (ls.take j) y)):=X1 (by unfold Zv;rw[J.o];rfl);go_wp2_with fail;refine(Me ns ks wb tg tc kg kc cg bg p 10 _ _ v.2 a1.o N.o).mono ?_;rintro e w2⟨rfl,H,F⟩;have l:=z.trans H;have D:=F;have g8:=(n.o.kept l).f1;have h3:=(l.cell (p:=⟨kg,p,none⟩) n.o.klt n.o.kg1 n.o.kg2).trans d7;have u:=n.o.kept l;have d1:=u.f0;have S:=(u.nodes.2 p v.2).2.2.2.1;rw[a2.o]at S;have a0:=L3 HO.o l (by omega) (by omega);have e6:=l.size;have e5:=A.size;have M:=X1 D;clear u D;go_wp2_with(at_builtin;refine Yg _ rfl _ _ 226 rfl w.heap.size 229 iK _ 2 24 underlying226 a4 a6 a5 a3 rfl (by decide) (.slice (some ⟨K,0,none⟩) c.length c6) c.length (Ym c) rfl (a0.alloc _) ⟨w2.heap.size,0,none⟩ 1 1 (Ym [(tp,p)]) rfl rfl (M2 _ _ _ _) (Ub _) (by unfold maxLen;omega) (by omega) (by simp;omega) ?_);intro v7 w7 g a d r;obtain⟨g7,c7,rfl,Y⟩:=Uk g d (by simpa[Value.ownBlock]using r);have E:w.heap.size<=g7:=by rcases Y with h|h<;>(try simp at h)<;>omega
       have X:Kp cg bg w w7:=((A.trans l).alloc _).grown a (fun q e=>by simp[Value.ownBlock]at e;omega);have V:=(M.o.below (bA _)).grown a (by simp[Value.ownBlock];omega) (by simp[Value.ownBlock];omega);clear a d r;go_wp2;go_roundw
       case rel=>
        refine⟨j+1,g7,c7,c++[(tp,p)],true,Xq p 10 (Z1 ns p (ls.take j) y),by omega,by go_num,rfl,by simp,E,by have:=P.o;simp;omega,?_,X,V,?_⟩
        .rw[Xo,JE,I9];exact g
        .rw[HE.o,HS.o,Q.o,J.o,C.o];rfl
       case measure=>simp[intOf];omega
     | cons x xr=>
      have C:Hid (Zv G ns ks p (ls.take j) c df y=G x c (Z1 ns p (ls.take j) y)):=X1 (by unfold Zv;rw[J.o]);have b0:=e0.2 0 (by simp);simp only[Xn,Ls]at b0;have h9:=(z.cell (p:=⟨g2,0,none⟩) e0.1 d8 d9).trans b0;have i0:=f3.o x (by simp);have b2:=X1 (HG.o x K c6 c (Z1 ns p (ls.take j) y) _ (by omega) (by omega) (by omega) a1.o N.o (IN (L3 HO.o z (by omega) (by omega))) (by omega) (by omega));have g4:((x::xr).length:Int)=(xr.length:Int)+1:=by simp
      cases df;all_goals
       go_wp2_with fail;refine b2.o.mono ?_;rintro e w2⟨rfl,H,F⟩;have l:=z.trans H;have D:=F;have u:=n.o.kept l;have d1:=u.f0;have S:=(u.nodes.2 p v.2).2.2.2.1;rw[a2.o]at S;have a0:=L3 HO.o l (by omega) (by omega);have e6:=l.size;have e5:=A.size;have M:=X1 D;clear u D;go_wp2_with(at_builtin;refine Yg _ rfl _ _ 226 rfl w.heap.size 229 iK _ 2 24 underlying226 a4 a6 a5 a3 rfl (by decide) (.slice (some ⟨K,0,none⟩) c.length c6) c.length (Ym c) rfl (a0.alloc _) ⟨w2.heap.size,0,none⟩ 1 1 (Ym [(tp,p)]) rfl rfl (M2 _ _ _ _) (Ub _) (by unfold maxLen;omega) (by omega) (by simp;omega) ?_);intro v7 w7 g a d r;obtain⟨g7,c7,rfl,Y⟩:=Uk g d (by simpa[Value.ownBlock]using r);have E:w.heap.size<=g7:=by rcases Y with h|h<;>(try simp at h)<;>omega
       have X:Kp cg bg w w7:=((A.trans l).alloc _).grown a (fun q e=>by simp[Value.ownBlock]at e;omega);have V:=(M.o.below (bA _)).grown a (by simp[Value.ownBlock];omega) (by simp[Value.ownBlock];omega);clear a d r;go_wp2;go_roundw
       case rel=>
        refine⟨j+1,g7,c7,c++[(tp,p)],true,G x c (Z1 ns p (ls.take j) y),by omega,by go_num,rfl,by simp,E,by have:=P.o;simp;omega,?_,X,V,?_⟩
        .rw[Xo,JE,I9];exact g
        .rw[HE.o,HS.o,Q.o,J.o,C.o];rfl
       case measure=>simp[intOf];omega
  .have HS:=X1 (NH G ns ks ls i c df y (by omega));have b2:=X1 (HG.o ls[i] K c6 c y wr v.1 v.2 (by omega) n.o b9.o (IN HO.o) (by omega) (by omega));obtain⟨m,hm⟩:∃m,ls.length=m+1:=⟨ls.length-1,by omega⟩;obtain rfl:i=m:=by omega
   generalize ls[i]=p at *;go_wp2_with fail;refine b2.o.mono ?_;rintro e w2⟨rfl,H,F⟩;go_wp2;(first|go_end0|refine X7 (Yf rfl _ _ _) rfl ?_);exact⟨rfl,A.trans H,by rw[HE.o,HS.o];exact F⟩
