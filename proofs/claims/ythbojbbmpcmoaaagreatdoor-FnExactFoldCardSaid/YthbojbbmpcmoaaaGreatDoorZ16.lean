/- Fv1, Fve, Rp, Rm, Fon. -/
import Derived.Test.YthbojbbmpcmoaaaGreatDoorZ13
import Derived.Lib.Bytealg
import Derived.Laws.Externs
import Derived.Shelf.Strings.Search3
import Derived.Test.YthbojbbmpcmoaaaGreatDoorProg
import Derived.Test.YthbojbbmpcmoaaaGreatDoorZ15
import Derived.Test.YthbojbbmpcmoaaaGreatDoorZ10
namespace Go.Proofs.YthbojbbmpcmoaaaGreatDoor.Vl
open Go.RowKit T.atoms T.ok T.high T.good T.allPlain DatAt
def cmpB (less same:Bool):Int:=if same then 0 else if less then -1 else 1
def cmpI (a b:Int):Int:=cmpB (decide (a < b)) (a == b)
def cmpS (a b:ByteArray):Int:=cmpB (slt a b) (a.toList == b.toList)
def T.ord:T→T→Int
 | .mk k n s ks,.mk k' n' s' ks'=>if k≠k' then cmpB (decide (k < k')) false else if k=2∨k=3 then cmpI n n' else if k=4 then cmpS s s' else ordL ks ks'
 where
 ordL:List T→List T→Int
 | [],l=>cmpB (decide (0 < l.length)) (l.length == 0)
 | _ :: _,[]=>1
 | a :: r,b :: r'=>if a.ord b≠0 then a.ord b else ordL r r'
open T.ord
theorem T.ord_eq (a b:T):a.ord b=if a.kind≠b.kind then cmpB (decide (a.kind < b.kind)) false else if a.kind=2∨a.kind=3 then cmpI a.num b.num else if a.kind=4 then cmpS a.text b.text else ordL a.ks b.ks:=by
 cases a;cases b;rw [T.ord];rfl
theorem less_total:∀ a b:List UInt8,(Go.Op.bytesLess a b || (a == b))=!Go.Op.bytesLess b a
 | [],[]=>rfl
 | [],_ :: _=>rfl
 | _ :: _,[]=>rfl
 | x :: a,y :: b=>by
  have ih:=less_total a b
  simp only [Go.Op.bytesLess,List.cons_beq_cons]
  have h3:x < y∨x=y∨y < x:=by
   rcases Nat.lt_trichotomy x.toNat y.toNat with h | h | h
   ·exact .inl (UInt8.lt_iff_toNat_lt.2 h)
   ·exact .inr (.inl (UInt8.toNat_inj.1 h))
   ·exact .inr (.inr (UInt8.lt_iff_toNat_lt.2 h))
  rcases h3 with h | h | h
  ·have h1:¬ y < x:=UInt8.lt_asymm h
   have h2:¬ y=x:=fun e=>by subst e;exact UInt8.lt_irrefl _ h
   simp [h,h1,h2]
  ·subst h
   have h1:¬ x < x:=UInt8.lt_irrefl _
   simpa [h1] using ih
  ·have h1:¬ x < y:=UInt8.lt_asymm h
   have h2:¬ x=y:=fun e=>by subst e;exact UInt8.lt_irrefl _ h
   simp [h,h1,h2]
theorem ta_text_yes (x:ByteArray) (w:World):(Instr.typeAssert (.iface 100 (.string x)) 94 100 true).run Tryz.prog w = .ok (.tuple #[.string x,.bool true]) w:=by kernel_rfl
theorem zero_text (w:World):(zeroValue 100).run Tryz.prog w = .ok (.string ⟨#[]⟩) w:=by kernel_rfl
theorem ta_text_no (t:TypeId) (v:Value) (w:World) (h:¬ t=100):(Instr.typeAssert (.iface t v) 94 100 true).run Tryz.prog w = .ok (.tuple #[.string ⟨#[]⟩,.bool false]) w:=by
 unfold Instr.typeAssert
 simp only [Sem.run_bind,run_underlying Tryz.underlying100,Result.andThen_ok,if_neg h,if_true,zero_text]
 rfl
theorem DatAt.text {w:World} {x:Nat} {t:T} {v:Value} (h:DatAt w x t v) (hk:t.kind=4):v = .iface 100 (.string t.text):=by
 cases t with
 | mk k n s ks =>
  unfold DatAt at h
  have hk:k=4:=hk
  subst hk
  rcases h with ⟨e,_⟩ | ⟨e,_⟩ | ⟨e,_⟩ | ⟨_,e⟩ | ⟨e,_⟩ | ⟨e,_⟩
  all_goals first | exact e | omega
theorem DatAt.other {w:World} {x:Nat} {t:T} {v:Value} (h:DatAt w x t v) (hk:t.kind≠4):∃ y u,v = .iface y u∧¬ y=100:=by
 cases t with
 | mk k n s ks =>
  unfold DatAt at h
  have hk:k≠4:=hk
  rcases h with ⟨_,rfl⟩ | ⟨_,rfl⟩ | ⟨_,rfl⟩ | ⟨e,_⟩ | ⟨_,p,c,vs,rfl,_⟩ | ⟨_,p,c,m,vs,_,rfl,_⟩
  ·exact ⟨_,_,rfl,by decide⟩
  ·exact ⟨_,_,rfl,by decide⟩
  ·exact ⟨_,_,rfl,by decide⟩
  ·exact absurd e hk
  ·exact ⟨_,_,rfl,by decide⟩
  ·exact ⟨_,_,rfl,by decide⟩
theorem DatAt.isIface {w:World} {x:Nat} {t:T} {v:Value} (h:DatAt w x t v):∃ y u,v = .iface y u:=by
 by_cases hk:t.kind=4
 ·exact ⟨_,_,h.text hk⟩
 ·obtain ⟨y,u,e,_⟩:=h.other hk
  exact ⟨y,u,e⟩
end Go.Proofs.YthbojbbmpcmoaaaGreatDoor.Vl
namespace Go.Proofs
open Go.Shelf
def Tryz.lays144_ren:Go.Shelf.Ren:=⟨fun | 144=>111 | 143=>166 | 219=>193 | 217=>210 | 225=>211 | 224=>212 | 267=>213 | 266=>220 | 314=>221 | n=>n,fun | 9=>9 | 4=>4 | 3=>3 | 5=>5 | 46=>259 | 146=>291 | 51=>281 | n=>n,fun | 1=>1 | n=>n⟩
theorem Tryz.lays144:Go.Proofs.Lays.n144 Tryz.prog Tryz.lays144_ren:={
 mixed:=by kernel_rfl
 f143:=Tryz.func166.trans (congrArg some (by kernel_rfl))
 f144:=Tryz.func111.trans (congrArg some (by kernel_rfl))
 f217:=Tryz.func210.trans (congrArg some (by kernel_rfl))
 f219:=Tryz.func193.trans (congrArg some (by kernel_rfl))
 f224:=Tryz.func212.trans (congrArg some (by kernel_rfl))
 f225:=Tryz.func211.trans (congrArg some (by kernel_rfl))
 f266:=Tryz.func220.trans (congrArg some (by kernel_rfl))
 f267:=Tryz.func213.trans (congrArg some (by kernel_rfl))
 f314:=Tryz.func221.trans (congrArg some (by kernel_rfl))
 t3:=Tryz.underlying3
 a3:=Tryz.isAgg3
 z3:=Tryz.sizeOf3
 v3:=Tryz.zeroValue3
 t4:=Tryz.underlying4
 a4:=Tryz.isAgg4
 z4:=Tryz.sizeOf4
 v4:=Tryz.zeroValue4
 t5:=Tryz.underlying5
 a5:=Tryz.isAgg5
 z5:=Tryz.sizeOf5
 v5:=Tryz.zeroValue5
 t9:=Tryz.underlying9
 a9:=Tryz.isAgg9
 z9:=Tryz.sizeOf9
 v9:=Tryz.zeroValue9
 t46:=Tryz.underlying259
 a46:=Tryz.isAgg259
 z46:=Tryz.sizeOf259
 v46:=Tryz.zeroValue259
 t51:=Tryz.underlying281
 a51:=Tryz.isAgg281
 z51:=Tryz.sizeOf281
 v51:=Tryz.zeroValue281
 t146:=Tryz.underlying291
 a146:=Tryz.isAgg291
 z146:=Tryz.sizeOf291
 v146:=Tryz.zeroValue291
 g1:=by kernel_rfl}
end Go.Proofs
namespace Go.Proofs.YthbojbbmpcmoaaaGreatDoor
def Tr.renIf (at_:Nat) (b:List Int) (nm:ByteArray) (i:Nat) (d:Tr.Nd):Tr.Nd:=if i=at_∨b[i]?.getD 0=(at_:Int) then {d with text:=nm} else d
def Tr.renGo (at_:Nat) (b:List Int) (nm:ByteArray):List Tr.Nd→Nat→List Tr.Nd
 | [],_=>[]
 | d :: r,i=>Tr.renIf at_ b nm i d :: Tr.renGo at_ b nm r (i+1)
theorem Tr.renGo_len (at_:Nat) (b:List Int) (nm:ByteArray) (l:List Tr.Nd) (i:Nat):(Tr.renGo at_ b nm l i).length=l.length:=by
 induction l generalizing i with
 | nil=>rfl
 | cons d r ih=>rw [Tr.renGo,List.length_cons,List.length_cons,ih]
theorem Tr.renGo_snoc (at_:Nat) (b:List Int) (nm:ByteArray) (a:List Tr.Nd) (d:Tr.Nd) (k:Nat):Tr.renGo at_ b nm (a++[d]) k=Tr.renGo at_ b nm a k++[Tr.renIf at_ b nm (k+a.length) d]:=by
 induction a generalizing k with
 | nil=>simp [Tr.renGo]
 | cons x r ih=>rw [List.cons_append,Tr.renGo,ih,Tr.renGo,List.cons_append,List.length_cons,show k+1+r.length=k+(r.length+1) from by omega]
def Tr.newOk (ns:List Tr.Nd) (nm:ByteArray):Bool:=Tr.nameOk nm && !decide (nm.data.toList∈Tr.builts) && !ns.any (fun d=>decide (d.text=nm))
def Tr.placeOk (ns:List Tr.Nd) (at_:Int):Bool:=decide (0≤at_) && decide (at_ < ns.length) && Tr.isLocal (Tr.kindOf ns at_.toNat)
def Tr.renameOf (ns:List Tr.Nd) (at_:Int) (nm:ByteArray):List Tr.Nd × Int :=
 if Tr.fitsOf ns=false then ([],1)
 else if Tr.placeOk ns at_=false then ([],2)
 else if Tr.newOk ns nm=false then ([],3)
 else (Tr.renGo at_.toNat (Tr.bindsOf ns) nm ns 0,0)
structure Tr.Ren (ns us:List Tr.Nd) (a:Nat) (nm:ByteArray) (B:List Int):Prop where
 kind:∀ k,Tr.kindOf us k=Tr.kindOf ns k
 ka:Tr.kindOf ns a=14∨Tr.kindOf ns a=16
 ta:Tr.textOf us a=nm
 tn:∀ k b,k≠a→B[k]?=some b→b≠(a:Int)→Tr.textOf us k=Tr.textOf ns k
 tb:∀ k,B[k]?=some (a:Int)→Tr.textOf us k=nm
 new:∀ k,k < ns.length→Tr.textOf ns k≠nm
 b5:∀ k b,B[k]?=some b→Tr.kindOf ns k≠5→b = -1
 len:B.length=ns.length
def Tr.renK (a:Nat) (nm:ByteArray) (kn:List Tr.Kn):List Tr.Kn:=kn.map (fun p=>(if p.2=a then nm else p.1,p.2))
theorem Tr.renK_snoc (a:Nat) (nm:ByteArray) (kn:List Tr.Kn) (p:Tr.Kn):Tr.renK a nm (kn++[p])=Tr.renK a nm kn++[(if p.2=a then nm else p.1,p.2)]:=by unfold Tr.renK;rw [List.map_append];rfl
theorem Tr.look_ren {a:Nat} {nm x:ByteArray} (hx:x≠nm):∀ (kn:List Tr.Kn),Tr.lookK x kn≠some a→Tr.lookK x (Tr.renK a nm kn)=Tr.lookK x kn
 | [],_=>rfl
 | p :: r,h=>by
  rw [Tr.lookK] at h
  show Tr.lookK x ((if p.2=a then nm else p.1,p.2) :: Tr.renK a nm r)=_
  rw [Tr.lookK,Tr.lookK]
  cases hr:Tr.lookK x r with
  | some c =>
   rw [hr] at h
   rw [Tr.look_ren hx r (by rw [hr];exact h),hr]
  | none =>
   rw [hr] at h
   rw [Tr.look_ren hx r (by rw [hr];simp),hr]
   simp only at h ⊢
   by_cases hp:p.2=a
   ·rw [if_pos hp,if_neg (fun e=>hx e.symm)]
    by_cases h1:p.1=x
    ·rw [if_pos h1,hp] at h;exact absurd rfl h
    ·rw [if_neg h1]
   ·rw [if_neg hp]
theorem Tr.look_new {a:Nat} {nm x:ByteArray}:∀ (kn:List Tr.Kn),(∀ p∈kn,p.2≠a→p.1≠nm)→(∃ p∈kn,p.2=a)→Tr.lookK nm (Tr.renK a nm kn)=some a
 | [],_,⟨_,h,_⟩=>by cases h
 | p :: r,hk,⟨q,hq,hqa⟩=>by
  show Tr.lookK nm ((if p.2=a then nm else p.1,p.2) :: Tr.renK a nm r)=_
  rw [Tr.lookK]
  have hk2:∀ p∈r,p.2≠a→p.1≠nm:=fun p hp=>hk p (by simp [hp])
  by_cases hr:∃ q∈r,q.2=a
  ·rw [Tr.look_new (x:=x) r hk2 hr]
  ·have hn:Tr.lookK nm (Tr.renK a nm r)=none:=by
    have hk3:∀ p∈r,p.2≠a:=fun p hp e=>hr ⟨p,hp,e⟩
    clear hr hq hk hqa
    induction r with
    | nil=>rfl
    | cons y t ih =>
     show Tr.lookK nm ((if y.2=a then nm else y.1,y.2) :: Tr.renK a nm t)=_
     rw [Tr.lookK,ih (fun p hp=>hk2 p (by simp [hp])) (fun p hp=>hk3 p (by simp [hp]))]
     have h1:=hk3 y (by simp)
     simp only [if_neg h1,if_neg (hk2 y (by simp) h1)]
   rw [hn]
   rcases List.mem_cons.1 hq with rfl | hq
   ·simp [hqa]
   ·exact absurd ⟨q,hq,hqa⟩ hr
def Tr.Fresh (b e:Nat) (s:Tr.St):Prop:=∀ j,b≤j→j < e→s.binds[j]?=some (-1)
def Tr.Agree (B:List Int) (b e:Nat) (s:Tr.St):Prop:=∀ j,b≤j→j < e→s.binds[j]?=B[j]?
theorem Tr.Fresh.keep {b e m:Nat} {s s':Tr.St} (h:Tr.Fresh b e s) (hk:Tr.Keep b m s s') (hm:b≤m):Tr.Fresh m e s':=fun j h1 h2=>(hk j (.inr h1)).trans (h j (by omega) h2)
theorem Tr.Fresh.same {b e:Nat} {s s':Tr.St} (h:Tr.Fresh b e s) (hk:s'.binds=s.binds):Tr.Fresh b e s':=fun j h1 h2=>by rw [hk];exact h j h1 h2
theorem Tr.Fresh.mono {b e b' e':Nat} {s:Tr.St} (h:Tr.Fresh b e s) (h1:b≤b') (h2:e'≤e):Tr.Fresh b' e' s:=fun j q1 q2=>h j (by omega) (by omega)
theorem Tr.Agree.mono {B:List Int} {b e b' e':Nat} {s:Tr.St} (h:Tr.Agree B b e s) (h1:b≤b') (h2:e'≤e):Tr.Agree B b' e' s:=fun j q1 q2=>h j (by omega) (by omega)
theorem Tr.Agree.first {B:List Int} {b m e:Nat} {s s':Tr.St} (h:Tr.Agree B b e s') (hk:Tr.Keep m e s s') (hm:m≤e):Tr.Agree B b m s:=fun j h1 h2=>(hk j (.inl h2)).symm.trans (h j h1 (by omega))
section
variable {ns us:List Tr.Nd} {a:Nat} {nm:ByteArray} {B:List Int} {ks:List (List Nat)}
theorem Tr.Ren.text (R:Tr.Ren ns us a nm B) {k:Nat} (hk:k < ns.length) (h5:Tr.kindOf ns k≠5):Tr.textOf us k=if k=a then nm else Tr.textOf ns k:=by
 by_cases h:k=a
 ·rw [if_pos h,h];exact R.ta
 ·rw [if_neg h]
  obtain ⟨b,hb⟩:∃ b,B[k]?=some b:=⟨_,List.getElem?_eq_getElem (by rw [R.len];exact hk)⟩
  have:=R.b5 k b hb h5
  exact R.tn k b h hb (by omega)
theorem Tr.Ren.use (R:Tr.Ren ns us a nm B) {k:Nat} (hk:k < ns.length) (h5:Tr.kindOf ns k=5) {kn:List Tr.Kn} (hkn:Tr.KnOk ns kn) {s:Tr.St} (hf:s.binds[k]?=some (-1)) (hA:(Tr.useS ns k kn s).binds[k]?=B[k]?):Tr.useS us k (Tr.renK a nm kn) s=Tr.useS ns k kn s:=by
 have hka:k≠a:=fun e=>by have:=R.ka;rw [← e,h5] at this;omega
 have hlen:k < s.binds.length:=(List.getElem?_eq_some_iff.1 hf).1
 cases hl:Tr.lookK (Tr.textOf ns k) kn with
 | some c =>
  have hB:B[k]?=some (c:Int):=by
   rw [← hA];unfold Tr.useS;rw [hl];simp only;exact List.getElem?_set_self hlen
  by_cases hc:c=a
  ·subst hc
   have hm:=Tr.look_mem hl
   have hnew:Tr.lookK nm (Tr.renK c nm kn)=some c:=Tr.look_new (x:=nm) kn (fun p hp _=>by obtain ⟨h1,h2⟩:=hkn p hp;rw [h2];exact R.new _ h1) ⟨_,hm,rfl⟩
   unfold Tr.useS
   rw [hl,R.tb k hB,hnew]
  ·have ht:=R.tn k c hka hB (by omega)
   unfold Tr.useS
   rw [ht,Tr.look_ren (R.new k hk) kn (by rw [hl];intro e;exact hc (Option.some.inj e)),hl]
 | none =>
  have hB:∃ b,B[k]?=some b∧b≠(a:Int):=by
   rw [← hA];unfold Tr.useS;rw [hl];simp only
   split
   ·exact ⟨-2,List.getElem?_set_self hlen,by omega⟩
   ·exact ⟨-1,by rw [Tr.faultS_bindsR];exact hf,by omega⟩
  obtain ⟨b,hb,hne⟩:=hB
  have ht:=R.tn k b hka hb hne
  unfold Tr.useS
  rw [ht,Tr.look_ren (R.new k hk) kn (by rw [hl];simp),hl]
theorem Tr.Ren.fold (G G':Nat→Tr.St→Tr.St) (hk:∀ c s b,Tr.Cov ks b (Tr.kidsOf ks c) c→Tr.Keep b (c+1) s (G c s)) (hG:∀ c s b,c < ns.length→Tr.Cov ks b (Tr.kidsOf ks c) c→Tr.Fresh b (c+1) s→Tr.Agree B b (c+1) (G c s)→G' c s=G c s):∀ (l:List Nat) (s:Tr.St) (b e:Nat),Tr.Cov ks b l e→e≤ns.length→Tr.Fresh b e s→Tr.Agree B b e (l.foldl (fun s y=>G y s) s)→l.foldl (fun s y=>G' y s) s=l.foldl (fun s y=>G y s) s
 | [],_,_,_,_,_,_,_=>rfl
 | x :: r,s,b,e,h,he,hf,hA=>by
  cases h using Tr.Cov.cas with
  | cons h1 h2 =>
   rw [List.foldl_cons] at hA
   rw [List.foldl_cons,List.foldl_cons]
   have l1:=h1.le
   have l2:=h2.le
   have hA1:Tr.Agree B b (x+1) (G x s):=hA.first (Tr.Keep.fold G hk r _ _ _ h2) l2
   have e1:=hG x s b (by omega) h1 (hf.mono (Nat.le_refl _) l2) hA1
   rw [e1]
   exact Tr.Ren.fold G G' hk hG r _ _ _ h2 he (hf.keep (hk x s b h1) (by omega)) (hA.mono (by omega) (Nat.le_refl _))
theorem Tr.dup_ren {p:Nat} {seen:List Nat} (hp:Tr.textOf us p=Tr.textOf ns p) (hs:∀ x∈seen,Tr.textOf us x=Tr.textOf ns x) (s:Tr.St):Tr.dupS us p seen s=Tr.dupS ns p seen s:=by
 unfold Tr.dupS
 induction seen generalizing s with
 | nil=>rfl
 | cons x r ih =>
  rw [List.foldl_cons,List.foldl_cons,hp,hs x (by simp)]
  have:=ih (fun y hy=>hs y (by simp [hy]))
  rw [hp] at this
  exact this _
theorem Tr.Ren.fn (R:Tr.Ren ns us a nm B) (G G':Nat→List Tr.Kn→Tr.St→Tr.St) (hk:∀ c kn s b,Tr.Cov ks b (Tr.kidsOf ks c) c→Tr.Keep b (c+1) s (G c kn s)) (hG:∀ c kn s b,c < ns.length→Tr.KnOk ns kn→Tr.Cov ks b (Tr.kidsOf ks c) c→Tr.Fresh b (c+1) s→Tr.Agree B b (c+1) (G c kn s)→G' c (Tr.renK a nm kn) s=G c kn s):∀ (l seen:List Nat) (kn:List Tr.Kn) (df:Bool) (s:Tr.St) (b e:Nat),(∀ x∈l.dropLast,Tr.kindOf ns x=19)→(∀ x∈seen,Tr.textOf us x=Tr.textOf ns x)→Tr.KnOk ns kn→Tr.Cov ks b l e→e≤ns.length→Tr.Fresh b e s→Tr.Agree B b e (Tr.fnS G ns ks l seen kn df s)→Tr.fnS G' us ks l seen (Tr.renK a nm kn) df s=Tr.fnS G ns ks l seen kn df s
 | [],_,_,_,_,_,_,_,_,_,_,_,_,_=>by rw [Tr.fnS,Tr.fnS]
 | [x],_,kn,_,s,b,e,_,_,hkn,h,he,hf,hA=>by
  rw [Tr.fnS] at hA
  rw [Tr.fnS,Tr.fnS]
  cases h using Tr.Cov.cas with
  | cons h1 h2 =>
   have l2:=h2.le
   exact hG x kn s b (by omega) hkn h1 (hf.mono (Nat.le_refl _) l2) (hA.mono (Nat.le_refl _) l2)
 | p :: q :: r,seen,kn,df,s,b,e,h19,hs,hkn,h,he,hf,hA=>by
  rw [Tr.fnS] at hA
  rw [Tr.fnS,Tr.fnS]
  cases h using Tr.Cov.cas with
  | cons h1 h2 =>
   have l1:=h1.le
   have l2:=h2.le
   have hp:p < ns.length:=by omega
   have hp19:Tr.kindOf ns p=19:=h19 p (by simp [List.dropLast])
   have hpa:p≠a:=fun e=>by have:=R.ka;rw [← e,hp19] at this;omega
   have htp:Tr.textOf us p=Tr.textOf ns p:=by rw [R.text hp (by rw [hp19];decide),if_neg hpa]
   have hkn2:=hkn.snoc hp
   have hKp:=Tr.Keep.par ns G hk p seen kn df s b h1
   have hA1:Tr.Agree B b (p+1) (Tr.parS G ns ks p seen kn df s):=hA.first (Tr.Keep.fn ns G hk (q :: r) _ _ _ _ _ _ h2) l2
   have e1:Tr.parS G' us ks p seen (Tr.renK a nm kn) df s=Tr.parS G ns ks p seen kn df s:=by
    unfold Tr.parS at hA1 ⊢
    rw [Tr.dup_ren htp hs s]
    cases hc:Tr.kidsOf ks p with
    | nil=>rfl
    | cons c tl =>
     rw [hc] at hA1 h1
     simp only at hA1 ⊢
     cases h1 using Tr.Cov.cas with
     | cons g1 g2 =>
      have l3:=g2.le
      exact hG c kn _ b (by omega) hkn g1 ((hf.same (Tr.dupS_binds _ _ _ _)).mono (Nat.le_refl _) (by omega)) (hA1.mono (Nat.le_refl _) (by omega))
   rw [e1,show Tr.renK a nm kn++[(Tr.textOf us p,p)]=Tr.renK a nm (kn++[(Tr.textOf ns p,p)]) by rw [Tr.renK_snoc,htp];simp only [if_neg hpa]]
   refine Tr.Ren.fn R G G' hk hG (q :: r) _ _ _ _ _ _ (fun x hx=>h19 x (by simp only [List.dropLast_cons_cons];simp [hx])) (fun x hx=>?_) hkn2 h2 he (hf.keep hKp (by omega)) (hA.mono (by omega) (Nat.le_refl _))
   rcases List.mem_append.1 hx with hx | hx
   ·exact hs x hx
   ·rw [List.mem_singleton.1 hx];exact htp
theorem Tr.Ren.let_ (G G':Nat→List Tr.Kn→Tr.St→Tr.St) (hk:∀ c kn s b,Tr.Cov ks b (Tr.kidsOf ks c) c→Tr.Keep b (c+1) s (G c kn s)) (hG:∀ c kn s b,c < ns.length→Tr.KnOk ns kn→Tr.Cov ks b (Tr.kidsOf ks c) c→Tr.Fresh b (c+1) s→Tr.Agree B b (c+1) (G c kn s)→G' c (Tr.renK a nm kn) s=G c kn s) (kn more:List Tr.Kn) (hkn:Tr.KnOk ns kn) (hm:Tr.KnOk ns more) (s:Tr.St):∀ (l:List Nat) (b e:Nat),Tr.Cov ks b l e→e≤ns.length→Tr.Fresh b e s→Tr.Agree B b e (Tr.letS G kn more s l)→Tr.letS G' (Tr.renK a nm kn) (Tr.renK a nm more) s l=Tr.letS G kn more s l
 | [],_,_,_,_,_,_=>by rw [Tr.letS,Tr.letS]
 | x :: r,b,e,h,he,hf,hA=>by
  rw [Tr.letS] at hA
  rw [Tr.letS,Tr.letS]
  cases h using Tr.Cov.cas with
  | cons h1 h2 =>
   have l1:=h1.le
   have l2:=h2.le
   have hA1:Tr.Agree B b (x+1) (G x kn s):=hA.first (Tr.Keep.fold (fun y s=>G y more s) (fun c s b hc=>hk c more s b hc) r _ _ _ h2) l2
   have e1:=hG x kn s b (by omega) hkn h1 (hf.mono (Nat.le_refl _) l2) hA1
   rw [e1]
   exact Tr.Ren.fold (ns:=ns) (B:=B) (fun y s=>G y more s) (fun y s=>G' y (Tr.renK a nm more) s) (fun c s b hc=>hk c more s b hc) (fun c s b hc h1 h2 h3=>hG c more s b hc hm h1 h2 h3) r _ _ _ h2 he (hf.keep (hk x kn s b h1) (by omega)) (hA.mono (by omega) (Nat.le_refl _))
theorem Tr.Ren.go (R:Tr.Ren ns us a nm B) (hpar:∀ k,Tr.kindOf ns k=15∨Tr.kindOf ns k=20→∀ x∈(Tr.kidsOf ks k).dropLast,Tr.kindOf ns x=19):∀ (f k b:Nat) (kn:List Tr.Kn) (s:Tr.St),k < ns.length→Tr.KnOk ns kn→Tr.Cov ks b (Tr.kidsOf ks k) k→Tr.Fresh b (k+1) s→Tr.Agree B b (k+1) (Tr.go1 ns ks f k kn s)→Tr.go1 us ks f k (Tr.renK a nm kn) s=Tr.go1 ns ks f k kn s
 | 0,_,_,_,_,_,_,_,_,_=>by rw [Tr.go1,Tr.go1]
 | f+1,k,b,kn,s,hkl,hkn,h,hf,hA=>by
  have hG:∀ c kn s b,c < ns.length→Tr.KnOk ns kn→Tr.Cov ks b (Tr.kidsOf ks c) c→Tr.Fresh b (c+1) s→Tr.Agree B b (c+1) (Tr.go1 ns ks f c kn s)→Tr.go1 us ks f c (Tr.renK a nm kn) s=Tr.go1 ns ks f c kn s:=fun c kn s b h1 h2 h3 h4 h5=>Tr.Ren.go R hpar f c b kn s h1 h2 h3 h4 h5
  have hK:∀ c kn s b,Tr.Cov ks b (Tr.kidsOf ks c) c→Tr.Keep b (c+1) s (Tr.go1 ns ks f c kn s):=fun c kn s b hc=>Tr.Keep.go ns f c b kn s hc
  rw [Tr.go1] at hA
  rw [Tr.go1,Tr.go1,R.kind k]
  have hb:=h.le
  by_cases h5:Tr.kindOf ns k=5
  ·rw [if_pos h5] at hA ⊢
   rw [if_pos h5]
   exact R.use hkl h5 hkn (hf k hb (by omega)) (hA k hb (by omega))
  ·rw [if_neg h5] at hA ⊢
   rw [if_neg h5]
   by_cases h23:Tr.kindOf ns k=23
   ·rw [if_pos h23,if_pos h23]
   ·rw [if_neg h23] at hA ⊢
    rw [if_neg h23]
    by_cases hfn:Tr.kindOf ns k=15∨Tr.kindOf ns k=20
    ·rw [if_pos hfn] at hA ⊢
     rw [if_pos hfn]
     exact R.fn _ _ hK hG _ [] kn false s b k (hpar k hfn) (fun x hx=>by cases hx) hkn h (by omega) (hf.mono (Nat.le_refl _) (by omega)) (hA.mono (Nat.le_refl _) (by omega))
    ·rw [if_neg hfn] at hA ⊢
     rw [if_neg hfn]
     by_cases hlt:Tr.kindOf ns k=14∨Tr.kindOf ns k=16
     ·rw [if_pos hlt] at hA ⊢
      rw [if_pos hlt]
      rw [show Tr.renK a nm kn++[(Tr.textOf us k,k)]=Tr.renK a nm (kn++[(Tr.textOf ns k,k)]) by rw [Tr.renK_snoc,R.text hkl h5]]
      exact Tr.Ren.let_ _ _ hK hG kn _ hkn (hkn.snoc hkl) s _ b k h (by omega) (hf.mono (Nat.le_refl _) (by omega)) (hA.mono (Nat.le_refl _) (by omega))
     ·rw [if_neg hlt] at hA ⊢
      rw [if_neg hlt]
      exact Tr.Ren.fold (ns:=ns) (B:=B) (fun y s=>Tr.go1 ns ks f y kn s) (fun y s=>Tr.go1 us ks f y (Tr.renK a nm kn) s) (fun c s b hc=>hK c kn s b hc) (fun c s b hc h1 h2 h3=>hG c kn s b hc hkn h1 h2 h3) _ s b k h (by omega) (hf.mono (Nat.le_refl _) (by omega)) (hA.mono (Nat.le_refl _) (by omega))
end
end Go.Proofs.YthbojbbmpcmoaaaGreatDoor
namespace Go.Proofs.YthbojbbmpcmoaaaGreatDoor
open Go.RowKit
theorem iopen_stem (k o m c:Int) (t s:ByteArray) (p:Option Addr) (n cp:Nat) (w:World) :
  Calls Tryz.prog 250 #[.agg #[.int .i64 k,.int .i64 o,.int .i64 m,.string t,.int .i64 c,.slice p n cp],.string s] w fun e w'=>e = .returned (.int .i64 (n:Int))∧Below w.heap.size w w':=by
 go_enter Tryz.func250,Tryz.ntmps250
 go_wp2
 go_ret
 exact ⟨rfl,bA _⟩
set_option maxRecDepth 100000 in
theorem iopen_made (k o m c:Int) (t s:ByteArray) (p:Option Addr) (n cp:Nat) (w:World) :
  Calls Tryz.prog 281 #[.agg #[.int .i64 k,.int .i64 o,.int .i64 m,.string t,.int .i64 c,.slice p n cp],.string s] w fun e w'=>e = .returned (.int .i64 ((if t=s then 1 else n:Nat):Int))∧Below w.heap.size w w':=by
 by_cases h:t=s
 ·subst h
  rw [if_pos rfl]
  go_enter Tryz.func281,Tryz.ntmps281
  go_wp2
  go_ret
  exact ⟨rfl,bA _⟩
 ·rw [if_neg h]
  have hb:(t.toList == s.toList)=false:=by
   cases e:(t.toList == s.toList)
   ·rfl
   ·exact absurd (by
     have e2:t.toList=s.toList:=by simpa using e
     rw [ByteArray.toList_eq,ByteArray.toList_eq] at e2
     exact ByteArray.ext (Array.toList_inj.1 e2)) h
  go_enter Tryz.func281,Tryz.ntmps281
  go_wp2
  go_ret
  exact ⟨rfl,bA _⟩
set_option maxRecDepth 100000 in
theorem iopen_let (k o m c:Int) (t s:ByteArray) (p:Option Addr) (n cp:Nat) (w:World) :
  Calls Tryz.prog 277 #[.agg #[.int .i64 k,.int .i64 o,.int .i64 m,.string t,.int .i64 c,.slice p n cp],.string s] w fun e w'=>e = .returned (.int .i64 ((if t=s then 1 else n:Nat):Int))∧Below w.heap.size w w':=by
 have HM:=hide (fun w=>iopen_made k o m c t s p n cp w)
 generalize (if t=s then 1 else n:Nat)=r at HM ⊢
 go_enter Tryz.func277,Tryz.ntmps277
 go_wp2_with fail
 refine (HM.out _).mono ?_
 rintro e w1 ⟨rfl,hb⟩
 have HB:=hide hb
 clear hb
 go_wp2
 go_ret
 exact ⟨rfl,(bA _).trans (HB.out.mono (by simp))⟩
set_option maxRecDepth 100000 in
theorem iopen_each (k o m c:Int) (t s:ByteArray) (p:Option Addr) (n cp:Nat) (w:World) :
  Calls Tryz.prog 285 #[.agg #[.int .i64 k,.int .i64 o,.int .i64 m,.string t,.int .i64 c,.slice p n cp],.string s] w fun e w'=>e = .returned (.int .i64 ((if t=s then 1 else n:Nat):Int))∧Below w.heap.size w w':=by
 have HM:=hide (fun w=>iopen_made k o m c t s p n cp w)
 generalize (if t=s then 1 else n:Nat)=r at HM ⊢
 go_enter Tryz.func285,Tryz.ntmps285
 go_wp2_with fail
 refine (HM.out _).mono ?_
 rintro e w1 ⟨rfl,hb⟩
 have HB:=hide hb
 clear hb
 go_wp2
 go_ret
 exact ⟨rfl,(bA _).trans (HB.out.mono (by simp))⟩
theorem Ip.ty_stem {k:Int} (h14:k≠14) (h15:k≠15) (h16:k≠16):Ip.ty k∈([193,194,195,196,197,198,199,200,201,205,206,207,208,209,210,211,212,213]:List TypeId):=by
 have b14:(k == 14)=false:=by simpa using h14
 have b15:(k == 15)=false:=by simpa using h15
 have b16:(k == 16)=false:=by simpa using h16
 unfold Ip.ty
 rw [b14,b15,b16]
 simp only [cond_false]
 repeat (refine Ip.cond_mem (by simp) ?_)
 simp
abbrev Ip.ag (k o m c:Int) (t:ByteArray) (sl:Value):Value:= .agg #[.int .i64 k,.int .i64 o,.int .i64 m,.string t,.int .i64 c,sl]
theorem meth_openS {k:Int} (h14:k≠14) (h15:k≠15) (h16:k≠16) (o m c:Int) (t:ByteArray) (sl:Value) (w:World):(Go.method 424 (Ip.ty k) (Ip.ag k o m c t sl) "loop.example/kilnclay/impl.open").run Tryz.prog w = .ok (250,Ip.ag k o m c t sl) w:=by
 have key:∀ T∈([193,194,195,196,197,198,199,200,201,205,206,207,208,209,210,211,212,213]:List TypeId),(Go.method 424 T (Ip.ag k o m c t sl) "loop.example/kilnclay/impl.open").run Tryz.prog w = .ok (250,Ip.ag k o m c t sl) w:=by
  clear h14 h15 h16
  intro T hT
  simp only [List.mem_cons,List.not_mem_nil,or_false] at hT
  rcases hT with rfl | rfl | rfl | rfl | rfl | rfl | rfl | rfl | rfl | rfl | rfl | rfl | rfl | rfl | rfl | rfl | rfl | rfl <;> kernel_rfl
 exact key _ (Ip.ty_stem h14 h15 h16)
theorem meth_openL (o m c:Int) (t:ByteArray) (sl:Value) (w:World):(Go.method 424 (Ip.ty 14) (Ip.ag 14 o m c t sl) "loop.example/kilnclay/impl.open").run Tryz.prog w = .ok (277,Ip.ag 14 o m c t sl) w:=by kernel_rfl
theorem meth_openE (o m c:Int) (t:ByteArray) (sl:Value) (w:World):(Go.method 424 (Ip.ty 16) (Ip.ag 16 o m c t sl) "loop.example/kilnclay/impl.open").run Tryz.prog w = .ok (285,Ip.ag 16 o m c t sl) w:=by kernel_rfl
theorem meth_openF (o m c:Int) (t:ByteArray) (sl:Value) (w:World):(Go.method 424 (Ip.ty 15) (Ip.ag 15 o m c t sl) "loop.example/kilnclay/impl.open").run Tryz.prog w = .ok (282,Ip.ag 15 o m c t sl) w:=by kernel_rfl
end Go.Proofs.YthbojbbmpcmoaaaGreatDoor
