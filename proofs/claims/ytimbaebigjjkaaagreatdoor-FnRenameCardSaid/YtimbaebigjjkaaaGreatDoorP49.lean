/- Rl, Rm, Rn, Ro. -/
import Derived.Test.YtimbaebigjjkaaaGreatDoorP46
namespace Go.Proofs.YtimbaebigjjkaaaGreatDoor
def Tr.Cov (ks:List (List Nat)) (b:Nat) (l:List Nat) (e:Nat):Prop:=∀m:Nat→List Nat→Nat→Prop,(∀b,m b [] b)→(∀b x e r,m b (X5 ks x) x→m (x+1) r e→m b (x :: r) e)→m b l e
section
variable {ks:List (List Nat)} {b x e:Nat} {l r:List Nat}
theorem Tr.Cov.nil (b:Nat):Tr.Cov ks b [] b:=fun _ h _=>h b
theorem Tr.Cov.cons (h:Tr.Cov ks b (X5 ks x) x) (k:Tr.Cov ks (x+1) r e):Tr.Cov ks b (x :: r) e:=fun m n c=>c _ _ _ _ (h m n c) (k m n c)
theorem Tr.Cov.ind {m:∀b l e,Tr.Cov ks b l e→Prop} (nil:∀b,m b [] b (.nil b)) (cons:∀{b x e r} (h:Tr.Cov ks b (X5 ks x) x) (k:Tr.Cov ks (x+1) r e),m _ _ _ h→m _ _ _ k→m b (x :: r) e (.cons h k)) {b:Nat} {l:List Nat} {e:Nat} (h:Tr.Cov ks b l e):m b l e h:=(h (fun b l e=>∃h,m b l e h) (fun b=>⟨_,nil b⟩) (fun _ _ _ _ ⟨h,i⟩ ⟨k,j⟩=>⟨_,cons h k i j⟩)).2
theorem Tr.Cov.inv (h:Tr.Cov ks b l e):(l=[]→b=e)∧∀x r,l=x :: r→Tr.Cov ks b (X5 ks x) x∧Tr.Cov ks (x+1) r e:=by
 induction h using Tr.Cov.ind with
 | nil b=>exact ⟨fun _=>rfl,fun x r h=>(by cases h)⟩
 | cons h k _ _=>exact ⟨fun h=>(by cases h),fun x r e=>(by cases e;exact ⟨h,k⟩)⟩
theorem Tr.Cov.cas {m:Tr.Cov ks b (x :: r) e→Prop} (cons:∀(h:Tr.Cov ks b (X5 ks x) x) (k:Tr.Cov ks (x+1) r e),m (.cons h k)) (h:Tr.Cov ks b (x :: r) e):m h:=cons (h.inv.2 x r rfl).1 (h.inv.2 x r rfl).2
theorem Tr.Cov.nl (h:Tr.Cov ks b [] e):b=e:=h.inv.1 rfl
end
theorem Tr.Cov.le {ks:List (List Nat)} {b e:Nat} {l:List Nat} (h:Tr.Cov ks b l e):b≤e:=by
 induction h using Tr.Cov.ind with
 | nil b=>exact Nat.le_refl _
 | cons _ _ h1 h2=>omega
theorem Tr.Cov.mem {ks:List (List Nat)} {b e y:Nat} {l:List Nat} (h:Tr.Cov ks b l e) (hy:y∈l):b≤y∧y < e:=by
 induction h using Tr.Cov.ind with
 | nil b=>cases hy
 | cons h1 h2 _ h4 =>
  rcases List.mem_cons.1 hy with rfl | hy
  ·have:=h1.le;have:=h2.le;omega
  ·have:=h1.le;have:=h4 hy;omega
theorem Tr.Cov.append {ks:List (List Nat)} {b m e:Nat} {l1 l2:List Nat} (h:Tr.Cov ks b l1 m) (h2:Tr.Cov ks m l2 e):Tr.Cov ks b (l1++l2) e:=by
 induction h using Tr.Cov.ind with
 | nil b=>exact h2
 | cons a1 _ _ ih=>exact .cons a1 (ih h2)
theorem Tr.Cov.split {ks:List (List Nat)}:∀ (l1:List Nat) {l2:List Nat} {b e:Nat},Tr.Cov ks b (l1++l2) e→∃ m,Tr.Cov ks b l1 m∧Tr.Cov ks m l2 e
 | [],_,b,_,h=>⟨b,.nil b,h⟩
 | x :: r,_,_,_,h=>by
  cases h using Tr.Cov.cas with
  | cons h1 h2 =>
   obtain ⟨m,a1,a2⟩:=Tr.Cov.split r h2
   exact ⟨m,.cons h1 a1,a2⟩
theorem Tr.krun_cov (ks:List (List Nat)):∀ (ns:List Tr.Nd) (i:Nat) (op op':List Nat),ks.drop i=(Xw ns i op).1→Tr.Cov ks 0 op i→(Xw ns i op).2=some op'→Tr.Cov ks 0 op' (i+ns.length)
 | [],i,op,op',_,hc,he=>by
  rw [Xw] at he
  cases he
  exact hc
 | x :: r,i,op,op',hd,hc,he=>by
  rw [Xw] at hd he
  split at he
  ·cases he
  ·rename_i hk
   rw [if_neg hk] at hd
   simp only at hd he
   generalize op.length - x.kids.toNat=m at *
   have e0:ks[i]?=some (op.drop m):=by
    have:=congrArg (fun l=>l[0]?) hd
    simpa [List.getElem?_drop] using this
   have e1:ks.drop (i+1)=(Xw r (i+1) (op.take m++[i])).1:=by
    have:=congrArg List.tail hd
    simpa [List.tail_drop] using this
   have ek:X5 ks i=op.drop m:=by unfold X5;rw [e0];rfl
   obtain ⟨j,c1,c2⟩:=Tr.Cov.split (op.take m) (l2:=op.drop m) (by rw [List.take_append_drop];exact hc)
   have c3:Tr.Cov ks 0 (op.take m++[i]) (i+1):=c1.append (.cons (by rw [ek];exact c2) (.nil _))
   have:=Tr.krun_cov ks r (i+1) _ op' e1 c3 he
   rw [List.length_cons,show i+(r.length+1)=i+1+r.length from by omega]
   exact this
theorem Tr.root_cov {ns:List Tr.Nd} (h:XY ns=true):Tr.Cov (Xf ns) 0 (X5 (Xf ns) (ns.length - 1)) (ns.length - 1)∧0 < ns.length:=by
 unfold XY at h
 split at h
 ·cases h
 ·rename_i op ho
  have hl:op.length=1:=by simpa using h
  have hc:=Tr.krun_cov (Xf ns) ns 0 [] op rfl (.nil 0) ho
  rw [Nat.zero_add] at hc
  generalize ns.length=n at hc ⊢
  match op,hl with
  | [r],_ =>
   cases hc using Tr.Cov.cas with
   | cons h1 h2 =>
    cases h2.nl
    exact ⟨by rw [Nat.add_sub_cancel];exact h1,by omega⟩
theorem Kw (ns:List Tr.Nd) (p:Nat) (seen:List Nat) (s:Tr.St):(Ye ns p seen s).binds=s.binds:=by
 unfold Ye
 induction seen generalizing s with
 | nil=>rfl
 | cons x r ih=>rw [List.foldl_cons,ih];split;exact Y1 _ _ _;rfl
def Tr.Keep (b e:Nat) (s s':Tr.St):Prop:=∀ j,j < b∨e≤j→s'.binds[j]?=s.binds[j]?
theorem Tr.Keep.refl (b e:Nat) (s:Tr.St):Tr.Keep b e s s:=fun _ _=>rfl
theorem Tr.Keep.of {b e:Nat} {s s':Tr.St} (h:s'.binds=s.binds):Tr.Keep b e s s':=fun _ _=>by rw [h]
theorem Tr.Keep.trans {b e:Nat} {s s1 s2:Tr.St} (h:Tr.Keep b e s s1) (h2:Tr.Keep b e s1 s2):Tr.Keep b e s s2:=fun j hj=>(h2 j hj).trans (h j hj)
theorem Tr.Keep.mono {b e b' e':Nat} {s s':Tr.St} (h:Tr.Keep b e s s') (hb:b'≤b) (he:e≤e'):Tr.Keep b' e' s s':=fun j hj=>h j (by omega)
section
variable {ks:List (List Nat)}
theorem Tr.Keep.fold (G:Nat→Tr.St→Tr.St) (hG:∀ c s b,Tr.Cov ks b (X5 ks c) c→Tr.Keep b (c+1) s (G c s)):∀ (l:List Nat) (s:Tr.St) (b e:Nat),Tr.Cov ks b l e→Tr.Keep b e s (l.foldl (fun s y=>G y s) s)
 | [],s,b,e,_ => .refl b e s
 | x :: r,s,b,e,h=>by
  cases h using Tr.Cov.cas with
  | cons h1 h2 =>
   rw [List.foldl_cons]
   exact ((hG x s b h1).mono (Nat.le_refl _) h2.le).trans ((Tr.Keep.fold G hG r _ _ _ h2).mono (by have:=h1.le;omega) (Nat.le_refl _))
theorem Tr.Keep.par (ns:List Tr.Nd) (G:Nat→List Tr.Kn→Tr.St→Tr.St) (hG:∀ c kn s b,Tr.Cov ks b (X5 ks c) c→Tr.Keep b (c+1) s (G c kn s)) (p:Nat) (seen:List Nat) (kn:List Tr.Kn) (df:Bool) (s:Tr.St) (b:Nat) (h:Tr.Cov ks b (X5 ks p) p):Tr.Keep b (p+1) s (YG G ns ks p seen kn df s):=by
 unfold YG
 split
 ·split
  ·exact .of (by rw [Y1,Kw])
  ·exact .of (Kw _ _ _ _)
 ·rename_i c tl he
  rw [he] at h
  cases h using Tr.Cov.cas with
  | cons h1 h2 =>
   have hk:=(hG c kn (Ye ns p seen s) b h1).mono (Nat.le_refl _) (show c+1≤p+1 by have:=h2.le;omega)
   exact (Tr.Keep.of (Kw _ _ _ _)).trans hk
theorem Tr.Keep.fn (ns:List Tr.Nd) (G:Nat→List Tr.Kn→Tr.St→Tr.St) (hG:∀ c kn s b,Tr.Cov ks b (X5 ks c) c→Tr.Keep b (c+1) s (G c kn s)):∀ (l seen:List Nat) (kn:List Tr.Kn) (df:Bool) (s:Tr.St) (b e:Nat),Tr.Cov ks b l e→Tr.Keep b e s (Yh G ns ks l seen kn df s)
 | [],_,_,_,s,b,e,_=>by rw [Yh];exact .refl b e s
 | [x],_,kn,_,s,b,e,h=>by
  rw [Yh]
  cases h using Tr.Cov.cas with
  | cons h1 h2=>exact (hG x kn s b h1).mono (Nat.le_refl _) h2.le
 | p :: q :: r,seen,kn,df,s,b,e,h=>by
  rw [Yh]
  cases h using Tr.Cov.cas with
  | cons h1 h2=>exact ((Tr.Keep.par ns G hG p seen kn df s b h1).mono (Nat.le_refl _) h2.le).trans ((Tr.Keep.fn ns G hG (q :: r) _ _ _ _ _ _ h2).mono (by have:=h1.le;omega) (Nat.le_refl _))
theorem Tr.Keep.let_ (G:Nat→List Tr.Kn→Tr.St→Tr.St) (hG:∀ c kn s b,Tr.Cov ks b (X5 ks c) c→Tr.Keep b (c+1) s (G c kn s)) (kn more:List Tr.Kn) (s:Tr.St):∀ (l:List Nat) (b e:Nat),Tr.Cov ks b l e→Tr.Keep b e s (Zl G kn more s l)
 | [],b,e,_=>by rw [Zl];exact .refl b e s
 | x :: r,b,e,h=>by
  rw [Zl]
  cases h using Tr.Cov.cas with
  | cons h1 h2=>exact ((hG x kn s b h1).mono (Nat.le_refl _) h2.le).trans ((Tr.Keep.fold (fun y s=>G y more s) (fun c s b hc=>hG c more s b hc) r _ _ _ h2).mono (by have:=h1.le;omega) (Nat.le_refl _))
theorem Tr.Keep.use (ns:List Tr.Nd) (k:Nat) (kn:List Tr.Kn) (s:Tr.St) (b:Nat) (hb:b≤k):Tr.Keep b (k+1) s (YJ ns k kn s):=by
 unfold YJ
 split
 ·intro j hj;simp only;rw [List.getElem?_set_ne (by omega)]
 ·split
  ·intro j hj;simp only;rw [List.getElem?_set_ne (by omega)]
  ·exact .of (Y1 _ _ _)
theorem Tr.Keep.go (ns:List Tr.Nd):∀ (f k b:Nat) (kn:List Tr.Kn) (s:Tr.St),Tr.Cov ks b (X5 ks k) k→Tr.Keep b (k+1) s (Xx ns ks f k kn s)
 | 0,k,b,kn,s,_=>by rw [Xx];exact .refl _ _ _
 | f+1,k,b,kn,s,h=>by
  have hG:∀ c kn s b,Tr.Cov ks b (X5 ks c) c→Tr.Keep b (c+1) s (Xx ns ks f c kn s):=fun c kn s b hc=>Tr.Keep.go ns f c b kn s hc
  rw [Xx]
  split
  ·exact Tr.Keep.use ns k kn s b h.le
  ·split
   ·exact .refl _ _ _
   ·split
    ·exact (Tr.Keep.fn ns _ hG _ _ _ _ _ b k h).mono (Nat.le_refl _) (by omega)
    ·split
     ·exact (Tr.Keep.let_ _ hG _ _ _ _ b k h).mono (Nat.le_refl _) (by omega)
     ·exact (Tr.Keep.fold (fun y s=>Xx ns ks f y kn s) (fun c s b hc=>hG c kn s b hc) _ _ b k h).mono (Nat.le_refl _) (by omega)
end
structure Tr.Ren (ns us:List Tr.Nd) (a:Nat) (nm:ByteArray) (B:List Int):Prop where
 kind:∀ k,X4 us k=X4 ns k
 ka:X4 ns a=14∨X4 ns a=16
 ta:Xb us a=nm
 tn:∀ k b,k≠a→B[k]?=some b→b≠(a:Int)→Xb us k=Xb ns k
 tb:∀ k,B[k]?=some (a:Int)→Xb us k=nm
 new:∀ k,k < ns.length→Xb ns k≠nm
 b5:∀ k b,B[k]?=some b→X4 ns k≠5→b = -1
 len:B.length=ns.length
def Yr (a:Nat) (nm:ByteArray) (kn:List Tr.Kn):List Tr.Kn:=kn.map (fun p=>(if p.2=a then nm else p.1,p.2))
theorem JN (a:Nat) (nm:ByteArray) (kn:List Tr.Kn) (p:Tr.Kn):Yr a nm (kn++[p])=Yr a nm kn++[(if p.2=a then nm else p.1,p.2)]:=by unfold Yr;rw [List.map_append];rfl
theorem Qc {a:Nat} {nm x:ByteArray} (hx:x≠nm):∀ (kn:List Tr.Kn),XH x kn≠some a→XH x (Yr a nm kn)=XH x kn
 | [],_=>rfl
 | p :: r,h=>by
  rw [XH] at h
  show XH x ((if p.2=a then nm else p.1,p.2) :: Yr a nm r)=_
  rw [XH,XH]
  cases hr:XH x r with
  | some c =>
   rw [hr] at h
   rw [Qc hx r (by rw [hr];exact h),hr]
  | none =>
   rw [hr] at h
   rw [Qc hx r (by rw [hr];simp),hr]
   simp only at h ⊢
   by_cases hp:p.2=a
   ·rw [if_pos hp,if_neg (fun e=>hx e.symm)]
    by_cases h1:p.1=x
    ·rw [if_pos h1,hp] at h;exact absurd rfl h
    ·rw [if_neg h1]
   ·rw [if_neg hp]
theorem Tr.look_new {a:Nat} {nm x:ByteArray}:∀ (kn:List Tr.Kn),(∀ p∈kn,p.2≠a→p.1≠nm)→(∃ p∈kn,p.2=a)→XH nm (Yr a nm kn)=some a
 | [],_,⟨_,h,_⟩=>by cases h
 | p :: r,hk,⟨q,hq,hqa⟩=>by
  show XH nm ((if p.2=a then nm else p.1,p.2) :: Yr a nm r)=_
  rw [XH]
  have hk2:∀ p∈r,p.2≠a→p.1≠nm:=fun p hp=>hk p (by simp [hp])
  by_cases hr:∃ q∈r,q.2=a
  ·rw [Tr.look_new (x:=x) r hk2 hr]
  ·have hn:XH nm (Yr a nm r)=none:=by
    have hk3:∀ p∈r,p.2≠a:=fun p hp e=>hr ⟨p,hp,e⟩
    clear hr hq hk hqa
    induction r with
    | nil=>rfl
    | cons y t ih =>
     show XH nm ((if y.2=a then nm else y.1,y.2) :: Yr a nm t)=_
     rw [XH,ih (fun p hp=>hk2 p (by simp [hp])) (fun p hp=>hk3 p (by simp [hp]))]
     have h1:=hk3 y (by simp)
     simp only [if_neg h1,if_neg (hk2 y (by simp) h1)]
   rw [hn]
   rcases List.mem_cons.1 hq with rfl | hq
   ·simp [hqa]
   ·exact absurd ⟨q,hq,hqa⟩ hr
def Tr.Fresh (b e:Nat) (s:Tr.St):Prop:=∀ j,b≤j→j < e→s.binds[j]?=some (-1)
def Tr.Agree (B:List Int) (b e:Nat) (s:Tr.St):Prop:=∀ j,b≤j→j < e→s.binds[j]?=B[j]?
theorem Tr.Fresh.keep {b e m:Nat} {s s':Tr.St} (h:Tr.Fresh b e s) (hk:Tr.Keep b m s s') (hm:b≤m):Tr.Fresh m e s':=fun j h1 h2=>(hk j (.inr h1)).trans (h j (by omega) h2)
theorem Tr.Fresh.same {b e:Nat} {s s':Tr.St} (h:Tr.Fresh b e s) (hk:s'.binds=s.binds):Tr.Fresh b e s':=fun j h1 h2=>by rw [hk];exact h j h1 h2
theorem Tr.Fresh.mono {b e b' e':Nat} {s:Tr.St} (h:Tr.Fresh b e s) (h1:b≤b') (h2:e'≤e):Tr.Fresh b' e' s:=fun j q1 q2=>h j (by omega) (by omega)
theorem Tr.Agree.mono {B:List Int} {b e b' e':Nat} {s:Tr.St} (h:Tr.Agree B b e s) (h1:b≤b') (h2:e'≤e):Tr.Agree B b' e' s:=fun j q1 q2=>h j (by omega) (by omega)
theorem Tr.Agree.first {B:List Int} {b m e:Nat} {s s':Tr.St} (h:Tr.Agree B b e s') (hk:Tr.Keep m e s s') (hm:m≤e):Tr.Agree B b m s:=fun j h1 h2=>(hk j (.inl h2)).symm.trans (h j h1 (by omega))
section
variable {ns us:List Tr.Nd} {a:Nat} {nm:ByteArray} {B:List Int} {ks:List (List Nat)}
theorem Tr.Ren.text (R:Tr.Ren ns us a nm B) {k:Nat} (hk:k < ns.length) (h5:X4 ns k≠5):Xb us k=if k=a then nm else Xb ns k:=by
 by_cases h:k=a
 ·rw [if_pos h,h];exact R.ta
 ·rw [if_neg h]
  obtain ⟨b,hb⟩:∃ b,B[k]?=some b:=⟨_,List.getElem?_eq_getElem (by rw [R.len];exact hk)⟩
  have:=R.b5 k b hb h5
  exact R.tn k b h hb (by omega)
theorem Tr.Ren.use (R:Tr.Ren ns us a nm B) {k:Nat} (hk:k < ns.length) (h5:X4 ns k=5) {kn:List Tr.Kn} (hkn:Tr.KnOk ns kn) {s:Tr.St} (hf:s.binds[k]?=some (-1)) (hA:(YJ ns k kn s).binds[k]?=B[k]?):YJ us k (Yr a nm kn) s=YJ ns k kn s:=by
 have hka:k≠a:=fun e=>by have:=R.ka;rw [← e,h5] at this;omega
 have a0:k < s.binds.length:=(List.getElem?_eq_some_iff.1 hf).1
 cases hl:XH (Xb ns k) kn with
 | some c =>
  have hB:B[k]?=some (c:Int):=by
   rw [← hA];unfold YJ;rw [hl];simp only;exact List.getElem?_set_self a0
  by_cases hc:c=a
  ·subst hc
   have hm:=Tr.look_mem hl
   have a1:XH nm (Yr c nm kn)=some c:=Tr.look_new (x:=nm) kn (fun p hp _=>by obtain ⟨h1,h2⟩:=hkn p hp;rw [h2];exact R.new _ h1) ⟨_,hm,rfl⟩
   unfold YJ
   rw [hl,R.tb k hB,a1]
  ·have ht:=R.tn k c hka hB (by omega)
   unfold YJ
   rw [ht,Qc (R.new k hk) kn (by rw [hl];intro e;exact hc (Option.some.inj e)),hl]
 | none =>
  have hB:∃ b,B[k]?=some b∧b≠(a:Int):=by
   rw [← hA];unfold YJ;rw [hl];simp only
   split
   ·exact ⟨-2,List.getElem?_set_self a0,by omega⟩
   ·exact ⟨-1,by rw [Y1];exact hf,by omega⟩
  obtain ⟨b,hb,hne⟩:=hB
  have ht:=R.tn k b hka hb hne
  unfold YJ
  rw [ht,Qc (R.new k hk) kn (by rw [hl];simp),hl]
theorem Tr.Ren.fold (G G':Nat→Tr.St→Tr.St) (hk:∀ c s b,Tr.Cov ks b (X5 ks c) c→Tr.Keep b (c+1) s (G c s)) (hG:∀ c s b,c < ns.length→Tr.Cov ks b (X5 ks c) c→Tr.Fresh b (c+1) s→Tr.Agree B b (c+1) (G c s)→G' c s=G c s):∀ (l:List Nat) (s:Tr.St) (b e:Nat),Tr.Cov ks b l e→e≤ns.length→Tr.Fresh b e s→Tr.Agree B b e (l.foldl (fun s y=>G y s) s)→l.foldl (fun s y=>G' y s) s=l.foldl (fun s y=>G y s) s
 | [],_,_,_,_,_,_,_=>rfl
 | x :: r,s,b,e,h,he,hf,hA=>by
  cases h using Tr.Cov.cas with
  | cons h1 h2 =>
   rw [List.foldl_cons] at hA
   rw [List.foldl_cons,List.foldl_cons]
   have l1:=h1.le
   have l2:=h2.le
   have hA1:Tr.Agree B b (x+1) (G x s):=hA.first (Tr.Keep.fold G hk r _ _ _ h2) l2
   have e1:=hG x s b (by omega) h1 (hf.mono (Nat.le_refl _) l2) hA1
   rw [e1]
   exact Tr.Ren.fold G G' hk hG r _ _ _ h2 he (hf.keep (hk x s b h1) (by omega)) (hA.mono (by omega) (Nat.le_refl _))
theorem Tr.dup_ren {p:Nat} {seen:List Nat} (hp:Xb us p=Xb ns p) (hs:∀ x∈seen,Xb us x=Xb ns x) (s:Tr.St):Ye us p seen s=Ye ns p seen s:=by
 unfold Ye
 induction seen generalizing s with
 | nil=>rfl
 | cons x r ih =>
  rw [List.foldl_cons,List.foldl_cons,hp,hs x (by simp)]
  have:=ih (fun y hy=>hs y (by simp [hy]))
  rw [hp] at this
  exact this _
theorem Tr.Ren.fn (R:Tr.Ren ns us a nm B) (G G':Nat→List Tr.Kn→Tr.St→Tr.St) (hk:∀ c kn s b,Tr.Cov ks b (X5 ks c) c→Tr.Keep b (c+1) s (G c kn s)) (hG:∀ c kn s b,c < ns.length→Tr.KnOk ns kn→Tr.Cov ks b (X5 ks c) c→Tr.Fresh b (c+1) s→Tr.Agree B b (c+1) (G c kn s)→G' c (Yr a nm kn) s=G c kn s):∀ (l seen:List Nat) (kn:List Tr.Kn) (df:Bool) (s:Tr.St) (b e:Nat),(∀ x∈l.dropLast,X4 ns x=19)→(∀ x∈seen,Xb us x=Xb ns x)→Tr.KnOk ns kn→Tr.Cov ks b l e→e≤ns.length→Tr.Fresh b e s→Tr.Agree B b e (Yh G ns ks l seen kn df s)→Yh G' us ks l seen (Yr a nm kn) df s=Yh G ns ks l seen kn df s
 | [],_,_,_,_,_,_,_,_,_,_,_,_,_=>by rw [Yh,Yh]
 | [x],_,kn,_,s,b,e,_,_,hkn,h,he,hf,hA=>by
  rw [Yh] at hA
  rw [Yh,Yh]
  cases h using Tr.Cov.cas with
  | cons h1 h2 =>
   have l2:=h2.le
   exact hG x kn s b (by omega) hkn h1 (hf.mono (Nat.le_refl _) l2) (hA.mono (Nat.le_refl _) l2)
 | p :: q :: r,seen,kn,df,s,b,e,h19,hs,hkn,h,he,hf,hA=>by
  rw [Yh] at hA
  rw [Yh,Yh]
  cases h using Tr.Cov.cas with
  | cons h1 h2 =>
   have l1:=h1.le
   have l2:=h2.le
   have hp:p < ns.length:=by omega
   have hp19:X4 ns p=19:=h19 p (by simp [List.dropLast])
   have hpa:p≠a:=fun e=>by have:=R.ka;rw [← e,hp19] at this;omega
   have htp:Xb us p=Xb ns p:=by rw [R.text hp (by rw [hp19];decide),if_neg hpa]
   have hkn2:=hkn.snoc hp
   have hKp:=Tr.Keep.par ns G hk p seen kn df s b h1
   have hA1:Tr.Agree B b (p+1) (YG G ns ks p seen kn df s):=hA.first (Tr.Keep.fn ns G hk (q :: r) _ _ _ _ _ _ h2) l2
   have e1:YG G' us ks p seen (Yr a nm kn) df s=YG G ns ks p seen kn df s:=by
    unfold YG at hA1 ⊢
    rw [Tr.dup_ren htp hs s]
    cases hc:X5 ks p with
    | nil=>rfl
    | cons c tl =>
     rw [hc] at hA1 h1
     simp only at hA1 ⊢
     cases h1 using Tr.Cov.cas with
     | cons g1 g2 =>
      have l3:=g2.le
      exact hG c kn _ b (by omega) hkn g1 ((hf.same (Kw _ _ _ _)).mono (Nat.le_refl _) (by omega)) (hA1.mono (Nat.le_refl _) (by omega))
   rw [e1,show Yr a nm kn++[(Xb us p,p)]=Yr a nm (kn++[(Xb ns p,p)]) by rw [JN,htp];simp only [if_neg hpa]]
   refine Tr.Ren.fn R G G' hk hG (q :: r) _ _ _ _ _ _ (fun x hx=>h19 x (by simp only [List.dropLast_cons_cons];simp [hx])) (fun x hx=>?_) hkn2 h2 he (hf.keep hKp (by omega)) (hA.mono (by omega) (Nat.le_refl _))
   rcases List.mem_append.1 hx with hx | hx
   ·exact hs x hx
   ·rw [List.mem_singleton.1 hx];exact htp
theorem Tr.Ren.let_ (G G':Nat→List Tr.Kn→Tr.St→Tr.St) (hk:∀ c kn s b,Tr.Cov ks b (X5 ks c) c→Tr.Keep b (c+1) s (G c kn s)) (hG:∀ c kn s b,c < ns.length→Tr.KnOk ns kn→Tr.Cov ks b (X5 ks c) c→Tr.Fresh b (c+1) s→Tr.Agree B b (c+1) (G c kn s)→G' c (Yr a nm kn) s=G c kn s) (kn more:List Tr.Kn) (hkn:Tr.KnOk ns kn) (hm:Tr.KnOk ns more) (s:Tr.St):∀ (l:List Nat) (b e:Nat),Tr.Cov ks b l e→e≤ns.length→Tr.Fresh b e s→Tr.Agree B b e (Zl G kn more s l)→Zl G' (Yr a nm kn) (Yr a nm more) s l=Zl G kn more s l
 | [],_,_,_,_,_,_=>by rw [Zl,Zl]
 | x :: r,b,e,h,he,hf,hA=>by
  rw [Zl] at hA
  rw [Zl,Zl]
  cases h using Tr.Cov.cas with
  | cons h1 h2 =>
   have l1:=h1.le
   have l2:=h2.le
   have hA1:Tr.Agree B b (x+1) (G x kn s):=hA.first (Tr.Keep.fold (fun y s=>G y more s) (fun c s b hc=>hk c more s b hc) r _ _ _ h2) l2
   have e1:=hG x kn s b (by omega) hkn h1 (hf.mono (Nat.le_refl _) l2) hA1
   rw [e1]
   exact Tr.Ren.fold (ns:=ns) (B:=B) (fun y s=>G y more s) (fun y s=>G' y (Yr a nm more) s) (fun c s b hc=>hk c more s b hc) (fun c s b hc h1 h2 h3=>hG c more s b hc hm h1 h2 h3) r _ _ _ h2 he (hf.keep (hk x kn s b h1) (by omega)) (hA.mono (by omega) (Nat.le_refl _))
theorem Tr.Ren.go (R:Tr.Ren ns us a nm B) (hpar:∀ k,X4 ns k=15∨X4 ns k=20→∀ x∈(X5 ks k).dropLast,X4 ns x=19):∀ (f k b:Nat) (kn:List Tr.Kn) (s:Tr.St),k < ns.length→Tr.KnOk ns kn→Tr.Cov ks b (X5 ks k) k→Tr.Fresh b (k+1) s→Tr.Agree B b (k+1) (Xx ns ks f k kn s)→Xx us ks f k (Yr a nm kn) s=Xx ns ks f k kn s
 | 0,_,_,_,_,_,_,_,_,_=>by rw [Xx,Xx]
 | f+1,k,b,kn,s,hkl,hkn,h,hf,hA=>by
  have hG:∀ c kn s b,c < ns.length→Tr.KnOk ns kn→Tr.Cov ks b (X5 ks c) c→Tr.Fresh b (c+1) s→Tr.Agree B b (c+1) (Xx ns ks f c kn s)→Xx us ks f c (Yr a nm kn) s=Xx ns ks f c kn s:=fun c kn s b h1 h2 h3 h4 h5=>Tr.Ren.go R hpar f c b kn s h1 h2 h3 h4 h5
  have hK:∀ c kn s b,Tr.Cov ks b (X5 ks c) c→Tr.Keep b (c+1) s (Xx ns ks f c kn s):=fun c kn s b hc=>Tr.Keep.go ns f c b kn s hc
  rw [Xx] at hA
  rw [Xx,Xx,R.kind k]
  have hb:=h.le
  by_cases h5:X4 ns k=5
  ·rw [if_pos h5] at hA ⊢
   rw [if_pos h5]
   exact R.use hkl h5 hkn (hf k hb (by omega)) (hA k hb (by omega))
  ·rw [if_neg h5] at hA ⊢
   rw [if_neg h5]
   by_cases h23:X4 ns k=23
   ·rw [if_pos h23,if_pos h23]
   ·rw [if_neg h23] at hA ⊢
    rw [if_neg h23]
    by_cases hfn:X4 ns k=15∨X4 ns k=20
    ·rw [if_pos hfn] at hA ⊢
     rw [if_pos hfn]
     exact R.fn _ _ hK hG _ [] kn false s b k (hpar k hfn) (fun x hx=>by cases hx) hkn h (by omega) (hf.mono (Nat.le_refl _) (by omega)) (hA.mono (Nat.le_refl _) (by omega))
    ·rw [if_neg hfn] at hA ⊢
     rw [if_neg hfn]
     by_cases hlt:X4 ns k=14∨X4 ns k=16
     ·rw [if_pos hlt] at hA ⊢
      rw [if_pos hlt]
      rw [show Yr a nm kn++[(Xb us k,k)]=Yr a nm (kn++[(Xb ns k,k)]) by rw [JN,R.text hkl h5]]
      exact Tr.Ren.let_ _ _ hK hG kn _ hkn (hkn.snoc hkl) s _ b k h (by omega) (hf.mono (Nat.le_refl _) (by omega)) (hA.mono (Nat.le_refl _) (by omega))
     ·rw [if_neg hlt] at hA ⊢
      rw [if_neg hlt]
      exact Tr.Ren.fold (ns:=ns) (B:=B) (fun y s=>Xx ns ks f y kn s) (fun y s=>Xx us ks f y (Yr a nm kn) s) (fun c s b hc=>hK c kn s b hc) (fun c s b hc h1 h2 h3=>hG c kn s b hc hkn h1 h2 h3) _ s b k h (by omega) (hf.mono (Nat.le_refl _) (by omega)) (hA.mono (Nat.le_refl _) (by omega))
end
theorem ZP (a:Nat) (B:List Int) (nm:ByteArray):∀ (l:List Tr.Nd) (i k:Nat),(Xp a B nm l i)[k]?=l[k]?.map (Y2 a B nm (i+k))
 | [],_,_=>by simp [Xp]
 | d :: r,i,0=>by simp [Xp]
 | d :: r,i,k+1=>by
  rw [Xp,List.getElem?_cons_succ,List.getElem?_cons_succ,ZP a B nm r (i+1) k,show i+1+k=i+(k+1) from by omega]
theorem Qi (a:Nat) (B:List Int) (nm:ByteArray) (i:Nat) (d:Tr.Nd):(Y2 a B nm i d).kids=d.kids∧(Y2 a B nm i d).kind=d.kind:=by unfold Y2;split <;> exact ⟨rfl,rfl⟩
theorem QW (a:Nat) (B:List Int) (nm:ByteArray):∀ (l:List Tr.Nd) (k i:Nat) (op:List Nat),Xw (Xp a B nm l k) i op=Xw l i op
 | [],_,_,_=>rfl
 | d :: r,k,i,op=>by
  rw [Xp,Xw,Xw,(Qi a B nm k d).1]
  split
  ·rfl
  ·rw [QW a B nm r (k+1)]
theorem Tr.kids_ren (a:Nat) (B:List Int) (nm:ByteArray) (l:List Tr.Nd):Xf (Xp a B nm l 0)=Xf l:=by unfold Xf;rw [QW]
theorem ZX (a:Nat) (B:List Int) (nm:ByteArray) (l:List Tr.Nd) (k:Nat):X4 (Xp a B nm l 0) k=X4 l k:=by
 unfold X4
 rw [ZP]
 cases l[k]? with
 | none=>rfl
 | some d=>exact (Qi a B nm (0+k) d).2
theorem JB (a:Nat) (B:List Int) (nm:ByteArray) (l:List Tr.Nd):Y7 (Xp a B nm l 0)=Y7 l:=by funext k;unfold Y7;rw [ZX]
theorem Tr.esOf_ren (a:Nat) (B:List Int) (nm:ByteArray) (l:List Tr.Nd) (ls:List Nat):XL (Xp a B nm l 0) ls=XL l ls:=by
 induction ls with
 | nil=>rfl
 | cons x r ih=>rw [XL,XL,ih,JB]
theorem Tr.firsts_ren (a:Nat) (B:List Int) (nm:ByteArray) (l:List Tr.Nd) (ls:List Nat):XE (Xp a B nm l 0) ls=XE l ls:=by
 induction ls with
 | nil=>rfl
 | cons x r ih=>rw [XE,XE,ih,JB]
theorem Tr.allK_ren (a:Nat) (B:List Int) (nm:ByteArray) (l:List Tr.Nd) (p:Int→Bool) (ls:List Nat):Xy (Xp a B nm l 0) p ls=Xy l p ls:=by
 induction ls with
 | nil=>rfl
 | cons x r ih=>rw [Xy,Xy,ih,ZX]
theorem ZjR {l:List Tr.Nd} {p:Int→Bool} {ls:List Nat} (h:Xy l p ls=true):∀ x∈ls,p (X4 l x)=true:=by
 induction ls with
 | nil=>intro x hx;cases hx
 | cons y r ih =>
  rw [Xy,Bool.and_eq_true] at h
  intro x hx
  rcases List.mem_cons.1 hx with rfl | hx
  ·exact h.1
  ·exact ih h.2 x hx
theorem U1 {ns us:List Tr.Nd} {ls:List Nat} (h:∀ x∈ls,us[x]?.map (·.text)=ns[x]?.map (·.text)):Z6 us ls=Z6 ns ls:=by
 unfold Z6
 congr 1
 refine propext ⟨fun q i hi k hk=>?_,fun q i hi k hk=>?_⟩
 ·rw [← h _ (List.getElem_mem hi),← h _ (List.getElem_mem (show k < ls.length by omega))];exact q i hi k hk
 ·rw [h _ (List.getElem_mem hi),h _ (List.getElem_mem (show k < ls.length by omega))];exact q i hi k hk
theorem Tr.kidsOk_ren {a:Nat} {B:List Int} {nm:ByteArray} {ns:List Tr.Nd} (ht:∀ x,X4 ns x=17∨X4 ns x=18→(Xp a B nm ns 0)[x]?.map (·.text)=ns[x]?.map (·.text)) (k:Int) (ls:List Nat) (h:Xm ns k ls=true):Xm (Xp a B nm ns 0) k ls=true:=by
 unfold Xm at h ⊢
 simp only [Tr.esOf_ren,Tr.firsts_ren,Tr.allK_ren,JB]
 by_cases h9:k=9
 ·subst h9
  simp only [show ¬ ((9:Int)=1∨(9:Int)=2∨(9:Int)=3∨(9:Int)=4∨(9:Int)=5) by decide,show ¬ ((9:Int)=6∨(9:Int)=11∨(9:Int)=17∨(9:Int)=18∨(9:Int)=21∨(9:Int)=22) by decide,show ¬ ((9:Int)=7∨(9:Int)=10∨(9:Int)=14) by decide,show ¬ ((9:Int)=13) by decide,show ¬ ((9:Int)=16) by decide,show ¬ ((9:Int)=19) by decide,show ¬ ((9:Int)=8) by decide,if_false,if_true] at h ⊢
  rw [Bool.and_eq_true,Bool.and_eq_true] at h
  rw [U1 (ns:=ns) (fun x hx=>ht x (.inl (by simpa using ZjR h.1.1 x hx)))]
  simp only [h.1.1,h.1.2,h.2,Bool.and_self]
 ·by_cases h12:k=12
  ·subst h12
   simp only [show ¬ ((12:Int)=1∨(12:Int)=2∨(12:Int)=3∨(12:Int)=4∨(12:Int)=5) by decide,show ¬ ((12:Int)=6∨(12:Int)=11∨(12:Int)=17∨(12:Int)=18∨(12:Int)=21∨(12:Int)=22) by decide,show ¬ ((12:Int)=7∨(12:Int)=10∨(12:Int)=14) by decide,show ¬ ((12:Int)=13) by decide,show ¬ ((12:Int)=16) by decide,show ¬ ((12:Int)=19) by decide,show ¬ ((12:Int)=8) by decide,show ¬ ((12:Int)=9) by decide,if_false,if_true] at h ⊢
   rw [Bool.and_eq_true,Bool.and_eq_true,Bool.and_eq_true] at h
   rw [U1 (ns:=ns) (fun x hx=>ht x (.inr (by simpa using ZjR h.1.1.1 x hx)))]
   simp only [h.1.1.1,h.1.1.2,h.1.2,h.2,Bool.and_self]
  ·simp only [if_neg h9,if_neg h12] at h ⊢
   exact h
theorem Tr.plain_ren {d:Tr.Nd} {nm:ByteArray} (hn:XZ nm=true) (hk:d.kind=5∨d.kind=14∨d.kind=16) (h:X9 d=true):X9 {d with text:=nm}=true:=by
 unfold X9 at h ⊢
 rcases hk with e | e | e <;> (simp [e,XA,Xn] at h ⊢;simp [h,hn])
theorem Tr.vgo_ren {us ns:List Tr.Nd} (hko:∀ k ls,Xm ns k ls=true→Xm us k ls=true):∀ (l l':List Tr.Nd) (ks:List (List Nat)) (hs:List Nat),l.length=l'.length→(∀ (i:Nat) (d d':Tr.Nd),l[i]?=some d→l'[i]?=some d'→X9 d=true→X9 d'=true∧d'.kind=d.kind)→Zz ns (l.zip ks) hs=true→Zz us (l'.zip ks) hs=true
 | [],[],_,_,_,_,_=>rfl
 | d :: l,d' :: l',[],hs,_,_,_=>rfl
 | d :: l,d' :: l',k :: ks,hs,hl,hd,h=>by
  rw [List.zip_cons_cons,Zz] at h ⊢
  rw [Bool.and_eq_true,Bool.and_eq_true,Bool.and_eq_true] at h
  obtain ⟨p1,p2⟩:=hd 0 d d' rfl rfl h.1.1.2
  rw [h.1.1.1,p1,p2,hko _ _ h.1.2,Tr.vgo_ren hko l l' ks _ (by simpa using hl) (fun i x x' h1 h2=>hd (i+1) x x' (by simpa using h1) (by simpa using h2)) h.2]
  rfl
theorem Tr.dupK_binds (ns:List Tr.Nd) (x:Nat) (kn:List Tr.Kn) (s:Tr.St):(Zn ns x kn s).binds=s.binds:=by
 unfold Zn
 induction kn generalizing s with
 | nil=>rfl
 | cons p r ih=>rw [List.foldl_cons,ih];split;exact Y1 _ _ _;rfl
theorem Qz (ns:List Tr.Nd):∀ (ms:List Nat) (kn:List Tr.Kn) (s:Tr.St),(YD ns ms kn s).2.binds=s.binds
 | [],_,_=>by rw [YD]
 | x :: r,kn,s=>by rw [YD,Qz ns r,Tr.dupK_binds]
theorem Tr.mkS_ren {ns us:List Tr.Nd}:∀ (ms:List Nat) (kn:List Tr.Kn) (s:Tr.St),(∀ x∈ms,Xb us x=Xb ns x)→YD us ms kn s=YD ns ms kn s
 | [],_,_,_=>by rw [YD,YD]
 | x :: r,kn,s,h=>by
  have hx:=h x (by simp)
  rw [YD,YD,Tr.mkS_ren r _ _ (fun y hy=>h y (by simp [hy])),hx]
  unfold Zn
  rw [hx]
theorem JP (ns:List Tr.Nd) (a:Nat):∀ (ms:List Nat) (kn:List Tr.Kn) (s:Tr.St),(∀ x∈ms,x≠a)→(∀ p∈kn,p.2≠a)→∀ p∈(YD ns ms kn s).1,p.2≠a
 | [],kn,_,_,hk=>by rw [YD];exact hk
 | x :: r,kn,s,h,hk=>by
  rw [YD]
  refine JP ns a r _ _ (fun y hy=>h y (by simp [hy])) (fun p hp=>?_)
  rcases List.mem_append.1 hp with hp | hp
  ·exact hk p hp
  ·rw [List.mem_singleton.1 hp];exact h x (by simp)
theorem Tr.renK_same {a:Nat} {nm:ByteArray} {kn:List Tr.Kn} (h:∀ p∈kn,p.2≠a):Yr a nm kn=kn:=by
 unfold Yr
 induction kn with
 | nil=>rfl
 | cons p r ih =>
  rw [List.map_cons,ih (fun q hq=>h q (by simp [hq])),if_neg (h p (by simp))]
theorem Tr.go_load {ns:List Tr.Nd} {ks:List (List Nat)} {y:Nat} (h:X4 ns y=23) (f:Nat) (kn:List Tr.Kn) (s:Tr.St):Xx ns ks f y kn s=s:=by
 cases f with
 | zero=>rw [Xx]
 | succ f=>rw [Xx,if_neg (by rw [h];decide),if_pos h]
theorem JW (ns:List Tr.Nd) (ks:List (List Nat)) (f x y:Nat) (kn:List Tr.Kn) (h23:X4 ns y=23) (hx:x∈X5 ks y):∀ (l:List Nat) (s:Tr.St) (b e:Nat),Tr.Cov ks b l e→y∈l→(l.foldl (fun s z=>Xx ns ks f z kn s) s).binds[x]?=s.binds[x]?
 | [],_,_,_,_,hy=>by cases hy
 | z :: r,s,b,e,h,hy=>by
  cases h using Tr.Cov.cas with
  | cons h1 h2 =>
   rw [List.foldl_cons]
   have hK:=Tr.Keep.fold (ks:=ks) (fun z s=>Xx ns ks f z kn s) (fun c s b hc=>Tr.Keep.go ns f c b kn s hc) r (Xx ns ks f z kn s) (z+1) e h2
   by_cases hz:y=z
   ·subst hz
    have hm:=h1.mem hx
    rw [hK x (.inl (by omega)),Tr.go_load h23]
   ·have hyr:y∈r:=by
     rcases List.mem_cons.1 hy with h | h
     ·exact absurd h hz
     ·exact h
    rw [JW ns ks f x y kn h23 hx r _ _ _ h2 hyr]
    refine Tr.Keep.go ns f z b kn s h1 x (.inr ?_)
    have a0:∀ (l:List Nat) (b e:Nat),Tr.Cov ks b l e→y∈l→b≤x:=by
     intro l
     induction l with
     | nil=>intro _ _ _ h;cases h
     | cons u t ih =>
      intro b e hc hm
      cases hc using Tr.Cov.cas with
      | cons g1 g2 =>
       by_cases hu:y=u
       ·subst hu;exact (g1.mem hx).1
       ·have:=ih _ _ g2 (by rcases List.mem_cons.1 hm with h | h;exact absurd h hu;exact h)
        have:=g1.le
        omega
    exact a0 r _ _ h2 hyr
theorem KR {ns:List Tr.Nd} (h:XS ns=true):YP ns=24∧XY ns=true∧Zz ns (ns.zip (Xf ns)) []=true∧Xn ns.length 1 5000=true:=by
 unfold XS at h
 simp only [Bool.and_eq_true] at h
 exact ⟨by simpa using h.1.1.2,h.1.2,h.2,h.1.1.1⟩
theorem JS {ns:List Tr.Nd} (h:XS ns=true) {k:Nat} (hk:k < ns.length):Xm ns (X4 ns k) (X5 (Xf ns) k)=true:=by
 obtain ⟨_,h3,h4,_⟩:=KR h
 have hkl:=Zs h3
 have hk2:k < (Xf ns).length:=by omega
 have:=QS ns ns (Xf ns) [] h4 k hk hk2
 rw [XJ hk]
 unfold X5
 rw [List.getElem?_eq_getElem hk2]
 exact this
theorem JQ {ns:List Tr.Nd} (h:YP ns=24):X4 ns (ns.length - 1)=24:=by
 unfold YP at h
 unfold X4
 rw [List.getLast?_eq_getElem?] at h
 exact h
section
variable {ns:List Tr.Nd} {at_:Int} {nm:ByteArray}
theorem JM (hf:Xz ns=true) (hp:Y3 ns at_=true) (hn:Z3 ns nm=true):Tr.Ren ns (Xp at_.toNat (Xe ns) nm ns 0) at_.toNat nm (Xe ns)∧at_.toNat < ns.length∧XZ nm=true:=by
 unfold Y3 at hp
 simp only [Bool.and_eq_true,decide_eq_true_eq] at hp
 unfold Z3 at hn
 simp only [Bool.and_eq_true] at hn
 obtain ⟨hok,a0,_⟩:=KD ns
 have hbl:=(a0 hf).1
 have ha:at_.toNat < ns.length:=by omega
 generalize at_.toNat=a at *
 have hka:X4 ns a=14∨X4 ns a=16:=by have:=hp.2;unfold Za at this;simpa using this
 have hB:∀ k,k < ns.length→∃ b,(Xe ns)[k]?=some b:=fun k hk=>⟨_,List.getElem?_eq_getElem (by omega)⟩
 have c:∀ k,Xb (Xp a (Xe ns) nm ns 0) k=(ns[k]?.map (fun d=>(Y2 a (Xe ns) nm k d).text)).getD ⟨#[]⟩:=fun k=>by
  unfold Xb;rw [ZP,Nat.zero_add,Option.map_map];rfl
 refine ⟨⟨fun k=>ZX _ _ _ _ _,hka,?_,fun k b h1 h2 h3=>?_,fun k h1=>?_,fun k hk e=>?_,fun k b h1 h2=>?_,hbl⟩,ha,hn.1.1⟩
 ·rw [c,List.getElem?_eq_getElem ha]
  show (Y2 a (Xe ns) nm a ns[a]).text=nm
  unfold Y2;rw [if_pos (.inl rfl)]
 ·rw [c]
  have hk:k < ns.length:=by have:=(List.getElem?_eq_some_iff.1 h2).1;omega
  unfold Xb
  rw [List.getElem?_eq_getElem hk]
  show (Y2 a (Xe ns) nm k ns[k]).text=ns[k].text
  unfold Y2
  rw [if_neg (by rw [h2];intro h;rcases h with h | h;exact h1 h;exact h3 h)]
 ·rw [c]
  have hk:k < ns.length:=by have:=(List.getElem?_eq_some_iff.1 h1).1;omega
  rw [List.getElem?_eq_getElem hk]
  show (Y2 a (Xe ns) nm k ns[k]).text=nm
  unfold Y2
  rw [if_pos (.inr (by rw [h1];rfl))]
 ·have h2:=hn.2
  simp only [Bool.not_eq_true',List.any_eq_false,decide_eq_true_eq] at h2
  unfold Xb at e
  rw [List.getElem?_eq_getElem hk] at e
  exact h2 ns[k] (List.getElem_mem hk) e
 ·rcases hok k b h1 with h | ⟨h,_⟩
  ·exact h
  ·exact absurd h h2
theorem Tr.ren_valid (hf:Xz ns=true) (hp:Y3 ns at_=true) (hn:Z3 ns nm=true):XS (Xp at_.toNat (Xe ns) nm ns 0)=true:=by
 obtain ⟨R,ha,hnm⟩:=JM hf hp hn
 generalize at_.toNat=a at *
 have hv:=YH hf
 obtain ⟨v1,v2,v3,v4⟩:=KR hv
 obtain ⟨hok,_,_⟩:=KD ns
 have hRB:=R.len
 generalize Xe ns=B at *
 have c:=ZT a B nm ns 0
 have hpl:∀ (i:Nat) (d d':Tr.Nd),ns[i]?=some d→(Xp a B nm ns 0)[i]?=some d'→X9 d=true→X9 d'=true∧d'.kind=d.kind:=fun i d d' h1 h2 h3=>by
  rw [ZP,h1,Nat.zero_add] at h2
  have h2:Y2 a B nm i d=d':=Option.some.inj h2
  rw [← h2]
  refine ⟨?_,(Qi a B nm i d).2⟩
  have hi:i < ns.length:=(List.getElem?_eq_some_iff.1 h1).1
  have hk:X4 ns i=d.kind:=by unfold X4;rw [h1]
  unfold Y2
  split
  ·rename_i hc
   refine Tr.plain_ren hnm ?_ h3
   rcases hc with hc | hc
   ·have:=R.ka;rw [← hc,hk] at this;exact .inr this
   ·obtain ⟨b,hb⟩:∃ b,B[i]?=some b:=⟨_,List.getElem?_eq_getElem (by omega)⟩
    rw [hb] at hc
    have hc:b=(a:Int):=hc
    by_cases h5:X4 ns i=5
    ·rw [hk] at h5;exact .inl h5
    ·have:=R.b5 i b hb h5;omega
  ·exact h3
 have hko:∀ k ls,Xm ns k ls=true→Xm (Xp a B nm ns 0) k ls=true:=fun k ls h=>by
  refine Tr.kidsOk_ren (fun x hx=>?_) k ls h
  rw [ZP,Nat.zero_add,Option.map_map]
  cases hd:ns[x]? with
  | none=>rfl
  | some d =>
   have hxl:x < ns.length:=(List.getElem?_eq_some_iff.1 hd).1
   have hxa:x≠a:=fun e=>by have:=R.ka;rw [← e] at this;omega
   obtain ⟨b,hb⟩:∃ b,B[x]?=some b:=⟨_,List.getElem?_eq_getElem (by omega)⟩
   have hb1:=R.b5 x b hb (by omega)
   show some (Y2 a B nm x d).text=some d.text
   unfold Y2
   rw [if_neg (by rw [hb];intro h;rcases h with h | h;exact hxa h;have h:b=(a:Int):=h;omega)]
 unfold XS
 rw [c,v4,Tr.kids_ren]
 have g1:YP (Xp a B nm ns 0)=24:=by
  unfold YP
  rw [List.getLast?_eq_getElem?,c]
  exact (ZX a B nm ns (ns.length - 1)).trans (JQ v1)
 have g2:XY (Xp a B nm ns 0)=true:=by unfold XY;rw [QW];exact v2
 rw [g1,g2,Tr.vgo_ren hko ns _ (Xf ns) [] c.symm hpl v3]
 rfl
theorem Tr.ren_look (hf:Xz ns=true) (hp:Y3 ns at_=true) (hn:Z3 ns nm=true):YT (Xp at_.toNat (Xe ns) nm ns 0) (Xf ns)=YT ns (Xf ns):=by
 obtain ⟨R,ha,_⟩:=JM hf hp hn
 generalize at_.toNat=a at *
 have hv:=YH hf
 obtain ⟨v1,v2,v3,v4⟩:=KR hv
 obtain ⟨a0,hn0⟩:=Tr.root_cov v2
 have f:=Zs v2
 have g:Xe ns=(YT ns (Xf ns)).binds:=by unfold Xe;rw [hf];rfl
 have a3:=ZT a (Xe ns) nm ns 0
 generalize hB:Xe ns=B at *
 generalize hus:Xp a B nm ns 0=us at *
 have hmk:Xs us (Xf ns) (X5 (Xf ns) (ns.length - 1))=Xs ns (Xf ns) (X5 (Xf ns) (ns.length - 1)):=by
  unfold Xs
  congr 1
  funext x
  unfold Ks
  rw [R.kind]
 have hkk:∀ k,∀ x∈X5 (Xf ns) k,x < ns.length:=by
  intro k x hx
  unfold X5 at hx
  rcases Nat.lt_or_ge k (Xf ns).length with h | h
  ·rw [List.getElem?_eq_getElem h] at hx;have:=K5 ns k h x hx;omega
  ·rw [List.getElem?_eq_none h] at hx;cases hx
 have hks:∀ k (h:k < (Xf ns).length),∀ x∈(Xf ns)[k],x < ns.length:=fun k h x hx=>by have:=K5 ns k h x hx;omega
 unfold YT at g ⊢
 rw [a3,hmk]
 have hml:=QV ns (Xf ns) (ns.length - 1) hks
 obtain ⟨hkn,_⟩:=Tr.StOk.mk (Xs ns (Xf ns) (X5 (Xf ns) (ns.length - 1))) [] _ hml (fun _ h=>by cases h) (Tr.StOk.start ns)
 have a1:=JQ v1
 obtain ⟨n,hnn⟩:∃ n,ns.length=n+1:=⟨ns.length - 1,by omega⟩
 have hms:∀ x∈Xs ns (Xf ns) (X5 (Xf ns) (ns.length - 1)),x≠a∧Xb us x=Xb ns x:=by
  intro x hx
  have hxl:=hml x hx
  unfold Xs at hx
  obtain ⟨y,hy,c⟩:=List.mem_flatMap.1 hx
  unfold Ks at c
  split at c
  ·rename_i hk
   have c:x=y:=by simpa using c
   subst c
   have d:x≠a:=fun e=>by have:=R.ka;rw [← e] at this;omega
   exact ⟨d,by rw [R.text hxl (by omega),if_neg d]⟩
  ·split at c
   ·rename_i hk
    have hyl:=hkk _ y hy
    have b:=JS hv hyl
    rw [hk] at b
    have h5:X4 ns x=5:=by
     simp [Xm] at b
     simpa using ZjR b.1 x c
    have d:x≠a:=fun e=>by have:=R.ka;rw [← e] at this;omega
    have hB1:B[x]?=some (-1):=by
     rw [g]
     rw [show Xx ns (Xf ns) ns.length=Xx ns (Xf ns) (n+1) by rw [hnn],Xx,a1,if_neg (by decide),if_neg (by decide),if_neg (by decide),if_neg (by decide)]
     rw [JW ns (Xf ns) n x y _ hk c _ _ _ _ a0 hy,Qz]
     unfold YV
     rw [List.getElem?_replicate,if_pos hxl]
    exact ⟨d,R.tn x (-1) d hB1 (by omega)⟩
   ·cases c
 rw [Tr.mkS_ren _ _ _ (fun x hx=>(hms x hx).2)]
 have a2:=Tr.renK_same (nm:=nm) (JP ns a (Xs ns (Xf ns) (X5 (Xf ns) (ns.length - 1))) [] (YV ns.length) (fun x hx=>(hms x hx).1) (fun p hp=>by cases hp))
 have hmb:=Qz ns (Xs ns (Xf ns) (X5 (Xf ns) (ns.length - 1))) [] (YV ns.length)
 generalize YD ns (Xs ns (Xf ns) (X5 (Xf ns) (ns.length - 1))) [] (YV ns.length)=M at *
 have hgo:=R.go (ks:=Xf ns) (fun k hk x hx=>by
  rcases Nat.lt_or_ge k ns.length with f | f
  ·have b:=JS hv f
   have h19:Xy ns (fun x=>x == 19) (X5 (Xf ns) k).dropLast=true:=by
    rcases hk with hk | hk <;> (rw [hk] at b;simp [Xm] at b;exact b.1.1)
   simpa using ZjR h19 x hx
  ·simp [X4,List.getElem?_eq_none f] at hk) ns.length (ns.length - 1) 0 M.1 M.2 (by omega) hkn a0 (fun j _ hj=>by
   rw [hmb];unfold YV;rw [List.getElem?_replicate,if_pos (by omega)]) (fun j _ _=>by rw [g])
 rw [a2] at hgo
 exact hgo
theorem Tr.ren_same (hf:Xz ns=true) (hp:Y3 ns at_=true) (hn:Z3 ns nm=true):Xz (Xp at_.toNat (Xe ns) nm ns 0)=true∧Xe (Xp at_.toNat (Xe ns) nm ns 0)=Xe ns:=by
 have hv:=Tr.ren_valid hf hp hn
 have hl:=Tr.ren_look hf hp hn
 have hk:=Tr.kids_ren at_.toNat (Xe ns) nm ns
 have hc:Xk (Xp at_.toNat (Xe ns) nm ns 0)=Xk ns:=by
  unfold Xk
  rw [hv,YH hf,hk,hl]
 have hf2:Xz (Xp at_.toNat (Xe ns) nm ns 0)=true:=by unfold Xz at hf ⊢;rw [hc];exact hf
 refine ⟨hf2,?_⟩
 show (if Xz (Xp at_.toNat (Xe ns) nm ns 0)=true then _ else _)=_
 rw [if_pos hf2,hk,hl]
 show _=(if Xz ns=true then _ else _)
 rw [if_pos hf]
theorem Tr.ren_back (hf:Xz ns=true) (hp:Y3 ns at_=true) (hn:Z3 ns nm=true):Xq (Xp at_.toNat (Xe ns) nm ns 0) at_ (Xb ns at_.toNat)=([],3)∨Xq (Xp at_.toNat (Xe ns) nm ns 0) at_ (Xb ns at_.toNat)=(ns,0):=by
 obtain ⟨h1,h2⟩:=Tr.ren_same hf hp hn
 obtain ⟨hok,_,_⟩:=KD ns
 have hp2:Y3 (Xp at_.toNat (Xe ns) nm ns 0) at_=true:=by
  unfold Y3 at hp ⊢
  rw [ZT,ZX]
  exact hp
 unfold Xq
 rw [h1,hp2,h2]
 simp only [Bool.true_eq_false,if_false]
 cases hw:Z3 (Xp at_.toNat (Xe ns) nm ns 0) (Xb ns at_.toNat)
 ·exact .inl rfl
 ·refine .inr ?_
  simp only [Bool.true_eq_false,if_false]
  refine Prod.ext ?_ rfl
  refine List.ext_getElem? (fun k=>?_)
  show (Xp _ _ _ (Xp _ _ _ _ _) _)[k]?=_
  rw [ZP,ZP,Option.map_map]
  cases hd:ns[k]? with
  | none=>rfl
  | some d =>
   show some (Y2 _ _ _ (0+k) (Y2 _ _ _ (0+k) d))=some d
   rw [Nat.zero_add]
   have htk:Xb ns k=d.text:=by unfold Xb;rw [hd];rfl
   unfold Y2
   by_cases hc:k=at_.toNat∨(Xe ns)[k]?.getD 0=(at_.toNat:Int)
   ·rw [if_pos hc,if_pos hc]
    have he:Xb ns at_.toNat=d.text:=by
     rcases hc with hc | hc
     ·rw [← hc];exact htk
     ·rcases hb:(Xe ns)[k]? with _ | b
      ·have:=(KD ns).2.1 hf
       have hk:k < ns.length:=(List.getElem?_eq_some_iff.1 hd).1
       rw [List.getElem?_eq_getElem (by omega)] at hb
       cases hb
      ·rw [hb] at hc
       have hc:b=(at_.toNat:Int):=hc
       rcases hok k b hb with h | ⟨_,h | ⟨a,ha,_,ht⟩⟩
       ·omega
       ·omega
       ·have:a=at_.toNat:=by omega
        rw [← this,ht];exact htk
    rw [he]
   ·rw [if_neg hc,if_neg hc]
end
end Go.Proofs.YtimbaebigjjkaaaGreatDoor
