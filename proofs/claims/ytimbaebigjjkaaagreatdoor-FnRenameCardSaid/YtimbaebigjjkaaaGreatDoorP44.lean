/- Na, Nl. -/
import Derived.Test.YtimbaebigjjkaaaGreatDoorP43
import Derived.Test.YtimbaebigjjkaaaGreatDoorP36
namespace Go.Proofs.YtimbaebigjjkaaaGreatDoor
open Go.RowKit
/-! ### faults -/
def Z5 (s:Tr.St):Prop:=∀ c∈s.codes,c=0
theorem Tr.faultS_len (k:Nat) (c:Int) (s:Tr.St):(Xg k c s).codes.length=s.codes.length:=by
 unfold Xg;split <;> simp
theorem Y1 (k:Nat) (c:Int) (s:Tr.St):(Xg k c s).binds=s.binds:=by
 unfold Xg;split <;> rfl
theorem Tr.faultS_codes (k:Nat) (c:Int) (s t:Tr.St) (h:s.codes=t.codes):(Xg k c s).codes=(Xg k c t).codes:=by
 unfold Xg;rw [h];split <;> simp [h]
theorem Tr.St.ext' {s t:Tr.St} (h1:s.codes=t.codes) (h2:s.binds=t.binds):s=t:=by
 cases s;cases t;simp at h1 h2;simp [h1,h2]
theorem K2 {k:Nat} {c:Int} {s:Tr.St} (hc:c≠0) (h:Z5 (Xg k c s)):Z5 s:=by
 unfold Xg at h
 split at h
 ·by_cases hk:k < s.codes.length
  ·exact absurd (h c (List.mem_set hk c)) hc
  ·intro x hx
   exact h x (by show x∈s.codes.set k c;rw [List.set_eq_of_length_le (by omega)];exact hx)
 ·exact h
theorem Tr.faultS_dirty {k:Nat} {c:Int} {s:Tr.St} (hc:c≠0) (hk:k < s.codes.length):¬ Z5 (Xg k c s):=by
 intro h
 unfold Xg at h
 split at h
 ·exact hc (h c (List.mem_set hk c))
 ·rename_i hn
  apply hn
  left
  rw [List.getElem?_eq_getElem hk]
  exact h _ (List.getElem_mem hk)
theorem QI (k:Nat) (c:Int) (s:Tr.St) (hc:c≠0):Xg k c (Xg k c s)=Xg k c s:=by
 by_cases h:s.codes[k]?.getD 0=0∨c < s.codes[k]?.getD 0
 ·have e:Xg k c s={s with codes:=s.codes.set k c}:=by unfold Xg;rw [if_pos h]
  rw [e]
  by_cases hk:k < s.codes.length
  ·unfold Xg
   rw [if_neg]
   simp [hk]
   exact hc
  ·have e2:s.codes.set k c=s.codes:=List.set_eq_of_length_le (by omega)
   rw [e2,e,e2]
 ·have e:Xg k c s=s:=by unfold Xg;rw [if_neg h]
  rw [e,e]
theorem KV (k p:Nat) (c d:Int) (s:Tr.St) (h:k≠p):Xg k c (Xg p d s)=Xg p d (Xg k c s):=by
 have g1:∀ (v:Int),(s.codes.set p v)[k]?.getD 0=s.codes[k]?.getD 0:=fun v=>by rw [List.getElem?_set_ne (Ne.symm h)]
 have g2:∀ (v:Int),(s.codes.set k v)[p]?.getD 0=s.codes[p]?.getD 0:=fun v=>by rw [List.getElem?_set_ne h]
 unfold Xg
 by_cases h1:s.codes[k]?.getD 0=0∨c < s.codes[k]?.getD 0 <;> by_cases h2:s.codes[p]?.getD 0=0∨d < s.codes[p]?.getD 0
 ·rw [if_pos h2,if_pos h1]
  simp only [g1,g2]
  rw [if_pos h1,if_pos h2,List.set_comm _ _ (Ne.symm h)]
 ·rw [if_neg h2,if_pos h1]
  simp only [g2]
  rw [if_neg h2]
 ·rw [if_pos h2,if_neg h1]
  simp only [g1]
  rw [if_neg h1,if_pos h2]
 ·rw [if_neg h2,if_neg h1,if_neg h2]
/-! ### a fault further on commutes with what the specification does -/
def Tr.Cm (G:Nat→List Tr.Kn→Tr.St→Tr.St) (p:Nat) (d:Int) (m:Nat):Prop:=∀ y,y < m→∀ kn s,G y kn (Xg p d s)=Xg p d (G y kn s)
theorem Tr.Cm.fold {G:Nat→List Tr.Kn→Tr.St→Tr.St} {p:Nat} {d:Int} {m:Nat} (h:Tr.Cm G p d m) (kn:List Tr.Kn) (ls:List Nat) (hl:∀ y∈ls,y < m) (s:Tr.St) :
  ls.foldl (fun s y=>G y kn s) (Xg p d s)=Xg p d (ls.foldl (fun s y=>G y kn s) s):=by
 induction ls generalizing s with
 | nil=>rfl
 | cons x r ih=>rw [List.foldl_cons,List.foldl_cons,h x (hl x (by simp)),ih (fun y hy=>hl y (by simp [hy]))]
theorem Tr.dupS_comm (ns:List Tr.Nd) (q p:Nat) (d:Int) (h:q≠p) (seen:List Nat) (s:Tr.St):Ye ns q seen (Xg p d s)=Xg p d (Ye ns q seen s):=by
 unfold Ye
 induction seen generalizing s with
 | nil=>rfl
 | cons x r ih =>
  rw [List.foldl_cons,List.foldl_cons]
  split
  ·rw [KV _ _ _ _ _ h,ih]
  ·exact ih s
theorem Tr.Cm.par {G:Nat→List Tr.Kn→Tr.St→Tr.St} {p:Nat} {d:Int} {m:Nat} (h:Tr.Cm G p d m) (hm:m≤p) (ns:List Tr.Nd) (ks:List (List Nat)) (hk:∀ k,∀ x∈X5 ks k,x < k) (q:Nat) (hq:q < m) (seen:List Nat) (kn:List Tr.Kn) (df:Bool) (s:Tr.St) :
  YG G ns ks q seen kn df (Xg p d s)=Xg p d (YG G ns ks q seen kn df s):=by
 unfold YG
 have hd:=Tr.dupS_comm ns q p d (by omega) seen s
 cases hkk:X5 ks q with
 | nil =>
  simp only
  split
  ·rw [hd,KV _ _ _ _ _ (by omega)]
  ·exact hd
 | cons c r =>
  simp only
  have:=hk q c (by rw [hkk];simp)
  rw [hd,h c (by omega)]
theorem Tr.Cm.fn {G:Nat→List Tr.Kn→Tr.St→Tr.St} {p:Nat} {d:Int} {m:Nat} (h:Tr.Cm G p d m) (hm:m≤p) (ns:List Tr.Nd) (ks:List (List Nat)) (hk:∀ k,∀ x∈X5 ks k,x < k) :
  ∀ (ls seen:List Nat) (kn:List Tr.Kn) (df:Bool) (s:Tr.St),(∀ y∈ls,y < m)→Yh G ns ks ls seen kn df (Xg p d s)=Xg p d (Yh G ns ks ls seen kn df s)
 | [],_,_,_,_,_=>rfl
 | [x],_,_,_,_,hl=>h x (hl x (by simp)) _ _
 | q :: x :: r,seen,kn,df,s,hl=>by
  rw [Yh,Yh,h.par hm ns ks hk q (hl q (by simp))]
  exact Tr.Cm.fn h hm ns ks hk (x :: r) _ _ _ _ (fun y hy=>hl y (by simp only [List.mem_cons] at hy ⊢;exact .inr hy))
theorem Tr.Cm.go (ns:List Tr.Nd) (ks:List (List Nat)) (hk:∀ k,∀ x∈X5 ks k,x < k) (p:Nat) (d:Int) (f:Nat):Tr.Cm (Xx ns ks f) p d p:=by
 induction f with
 | zero=>intro y _ kn s;rfl
 | succ f ih =>
  intro y hy kn s
  rw [Xx,Xx]
  have b:∀ x∈X5 ks y,x < p:=fun x hx=>Nat.lt_trans (hk y x hx) hy
  split
  ·unfold YJ
   cases XH (Xb ns y) kn with
   | some a=>exact Tr.St.ext' (by simp only [Xg];split <;> rfl) (by simp [Y1])
   | none =>
    simp only
    split
    ·exact Tr.St.ext' (by simp only [Xg];split <;> rfl) (by simp [Y1])
    ·rw [KV _ _ _ _ _ (by omega)]
  ·split
   ·rfl
   ·split
    ·exact ih.fn (Nat.le_refl _) ns ks hk _ _ _ _ _ b
    ·split
     ·unfold Zl
      cases hkk:X5 ks y with
      | nil=>rfl
      | cons x r =>
       rw [hkk] at b
       simp only
       rw [ih x (b x (by simp)),ih.fold _ r (fun z hz=>b z (by simp [hz]))]
     ·exact ih.fold _ _ b _
/-! ### the two come to one -/
structure Tr.Re (n:Nat) (s t:Tr.St):Prop where
 len:s.codes.length=n
 codes:s.codes=t.codes
 binds:Z5 s→s.binds=t.binds
structure Tr.Se (ch:List Tr.Sp) (kn:List Tr.Kn) (s:Tr.St):Prop where
 weak:∀ x,(Z0 x ch).isSome=((XH x kn).isSome || decide (x.data.toList∈Yd))
 exact:Z5 s→∀ x,Z0 x ch=match XH x kn with
  | some a=>some (a:Int)
  | none=>if x.data.toList∈Yd then some (-2) else none
theorem Tr.Se.later {ch:List Tr.Sp} {kn:List Tr.Kn} {s s':Tr.St} (h:Tr.Se ch kn s) (hc:Z5 s'→Z5 s):Tr.Se ch kn s':=⟨h.weak,fun c=>h.exact (hc c)⟩
theorem Tr.Re.fault {n:Nat} {s t:Tr.St} (h:Tr.Re n s t) (k:Nat) {c:Int} (hc:c≠0):Tr.Re n (Xg k c s) (Xg k c t) :=
 ⟨(Tr.faultS_len _ _ _).trans h.len,Tr.faultS_codes _ _ _ _ h.codes,fun q=>by rw [Y1,Y1];exact h.binds (K2 hc q)⟩
theorem KS (x t:ByteArray) (k:Nat) (kn:List Tr.Kn):XH x (kn++[(t,k)])=if t=x then some k else XH x kn:=Jm x kn (t,k)
theorem U0 (x t:ByteArray) (v:Int) (sc:Tr.Sp) (ch:List Tr.Sp):Z0 x (((t,v) :: sc) :: ch)=if t=x then some v else Z0 x (sc :: ch):=by
 rw [Zf,Zf,Yz]
 split <;> rfl
theorem Tr.Se.push {sc:Tr.Sp} {ch:List Tr.Sp} {kn:List Tr.Kn} {s:Tr.St} (h:Tr.Se (sc :: ch) kn s) (t:ByteArray) (k:Nat):Tr.Se (((t,(k:Int)) :: sc) :: ch) (kn++[(t,k)]) s:=by
 constructor
 ·intro x
  rw [U0,KS]
  by_cases e:t=x
  ·rw [if_pos e,if_pos e];rfl
  ·rw [if_neg e,if_neg e];exact h.weak x
 ·intro c x
  rw [U0,KS]
  by_cases e:t=x
  ·rw [if_pos e,if_pos e]
  ·rw [if_neg e,if_neg e];exact h.exact c x
theorem Tr.Se.open {ch:List Tr.Sp} {kn:List Tr.Kn} {s:Tr.St} (h:Tr.Se ch kn s):Tr.Se ([] :: ch) kn s:=⟨fun x=>by rw [Zf];exact h.weak x,fun c x=>by rw [Zf];exact h.exact c x⟩
theorem Tr.enter_se {n:Nat} {ns:List Tr.Nd} {k:Nat} {sc:Tr.Sp} {ch:List Tr.Sp} {kn:List Tr.Kn} {s t:Tr.St} (hk:k < n) (hR:Tr.Re n s t) (hS:Tr.Se (sc :: ch) kn s) :
  Tr.Re n (Y0 ns k (sc,s)).2 (if (Yz (Xb ns k) sc).isSome=true then Xg k 8 t else t)∧Tr.Se ((Y0 ns k (sc,s)).1 :: ch) (kn++[(Xb ns k,k)]) (Y0 ns k (sc,s)).2 ∧
   (Z5 (Y0 ns k (sc,s)).2→Z5 s)∧∀ x,(Yz x (Y0 ns k (sc,s)).1).isSome=((Yz x sc).isSome || decide (Xb ns k=x)):=by
 unfold Y0
 simp only
 cases hg:Yz (Xb ns k) sc with
 | none =>
  simp only [Option.isSome_none]
  refine ⟨by simpa using hR,hS.push _ _,id,fun x=>?_⟩
  rw [Yz]
  by_cases e:Xb ns k=x
  ·simp [e]
  ·simp [e]
 | some v =>
  simp only [Option.isSome_some,if_pos]
  have hd:=Tr.faultS_dirty (k:=k) (c:=8) (s:=s) (by decide) (by rw [hR.len];exact hk)
  refine ⟨hR.fault k (by decide),⟨fun x=>?_,fun c=>absurd c hd⟩,K2 (by decide),fun x=>?_⟩
  ·rw [KS]
   by_cases e:Xb ns k=x
   ·rw [if_pos e,Zf,← e,hg];rfl
   ·rw [if_neg e];exact hS.weak x
  ·by_cases e:Xb ns k=x
   ·rw [← e,hg];rfl
   ·simp [e]
theorem Tr.dupS_if (ns:List Tr.Nd) (p:Nat) (seen:List Nat) (s:Tr.St):Ye ns p seen s=if seen.any (fun x=>decide (Xb ns x=Xb ns p))=true then Xg p 8 s else s:=by
 unfold Ye
 induction seen generalizing s with
 | nil=>rfl
 | cons x r ih =>
  rw [List.foldl_cons,List.any_cons]
  by_cases e:Xb ns x=Xb ns p
  ·rw [if_pos e,ih,decide_eq_true e,Bool.true_or,if_pos rfl]
   split
   ·exact QI _ _ _ (by decide)
   ·rfl
  ·rw [if_neg e,ih,decide_eq_false e,Bool.false_or]
theorem Tr.dupK_if (ns:List Tr.Nd) (p:Nat) (kn:List Tr.Kn) (s:Tr.St):Zn ns p kn s=if kn.any (fun x=>decide (x.1=Xb ns p))=true then Xg p 8 s else s:=by
 unfold Zn
 induction kn generalizing s with
 | nil=>rfl
 | cons x r ih =>
  rw [List.foldl_cons,List.any_cons]
  by_cases e:x.1=Xb ns p
  ·rw [if_pos e,ih,decide_eq_true e,Bool.true_or,if_pos rfl]
   split
   ·exact QI _ _ _ (by decide)
   ·rfl
  ·rw [if_neg e,ih,decide_eq_false e,Bool.false_or]
structure Tr.okN (ns:List Tr.Nd) (k:Nat):Prop where
 lt:k < ns.length
 a:X4 ns k≠23
 b:X4 ns k≠24
structure Tr.Kids (ns:List Tr.Nd) (ks:List (List Nat)):Prop where
 lt:∀ k,∀ x∈X5 ks k,x < k
 ok:∀ k,Tr.okN ns k→∀ x∈X5 ks k,Tr.okN ns x
 one:∀ k,X4 ns k=19→(X5 ks k).length≤1
 par:∀ k,X4 ns k=15∨X4 ns k=20→∀ x∈(X5 ks k).dropLast,X4 ns x=19
def Tr.Gok (ns:List Tr.Nd) (G:Nat→List Tr.Sp→Tr.St→Tr.St) (H:Nat→List Tr.Kn→Tr.St→Tr.St):Prop :=
 ∀ k ch kn s t,Tr.okN ns k→Tr.Re ns.length s t→Tr.Se ch kn s→Tr.Re ns.length (G k ch s) (H k kn t)∧(Z5 (G k ch s)→Z5 s)
theorem Tr.Gok.fold {ns:List Tr.Nd} {G:Nat→List Tr.Sp→Tr.St→Tr.St} {H:Nat→List Tr.Kn→Tr.St→Tr.St} (hG:Tr.Gok ns G H) (ch:List Tr.Sp) (kn:List Tr.Kn) (ls:List Nat) (hl:∀ x∈ls,Tr.okN ns x) (s t:Tr.St) (hR:Tr.Re ns.length s t) (hS:Tr.Se ch kn s) :
  Tr.Re ns.length (Zb G ls ch s) (ls.foldl (fun s y=>H y kn s) t)∧(Z5 (Zb G ls ch s)→Z5 s):=by
 unfold Zb
 induction ls generalizing s t with
 | nil=>exact ⟨hR,id⟩
 | cons x r ih =>
  rw [List.foldl_cons,List.foldl_cons]
  obtain ⟨h1,h2⟩:=hG x ch kn s t (hl x (by simp)) hR hS
  obtain ⟨h3,h4⟩:=ih (fun y hy=>hl y (by simp [hy])) _ _ h1 (hS.later h2)
  exact ⟨h3,fun c=>h2 (h4 c)⟩
theorem Tr.Gok.fn {ns:List Tr.Nd} {ks:List (List Nat)} {G:Nat→List Tr.Sp→Tr.St→Tr.St} {H:Nat→List Tr.Kn→Tr.St→Tr.St} (hG:Tr.Gok ns G H) (hK:Tr.Kids ns ks) (hC:∀ p d,Tr.Cm H p d p) (ch:List Tr.Sp) :
  ∀ (ls seen:List Nat) (sc:Tr.Sp) (kn:List Tr.Kn) (df:Bool) (s t:Tr.St),(∀ x∈ls,Tr.okN ns x)→(∀ x∈ls.dropLast,X4 ns x=19)→Tr.Re ns.length s t→Tr.Se (sc :: ch) kn s→(∀ x,(Yz x sc).isSome=seen.any (fun y=>decide (Xb ns y=x))) →
   Tr.Re ns.length (Kt G ns ks ls sc ch df s) (Yh H ns ks ls seen kn df t)∧(Z5 (Kt G ns ks ls sc ch df s)→Z5 s)
 | [],_,_,_,_,_,_,_,_,hR,_,_=>⟨hR,id⟩
 | [x],_,_,_,_,_,_,hl,_,hR,hS,_=>hG x _ _ _ _ (hl x (by simp)) hR hS
 | p :: q :: r,seen,sc,kn,df,s,t,hl,h19,hR,hS,hsc=>by
  rw [Kt,Yh]
  have hp:=hl p (by simp)
  have hk19:=hK.one p (h19 p (by simp))
  have hkok:=hK.ok p hp
  obtain ⟨f1,f2⟩:=hG.fold (sc :: ch) kn (X5 ks p) hkok s t hR hS
  obtain ⟨e1,e2,e3,e4⟩:=Tr.enter_se (ns:=ns) (k:=p) hp.lt f1 (hS.later f2)
  rw [hsc (Xb ns p)] at e1
  -- the specification's one
  have hspec:YG H ns ks p seen kn df t=if df=true∧(X5 ks p).length=0 then Xg p 10 (if seen.any (fun y=>decide (Xb ns y=Xb ns p))=true then Xg p 8 ((X5 ks p).foldl (fun s y=>H y kn s) t) else (X5 ks p).foldl (fun s y=>H y kn s) t)
    else (if seen.any (fun y=>decide (Xb ns y=Xb ns p))=true then Xg p 8 ((X5 ks p).foldl (fun s y=>H y kn s) t) else (X5 ks p).foldl (fun s y=>H y kn s) t):=by
   unfold YG
   rw [Tr.dupS_if]
   cases hkk:X5 ks p with
   | nil=>simp only [List.length_nil,and_true,List.foldl_nil]
   | cons c r' =>
    rw [hkk] at hk19
    obtain rfl:r'=[]:=by cases r' with
     | nil=>rfl
     | cons _ _=>simp at hk19
    have hcp:=hK.lt p c (by rw [hkk];simp)
    simp only [List.length_singleton,List.foldl_cons,List.foldl_nil]
    rw [if_neg (show ¬ (df=true∧1=0) by simp)]
    split
    ·exact hC p 8 c hcp kn t
    ·rfl
  have hr2:Tr.Re ns.length (K1 G ns ks p sc ch df s).2 (YG H ns ks p seen kn df t):=by
   rw [hspec]
   unfold K1
   simp only
   split
   ·exact e1.fault p (by decide)
   ·exact e1
  have hcl:Z5 (K1 G ns ks p sc ch df s).2→Z5 (Y0 ns p (sc,Zb G (X5 ks p) (sc :: ch) s)).2:=by
   unfold K1
   simp only
   split
   ·exact K2 (by decide)
   ·exact id
  obtain ⟨g1,g2⟩:=Tr.Gok.fn hG hK hC ch (q :: r) (seen++[p]) (K1 G ns ks p sc ch df s).1 (kn++[(Xb ns p,p)]) (df || !decide ((X5 ks p).length=0)) _ _
   (fun y hy=>hl y (List.mem_cons_of_mem _ hy)) (fun y hy=>h19 y (by rw [List.dropLast_cons_of_ne_nil (by simp)];exact List.mem_cons_of_mem _ hy)) hr2 (e2.later hcl)
   (fun x=>by rw [show (K1 G ns ks p sc ch df s).1=(Y0 ns p (sc,Zb G (X5 ks p) (sc :: ch) s)).1 from rfl,e4 x,hsc x,List.any_append];simp)
  exact ⟨g1,fun c=>f2 (e3 (hcl (g2 c)))⟩
theorem Tr.iwalk_go1 {ns:List Tr.Nd} {ks:List (List Nat)} (hK:Tr.Kids ns ks) (f:Nat):Tr.Gok ns (XW ns ks f) (Xx ns ks f):=by
 induction f with
 | zero=>intro k ch kn s t _ hR _;exact ⟨hR,id⟩
 | succ f ih =>
  intro k ch kn s t hk hR hS
  rw [XW,Xx,if_neg hk.a,if_neg hk.b]
  by_cases h5:X4 ns k=5
  ·rw [if_pos h5,if_pos h5]
   unfold QA YJ
   have hw:=hS.weak (Xb ns k)
   have hx:=fun c=>hS.exact c (Xb ns k)
   cases hl:XH (Xb ns k) kn with
   | some a =>
    rw [hl] at hw hx
    obtain ⟨v,hv⟩:=Option.isSome_iff_exists.1 (hw.trans rfl)
    rw [hv] at hx ⊢
    exact ⟨⟨hR.len,hR.codes,fun c=>by
     have e1:=hR.binds c
     have e2:=hx c
     simp only [Option.some.injEq] at e2
     simp only [e1,e2]⟩,id⟩
   | none =>
    rw [hl] at hw hx
    simp only at hx ⊢
    by_cases hb:(Xb ns k).data.toList∈Yd
    ·rw [if_pos hb]
     obtain ⟨v,hv⟩:=Option.isSome_iff_exists.1 (hw.trans (by simp [hb]))
     rw [hv] at hx ⊢
     exact ⟨⟨hR.len,hR.codes,fun c=>by
      have e1:=hR.binds c
      have e2:=hx c
      rw [if_pos hb] at e2
      simp only [Option.some.injEq] at e2
      simp only [e1,e2]⟩,id⟩
    ·rw [if_neg hb]
     have hv:Z0 (Xb ns k) ch=none:=by
      cases hq:Z0 (Xb ns k) ch with
      | none=>rfl
      | some v=>rw [hq] at hw;simp [hb] at hw
     rw [hv]
     exact ⟨hR.fault k (by decide),K2 (by decide)⟩
  ·rw [if_neg h5,if_neg h5]
   by_cases h14:X4 ns k=14∨X4 ns k=16
   ·have g:¬ (X4 ns k=15∨X4 ns k=20):=by omega
    rw [if_pos h14,if_neg g,if_pos h14]
    unfold JU Zl
    have i:=hK.ok k hk
    cases hkk:X5 ks k with
    | nil=>exact ⟨hR,id⟩
    | cons x r =>
     rw [hkk] at i
     simp only
     obtain ⟨f1,f2⟩:=ih x ch kn s t (i x (by simp)) hR hS
     obtain ⟨f3,f4⟩:=ih.fold _ _ r (fun y hy=>i y (by simp [hy])) _ _ f1 ((hS.open.push (Xb ns k) k).later f2)
     exact ⟨f3,fun c=>f2 (f4 c)⟩
   ·rw [if_neg h14]
    by_cases g:X4 ns k=15∨X4 ns k=20
    ·rw [if_pos g,if_pos g]
     exact ih.fn hK (fun p d=>Tr.Cm.go ns ks hK.lt p d f) ch _ [] [] kn false s t (hK.ok k hk) (hK.par k g) hR hS.open (fun x=>rfl)
    ·rw [if_neg g,if_neg g,if_neg h14]
     exact ih.fold ch kn _ (hK.ok k hk) s t hR hS
theorem Tr.ents_mk {ns:List Tr.Nd} (ch:List Tr.Sp):∀ (ms:List Nat) (sc:Tr.Sp) (s:Tr.St) (kn:List Tr.Kn) (t:Tr.St),(∀ x∈ms,x < ns.length)→Tr.Re ns.length s t→Tr.Se (sc :: ch) kn s→(∀ x,(Yz x sc).isSome=kn.any (fun p=>decide (p.1=x))) →
  Tr.Re ns.length (YA ns ms (sc,s)).2 (YD ns ms kn t).2∧Tr.Se ((YA ns ms (sc,s)).1 :: ch) (YD ns ms kn t).1 (YA ns ms (sc,s)).2
 | [],_,_,_,_,_,hR,hS,_=>⟨hR,hS⟩
 | k :: r,sc,s,kn,t,hl,hR,hS,hsc=>by
  obtain ⟨e1,e2,e3,e4⟩:=Tr.enter_se (ns:=ns) (k:=k) (hl k (by simp)) hR hS
  rw [hsc] at e1
  rw [show YA ns (k :: r) (sc,s)=YA ns r ((Y0 ns k (sc,s)).1,(Y0 ns k (sc,s)).2) from rfl,YD,Tr.dupK_if]
  exact Tr.ents_mk ch r _ _ _ _ (fun x hx=>hl x (by simp [hx])) e1 e2 (fun x=>by rw [e4,hsc,List.any_append];simp)
theorem Tr.go_loads (ns:List Tr.Nd) (ks:List (List Nat)) (f:Nat) (kn:List Tr.Kn) (ls:List Nat) (s:Tr.St):ls.foldl (fun s y=>Xx ns ks f y kn s) s=(ls.filter fun x=>X4 ns x != 23).foldl (fun s y=>Xx ns ks f y kn s) s:=by
 induction ls generalizing s with
 | nil=>rfl
 | cons x r ih =>
  rw [List.foldl_cons,List.filter_cons,ih]
  by_cases h:X4 ns x=23
  ·have e:Xx ns ks f x kn s=s:=by
    cases f with
    | zero=>rfl
    | succ f=>rw [Xx,if_neg (by omega),if_pos h]
   rw [e,if_neg (by simp [h])]
  ·rw [if_pos (by simpa using h),List.foldl_cons]
theorem Tr.sget_map (ls:List (List UInt8)) (x:ByteArray):Yz x (ls.map fun l=>(⟨l.toArray⟩,(-2:Int)))=if x.data.toList∈ls then some (-2) else none:=by
 induction ls with
 | nil=>rfl
 | cons l r ih =>
  rw [List.map_cons,Yz,ih]
  by_cases e:l=x.data.toList
  ·rw [if_pos (by rw [e]),if_pos (by simp [e])]
  ·rw [if_neg (fun h=>e (by rw [← h]))]
   by_cases h:x.data.toList∈r
   ·rw [if_pos h,if_pos (by simp [h])]
   ·rw [if_neg h,if_neg (by simp [h,Ne.symm e])]
theorem KX (x:ByteArray):Yz x YX=if x.data.toList∈Yd then some (-2) else none:=by
 unfold YX
 rw [Tr.sget_map]
 congr 1
 apply propext
 unfold Yd
 simp only [List.mem_cons,List.not_mem_nil,or_false]
 constructor <;> (intro h;rcases h with h | h | h | h | h | h | h | h | h | h | h | h | h | h | h <;> simp [h])
def QY (ns:List Tr.Nd) (ks:List (List Nat)):Tr.St:=XW ns ks ns.length (ns.length - 1) [YX] (YV ns.length)
theorem Tr.ilook_lookS {ns:List Tr.Nd} {ks:List (List Nat)} (hK:Tr.Kids ns ks) (h1:1≤ns.length) (hlast:X4 ns (ns.length - 1)=24) (hfile:∀ x∈X5 ks (ns.length - 1),X4 ns x≠24) (hks:∀ k,∀ x∈X5 ks k,x < ns.length) :
  Tr.Re ns.length (QY ns ks) (YT ns ks):=by
 unfold QY YT
 obtain ⟨f,hf⟩:∃ f,ns.length=f+1:=⟨ns.length - 1,by omega⟩
 generalize hm:ns.length - 1=m at *
 have hgo:∀ kn s,Xx ns ks ns.length m kn s=(X5 ks m).foldl (fun s y=>Xx ns ks f y kn s) s:=by
  intro kn s
  rw [hf,Xx,if_neg (by omega),if_neg (by omega),if_neg (by omega),if_neg (by omega)]
 have hiw:∀ ch s,XW ns ks ns.length m ch s=KU (XW ns ks f) ns ks (X5 ks m) ch s:=by
  intro ch s
  rw [hf,XW,if_neg (by omega),if_neg (by omega),if_neg (by omega),if_pos hlast]
 rw [hgo,hiw,Tr.go_loads]
 unfold KU
 have hmk:∀ x∈Xs ns ks (X5 ks m),x < ns.length:=by
  intro x hx
  obtain ⟨y,hy,a⟩:=List.mem_flatMap.1 hx
  unfold Ks at a
  split at a
  ·have:x=y:=by simpa using a
   subst this;exact hks m x hy
  ·split at a
   ·exact hks y x a
   ·cases a
 have hS0:Tr.Se ([] :: [YX]) [] (YV ns.length):=by
  refine Tr.Se.open ⟨fun x=>?_,fun _ x=>?_⟩
  ·rw [Zf,KX]
   by_cases h:x.data.toList∈Yd
   ·simp [h,XH]
   ·simp [h,XH,Z0]
  ·rw [Zf,KX]
   by_cases h:x.data.toList∈Yd
   ·simp [h,XH]
   ·simp [h,XH,Z0]
 obtain ⟨g1,g2⟩:=Tr.ents_mk (ns:=ns) [YX] (Xs ns ks (X5 ks m)) [] (YV ns.length) [] (YV ns.length) hmk ⟨by simp [YV],rfl,fun _=>rfl⟩ hS0 (fun x=>rfl)
 exact ((Tr.iwalk_go1 hK f).fold _ _ _ (fun x hx=>by
  obtain ⟨hx1,hx2⟩:=List.mem_filter.1 hx
  exact ⟨hks m x hx1,by simpa using hx2,hfile x hx1⟩) _ _ g1 g2).1
theorem Tr.firstC_clean (l:List Int) (i:Nat):(XT l i).1=0↔∀ c∈l,c=0:=by
 induction l generalizing i with
 | nil=>simp [XT]
 | cons c r ih =>
  rw [XT]
  by_cases h:c=0
  ·rw [if_pos h,ih];simp [h]
  ·rw [if_neg h];simp [h]
theorem Tr.esOf_all (ns:List Tr.Nd) (ls:List Nat) (h:XL ns ls=ls.length):∀ x∈ls,Y7 ns x=true:=by
 induction ls with
 | nil=>intro x hx;cases hx
 | cons y r ih =>
  have hle:=Zu ns r
  rw [XL,List.length_cons] at h
  cases hy:Y7 ns y
  ·rw [hy] at h;simp at h;omega
  ·rw [hy] at h
   simp only [if_true] at h
   intro x hx
   rcases List.mem_cons.1 hx with rfl | hx
   ·exact hy
   ·exact ih (by omega) x hx
theorem Zj (ns:List Tr.Nd) (p:Int→Bool) (ls:List Nat) (h:Xy ns p ls=true):∀ x∈ls,p (X4 ns x)=true:=by
 induction ls with
 | nil=>intro x hx;cases hx
 | cons y r ih =>
  rw [Xy,Bool.and_eq_true] at h
  intro x hx
  rcases List.mem_cons.1 hx with rfl | hx
  ·exact h.1
  ·exact ih h.2 x hx
theorem Tr.firsts_mem (ns:List Tr.Nd) (ls:List Nat):∀ x∈ls,Y7 ns x=true∨x∈ls.drop (XE ns ls):=by
 induction ls with
 | nil=>intro x hx;cases hx
 | cons y r ih =>
  intro x hx
  cases hy:Y7 ns y
  ·have e:XE ns (y :: r)=0:=by rw [XE,hy];rfl
   rw [e]
   exact .inr hx
  ·have e:XE ns (y :: r)=XE ns r+1:=by rw [XE,hy,if_pos rfl,Nat.add_comm]
   rw [e,List.drop_succ_cons]
   rcases List.mem_cons.1 hx with rfl | hx
   ·exact .inl hy
   ·exact ih x hx
theorem QX {ns:List Tr.Nd} {x:Nat} (h:Y7 ns x=true):1≤X4 ns x∧X4 ns x≤16:=by
 simpa [Y7,Xn] using h
theorem Tr.kidsOk_kinds {ns:List Tr.Nd} {k:Int} {ls:List Nat} (h:Xm ns k ls=true) (h23:k≠23) (h24:k≠24):∀ x∈ls,1≤X4 ns x∧X4 ns x≤19:=by
 have a:(XL ns ls:Int)=ls.length→∀ x∈ls,1≤X4 ns x∧X4 ns x≤19:=fun e x hx=>by
  have:=QX (Tr.esOf_all ns ls (by omega) x hx);omega
 have b:∀ n:Int,(ls.length:Int)=n∧(XL ns ls:Int)=n→∀ x∈ls,1≤X4 ns x∧X4 ns x≤19:=fun n e=>a (by omega)
 unfold Xm at h
 by_cases c0:k=1∨k=2∨k=3∨k=4∨k=5
 ·rw [if_pos c0] at h
  intro x hx
  have h0:(ls.length:Int)=0:=by simpa using h
  have:ls=[]:=List.eq_nil_of_length_eq_zero (by omega)
  rw [this] at hx;cases hx
 rw [if_neg c0] at h
 by_cases c1:k=6∨k=11∨k=17∨k=18∨k=21∨k=22
 ·rw [if_pos c1] at h
  exact b 1 (by simpa using h)
 rw [if_neg c1] at h
 by_cases c2:k=7∨k=10∨k=14
 ·rw [if_pos c2] at h
  exact b 2 (by simpa using h)
 rw [if_neg c2] at h
 by_cases c3:k=13
 ·rw [if_pos c3] at h
  exact b 3 (by simpa using h)
 rw [if_neg c3] at h
 by_cases c4:k=16
 ·rw [if_pos c4] at h
  rw [decide_eq_true_iff] at h;exact a h.2
 rw [if_neg c4] at h
 by_cases c5:k=19
 ·rw [if_pos c5] at h
  rw [decide_eq_true_iff] at h;exact a h.2
 rw [if_neg c5] at h
 by_cases c6:k=8
 ·rw [if_pos c6] at h
  rw [decide_eq_true_iff] at h;exact a h.1
 rw [if_neg c6] at h
 by_cases c7:k=9
 ·rw [if_pos c7] at h
  simp only [Bool.and_eq_true] at h
  intro x hx
  have:=Zj ns _ ls h.1.1 x hx
  rw [beq_iff_eq] at this
  omega
 rw [if_neg c7] at h
 by_cases c8:k=12
 ·rw [if_pos c8] at h
  simp only [Bool.and_eq_true] at h
  intro x hx
  rcases Tr.firsts_mem ns ls x hx with he | he
  ·have:=QX he;omega
  ·have:=Zj ns _ _ h.1.1.1 x he
   rw [beq_iff_eq] at this
   omega
 rw [if_neg c8] at h
 by_cases c9:k=15∨k=20
 ·rw [if_pos c9] at h
  simp only [Bool.and_eq_true] at h
  intro x hx
  have hne:ls≠[]:=by intro e;rw [e] at hx;cases hx
  rw [← List.dropLast_concat_getLast hne] at hx
  rcases List.mem_append.1 hx with hx | hx
  ·have:=Zj ns _ _ h.1.1 x hx
   rw [beq_iff_eq] at this
   omega
  ·have hl:=h.1.2
   rw [List.getLast?_eq_some_getLast hne,Option.map_some] at hl
   have hxe:x=ls.getLast hne:=by simpa using hx
   rw [← hxe] at hl
   have:=QX (ns:=ns) (x:=x) (by simpa using hl)
   omega
 rw [if_neg c9] at h
 rw [if_neg h23,if_neg h24] at h
 cases h
theorem Tr.valid_kids {ns:List Tr.Nd} (h:XS ns=true):Tr.Kids ns (Xf ns)∧X4 ns (ns.length - 1)=24∧(∀ x∈X5 (Xf ns) (ns.length - 1),X4 ns x≠24)∧∀ k,∀ x∈X5 (Xf ns) k,x < ns.length:=by
 obtain ⟨hn1,hn5,hgood,_⟩:=Yx h
 unfold XS at h
 simp only [Bool.and_eq_true] at h
 obtain ⟨⟨⟨_,hlk⟩,h3⟩,h4⟩:=h
 have hkl:=Zs h3
 have hok:=QS ns ns (Xf ns) [] h4
 have hlt:=K5 ns
 have a1:∀ k,∀ x∈X5 (Xf ns) k,∃ hk:k < (Xf ns).length,x∈(Xf ns)[k]:=by
  intro k x hx
  unfold X5 at hx
  by_cases hk:k < (Xf ns).length
  ·rw [List.getElem?_eq_getElem hk] at hx;exact ⟨hk,hx⟩
  ·rw [List.getElem?_eq_none (by omega)] at hx;cases hx
 have d:∀ k,∀ x∈X5 (Xf ns) k,x < k∧k < ns.length:=by
  intro k x hx
  obtain ⟨hk,hm⟩:=a1 k x hx
  exact ⟨hlt k hk x hm,by omega⟩
 have c:∀ k (hk:k < ns.length),Xm ns (X4 ns k) (X5 (Xf ns) k)=true:=by
  intro k hk
  have:=hok k hk (by omega)
  rw [XJ hk,show X5 (Xf ns) k=(Xf ns)[k]'(by omega) from by simp [X5,show k < (Xf ns).length by omega]]
  exact this
 have a0:X4 ns (ns.length - 1)=24:=by
  have hl:=hlk
  unfold YP at hl
  rw [List.getLast?_eq_getElem?,List.getElem?_eq_getElem (by omega)] at hl
  rw [XJ (by omega)]
  simpa using hl
 refine ⟨⟨fun k x hx=>(d k x hx).1,fun k hk x hx=>?_,fun k hk=>?_,fun k hk=>?_⟩,a0,fun x hx=>?_,fun k x hx=>by have:=d k x hx;omega⟩
 ·have:=Tr.kidsOk_kinds (c k hk.lt) hk.a hk.b x hx
  have h2:=d k x hx
  exact ⟨by omega,by omega,by omega⟩
 ·by_cases hk2:k < ns.length
  ·have:=c k hk2
   rw [hk] at this
   simp [Xm] at this
   omega
  ·rw [show X5 (Xf ns) k=[] from by unfold X5;rw [List.getElem?_eq_none (by omega)];rfl];simp
 ·by_cases hk2:k < ns.length
  ·have:=c k hk2
   intro x hx
   have h5:Xy ns (fun x=>x == 19) (X5 (Xf ns) k).dropLast=true:=by
    rcases hk with e | e <;> (rw [e] at this;simp [Xm] at this;exact this.1.1)
   simpa using Zj ns _ _ h5 x hx
  ·rw [show X5 (Xf ns) k=[] from by unfold X5;rw [List.getElem?_eq_none (by omega)];rfl];simp
 ·have:=c (ns.length - 1) (by omega)
  rw [a0] at this
  simp [Xm] at this
  have h5:=Zj ns _ _ this.1 x hx
  simp [Xn] at h5
  omega
theorem Tr.ilook_eq {ns:List Tr.Nd} (h:XS ns=true):XT (QY ns (Xf ns)).codes 0=Xk ns∧(Xz ns=true→(QY ns (Xf ns)).binds=Xe ns):=by
 obtain ⟨hK,a1,a0,hks⟩:=Tr.valid_kids h
 obtain ⟨hn1,_⟩:=Yx h
 have hR:=Tr.ilook_lookS hK hn1 a1 a0 hks
 have hc:Xk ns=XT (YT ns (Xf ns)).codes 0:=by unfold Xk;rw [h];rfl
 refine ⟨by rw [hR.codes,hc],fun hf=>?_⟩
 unfold Xe
 rw [if_pos hf]
 refine hR.binds ?_
 have h0:(XT (QY ns (Xf ns)).codes 0).1=0:=by
  rw [hR.codes,← hc]
  simpa [Xz] using hf
 exact (Tr.firstC_clean _ _).1 h0
theorem Qk {ns:List Tr.Nd}:Xz ns=true↔Xk ns=(0,0):=by
 constructor
 ·intro h
  have h1:(Xk ns).1=0:=by simpa [Xz] using h
  have hz:∀ (l:List Int) (i:Nat),(XT l i).1=0→XT l i=(0,0):=by
   intro l
   induction l with
   | nil=>intro i _;rfl
   | cons c r ih =>
    intro i hc
    rw [XT] at hc ⊢
    by_cases e:c=0
    ·rw [if_pos e] at hc ⊢;exact ih _ hc
    ·rw [if_neg e] at hc;exact absurd hc e
  unfold Xk at h1 ⊢
  split
  ·rename_i hv;rw [if_pos hv] at h1;exact hz _ _ h1
  ·rename_i hv;rw [if_neg hv] at h1;cases h1
 ·intro h;simp [Xz,h]
end Go.Proofs.YtimbaebigjjkaaaGreatDoor
