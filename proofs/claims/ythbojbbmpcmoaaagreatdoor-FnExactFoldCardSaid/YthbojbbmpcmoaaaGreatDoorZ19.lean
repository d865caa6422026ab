/- Fo5, Fo6. -/
import Derived.Test.YthbojbbmpcmoaaaGreatDoorZ09
import Derived.Test.YthbojbbmpcmoaaaGreatDoorZ16
import Derived.Test.YthbojbbmpcmoaaaGreatDoorZ18
namespace Go.Proofs.YthbojbbmpcmoaaaGreatDoor
def Tr.ndOf (ns:List Tr.Nd) (k:Nat):Tr.Nd:=ns[k]?.getD ⟨0,0,0,⟨#[]⟩,0⟩
def Tr.bOf (B:List Int) (k:Nat):Int:=B[k]?.getD (-1)
theorem Tr.nd_kind {ns:List Tr.Nd} {k:Nat} (h:k < ns.length):(Tr.ndOf ns k).kind=Tr.kindOf ns k:=by
 rw [Tr.kindOf_at h];unfold Tr.ndOf;rw [List.getElem?_eq_getElem h];rfl
theorem Tr.nd_text {ns:List Tr.Nd} {k:Nat} (h:k < ns.length):(Tr.ndOf ns k).text=Tr.textOf ns k:=by
 unfold Tr.ndOf Tr.textOf;rw [List.getElem?_eq_getElem h];rfl
namespace Fd
def take (ns:List Tr.Nd) (ks:List (List Nat)) (B:List Int):Nat→Nat→Fd
 | 0,k => .mk (Tr.ndOf ns k) k (Tr.bOf B k) []
 | f+1,k => .mk (Tr.ndOf ns k) k (Tr.bOf B k) ((Tr.kidsOf ks k).map (take ns ks B f))
theorem take_succ (ns:List Tr.Nd) (ks:List (List Nat)) (B:List Int) (f k:Nat):take ns ks B (f+1) k = .mk (Tr.ndOf ns k) k (Tr.bOf B k) ((Tr.kidsOf ks k).map (take ns ks B f)):=rfl
theorem take_x (ns:List Tr.Nd) (ks:List (List Nat)) (B:List Int) (f k:Nat):(take ns ks B f k).x=Tr.ndOf ns k∧(take ns ks B f k).p=k:=by cases f <;> exact ⟨rfl,rfl⟩
def eK (kn:List Tr.Kn) (s:ByteArray):Int:=match Tr.lookK s kn with
 | some a=>a
 | none=>if s.data.toList∈Tr.builts then -2 else -1
def uK (kn:List Tr.Kn) (z:Int):Prop:=z < 0∨∃ q∈kn,z=(q.2:Int)
theorem look_snoc (x:ByteArray) (t:ByteArray) (p:Nat):∀ kn:List Tr.Kn,Tr.lookK x (kn++[(t,p)])=if t=x then some p else Tr.lookK x kn
 | []=>by simp [Tr.lookK]
 | q :: r=>by
  rw [List.cons_append,Tr.lookK,look_snoc x t p r,Tr.lookK]
  by_cases h:t=x
  ·rw [if_pos h,if_pos h]
  ·rw [if_neg h,if_neg h]
theorem eK_snoc (kn:List Tr.Kn) (t:ByteArray) (p:Nat):eK (kn++[(t,p)])=upd (eK kn) t p:=by
 funext s
 unfold eK upd
 rw [look_snoc]
 by_cases h:t=s
 ·rw [if_pos h,if_pos h.symm]
 ·have h2:¬ s=t:=fun e=>h e.symm
  rw [if_neg h,if_neg h2]
theorem uK_snoc (kn:List Tr.Kn) (t:ByteArray) (p:Nat):uK (kn++[(t,p)])=more (uK kn) p:=by
 funext z
 refine propext ⟨fun h=>?_,fun h=>?_⟩
 ·rcases h with h | ⟨q,hq,h⟩
  ·exact .inl (.inl h)
  ·rcases List.mem_append.1 hq with hq | hq
   ·exact .inl (.inr ⟨q,hq,h⟩)
   ·obtain rfl:q=(t,p):=by simpa using hq
    exact .inr h
 ·rcases h with (h | ⟨q,hq,h⟩) | h
  ·exact .inl h
  ·exact .inr ⟨q,by simp [hq],h⟩
  ·exact .inr ⟨(t,p),by simp,h⟩
theorem look_mem {x:ByteArray} {a:Nat}:∀ {kn:List Tr.Kn},Tr.lookK x kn=some a→∃ q∈kn,q.2=a
 | [],h=>by simp [Tr.lookK] at h
 | q :: r,h=>by
  rw [Tr.lookK] at h
  cases hr:Tr.lookK x r with
  | some c =>
   rw [hr] at h
   obtain ⟨q2,h1,h2⟩:=look_mem hr
   exact ⟨q2,by simp [h1],h2.trans (by simpa using h)⟩
  | none =>
   rw [hr] at h
   simp only at h
   split at h
   ·exact ⟨q,by simp,by simpa using h⟩
   ·cases h
theorem uK_eK (kn:List Tr.Kn) (s:ByteArray):uK kn (eK kn s):=by
 unfold eK
 cases h:Tr.lookK s kn with
 | some a =>
  obtain ⟨q,h1,h2⟩:=look_mem h
  exact .inr ⟨q,h1,by simp [h2]⟩
 | none =>
  simp only
  split
  ·exact .inl (by omega)
  ·exact .inl (by omega)
section
variable {ns:List Tr.Nd} {ks:List (List Nat)} {B:List Int}
def OkAt (ns:List Tr.Nd) (ks:List (List Nat)) (B:List Int) (f:Nat):Prop:=∀ (g k b:Nat) (kn:List Tr.Kn) (s:Tr.St),k < f→k < g→k < ns.length→Tr.kindOf ns k < 20→(∀ q∈kn,q.2 < b∨k < q.2∨20≤Tr.kindOf ns q.2∨Tr.kindOf ns q.2=5)→Tr.Cov ks b (Tr.kidsOf ks k) k→Tr.Fresh b (k+1) s→Tr.Agree B b (k+1) (Tr.go1 ns ks f k kn s)→Ok (eK kn) (uK kn) (take ns ks B g k)
theorem okL_take {f:Nat} (IH:OkAt ns ks B f) (g:Nat) (kn:List Tr.Kn):∀ (l:List Nat) (s:Tr.St) (b e:Nat),Tr.Cov ks b l e→(∀ x∈l,x < f∧x < g∧x < ns.length∧Tr.kindOf ns x < 20)→(∀ q∈kn,q.2 < b∨e≤q.2∨20≤Tr.kindOf ns q.2∨Tr.kindOf ns q.2=5)→Tr.Fresh b e s→Tr.Agree B b e (l.foldl (fun s y=>Tr.go1 ns ks f y kn s) s)→∀ x∈l,Ok (eK kn) (uK kn) (take ns ks B g x)
 | [],_,_,_,_,_,_,_,_,x,hx=>by cases hx
 | y :: r,s,b,e,hc,hl,hq,hf,hA,x,hx=>by
  cases hc using Tr.Cov.cas with
  | cons h1 h2 =>
   rw [List.foldl_cons] at hA
   obtain ⟨y1,y2,y3,y4⟩:=hl y (by simp)
   have hle:=h2.le
   have hb:=h1.le
   have hk1:Tr.Keep b (y+1) s (Tr.go1 ns ks f y kn s):=Tr.Keep.go ns f y b kn s h1
   have hk2:Tr.Keep (y+1) e (Tr.go1 ns ks f y kn s) (r.foldl (fun s y=>Tr.go1 ns ks f y kn s) (Tr.go1 ns ks f y kn s)):=Tr.Keep.fold (fun y s=>Tr.go1 ns ks f y kn s) (fun c s b hc=>Tr.Keep.go ns f c b kn s hc) r _ _ _ h2
   rcases List.mem_cons.1 hx with rfl | hx
   ·exact IH g x b kn s y1 y2 y3 y4 (fun q h=>by have:=hq q h;omega) h1 (hf.mono (Nat.le_refl _) hle) (hA.first hk2 hle)
   ·exact okL_take IH g kn r _ _ _ h2 (fun z hz=>hl z (by simp [hz])) (fun q h=>by have:=hq q h;omega) (hf.keep hk1 (by omega)) (hA.mono (by omega) (Nat.le_refl _)) x hx
theorem okP_take {f:Nat} (IH:OkAt ns ks B f) (g:Nat) (hkk:∀ k,k < ns.length→Tr.kindOf ns k < 20→∀ x∈Tr.kidsOf ks k,x < k∧Tr.kindOf ns x < 20) (hone:∀ k,Tr.kindOf ns k=19→(Tr.kidsOf ks k).length≤1) :
  ∀ (l seen:List Nat) (kn:List Tr.Kn) (df:Bool) (s:Tr.St) (b e:Nat),Tr.Cov ks b l e→(∀ x∈l,x < f∧x < g∧x < ns.length∧Tr.kindOf ns x < 20)→(∀ x∈l.dropLast,Tr.kindOf ns x=19)→(∀ q∈kn,q.2 < b∨e≤q.2∨20≤Tr.kindOf ns q.2∨Tr.kindOf ns q.2=5)→Tr.Fresh b e s→Tr.Agree B b e (Tr.fnS (Tr.go1 ns ks f) ns ks l seen kn df s)→Ok.okP (eK kn) (uK kn) (l.map (take ns ks B g))
 | [],_,_,_,_,_,_,_,_,_,_,_,_=>okP_nil _ _
 | [x],_,kn,_,s,b,e,hc,hl,_,hq,hf,hA=>by
  cases hc using Tr.Cov.cas with
  | cons h1 h2 =>
   have hle:=h2.le
   obtain ⟨y1,y2,y3,y4⟩:=hl x (by simp)
   rw [Tr.fnS] at hA
   exact (okP_cons _ _ _ _).2 ⟨IH g x b kn s y1 y2 y3 y4 (fun q h=>by have:=hq q h;omega) h1 (hf.mono (Nat.le_refl _) hle) (hA.mono (Nat.le_refl _) hle),fun h=>absurd rfl h,okP_nil _ _⟩
 | p :: q :: r,seen,kn,df,s,b,e,hc,hl,hd,hq,hf,hA=>by
  cases hc using Tr.Cov.cas with
  | cons h1 h2 =>
   have hle:=h2.le
   have hb:=h1.le
   obtain ⟨y1,y2,y3,y4⟩:=hl p (by simp)
   have hp19:Tr.kindOf ns p=19:=hd p (by simp)
   rw [Tr.fnS] at hA
   have hkp:Tr.Keep b (p+1) s (Tr.parS (Tr.go1 ns ks f) ns ks p seen kn df s):=Tr.Keep.par ns _ (fun c kn s b hc=>Tr.Keep.go ns f c b kn s hc) p seen kn df s b h1
   have hkr:=Tr.Keep.fn ns _ (fun c kn s b hc=>Tr.Keep.go ns f c b kn s hc) (q :: r) (seen++[p]) (kn++[(Tr.textOf ns p,p)]) (df || !decide ((Tr.kidsOf ks p).length=0)) (Tr.parS (Tr.go1 ns ks f) ns ks p seen kn df s) (p+1) e h2
   have hAp:=hA.first hkr hle
   rw [List.map_cons]
   refine (okP_cons _ _ _ _).2 ⟨?_,fun _=>?_,?_⟩
   ·obtain ⟨g',rfl⟩:∃ g',g=g'+1:=⟨g - 1,by omega⟩
    rw [take_succ,ok_mk,Tr.nd_kind y3,if_neg (by omega),if_neg (by omega),if_neg (by omega)]
    refine ⟨by omega,(okL_iff _ _ _).2 fun t ht=>?_⟩
    obtain ⟨c,hc,rfl⟩:=List.mem_map.1 ht
    have hlen:=hone p hp19
    obtain ⟨c1,c2⟩:=hkk p y3 y4 c hc
    unfold Tr.parS at hAp
    cases hks:Tr.kidsOf ks p with
    | nil=>rw [hks] at hc;cases hc
    | cons c' tl =>
     rw [hks] at hc hlen hAp h1
     have htl:tl=[]:=List.eq_nil_of_length_eq_zero (by rw [List.length_cons] at hlen;omega)
     subst htl
     obtain rfl:c=c':=by simpa using hc
     simp only at hAp
     cases h1 using Tr.Cov.cas with
     | cons h3 h4 =>
      exact IH g' c b kn _ (by omega) (by omega) (by omega) c2 (fun q h=>by have:=hq q h;omega) h3 ((hf.same (Tr.dupS_binds _ _ _ _)).mono (Nat.le_refl _) (by omega)) (hAp.mono (Nat.le_refl _) (by omega))
   ·rw [(take_x ns ks B g p).1,(take_x ns ks B g p).2,Tr.nd_kind y3]
    refine ⟨hp19,?_⟩
    rintro (h | ⟨z,hz,h⟩)
    ·omega
    ·have ez:z.2=p:=by omega
     have:=hq z hz;rw [ez] at this;omega
   ·rw [(take_x ns ks B g p).1,(take_x ns ks B g p).2,Tr.nd_text y3,← eK_snoc,← uK_snoc]
    exact okP_take IH g hkk hone (q :: r) _ _ _ _ _ _ h2 (fun z hz=>hl z (by simp [hz])) (fun z hz=>hd z (by simp [List.dropLast] at hz ⊢;exact .inr hz)) (fun z hz=>by
     rcases List.mem_append.1 hz with hz | hz
     ·have:=hq z hz;omega
     ·obtain rfl:z=_:=List.mem_singleton.1 hz
      exact .inl (Nat.lt_succ_self _)) (hf.keep hkp (by omega)) (hA.mono (by omega) (Nat.le_refl _))
theorem ok_take (hkk:∀ k,k < ns.length→Tr.kindOf ns k < 20→∀ x∈Tr.kidsOf ks k,x < k∧Tr.kindOf ns x < 20) (hone:∀ k,Tr.kindOf ns k=19→(Tr.kidsOf ks k).length≤1) (hpar:∀ k,Tr.kindOf ns k=15∨Tr.kindOf ns k=20→∀ x∈(Tr.kidsOf ks k).dropLast,Tr.kindOf ns x=19) (h5k:∀ k,k < ns.length→Tr.kindOf ns k=5→Tr.kidsOf ks k=[]):∀ f,OkAt ns ks B f:=by
 intro f
 induction f with
 | zero=>intro g k b kn s h;omega
 | succ f IH =>
  intro g k b kn s hk1 hk2 hk3 hk4 hq hc hf hA
  obtain ⟨g,rfl⟩:∃ g',g=g'+1:=⟨g - 1,by omega⟩
  have hb:=hc.le
  rw [take_succ,ok_mk,Tr.nd_kind hk3,Tr.nd_text hk3]
  rw [Tr.go1] at hA
  have hl:∀ x∈Tr.kidsOf ks k,x < f∧x < g∧x < ns.length∧Tr.kindOf ns x < 20:=fun x hx=>by
   obtain ⟨a1,a2⟩:=hkk k hk3 hk4 x hx
   exact ⟨by omega,by omega,by omega,a2⟩
  have hq':∀ q∈kn,q.2 < b∨k≤q.2∨20≤Tr.kindOf ns q.2∨Tr.kindOf ns q.2=5:=fun q h=>by have:=hq q h;omega
  by_cases h5:Tr.kindOf ns k=5
  ·rw [if_pos h5] at hA ⊢
   refine ⟨?_,by rw [h5k k hk3 h5];rfl⟩
   have hfk:=hf k hb (by omega)
   have hAk:=hA k hb (by omega)
   have hlen:k < s.binds.length:=by
    rcases Nat.lt_or_ge k s.binds.length with h | h
    ·exact h
    ·rw [List.getElem?_eq_none h] at hfk;cases hfk
   unfold Tr.useS at hAk
   unfold Tr.bOf eK
   cases hlk:Tr.lookK (Tr.textOf ns k) kn with
   | some a =>
    rw [hlk] at hAk
    simp only [List.getElem?_set_self hlen] at hAk
    rw [← hAk];rfl
   | none =>
    rw [hlk] at hAk
    simp only at hAk ⊢
    by_cases hbu:(Tr.textOf ns k).data.toList∈Tr.builts
    ·rw [if_pos hbu] at hAk ⊢
     simp only [List.getElem?_set_self hlen] at hAk
     rw [← hAk];rfl
    ·rw [if_neg hbu] at hAk ⊢
     rw [Tr.faultS_bindsR,hfk] at hAk
     rw [← hAk];rfl
  ·rw [if_neg h5] at hA ⊢
   rw [if_neg (by omega)] at hA
   by_cases h15:Tr.kindOf ns k=15
   ·rw [if_pos (.inl h15)] at hA
    rw [if_neg (by omega),if_pos h15]
    exact okP_take IH g hkk hone _ [] kn false s b k hc hl (hpar k (.inl h15)) hq' (hf.mono (Nat.le_refl _) (by omega)) (hA.mono (Nat.le_refl _) (by omega))
   ·rw [if_neg (by omega)] at hA
    by_cases h14:Tr.kindOf ns k=14∨Tr.kindOf ns k=16
    ·rw [if_pos h14] at hA ⊢
     refine ⟨?_,?_⟩
     ·rintro (h | ⟨z,hz,h⟩)
      ·omega
      ·have ez:z.2=k:=by omega
       have:=hq z hz;rw [ez] at this;omega
     ·rw [← eK_snoc,← uK_snoc]
      cases hks:Tr.kidsOf ks k with
      | nil=>exact okA_nil _ _ _ _
      | cons y r =>
       rw [hks] at hA hc hl
       cases hc using Tr.Cov.cas with
       | cons h1 h2 =>
        rw [Tr.letS] at hA
        have hle:=h2.le
        have hby:=h1.le
        obtain ⟨y1,y2,y3,y4⟩:=hl y (by simp)
        have hk1:Tr.Keep b (y+1) s (Tr.go1 ns ks f y kn s):=Tr.Keep.go ns f y b kn s h1
        have hkr:Tr.Keep (y+1) k (Tr.go1 ns ks f y kn s) (r.foldl (fun s y=>Tr.go1 ns ks f y (kn++[(Tr.textOf ns k,k)]) s) (Tr.go1 ns ks f y kn s)):=Tr.Keep.fold (fun y s=>Tr.go1 ns ks f y (kn++[(Tr.textOf ns k,k)]) s) (fun c s b hc=>Tr.Keep.go ns f c b _ s hc) r _ _ _ h2
        have hA':=hA.mono (b':=b) (e':=k) (Nat.le_refl _) (by omega)
        rw [List.map_cons]
        refine (okA_cons _ _ _ _ _ _).2 ⟨IH g y b kn s y1 y2 y3 y4 (fun q h=>by have:=hq' q h;omega) h1 (hf.mono (Nat.le_refl _) (by omega)) (hA'.first hkr hle),fun t ht=>?_⟩
        obtain ⟨c,hc,rfl⟩:=List.mem_map.1 ht
        exact okL_take IH g _ r _ _ _ h2 (fun z hz=>hl z (by simp [hz])) (fun z hz=>by
         rcases List.mem_append.1 hz with hz | hz
         ·have:=hq' z hz;omega
         ·obtain rfl:z=_:=List.mem_singleton.1 hz
          exact .inr (.inl (Nat.le_refl _))) ((hf.mono (b':=b) (e':=k) (Nat.le_refl _) (by omega)).keep hk1 (by omega)) (hA'.mono (by omega) (Nat.le_refl _)) c hc
    ·rw [if_neg h14] at hA ⊢
     rw [if_neg h15]
     refine ⟨hk4,(okL_iff _ _ _).2 fun t ht=>?_⟩
     obtain ⟨c,hc',rfl⟩:=List.mem_map.1 ht
     exact okL_take IH g kn _ s b k hc hl hq' (hf.mono (Nat.le_refl _) (by omega)) (hA.mono (Nat.le_refl _) (by omega)) c hc'
end
end Fd
namespace Fd
def Scoped (t:Fd):Prop:=∃ e U,Ok e U t∧∀ s,U (e s)
theorem upd_in {e:ByteArray→Int} {U:Int→Prop} (hU:∀ s,U (e s)) (t:ByteArray) (z:Int) (s:ByteArray):more U z (upd e t z s):=by
 by_cases h:s=t
 ·subst h;rw [upd_at];exact .inr rfl
 ·rw [upd_ne e z h];exact .inl (hU s)
theorem Scoped.kids {t:Fd} (h:Scoped t):∀ k∈t.ks,Scoped k:=by
 obtain ⟨e,U,ho,hU⟩:=h
 obtain ⟨x,p,b,ks⟩:=t
 show ∀ k∈ks,Scoped k
 rw [ok_mk] at ho
 by_cases h5:x.kind=5
 ·rw [if_pos h5] at ho
  rw [ho.2];intro k hk;cases hk
 ·rw [if_neg h5] at ho
  by_cases h14:x.kind=14∨x.kind=16
  ·rw [if_pos h14] at ho
   cases ks with
   | nil=>intro k hk;cases hk
   | cons y r =>
    obtain ⟨h1,h2⟩:=(okA_cons _ _ _ _ _ _).1 ho.2
    intro k hk
    rcases List.mem_cons.1 hk with rfl | hk
    ·exact ⟨e,U,h1,hU⟩
    ·exact ⟨_,_,h2 k hk,upd_in hU _ _⟩
  ·rw [if_neg h14] at ho
   by_cases h15:x.kind=15
   ·rw [if_pos h15] at ho
    clear h14 h15 h5
    induction ks generalizing e U with
    | nil=>intro k hk;cases hk
    | cons y r ih =>
     obtain ⟨h1,_,h3⟩:=(okP_cons _ _ _ _).1 ho
     intro k hk
     rcases List.mem_cons.1 hk with rfl | hk
     ·exact ⟨e,U,h1,hU⟩
     ·exact ih _ _ (upd_in hU _ _) h3 k hk
   ·rw [if_neg h15] at ho
    exact fun k hk=>⟨e,U,(okL_iff _ _ _).1 ho.2 k hk,hU⟩
theorem okP_scoped {l:List Fd}:∀ {e:ByteArray→Int} {U:Int→Prop},Ok.okP e U l→(∀ s,U (e s))→∀ k∈l,Scoped k:=by
 induction l with
 | nil=>intro e U _ _ k hk;cases hk
 | cons y r ih =>
  intro e U ho hU k hk
  obtain ⟨h1,_,h3⟩:=(okP_cons _ _ _ _).1 ho
  rcases List.mem_cons.1 hk with rfl | hk
  ·exact ⟨e,U,h1,hU⟩
  ·exact ih h3 (upd_in hU _ _) k hk
def Stmt (t:Fd):Prop:=20≤t.x.kind∧t.x.kind≤23∧∀ k∈t.ks,Scoped k
def File (t:Fd):Prop:=t.x.kind=24∧∀ k∈t.ks,Stmt k
section
variable {ns:List Tr.Nd} {ks:List (List Nat)} {B:List Int}
theorem size_take:∀ {b e:Nat} {l:List Nat},Tr.Cov ks b l e→∀ g,(∀ x∈l,x < g)→sizeL (l.map (take ns ks B g))=e - b:=by
 intro b e l h
 induction h using Tr.Cov.ind with
 | nil b=>intro g _;rw [List.map_nil,sizeL_nil];omega
 | @cons b x e r h1 h2 ih1 ih2 =>
  intro g hg
  have hx:=hg x (by simp)
  obtain ⟨g',rfl⟩:∃ g',g=g'+1:=⟨g - 1,by omega⟩
  have i1:=ih1 g' (fun y hy=>by have:=h1.mem hy;omega)
  have i2:=ih2 (g'+1) (fun y hy=>hg y (by simp [hy]))
  have l1:=h1.le
  have l2:=h2.le
  rw [List.map_cons,sizeL_cons,take_succ,size_mk,i1,i2]
  omega
end
end Fd
theorem Tr.vgo_plainF {ns:List Tr.Nd}:∀ (r:List (Tr.Nd × List Nat)) (hs:List Nat),Tr.vgo ns r hs=true→∀ p∈r,Tr.plain p.1=true:=by
 intro r
 induction r with
 | nil=>intro hs _ p hp;cases hp
 | cons a r ih =>
  intro hs h p hp
  obtain ⟨d,k⟩:=a
  simp only [Tr.vgo,Bool.and_eq_true] at h
  rcases List.mem_cons.1 hp with rfl | hp
  ·exact h.1.1.2
  ·exact ih _ h.2 p hp
theorem Tr.valid_at {ns:List Tr.Nd} (h:Tr.valid ns=true) (k:Nat) (hk:k < ns.length):Tr.plain (Tr.ndOf ns k)=true∧Tr.kidsOk ns (Tr.kindOf ns k) (Tr.kidsOf (Tr.kids ns) k)=true:=by
 unfold Tr.valid at h
 simp only [Bool.and_eq_true] at h
 have hl:=Tr.kids_len h.1.2
 have hok:=Tr.vgo_kids ns ns (Tr.kids ns) [] h.2 k hk (by omega)
 have hz:k < (ns.zip (Tr.kids ns)).length:=by rw [List.length_zip];omega
 have hp:=Tr.vgo_plainF _ _ h.2 _ (List.getElem_mem hz)
 rw [List.getElem_zip] at hp
 refine ⟨by unfold Tr.ndOf;rw [List.getElem?_eq_getElem hk];exact hp,?_⟩
 rw [Tr.kindOf_at hk,show Tr.kidsOf (Tr.kids ns) k=(Tr.kids ns)[k]'(by omega) from by simp [Tr.kidsOf,show k < (Tr.kids ns).length by omega]]
 exact hok
theorem Fd.empty_text {x:ByteArray} (h:(x.toList == [])=true):x=⟨#[]⟩:=by
 have h:x.toList=[]:=by simpa using h
 exact ByteArray.ext (Array.toList_inj.1 (by simpa [ByteArray.toList_eq] using h))
theorem Fd.loc_of {x:Tr.Nd} (h:Tr.plain x=true) (hn:x.n < 9223372036854775808) {ns:List Tr.Nd} {ls:List Nat} (hk:Tr.kidsOk ns x.kind ls=true) {ks:List Fd} (hl:ks.length=ls.length):Fd.Loc x ks:=by
 have e0:(ls.length:Int)=0→ks=[]:=fun e=>List.eq_nil_of_length_eq_zero (by rw [hl];omega)
 unfold Tr.plain at h
 split at h
 ·cases h
 rename_i h0
 simp only [Bool.or_eq_true,Bool.and_eq_true,not_or,not_and,Bool.not_eq_true',bne_iff_ne,ne_eq,Decidable.not_not] at h0
 obtain ⟨⟨p1,p2⟩,p3⟩:=h0
 have kk:x.kind=1∨x.kind=2∨x.kind=3∨x.kind=4→ks=[]:=fun e=>e0 (by
  unfold Tr.kidsOk at hk
  rw [if_pos (by omega)] at hk
  exact of_decide_eq_true hk)
 refine ⟨fun c=>⟨⟨c,?_,?_,hn,?_,?_,?_,?_⟩,kk (by unfold Fd.isC at c;omega)⟩,fun e=>?_,fun e=>?_,fun e=>?_,fun e=>?_,fun e=>?_,fun e=>?_,fun e=>?_,?_,?_⟩
 ·unfold Fd.isC at c;exact p3 ⟨by omega,by omega⟩
 ·unfold Fd.isC at c
  by_cases e2:x.kind=2
  ·rw [if_pos e2] at h
   simp only [Bool.or_eq_true,beq_iff_eq] at h
   omega
  ·by_cases e3:x.kind=3
   ·rw [if_neg e2,if_pos e3] at h
    exact of_decide_eq_true h
   ·have:=p2 ⟨e2,e3⟩;omega
 ·intro e2
  rw [if_pos e2] at h
  simpa using h
 ·exact fun e2 e3=>p2 ⟨e2,e3⟩
 ·intro e4
  unfold Fd.isC at c
  refine Fd.empty_text ?_
  have:Tr.textK x.kind=false:=by
   have:x.kind=1∨x.kind=2∨x.kind=3:=by omega
   rcases this with e | e | e <;> rw [e] <;> decide
  have:=p1 this
  simpa using this
 ·unfold Fd.isC at c
  by_cases e4:x.kind=4
  ·rw [if_neg (by omega),if_neg (by omega),if_pos (.inl e4)] at h
   have:=of_decide_eq_true h
   omega
  ·have ht:Tr.textK x.kind=false:=by
    have:x.kind=1∨x.kind=2∨x.kind=3:=by omega
    rcases this with e | e | e <;> rw [e] <;> decide
   have:=p1 ht
   have e:x.text=⟨#[]⟩:=Fd.empty_text (by simpa using this)
   rw [e]
   decide
 ·refine e0 ?_
  unfold Tr.kidsOk at hk
  rw [if_pos (by omega)] at hk
  exact of_decide_eq_true hk
 ·unfold Tr.kidsOk at hk
  rw [if_neg (by omega),if_pos (by omega)] at hk
  have h1:=of_decide_eq_true hk
  rw [if_neg (by omega),if_neg (by omega),if_neg (by omega),if_pos e] at h
  have:=Tr.inr_true h
  exact ⟨by omega,by omega,by omega⟩
 ·unfold Tr.kidsOk at hk
  rw [if_neg (by omega),if_neg (by omega),if_pos (by omega)] at hk
  have h1:=of_decide_eq_true hk
  rw [if_neg (by omega),if_neg (by omega),if_neg (by omega),if_neg (by omega),if_pos e] at h
  have:=Tr.inr_true h
  exact ⟨by omega,by omega,by omega⟩
 ·unfold Tr.kidsOk at hk
  rw [if_neg (by omega),if_neg (by omega),if_neg (by omega),if_pos e] at hk
  have h1:=of_decide_eq_true hk
  omega
 ·unfold Tr.kidsOk at hk
  rw [if_neg (by omega),if_neg (by omega),if_pos (by omega)] at hk
  have h1:=of_decide_eq_true hk
  omega
 ·unfold Tr.kidsOk at hk
  rw [if_neg (by omega),if_neg (by omega),if_neg (by omega),if_neg (by omega),if_neg (by omega),if_neg (by omega),if_neg (by omega),if_neg (by omega),if_neg (by omega),if_pos (by omega)] at hk
  simp only [Bool.and_eq_true] at hk
  rw [hl]
  cases ls with
  | nil=>simp at hk
  | cons _ _=>simp
 ·unfold Tr.kidsOk at hk
  rw [if_neg (by omega),if_neg (by omega),if_neg (by omega),if_neg (by omega),if_pos e] at hk
  have h1:=of_decide_eq_true hk
  omega
 ·by_cases hlow:1≤x.kind
  ·exact hlow
  ·unfold Tr.kidsOk at hk
   rw [if_neg (by omega),if_neg (by omega),if_neg (by omega),if_neg (by omega),if_neg (by omega),if_neg (by omega),if_neg (by omega),if_neg (by omega),if_neg (by omega),if_neg (by omega),if_neg (by omega),if_neg (by omega)] at hk
   cases hk
 ·by_cases hhi:x.kind≤24
  ·exact hhi
  ·unfold Tr.kidsOk at hk
   rw [if_neg (by omega),if_neg (by omega),if_neg (by omega),if_neg (by omega),if_neg (by omega),if_neg (by omega),if_neg (by omega),if_neg (by omega),if_neg (by omega),if_neg (by omega),if_neg (by omega),if_neg (by omega)] at hk
   cases hk
theorem Fd.walk_at {ns:List Tr.Nd} {ks:List (List Nat)} {B:List Int} (f:Nat) (kn:List Tr.Kn):∀ (l:List Nat) (s:Tr.St) (b e:Nat),Tr.Cov ks b l e→Tr.Fresh b e s→Tr.Agree B b e (l.foldl (fun s y=>Tr.go1 ns ks f y kn s) s)→∀ y∈l,∃ b' s',Tr.Cov ks b' (Tr.kidsOf ks y) y∧Tr.Fresh b' (y+1) s'∧Tr.Agree B b' (y+1) (Tr.go1 ns ks f y kn s')
 | [],_,_,_,_,_,_,y,hy=>by cases hy
 | z :: r,s,b,e,hc,hf,hA,y,hy=>by
  cases hc using Tr.Cov.cas with
  | cons h1 h2 =>
   rw [List.foldl_cons] at hA
   have hle:=h2.le
   have hb:=h1.le
   have hk1:Tr.Keep b (z+1) s (Tr.go1 ns ks f z kn s):=Tr.Keep.go ns f z b kn s h1
   have hk2:Tr.Keep (z+1) e (Tr.go1 ns ks f z kn s) (r.foldl (fun s y=>Tr.go1 ns ks f y kn s) (Tr.go1 ns ks f z kn s)):=Tr.Keep.fold (fun y s=>Tr.go1 ns ks f y kn s) (fun c s b hc=>Tr.Keep.go ns f c b kn s hc) r _ _ _ h2
   rcases List.mem_cons.1 hy with rfl | hy
   ·exact ⟨b,s,h1,hf.mono (Nat.le_refl _) hle,hA.first hk2 hle⟩
   ·exact Fd.walk_at f kn r _ _ _ h2 (hf.keep hk1 (by omega)) (hA.mono (by omega) (Nat.le_refl _)) y hy
theorem Tr.mkS_in (ns:List Tr.Nd):∀ (ms:List Nat) (kn:List Tr.Kn) (s:Tr.St),∀ q∈(Tr.mkS ns ms kn s).1,q∈kn∨q.2∈ms
 | [],kn,_,q,h=>by rw [Tr.mkS] at h;exact .inl h
 | x :: r,kn,s,q,h=>by
  rw [Tr.mkS] at h
  rcases Tr.mkS_in ns r _ _ q h with h | h
  ·rcases List.mem_append.1 h with h | h
   ·exact .inl h
   ·rw [List.mem_singleton.1 h];exact .inr (by simp)
  ·exact .inr (by simp [h])
theorem Tr.mkS_bindsF (ns:List Tr.Nd):∀ (ms:List Nat) (kn:List Tr.Kn) (s:Tr.St),(Tr.mkS ns ms kn s).2.binds=s.binds
 | [],_,_=>by rw [Tr.mkS]
 | x :: r,kn,s=>by
  rw [Tr.mkS,Tr.mkS_bindsF ns r]
  unfold Tr.dupK
  induction kn generalizing s with
  | nil=>rfl
  | cons p r ih=>rw [List.foldl_cons,ih];split;exact Tr.faultS_bindsR _ _ _;rfl
theorem Fd.fits_tree {ns:List Tr.Nd} (hf:Tr.fitsOf ns=true) (h64:∀ x∈ns,x.n < 9223372036854775808) :
  Fd.File (Fd.take ns (Tr.kids ns) (Tr.bindsOf ns) ns.length (ns.length - 1))∧Fd.Good (Fd.take ns (Tr.kids ns) (Tr.bindsOf ns) ns.length (ns.length - 1))∧(Fd.take ns (Tr.kids ns) (Tr.bindsOf ns) ns.length (ns.length - 1)).size=ns.length:=by
 have hv:=Tr.fits_valid hf
 obtain ⟨hn1,hn5,hgood,_⟩:=Tr.valid_facts hv
 obtain ⟨hK,hlast,hfile,hks⟩:=Tr.valid_kids hv
 obtain ⟨hcov,_⟩:=Tr.root_cov hgood
 have hat:=Tr.valid_at hv
 obtain ⟨m,hm⟩:∃ m,ns.length=m+1:=⟨ns.length - 1,by omega⟩
 have hB:Tr.bindsOf ns=(Tr.lookS ns (Tr.kids ns)).binds:=by unfold Tr.bindsOf;rw [if_pos hf]
 have hgoodT:∀ g k,k < g→k < ns.length→Fd.Good (Fd.take ns (Tr.kids ns) (Tr.bindsOf ns) g k):=by
  intro g
  induction g with
  | zero=>intro k h;omega
  | succ g ih =>
   intro k h1 h2
   rw [Fd.take_succ,Fd.good_mk]
   obtain ⟨a1,a2⟩:=hat k h2
   refine ⟨Fd.loc_of (ls:=Tr.kidsOf (Tr.kids ns) k) a1 ?_ (by rw [Tr.nd_kind h2];exact a2) (by rw [List.length_map]),fun t ht=>?_⟩
   ·unfold Tr.ndOf;rw [List.getElem?_eq_getElem h2];exact h64 _ (List.getElem_mem _)
   ·obtain ⟨c,hc,rfl⟩:=List.mem_map.1 ht
    exact ih c (by have:=hK.lt k c hc;omega) (by have:=hK.lt k c hc;omega)
 refine ⟨⟨?_,?_⟩,hgoodT _ _ (by omega) (by omega),?_⟩
 ·rw [(Fd.take_x _ _ _ _ _).1,Tr.nd_kind (by omega)];exact hlast
 ·intro t ht
  rw [hm,Fd.take_succ] at ht
  obtain ⟨y,hy,rfl⟩:=List.mem_map.1 ht
  rw [show m+1 - 1=m from rfl] at hy
  have hlm:Tr.kindOf ns m=24:=by have:=hlast;rw [hm] at this;exact this
  have hym:y < m:=hK.lt m y hy
  have hyn:y < ns.length:=by omega
  have h24:20≤Tr.kindOf ns y∧Tr.kindOf ns y≤23:=by
   have:=(hat m (by omega)).2
   rw [hlm] at this
   simp [Tr.kidsOk] at this
   have h5:=Tr.allK_mem ns _ _ this.1 y hy
   simp [Tr.inr] at h5
   omega
  have hkk:∀ k,k < ns.length→Tr.kindOf ns k < 20→∀ x∈Tr.kidsOf (Tr.kids ns) k,x < k∧Tr.kindOf ns x < 20:=by
   intro k hk hk20 x hx
   have:=Tr.kidsOk_kinds (hat k hk).2 (by omega) (by omega) x hx
   exact ⟨hK.lt k x hx,by omega⟩
  have h5k:∀ k,k < ns.length→Tr.kindOf ns k=5→Tr.kidsOf (Tr.kids ns) k=[]:=by
   intro k hk h5
   have:=(hat k hk).2
   rw [h5] at this
   simp [Tr.kidsOk] at this
   exact this
  have IH:=Fd.ok_take (B:=Tr.bindsOf ns) hkk hK.one hK.par h5k
  obtain ⟨m',rfl⟩:∃ m',m=m'+1:=⟨m - 1,by omega⟩
  refine ⟨by rw [(Fd.take_x _ _ _ _ _).1,Tr.nd_kind hyn];exact h24.1,by rw [(Fd.take_x _ _ _ _ _).1,Tr.nd_kind hyn];exact h24.2,?_⟩
  rw [Fd.take_succ]
  intro t ht
  obtain ⟨c,hc,rfl⟩:=List.mem_map.1 (show t∈(Tr.kidsOf (Tr.kids ns) y).map (Fd.take ns (Tr.kids ns) (Tr.bindsOf ns) m') from ht)
  have hcy:=hK.lt y c hc
  by_cases h23:Tr.kindOf ns y=23
  ·have hc5:Tr.kindOf ns c=5:=by
    have:=(hat y hyn).2
    rw [h23] at this
    simp [Tr.kidsOk] at this
    simpa using Tr.allK_mem ns _ _ this.1 c hc
   obtain ⟨m2,rfl⟩:∃ m2,m'=m2+1:=⟨m' - 1,by omega⟩
   refine ⟨fun _=>Tr.bOf (Tr.bindsOf ns) c,fun _=>True,?_,fun _=>trivial⟩
   rw [Fd.take_succ,Fd.ok_mk,Tr.nd_kind (by omega),if_pos hc5,h5k c (by omega) hc5]
   exact ⟨rfl,rfl⟩
  ·obtain ⟨kn,s0,hs0,hkn,hlook⟩:∃ kn s0,s0.binds=List.replicate ns.length (-1)∧(∀ q∈kn,20≤Tr.kindOf ns q.2∨Tr.kindOf ns q.2=5)∧Tr.lookS ns (Tr.kids ns)=Tr.go1 ns (Tr.kids ns) ns.length (ns.length - 1) kn s0:=by
    refine ⟨_,_,?_,?_,rfl⟩
    ·rw [Tr.mkS_bindsF];rfl
    ·intro q hq
     rcases Tr.mkS_in ns _ _ _ q hq with h | h
     ·cases h
     ·unfold Tr.makesOf at h
      obtain ⟨z,hz,hqz⟩:=List.mem_flatMap.1 h
      unfold Tr.mk1 at hqz
      split at hqz
      ·rename_i hz2
       rw [List.mem_singleton.1 hqz];omega
      ·split at hqz
       ·rename_i hz3
        have hzn:z < ns.length:=by have:=hK.lt _ z hz;omega
        have:=(hat z hzn).2
        rw [hz3] at this
        simp [Tr.kidsOk] at this
        exact .inr (by simpa using Tr.allK_mem ns _ _ this.1 q.2 hqz)
       ·cases hqz
   have hA0:Tr.Agree (Tr.bindsOf ns) 0 (m'+1) ((Tr.kidsOf (Tr.kids ns) (m'+1)).foldl (fun s y=>Tr.go1 ns (Tr.kids ns) (m'+1) y kn s) s0):=by
    intro j _ _
    rw [hB,hlook,hm,show m'+1+1 - 1=m'+1 from rfl,Tr.go1,hlm]
    rfl
   have hF0:Tr.Fresh 0 (m'+1) s0:=by
    intro j _ hj
    rw [hs0,List.getElem?_replicate,if_pos (by omega)]
   rw [hm,show m'+1+1 - 1=m'+1 from rfl] at hcov
   obtain ⟨b',s',w1,w2,w3⟩:=Fd.walk_at (m'+1) kn _ s0 0 (m'+1) hcov hF0 hA0 y hy
   rw [Tr.go1,if_neg (by omega),if_neg h23] at w3
   have hb':=w1.le
   have hl:∀ x∈Tr.kidsOf (Tr.kids ns) y,x < m'∧x < m'∧x < ns.length∧Tr.kindOf ns x < 20:=fun x hx=>by
    have a1:=hK.lt y x hx
    have a2:=Tr.kidsOk_kinds (hat y hyn).2 h23 (by omega) x hx
    exact ⟨by omega,by omega,by omega,by omega⟩
   have hq:∀ q∈kn,q.2 < b'∨y≤q.2∨20≤Tr.kindOf ns q.2∨Tr.kindOf ns q.2=5:=fun q h=>by have:=hkn q h;omega
   by_cases h20:Tr.kindOf ns y=20
   ·rw [if_pos (.inr h20)] at w3
    have:=Fd.okP_take (IH m') m' hkk hK.one _ [] kn false s' b' y w1 hl (hK.par y (.inr h20)) hq (w2.mono (Nat.le_refl _) (by omega)) (w3.mono (Nat.le_refl _) (by omega))
    exact Fd.okP_scoped this (Fd.uK_eK kn) _ (List.mem_map.2 ⟨c,hc,rfl⟩)
   ·rw [if_neg (by omega),if_neg (by omega)] at w3
    have:=Fd.okL_take (IH m') m' kn _ s' b' y w1 hl hq (w2.mono (Nat.le_refl _) (by omega)) (w3.mono (Nat.le_refl _) (by omega)) c hc
    exact ⟨_,_,this,Fd.uK_eK kn⟩
 ·have:=Fd.size_take (ns:=ns) (B:=Tr.bindsOf ns) hcov m (fun x hx=>by have:=hK.lt _ x hx;omega)
  rw [hm,Fd.take_succ,Fd.size_mk,show m+1 - 1=m from rfl]
  rw [hm,show m+1 - 1=m from rfl] at this
  rw [this];omega
end Go.Proofs.YthbojbbmpcmoaaaGreatDoor
