/- Fo2, Fo3. -/
import Derived.Test.YthbojbbmpcmoaaaGreatDoorZ05
import Derived.Test.YthbojbbmpcmoaaaGreatDoorZ08
import Derived.Test.YthbojbbmpcmoaaaGreatDoorZ07
import Derived.Deep.CutRange
namespace Go.Proofs.YthbojbbmpcmoaaaGreatDoor
structure FOp where
 un:Int→Tr.Nd→Option Tr.Nd
 bin:Int→Tr.Nd→Tr.Nd→Option Tr.Nd
namespace Fd
abbrev isC (x:Tr.Nd):Prop:=1≤x.kind∧x.kind≤4
abbrev stops (op:Int) (a:Tr.Nd):Prop:=a.kind=2∧(op=1∧a.n=1∨op=2∧a.n=0)
def one (c:Tr.Nd):Fd:= .mk c (-1) (-1) []
def back (out:Fd):Option Tr.Nd→Fd
 | some c=>one c
 | none=>out
def fin (O:FOp) (F:Fd→Fd) (x:Tr.Nd) (p b:Int) (ks:List Fd):Fd :=
 if x.kind=6 then (match ks with
  | [k]=>if isC k.x then back (.mk x p b ks) (O.un x.op k.x) else .mk x p b ks
  | _ => .mk x p b ks)
 else if x.kind=7 then (match ks with
  | [k,l]=>if stops x.op k.x then k else if isC k.x∧isC l.x then back (.mk x p b ks) (O.bin x.op k.x l.x) else .mk x p b ks
  | _ => .mk x p b ks)
 else if x.kind=13 then (match ks with
  | [k,l,m]=>if k.x.kind=2 then (if k.x.n=1 then l else m) else .mk x p b ks
  | _ => .mk x p b ks)
 else if x.kind=14 then (match ks with
  | [k,l]=>if isC k.x then F (repl p k.x l) else .mk x p b ks
  | _ => .mk x p b ks)
 else .mk x p b ks
def fold (O:FOp):Nat→Fd→Fd
 | 0,t=>t
 | f+1,.mk x p b ks=>fin O (fold O f) x p b (ks.map (fold O f))
theorem fold_succ (O:FOp) (f:Nat) (x:Tr.Nd) (p b:Int) (ks:List Fd):fold O (f+1) (.mk x p b ks)=fin O (fold O f) x p b (ks.map (fold O f)):=rfl
theorem fin_plain (O:FOp) (F:Fd→Fd) (x:Tr.Nd) (p b:Int) (ks:List Fd) (h6:x.kind≠6) (h7:x.kind≠7) (h13:x.kind≠13) (h14:x.kind≠14):fin O F x p b ks = .mk x p b ks:=by
 unfold fin
 rw [if_neg h6,if_neg h7,if_neg h13,if_neg h14]
theorem fin_cases (O:FOp) (F:Fd→Fd) (x:Tr.Nd) (p b:Int) (ks:List Fd) (C:Fd→Prop) (h0:C (.mk x p b ks))
  (h1:x.kind=6→∀ k c,ks=[k]→isC k.x→O.un x.op k.x=some c→C (one c))
  (h2:x.kind=7→∀ k l,ks=[k,l]→stops x.op k.x→C k)
  (h3:x.kind=7→∀ k l c,ks=[k,l]→isC k.x→isC l.x→O.bin x.op k.x l.x=some c→C (one c))
  (h4:x.kind=13→∀ k l m,ks=[k,l,m]→k.x.kind=2→C l∧C m)
  (h5:x.kind=14→∀ k l,ks=[k,l]→isC k.x→C (F (repl p k.x l))):C (fin O F x p b ks):=by
 unfold fin
 split
 ·rename_i h
  split
  ·rename_i k
   split
   ·rename_i hc
    cases e:O.un x.op k.x with
    | none=>exact h0
    | some c=>exact h1 h k c rfl hc e
   ·exact h0
  ·exact h0
 ·split
  ·rename_i h
   split
   ·rename_i k l
    split
    ·rename_i hs;exact h2 h k l rfl hs
    ·split
     ·rename_i hc
      cases e:O.bin x.op k.x l.x with
      | none=>exact h0
      | some c=>exact h3 h k l c rfl hc.1 hc.2 e
     ·exact h0
   ·exact h0
  ·split
   ·rename_i h
    split
    ·rename_i k l m
     split
     ·rename_i hk
      have:=h4 h k l m rfl hk
      split
      ·exact this.1
      ·exact this.2
     ·exact h0
    ·exact h0
   ·split
    ·rename_i h
     split
     ·rename_i k l
      split
      ·rename_i hc;exact h5 h k l rfl hc
      ·exact h0
     ·exact h0
    ·exact h0
structure CN (x:Tr.Nd):Prop where
 c:isC x
 op:x.op=0
 n0:0≤x.n
 n1:x.n < 9223372036854775808
 bit:x.kind=2→x.n=0∨x.n=1
 zero:x.kind≠2→x.kind≠3→x.n=0
 text:x.kind≠4→x.text=⟨#[]⟩
 long:x.text.size≤1000
structure Loc (x:Tr.Nd) (ks:List Fd):Prop where
 c:isC x→CN x∧ks=[]
 name:x.kind=5→ks=[]
 un:x.kind=6→ks.length=1∧1≤x.op∧x.op≤2
 bin:x.kind=7→ks.length=2∧1≤x.op∧x.op≤14
 choice:x.kind=13→ks.length=3
 bind:x.kind=14→ks.length=2
 fn:x.kind=15→0 < ks.length
 each:x.kind=16→0 < ks.length
 low:1≤x.kind
 high:x.kind≤24
def Good:Fd→Prop
 | .mk x _ _ ks=>Loc x ks∧goodL ks
 where
 goodL:List Fd→Prop
 | []=>True
 | t :: r=>Good t∧goodL r
theorem goodL_iff (l:List Fd):Good.goodL l↔∀ t∈l,Good t:=by
 induction l with
 | nil=>simp [Good.goodL]
 | cons t r ih=>simp [Good.goodL,ih]
theorem good_mk (x:Tr.Nd) (p b:Int) (ks:List Fd):Good (.mk x p b ks)↔Loc x ks∧∀ t∈ks,Good t:=by rw [Good,goodL_iff]
theorem Loc.len {x:Tr.Nd} {ks ls:List Fd} (h:Loc x ks) (hl:ls.length=ks.length):Loc x ls:=by
 have e0:ks=[]→ls=[]:=fun e=>by rw [e] at hl;exact List.eq_nil_of_length_eq_zero hl
 exact ⟨fun c=>⟨(h.c c).1,e0 (h.c c).2⟩,fun c=>e0 (h.name c),fun c=>hl ▸ h.un c,fun c=>hl ▸ h.bin c,fun c=>hl ▸ h.choice c,fun c=>hl ▸ h.bind c,fun c=>hl ▸ h.fn c,fun c=>hl ▸ h.each c,h.low,h.high⟩
theorem good_one {c:Tr.Nd} (h:CN c):Good (one c):=by
 have:=h.c
 unfold isC at this
 rw [one,good_mk]
 exact ⟨⟨fun _=>⟨h,rfl⟩,fun e=>by omega,fun e=>by omega,fun e=>by omega,fun e=>by omega,fun e=>by omega,fun e=>by omega,fun e=>by omega,by omega,by omega⟩,fun t ht=>by cases ht⟩
theorem Good.const {t:Fd} (h:Good t) (hc:isC t.x):CN t.x∧t.ks=[]:=by
 cases t
 exact ((good_mk _ _ _ _).1 h).1.c hc
theorem good_repl (m:Int) {c:Tr.Nd} (hc:CN c):∀ (n:Nat) (y:Fd),y.size≤n→Good y→Good (repl m c y):=by
 intro n
 induction n with
 | zero=>intro y hy;have:=size_pos y;omega
 | succ n ih =>
  intro y hy h
  obtain ⟨x,p,b,ks⟩:=y
  rw [size_mk] at hy
  rw [repl_mk]
  rw [good_mk] at h
  split
  ·exact good_one hc
  ·rw [good_mk]
   refine ⟨h.1.len (by simp),fun t ht=>?_⟩
   obtain ⟨u,hu,rfl⟩:=List.mem_map.1 ht
   exact ih u (by have:=size_mem hu;omega) (h.2 u hu)
theorem size_map_le {F:Fd→Fd}:∀ (l:List Fd),(∀ t∈l,(F t).size≤t.size)→sizeL (l.map F)≤sizeL l
 | [],_=>by simp
 | t :: r,h=>by
  have h1:=h t (by simp)
  have h2:=size_map_le r (fun y hy=>h y (by simp [hy]))
  rw [List.map_cons,sizeL_cons,sizeL_cons]
  omega
theorem size_repl (m:Int) (c:Tr.Nd):∀ (n:Nat) (y:Fd),y.size≤n→(repl m c y).size≤y.size:=by
 intro n
 induction n with
 | zero=>intro y hy;have:=size_pos y;omega
 | succ n ih =>
  intro y hy
  obtain ⟨x,p,b,ks⟩:=y
  rw [repl_mk]
  split
  ·rw [size_mk,size_mk,sizeL_nil];omega
  ·rw [size_mk] at hy
   rw [size_mk,size_mk]
   have:=size_map_le (F:=repl m c) ks (fun t ht=>ih t (by have:=size_mem ht;omega))
   omega
theorem size_fold (O:FOp):∀ (f:Nat) (y:Fd),(fold O f y).size≤y.size:=by
 intro f
 induction f with
 | zero=>intro y;exact Nat.le_refl _
 | succ f ih =>
  intro y
  obtain ⟨x,p,b,ks⟩:=y
  rw [fold_succ,size_mk]
  have hk:=size_map_le (F:=fold O f) ks (fun t _=>ih t)
  generalize ks.map (fold O f)=ls at hk
  refine fin_cases O (fold O f) x p b ls (fun t=>t.size≤1+sizeL ks) (by rw [size_mk];omega) ?_ ?_ ?_ ?_ ?_
  ·intro _ k c _ _ _;rw [one,size_mk,sizeL_nil];omega
  ·rintro _ k l rfl _;rw [sizeL_cons] at hk;omega
  ·intro _ k l c _ _ _ _;rw [one,size_mk,sizeL_nil];omega
  ·rintro _ k l m rfl _;rw [sizeL_cons,sizeL_cons,sizeL_cons] at hk;exact ⟨by omega,by omega⟩
  ·rintro _ k l rfl _
   rw [sizeL_cons,sizeL_cons] at hk
   have h1:=ih (repl p k.x l)
   have h2:=size_repl p k.x _ l (Nat.le_refl _)
   omega
structure Fine (O:FOp):Prop where
 un:∀ op k c,CN k→O.un op k=some c→CN c
 bin:∀ op k l c,CN k→CN l→O.bin op k l=some c→CN c
theorem good_fold {O:FOp} (hO:Fine O):∀ (f:Nat) (y:Fd),Good y→Good (fold O f y):=by
 intro f
 induction f with
 | zero=>intro y h;exact h
 | succ f ih =>
  intro y h
  obtain ⟨x,p,b,ks⟩:=y
  rw [good_mk] at h
  rw [fold_succ]
  have hl:Loc x (ks.map (fold O f)):=h.1.len (by simp)
  have hk:∀ t∈ks.map (fold O f),Good t:=fun t ht=>by
   obtain ⟨u,hu,rfl⟩:=List.mem_map.1 ht
   exact ih u (h.2 u hu)
  generalize ks.map (fold O f)=ls at hk hl
  refine fin_cases O (fold O f) x p b ls Good ((good_mk _ _ _ _).2 ⟨hl,hk⟩) ?_ ?_ ?_ ?_ ?_
  ·rintro _ k c rfl hc e;exact good_one (hO.un _ _ _ ((hk k (by simp)).const hc).1 e)
  ·rintro _ k l rfl _;exact hk k (by simp)
  ·rintro _ k l c rfl hc hd e;exact good_one (hO.bin _ _ _ _ ((hk k (by simp)).const hc).1 ((hk l (by simp)).const hd).1 e)
  ·rintro _ k l m rfl _;exact ⟨hk l (by simp),hk m (by simp)⟩
  ·rintro _ k l rfl hc
   exact ih _ (good_repl p ((hk k (by simp)).const hc).1 _ l (Nat.le_refl _) (hk l (by simp)))
theorem ok_one (e:ByteArray→Int) (U:Int→Prop) {c:Tr.Nd} (h:isC c):Ok e U (one c):=by
 unfold isC at h
 rw [one,ok_mk,if_neg (by omega),if_neg (by omega),if_neg (by omega)]
 exact ⟨by omega,(okL_iff _ _ _).2 fun t ht=>by cases ht⟩
theorem upd_agree {e e2:ByteArray→Int} {m:Int} (hh:∀ s,e s≠m→e s=e2 s) (t:ByteArray) (z:Int) (s:ByteArray) (hs:upd e t z s≠m):upd e t z s=upd e2 t z s:=by
 by_cases h:s=t
 ·subst h;rw [upd_at,upd_at]
 ·rw [upd_ne e z h,upd_ne e2 z h]
  rw [upd_ne e z h] at hs
  exact hh s hs
theorem more_mono {U U2:Int→Prop} (hU2:∀ z,U2 z→U z) (z y:Int) (h:more U2 z y):more U z y:=h.elim (fun h => .inl (hU2 _ h)) .inr
theorem ok_repl (m:Int) {c:Tr.Nd} (hc:isC c):∀ (n:Nat) (y:Fd),y.size≤n→∀ (e e2:ByteArray→Int) (U U2:Int→Prop),Ok e U y→(∀ s,e s≠m→e s=e2 s)→U m→(∀ z,U2 z→U z)→Ok e2 U2 (repl m c y):=by
 intro n
 induction n with
 | zero=>intro y hy;have:=size_pos y;omega
 | succ n ih =>
  intro y hy e e2 U U2 ho hh hU hU2
  obtain ⟨x,p,b,ks⟩:=y
  rw [size_mk] at hy
  have hs:∀ t∈ks,t.size≤n:=fun t ht=>by have:=size_mem ht;omega
  rw [repl_mk]
  rw [ok_mk] at ho
  by_cases h5:x.kind=5
  ·rw [if_pos h5] at ho
   obtain ⟨hb,hk⟩:=ho
   by_cases hbm:b=m
   ·rw [if_pos ⟨h5,hbm⟩];exact ok_one e2 U2 hc
   ·have n2:¬ (x.kind=5∧b=m):=fun h=>hbm h.2
    rw [if_neg n2,ok_mk,if_pos h5,hk]
    exact ⟨by rw [hb];exact hh _ (by rw [← hb];exact hbm),rfl⟩
  ·have n2:¬ (x.kind=5∧b=m):=fun h=>h5 h.1
   rw [if_neg n2,ok_mk,if_neg h5]
   rw [if_neg h5] at ho
   by_cases h14:x.kind=14∨x.kind=16
   ·rw [if_pos h14] at ho ⊢
    obtain ⟨hp,ha⟩:=ho
    refine ⟨fun h=>hp (hU2 _ h),?_⟩
    cases ks with
    | nil=>exact okA_nil _ _ _ _
    | cons y r =>
     obtain ⟨h1,h2⟩:=(okA_cons _ _ _ _ _ _).1 ha
     rw [List.map_cons]
     refine (okA_cons _ _ _ _ _ _).2 ⟨ih y (hs y (by simp)) e e2 U U2 h1 hh hU hU2,fun t ht=>?_⟩
     obtain ⟨u,hu,rfl⟩:=List.mem_map.1 ht
     exact ih u (hs u (by simp [hu])) _ _ _ _ (h2 u hu) (upd_agree hh _ _) (.inl hU) (more_mono hU2 p)
   ·rw [if_neg h14] at ho ⊢
    by_cases h15:x.kind=15
    ·rw [if_pos h15] at ho ⊢
     clear hy h14 h15 h5 n2
     induction ks generalizing e e2 U U2 with
     | nil=>exact okP_nil _ _
     | cons y r ihr =>
      obtain ⟨h1,h2,h3⟩:=(okP_cons _ _ _ _).1 ho
      rw [List.map_cons]
      refine (okP_cons _ _ _ _).2 ⟨ih y (hs y (by simp)) e e2 U U2 h1 hh hU hU2,?_,?_⟩
      ·intro hr
       have hr2:r≠[]:=fun h=>hr (by rw [h];rfl)
       obtain ⟨g1,g2⟩:=h2 hr2
       obtain ⟨x',p',b',ks'⟩:=y
       have g1':x'.kind=19:=g1
       have n3:¬ (x'.kind=5∧b'=m):=by omega
       rw [repl_mk,if_neg n3]
       exact ⟨g1',fun h=>g2 (hU2 _ h)⟩
      ·by_cases hr:r=[]
       ·subst hr;exact okP_nil _ _
       ·obtain ⟨g1,g2⟩:=h2 hr
        obtain ⟨x',p',b',ks'⟩:=y
        have g1':x'.kind=19:=g1
        have n3:¬ (x'.kind=5∧b'=m):=by omega
        rw [repl_mk,if_neg n3]
        exact ihr _ _ _ _ (upd_agree hh _ _) (.inl hU) (more_mono hU2 _) h3 (fun z hz=>hs z (by simp [hz]))
    ·rw [if_neg h15] at ho ⊢
     have hl:=(okL_iff _ _ _).1 ho.2
     refine ⟨ho.1,(okL_iff _ _ _).2 fun t ht=>?_⟩
     obtain ⟨u,hu,rfl⟩:=List.mem_map.1 ht
     exact ih u (hs u hu) e e2 U U2 (hl u hu) hh hU hU2
theorem fold_x (O:FOp) (f:Nat) (t:Fd) (h:t.x.kind=19):(fold O f t).x=t.x∧(fold O f t).p=t.p:=by
 obtain ⟨x,p,b,ks⟩:=t
 have h':x.kind=19:=h
 cases f with
 | zero=>exact ⟨rfl,rfl⟩
 | succ f=>rw [fold_succ,fin_plain O _ _ _ _ _ (by omega) (by omega) (by omega) (by omega)];exact ⟨rfl,rfl⟩
theorem ok_fold {O:FOp} (hO:∀ op k c,O.un op k=some c→isC c) (hB:∀ op k l c,O.bin op k l=some c→isC c):∀ (f:Nat) (y:Fd) (e:ByteArray→Int) (U:Int→Prop),Ok e U y→(∀ s,U (e s))→Ok e U (fold O f y):=by
 intro f
 induction f with
 | zero=>intro y e U h _;exact h
 | succ f ih =>
  intro y e U ho hU
  obtain ⟨x,p,b,ks⟩:=y
  rw [fold_succ]
  have hupU:∀ (t:ByteArray) (z:Int) (e:ByteArray→Int) (U:Int→Prop),(∀ s,U (e s))→∀ s,more U z (upd e t z s):=by
   intro t z e U hU s
   by_cases h:s=t
   ·subst h;rw [upd_at];exact .inr rfl
   ·rw [upd_ne e z h];exact .inl (hU s)
  have hout:Ok e U (.mk x p b (ks.map (fold O f))):=by
   rw [ok_mk] at ho ⊢
   by_cases h5:x.kind=5
   ·rw [if_pos h5] at ho ⊢
    exact ⟨ho.1,by rw [ho.2];rfl⟩
   ·rw [if_neg h5] at ho ⊢
    by_cases h14:x.kind=14∨x.kind=16
    ·rw [if_pos h14] at ho ⊢
     refine ⟨ho.1,?_⟩
     cases ks with
     | nil=>exact okA_nil _ _ _ _
     | cons y r =>
      obtain ⟨h1,h2⟩:=(okA_cons _ _ _ _ _ _).1 ho.2
      rw [List.map_cons]
      refine (okA_cons _ _ _ _ _ _).2 ⟨ih y e U h1 hU,fun t ht=>?_⟩
      obtain ⟨u,hu,rfl⟩:=List.mem_map.1 ht
      exact ih u _ _ (h2 u hu) (hupU _ _ e U hU)
    ·rw [if_neg h14] at ho ⊢
     by_cases h15:x.kind=15
     ·rw [if_pos h15] at ho ⊢
      clear h14 h15 h5
      induction ks generalizing e U with
      | nil=>exact okP_nil _ _
      | cons y r ihr =>
       obtain ⟨h1,h2,h3⟩:=(okP_cons _ _ _ _).1 ho
       rw [List.map_cons]
       refine (okP_cons _ _ _ _).2 ⟨ih y e U h1 hU,?_,?_⟩
       ·intro hr
        have hr2:r≠[]:=fun h=>hr (by rw [h];rfl)
        obtain ⟨g1,g2⟩:=h2 hr2
        obtain ⟨q1,q2⟩:=fold_x O f y g1
        rw [q1,q2]
        exact ⟨g1,g2⟩
       ·by_cases hr:r=[]
        ·subst hr;exact okP_nil _ _
        ·obtain ⟨g1,g2⟩:=h2 hr
         obtain ⟨q1,q2⟩:=fold_x O f y g1
         rw [q1,q2]
         exact ihr _ _ (hupU _ _ e U hU) h3
     ·rw [if_neg h15] at ho ⊢
      have hl:=(okL_iff _ _ _).1 ho.2
      refine ⟨ho.1,(okL_iff _ _ _).2 fun t ht=>?_⟩
      obtain ⟨u,hu,rfl⟩:=List.mem_map.1 ht
      exact ih u e U (hl u hu) hU
  generalize ks.map (fold O f)=ls at hout
  have hout2:=hout
  rw [ok_mk] at hout2
  refine fin_cases O (fold O f) x p b ls (Ok e U) hout ?_ ?_ ?_ ?_ ?_
  ·intro _ k c _ _ e1;exact ok_one e U (hO _ _ _ e1)
  ·rintro h k l rfl _
   rw [if_neg (by omega),if_neg (by omega),if_neg (by omega)] at hout2
   exact (okL_iff _ _ _).1 hout2.2 k (by simp)
  ·intro _ k l c _ _ _ e1;exact ok_one e U (hB _ _ _ _ e1)
  ·rintro h k l m rfl _
   rw [if_neg (by omega),if_neg (by omega),if_neg (by omega)] at hout2
   exact ⟨(okL_iff _ _ _).1 hout2.2 l (by simp),(okL_iff _ _ _).1 hout2.2 m (by simp)⟩
  ·rintro h k l rfl hc
   rw [if_neg (by omega),if_pos (.inl h)] at hout2
   obtain ⟨h1,h2⟩:=(okA_cons _ _ _ _ _ _).1 hout2.2
   refine ih _ e U (ok_repl p hc _ l (Nat.le_refl _) _ e _ U (h2 l (by simp)) ?_ (.inr rfl) (fun z hz => .inl hz)) hU
   intro s hs
   by_cases hx:s=x.text
   ·subst hx;rw [upd_at] at hs;exact absurd rfl hs
   ·exact upd_ne e p hx
theorem fill_let {e:ByteArray→Int} {U:Int→Prop} {x:Tr.Nd} {p b:Int} {k l:Fd} (h:Ok e U (.mk x p b [k,l])) (h14:x.kind=14) (hU:∀ s,U (e s)) (c:Tr.Nd):fill x.text c l=repl p c l:=by
 rw [ok_mk,if_neg (by omega),if_pos (.inl h14)] at h
 obtain ⟨h1,h2⟩:=(okA_cons _ _ _ _ _ _).1 h.2
 refine fill_eq p x.text c _ l (Nat.le_refl _) _ _ (h2 l (by simp)) (fun s=>?_) (.inr rfl)
 by_cases hs:s=x.text
 ·subst hs;rw [upd_at];exact ⟨fun _=>rfl,fun _=>rfl⟩
 ·rw [upd_ne e p hs];exact ⟨fun h3=>absurd (h3 ▸ hU s) h.1,fun h3=>absurd h3 hs⟩
def give:Fd→List Tr.Nd
 | .mk x _ _ ks=>giveL ks++[{x with kids:=ks.length}]
 where
 giveL:List Fd→List Tr.Nd
 | []=>[]
 | t :: r=>give t++giveL r
theorem give_mk (x:Tr.Nd) (p b:Int) (ks:List Fd):give (.mk x p b ks)=give.giveL ks++[{x with kids:=ks.length}]:=by rw [give]
theorem giveL_cons (t:Fd) (r:List Fd):give.giveL (t :: r)=give t++give.giveL r:=by rw [give.giveL]
theorem giveL_app (a b:List Fd):give.giveL (a++b)=give.giveL a++give.giveL b:=by
 induction a with
 | nil=>simp [give.giveL]
 | cons t r ih=>rw [List.cons_append,giveL_cons,giveL_cons,ih,List.append_assoc]
theorem give_len:∀ (n:Nat) (y:Fd),y.size≤n→(give y).length=y.size:=by
 intro n
 induction n with
 | zero=>intro y hy;have:=size_pos y;omega
 | succ n ih =>
  intro y hy
  obtain ⟨x,p,b,ks⟩:=y
  rw [size_mk] at hy
  have hs:∀ t∈ks,t.size≤n:=fun t ht=>by have:=size_mem ht;omega
  rw [give_mk,size_mk,List.length_append,List.length_singleton]
  have key:(give.giveL ks).length=sizeL ks:=by
   clear hy
   induction ks with
   | nil=>rw [sizeL_nil];simp [give.giveL]
   | cons t r ihr=>rw [giveL_cons,sizeL_cons,List.length_append,ih t (hs t (by simp)),ihr (fun y hy=>hs y (by simp [hy]))]
  omega
end Fd
end Go.Proofs.YthbojbbmpcmoaaaGreatDoor
namespace Go.Proofs.YthbojbbmpcmoaaaGreatDoor
open Go.RowKit
theorem step_callF {P:Program} {ops:Array Oper} {o:Oper} {a:Act} {w:World} {K:Act→World→Prop} {Q:Exit→Act→World→Prop} {E:Prop}
  (hg:o.guard=none) (f:FuncId) (xs:List Operand) (ts:Array TypeId) (hop:o.op=Op.call {callee:=Callee.value (Operand.func f),args:=xs.toArray,argTypes:=ts})
  (vs:List Value) (hx:xs.map a.eval=vs) (fn:Func) (hfn:P.funcs[f]?=some fn) (hne:(fn.name == "runtime.NumGoroutine")=false) (hbd:fn.body.isNone=false) (R:Value→World→Prop) (hC:Calls P f vs.toArray w fun e w'=>∃ r,e = .returned r∧R r w') (hK:∀ r w',R r w'→K (a.put o.dst r) w') :
  if Region.wanted o (yielded ops a.tmps)=true then Oper.wp P o a w K Q else E:=by
 have hw:Region.wanted o (yielded ops a.tmps)=true:=by simp [Region.wanted,hg]
 rw [if_pos hw]
 have h1:(callFunc f vs.toArray).run P w = .ok (.enter f vs.toArray) w:=by
  simp only [callFunc,Sem.run_bind,run_program,Result.andThen_ok,hfn,hne,hbd];rfl
 unfold Oper.wp
 simp only [execOp,hop,resolve,invoke,List.map_toArray,hx,Deferred.ofValue,Sem.run_bind]
 rw [show a.eval (Operand.func f)=Value.func (Fn.func f) #[] #[] from rfl]
 simp only [Sem.run_pure,Result.andThen_ok]
 simp [h1]
 refine hC.mono fun e w2 h=>?_
 obtain ⟨r,rfl,h2⟩:=h
 exact hK _ _ h2
abbrev lnO (x:Tr.Nd) (sl:Value) (p b:Int):Obj:= .cells #[.int .i64 x.kind,.int .i64 x.op,.int .i64 x.n,.string x.text,.int .i64 x.kids,sl,.int .i64 p,.int .i64 b] 67
def LnAt (w:World) (a:Nat) (x:Tr.Nd) (sl:Value) (p b:Int):Prop:=w.heap[a]?=some (lnO x sl p b)
abbrev pt (a:Nat):Value:= .pointer (some ⟨a,0,none⟩)
theorem LnAt.lt {w:World} {a:Nat} {x:Tr.Nd} {sl:Value} {p b:Int} (h:LnAt w a x sl p b):a < w.heap.size:=by
 rcases Nat.lt_or_ge a w.heap.size with h1 | h1
 ·exact h1
 ·unfold LnAt at h;rw [Array.getElem?_eq_none h1] at h;cases h
theorem LnAt.below {w w':World} {a:Nat} {x:Tr.Nd} {sl:Value} {p b:Int} (h:LnAt w a x sl p b) (hb:Below w.heap.size w w'):LnAt w' a x sl p b:=(hb.block a h.lt).trans h
theorem LnAt.c0 {w:World} {a:Nat} {x:Tr.Nd} {sl:Value} {p b:Int} (h:LnAt w a x sl p b):w.cell? ⟨a,0,none⟩=some (.int .i64 x.kind):=by rw [World.cell?,show w.heap[a]?=_ from h];rfl
theorem LnAt.c1 {w:World} {a:Nat} {x:Tr.Nd} {sl:Value} {p b:Int} (h:LnAt w a x sl p b):w.cell? ⟨a,1,none⟩=some (.int .i64 x.op):=by rw [World.cell?,show w.heap[a]?=_ from h];rfl
theorem LnAt.c2 {w:World} {a:Nat} {x:Tr.Nd} {sl:Value} {p b:Int} (h:LnAt w a x sl p b):w.cell? ⟨a,2,none⟩=some (.int .i64 x.n):=by rw [World.cell?,show w.heap[a]?=_ from h];rfl
theorem LnAt.c3 {w:World} {a:Nat} {x:Tr.Nd} {sl:Value} {p b:Int} (h:LnAt w a x sl p b):w.cell? ⟨a,3,none⟩=some (.string x.text):=by rw [World.cell?,show w.heap[a]?=_ from h];rfl
theorem LnAt.c4 {w:World} {a:Nat} {x:Tr.Nd} {sl:Value} {p b:Int} (h:LnAt w a x sl p b):w.cell? ⟨a,4,none⟩=some (.int .i64 x.kids):=by rw [World.cell?,show w.heap[a]?=_ from h];rfl
theorem LnAt.c5 {w:World} {a:Nat} {x:Tr.Nd} {sl:Value} {p b:Int} (h:LnAt w a x sl p b):w.cell? ⟨a,5,none⟩=some sl:=by rw [World.cell?,show w.heap[a]?=_ from h];rfl
theorem LnAt.c6 {w:World} {a:Nat} {x:Tr.Nd} {sl:Value} {p b:Int} (h:LnAt w a x sl p b):w.cell? ⟨a,6,none⟩=some (.int .i64 p):=by rw [World.cell?,show w.heap[a]?=_ from h];rfl
theorem LnAt.c7 {w:World} {a:Nat} {x:Tr.Nd} {sl:Value} {p b:Int} (h:LnAt w a x sl p b):w.cell? ⟨a,7,none⟩=some (.int .i64 b):=by rw [World.cell?,show w.heap[a]?=_ from h];rfl
theorem LnAt.fr {w:World} {a:Nat} {x:Tr.Nd} {sl:Value} {p b:Int} (h:LnAt w a x sl p b) (i:Nat):w.frozen? ⟨a,i,none⟩=false:=by rw [World.frozen?,show w.heap[a]?=_ from h];simp
theorem LnAt.set {w:World} {a:Nat} {x:Tr.Nd} {sl:Value} {p b:Int} (h:LnAt w a x sl p b) (v:Value):LnAt (w.setCell ⟨a,5,none⟩ v) a x v p b:=by
 unfold LnAt
 rw [heap_setCell_same _ _ _ _ _ _ h]
 rfl
theorem infoLn:(Tryz.prog.info? 39).map (fun i=>(i.zero,i.size,i.bytes))=some (some (.pointer none),1,8):=by kernel_rfl
theorem row_ownF {w w':World} {base base' size:Nat} {e:TypeId} {v:Value} {n:Nat} {xs:List Value} (h:w.ownsRow base e size v n xs) (hl:∀ q,v.ownBlock=some q→base'≤q) (hb:∀ q,v.ownBlock=some q→w'.heap[q]?=w.heap[q]?):w'.ownsRow base' e size v n xs:=by
 refine ⟨h.1,?_⟩
 rcases h.2 with h1 | ⟨g,cap,cur,hv,h2,h3,h4⟩
 ·exact .inl h1
 ·have e:v.ownBlock=some g:=by rw [hv];rfl
  exact .inr ⟨g,cap,cur,hv,hl g e,(hb g e).trans h3,h4⟩
namespace Fd
def At (B:Nat→Prop) (w:World):Fd→Nat→Prop
 | .mk x p b ks,a=>∃ (sl:Value) (ad:List Nat),LnAt w a x sl p b∧B a∧w.ownsRow 0 39 1 sl ks.length (ad.map pt)∧(∀ q,sl.ownBlock=some q→B q)∧atL B w ks ad
 where
 atL (B:Nat→Prop) (w:World):List Fd→List Nat→Prop
 | [],ad=>ad=[]
 | t :: r,ad=>∃ a s,ad=a :: s∧At B w t a∧atL B w r s
theorem at_mk (B:Nat→Prop) (w:World) (x:Tr.Nd) (p b:Int) (ks:List Fd) (a:Nat):At B w (.mk x p b ks) a↔∃ (sl:Value) (ad:List Nat),LnAt w a x sl p b∧B a∧w.ownsRow 0 39 1 sl ks.length (ad.map pt)∧(∀ q,sl.ownBlock=some q→B q)∧At.atL B w ks ad:=by rw [At]
variable {B:Nat→Prop}
theorem atL_nil (w:World) (ad:List Nat):At.atL B w [] ad↔ad=[]:=by rw [At.atL]
theorem atL_cons (w:World) (t:Fd) (r:List Fd) (ad:List Nat):At.atL B w (t :: r) ad↔∃ a s,ad=a :: s∧At B w t a∧At.atL B w r s:=by rw [At.atL]
theorem atL_len {w:World}:∀ {l:List Fd} {ad:List Nat},At.atL B w l ad→ad.length=l.length
 | [],ad,h=>by rw [(atL_nil w ad).1 h];rfl
 | t :: r,ad,h=>by
  obtain ⟨a,s,rfl,_,h2⟩:=(atL_cons w t r ad).1 h
  rw [List.length_cons,List.length_cons,atL_len h2]
theorem atL_get {w:World}:∀ {l:List Fd} {ad:List Nat} (i:Nat),At.atL B w l ad→(hi:i < l.length)→∃ a,ad[i]?=some a∧At B w l[i] a
 | t :: r,ad,0,h,_=>by
  obtain ⟨a,s,rfl,h1,_⟩:=(atL_cons w t r ad).1 h
  exact ⟨a,rfl,h1⟩
 | t :: r,ad,i+1,h,hi=>by
  obtain ⟨a,s,rfl,_,h2⟩:=(atL_cons w t r ad).1 h
  obtain ⟨b,h3,h4⟩:=atL_get i h2 (by simpa using hi)
  exact ⟨b,by simpa using h3,by simpa using h4⟩
theorem atL_snoc {w:World}:∀ {l:List Fd} {ad:List Nat} {t:Fd} {a:Nat},At.atL B w l ad→At B w t a→At.atL B w (l++[t]) (ad++[a])
 | [],ad,t,a,h,ht=>by
  rw [(atL_nil w ad).1 h]
  exact (atL_cons _ _ _ _).2 ⟨a,[],rfl,ht,(atL_nil _ _).2 rfl⟩
 | y :: r,ad,t,a,h,ht=>by
  obtain ⟨b,s,rfl,h1,h2⟩:=(atL_cons w y r ad).1 h
  exact (atL_cons _ _ _ _).2 ⟨b,s++[a],rfl,h1,atL_snoc h2 ht⟩
theorem at_go {B':Nat→Prop} {w w':World} (hB:∀ q,B q→B' q) (hw:∀ q,B q→w'.heap[q]?=w.heap[q]?):∀ (n:Nat) (y:Fd),y.size≤n→∀ {a:Nat},At B w y a→At B' w' y a:=by
 intro n
 induction n with
 | zero=>intro y hy;have:=size_pos y;omega
 | succ n ih =>
  intro y hy a h
  obtain ⟨x,p,b,ks⟩:=y
  rw [size_mk] at hy
  have hs:∀ t∈ks,t.size≤n:=fun t ht=>by have:=size_mem ht;omega
  obtain ⟨sl,ad,h1,h2,h3,h4,h5⟩:=(at_mk _ _ _ _ _ _ _).1 h
  refine (at_mk _ _ _ _ _ _ _).2 ⟨sl,ad,(hw a h2).trans h1,hB a h2,row_ownF h3 (fun _ _=>Nat.zero_le _) (fun q e=>hw q (h4 q e)),fun q e=>hB q (h4 q e),?_⟩
  clear h1 h2 h3 h4 h hy
  induction ks generalizing ad with
  | nil=>exact (atL_nil _ _).2 ((atL_nil _ _).1 h5)
  | cons t r ihr =>
   obtain ⟨c,s,rfl,g1,g2⟩:=(atL_cons _ _ _ _).1 h5
   exact (atL_cons _ _ _ _).2 ⟨c,s,rfl,ih t (hs t (by simp)) g1,ihr (fun y hy=>hs y (by simp [hy])) s g2⟩
theorem At.go {B':Nat→Prop} {w w':World} {y:Fd} {a:Nat} (h:At B w y a) (hB:∀ q,B q→B' q) (hw:∀ q,B q→w'.heap[q]?=w.heap[q]?):At B' w' y a:=at_go hB hw _ y (Nat.le_refl _) h
theorem atL_go {B':Nat→Prop} {w w':World} (hB:∀ q,B q→B' q) (hw:∀ q,B q→w'.heap[q]?=w.heap[q]?):∀ {l:List Fd} {ad:List Nat},At.atL B w l ad→At.atL B' w' l ad
 | [],ad,h=>(atL_nil _ _).2 ((atL_nil _ _).1 h)
 | t :: r,ad,h=>by
  obtain ⟨c,s,rfl,g1,g2⟩:=(atL_cons _ _ _ _).1 h
  exact (atL_cons _ _ _ _).2 ⟨c,s,rfl,g1.go hB hw,atL_go hB hw g2⟩
abbrev Is (w:World) (y:Fd) (a:Nat):Prop:=At (fun q=>q < w.heap.size) w y a
theorem Is.below {w w':World} {y:Fd} {a:Nat} (h:Is w y a) (hb:Below w.heap.size w w'):Is w' y a:=At.go h (fun _ e=>Nat.lt_of_lt_of_le e hb.size) (fun q e=>hb.block q e)
end Fd
def FdPost (w:World) (y:Fd) (e:Ending) (w':World):Prop:=∃ a,e = .returned (pt a)∧Fd.At (fun q=>w.heap.size≤q∧q < w'.heap.size) w' y a∧Below w.heap.size w w'
structure LnB (w0:World) (x:Tr.Nd) (p b:Int) (bo:Nat) (done:List Fd) (sl:Value) (ad:List Nat) (w:World):Prop where
 B:Below w0.heap.size w0 w
 ge:w0.heap.size≤bo
 ln:LnAt w bo x sl p b
 row:w.ownsRow w0.heap.size 39 1 sl done.length (ad.map pt)
 kids:Fd.At.atL (fun q=>w0.heap.size≤q∧q < w.heap.size∧q≠bo∧sl.ownBlock≠some q) w done ad
 ne:sl.ownBlock≠some bo
theorem LnB.new {w0 w:World} {x:Tr.Nd} {p b:Int} (hB:Below w0.heap.size w0 w):LnB w0 x p b w.heap.size [] (.slice none 0 0) [] (w.alloc (lnO x (.slice none 0 0) p b)) :=
 ⟨hB.alloc hB.size _,hB.size,heap_alloc_new' _ _,World.ownsRow_nil _ _ _ _,(Fd.atL_nil _ _).2 rfl,fun e=>by cases e⟩
theorem LnB.below {w0:World} {x:Tr.Nd} {p b:Int} {bo:Nat} {done:List Fd} {sl:Value} {ad:List Nat} {w w':World} (h:LnB w0 x p b bo done sl ad w) (hb:Below w.heap.size w w'):LnB w0 x p b bo done sl ad w' :=
 ⟨h.B.trans (hb.mono h.B.size),h.ge,h.ln.below hb,row_below h.row hb,Fd.atL_go (fun _ e=>⟨e.1,Nat.lt_of_lt_of_le e.2.1 hb.size,e.2.2⟩) (fun q e=>hb.block q e.2.1) h.kids,h.ne⟩
theorem heap_setOther {w:World} {a i q:Nat} {v:Value} (h:q≠a):(w.setCell ⟨a,i,none⟩ v).heap[q]?=w.heap[q]?:=by
 exact Below.heap_setCell w ⟨a,i,none⟩ v q h
theorem LnB.push {w0:World} {x:Tr.Nd} {p b:Int} {bo:Nat} {done:List Fd} {sl:Value} {ad:List Nat} {wr w5 w6:World} (h:LnB w0 x p b bo done sl ad wr) {t:Fd} {a:Nat} {o:Obj} {v6:Value} (hb:Below wr.heap.size wr w5) (ht:Fd.At (fun q=>wr.heap.size≤q∧q < w5.heap.size) w5 t a)
  (hown:w6.ownsRow w0.heap.size 39 1 v6 (done.length+1) (ad.map pt++[pt a])) (hg:(w5.alloc o).grownBy w6 sl.ownBlock) (hat:v6.ownBlock=sl.ownBlock∨v6.ownBlock=some (w5.alloc o).heap.size) :
  LnB w0 x p b bo (done++[t]) v6 (ad++[a]) (w6.setCell ⟨bo,5,none⟩ v6):=by
 have h5:=h.below hb
 have hlt:=h.ln.lt
 have hlt5:bo < w5.heap.size:=h5.ln.lt
 have hz:(w5.alloc o).heap.size=w5.heap.size+1:=World.size_alloc _ _
 have hs6:w5.heap.size+1≤w6.heap.size:=by rw [← hz];exact hg.size
 have hblk:∀ q,q < w5.heap.size→sl.ownBlock≠some q→w6.heap[q]?=w5.heap[q]?:=fun q hq hne=>(hg.block q (by omega) (fun e=>hne e.symm)).trans (((Below.refl w5.heap.size w5).alloc (Nat.le_refl _) o).block q hq)
 have hbo6:LnAt w6 bo x sl p b:=(hblk bo hlt5 h5.ne).trans h5.ln
 have hss:(w6.setCell ⟨bo,5,none⟩ v6).heap.size=w6.heap.size:=World.size_setCell _ _ _
 have hslt:∀ q,sl.ownBlock=some q→w0.heap.size≤q∧q < wr.heap.size:=fun q e=>h.row.lt q e
 have hvne:v6.ownBlock≠some bo:=by
  rcases hat with e | e
  ·rw [e];exact h.ne
  ·rw [e,hz];intro e2;cases e2;omega
 have hB:∀ q,q < w5.heap.size→q≠bo→sl.ownBlock≠some q→w0.heap.size≤q→(w0.heap.size≤q∧q < (w6.setCell ⟨bo,5,none⟩ v6).heap.size∧q≠bo∧v6.ownBlock≠some q):=by
  intro q h1 h2 h3 h4
  refine ⟨h4,by rw [hss];omega,h2,?_⟩
  rcases hat with e | e
  ·rw [e];exact h3
  ·rw [e,hz];intro e2;cases e2;omega
 have hW:∀ q,q < w5.heap.size→q≠bo→sl.ownBlock≠some q→(w6.setCell ⟨bo,5,none⟩ v6).heap[q]?=w5.heap[q]?:=fun q h1 h2 h3=>(heap_setOther h2).trans (hblk q h1 h3)
 refine ⟨?_,h.ge,hbo6.set v6,?_,?_,hvne⟩
 ·exact ((h5.B.alloc h5.B.size o).grown hg (by have:=h5.B.size;omega) (fun q e=>(hslt q e).1)).setCell h.ge v6
 ·rw [List.length_append,List.map_append]
  exact row_ownF hown (fun q e=>(hown.lt q e).1) (fun q e=>heap_setOther (fun e2=>hvne (e2 ▸ e)))
 ·refine Fd.atL_snoc (Fd.atL_go (fun q e=>hB q e.2.1 e.2.2.1 e.2.2.2 e.1) (fun q e=>hW q e.2.1 e.2.2.1 e.2.2.2) h5.kids) (ht.go (fun q e=>hB q e.2 ?_ ?_ ?_) (fun q e=>hW q e.2 ?_ ?_))
  all_goals first | (intro e2;subst e2;omega) | (intro e2;have:=(hslt q e2).2;omega) | (have:=h.B.size;omega)
end Go.Proofs.YthbojbbmpcmoaaaGreatDoor
