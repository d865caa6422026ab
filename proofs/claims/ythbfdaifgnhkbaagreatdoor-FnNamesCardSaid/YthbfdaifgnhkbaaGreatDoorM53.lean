/- Kz, Gi, Gn, Gj, Gk. -/
import Derived.Test.YthbfdaifgnhkbaaGreatDoorM49
import Derived.Test.YthbfdaifgnhkbaaGreatDoorM02
import Derived.Test.YthbfdaifgnhkbaaGreatDoorM30
import Derived.Test.YthbfdaifgnhkbaaGreatDoorM52
import Derived.BigQuiet
import Derived.Test.YthbfdaifgnhkbaaGreatDoorCards
import Derived.Test.YthbfdaifgnhkbaaGreatDoorTie
import Derived.Test.YthbfdaifgnhkbaaGreatDoorM05
import Derived.Test.YthbfdaifgnhkbaaGreatDoorM45
import Derived.Deep.Slices
import Derived.ProofKit
import Derived.LaidMore
import Derived.OpenShut
import Derived.OpenVars
import Derived.Stop.Joined
import Derived.Stop.LaidErr
namespace Go.Proofs.YthbfdaifgnhkbaaGreatDoor
def Tr.KnOk (ns:List Tr.Nd) (kn:List Tr.Kn):Prop:=∀ p∈kn,p.2 < ns.length∧p.1=Xi ns p.2
def Tr.BdOk (ns:List Tr.Nd) (i:Nat) (b:Int):Prop:=b = -1∨(X6 ns i=5∧(b = -2∨∃ a:Nat,b=a∧a < ns.length∧Xi ns a=Xi ns i))
def Tr.StOk (ns:List Tr.Nd) (s:Tr.St):Prop:=s.binds.length=ns.length∧∀ i b,s.binds[i]?=some b→Tr.BdOk ns i b
theorem Tr.kind_lt {ns:List Tr.Nd} {k:Nat} (h:X6 ns k≠0):k < ns.length:=by
 rcases Nat.lt_or_ge k ns.length with h1 | h1
 ·exact h1
 ·exact absurd (by unfold X6;rw [List.getElem?_eq_none h1]) h
theorem Tr.KnOk.snoc {ns:List Tr.Nd} {kn:List Tr.Kn} (h:Tr.KnOk ns kn) {k:Nat} (hk:k < ns.length):Tr.KnOk ns (kn++[(Xi ns k,k)]):=fun p hp=>by
 rcases List.mem_append.mp hp with h1 | h1
 ·exact h p h1
 ·rw [List.mem_singleton.mp h1];exact ⟨hk,rfl⟩
theorem Tr.look_mem {x:ByteArray} {kn:List Tr.Kn} {a:Nat} (h:XX x kn=some a):(x,a)∈kn:=by
 induction kn with
 | nil=>cases h
 | cons p r ih =>
  rw [XX] at h
  cases hr:XX x r with
  | some b=>rw [hr] at h;cases h;exact List.mem_cons_of_mem _ (ih hr)
  | none =>
   rw [hr] at h
   simp only at h
   split at h
   ·rename_i hp;cases h;rw [← hp];exact List.mem_cons_self
   ·cases h
theorem Tr.StOk.fault {ns:List Tr.Nd} {s:Tr.St} (h:Tr.StOk ns s) (k:Nat) (c:Int):Tr.StOk ns (Xd k c s):=by
 unfold Xd
 split
 ·exact h
 ·exact h
theorem Tr.StOk.set {ns:List Tr.Nd} {s:Tr.St} (h:Tr.StOk ns s) (k:Nat) (b:Int) (hb:Tr.BdOk ns k b):Tr.StOk ns {s with binds:=s.binds.set k b}:=by
 refine ⟨by simpa using h.1,fun i x hx=>?_⟩
 simp only [List.getElem?_set] at hx
 split at hx
 ·rename_i hk
  subst hk
  split at hx
  ·cases hx;exact hb
  ·cases hx
 ·exact h.2 i x hx
theorem Tr.StOk.use {ns:List Tr.Nd} {s:Tr.St} (h:Tr.StOk ns s) {k:Nat} {kn:List Tr.Kn} (hk:Tr.KnOk ns kn) (h5:X6 ns k=5):Tr.StOk ns (ZD ns k kn s):=by
 unfold ZD
 cases hl:XX (Xi ns k) kn with
 | some a =>
  obtain ⟨h1,h2⟩:=hk _ (Tr.look_mem hl)
  exact h.set k a (.inr ⟨h5,.inr ⟨a,rfl,h1,h2.symm⟩⟩)
 | none =>
  simp only
  split
  ·exact h.set k (-2) (.inr ⟨h5,.inl rfl⟩)
  ·exact h.fault _ _
theorem Tr.StOk.fold {α:Type} {ns:List Tr.Nd} (f:Tr.St→α→Tr.St) (hf:∀ s x,Tr.StOk ns s→Tr.StOk ns (f s x)):∀ (l:List α) (s:Tr.St),Tr.StOk ns s→Tr.StOk ns (l.foldl f s)
 | [],_,h=>h
 | x :: r,s,h=>Tr.StOk.fold f hf r (f s x) (hf s x h)
theorem Tr.StOk.dup {ns:List Tr.Nd} {s:Tr.St} (h:Tr.StOk ns s) (p:Nat) (seen:List Nat):Tr.StOk ns (Yk ns p seen s) :=
 Tr.StOk.fold _ (fun s x hs=>by
  show Tr.StOk ns (if _ then _ else _)
  split
  ·exact hs.fault _ _
  ·exact hs) seen s h
section
variable {ns:List Tr.Nd} {ks:List (List Nat)} {G:Nat→List Tr.Kn→Tr.St→Tr.St}
theorem Tr.StOk.par (hG:∀ k kn s,Tr.KnOk ns kn→Tr.StOk ns s→Tr.StOk ns (G k kn s)) {s:Tr.St} (h:Tr.StOk ns s) (p:Nat) (seen:List Nat) {kn:List Tr.Kn} (hk:Tr.KnOk ns kn) (df:Bool):Tr.StOk ns (Z8 G ns ks p seen kn df s):=by
 unfold Z8
 split
 ·split
  ·exact (h.dup p seen).fault _ _
  ·exact h.dup p seen
 ·exact hG _ _ _ hk (h.dup p seen)
theorem Tr.StOk.fn (hG:∀ k kn s,Tr.KnOk ns kn→Tr.StOk ns s→Tr.StOk ns (G k kn s)):∀ (l seen:List Nat) (kn:List Tr.Kn) (df:Bool) (s:Tr.St),(∀ x∈l,x < ns.length)→Tr.KnOk ns kn→Tr.StOk ns s→Tr.StOk ns (YV G ns ks l seen kn df s)
 | [],_,_,_,_,_,_,h=>by rw [YV];exact h
 | [x],_,_,_,_,_,hk,h=>by rw [YV];exact hG _ _ _ hk h
 | p :: q :: r,seen,kn,df,s,hl,hk,h=>by
  rw [YV]
  exact Tr.StOk.fn hG (q :: r) _ _ _ _ (fun x hx=>hl x (List.mem_cons_of_mem _ hx)) (hk.snoc (hl p List.mem_cons_self)) (Tr.StOk.par hG h p seen hk df)
theorem Tr.StOk.let_ (hG:∀ k kn s,Tr.KnOk ns kn→Tr.StOk ns s→Tr.StOk ns (G k kn s)) {kn more:List Tr.Kn} (hk:Tr.KnOk ns kn) (hm:Tr.KnOk ns more) {s:Tr.St} (h:Tr.StOk ns s) (l:List Nat):Tr.StOk ns (QD G kn more s l):=by
 unfold QD
 split
 ·exact h
 ·exact Tr.StOk.fold _ (fun s y hs=>hG y more s hm hs) _ _ (hG _ _ _ hk h)
end
theorem Tr.StOk.go {ns:List Tr.Nd} {ks:List (List Nat)} (hks:∀ k,∀ x∈X8 ks k,x < ns.length):∀ (f k:Nat) (kn:List Tr.Kn) (s:Tr.St),Tr.KnOk ns kn→Tr.StOk ns s→Tr.StOk ns (XK ns ks f k kn s)
 | 0,_,_,_,_,h=>by rw [XK];exact h
 | f+1,k,kn,s,hk,h=>by
  rw [XK]
  split
  ·rename_i h5;exact h.use hk h5
  ·split
   ·exact h
   ·split
    ·exact Tr.StOk.fn (fun k kn s a b=>Tr.StOk.go hks f k kn s a b) _ _ _ _ _ (hks k) hk h
    ·split
     ·rename_i h14
      exact Tr.StOk.let_ (fun k kn s a b=>Tr.StOk.go hks f k kn s a b) hk (hk.snoc (Tr.kind_lt (by rcases h14 with e | e <;> rw [e] <;> decide))) h _
     ·exact Tr.StOk.fold _ (fun s y hs=>Tr.StOk.go hks f y kn s hk hs) _ _ h
theorem Tr.StOk.mk {ns:List Tr.Nd}:∀ (l:List Nat) (kn:List Tr.Kn) (s:Tr.St),(∀ x∈l,x < ns.length)→Tr.KnOk ns kn→Tr.StOk ns s→Tr.KnOk ns (Zy ns l kn s).1∧Tr.StOk ns (Zy ns l kn s).2
 | [],_,_,_,hk,h=>by rw [Zy];exact ⟨hk,h⟩
 | x :: r,kn,s,hl,hk,h=>by
  rw [Zy]
  refine Tr.StOk.mk r _ _ (fun y hy=>hl y (List.mem_cons_of_mem _ hy)) (hk.snoc (hl x List.mem_cons_self)) ?_
  exact Tr.StOk.fold _ (fun s p hs=>by
   show Tr.StOk ns (if _ then _ else _)
   split
   ·exact hs.fault _ _
   ·exact hs) kn s h
theorem Tr.StOk.start (ns:List Tr.Nd):Tr.StOk ns (Z3 ns.length):=by
 refine ⟨by simp [Z3],fun i b hb=>?_⟩
 simp only [Z3,List.getElem?_replicate] at hb
 split at hb
 ·cases hb;exact .inl rfl
 ·cases hb
theorem Tr.StOk.look {ns:List Tr.Nd} {ks:List (List Nat)} (hks:∀ k (h:k < ks.length),∀ x∈ks[k],x < ns.length):Tr.StOk ns (Zb ns ks):=by
 have hk:∀ k,∀ x∈X8 ks k,x < ns.length:=by
  intro k x hx
  unfold X8 at hx
  rcases Nat.lt_or_ge k ks.length with h | h
  ·rw [List.getElem?_eq_getElem h] at hx;exact hks k h x hx
  ·rw [List.getElem?_eq_none h] at hx;cases hx
 unfold Zb
 obtain ⟨h1,h2⟩:=Tr.StOk.mk (Xs ns ks (X8 ks (ns.length - 1))) [] _ (Tr.makes_lt ns ks _ hks) (fun _ h=>by cases h) (Tr.StOk.start ns)
 exact Tr.StOk.go hk _ _ _ _ h1 h2
theorem Qo:∀ (l:List Int) (i:Nat),(XJ l i).1=0→XJ l i=(0,0)
 | [],_,_=>rfl
 | c :: r,i,h=>by
  rw [XJ] at h ⊢
  split at h
  ·rename_i hc;rw [if_pos hc];exact Qo r (i+1) h
  ·rename_i hc;exact absurd h hc
theorem Tr.fits_iff (ns:List Tr.Nd):XV ns=true↔Xn ns=(0,0):=by
 unfold XV
 constructor
 ·intro h
  have h0:(Xn ns).1=0:=by simpa using h
  unfold Xn at h0 ⊢
  split at h0
  ·rename_i hv;rw [if_pos hv];exact Qo _ _ h0
  ·cases h0
 ·intro h;rw [h];rfl
theorem Tr.binds_ok (ns:List Tr.Nd):(∀ i b,(XC ns)[i]?=some b→Tr.BdOk ns i b)∧(XV ns=true→(XC ns).length=ns.length∧0 < ns.length)∧(XV ns=false→XC ns=[]):=by
 unfold XC
 cases hf:XV ns
 ·exact ⟨fun i b h=>by simp at h,(fun h=>by cases h),fun _=>rfl⟩
 ·have hv:=KH hf
  have hv2:=hv
  unfold XR at hv2
  simp only [Bool.and_eq_true] at hv2
  have hin:=YR hv2.1.1.1
  have hkl:=Zv hv2.1.2
  have hs:=Tr.StOk.look (ns:=ns) (ks:=Xk ns) (fun k hk x hx=>by have:=Kq ns k hk x hx;omega)
  refine ⟨fun i b h=>hs.2 i b (by simpa using h),fun _=>⟨by simpa using hs.1,by omega⟩,(fun h=>by cases h)⟩
end Go.Proofs.YthbfdaifgnhkbaaGreatDoor
namespace Go.Proofs.YthbfdaifgnhkbaaGreatDoor
open Go.RowKit
theorem Tr.valid_none:XR []=false:=by rfl
theorem KI:Xn []=(11,0):=by unfold Xn;rw [Tr.valid_none];rfl
theorem Tr.fits_none:XV []=false:=by unfold XV;rw [KI];rfl
theorem QO:XC []=[]:=by unfold XC;rw [Tr.fits_none];rfl
set_option maxRecDepth 100000 in
set_option maxHeartbeats 1000000 in
theorem valid_nil (w:World):Calls Tryz.prog 14 #[.agg #[.slice none 0 0]] w fun e w'=>e = .returned (.bool false)∧Below w.heap.size w w':=by
 have r1:Below w.heap.size w (w.alloc (.cells #[.slice none 0 0] 25)):=bA _
 have hin:Xj 0 1 5000=false:=by decide
 go_enter Tryz.func14,Tryz.ntmps14
 go_wp2_with (go_at_call 29;refine (Yx _ _ _ _).mono ?_;rintro e w' ⟨rfl,rfl⟩)
 go_ret
 exact ⟨rfl,r1⟩
set_option maxRecDepth 100000 in
set_option maxHeartbeats 1000000 in
theorem ivalid_nil (w:World):Calls Tryz.prog 11 #[.agg #[.slice none 0 0]] w fun e w'=>e = .returned (.bool false)∧Below w.heap.size w w':=by
 have r1:Below w.heap.size w (w.alloc (.cells #[.slice none 0 0] 25)):=bA _
 go_enter Tryz.func11,Tryz.ntmps11
 go_wp2_with fail
 refine (wordSet_any _).mono ?_
 rintro e w1 ⟨rfl,hmap,hb1⟩
 have HB1:Hid (Below w.heap.size w w1):=X1 (r1.trans (hb1.mono (by simp)))
 have hbox:w1.cell? ⟨w.heap.size,0,none⟩=some (.slice none 0 0):=(hb1.cell (p:=⟨w.heap.size,0,none⟩) (by simp)).trans (by simp)
 clear hmap hb1
 rw [World.size_alloc] at *
 go_wp2
 go_loopw [4,17] (fun v4 t wr=>v4 = .slice none 0 0∧t = .int .i64 0∧Below w1.heap.size w1 wr) (fun _ _ _=>0)
 case atStart=>exact ⟨rfl,rfl,Below.refl _ _⟩
 case round =>
  obtain ⟨rfl,rfl,hB⟩:=hrel
  go_wp2
  go_ret
  exact ⟨rfl,HB1.out.trans (hB.mono HB1.out.size)⟩
set_option maxRecDepth 100000 in
set_option maxHeartbeats 1000000 in
theorem check_nil (w:World):Calls Tryz.prog 6 #[.agg #[.slice none 0 0]] w fun e w'=>e = .returned (.agg #[.int .i64 11,.int .i64 0])∧Below w.heap.size w w':=by
 have r2:Below w.heap.size w ((w.alloc (.cells #[.slice none 0 0] 25)).alloc (.cells #[.int .i64 0,.int .i64 0] 28)):=(bA _).alloc (by simp) _
 have HV:=X1 (valid_nil ((w.alloc (.cells #[.slice none 0 0] 25)).alloc (.cells #[.int .i64 0,.int .i64 0] 28)))
 go_enter Tryz.func6,Tryz.ntmps6
 go_wp2_with fail
 refine HV.out.mono ?_
 rintro e w1 ⟨rfl,hb1⟩
 rw [World.size_alloc,World.size_alloc] at hb1
 obtain ⟨b0,b1,b2,b3,b4⟩:=boxes hb1
 have hB1:=r2.trans (hb1.mono (by omega))
 clear hb1
 go_wp2
 refine bodyPost_ret (v:= .agg #[.int .i64 11,.int .i64 0]) (by simp [results,Tryz.results6,go_sem,b1,b2]) rfl ⟨rfl,?_⟩
 exact (hB1.setCell (p:=⟨w.heap.size+1,0,none⟩) (by simp) _).setCell (p:=⟨w.heap.size+1,1,none⟩) (by simp) _
set_option maxRecDepth 100000 in
set_option maxHeartbeats 1000000 in
theorem icheck_nil (w:World):Calls Tryz.prog 5 #[.agg #[.slice none 0 0]] w fun e w'=>e = .returned (.agg #[.int .i64 11,.int .i64 0])∧Below w.heap.size w w':=by
 have r2:Below w.heap.size w ((w.alloc (.cells #[.slice none 0 0] 25)).alloc (.cells #[.int .i64 0,.int .i64 0] 28)):=(bA _).alloc (by simp) _
 have HV:=X1 (ivalid_nil ((w.alloc (.cells #[.slice none 0 0] 25)).alloc (.cells #[.int .i64 0,.int .i64 0] 28)))
 go_enter Tryz.func5,Tryz.ntmps5
 go_wp2_with fail
 refine HV.out.mono ?_
 rintro e w1 ⟨rfl,hb1⟩
 rw [World.size_alloc,World.size_alloc] at hb1
 obtain ⟨b0,b1,b2,b3,b4⟩:=boxes hb1
 have hB1:=r2.trans (hb1.mono (by omega))
 clear hb1
 go_wp2
 refine bodyPost_ret (v:= .agg #[.int .i64 11,.int .i64 0]) (by simp [results,Tryz.results5,go_sem,b1,b2]) rfl ⟨rfl,?_⟩
 exact (hB1.setCell (p:=⟨w.heap.size+1,0,none⟩) (by simp) _).setCell (p:=⟨w.heap.size+1,1,none⟩) (by simp) _
set_option maxRecDepth 100000 in
set_option maxHeartbeats 1000000 in
theorem fits_nil (w:World):Calls Tryz.prog 16 #[.agg #[.slice none 0 0]] w fun e w'=>e = .returned (.bool false)∧Below w.heap.size w w':=by
 have r1:Below w.heap.size w (w.alloc (.cells #[.slice none 0 0] 25)):=bA _
 have HC:=X1 (check_nil (w.alloc (.cells #[.slice none 0 0] 25)))
 have hfc:=field_code 11 0
 go_enter Tryz.func16,Tryz.ntmps16
 go_wp2_with fail
 refine HC.out.mono ?_
 rintro e w1 ⟨rfl,hb1⟩
 go_wp2
 go_ret
 exact ⟨rfl,r1.trans (hb1.mono (by simp))⟩
set_option maxRecDepth 100000 in
set_option maxHeartbeats 1000000 in
theorem binds_nil (w:World):Calls Tryz.prog 8 #[.agg #[.slice none 0 0]] w fun e w'=>∃ v,e = .returned v∧w'.ownsRow 0 3 1 v 0 []∧Below w.heap.size w w':=by
 have r1:Below w.heap.size w (w.alloc (.cells #[.slice none 0 0] 25)):=bA _
 have HFT:=X1 (fits_nil (w.alloc (.cells #[.slice none 0 0] 25)))
 go_enter Tryz.func8,Tryz.ntmps8
 go_wp2_with fail
 refine HFT.out.mono ?_
 rintro e w1 ⟨rfl,hb1⟩
 have hB1:=r1.trans (hb1.mono (by simp))
 go_wp2
 go_ret
 exact ⟨_,rfl,World.ownsRow_lit (base:=0) (e:=3) (size:=1) w1 #[] 0 (Nat.zero_le _) (Nat.zero_le _) rfl,hB1.alloc hB1.size _⟩
set_option maxRecDepth 100000 in
set_option maxHeartbeats 1000000 in
theorem ibinds_nil (w:World):Calls Tryz.prog 7 #[.agg #[.slice none 0 0]] w fun e w'=>∃ v,e = .returned v∧w'.ownsRow 0 3 1 v 0 []∧Below w.heap.size w w':=by
 have r1:Below w.heap.size w (w.alloc (.cells #[.slice none 0 0] 25)):=bA _
 have HFT:=X1 (ivalid_nil (w.alloc (.cells #[.slice none 0 0] 25)))
 go_enter Tryz.func7,Tryz.ntmps7
 go_wp2_with fail
 refine HFT.out.mono ?_
 rintro e w1 ⟨rfl,hb1⟩
 have hB1:=r1.trans (hb1.mono (by simp))
 go_wp2
 go_ret
 exact ⟨_,rfl,World.ownsRow_nil _ _ _ _,hB1⟩
def BindsPost (w:World) (b:List Int) (e:Ending) (w':World):Prop:=∃ v,e = .returned v∧w'.ownsRow 0 3 1 v b.length (b.map vi)∧Below w.heap.size w w'
theorem NR.cases {w:World} {v:Value} {l:List Tr.Nd} (h:NR w v l):(v = .slice none 0 0∧l=[])∨∃ g c,v = .slice (some ⟨g,0,none⟩) l.length c∧NodesAt w g l:=by
 have h1:=h.1
 rcases h1.2 with ⟨hv,h0⟩ | ⟨g,c,cur,hv,_⟩
 ·exact .inl ⟨hv,List.length_eq_zero_iff.1 h0⟩
 ·subst hv;exact .inr ⟨g,c,rfl,Qg h1⟩
theorem sh_big {l:List Tr.Nd} (h:Sh l):∀ x∈l,x.text.size≤1048576:=fun x hx=>Nat.le_trans (h x hx) (by omega)
theorem checkV (v:Value) (l:List Tr.Nd) (w:World) (h:NR w v l) (hl:l.length≤1048576):Calls Tryz.prog 6 #[.agg #[v]] w fun e w'=>e = .returned (.agg #[.int .i64 (Xn l).1,.int .i64 (Xn l).2])∧Below w.heap.size w w':=by
 rcases h.cases with ⟨rfl,rfl⟩ | ⟨g,c,rfl,hn⟩
 ·rw [KI];exact check_nil w
 ·exact check_any l g c w hl hn
theorem icheckV (v:Value) (l:List Tr.Nd) (w:World) (h:NR w v l) (hl:l.length≤1048576) (hG:GlobB w):Calls Tryz.prog 5 #[.agg #[v]] w fun e w'=>e = .returned (.agg #[.int .i64 (Xn l).1,.int .i64 (Xn l).2])∧Below w.heap.size w w':=by
 have hs:=sh_big h.2
 rcases h.cases with ⟨rfl,rfl⟩ | ⟨g,c,rfl,hn⟩
 ·rw [KI];exact icheck_nil w
 ·exact icheck_any l g c w hl hs hG hn
theorem bindsV (v:Value) (l:List Tr.Nd) (w:World) (h:NR w v l) (hl:l.length≤1048576):Calls Tryz.prog 8 #[.agg #[v]] w fun e w'=>BindsPost w (XC l) e w':=by
 rcases h.cases with ⟨rfl,rfl⟩ | ⟨g,c,rfl,hn⟩
 ·rw [QO];exact binds_nil w
 ·refine (binds_any l g c w hl hn).mono ?_
  rintro e w' ⟨g',rfl,_,hr,hb⟩
  exact ⟨_,rfl,hr,hb⟩
theorem ibindsV (v:Value) (l:List Tr.Nd) (w:World) (h:NR w v l) (hl:l.length≤1048576) (hG:GlobB w):Calls Tryz.prog 7 #[.agg #[v]] w fun e w'=>BindsPost w (XC l) e w':=by
 have hs:=sh_big h.2
 rcases h.cases with ⟨rfl,rfl⟩ | ⟨g,c,rfl,hn⟩
 ·rw [QO];exact ibinds_nil w
 ·refine (ibinds_any l g c w hl hs hG hn).mono ?_
  rintro e w' ⟨hb,⟨hf,rfl⟩ | ⟨hf,hbl,g',rfl,_,hr⟩⟩
  ·refine ⟨_,rfl,?_,hb⟩
   rw [show XC l=[] by unfold XC;rw [hf];rfl]
   exact World.ownsRow_nil _ _ _ _
  ·exact ⟨_,rfl,hr,hb⟩
theorem Tr.kind_at {l:List Tr.Nd} {i:Nat} (h:i < l.length):X6 l i=l[i].kind:=by unfold X6;rw [List.getElem?_eq_getElem h]
theorem Tr.text_at {l:List Tr.Nd} {i:Nat} (h:i < l.length):Xi l i=l[i].text:=by unfold Xi;rw [List.getElem?_eq_getElem h];rfl
def DrawnPost (w:World) (e:Ending) (w':World):Prop:=∃ v l,e = .returned (.agg #[v])∧NR w' v l∧l.length≤300000∧Below w.heap.size w w'
set_option maxRecDepth 100000 in
set_option maxHeartbeats 1000000 in
theorem wFits_any (p:Option Addr) (n c:Nat) (l:List Tr.Nd) (w:World) (h:NR w (.slice p n c) l) (hl:l.length≤1048576):Calls Tryz.prog 9 #[.agg #[.slice p n c]] w fun e w'=>e = .returned (.bool (XV l))∧Below w.heap.size w w':=by
 have r1:Below w.heap.size w (w.alloc (.cells #[.slice p n c] 25)):=bA _
 have HC:=X1 (checkV (.slice p n c) l (w.alloc (.cells #[.slice p n c] 25)) ⟨Yq h.1 r1,h.2⟩ hl)
 have HF:=X1 (Tr.fits_iff l)
 clear h
 generalize XV l=b at *
 obtain ⟨x,y,hco⟩:∃ x y,Xn l=(x,y):=⟨_,_,rfl⟩
 rw [hco] at HC HF
 simp only at HC
 clear hco
 by_cases hx:x=0
 ·subst hx
  by_cases hy:y=0
  ·subst hy
   have hb:b=true:=HF.out.2 rfl
   subst hb
   go_enter Tryz.func9,Tryz.ntmps9
   go_wp2_with fail
   refine HC.out.mono ?_
   rintro e w1 ⟨rfl,hb1⟩
   go_wp2
   go_ret
   exact ⟨rfl,r1.trans (hb1.mono (by simp))⟩
  ·have hb:b=false:=by cases b with
    | false=>rfl
    | true=>exact absurd (congrArg Prod.snd (HF.out.1 rfl)) hy
   subst hb
   have hy1:((y:Int) == 0)=false:=by simpa using hy
   have hy2:¬ (y:Int)=0:=by omega
   go_enter Tryz.func9,Tryz.ntmps9
   go_wp2_with fail
   refine HC.out.mono ?_
   rintro e w1 ⟨rfl,hb1⟩
   go_wp2
   go_ret
   exact ⟨by first | rfl | simp [hy1,hy],r1.trans (hb1.mono (by simp))⟩
 ·have hb:b=false:=by cases b with
   | false=>rfl
   | true=>exact absurd (congrArg Prod.fst (HF.out.1 rfl)) hx
  subst hb
  have hx1:(x == 0)=false:=by simpa using hx
  go_enter Tryz.func9,Tryz.ntmps9
  go_wp2_with fail
  refine HC.out.mono ?_
  rintro e w1 ⟨rfl,hb1⟩
  go_wp2
  go_ret
  exact ⟨by first | rfl | simp [hx1,hx],r1.trans (hb1.mono (by simp))⟩
theorem binds_form {w:World} {v:Value} {b:List Int} (h:w.ownsRow 0 3 1 v b.length (b.map vi)) (h0:0 < b.length):∃ g c,v = .slice (some ⟨g,0,none⟩) b.length c∧g < w.heap.size∧∀ i (hi:i < b.length),w.cell? ⟨g,i,none⟩=some (.int .i64 b[i]):=by
 rcases h.2 with ⟨_,h1⟩ | ⟨g,c,cur,hv,_⟩
 ·omega
 ·subst hv
  refine ⟨g,c,rfl,(h.lt g rfl).2,fun i hi=>?_⟩
  exact Zp h (by rw [List.getElem?_map,List.getElem?_eq_getElem hi];rfl)
structure LN (w0:World) (b:Nat) (p:Option Addr) (c:Nat) (l:List Tr.Nd) (w:World):Prop where
 B:Below w0.heap.size w0 w
 c0:w.cell? ⟨b,0,none⟩=some (.slice p l.length c)
 nr:NR w (.slice p l.length c) l
 hb:b < w.heap.size
theorem LN.below {w0:World} {b:Nat} {p:Option Addr} {c:Nat} {l:List Tr.Nd} {w w':World} (h:LN w0 b p c l w) (hb:Below w.heap.size w w'):LN w0 b p c l w' :=
 ⟨h.B.trans (hb.mono h.B.size),(hb.cell (p:=⟨b,0,none⟩) h.hb).trans h.c0,⟨Yq h.nr.1 hb,h.nr.2⟩,Nat.lt_of_lt_of_le h.hb hb.size⟩
set_option maxRecDepth 100000 in
set_option maxHeartbeats 8000000 in
theorem lawN_any (HD:∀ m v w,ByV w v m→Calls Tryz.prog 4 #[v] w fun e w'=>DrawnPost w e w') (m:Nat) (v:Value) (w:World) (h:ByV w v m) (hG:GlobB w):Calls Tryz.prog 3 #[v] w fun e w'=>e = .returned (.bool true)∧Below w.heap.size w w':=by
 have HDD:=X1 (HD m v w h)
 have HG:=X1 hG
 obtain ⟨vp,vl,vc,hv⟩:∃ p l c,v = .slice p l c:=by
  rcases h with ⟨q,c,h,_⟩ | ⟨g,o,c,h,_⟩
  ·exact ⟨_,_,_,h⟩
  ·exact ⟨_,_,_,h⟩
 subst hv
 clear h hG HD
 by_cases hbig:(1048576:Int) < (vl:Int)
 ·go_enter Tryz.func3,Tryz.ntmps3
  go_wp2
  go_ret
  exact ⟨rfl,Below.refl _ _⟩
 ·go_enter Tryz.func3,Tryz.ntmps3
  go_wp2_with fail
  refine HDD.out.mono ?_
  rintro e w1 ⟨v1,l,rfl,hn1,hl1,hb1⟩
  obtain ⟨p,c,hv1⟩:=Xc hn1.1
  subst hv1
  have q1:Below w1.heap.size w1 (w1.alloc (.cells #[.slice p l.length c] 25)):=bA _
  have HL:Hid (LN w w1.heap.size p c l (w1.alloc (.cells #[.slice p l.length c] 25))):=X1 ⟨hb1.trans (q1.mono hb1.size),by simp,⟨Yq hn1.1 q1,hn1.2⟩,by simp⟩
  have hlm:l.length≤1048576:=by omega
  clear hn1 hb1 q1 HDD
  go_upto_region 4 with fail
  generalize hw2:w1.alloc (.cells #[.slice p l.length c] 25)=w2 at *
  generalize w1.heap.size=bx at *
  clear hw2
  obtain ⟨x,y,hco⟩:∃ x y,Xn l=(x,y):=⟨_,_,rfl⟩
  have HI:Hid (∀ w',Below w2.heap.size w2 w'→Calls Tryz.prog 5 #[.agg #[.slice p l.length c]] w' fun e w''=>e = .returned (.agg #[.int .i64 x,.int .i64 (y:Int)])∧Below w'.heap.size w' w''):=X1 fun w' hb=>by
   have:=icheckV _ l w' (HL.out.below hb).nr hlm (HG.out.below (HL.out.below hb).B)
   rw [hco] at this;exact this
  have HS:Hid (∀ w',Below w2.heap.size w2 w'→Calls Tryz.prog 6 #[.agg #[.slice p l.length c]] w' fun e w''=>e = .returned (.agg #[.int .i64 x,.int .i64 (y:Int)])∧Below w'.heap.size w' w''):=X1 fun w' hb=>by
   have:=checkV _ l w' (HL.out.below hb).nr hlm
   rw [hco] at this;exact this
  clear hco
  haveI hne:Nonempty (KB w2):=⟨⟨_,Below.refl _ _⟩⟩
  have d0:∀ q:KB w2,q.w.cell? ⟨bx,0,none⟩=some (.slice p l.length c):=fun q=>(HL.out.below q.below).c0
  have HI2:=X1 (fun q:KB w2=>ZR HI.out q)
  have HS2:=X1 (fun q:KB w2=>ZR HS.out q)
  refine XQ (KB.w (w:=w2)) (by kernel_rfl) (by kernel_rfl) ⟨⟨_,below_drewN (Below.refl _ _) _⟩,rfl⟩ ?_
  repeat (go_big_quiet_step (first
   | (go_at_call 5;exact HI2.out _)
   | (go_at_call 6;exact HS2.out _)))
  refine wpQuiet_nil ?_
  rintro _ ⟨q,rfl⟩
  have HL3:=X1 (HL.out.below q.below)
  generalize q.w=w3 at *
  clear d0 HI HS HI2 HS2 hne HL
  have o3:=HL3.out.c0
  have HBI:=X1 (ibindsV _ l w3 HL3.out.nr hlm (HG.out.below HL3.out.B))
  go_wp2_with fail
  refine HBI.out.mono ?_
  rintro e w4 ⟨vb,rfl,hrb,hb4⟩
  have HL4:=X1 (HL3.out.below hb4)
  obtain ⟨pb,cb,hvb⟩:=Xc hrb
  subst hvb
  have HRB:=X1 hrb
  have o4:=HL4.out.c0
  have HBS:=X1 (bindsV _ l w4 HL4.out.nr hlm)
  clear hrb hb4 o3 HL3 HBI
  go_wp2_with fail
  refine HBS.out.mono ?_
  rintro e w5 ⟨vw,rfl,hrw,hb5⟩
  have HL5:=X1 (HL4.out.below hb5)
  have HRB5:=X1 (Yq HRB.out hb5)
  obtain ⟨pw,cw,hvw⟩:=Xc hrw
  subst hvw
  have HRW:=X1 hrw
  have o5:=HL5.out.c0
  clear hrw hb5 o4 HL4 HRB HBS
  obtain ⟨HOK,HT,HF⟩:=Tr.binds_ok l
  have HOK:=X1 HOK
  have HWF:=X1 (fun w' (hb:Below w5.heap.size w5 w')=>wFits_any p l.length c l w' (HL5.out.below hb).nr hlm)
  obtain ⟨bs,hbs⟩:∃ bs,bs=XC l:=⟨_,rfl⟩
  rw [← hbs] at HOK HT HF HRB5 HRW
  rw [← hbs]
  clear hbs
  cases hf:XV l
  ·have hb0:=HF hf
   subst hb0
   rw [hf] at HWF
   simp only [List.length_nil]
   clear HT HF hf HOK
   go_wp2_with fail
   go_loopw [6] (fun t wr=>t = .int .i64 0∧Below w5.heap.size w5 wr) (fun _ _=>0)
   case atStart=>exact ⟨rfl,Below.refl _ _⟩
   case round =>
    obtain ⟨rfl,hB⟩:=hrel
    have o6:=(HL5.out.below hB).c0
    have HB:=X1 (HL5.out.below hB).B
    have HW2:=X1 (HWF.out _ hB)
    go_wp2_with fail
    refine HW2.out.mono ?_
    rintro e w7 ⟨rfl,hb7⟩
    go_wp2
    go_ret
    exact ⟨rfl,HB.out.trans (hb7.mono HB.out.size)⟩
  ·obtain ⟨hbl,hl0⟩:=HT hf
   rw [hf] at HWF
   obtain ⟨gb,cb',hvb,hgb,hcb⟩:=binds_form HRB5.out (by omega)
   obtain ⟨gw,cw',hvw,hgw,hcw⟩:=binds_form HRW.out (by omega)
   cases hvb
   cases hvw
   obtain ⟨gt,ct,hvt,hnt⟩:∃ g c',Value.slice p l.length c = .slice (some ⟨g,0,none⟩) l.length c'∧NodesAt w5 g l:=by
    rcases HL5.out.nr.cases with ⟨_,h0⟩ | h1
    ·rw [h0] at hl0;cases hl0
    ·exact h1
   cases hvt
   have HCB:=X1 hcb
   have HCW:=X1 hcw
   have HNT:=X1 hnt
   have HLE:=X1 hbl
   have hbn:bs.length=l.length:=hbl
   rw [hbn]
   clear HT HF hf hbl hbn hcb hcw hnt HRB5 HRW
   have hlp:(0:Int) < (l.length:Int):=by omega
   go_wp2_with fail
   go_loopw [6] (fun t wr=>∃ i:Nat,i≤l.length∧t = .int .i64 (i:Int)∧Below w5.heap.size w5 wr) (fun t _=>l.length - (intOf t).toNat)
   case atStart=>exact ⟨0,Nat.zero_le _,rfl,Below.refl _ _⟩
   case round =>
    obtain ⟨i,hi,rfl,hB⟩:=hrel
    have HB:=X1 hB
    clear hB
    by_cases hlt:i < l.length
    ·have hlti:(i:Int) < (l.length:Int):=by omega
     have hib:i < bs.length:=by rw [HLE.out];exact hlt
     have hok:=HOK.out i bs[i] (List.getElem?_eq_getElem hib)
     have fb:∀ q:KB wr,q.w.cell? ⟨gb,i,none⟩=some (.int .i64 bs[i]):=fun q=>((HB.out.trans (q.below.mono HB.out.size)).cell (p:=⟨gb,i,none⟩) hgb).trans (HCB.out i hib)
     have fw:∀ q:KB wr,q.w.cell? ⟨gw,i,none⟩=some (.int .i64 bs[i]):=fun q=>((HB.out.trans (q.below.mono HB.out.size)).cell (p:=⟨gw,i,none⟩) hgw).trans (HCW.out i hib)
     have d0:∀ q:KB wr,q.w.cell? ⟨bx,0,none⟩=some (.slice (some ⟨gt,0,none⟩) l.length c):=fun q=>(HL5.out.below (HB.out.trans (q.below.mono HB.out.size))).c0
     have fk:∀ q:KB wr,q.w.cell? ⟨gt,i*5,none⟩=some (.int .i64 l[i].kind):=fun q=>((HNT.out.below (HB.out.trans (q.below.mono HB.out.size))).2 i hlt).1
     have ft:∀ q:KB wr,q.w.cell? ⟨gt,i*5+3,none⟩=some (.string l[i].text):=fun q=>((HNT.out.below (HB.out.trans (q.below.mono HB.out.size))).2 i hlt).2.2.2.1
     have FA:Hid (∀ (a:Nat) (ha:a < l.length) (q:KB wr),q.w.cell? ⟨gt,a*5+3,none⟩=some (.string l[a].text)):=X1 fun a ha q=>((HNT.out.below (HB.out.trans (q.below.mono HB.out.size))).2 a ha).2.2.2.1
     haveI hne:Nonempty (KB wr):=⟨⟨_,Below.refl _ _⟩⟩
     have HTX:=X1 (fun (a:Nat) (ha:a < l.length) (h:Xi l a=Xi l i)=>(Tr.text_at ha).symm.trans (h.trans (Tr.text_at hlt)))
     unfold Tr.BdOk at hok
     rw [Tr.kind_at hlt] at hok
     generalize bs[i]=z at fb fw hok
     generalize l[i].kind=kd at fk hok
     generalize l[i].text=tx at ft HTX
     rcases hok with rfl | ⟨rfl,rfl | ⟨a,rfl,ha,hat⟩⟩
     ·by_cases hk5:kd=5
      ·subst hk5
       have z1:decide ((-1:Int) < -2)=false:=by decide
       have z2:decide ((l.length:Int)≤(-1:Int))=false:=decide_eq_false (by omega)
       have z3:decide ((0:Int)≤(-1:Int))=false:=by decide
       go_wp2_with fail
       refine XQ (KB.w (w:=wr)) (by kernel_rfl) (by kernel_rfl) ⟨⟨_,below_drewN (Below.refl _ _) _⟩,rfl⟩ ?_
       repeat (go_big_quiet_step (fail))
       refine wpQuiet_nil ?_
       rintro _ ⟨q,rfl⟩
       go_wp2_with fail
       refine XQ (KB.w (w:=wr)) (by kernel_rfl) (by kernel_rfl) ⟨⟨_,below_drewN q.below _⟩,rfl⟩ ?_
       repeat (go_big_quiet_step (fail))
       refine wpQuiet_nil ?_
       rintro _ ⟨q2,rfl⟩
       have HQ2:=X1 (HB.out.trans (q2.below.mono HB.out.size))
       go_wp2
       go_roundw
       case rel=>exact ⟨i+1,by omega,by go_num,HQ2.out⟩
       case measure=>simp [intOf];omega
      ·have hk5b:(kd != 5)=true:=by simpa using hk5
       have hk5c:(kd == 5)=false:=by simpa using hk5
       have z1:decide ((-1:Int) < -2)=false:=by decide
       have z2:decide ((l.length:Int)≤(-1:Int))=false:=decide_eq_false (by omega)
       have z3:decide ((0:Int)≤(-1:Int))=false:=by decide
       go_wp2_with fail
       refine XQ (KB.w (w:=wr)) (by kernel_rfl) (by kernel_rfl) ⟨⟨_,below_drewN (Below.refl _ _) _⟩,rfl⟩ ?_
       repeat (go_big_quiet_step (fail))
       refine wpQuiet_nil ?_
       rintro _ ⟨q,rfl⟩
       go_wp2_with fail
       refine XQ (KB.w (w:=wr)) (by kernel_rfl) (by kernel_rfl) ⟨⟨_,below_drewN q.below _⟩,rfl⟩ ?_
       repeat (go_big_quiet_step (fail))
       refine wpQuiet_nil ?_
       rintro _ ⟨q2,rfl⟩
       have HQ2:=X1 (HB.out.trans (q2.below.mono HB.out.size))
       go_wp2
       go_roundw
       case rel=>exact ⟨i+1,by omega,by go_num,HQ2.out⟩
       case measure=>simp [intOf];omega
     ·have z1:decide ((-2:Int) < -2)=false:=by decide
      have z2:decide ((l.length:Int)≤(-2:Int))=false:=decide_eq_false (by omega)
      have z3:decide ((0:Int)≤(-2:Int))=false:=by decide
      go_wp2_with fail
      refine XQ (KB.w (w:=wr)) (by kernel_rfl) (by kernel_rfl) ⟨⟨_,below_drewN (Below.refl _ _) _⟩,rfl⟩ ?_
      repeat (go_big_quiet_step (fail))
      refine wpQuiet_nil ?_
      rintro _ ⟨q,rfl⟩
      go_wp2_with fail
      refine XQ (KB.w (w:=wr)) (by kernel_rfl) (by kernel_rfl) ⟨⟨_,below_drewN q.below _⟩,rfl⟩ ?_
      repeat (go_big_quiet_step (fail))
      refine wpQuiet_nil ?_
      rintro _ ⟨q2,rfl⟩
      have HQ2:=X1 (HB.out.trans (q2.below.mono HB.out.size))
      go_wp2
      go_roundw
      case rel=>exact ⟨i+1,by omega,by go_num,HQ2.out⟩
      case measure=>simp [intOf];omega
     ·have hai:(a:Int) < (l.length:Int):=by omega
      have z1:decide ((a:Int) < -2)=false:=decide_eq_false (by omega)
      have z2:decide ((l.length:Int)≤(a:Int))=false:=decide_eq_false (by omega)
      have z5:decide (l.length≤a)=false:=decide_eq_false (by omega)
      have z6:¬ l.length≤a:=by omega
      have z3:decide ((0:Int)≤(a:Int))=true:=decide_eq_true (by omega)
      have z4:(0:Int)≤(a:Int):=by omega
      have fa:∀ q:KB wr,q.w.cell? ⟨gt,a*5+3,none⟩=some (.string tx):=fun q=>by rw [← HTX.out a ha hat];exact FA.out a ha q
      go_wp2_with fail
      refine XQ (KB.w (w:=wr)) (by kernel_rfl) (by kernel_rfl) ⟨⟨_,below_drewN (Below.refl _ _) _⟩,rfl⟩ ?_
      repeat (go_big_quiet_step (fail))
      refine wpQuiet_nil ?_
      rintro _ ⟨q,rfl⟩
      go_wp2_with fail
      refine XQ (KB.w (w:=wr)) (by kernel_rfl) (by kernel_rfl) ⟨⟨_,below_drewN q.below _⟩,rfl⟩ ?_
      repeat (go_big_quiet_step (fail))
      refine wpQuiet_nil ?_
      rintro _ ⟨q2,rfl⟩
      have HQ2:=X1 (HB.out.trans (q2.below.mono HB.out.size))
      go_wp2
      go_roundw
      case rel=>exact ⟨i+1,by omega,by go_num,HQ2.out⟩
      case measure=>simp [intOf];omega
    ·obtain rfl:i=l.length:=by omega
     have o6:=(HL5.out.below HB.out).c0
     have HB7:=X1 (HL5.out.below HB.out).B
     have HW2:=X1 (HWF.out _ HB.out)
     go_wp2_with fail
     refine HW2.out.mono ?_
     rintro e w7 ⟨rfl,hb7⟩
     go_wp2
     go_ret
     exact ⟨rfl,HB7.out.trans (hb7.mono HB7.out.size)⟩
end Go.Proofs.YthbfdaifgnhkbaaGreatDoor
namespace Go.Proofs.YthbfdaifgnhkbaaGreatDoor
open Go.ChangeShapes Go.WideShapes Go.ChangeAt Go.RowKit Go.ChangeMaps
theorem own:ownKnob Tryz.prog.godebug=none:=by kernel_rfl
theorem laidOut:laidOutB Tryz.prog=true:=by kernel_rfl
theorem cellsByte:Tryz.prog.cellsOf 5=1:=by kernel_rfl
theorem cellsStr:Tryz.prog.cellsOf 9=1:=by kernel_rfl
section
variable {H:Type} {enc:TypeId × Value→H} {W:World} {sp:Nat→Bool}
set_option maxRecDepth 100000 in
theorem open_bytes {n:Nat} {v:Value} {x:DataW H × List MemPlace} (h:DataW.trod enc Tryz.prog W 0 (fun _=>true) true n 22 [v]=some x) :
  ∃ m,ByV W v m:=by
 rcases Deep.open_slice1 Tryz.underlying22 cellsByte h with ⟨hc,_⟩ | ⟨a,len,cap,m,k,V,D,Pl,hc,_,hlc,hcm,hm,_,hx⟩
 ·cases hc
  exact ⟨0,.inl ⟨none,0,rfl,rfl⟩⟩
 ·cases hc
  have hm2:m=cap:=by simpa using hm
  by_cases h0:len=0
  ·subst h0;exact ⟨0,.inl ⟨_,_,rfl,rfl⟩⟩
  ·have each:∀ i,i < len→∃ b:Nat,b < 256∧W.cell? (a.add i)=some (.int .u8 (b:Int)):=by
    intro i hi
    obtain ⟨h1,h2⟩:=hx i (by omega)
    obtain ⟨z,e,_,hw⟩:=DataW.trod_int Tryz.underlying5 h2
    have e2:V i = .int .u8 z:=by simpa using e
    simp [Lit.wf] at hw
    have q1:(0:Int)≤z:=hw.1
    have q2:z≤255:=hw.2
    exact ⟨z.toNat,by omega,by rw [h1,e2,Int.toNat_of_nonneg q1]⟩
   obtain ⟨b0,_,hc0⟩:=each 0 (by omega)
   obtain ⟨b,o,s⟩:=a
   have hs:s=none:=by
    cases s with
    | none=>rfl
    | some q =>
     simp only [Addr.add,World.cell?] at hc0
     split at hc0 <;> simp at hc0
   subst hs
   refine ⟨len,.inr ⟨b,o,cap,rfl,by omega,by omega,?_,fun i hi=>?_⟩⟩
   ·exact World.block_lt_of_cell? W ⟨b,o,none⟩ (show W.cell? ⟨b,o,none⟩=some (.int .u8 (b0:Int)) from by simpa [Addr.add] using hc0)
   ·obtain ⟨k,hk,hc⟩:=each i hi
    rw [Xh] at hc
    exact ⟨k,hk,hc⟩
theorem open_byteArg {v0:Value} {d0:DataW H} {p:List MemPlace} (hv:v0.cells=#[v0]) (h0:DataW.Trod enc Tryz.prog W 0 (fun _=>true) true 22 v0 d0 p) :
  ∃ m,ByV W v0 m:=by
 obtain ⟨fuel,hf⟩:=h0
 rw [hv] at hf
 exact open_bytes hf
end
theorem gBuilt:Tryz.prog.globalNamed "loop.example/kilnclay/impl.builtNames"=some 0:=by kernel_rfl
theorem tBuilt:(Tryz.prog.globals[0]?).map (·.type)=some 91:=by kernel_rfl
theorem lit_built:Rows.laid_loop_example_kilnclay_impl_builtNames=DataW.agg (H:=Unit) (builtBA.map fun b => .lit (.string b.data.toList)):=rfl
theorem glob_of {W:World} (h:laidMetH Tryz.prog [("loop.example/kilnclay/impl.builtNames",Rows.laid_loop_example_kilnclay_impl_builtNames)] W):GlobB W:=by
 rw [MakeChecks.laidMetH_plain _ _ _ (by kernel_rfl)] at h
 obtain ⟨ps,⟨g0,t0,cs0,f0,p0,q0,hg0,ht0,hv0,hd0,_,e0⟩,_,hrows⟩:=h
 obtain rfl:=Option.some.inj (gBuilt.symm.trans hg0)
 obtain rfl:=Option.some.inj (tBuilt.symm.trans ht0)
 rw [lit_built] at hd0
 obtain ⟨xs,m,_,hx,hl,hxl,hall⟩:=DataW.trod_array Tryz.underlying91 hd0
 have hmap:builtBA.map (fun b=>(DataW.lit (.string b.data.toList):DataW Unit))=xs.map (·.1):=by
  have:=congrArg Prod.fst hx
  injection this
 have hcell:∀ j (h:j < builtBA.length),W.cell? ⟨0,j,none⟩=some (.string builtBA[j]):=by
  intro j hj
  have hj15:j < 15:=hj
  have hq:=hall j hj15
  rw [cellsStr,Nat.mul_one,List.getElem?_eq_getElem (by omega)] at hq
  obtain ⟨s,hs,hxs,_⟩:=DataW.trod_string Tryz.underlying9 hq
  have hm:(builtBA.map (fun b=>(DataW.lit (.string b.data.toList):DataW Unit)))[j]?=(xs.map (·.1))[j]?:=by rw [hmap]
  rw [List.getElem?_map,List.getElem?_map,List.getElem?_eq_getElem hj,List.getElem?_eq_getElem (by omega),hxs] at hm
  have hb:builtBA[j]'hj=s:=by
   simp only [Option.map_some,Option.some.injEq,DataW.lit.injEq,Lit.string.injEq] at hm
   exact ByteArray.ext (Array.toList_inj.1 hm)
  rw [World.var?_cell gBuilt hv0 j,hb]
  have h1:((cs0.toList.drop j).take 1)[0]?=some (.string s):=by rw [hs];rfl
  rw [List.getElem?_take,if_pos (by omega),List.getElem?_drop,Nat.add_zero] at h1
  simpa using h1
 exact ⟨World.block_lt_of_cell? W ⟨0,0,none⟩ (hcell 0 (by decide)),hcell⟩
end Go.Proofs.YthbfdaifgnhkbaaGreatDoor
