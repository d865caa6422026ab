/- Kh, Kj, Kz, Rl. -/
import Derived.Test.YthbojbbmpcmoaaaGreatDoorZ14
import Derived.Test.YthbojbbmpcmoaaaGreatDoorZ08
namespace Go.Proofs.YthbojbbmpcmoaaaGreatDoor
open Go.RowKit
theorem Tr.vgo_kids (ns:List Tr.Nd):∀ (ds:List Tr.Nd) (ks:List (List Nat)) (hs:List Nat),Tr.vgo ns (ds.zip ks) hs=true→∀ k (h1:k < ds.length) (h2:k < ks.length),Tr.kidsOk ns ds[k].kind ks[k]=true:=by
 intro ds
 induction ds with
 | nil=>intro ks hs _ k h1;simp at h1
 | cons d r ih =>
  intro ks hs hv k h1 h2
  cases ks with
  | nil=>simp at h2
  | cons x t =>
   simp only [List.zip_cons_cons,Tr.vgo,Bool.and_eq_true] at hv
   cases k with
   | zero=>exact hv.1.2
   | succ k=>exact ih t _ hv.2 k (by simpa using h1) (by simpa using h2)
theorem Tr.valid_facts {ns:List Tr.Nd} (h:Tr.valid ns=true):1≤ns.length∧ns.length≤5000∧Tr.kidsGood ns=true ∧
  ∀ k (h:k < (Tr.kids ns).length),((Tr.kids ns)[k]).length≤5000∧(Tr.kindOf ns k=14→((Tr.kids ns)[k]).length=2)∧(Tr.kindOf ns k=16→1≤((Tr.kids ns)[k]).length)∧(Tr.kindOf ns k=15∨Tr.kindOf ns k=20→1≤((Tr.kids ns)[k]).length):=by
 unfold Tr.valid at h
 simp only [Bool.and_eq_true] at h
 obtain ⟨⟨⟨h1,_⟩,h3⟩,h4⟩:=h
 have hin:=Tr.inr_true h1
 have hkl:=Tr.kids_len h3
 refine ⟨by omega,by omega,h3,fun k hk=>?_⟩
 have hkn:k < ns.length:=by omega
 have hok:=Tr.vgo_kids ns ns (Tr.kids ns) [] h4 k hkn hk
 have hsh:=Tr.kids_short ns k hk
 rw [Tr.kindOf_at hkn]
 generalize (Tr.kids ns)[k]=ls at *
 refine ⟨by omega,fun e=>?_,fun e=>?_,fun e=>?_⟩
 ·rw [e] at hok;simp [Tr.kidsOk] at hok;omega
 ·rw [e] at hok;simp [Tr.kidsOk] at hok;omega
 ·cases ls with
  | nil=>rcases e with e | e <;> (rw [e] at hok;simp [Tr.kidsOk] at hok)
  | cons x r=>simp
def Tr.firstC:List Int→Nat→Int × Nat
 | [],_=>(0,0)
 | c :: r,i=>if c=0 then Tr.firstC r (i+1) else (c,i)
theorem Tr.firstC_at (l:List Int) (i:Nat) (h:i < l.length):Tr.firstC (l.drop i) i=if l[i]=0 then Tr.firstC (l.drop (i+1)) (i+1) else (l[i],i):=by
 rw [List.drop_eq_getElem_cons h];rfl
def Tr.checkOf (ns:List Tr.Nd):Int × Nat:=if Tr.valid ns=true then Tr.firstC (Tr.lookS ns (Tr.kids ns)).codes 0 else (11,0)
theorem two_new (X:World) (a b:Value) (t:TypeId):(X.alloc (.cells #[a,b] t)).cell? ⟨X.heap.size,0,none⟩=some a∧(X.alloc (.cells #[a,b] t)).cell? ⟨X.heap.size,1,none⟩=some b∧(X.alloc (.cells #[a,b] t)).frozen? ⟨X.heap.size,0,none⟩=false∧(X.alloc (.cells #[a,b] t)).frozen? ⟨X.heap.size,1,none⟩=false:=by simp
theorem boxes {w w1:World} {t:Value} {ta tb:TypeId} (h:Below (w.heap.size+1+1) ((w.alloc (.cells #[t] ta)).alloc (.cells #[.int .i64 0,.int .i64 0] tb)) w1) :
  w1.cell? ⟨w.heap.size,0,none⟩=some t∧w1.cell? ⟨w.heap.size+1,0,none⟩=some (.int .i64 0)∧w1.cell? ⟨w.heap.size+1,1,none⟩=some (.int .i64 0)∧w1.frozen? ⟨w.heap.size+1,0,none⟩=false∧w1.frozen? ⟨w.heap.size+1,1,none⟩=false:=by
 have h2:=two_new (w.alloc (.cells #[t] ta)) (.int .i64 0) (.int .i64 0) tb
 rw [World.size_alloc] at h2
 have hb:=(Below.refl (w.heap.size+1) (w.alloc (.cells #[t] ta))).alloc (by simp) (.cells #[.int .i64 0,.int .i64 0] tb)
 have ht:(w.alloc (.cells #[t] ta)).cell? ⟨w.heap.size,0,none⟩=some t:=by simp
 exact ⟨(h.cell (p:=⟨w.heap.size,0,none⟩) (show w.heap.size < w.heap.size+1+1 by omega)).trans ((hb.cell (p:=⟨w.heap.size,0,none⟩) (Nat.lt_succ_self _)).trans ht),(h.cell (p:=⟨w.heap.size+1,0,none⟩) (Nat.lt_succ_self _)).trans h2.1,(h.cell (p:=⟨w.heap.size+1,1,none⟩) (Nat.lt_succ_self _)).trans h2.2.1,(h.frozen (p:=⟨w.heap.size+1,0,none⟩) (Nat.lt_succ_self _)).trans h2.2.2.1,(h.frozen (p:=⟨w.heap.size+1,1,none⟩) (Nat.lt_succ_self _)).trans h2.2.2.2⟩
set_option maxRecDepth 100000 in
set_option maxHeartbeats 4000000 in
theorem check_any (ns:List Tr.Nd) (tg tc:Nat) (w:World) (hn:ns.length≤1048576) (ht:NodesAt w tg ns) :
  Calls Tryz.prog 28 #[.agg #[.slice (some ⟨tg,0,none⟩) ns.length tc]] w fun e w'=>e = .returned (.agg #[.int .i64 (Tr.checkOf ns).1,.int .i64 (Tr.checkOf ns).2])∧Below w.heap.size w w':=by
 have r2:Below w.heap.size w ((w.alloc (.cells #[.slice (some ⟨tg,0,none⟩) ns.length tc] 28)).alloc (.cells #[.int .i64 0,.int .i64 0] 47)):=(bA _).alloc (by simp) _
 have HV:=hide (valid_any ns tg tc _ hn (ht.below r2))
 have HT:=hide ht
 clear ht
 cases hv:Tr.valid ns
 ·have HC:Hid (Tr.checkOf ns=(11,0)):=hide (by unfold Tr.checkOf;rw [hv];rfl)
  rw [hv] at HV
  rw [HC.out]
  go_enter Tryz.func28,Tryz.ntmps28
  go_wp2_with fail
  refine HV.out.mono ?_
  rintro e w1 ⟨rfl,hb1⟩
  rw [World.size_alloc,World.size_alloc] at hb1
  obtain ⟨b0,b1,b2,b3,b4⟩:=boxes hb1
  have hB1:=r2.trans (hb1.mono (by omega))
  clear hb1
  go_wp2
  refine bodyPost_ret (v:= .agg #[.int .i64 11,.int .i64 0]) (by simp [results,Tryz.results28,go_sem,b1,b2]) rfl ⟨rfl,?_⟩
  exact (hB1.setCell (p:=⟨w.heap.size+1,0,none⟩) (by simp) _).setCell (p:=⟨w.heap.size+1,1,none⟩) (by simp) _
 ·obtain ⟨hn1,hn5,hgood,hlen⟩:=Tr.valid_facts hv
  have HC:Hid (Tr.checkOf ns=Tr.firstC (Tr.lookS ns (Tr.kids ns)).codes 0):=hide (by unfold Tr.checkOf;rw [hv];rfl)
  rw [hv] at HV
  have HLK:=hide (fun w' (hb:Below w.heap.size w w')=>look_any ns tg tc w' hn1 hn5 hgood hlen (HT.out.below hb))
  clear hlen
  go_enter Tryz.func28,Tryz.ntmps28
  go_wp2_with fail
  refine HV.out.mono ?_
  rintro e w1 ⟨rfl,hb1⟩
  rw [World.size_alloc,World.size_alloc] at hb1
  obtain ⟨b0,_⟩:=boxes hb1
  have hB1:=r2.trans (hb1.mono (by omega))
  have hz1:w.heap.size+1+1≤w1.heap.size:=by have:=hb1.size;simpa using this
  go_wp2_with fail
  refine (HLK.out _ hB1).mono ?_
  rintro e w2 ⟨wb,kg,kc,cg,bg,rfl,hF,hD,hcg,hbg,hb2⟩
  have hb12:=hb1.trans (hb2.mono hz1)
  obtain ⟨b0',b1,b2,b3,b4⟩:=boxes hb12
  have hB2:=hB1.trans (hb2.mono hB1.size)
  have hF2:=hF.f2
  have hcl:=hD.lens.1
  have HDD:=hide hD
  clear hb1 hb2 hb12 hF hD HV HLK b0
  generalize (Tr.lookS ns (Tr.kids ns))=st at *
  go_wp2
  go_loop [4] (fun t=>∃ i:Nat,i≤ns.length∧t = .int .i64 i∧Tr.firstC st.codes 0=Tr.firstC (st.codes.drop i) i) (fun t=>ns.length - (intOf t).toNat)
  case atStart=>exact ⟨0,Nat.zero_le _,rfl,by simp⟩
  case round =>
   obtain ⟨i,hi,rfl,he⟩:=hrel
   have HE:=hide he
   clear he
   by_cases hlt:i < ns.length
   ·obtain ⟨cc,_⟩:=HDD.out.cellC i hlt
    have HS:=hide (Tr.firstC_at st.codes i (by omega))
    have hcv:st.codes[i]?.getD 0=st.codes[i]'(by omega):=by simp [hcl,hlt]
    rw [hcv] at cc
    generalize st.codes[i]'(by omega)=c at *
    cases hz:(c == 0)
    ·have HF:Hid (Tr.checkOf ns=(c,i)):=hide (by rw [HC.out,HE.out,HS.out,if_neg (by simpa using hz)])
     have hz2:(c != 0)=true:=by simpa using hz
     go_wp2
     refine bodyPost_ret (v:= .agg #[.int .i64 c,.int .i64 i]) (by simp [results,Tryz.results28,go_sem,b1,b2]) rfl ⟨by rw [HF.out],?_⟩
     exact (hB2.setCell (p:=⟨w.heap.size+1,0,none⟩) (by simp) _).setCell (p:=⟨w.heap.size+1,1,none⟩) (by simp) _
    ·have HF:Hid (Tr.firstC st.codes 0=Tr.firstC (st.codes.drop (i+1)) (i+1)):=hide (by rw [HE.out,HS.out,if_pos (by simpa using hz)])
     have hz2:(c != 0)=false:=by simpa using hz
     go_wp2
     go_round
     case rel=>exact ⟨i+1,by omega,by go_num,HF.out⟩
     case measure=>simp [intOf];omega
   ·have HF:Hid (Tr.checkOf ns=(0,0)):=hide (by rw [HC.out,HE.out,List.drop_of_length_le (by omega)];rfl)
    go_wp2
    refine bodyPost_ret (v:= .agg #[.int .i64 0,.int .i64 0]) (by simp [results,Tryz.results28,go_sem,b1,b2]) rfl ⟨by rw [HF.out];rfl,?_⟩
    exact (hB2.setCell (p:=⟨w.heap.size+1,0,none⟩) (by simp) _).setCell (p:=⟨w.heap.size+1,1,none⟩) (by simp) _
theorem field_code (a b:Int) (W:World):Sem.run Tryz.prog (Instr.field 47 (Value.agg #[.int .i64 a,.int .i64 b]) 0) W = .ok (.int .i64 a) W:=by kernel_rfl
set_option maxHeartbeats 400000 in
theorem fits_any (ns:List Tr.Nd) (tg tc:Nat) (w:World) (hn:ns.length≤1048576) (ht:NodesAt w tg ns) :
  Calls Tryz.prog 12 #[.agg #[.slice (some ⟨tg,0,none⟩) ns.length tc]] w fun e w'=>e = .returned (.bool ((Tr.checkOf ns).1 == 0))∧Below w.heap.size w w':=by
 have r1:Below w.heap.size w (w.alloc (.cells #[.slice (some ⟨tg,0,none⟩) ns.length tc] 28)):=bA _
 have HC:=hide (check_any ns tg tc _ hn (ht.below r1))
 clear ht
 generalize Tr.checkOf ns=c at *
 have hfc:=field_code c.1 c.2
 go_enter Tryz.func12,Tryz.ntmps12
 go_wp2_with fail
 refine HC.out.mono ?_
 rintro e w1 ⟨rfl,hb1⟩
 go_wp2
 go_ret
 exact ⟨rfl,r1.trans (hb1.mono (by simp))⟩
def Tr.fitsOf (ns:List Tr.Nd):Bool:=(Tr.checkOf ns).1 == 0
theorem Tr.fits_valid {ns:List Tr.Nd} (h:Tr.fitsOf ns=true):Tr.valid ns=true:=by
 unfold Tr.fitsOf Tr.checkOf at h
 cases hv:Tr.valid ns
 ·rw [hv] at h;simp at h
 ·rfl
def Tr.bindsOf (ns:List Tr.Nd):List Int:=if Tr.fitsOf ns=true then (Tr.lookS ns (Tr.kids ns)).binds else []
def Tr.isLocal (k:Int):Bool:=k == 14 || k == 16
def Tr.localsGo:List Tr.Nd→Nat→List Nat
 | [],_=>[]
 | d :: r,i=>(if Tr.isLocal d.kind=true then [i] else [])++Tr.localsGo r (i+1)
def Tr.localsOf (ns:List Tr.Nd):List Nat:=if Tr.fitsOf ns=true then Tr.localsGo ns 0 else []
theorem Tr.localsGo_at (ns:List Tr.Nd) (i:Nat) (h:i < ns.length):Tr.localsGo (ns.drop i) i=(if Tr.isLocal ns[i].kind=true then [i] else [])++Tr.localsGo (ns.drop (i+1)) (i+1):=by
 rw [List.drop_eq_getElem_cons h];rfl
def NumsAt (w:World) (g:Nat) (l:List Int):Prop:=g < w.heap.size∧∀ j (h:j < l.length),w.cell? ⟨g,j,none⟩=some (.int .i64 l[j])
set_option maxRecDepth 100000 in
set_option maxHeartbeats 2000000 in
theorem binds_any (ns:List Tr.Nd) (tg tc:Nat) (w:World) (hn:ns.length≤1048576) (ht:NodesAt w tg ns) :
  Calls Tryz.prog 16 #[.agg #[.slice (some ⟨tg,0,none⟩) ns.length tc]] w fun e w'=>∃ g,e = .returned (.slice (some ⟨g,0,none⟩) (Tr.bindsOf ns).length (Tr.bindsOf ns).length)∧w.heap.size≤g∧w'.ownsRow 0 3 1 (.slice (some ⟨g,0,none⟩) (Tr.bindsOf ns).length (Tr.bindsOf ns).length) (Tr.bindsOf ns).length ((Tr.bindsOf ns).map vi)∧Below w.heap.size w w':=by
 have r1:Below w.heap.size w (w.alloc (.cells #[.slice (some ⟨tg,0,none⟩) ns.length tc] 28)):=bA _
 have HFT:=hide (fits_any ns tg tc _ hn (ht.below r1))
 have HT:=hide ht
 clear ht
 cases hf:Tr.fitsOf ns
 ·have HFT2:=HFT.out
  rw [show ((Tr.checkOf ns).1 == 0)=false from hf] at HFT2
  replace HFT2:=hide HFT2
  have HB:Hid (Tr.bindsOf ns=[]):=hide (by unfold Tr.bindsOf;rw [hf];rfl)
  go_enter Tryz.func16,Tryz.ntmps16
  go_wp2_with fail
  refine HFT2.out.mono ?_
  rintro e w1 ⟨rfl,hb1⟩
  have hB1:=r1.trans (hb1.mono (by simp))
  go_wp2
  go_ret
  refine ⟨w1.heap.size,by rw [HB.out];rfl,hB1.size,?_,hB1.alloc hB1.size _⟩
  rw [HB.out]
  exact World.ownsRow_lit (base:=0) (e:=3) (size:=1) w1 #[] 0 (Nat.zero_le _) (Nat.zero_le _) rfl
 ·obtain ⟨hn1,hn5,hgood,hlen⟩:=Tr.valid_facts (Tr.fits_valid hf)
  have HFT2:=HFT.out
  rw [show ((Tr.checkOf ns).1 == 0)=true from hf] at HFT2
  replace HFT2:=hide HFT2
  have HB:Hid (Tr.bindsOf ns=(Tr.lookS ns (Tr.kids ns)).binds):=hide (by unfold Tr.bindsOf;rw [hf];rfl)
  have HLK:=hide (fun w' (hb:Below w.heap.size w w')=>look_any ns tg tc w' hn1 hn5 hgood hlen (HT.out.below hb))
  clear hlen HFT
  go_enter Tryz.func16,Tryz.ntmps16
  go_wp2_with fail
  refine HFT2.out.mono ?_
  rintro e w1 ⟨rfl,hb1⟩
  have hB1:=r1.trans (hb1.mono (by simp))
  have b0:w1.cell? ⟨w.heap.size,0,none⟩=some (.slice (some ⟨tg,0,none⟩) ns.length tc):=(hb1.cell (p:=⟨w.heap.size,0,none⟩) (by simp)).trans (by simp)
  clear hb1
  go_wp2_with fail
  refine (HLK.out _ hB1).mono ?_
  rintro e w2 ⟨wb,kg,kc,cg,bg,rfl,hF,hD,hcg,hbg,hb2⟩
  have hF3:=hF.f3
  have hbl:=hD.lens.2
  have hB2:=hB1.trans (hb2.mono hB1.size)
  have HDD:=hide hD
  have hz:=hB1.size
  clear hb2 hF hD HLK b0
  go_wp2
  go_ret
  refine ⟨bg,?_,by omega,?_,hB2⟩
  ·rw [HB.out,hbl];rfl
  ·rw [HB.out,hbl];exact HDD.out.b
end Go.Proofs.YthbojbbmpcmoaaaGreatDoor
namespace Go.Proofs.YthbojbbmpcmoaaaGreatDoor
def Tr.KnOk (ns:List Tr.Nd) (kn:List Tr.Kn):Prop:=∀ p∈kn,p.2 < ns.length∧p.1=Tr.textOf ns p.2
def Tr.BdOk (ns:List Tr.Nd) (i:Nat) (b:Int):Prop:=b = -1∨(Tr.kindOf ns i=5∧(b = -2∨∃ a:Nat,b=a∧a < ns.length∧Tr.textOf ns a=Tr.textOf ns i))
def Tr.StOk (ns:List Tr.Nd) (s:Tr.St):Prop:=s.binds.length=ns.length∧∀ i b,s.binds[i]?=some b→Tr.BdOk ns i b
theorem Tr.kind_lt {ns:List Tr.Nd} {k:Nat} (h:Tr.kindOf ns k≠0):k < ns.length:=by
 rcases Nat.lt_or_ge k ns.length with h1 | h1
 ·exact h1
 ·exact absurd (by unfold Tr.kindOf;rw [List.getElem?_eq_none h1]) h
theorem Tr.KnOk.snoc {ns:List Tr.Nd} {kn:List Tr.Kn} (h:Tr.KnOk ns kn) {k:Nat} (hk:k < ns.length):Tr.KnOk ns (kn++[(Tr.textOf ns k,k)]):=fun p hp=>by
 rcases List.mem_append.mp hp with h1 | h1
 ·exact h p h1
 ·rw [List.mem_singleton.mp h1];exact ⟨hk,rfl⟩
theorem Tr.look_mem {x:ByteArray} {kn:List Tr.Kn} {a:Nat} (h:Tr.lookK x kn=some a):(x,a)∈kn:=by
 induction kn with
 | nil=>cases h
 | cons p r ih =>
  rw [Tr.lookK] at h
  cases hr:Tr.lookK x r with
  | some b=>rw [hr] at h;cases h;exact List.mem_cons_of_mem _ (ih hr)
  | none =>
   rw [hr] at h
   simp only at h
   split at h
   ·rename_i hp;cases h;rw [← hp];exact List.mem_cons_self
   ·cases h
theorem Tr.StOk.fault {ns:List Tr.Nd} {s:Tr.St} (h:Tr.StOk ns s) (k:Nat) (c:Int):Tr.StOk ns (Tr.faultS k c s):=by
 unfold Tr.faultS
 split
 ·exact h
 ·exact h
theorem Tr.StOk.set {ns:List Tr.Nd} {s:Tr.St} (h:Tr.StOk ns s) (k:Nat) (b:Int) (hb:Tr.BdOk ns k b):Tr.StOk ns {s with binds:=s.binds.set k b}:=by
 refine ⟨by simpa using h.1,fun i x hx=>?_⟩
 simp only [List.getElem?_set] at hx
 split at hx
 ·rename_i hk
  subst hk
  split at hx
  ·cases hx;exact hb
  ·cases hx
 ·exact h.2 i x hx
theorem Tr.StOk.use {ns:List Tr.Nd} {s:Tr.St} (h:Tr.StOk ns s) {k:Nat} {kn:List Tr.Kn} (hk:Tr.KnOk ns kn) (h5:Tr.kindOf ns k=5):Tr.StOk ns (Tr.useS ns k kn s):=by
 unfold Tr.useS
 cases hl:Tr.lookK (Tr.textOf ns k) kn with
 | some a =>
  obtain ⟨h1,h2⟩:=hk _ (Tr.look_mem hl)
  exact h.set k a (.inr ⟨h5,.inr ⟨a,rfl,h1,h2.symm⟩⟩)
 | none =>
  simp only
  split
  ·exact h.set k (-2) (.inr ⟨h5,.inl rfl⟩)
  ·exact h.fault _ _
theorem Tr.StOk.fold {α:Type} {ns:List Tr.Nd} (f:Tr.St→α→Tr.St) (hf:∀ s x,Tr.StOk ns s→Tr.StOk ns (f s x)):∀ (l:List α) (s:Tr.St),Tr.StOk ns s→Tr.StOk ns (l.foldl f s)
 | [],_,h=>h
 | x :: r,s,h=>Tr.StOk.fold f hf r (f s x) (hf s x h)
theorem Tr.StOk.dup {ns:List Tr.Nd} {s:Tr.St} (h:Tr.StOk ns s) (p:Nat) (seen:List Nat):Tr.StOk ns (Tr.dupS ns p seen s) :=
 Tr.StOk.fold _ (fun s x hs=>by
  show Tr.StOk ns (if _ then _ else _)
  split
  ·exact hs.fault _ _
  ·exact hs) seen s h
section
variable {ns:List Tr.Nd} {ks:List (List Nat)} {G:Nat→List Tr.Kn→Tr.St→Tr.St}
theorem Tr.StOk.par (hG:∀ k kn s,Tr.KnOk ns kn→Tr.StOk ns s→Tr.StOk ns (G k kn s)) {s:Tr.St} (h:Tr.StOk ns s) (p:Nat) (seen:List Nat) {kn:List Tr.Kn} (hk:Tr.KnOk ns kn) (df:Bool):Tr.StOk ns (Tr.parS G ns ks p seen kn df s):=by
 unfold Tr.parS
 split
 ·split
  ·exact (h.dup p seen).fault _ _
  ·exact h.dup p seen
 ·exact hG _ _ _ hk (h.dup p seen)
theorem Tr.StOk.fn (hG:∀ k kn s,Tr.KnOk ns kn→Tr.StOk ns s→Tr.StOk ns (G k kn s)):∀ (l seen:List Nat) (kn:List Tr.Kn) (df:Bool) (s:Tr.St),(∀ x∈l,x < ns.length)→Tr.KnOk ns kn→Tr.StOk ns s→Tr.StOk ns (Tr.fnS G ns ks l seen kn df s)
 | [],_,_,_,_,_,_,h=>by rw [Tr.fnS];exact h
 | [x],_,_,_,_,_,hk,h=>by rw [Tr.fnS];exact hG _ _ _ hk h
 | p :: q :: r,seen,kn,df,s,hl,hk,h=>by
  rw [Tr.fnS]
  exact Tr.StOk.fn hG (q :: r) _ _ _ _ (fun x hx=>hl x (List.mem_cons_of_mem _ hx)) (hk.snoc (hl p List.mem_cons_self)) (Tr.StOk.par hG h p seen hk df)
theorem Tr.StOk.let_ (hG:∀ k kn s,Tr.KnOk ns kn→Tr.StOk ns s→Tr.StOk ns (G k kn s)) {kn more:List Tr.Kn} (hk:Tr.KnOk ns kn) (hm:Tr.KnOk ns more) {s:Tr.St} (h:Tr.StOk ns s) (l:List Nat):Tr.StOk ns (Tr.letS G kn more s l):=by
 unfold Tr.letS
 split
 ·exact h
 ·exact Tr.StOk.fold _ (fun s y hs=>hG y more s hm hs) _ _ (hG _ _ _ hk h)
end
theorem Tr.StOk.go {ns:List Tr.Nd} {ks:List (List Nat)} (hks:∀ k,∀ x∈Tr.kidsOf ks k,x < ns.length):∀ (f k:Nat) (kn:List Tr.Kn) (s:Tr.St),Tr.KnOk ns kn→Tr.StOk ns s→Tr.StOk ns (Tr.go1 ns ks f k kn s)
 | 0,_,_,_,_,h=>by rw [Tr.go1];exact h
 | f+1,k,kn,s,hk,h=>by
  rw [Tr.go1]
  split
  ·rename_i h5;exact h.use hk h5
  ·split
   ·exact h
   ·split
    ·exact Tr.StOk.fn (fun k kn s a b=>Tr.StOk.go hks f k kn s a b) _ _ _ _ _ (hks k) hk h
    ·split
     ·rename_i h14
      exact Tr.StOk.let_ (fun k kn s a b=>Tr.StOk.go hks f k kn s a b) hk (hk.snoc (Tr.kind_lt (by rcases h14 with e | e <;> rw [e] <;> decide))) h _
     ·exact Tr.StOk.fold _ (fun s y hs=>Tr.StOk.go hks f y kn s hk hs) _ _ h
theorem Tr.StOk.mk {ns:List Tr.Nd}:∀ (l:List Nat) (kn:List Tr.Kn) (s:Tr.St),(∀ x∈l,x < ns.length)→Tr.KnOk ns kn→Tr.StOk ns s→Tr.KnOk ns (Tr.mkS ns l kn s).1∧Tr.StOk ns (Tr.mkS ns l kn s).2
 | [],_,_,_,hk,h=>by rw [Tr.mkS];exact ⟨hk,h⟩
 | x :: r,kn,s,hl,hk,h=>by
  rw [Tr.mkS]
  refine Tr.StOk.mk r _ _ (fun y hy=>hl y (List.mem_cons_of_mem _ hy)) (hk.snoc (hl x List.mem_cons_self)) ?_
  exact Tr.StOk.fold _ (fun s p hs=>by
   show Tr.StOk ns (if _ then _ else _)
   split
   ·exact hs.fault _ _
   ·exact hs) kn s h
theorem Tr.StOk.start (ns:List Tr.Nd):Tr.StOk ns (Tr.st0 ns.length):=by
 refine ⟨by simp [Tr.st0],fun i b hb=>?_⟩
 simp only [Tr.st0,List.getElem?_replicate] at hb
 split at hb
 ·cases hb;exact .inl rfl
 ·cases hb
theorem Tr.StOk.look {ns:List Tr.Nd} {ks:List (List Nat)} (hks:∀ k (h:k < ks.length),∀ x∈ks[k],x < ns.length):Tr.StOk ns (Tr.lookS ns ks):=by
 have hk:∀ k,∀ x∈Tr.kidsOf ks k,x < ns.length:=by
  intro k x hx
  unfold Tr.kidsOf at hx
  rcases Nat.lt_or_ge k ks.length with h | h
  ·rw [List.getElem?_eq_getElem h] at hx;exact hks k h x hx
  ·rw [List.getElem?_eq_none h] at hx;cases hx
 unfold Tr.lookS
 obtain ⟨h1,h2⟩:=Tr.StOk.mk (Tr.makesOf ns ks (Tr.kidsOf ks (ns.length - 1))) [] _ (Tr.makes_lt ns ks _ hks) (fun _ h=>by cases h) (Tr.StOk.start ns)
 exact Tr.StOk.go hk _ _ _ _ h1 h2
theorem Tr.firstC_zero:∀ (l:List Int) (i:Nat),(Tr.firstC l i).1=0→Tr.firstC l i=(0,0)
 | [],_,_=>rfl
 | c :: r,i,h=>by
  rw [Tr.firstC] at h ⊢
  split at h
  ·rename_i hc;rw [if_pos hc];exact Tr.firstC_zero r (i+1) h
  ·rename_i hc;exact absurd h hc
theorem Tr.fits_iff (ns:List Tr.Nd):Tr.fitsOf ns=true↔Tr.checkOf ns=(0,0):=by
 unfold Tr.fitsOf
 constructor
 ·intro h
  have h0:(Tr.checkOf ns).1=0:=by simpa using h
  unfold Tr.checkOf at h0 ⊢
  split at h0
  ·rename_i hv;rw [if_pos hv];exact Tr.firstC_zero _ _ h0
  ·cases h0
 ·intro h;rw [h];rfl
theorem Tr.binds_ok (ns:List Tr.Nd):(∀ i b,(Tr.bindsOf ns)[i]?=some b→Tr.BdOk ns i b)∧(Tr.fitsOf ns=true→(Tr.bindsOf ns).length=ns.length∧0 < ns.length)∧(Tr.fitsOf ns=false→Tr.bindsOf ns=[]):=by
 unfold Tr.bindsOf
 cases hf:Tr.fitsOf ns
 ·exact ⟨fun i b h=>by simp at h,(fun h=>by cases h),fun _=>rfl⟩
 ·have hv:=Tr.fits_valid hf
  have hv2:=hv
  unfold Tr.valid at hv2
  simp only [Bool.and_eq_true] at hv2
  have hin:=Tr.inr_true hv2.1.1.1
  have hkl:=Tr.kids_len hv2.1.2
  have hs:=Tr.StOk.look (ns:=ns) (ks:=Tr.kids ns) (fun k hk x hx=>by have:=Tr.kids_lt ns k hk x hx;omega)
  refine ⟨fun i b h=>hs.2 i b (by simpa using h),fun _=>⟨by simpa using hs.1,by omega⟩,(fun h=>by cases h)⟩
def Tr.Cov (ks:List (List Nat)) (b:Nat) (l:List Nat) (e:Nat):Prop:=∀m:Nat→List Nat→Nat→Prop,(∀b,m b [] b)→(∀b x e r,m b (Tr.kidsOf ks x) x→m (x+1) r e→m b (x :: r) e)→m b l e
section
variable {ks:List (List Nat)} {b x e:Nat} {l r:List Nat}
theorem Tr.Cov.nil (b:Nat):Tr.Cov ks b [] b:=fun _ h _=>h b
theorem Tr.Cov.cons (h:Tr.Cov ks b (Tr.kidsOf ks x) x) (k:Tr.Cov ks (x+1) r e):Tr.Cov ks b (x :: r) e:=fun m n c=>c _ _ _ _ (h m n c) (k m n c)
theorem Tr.Cov.ind {m:∀b l e,Tr.Cov ks b l e→Prop} (nil:∀b,m b [] b (.nil b)) (cons:∀{b x e r} (h:Tr.Cov ks b (Tr.kidsOf ks x) x) (k:Tr.Cov ks (x+1) r e),m _ _ _ h→m _ _ _ k→m b (x :: r) e (.cons h k)) {b:Nat} {l:List Nat} {e:Nat} (h:Tr.Cov ks b l e):m b l e h:=(h (fun b l e=>∃h,m b l e h) (fun b=>⟨_,nil b⟩) (fun _ _ _ _ ⟨h,i⟩ ⟨k,j⟩=>⟨_,cons h k i j⟩)).2
theorem Tr.Cov.inv (h:Tr.Cov ks b l e):(l=[]→b=e)∧∀x r,l=x :: r→Tr.Cov ks b (Tr.kidsOf ks x) x∧Tr.Cov ks (x+1) r e:=by
 induction h using Tr.Cov.ind with
 | nil b=>exact ⟨fun _=>rfl,fun x r h=>(by cases h)⟩
 | cons h k _ _=>exact ⟨fun h=>(by cases h),fun x r e=>(by cases e;exact ⟨h,k⟩)⟩
theorem Tr.Cov.cas {m:Tr.Cov ks b (x :: r) e→Prop} (cons:∀(h:Tr.Cov ks b (Tr.kidsOf ks x) x) (k:Tr.Cov ks (x+1) r e),m (.cons h k)) (h:Tr.Cov ks b (x :: r) e):m h:=cons (h.inv.2 x r rfl).1 (h.inv.2 x r rfl).2
theorem Tr.Cov.nl (h:Tr.Cov ks b [] e):b=e:=h.inv.1 rfl
end
theorem Tr.Cov.le {ks:List (List Nat)} {b e:Nat} {l:List Nat} (h:Tr.Cov ks b l e):b≤e:=by
 induction h using Tr.Cov.ind with
 | nil b=>exact Nat.le_refl _
 | cons _ _ h1 h2=>omega
theorem Tr.Cov.mem {ks:List (List Nat)} {b e y:Nat} {l:List Nat} (h:Tr.Cov ks b l e) (hy:y∈l):b≤y∧y < e:=by
 induction h using Tr.Cov.ind with
 | nil b=>cases hy
 | cons h1 h2 _ h4 =>
  rcases List.mem_cons.1 hy with rfl | hy
  ·have:=h1.le;have:=h2.le;omega
  ·have:=h1.le;have:=h4 hy;omega
theorem Tr.Cov.append {ks:List (List Nat)} {b m e:Nat} {l1 l2:List Nat} (h:Tr.Cov ks b l1 m) (h2:Tr.Cov ks m l2 e):Tr.Cov ks b (l1++l2) e:=by
 induction h using Tr.Cov.ind with
 | nil b=>exact h2
 | cons a1 _ _ ih=>exact .cons a1 (ih h2)
theorem Tr.Cov.split {ks:List (List Nat)}:∀ (l1:List Nat) {l2:List Nat} {b e:Nat},Tr.Cov ks b (l1++l2) e→∃ m,Tr.Cov ks b l1 m∧Tr.Cov ks m l2 e
 | [],_,b,_,h=>⟨b,.nil b,h⟩
 | x :: r,_,_,_,h=>by
  cases h using Tr.Cov.cas with
  | cons h1 h2 =>
   obtain ⟨m,a1,a2⟩:=Tr.Cov.split r h2
   exact ⟨m,.cons h1 a1,a2⟩
theorem Tr.krun_cov (ks:List (List Nat)):∀ (ns:List Tr.Nd) (i:Nat) (op op':List Nat),ks.drop i=(Tr.krun ns i op).1→Tr.Cov ks 0 op i→(Tr.krun ns i op).2=some op'→Tr.Cov ks 0 op' (i+ns.length)
 | [],i,op,op',_,hc,he=>by
  rw [Tr.krun] at he
  cases he
  exact hc
 | x :: r,i,op,op',hd,hc,he=>by
  rw [Tr.krun] at hd he
  split at he
  ·cases he
  ·rename_i hk
   rw [if_neg hk] at hd
   simp only at hd he
   generalize op.length - x.kids.toNat=m at *
   have e0:ks[i]?=some (op.drop m):=by
    have:=congrArg (fun l=>l[0]?) hd
    simpa [List.getElem?_drop] using this
   have e1:ks.drop (i+1)=(Tr.krun r (i+1) (op.take m++[i])).1:=by
    have:=congrArg List.tail hd
    simpa [List.tail_drop] using this
   have ek:Tr.kidsOf ks i=op.drop m:=by unfold Tr.kidsOf;rw [e0];rfl
   obtain ⟨j,c1,c2⟩:=Tr.Cov.split (op.take m) (l2:=op.drop m) (by rw [List.take_append_drop];exact hc)
   have c3:Tr.Cov ks 0 (op.take m++[i]) (i+1):=c1.append (.cons (by rw [ek];exact c2) (.nil _))
   have:=Tr.krun_cov ks r (i+1) _ op' e1 c3 he
   rw [List.length_cons,show i+(r.length+1)=i+1+r.length from by omega]
   exact this
theorem Tr.root_cov {ns:List Tr.Nd} (h:Tr.kidsGood ns=true):Tr.Cov (Tr.kids ns) 0 (Tr.kidsOf (Tr.kids ns) (ns.length - 1)) (ns.length - 1)∧0 < ns.length:=by
 unfold Tr.kidsGood at h
 split at h
 ·cases h
 ·rename_i op ho
  have hl:op.length=1:=by simpa using h
  have hc:=Tr.krun_cov (Tr.kids ns) ns 0 [] op rfl (.nil 0) ho
  rw [Nat.zero_add] at hc
  generalize ns.length=n at hc ⊢
  match op,hl with
  | [r],_ =>
   cases hc using Tr.Cov.cas with
   | cons h1 h2 =>
    cases h2.nl
    exact ⟨by rw [Nat.add_sub_cancel];exact h1,by omega⟩
theorem Tr.faultS_bindsR (k:Nat) (c:Int) (s:Tr.St):(Tr.faultS k c s).binds=s.binds:=by unfold Tr.faultS;split <;> rfl
theorem Tr.dupS_binds (ns:List Tr.Nd) (p:Nat) (seen:List Nat) (s:Tr.St):(Tr.dupS ns p seen s).binds=s.binds:=by
 unfold Tr.dupS
 induction seen generalizing s with
 | nil=>rfl
 | cons x r ih=>rw [List.foldl_cons,ih];split;exact Tr.faultS_bindsR _ _ _;rfl
def Tr.Keep (b e:Nat) (s s':Tr.St):Prop:=∀ j,j < b∨e≤j→s'.binds[j]?=s.binds[j]?
theorem Tr.Keep.refl (b e:Nat) (s:Tr.St):Tr.Keep b e s s:=fun _ _=>rfl
theorem Tr.Keep.of {b e:Nat} {s s':Tr.St} (h:s'.binds=s.binds):Tr.Keep b e s s':=fun _ _=>by rw [h]
theorem Tr.Keep.trans {b e:Nat} {s s1 s2:Tr.St} (h:Tr.Keep b e s s1) (h2:Tr.Keep b e s1 s2):Tr.Keep b e s s2:=fun j hj=>(h2 j hj).trans (h j hj)
theorem Tr.Keep.mono {b e b' e':Nat} {s s':Tr.St} (h:Tr.Keep b e s s') (hb:b'≤b) (he:e≤e'):Tr.Keep b' e' s s':=fun j hj=>h j (by omega)
section
variable {ks:List (List Nat)}
theorem Tr.Keep.fold (G:Nat→Tr.St→Tr.St) (hG:∀ c s b,Tr.Cov ks b (Tr.kidsOf ks c) c→Tr.Keep b (c+1) s (G c s)):∀ (l:List Nat) (s:Tr.St) (b e:Nat),Tr.Cov ks b l e→Tr.Keep b e s (l.foldl (fun s y=>G y s) s)
 | [],s,b,e,_ => .refl b e s
 | x :: r,s,b,e,h=>by
  cases h using Tr.Cov.cas with
  | cons h1 h2 =>
   rw [List.foldl_cons]
   exact ((hG x s b h1).mono (Nat.le_refl _) h2.le).trans ((Tr.Keep.fold G hG r _ _ _ h2).mono (by have:=h1.le;omega) (Nat.le_refl _))
theorem Tr.Keep.par (ns:List Tr.Nd) (G:Nat→List Tr.Kn→Tr.St→Tr.St) (hG:∀ c kn s b,Tr.Cov ks b (Tr.kidsOf ks c) c→Tr.Keep b (c+1) s (G c kn s)) (p:Nat) (seen:List Nat) (kn:List Tr.Kn) (df:Bool) (s:Tr.St) (b:Nat) (h:Tr.Cov ks b (Tr.kidsOf ks p) p):Tr.Keep b (p+1) s (Tr.parS G ns ks p seen kn df s):=by
 unfold Tr.parS
 split
 ·split
  ·exact .of (by rw [Tr.faultS_bindsR,Tr.dupS_binds])
  ·exact .of (Tr.dupS_binds _ _ _ _)
 ·rename_i c tl he
  rw [he] at h
  cases h using Tr.Cov.cas with
  | cons h1 h2 =>
   have hk:=(hG c kn (Tr.dupS ns p seen s) b h1).mono (Nat.le_refl _) (show c+1≤p+1 by have:=h2.le;omega)
   exact (Tr.Keep.of (Tr.dupS_binds _ _ _ _)).trans hk
theorem Tr.Keep.fn (ns:List Tr.Nd) (G:Nat→List Tr.Kn→Tr.St→Tr.St) (hG:∀ c kn s b,Tr.Cov ks b (Tr.kidsOf ks c) c→Tr.Keep b (c+1) s (G c kn s)):∀ (l seen:List Nat) (kn:List Tr.Kn) (df:Bool) (s:Tr.St) (b e:Nat),Tr.Cov ks b l e→Tr.Keep b e s (Tr.fnS G ns ks l seen kn df s)
 | [],_,_,_,s,b,e,_=>by rw [Tr.fnS];exact .refl b e s
 | [x],_,kn,_,s,b,e,h=>by
  rw [Tr.fnS]
  cases h using Tr.Cov.cas with
  | cons h1 h2=>exact (hG x kn s b h1).mono (Nat.le_refl _) h2.le
 | p :: q :: r,seen,kn,df,s,b,e,h=>by
  rw [Tr.fnS]
  cases h using Tr.Cov.cas with
  | cons h1 h2=>exact ((Tr.Keep.par ns G hG p seen kn df s b h1).mono (Nat.le_refl _) h2.le).trans ((Tr.Keep.fn ns G hG (q :: r) _ _ _ _ _ _ h2).mono (by have:=h1.le;omega) (Nat.le_refl _))
theorem Tr.Keep.let_ (G:Nat→List Tr.Kn→Tr.St→Tr.St) (hG:∀ c kn s b,Tr.Cov ks b (Tr.kidsOf ks c) c→Tr.Keep b (c+1) s (G c kn s)) (kn more:List Tr.Kn) (s:Tr.St):∀ (l:List Nat) (b e:Nat),Tr.Cov ks b l e→Tr.Keep b e s (Tr.letS G kn more s l)
 | [],b,e,_=>by rw [Tr.letS];exact .refl b e s
 | x :: r,b,e,h=>by
  rw [Tr.letS]
  cases h using Tr.Cov.cas with
  | cons h1 h2=>exact ((hG x kn s b h1).mono (Nat.le_refl _) h2.le).trans ((Tr.Keep.fold (fun y s=>G y more s) (fun c s b hc=>hG c more s b hc) r _ _ _ h2).mono (by have:=h1.le;omega) (Nat.le_refl _))
theorem Tr.Keep.use (ns:List Tr.Nd) (k:Nat) (kn:List Tr.Kn) (s:Tr.St) (b:Nat) (hb:b≤k):Tr.Keep b (k+1) s (Tr.useS ns k kn s):=by
 unfold Tr.useS
 split
 ·intro j hj;simp only;rw [List.getElem?_set_ne (by omega)]
 ·split
  ·intro j hj;simp only;rw [List.getElem?_set_ne (by omega)]
  ·exact .of (Tr.faultS_bindsR _ _ _)
theorem Tr.Keep.go (ns:List Tr.Nd):∀ (f k b:Nat) (kn:List Tr.Kn) (s:Tr.St),Tr.Cov ks b (Tr.kidsOf ks k) k→Tr.Keep b (k+1) s (Tr.go1 ns ks f k kn s)
 | 0,k,b,kn,s,_=>by rw [Tr.go1];exact .refl _ _ _
 | f+1,k,b,kn,s,h=>by
  have hG:∀ c kn s b,Tr.Cov ks b (Tr.kidsOf ks c) c→Tr.Keep b (c+1) s (Tr.go1 ns ks f c kn s):=fun c kn s b hc=>Tr.Keep.go ns f c b kn s hc
  rw [Tr.go1]
  split
  ·exact Tr.Keep.use ns k kn s b h.le
  ·split
   ·exact .refl _ _ _
   ·split
    ·exact (Tr.Keep.fn ns _ hG _ _ _ _ _ b k h).mono (Nat.le_refl _) (by omega)
    ·split
     ·exact (Tr.Keep.let_ _ hG _ _ _ _ b k h).mono (Nat.le_refl _) (by omega)
     ·exact (Tr.Keep.fold (fun y s=>Tr.go1 ns ks f y kn s) (fun c s b hc=>hG c kn s b hc) _ _ b k h).mono (Nat.le_refl _) (by omega)
end
end Go.Proofs.YthbojbbmpcmoaaaGreatDoor
