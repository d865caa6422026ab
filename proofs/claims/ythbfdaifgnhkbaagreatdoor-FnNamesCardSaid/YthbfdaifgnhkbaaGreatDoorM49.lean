/- Kh, Nk, Kj. -/
import Derived.Test.YthbfdaifgnhkbaaGreatDoorM48
import Derived.Test.YthbfdaifgnhkbaaGreatDoorM27
import Derived.Test.YthbfdaifgnhkbaaGreatDoorM45
import Derived.Deep.RegionHeld3
namespace Go.Proofs.YthbfdaifgnhkbaaGreatDoor
open Go.RowKit
theorem Tr.vgo_kids (ns:List Tr.Nd):∀ (ds:List Tr.Nd) (ks:List (List Nat)) (hs:List Nat),Zx ns (ds.zip ks) hs=true→∀ k (h1:k < ds.length) (h2:k < ks.length),Xo ns ds[k].kind ks[k]=true:=by
 intro ds
 induction ds with
 | nil=>intro ks hs _ k h1;simp at h1
 | cons d r ih =>
  intro ks hs hv k h1 h2
  cases ks with
  | nil=>simp at h2
  | cons x t =>
   simp only [List.zip_cons_cons,Zx,Bool.and_eq_true] at hv
   cases k with
   | zero=>exact hv.1.2
   | succ k=>exact ih t _ hv.2 k (by simpa using h1) (by simpa using h2)
theorem Za {ns:List Tr.Nd} (h:XR ns=true):1≤ns.length∧ns.length≤5000∧Y3 ns=true ∧
  ∀ k (h:k < (Xk ns).length),((Xk ns)[k]).length≤5000∧(X6 ns k=14→((Xk ns)[k]).length=2)∧(X6 ns k=16→1≤((Xk ns)[k]).length)∧(X6 ns k=15∨X6 ns k=20→1≤((Xk ns)[k]).length):=by
 unfold XR at h
 simp only [Bool.and_eq_true] at h
 obtain ⟨⟨⟨h1,_⟩,h3⟩,h4⟩:=h
 have hin:=YR h1
 have hkl:=Zv h3
 refine ⟨by omega,by omega,h3,fun k hk=>?_⟩
 have hkn:k < ns.length:=by omega
 have hok:=Tr.vgo_kids ns ns (Xk ns) [] h4 k hkn hk
 have hsh:=QL ns k hk
 rw [XB hkn]
 generalize (Xk ns)[k]=ls at *
 refine ⟨by omega,fun e=>?_,fun e=>?_,fun e=>?_⟩
 ·rw [e] at hok;simp [Xo] at hok;omega
 ·rw [e] at hok;simp [Xo] at hok;omega
 ·cases ls with
  | nil=>rcases e with e | e <;> (rw [e] at hok;simp [Xo] at hok)
  | cons x r=>simp
def XJ:List Int→Nat→Int × Nat
 | [],_=>(0,0)
 | c :: r,i=>if c=0 then XJ r (i+1) else (c,i)
theorem Jb (l:List Int) (i:Nat) (h:i < l.length):XJ (l.drop i) i=if l[i]=0 then XJ (l.drop (i+1)) (i+1) else (l[i],i):=by
 rw [List.drop_eq_getElem_cons h];rfl
def Xn (ns:List Tr.Nd):Int × Nat:=if XR ns=true then XJ (Zb ns (Xk ns)).codes 0 else (11,0)
theorem two_new (X:World) (a b:Value) (t:TypeId):(X.alloc (.cells #[a,b] t)).cell? ⟨X.heap.size,0,none⟩=some a∧(X.alloc (.cells #[a,b] t)).cell? ⟨X.heap.size,1,none⟩=some b∧(X.alloc (.cells #[a,b] t)).frozen? ⟨X.heap.size,0,none⟩=false∧(X.alloc (.cells #[a,b] t)).frozen? ⟨X.heap.size,1,none⟩=false:=by simp
theorem boxes {w w1:World} {t:Value} {ta tb:TypeId} (h:Below (w.heap.size+1+1) ((w.alloc (.cells #[t] ta)).alloc (.cells #[.int .i64 0,.int .i64 0] tb)) w1) :
  w1.cell? ⟨w.heap.size,0,none⟩=some t∧w1.cell? ⟨w.heap.size+1,0,none⟩=some (.int .i64 0)∧w1.cell? ⟨w.heap.size+1,1,none⟩=some (.int .i64 0)∧w1.frozen? ⟨w.heap.size+1,0,none⟩=false∧w1.frozen? ⟨w.heap.size+1,1,none⟩=false:=by
 have h2:=two_new (w.alloc (.cells #[t] ta)) (.int .i64 0) (.int .i64 0) tb
 rw [World.size_alloc] at h2
 have hb:=(Below.refl (w.heap.size+1) (w.alloc (.cells #[t] ta))).alloc (by simp) (.cells #[.int .i64 0,.int .i64 0] tb)
 have ht:(w.alloc (.cells #[t] ta)).cell? ⟨w.heap.size,0,none⟩=some t:=by simp
 exact ⟨(h.cell (p:=⟨w.heap.size,0,none⟩) (show w.heap.size < w.heap.size+1+1 by omega)).trans ((hb.cell (p:=⟨w.heap.size,0,none⟩) (Nat.lt_succ_self _)).trans ht),(h.cell (p:=⟨w.heap.size+1,0,none⟩) (Nat.lt_succ_self _)).trans h2.1,(h.cell (p:=⟨w.heap.size+1,1,none⟩) (Nat.lt_succ_self _)).trans h2.2.1,(h.frozen (p:=⟨w.heap.size+1,0,none⟩) (Nat.lt_succ_self _)).trans h2.2.2.1,(h.frozen (p:=⟨w.heap.size+1,1,none⟩) (Nat.lt_succ_self _)).trans h2.2.2.2⟩
set_option maxRecDepth 100000 in
set_option maxHeartbeats 4000000 in
theorem check_any (ns:List Tr.Nd) (tg tc:Nat) (w:World) (hn:ns.length≤1048576) (ht:NodesAt w tg ns) :
  Calls Tryz.prog 6 #[.agg #[.slice (some ⟨tg,0,none⟩) ns.length tc]] w fun e w'=>e = .returned (.agg #[.int .i64 (Xn ns).1,.int .i64 (Xn ns).2])∧Below w.heap.size w w':=by
 have r2:Below w.heap.size w ((w.alloc (.cells #[.slice (some ⟨tg,0,none⟩) ns.length tc] 25)).alloc (.cells #[.int .i64 0,.int .i64 0] 28)):=(bA _).alloc (by simp) _
 have HV:=X1 (valid_any ns tg tc _ hn (ht.below r2))
 have HT:=X1 ht
 clear ht
 cases hv:XR ns
 ·have HC:Hid (Xn ns=(11,0)):=X1 (by unfold Xn;rw [hv];rfl)
  rw [hv] at HV
  rw [HC.out]
  go_enter Tryz.func6,Tryz.ntmps6
  go_wp2_with fail
  refine HV.out.mono ?_
  rintro e w1 ⟨rfl,hb1⟩
  rw [World.size_alloc,World.size_alloc] at hb1
  obtain ⟨b0,b1,b2,b3,b4⟩:=boxes hb1
  have hB1:=r2.trans (hb1.mono (by omega))
  clear hb1
  go_wp2
  refine bodyPost_ret (v:= .agg #[.int .i64 11,.int .i64 0]) (by simp [results,Tryz.results6,go_sem,b1,b2]) rfl ⟨rfl,?_⟩
  exact (hB1.setCell (p:=⟨w.heap.size+1,0,none⟩) (by simp) _).setCell (p:=⟨w.heap.size+1,1,none⟩) (by simp) _
 ·obtain ⟨hn1,hn5,hgood,hlen⟩:=Za hv
  have HC:Hid (Xn ns=XJ (Zb ns (Xk ns)).codes 0):=X1 (by unfold Xn;rw [hv];rfl)
  rw [hv] at HV
  have HLK:=X1 (fun w' (hb:Below w.heap.size w w')=>look_any ns tg tc w' hn1 hn5 hgood hlen (HT.out.below hb))
  clear hlen
  go_enter Tryz.func6,Tryz.ntmps6
  go_wp2_with fail
  refine HV.out.mono ?_
  rintro e w1 ⟨rfl,hb1⟩
  rw [World.size_alloc,World.size_alloc] at hb1
  obtain ⟨b0,_⟩:=boxes hb1
  have hB1:=r2.trans (hb1.mono (by omega))
  have hz1:w.heap.size+1+1≤w1.heap.size:=by have:=hb1.size;simpa using this
  go_wp2_with fail
  refine (HLK.out _ hB1).mono ?_
  rintro e w2 ⟨wb,kg,kc,cg,bg,rfl,hF,hD,hcg,hbg,hb2⟩
  have hb12:=hb1.trans (hb2.mono hz1)
  obtain ⟨b0',b1,b2,b3,b4⟩:=boxes hb12
  have hB2:=hB1.trans (hb2.mono hB1.size)
  have hF2:=hF.f2
  have hcl:=hD.lens.1
  have HDD:=X1 hD
  clear hb1 hb2 hb12 hF hD HV HLK b0
  generalize (Zb ns (Xk ns))=st at *
  go_wp2
  go_loop [4] (fun t=>∃ i:Nat,i≤ns.length∧t = .int .i64 i∧XJ st.codes 0=XJ (st.codes.drop i) i) (fun t=>ns.length - (intOf t).toNat)
  case atStart=>exact ⟨0,Nat.zero_le _,rfl,by simp⟩
  case round =>
   obtain ⟨i,hi,rfl,he⟩:=hrel
   have HE:=X1 he
   clear he
   by_cases hlt:i < ns.length
   ·obtain ⟨cc,_⟩:=HDD.out.cellC i hlt
    have HS:=X1 (Jb st.codes i (by omega))
    have hcv:st.codes[i]?.getD 0=st.codes[i]'(by omega):=by simp [hcl,hlt]
    rw [hcv] at cc
    generalize st.codes[i]'(by omega)=c at *
    cases hz:(c == 0)
    ·have HF:Hid (Xn ns=(c,i)):=X1 (by rw [HC.out,HE.out,HS.out,if_neg (by simpa using hz)])
     have hz2:(c != 0)=true:=by simpa using hz
     go_wp2
     refine bodyPost_ret (v:= .agg #[.int .i64 c,.int .i64 i]) (by simp [results,Tryz.results6,go_sem,b1,b2]) rfl ⟨by rw [HF.out],?_⟩
     exact (hB2.setCell (p:=⟨w.heap.size+1,0,none⟩) (by simp) _).setCell (p:=⟨w.heap.size+1,1,none⟩) (by simp) _
    ·have HF:Hid (XJ st.codes 0=XJ (st.codes.drop (i+1)) (i+1)):=X1 (by rw [HE.out,HS.out,if_pos (by simpa using hz)])
     have hz2:(c != 0)=false:=by simpa using hz
     go_wp2
     go_round
     case rel=>exact ⟨i+1,by omega,by go_num,HF.out⟩
     case measure=>simp [intOf];omega
   ·have HF:Hid (Xn ns=(0,0)):=X1 (by rw [HC.out,HE.out,List.drop_of_length_le (by omega)];rfl)
    go_wp2
    refine bodyPost_ret (v:= .agg #[.int .i64 0,.int .i64 0]) (by simp [results,Tryz.results6,go_sem,b1,b2]) rfl ⟨by rw [HF.out];rfl,?_⟩
    exact (hB2.setCell (p:=⟨w.heap.size+1,0,none⟩) (by simp) _).setCell (p:=⟨w.heap.size+1,1,none⟩) (by simp) _
theorem field_code (a b:Int) (W:World):Sem.run Tryz.prog (Instr.field 28 (Value.agg #[.int .i64 a,.int .i64 b]) 0) W = .ok (.int .i64 a) W:=by kernel_rfl
set_option maxHeartbeats 400000 in
theorem fits_any (ns:List Tr.Nd) (tg tc:Nat) (w:World) (hn:ns.length≤1048576) (ht:NodesAt w tg ns) :
  Calls Tryz.prog 16 #[.agg #[.slice (some ⟨tg,0,none⟩) ns.length tc]] w fun e w'=>e = .returned (.bool ((Xn ns).1 == 0))∧Below w.heap.size w w':=by
 have r1:Below w.heap.size w (w.alloc (.cells #[.slice (some ⟨tg,0,none⟩) ns.length tc] 25)):=bA _
 have HC:=X1 (check_any ns tg tc _ hn (ht.below r1))
 clear ht
 generalize Xn ns=c at *
 have hfc:=field_code c.1 c.2
 go_enter Tryz.func16,Tryz.ntmps16
 go_wp2_with fail
 refine HC.out.mono ?_
 rintro e w1 ⟨rfl,hb1⟩
 go_wp2
 go_ret
 exact ⟨rfl,r1.trans (hb1.mono (by simp))⟩
def KidsI (w:World) (kg U:Nat) (ks:List (List Nat)):Prop:=kg < w.heap.size∧U≤w.heap.size∧kg < U∧∀ k (h:k < ks.length),∃ v,w.cell? ⟨kg,k,none⟩=some v∧((v = .slice none 0 0∧ks[k]=[])∨∃ g c,v = .slice (some ⟨g,0,none⟩) (ks[k]).length c∧kg < g∧g < U∧(ks[k]).length≤c∧IntsAt w g 0 ks[k])
theorem KidsI.below {w w':World} {kg U:Nat} {ks:List (List Nat)} (h:KidsI w kg U ks) (hb:Below w.heap.size w w'):KidsI w' kg U ks:=by
 obtain ⟨h1,h2,h3,h4⟩:=h
 refine ⟨Nat.lt_of_lt_of_le h1 hb.size,Nat.le_trans h2 hb.size,h3,fun k hk=>?_⟩
 obtain ⟨v,a,b⟩:=h4 k hk
 refine ⟨v,(hb.cell (p:=⟨kg,k,none⟩) h1).trans a,?_⟩
 rcases b with b | ⟨g,c,b1,b2,b3,b4,b5⟩
 ·exact .inl b
 ·exact .inr ⟨g,c,b1,b2,b3,b4,b5.below hb⟩
theorem KidsI.of_kd {w:World} {n:Nat} {v3:Value} {vs:List Value} {ks:List (List Nat)} {op:List Nat} {wr:World} (h:Kd w n n v3 vs ks op wr):KidsI wr w.heap.size wr.heap.size ks:=by
 have hsz:=h.sz
 refine ⟨hsz,Nat.le_refl _,hsz,fun k hk=>?_⟩
 obtain ⟨v,hv,hp⟩:=h.rows k hk
 have hkl:=h.kl
 have hvl:=h.vl
 refine ⟨v,?_,?_⟩
 ·rw [h.kr.cellAt k (by omega),List.getElem?_append_left (by omega)];exact hv
 ·rcases hp with hp | ⟨g,c,b1,b2,_,b4,b5⟩
  ·exact .inl hp
  ·exact .inr ⟨g,c,b1,by omega,b5.1,b4,b5⟩
abbrev bdO (tg tc kg bg cg n:Nat):Obj:= .cells #[.slice (some ⟨tg,0,none⟩) n tc,.slice (some ⟨kg,0,none⟩) n n,.slice (some ⟨bg,0,none⟩) n n,.slice (some ⟨cg,0,none⟩) n n] 45
theorem bind_made (ns:List Tr.Nd) (ks:List (List Nat)) (tg tc kg U cg bg:Nat) (W:World) (hK:KidsI W kg U ks) (hl:ks.length=ns.length) (hx:∀ x∈ns,x.text.size≤1048576) (ht:NodesAt W tg ns) (h1:cg < kg∨U≤cg) (h2:bg < kg∨U≤bg) (h3:cg≠bg) (h4:tg≠cg) (h5:tg≠bg) (s:Tr.St)
  (hc:W.ownsRow 0 3 1 (.slice (some ⟨cg,0,none⟩) ns.length ns.length) ns.length (s.codes.map vi)) (hb:W.ownsRow 0 3 1 (.slice (some ⟨bg,0,none⟩) ns.length ns.length) ns.length (s.binds.map vi)) :
  Ix ns ks W.heap.size tg tc kg ns.length cg bg (W.alloc (bdO tg tc kg bg cg ns.length))∧Dy ns.length cg bg s (W.alloc (bdO tg tc kg bg cg ns.length))∧Below W.heap.size W (W.alloc (bdO tg tc kg bg cg ns.length)):=by
 have hB:Below W.heap.size W (W.alloc (bdO tg tc kg bg cg ns.length)):=bA _
 have hnew:=Xf W (bdO tg tc kg bg cg ns.length)
 have hcl:=(hc.lt cg rfl).2
 have hbl:=(hb.lt bg rfl).2
 obtain ⟨k1,k2,k3,k4⟩:=hK.below hB
 have hsz:(W.alloc (bdO tg tc kg bg cg ns.length)).heap.size=W.heap.size+1:=by simp
 refine ⟨⟨by omega,by omega,h4,h5,by omega,by omega,by omega,k1,?_,?_,?_,?_,ht.below hB,hx,hl,fun k hk=>?_⟩,⟨h3,hc.alloc _,hb.alloc _⟩,hB⟩
 ·rw [World.cell?,hnew];rfl
 ·rw [World.cell?,hnew];rfl
 ·rw [World.cell?,hnew];rfl
 ·rw [World.cell?,hnew];rfl
 ·obtain ⟨v,a,b⟩:=k4 k hk
  refine ⟨v,a,?_⟩
  rcases b with ⟨b1,b2⟩ | ⟨g,c,b1,b2,b3,b4,b5⟩
  ·exact .inl ⟨none,0,b1,b2⟩
  ·exact .inr ⟨g,0,c,b1,by omega,by omega,b4,b5⟩
set_option maxRecDepth 100000 in
set_option maxHeartbeats 400000 in
theorem Qk (ns:List Tr.Nd) (ks:List (List Nat)) (wb tg tc kg kc cg bg:Nat) (s:Tr.St) (w:World) (hn:ns.length≤5000) (hF:Ix ns ks wb tg tc kg kc cg bg w) (hD:Dy ns.length cg bg s w) :
  Calls Tryz.prog 13 #[.pointer (some ⟨wb,0,none⟩)] w fun e w'=>e = .returned (.agg #[.int .i64 (XJ s.codes 0).1,.int .i64 (XJ s.codes 0).2])∧Below w.heap.size w w':=by
 have hB:Below w.heap.size w (w.alloc (.cells #[.int .i64 0,.int .i64 0] 28)):=bA _
 have f3:=(hB.cell (p:=⟨wb,3,none⟩) hF.wlt).trans hF.f3
 have hlen:=hD.lens.1
 have HD:=X1 (hD.below hB)
 clear hF hD
 go_enter Tryz.func13,Tryz.ntmps13
 go_wp2
 go_loopw [10] (fun t wr=>∃ i:Nat,i≤ns.length∧t = .int .i64 i∧wr=w.alloc (.cells #[.int .i64 0,.int .i64 0] 28)∧XJ s.codes 0=XJ (s.codes.drop i) i) (fun t _=>ns.length - (intOf t).toNat)
 case atStart=>exact ⟨0,Nat.zero_le _,rfl,rfl,rfl⟩
 case round =>
  obtain ⟨i,hi,rfl,rfl,he⟩:=hrel
  have HE:=X1 he
  clear he
  by_cases hlt:i < ns.length
  ·have hc:=(HD.out.cellC i hlt).1
   have HS:=X1 (Jb s.codes i (by omega))
   rw [List.getElem?_eq_getElem (by omega),Option.getD_some] at hc
   generalize s.codes[i]=z at *
   by_cases hz:z=0
   ·subst hz
    have HS2:Hid (XJ s.codes 0=XJ (s.codes.drop (i+1)) (i+1)):=X1 (by rw [HE.out,HS.out,if_pos rfl])
    go_wp2
    go_roundw
    case rel=>exact ⟨i+1,by omega,by go_num,by trivial,HS2.out⟩
    case measure=>simp [intOf];omega
   ·have hzb:(z == 0)=false:=by simpa using hz
    have HS2:Hid (XJ s.codes 0=(z,i)):=X1 (by rw [HE.out,HS.out,if_neg hz])
    go_wp2
    refine bodyPost_ret (v:= .agg #[.int .i64 z,.int .i64 i]) (by simp [results,Tryz.results13,go_sem]) rfl ⟨by rw [HS2.out],?_⟩
    exact bA _
  ·have HS2:Hid (XJ s.codes 0=(0,0)):=X1 (by rw [HE.out,List.drop_of_length_le (by omega)];rfl)
   go_wp2
   refine bodyPost_ret (v:= .agg #[.int .i64 0,.int .i64 0]) (by simp [results,Tryz.results13,go_sem]) rfl ⟨by rw [HS2.out];rfl,?_⟩
   exact bA _
theorem undrew {B:Nat} {W w':World} (h:Below B W.drew w'):Below B W w':=⟨h.os,h.tape,h.output,h.size,h.block⟩
def Bd (ns:List Tr.Nd) (ks:List (List Nat)) (tg tc:Nat) (w:World) (v4:Value) (wx:World):Prop :=
 ∃ wb kg cg bg,v4 = .pointer (some ⟨wb,0,none⟩)∧w.heap.size≤wb∧w.heap.size≤cg∧w.heap.size≤bg∧Ix ns ks wb tg tc kg ns.length cg bg wx∧Dy ns.length cg bg ⟨List.replicate ns.length 0,List.replicate ns.length 0⟩ wx∧Below w.heap.size w wx
theorem bind_a {ns:List Tr.Nd} {ks:List (List Nat)} {tg tc kg cg bg z:Nat} {w w':World} (hn:ns.length≤5000) (hK:KidsI w' kg w'.heap.size ks) (hl:ks.length=ns.length) (hx:∀ x∈ns,x.text.size≤1048576) (ht:NodesAt w tg ns) (hB:Below w.heap.size w w')
  (hcb:cg=w'.heap.size∧bg=w'.heap.size+1∨cg=w'.heap.size+1∧bg=w'.heap.size) (hz:z=w'.heap.size+1+1):Bd ns ks tg tc w (.pointer (some ⟨z,0,none⟩)) (((w'.alloc (mdO ns.length)).alloc (mdO ns.length)).alloc (bdO tg tc kg bg cg ns.length)):=by
 have m0:=K7 w' ns.length 0 (Nat.zero_le _) (by unfold maxLen;omega)
 have m1:=K7 (w'.alloc (mdO ns.length)) ns.length 0 (Nat.zero_le _) (by unfold maxLen;omega)
 rw [World.size_alloc] at m1
 have hB1:Below w'.heap.size w' ((w'.alloc (mdO ns.length)).alloc (mdO ns.length)):=(bA _).alloc (by simp) _
 have htl:=ht.1
 have hsz:=hB.size
 have hw:((w'.alloc (mdO ns.length)).alloc (mdO ns.length)).heap.size=z:=by rw [World.size_alloc,World.size_alloc,hz]
 have ht2:NodesAt ((w'.alloc (mdO ns.length)).alloc (mdO ns.length)) tg ns:=ht.below (hB.trans (hB1.mono hsz))
 have hbm:=bind_made ns ks tg tc kg w'.heap.size cg bg _ (hK.below hB1) hl hx ht2 (by omega) (by omega) (by omega) (by omega) (by omega) ⟨List.replicate ns.length 0,List.replicate ns.length 0⟩
  (by rcases hcb with ⟨rfl,rfl⟩ | ⟨rfl,rfl⟩;exact m0.alloc _;exact m1) (by rcases hcb with ⟨rfl,rfl⟩ | ⟨rfl,rfl⟩;exact m1;exact m0.alloc _)
 rw [hw] at hbm
 exact ⟨z,kg,cg,bg,rfl,by omega,by omega,by omega,hbm.1,hbm.2.1,hB.trans ((hB1.mono hsz).trans (hbm.2.2.mono (by omega)))⟩
theorem bind_b {ns:List Tr.Nd} {ks:List (List Nat)} {tg tc kg cg bg z x:Nat} {w X w':World} (hxs:X.heap.size=x) (hn:ns.length≤5000) (hK:KidsI w' kg w'.heap.size ks) (hkg:kg=x+1) (hl:ks.length=ns.length) (hx:∀ x∈ns,x.text.size≤1048576) (ht:NodesAt w tg ns) (hX:Below w.heap.size w X) (hB:Below (x+1) (X.alloc (mdO ns.length)) w')
  (hcb:cg=x∧bg=w'.heap.size∨cg=w'.heap.size∧bg=x) (hz:z=w'.heap.size+1):Bd ns ks tg tc w (.pointer (some ⟨z,0,none⟩)) ((w'.alloc (mdO ns.length)).alloc (bdO tg tc kg bg cg ns.length)):=by
 subst hxs
 have m0:=K7 X ns.length 0 (Nat.zero_le _) (by unfold maxLen;omega)
 have m0':=Yo m0 (hB.block X.heap.size (Nat.lt_succ_self _))
 have m1:=K7 w' ns.length 0 (Nat.zero_le _) (by unfold maxLen;omega)
 have hB1:Below w'.heap.size w' (w'.alloc (mdO ns.length)):=bA _
 have htl:=ht.1
 have hsx:=hX.size
 have hsz:=hB.size
 rw [World.size_alloc] at hsz
 have hw:(w'.alloc (mdO ns.length)).heap.size=z:=by rw [World.size_alloc,hz]
 have hXw:Below w.heap.size w w':=(hX.alloc (by omega) (mdO ns.length)).trans (hB.mono (by omega))
 have ht2:NodesAt (w'.alloc (mdO ns.length)) tg ns:=ht.below (hXw.trans (hB1.mono (by omega)))
 have hbm:=bind_made ns ks tg tc kg w'.heap.size cg bg _ (hK.below hB1) hl hx ht2 (by omega) (by omega) (by omega) (by omega) (by omega) ⟨List.replicate ns.length 0,List.replicate ns.length 0⟩
  (by rcases hcb with ⟨rfl,rfl⟩ | ⟨rfl,rfl⟩;exact m0'.alloc _;exact m1) (by rcases hcb with ⟨rfl,rfl⟩ | ⟨rfl,rfl⟩;exact m1;exact m0'.alloc _)
 rw [hw] at hbm
 exact ⟨z,kg,cg,bg,rfl,by omega,by omega,by omega,hbm.1,hbm.2.1,hXw.trans ((hB1.mono (by omega)).trans (hbm.2.2.mono (by omega)))⟩
theorem bind_c {ns:List Tr.Nd} {ks:List (List Nat)} {tg tc kg cg bg z x:Nat} {w X w':World} (hxs:X.heap.size=x) (hn:ns.length≤5000) (hK:KidsI w' kg w'.heap.size ks) (hkg:kg=x+1+1) (hl:ks.length=ns.length) (hx:∀ x∈ns,x.text.size≤1048576) (ht:NodesAt w tg ns) (hX:Below w.heap.size w X) (hB:Below (x+1+1) ((X.alloc (mdO ns.length)).alloc (mdO ns.length)) w')
  (hcb:cg=x∧bg=x+1∨cg=x+1∧bg=x) (hz:z=w'.heap.size):Bd ns ks tg tc w (.pointer (some ⟨z,0,none⟩)) (w'.alloc (bdO tg tc kg bg cg ns.length)):=by
 subst hxs
 have m0:=(K7 X ns.length 0 (Nat.zero_le _) (by unfold maxLen;omega)).alloc (mdO ns.length)
 have m1:=K7 (X.alloc (mdO ns.length)) ns.length 0 (Nat.zero_le _) (by unfold maxLen;omega)
 rw [World.size_alloc] at m1
 have m0':=Yo m0 (hB.block X.heap.size (by omega))
 have m1':=Yo m1 (hB.block (X.heap.size+1) (by omega))
 have htl:=ht.1
 have hsx:=hX.size
 have hsz:=hB.size
 rw [World.size_alloc,World.size_alloc] at hsz
 have hXw:Below w.heap.size w w':=((hX.alloc (by omega) (mdO ns.length)).alloc (by simp;omega) (mdO ns.length)).trans (hB.mono (by omega))
 have hbm:=bind_made ns ks tg tc kg w'.heap.size cg bg w' hK hl hx (ht.below hXw) (by omega) (by omega) (by omega) (by omega) (by omega) ⟨List.replicate ns.length 0,List.replicate ns.length 0⟩
  (by rcases hcb with ⟨rfl,rfl⟩ | ⟨rfl,rfl⟩;exact m0';exact m1') (by rcases hcb with ⟨rfl,rfl⟩ | ⟨rfl,rfl⟩;exact m1';exact m0')
 rw [← hz] at hbm
 exact ⟨z,kg,cg,bg,rfl,by omega,by omega,by omega,hbm.1,hbm.2.1,hXw.trans (hbm.2.2.mono (by omega))⟩
set_option maxRecDepth 100000 in
set_option maxHeartbeats 1000000 in
theorem J4 (ns:List Tr.Nd) (tg tc:Nat) (w:World) (hn1:1≤ns.length) (hn5:ns.length≤5000) (hgood:Y3 ns=true)
  (hlen:∀ k (h:k < (Xk ns).length),((Xk ns)[k]).length≤5000∧(X6 ns k=14→((Xk ns)[k]).length=2)∧(X6 ns k=16→1≤((Xk ns)[k]).length)∧(X6 ns k=15∨X6 ns k=20→1≤((Xk ns)[k]).length))
  (hx:∀ x∈ns,x.text.size≤1048576) (hG:GlobB w) (ht:NodesAt w tg ns) :
  Calls Tryz.prog 12 #[.agg #[.slice (some ⟨tg,0,none⟩) ns.length tc]] w fun e w'=>∃ wb kg kc cg bg,e = .returned (.pointer (some ⟨wb,0,none⟩))∧Ix ns (Xk ns) wb tg tc kg kc cg bg w'∧Dy ns.length cg bg (XP ns (Xk ns) ns.length (ns.length - 1) [Z5] (Z3 ns.length)) w'∧w.heap.size≤cg∧w.heap.size≤bg∧Below w.heap.size w w':=by
 have r1:Below w.heap.size w (w.alloc (.cells #[.slice (some ⟨tg,0,none⟩) ns.length tc] 25)):=bA _
 have hkl:=Zv hgood
 have hlt:=Kq ns
 have hmk:=make_eq ns.length hn5
 have HPL:=X1 (fun w' (hb:Below w.heap.size w w')=>places_any ns tg tc w' hn5 hgood (ht.below hb))
 have HLN:=X1 hlen
 have HLT:=X1 hlt
 have HT:=X1 ht
 have HX:=X1 hx
 have HG:=X1 hG
 clear hlen hlt ht hx hG
 generalize hks:Xk ns=ks at *
 go_enter Tryz.func12,Tryz.ntmps12
 have hbx0:(w.alloc (.cells #[.slice (some ⟨tg,0,none⟩) ns.length tc] 25)).cell? ⟨w.heap.size,0,none⟩=some (.slice (some ⟨tg,0,none⟩) ns.length tc):=by simp
 have HPC:Hid (∀ (W:World) (z:Nat),Below w.heap.size w W→W.heap.size=z→Calls Tryz.prog 26 #[.slice (some ⟨tg,0,none⟩) ns.length tc] W fun e w'=>e = .returned (.slice (some ⟨z,0,none⟩) ns.length ns.length)∧(KidsI w' z w'.heap.size ks∧Below z W w'∧z < w'.heap.size)):=X1 (by
  rintro W z hb rfl
  refine (HPL.out W hb).mono ?_
  rintro e w' ⟨vs,v3,op,rfl,hk⟩
  exact ⟨rfl,KidsI.of_kd hk,hk.B,hk.sz⟩)
 clear HPL
 have HXS:Hid ((w.alloc (.cells #[.slice (some ⟨tg,0,none⟩) ns.length tc] 25)).heap.size=w.heap.size+1):=X1 (by simp)
 have HR0:=X1 (show Below w.heap.size w (w.alloc (.cells #[.slice (some ⟨tg,0,none⟩) ns.length tc] 25)).drew from r1.drew)
 have HR1:=X1 (show Below w.heap.size w ((w.alloc (.cells #[.slice (some ⟨tg,0,none⟩) ns.length tc] 25)).alloc (mdO ns.length)).drew from (r1.alloc (by simp) _).drew)
 have HR2:=X1 (show Below w.heap.size w (((w.alloc (.cells #[.slice (some ⟨tg,0,none⟩) ns.length tc] 25)).alloc (mdO ns.length)).alloc (mdO ns.length)).drew from ((r1.alloc (by simp) _).alloc (by rw [World.size_alloc,World.size_alloc];omega) _).drew)
 have HS0:Hid ((w.alloc (.cells #[.slice (some ⟨tg,0,none⟩) ns.length tc] 25)).drew.heap.size=w.heap.size+1):=X1 (by show (w.alloc (.cells #[.slice (some ⟨tg,0,none⟩) ns.length tc] 25)).heap.size=_;simp)
 have HS1:Hid (((w.alloc (.cells #[.slice (some ⟨tg,0,none⟩) ns.length tc] 25)).alloc (mdO ns.length)).drew.heap.size=w.heap.size+1+1):=X1 (by show ((w.alloc (.cells #[.slice (some ⟨tg,0,none⟩) ns.length tc] 25)).alloc (mdO ns.length)).heap.size=_;simp)
 have HS2:Hid ((((w.alloc (.cells #[.slice (some ⟨tg,0,none⟩) ns.length tc] 25)).alloc (mdO ns.length)).alloc (mdO ns.length)).drew.heap.size=w.heap.size+1+1+1):=X1 (by show (((w.alloc (.cells #[.slice (some ⟨tg,0,none⟩) ns.length tc] 25)).alloc (mdO ns.length)).alloc (mdO ns.length)).heap.size=_;simp)
 have hbx1:((w.alloc (.cells #[.slice (some ⟨tg,0,none⟩) ns.length tc] 25)).alloc (mdO ns.length)).cell? ⟨w.heap.size,0,none⟩=some (.slice (some ⟨tg,0,none⟩) ns.length tc):=(((Below.refl (w.heap.size+1) _).alloc (by simp) _).cell (p:=⟨w.heap.size,0,none⟩) (Nat.lt_succ_self _)).trans hbx0
 have hbx2:(((w.alloc (.cells #[.slice (some ⟨tg,0,none⟩) ns.length tc] 25)).alloc (mdO ns.length)).alloc (mdO ns.length)).cell? ⟨w.heap.size,0,none⟩=some (.slice (some ⟨tg,0,none⟩) ns.length tc):=(((Below.refl (w.heap.size+1) _).alloc (by simp) _).cell (p:=⟨w.heap.size,0,none⟩) (Nat.lt_succ_self _)).trans hbx1
 go_upto_region 2 with fail
 go_cut [4] from 9 to 20 (fun v4 wx=>Bd ns ks tg tc w v4 wx)
 case first =>
  go_region_held3 (fun w'=>w'.cell? ⟨w.heap.size,0,none⟩=some (.slice (some ⟨tg,0,none⟩) ns.length tc)) (go_keep) (first
   | (refine ZW rfl 26 (.tmp 12) 23 rfl (.slice (some ⟨tg,0,none⟩) ns.length tc) (.slice (some ⟨w.heap.size+1,0,none⟩) ns.length ns.length) (by simp [Act.eval]) Tryz.f26 Tryz.func26 (by kernel_rfl) (by kernel_rfl) _ (HPC.out _ (w.heap.size+1) HR0.out HS0.out) ?_;intro w5 hw5;have hbx:w5.cell? ⟨w.heap.size,0,none⟩=some (.slice (some ⟨tg,0,none⟩) ns.length tc):=(hw5.2.1.cell (p:=⟨w.heap.size,0,none⟩) (show w.heap.size < w.heap.size+1 by omega)).trans hbx0)
   | (refine ZW rfl 26 (.tmp 12) 23 rfl (.slice (some ⟨tg,0,none⟩) ns.length tc) (.slice (some ⟨w.heap.size+1+1,0,none⟩) ns.length ns.length) (by simp [Act.eval]) Tryz.f26 Tryz.func26 (by kernel_rfl) (by kernel_rfl) _ (HPC.out _ (w.heap.size+1+1) HR1.out HS1.out) ?_;intro w5 hw5;have hbx:w5.cell? ⟨w.heap.size,0,none⟩=some (.slice (some ⟨tg,0,none⟩) ns.length tc):=(hw5.2.1.cell (p:=⟨w.heap.size,0,none⟩) (show w.heap.size < w.heap.size+1+1 by omega)).trans hbx1)
   | (refine ZW rfl 26 (.tmp 12) 23 rfl (.slice (some ⟨tg,0,none⟩) ns.length tc) (.slice (some ⟨w.heap.size+1+1+1,0,none⟩) ns.length ns.length) (by simp [Act.eval]) Tryz.f26 Tryz.func26 (by kernel_rfl) (by kernel_rfl) _ (HPC.out _ (w.heap.size+1+1+1) HR2.out HS2.out) ?_;intro w5 hw5;have hbx:w5.cell? ⟨w.heap.size,0,none⟩=some (.slice (some ⟨tg,0,none⟩) ns.length tc):=(hw5.2.1.cell (p:=⟨w.heap.size,0,none⟩) (show w.heap.size < w.heap.size+1+1+1 by omega)).trans hbx2)
   | fail)
  all_goals
   go_wp2_with fail
   go_meet
   case rel =>
    first
    | exact bind_a hn5 hw5.1 hkl HX.out HT.out (HR0.out.trans (hw5.2.1.mono (by omega))) (.inl ⟨rfl,rfl⟩) rfl
    | exact bind_a hn5 hw5.1 hkl HX.out HT.out (HR0.out.trans (hw5.2.1.mono (by omega))) (.inr ⟨rfl,rfl⟩) rfl
    | exact bind_b HXS.out hn5 hw5.1 rfl hkl HX.out HT.out r1 (undrew hw5.2.1) (.inl ⟨rfl,rfl⟩) rfl
    | exact bind_b HXS.out hn5 hw5.1 rfl hkl HX.out HT.out r1 (undrew hw5.2.1) (.inr ⟨rfl,rfl⟩) rfl
    | exact bind_c HXS.out hn5 hw5.1 rfl hkl HX.out HT.out r1 (undrew hw5.2.1) (.inl ⟨rfl,rfl⟩) rfl
    | exact bind_c HXS.out hn5 hw5.1 rfl hkl HX.out HT.out r1 (undrew hw5.2.1) (.inr ⟨rfl,rfl⟩) rfl
 case rest =>
  obtain ⟨wb,kg,cg,bg,rfl,hwb,hcg,hbg,hIx,hDy,hBx⟩:=hcut
  have HIX:=X1 hIx
  have f2:=hIx.f2
  have HBX:=X1 hBx
  have hcl:=(hDy.c.lt cg rfl).2
  have hbl:=(hDy.b.lt bg rfl).2
  have HDY:=X1 hDy
  clear hIx hDy hBx HPC HR0 HR1 HR2 HS0 HS1 HS2 hbx0 hbx1 hbx2
  go_wp2
  go_loopw [25] (fun t wr=>∃ i:Nat,i≤ns.length∧t = .int .i64 i∧Kp cg bg wc wr∧Dy ns.length cg bg ⟨List.replicate ns.length 0,List.replicate i (-1)++List.replicate (ns.length - i) 0⟩ wr) (fun t _=>ns.length - (intOf t).toNat)
  case atStart=>exact ⟨0,Nat.zero_le _,rfl,Kp.refl _ _ _,HDY.out⟩
  case round =>
   obtain ⟨i,hi,rfl,hK,hDr⟩:=hrel
   have HFr:=X1 (HIX.out.kept hK)
   have f2r:=HFr.out.f2
   have HDr:=X1 hDr
   by_cases hlt:i < ns.length
   ·obtain ⟨cb,fb⟩:=hDr.cellB i hlt
    have HRS:=X1 (rep_set ns.length i hlt)
    clear hDr
    go_wp2
    go_roundw
    case rel =>
     refine ⟨i+1,by omega,by go_num,hK.setCell _ _ (.inr rfl),?_⟩
     have:=HDr.out.setB i (-1)
     rw [HRS.out] at this
     exact this
    case measure=>simp [intOf];omega
   ·obtain rfl:i=ns.length:=by omega
    have hst:(⟨List.replicate ns.length 0,List.replicate ns.length (-1)++List.replicate (ns.length - ns.length) 0⟩:Tr.St)=Z3 ns.length:=by unfold Z3;rw [Nat.sub_self,List.replicate_zero,List.append_nil]
    rw [hst] at HDr
    obtain ⟨m,hm⟩:∃ m,ns.length=m+1:=⟨ns.length - 1,by omega⟩
    have hsz:=hK.size
    have hgl:=HG.out.1
    have hszx:=HBX.out.size
    have HGr:Hid (GlobB wr):=X1 ⟨by omega,fun j hj=>((hK.cell (p:=⟨0,j,none⟩) (show 0 < wc.heap.size by omega) (show 0≠cg by omega) (show 0≠bg by omega)).trans (HBX.out.cell (p:=⟨0,j,none⟩) hgl)).trans (HG.out.2 j hj)⟩
    clear hDr hst
    have HM1:Hid (ns.length - 1=m):=X1 (by omega)
    have hmi:(ns.length:Int)=(m:Int)+1:=by omega
    go_wp2_with fail
    refine (builtScope_any cg bg _ HGr.out (by omega) (by omega)).mono ?_
    rintro e w6 ⟨rfl,hb6,hch6⟩
    have HWK:=X1 (walk_any ns ks wb tg tc kg ns.length cg bg hn5 HLT.out HLN.out ns.length m _ _ _ w6 (by omega) (by omega) (HFr.out.kept (Kp.of_below hb6)) (HDr.out.below hb6) hch6)
    clear hch6
    go_wp2_with fail
    refine HWK.out.mono ?_
    rintro e w7 ⟨rfl,hk7,hd7⟩
    have HK7:=X1 ((hK.below hb6).trans hk7)
    go_wp2
    go_ret
    refine ⟨wb,kg,ns.length,cg,bg,rfl,HIX.out.kept HK7.out,?_,hcg,hbg,?_⟩
    ·rw [HM1.out];exact hd7
    ·have h7:=HK7.out
     have hx:=HBX.out
     exact ⟨h7.os.trans hx.os,h7.tape.trans hx.tape,h7.output.trans hx.output,Nat.le_trans hx.size h7.size,fun b hb=>(h7.block b (by omega) (by omega) (by omega)).trans (hx.block b hb)⟩
def XV (ns:List Tr.Nd):Bool:=(Xn ns).1 == 0
theorem KH {ns:List Tr.Nd} (h:XV ns=true):XR ns=true:=by
 unfold XV Xn at h
 cases hv:XR ns
 ·rw [hv] at h;simp at h
 ·rfl
def XC (ns:List Tr.Nd):List Int:=if XV ns=true then (Zb ns (Xk ns)).binds else []
set_option maxRecDepth 100000 in
set_option maxHeartbeats 2000000 in
theorem binds_any (ns:List Tr.Nd) (tg tc:Nat) (w:World) (hn:ns.length≤1048576) (ht:NodesAt w tg ns) :
  Calls Tryz.prog 8 #[.agg #[.slice (some ⟨tg,0,none⟩) ns.length tc]] w fun e w'=>∃ g,e = .returned (.slice (some ⟨g,0,none⟩) (XC ns).length (XC ns).length)∧w.heap.size≤g∧w'.ownsRow 0 3 1 (.slice (some ⟨g,0,none⟩) (XC ns).length (XC ns).length) (XC ns).length ((XC ns).map vi)∧Below w.heap.size w w':=by
 have r1:Below w.heap.size w (w.alloc (.cells #[.slice (some ⟨tg,0,none⟩) ns.length tc] 25)):=bA _
 have HFT:=X1 (fits_any ns tg tc _ hn (ht.below r1))
 have HT:=X1 ht
 clear ht
 cases hf:XV ns
 ·have HFT2:=HFT.out
  rw [show ((Xn ns).1 == 0)=false from hf] at HFT2
  replace HFT2:=X1 HFT2
  have HB:Hid (XC ns=[]):=X1 (by unfold XC;rw [hf];rfl)
  go_enter Tryz.func8,Tryz.ntmps8
  go_wp2_with fail
  refine HFT2.out.mono ?_
  rintro e w1 ⟨rfl,hb1⟩
  have hB1:=r1.trans (hb1.mono (by simp))
  go_wp2
  go_ret
  refine ⟨w1.heap.size,by rw [HB.out];rfl,hB1.size,?_,hB1.alloc hB1.size _⟩
  rw [HB.out]
  exact World.ownsRow_lit (base:=0) (e:=3) (size:=1) w1 #[] 0 (Nat.zero_le _) (Nat.zero_le _) rfl
 ·obtain ⟨hn1,hn5,hgood,hlen⟩:=Za (KH hf)
  have HFT2:=HFT.out
  rw [show ((Xn ns).1 == 0)=true from hf] at HFT2
  replace HFT2:=X1 HFT2
  have HB:Hid (XC ns=(Zb ns (Xk ns)).binds):=X1 (by unfold XC;rw [hf];rfl)
  have HLK:=X1 (fun w' (hb:Below w.heap.size w w')=>look_any ns tg tc w' hn1 hn5 hgood hlen (HT.out.below hb))
  clear hlen HFT
  go_enter Tryz.func8,Tryz.ntmps8
  go_wp2_with fail
  refine HFT2.out.mono ?_
  rintro e w1 ⟨rfl,hb1⟩
  have hB1:=r1.trans (hb1.mono (by simp))
  have b0:w1.cell? ⟨w.heap.size,0,none⟩=some (.slice (some ⟨tg,0,none⟩) ns.length tc):=(hb1.cell (p:=⟨w.heap.size,0,none⟩) (by simp)).trans (by simp)
  clear hb1
  go_wp2_with fail
  refine (HLK.out _ hB1).mono ?_
  rintro e w2 ⟨wb,kg,kc,cg,bg,rfl,hF,hD,hcg,hbg,hb2⟩
  have hF3:=hF.f3
  have hbl:=hD.lens.2
  have hB2:=hB1.trans (hb2.mono hB1.size)
  have HDD:=X1 hD
  have hz:=hB1.size
  clear hb2 hF hD HLK b0
  go_wp2
  go_ret
  refine ⟨bg,?_,by omega,?_,hB2⟩
  ·rw [HB.out,hbl];rfl
  ·rw [HB.out,hbl];exact HDD.out.b
end Go.Proofs.YthbfdaifgnhkbaaGreatDoor
