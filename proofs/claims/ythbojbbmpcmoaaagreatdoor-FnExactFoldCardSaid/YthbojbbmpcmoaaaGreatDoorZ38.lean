/- Fp3, Fp4, Fp5, Fp6. -/
import Derived.Test.YthbojbbmpcmoaaaGreatDoorZ34
namespace Go.Proofs.YthbojbbmpcmoaaaGreatDoor
open Go.RowKit
theorem Fd.fin13 (O:FOp) (F:Fd→Fd) {x:Tr.Nd} (h:x.kind=13) (p b:Int) (k l m:Fd):Fd.fin O F x p b [k,l,m]=if k.x.kind=2 then (if k.x.n=1 then l else m) else .mk x p b [k,l,m]:=by
 unfold Fd.fin
 rw [if_neg (by omega),if_neg (by omega),if_pos h]
theorem Fd.pt_three {B:Nat→Prop} {w:World} {x:Tr.Nd} {p b:Int} {k l m:Fd} {v:Value} (h:Fd.Pt B w (.mk x p b [k,l,m]) v):∃ g c v0 v1 v2,v=Ip.pv (Fd.nk x 3) (.slice (some ⟨g,0,none⟩) 3 c)∧B g∧w.cell? ⟨g,0,none⟩=some v0∧w.cell? ⟨g,1,none⟩=some v1∧w.cell? ⟨g,2,none⟩=some v2∧Fd.Pt B w k v0∧Fd.Pt B w l v1∧Fd.Pt B w m v2:=by
 obtain ⟨sl,xs,h1,h2,h3,h4⟩:=(Fd.pt_mk _ _ _ _ _ _ _).1 h
 obtain ⟨g,c,rfl⟩:=row_posF h2 (by simp)
 obtain ⟨v0,s,rfl,q1,h5⟩:=(Fd.ptL_cons _ _ _ _).1 h4
 obtain ⟨v1,s,rfl,q2,h6⟩:=(Fd.ptL_cons _ _ _ _).1 h5
 obtain ⟨v2,s,rfl,q3,h7⟩:=(Fd.ptL_cons _ _ _ _).1 h6
 exact ⟨g,c,v0,v1,v2,h1,h3 g rfl,row_cellF h2 rfl,row_cellF h2 rfl,row_cellF h2 rfl,q1,q2,q3⟩
theorem eql_node (k o n c k' o' n' c':Int) (t t':ByteArray) (w:World):(binOp .eql 64 (.agg #[.int .i64 k,.int .i64 o,.int .i64 n,.string t,.int .i64 c]) (.agg #[.int .i64 k',.int .i64 o',.int .i64 n',.string t',.int .i64 c'])).run Tryz.prog w = .ok (.bool (k == k' && (o == o' && (n == n' && ((t.toList == t'.toList) && c == c'))))) w:=by
 have u1:=Tryz.underlying3
 have u2:=Tryz.underlying2
 have u3:=Tryz.underlying9
 have hS:Tryz.prog.underlying 64=some (.struct (Tryz.prog.fieldsOf 64)):=by kernel_rfl
 have hp:Tryz.prog.stoodInHeld 64=false:=by kernel_rfl
 rw [run_eql_struct,show (10000:Nat)=9999+1 from rfl,run_equalIn_agg w 9999 64 _ _ hS hp]
 simp only [Program.fieldsOf,Tryz.underlying64]
 go_simp
 by_cases h1:k=k' <;> by_cases h2:o=o' <;> by_cases h3:n=n' <;> by_cases h4:t.toList=t'.toList <;> by_cases h5:c=c' <;> simp [h1,h2,h3,h4,h5]
theorem eql_bool {x:Tr.Nd} (h:Fd.isC x→Fd.CN x) (c z:Int) (hc:x.kind=2→c=0) (w:World):(binOp .eql 64 (.agg #[.int .i64 x.kind,.int .i64 x.op,.int .i64 x.n,.string x.text,.int .i64 c]) (.agg #[.int .i64 2,.int .i64 0,.int .i64 z,.string ⟨#[]⟩,.int .i64 0])).run Tryz.prog w = .ok (.bool (decide (x.kind=2∧x.n=z))) w:=by
 rw [eql_node]
 by_cases hk:x.kind=2
 ·have hn:=h ⟨by omega,by omega⟩
  rw [hk,hn.op,hn.text (by omega),hc hk]
  by_cases h3:x.n=z <;> simp [h3]
 ·rw [decide_eq_false (fun e=>hk e.1)]
  simp [hk]
theorem truth1 (w:World):Calls Tryz.prog 264 #[.bool true] w fun e w'=>e = .returned (.agg #[.int .i64 2,.int .i64 0,.int .i64 1,.string ⟨#[]⟩,.int .i64 0])∧Below w.heap.size w w':=truth_any true w
theorem truth0 (w:World):Calls Tryz.prog 264 #[.bool false] w fun e w'=>e = .returned (.agg #[.int .i64 2,.int .i64 0,.int .i64 0,.string ⟨#[]⟩,.int .i64 0])∧Below w.heap.size w w':=truth_any false w
set_option maxRecDepth 100000 in
set_option maxHeartbeats 4000000 in
theorem ifAnew_any {O:FOp} (hO:Fd.Fine O) {fb f:Nat} (o m c0:Int) (t:ByteArray) (p b:Int) (k l j:Fd) (B:Nat→Prop) (sp:Option Addr) (sc:Nat) (w:World) (hA:Anw O fb f B w ⟨13,o,m,t,c0⟩ p b [k,l,j] sp sc) (hGk:Fd.Good k) :
  Calls Tryz.prog 273 #[Ip.ag 13 o m 3 t (.slice sp 3 sc),pt fb] w fun e w'=>∃ z,e = .returned z∧AnPost B w (Fd.fold O (f+1) (.mk ⟨13,o,m,t,c0⟩ p b [k,l,j])) z w':=by
 have HF:=hide (show Fd.fold O (f+1) (.mk ⟨13,o,m,t,c0⟩ p b [k,l,j])=_ from (Fd.fold_succ O f ⟨13,o,m,t,c0⟩ p b [k,l,j]).trans (Fd.fin13 O (Fd.fold O f) (x:=⟨13,o,m,t,c0⟩) rfl p b (Fd.fold O f k) (Fd.fold O f l) (Fd.fold O f j)))
 have HGK:=hide (Fd.good_fold hO f k hGk)
 have HST:=hide hA.stem
 have HB:=hide hA.inB
 have hmap:[k,l,j].map (Fd.fold O f)=[Fd.fold O f k,Fd.fold O f l,Fd.fold O f j]:=rfl
 rw [hmap] at HST
 have HE:Hid ([k,l,j].length=3):=hide rfl
 rw [HE.out] at HST
 clear hA hGk hmap HE
 generalize Fd.fold O f k=k' at *
 generalize Fd.fold O f l=l' at *
 generalize Fd.fold O f j=j' at *
 have b0:Below w.heap.size w (w.alloc (stO 201 13 o m 3 t (.slice sp 3 sc))):=bA _
 have HB0:=hide b0
 clear b0
 go_enter Tryz.func273,Tryz.ntmps273
 go_wp2_with fail
 refine (HST.out _ HB0.out).mono ?_
 rintro e w1 ⟨z1,rfl,hp1⟩
 have HP1:=hide (hp1.from HB0.out)
 clear hp1 HST
 obtain ⟨g1,c1,v0,v1,v2,rfl,hg1,hv0,hv1,hv2,hk',hl',hj'⟩:=Fd.pt_three HP1.out.1
 have hgl:g1 < w1.heap.size:=hg1.elim (fun e=>Nat.lt_of_lt_of_le (HB.out g1 e) HP1.out.2.size) (fun e=>e.2)
 obtain ⟨p0,n0,cc0,hr0⟩:=Fd.pt_root hk'
 subst hr0
 obtain ⟨t1,u1,hr1⟩:=hl'.iface
 subst hr1
 obtain ⟨t2,u2,hr2⟩:=hj'.iface
 subst hr2
 have HL':=hide hl'
 have HJ':=hide hj'
 have HV0:=hide hv0
 have HV1:=hide hv1
 have HV2:=hide hv2
 have hmk:=meth_kids 13 o m 3 t (.slice (some ⟨g1,0,none⟩) 3 c1)
 have HKD:=hide (fun w=>ikids_at 13 o m 3 t (.slice (some ⟨g1,0,none⟩) 3 c1) ⟨_,_,_,rfl⟩ w)
 have hms:=meth_self k'.x.kind k'.x.op k'.x.n (k'.ks.length:Nat) k'.x.text (.slice p0 n0 cc0)
 have HSF:=hide (fun w=>iself_at k'.x.kind k'.x.op k'.x.n (k'.ks.length:Nat) k'.x.text (.slice p0 n0 cc0) ⟨_,_,_,rfl⟩ w)
 have hkc:k'.x.kind=2→((k'.ks.length:Nat):Int)=0:=fun h=>by rw [(HGK.out.const ⟨by omega,by omega⟩).2];rfl
 have E1:=eql_bool (fun h=>(HGK.out.const h).1) (k'.ks.length:Nat) 1 hkc
 have E0:=eql_bool (fun h=>(HGK.out.const h).1) (k'.ks.length:Nat) 0 hkc
 have HBI:Hid (k'.x.kind=2→k'.x.n=0∨k'.x.n=1):=hide (fun h=>(HGK.out.const ⟨by omega,by omega⟩).1.bit h)
 have hnk:Ip.pv (Fd.nk k'.x k'.ks.length) (.slice p0 n0 cc0)=Ip.pv ⟨k'.x.kind,k'.x.op,k'.x.n,k'.x.text,(k'.ks.length:Nat)⟩ (.slice p0 n0 cc0):=rfl
 rw [hnk] at HV0
 clear hk' hl' hj' hv0 hv1 hv2 hnk hkc HGK
 have hcase:(decide (k'.x.kind=2∧k'.x.n=1)=true∧(if k'.x.kind=2 then (if k'.x.n=1 then l' else j') else .mk ⟨13,o,m,t,c0⟩ p b [k',l',j'])=l')∨(decide (k'.x.kind=2∧k'.x.n=1)=false∧decide (k'.x.kind=2∧k'.x.n=0)=true∧(if k'.x.kind=2 then (if k'.x.n=1 then l' else j') else .mk ⟨13,o,m,t,c0⟩ p b [k',l',j'])=j')∨(decide (k'.x.kind=2∧k'.x.n=1)=false∧decide (k'.x.kind=2∧k'.x.n=0)=false∧(if k'.x.kind=2 then (if k'.x.n=1 then l' else j') else .mk ⟨13,o,m,t,c0⟩ p b [k',l',j']) = .mk ⟨13,o,m,t,c0⟩ p b [k',l',j']):=by
  by_cases h2:k'.x.kind=2
  ·rw [if_pos h2]
   rcases HBI.out h2 with h | h
   ·exact .inr (.inl ⟨decide_eq_false (fun e=>by omega),decide_eq_true ⟨h2,h⟩,if_neg (by omega)⟩)
   ·exact .inl ⟨decide_eq_true ⟨h2,h⟩,if_pos h⟩
  ·rw [if_neg h2]
   exact .inr (.inr ⟨decide_eq_false (fun e=>h2 e.1),decide_eq_false (fun e=>h2 e.1),rfl⟩)
 have HCS:=hide hcase
 clear hcase
 obtain ⟨Y,hY⟩:∃ Y,Y=(if k'.x.kind=2 then (if k'.x.n=1 then l' else j') else .mk ⟨13,o,m,t,c0⟩ p b [k',l',j']):=⟨_,rfl⟩
 unfold Fd.nk Ip.pv at *
 go_wp2_with fail
 refine (HKD.out _).mono ?_
 rintro e w2 ⟨rfl,hb2⟩
 have HB2:=hide hb2
 have e0:=(hb2.cell (p:=⟨g1,0,none⟩) hgl).trans HV0.out
 clear hb2 HKD
 go_wp2_with fail
 refine (HSF.out _).mono ?_
 rintro e w3 ⟨rfl,hb3⟩
 have HB3:=hide (HB2.out.trans (hb3.mono HB2.out.size))
 clear hb3 HSF HB2 e0 hY Y
 go_wp2_with fail
 refine (truth1 _).mono ?_
 rintro e w4 ⟨rfl,hb4⟩
 have HB4:=hide (HB3.out.trans (hb4.mono HB3.out.size))
 clear hb4 HB3
 rcases HCS.out with ⟨d1,hr⟩ | ⟨d1,d0,hr⟩ | ⟨d1,d0,hr⟩
 ·rw [d1] at E1
  have e1:=(HB4.out.cell (p:=⟨g1,1,none⟩) hgl).trans HV1.out
  have HR:Hid (AnPost B w l' (.iface t1 u1) w4):=hide ((show AnPost B w l' (.iface t1 u1) w1 from ⟨HL'.out,HP1.out.2⟩).below HB.out HB4.out)
  have HRR:=hide hr
  clear d1 E0 hr HCS HBI
  go_wp2
  go_ret
  exact ⟨_,rfl,by rw [HF.out,HRR.out];exact HR.out⟩
 ·rw [d1] at E1
  rw [d0] at E0
  have HRR:=hide hr
  clear d1 d0 hr HCS HBI
  go_wp2_with fail
  refine (truth0 _).mono ?_
  rintro e w5 ⟨rfl,hb5⟩
  have HB5:=hide (HB4.out.trans (hb5.mono HB4.out.size))
  have e2:=(HB5.out.cell (p:=⟨g1,2,none⟩) hgl).trans HV2.out
  have HR:Hid (AnPost B w j' (.iface t2 u2) w5):=hide ((show AnPost B w j' (.iface t2 u2) w1 from ⟨HJ'.out,HP1.out.2⟩).below HB.out HB5.out)
  clear hb5
  go_wp2
  go_ret
  exact ⟨_,rfl,by rw [HF.out,HRR.out];exact HR.out⟩
 ·rw [d1] at E1
  rw [d0] at E0
  have HRR:=hide hr
  clear d1 d0 hr HCS HBI
  go_wp2_with fail
  refine (truth0 _).mono ?_
  rintro e w5 ⟨rfl,hb5⟩
  have HB5:=hide (HB4.out.trans (hb5.mono HB4.out.size))
  have HR:=hide (HP1.out.below HB.out HB5.out)
  clear hb5
  go_wp2
  go_ret
  exact ⟨_,rfl,by rw [HF.out,HRR.out];exact HR.out⟩
theorem Fd.fin6 (O:FOp) (F:Fd→Fd) {x:Tr.Nd} (h:x.kind=6) (p b:Int) (k:Fd):Fd.fin O F x p b [k]=if Fd.isC k.x then Fd.back (.mk x p b [k]) (O.un x.op k.x) else .mk x p b [k]:=by
 unfold Fd.fin
 rw [if_pos h]
theorem Fd.fin7 (O:FOp) (F:Fd→Fd) {x:Tr.Nd} (h:x.kind=7) (p b:Int) (k l:Fd):Fd.fin O F x p b [k,l]=if Fd.stops x.op k.x then k else if Fd.isC k.x∧Fd.isC l.x then Fd.back (.mk x p b [k,l]) (O.bin x.op k.x l.x) else .mk x p b [k,l]:=by
 unfold Fd.fin
 rw [if_neg (by omega),if_pos h]
theorem Fd.pt_kid1 {B:Nat→Prop} {w:World} {x:Tr.Nd} {p b:Int} {k:Fd} {v:Value} (h:Fd.Pt B w (.mk x p b [k]) v):∃ g c v0,v=Ip.pv (Fd.nk x 1) (.slice (some ⟨g,0,none⟩) 1 c)∧B g∧w.cell? ⟨g,0,none⟩=some v0∧Fd.Pt B w k v0:=by
 obtain ⟨sl,xs,h1,h2,h3,h4⟩:=(Fd.pt_mk _ _ _ _ _ _ _).1 h
 obtain ⟨g,c,rfl⟩:=row_posF h2 (by simp)
 obtain ⟨v0,s,rfl,q1,h5⟩:=(Fd.ptL_cons _ _ _ _).1 h4
 exact ⟨g,c,v0,h1,h3 g rfl,row_cellF h2 rfl,q1⟩
theorem Fd.tn_good {x:Tr.Nd} (h:Fd.CN x):(Fd.tn x).good=true∧(Fd.tn x).kind≤4∧Vl.in64 (Fd.tn x).num:=by
 have h1:=h.c
 unfold Fd.isC at h1
 have h0:=h.n0
 have h2:=h.n1
 refine ⟨?_,h1.2,?_⟩
 ·rw [Vl.T.good_eq]
  have hp:Vl.plain (Fd.tn x).kind (Fd.tn x).num (Fd.tn x).text (Fd.tn x).ks=true:=by
   show Vl.plain x.kind x.n x.text []=true
   have hk:x.kind=1∨x.kind=2∨x.kind=3∨x.kind=4:=by omega
   unfold Vl.plain
   rcases hk with e | e | e | e
   ·rw [h.zero (by omega) (by omega),h.text (by omega),e];decide +kernel
   ·rw [h.text (by omega),e]
    rcases h.bit e with e2 | e2 <;> rw [e2] <;> decide +kernel
   ·rw [h.text (by omega),e]
    simp
    rfl
   ·have hl:=h.long
    rw [h.zero (by omega) (by omega),e]
    simp [hl]
  rw [hp]
  rfl
 ·show Vl.in64 x.n
  unfold Vl.in64
  omega
theorem un_fine (op:Int) (t:Vl.T):(Vl.unOut op t).fine:=by
 unfold Vl.unOut
 split
 ·split
  ·trivial
  ·show Vl.tyW≠[];decide
 ·split
  ·cases Vl.fit64 (0 - t.num) with
   | none=>show Vl.rgW≠[];decide
   | some z=>trivial
  ·show Vl.tyW≠[];decide
theorem fit_ge {p z:Int} (h:Vl.fit64 p=some z):-9223372036854775808≤z:=by
 unfold Vl.fit64 at h
 split at h
 ·cases h;omega
 ·cases h
def Fd.og (o:Vl.Out):Prop:=o.fine∧∀ t,o = .inr t→ -9223372036854775808≤t.num
theorem Fd.og_word {l:List UInt8} (h:l≠[]):Fd.og (.inl l):=⟨h,fun t e=>by cases e⟩
theorem Fd.og_bool (b:Bool):Fd.og (.inr (Vl.boolT b)):=⟨trivial,fun t e=>by cases e;cases b <;> decide⟩
theorem Fd.og_int {z:Int} (h:-9223372036854775808≤z):Fd.og (.inr (Vl.intT z)):=⟨trivial,fun t e=>by cases e;exact h⟩
theorem Fd.og_num {r:Option Int} {l:List UInt8} (h:l≠[]) (h2:∀ z,r=some z→ -9223372036854775808≤z):Fd.og (Vl.numOut r l):=by
 cases r with
 | none=>exact Fd.og_word h
 | some z=>exact Fd.og_int (h2 z rfl)
theorem Fd.og_ite {c:Prop} [Decidable c] {a b:Vl.Out} (ha:c→Fd.og a) (hb:¬ c→Fd.og b):Fd.og (if c then a else b):=by
 by_cases h:c
 ·rw [if_pos h];exact ha h
 ·rw [if_neg h];exact hb h
theorem Fd.og_ty:Fd.og (.inl Vl.tyW):=Fd.og_word (by decide)
theorem Fd.og_either:∀ l:List Vl.Out,(∀ o∈l,Fd.og o)→Fd.og (Vl.eitherOut l)
 | [],_=>Fd.og_ty
 | o :: r,h=>by
  rw [Vl.eitherOut]
  split
  ·exact Fd.og_either r (fun o ho=>h o (by simp [ho]))
  ·exact h o (by simp)
theorem Fd.og_un (op:Int) (t:Vl.T):Fd.og (Vl.unOut op t):=by
 unfold Vl.unOut
 exact Fd.og_ite (fun _=>Fd.og_ite (fun _=>Fd.og_bool _) fun _=>Fd.og_ty) fun _=>Fd.og_ite (fun _=>Fd.og_num (by decide) fun z h=>fit_ge h) fun _=>Fd.og_ty
theorem Fd.og_bin (op:Int) (x y:Tr.Nd) (hx:Fd.CN x) (hy:Fd.CN y):Fd.og (Vl.binOut op (Fd.tn x) (Fd.tn y)):=by
 unfold Vl.binOut
 have cm:∀ (c:Prop) [Decidable c] b,Fd.og (if c then .inr (Vl.boolT b) else .inl Vl.tyW):=fun c _ b=>Fd.og_ite (fun _=>Fd.og_bool _) fun _=>Fd.og_ty
 have al:∀ hb t u,Fd.og (Vl.alike hb t u):=fun hb t u=>by
  refine Fd.og_either _ fun o ho=>?_
  simp only [List.map_cons,List.map_nil,List.mem_cons,List.not_mem_nil,or_false] at ho
  rcases ho with rfl | rfl | rfl | rfl
  ·exact cm _ _
  ·exact cm _ _
  ·exact cm _ _
  ·exact Fd.og_ty
 cases h:Vl.opRs[(op - 1).toNat]? with
 | none=>exact Fd.og_ty
 | some R =>
  have hm:=List.mem_of_getElem? h
  unfold Vl.opRs at hm
  simp only [List.mem_cons,List.not_mem_nil,or_false] at hm
  show Fd.og (R (Fd.tn x) (Fd.tn y))
  have h0:=hx.n0
  have h1:=hx.n1
  have g0:=hy.n0
  have g1:=hy.n1
  rcases hm with rfl | rfl | rfl | rfl | rfl | rfl | rfl | rfl | rfl | rfl | rfl | rfl | rfl | rfl
  ·exact cm _ _
  ·exact cm _ _
  ·exact Fd.og_bool _
  ·exact Fd.og_bool _
  ·exact al _ _ _
  ·exact al _ _ _
  ·exact al _ _ _
  ·exact al _ _ _
  ·refine Fd.og_either _ fun o ho=>?_
   simp only [List.map_cons,List.map_nil,List.mem_cons,List.not_mem_nil,or_false] at ho
   rcases ho with rfl | rfl | rfl
   ·exact cm _ _
   ·exact Fd.og_ty
   ·exact Fd.og_ty
  ·refine Fd.og_either _ fun o ho=>?_
   simp only [List.map_cons,List.map_nil,List.mem_cons,List.not_mem_nil,or_false] at ho
   rcases ho with rfl | rfl | rfl | rfl
   ·exact Fd.og_ite (fun _=>Fd.og_num (by decide) fun z h=>fit_ge h) fun _=>Fd.og_ty
   ·exact Fd.og_ite (fun _=>Fd.og_ite (fun _=>⟨trivial,fun t e=>by cases e;show (-9223372036854775808:Int)≤0;decide⟩) fun _=>Fd.og_word (by decide)) fun _=>Fd.og_ty
   ·exact Fd.og_ty
   ·exact Fd.og_ty
  ·exact Fd.og_ite (fun _=>Fd.og_num (by decide) fun z h=>fit_ge h) fun _=>Fd.og_ty
  ·exact Fd.og_ite (fun _=>Fd.og_num (by decide) fun z h=>fit_ge h) fun _=>Fd.og_ty
  ·refine Fd.og_ite (fun _=>Fd.og_ite (fun _=>Fd.og_word (by decide)) fun hz=>Fd.og_ite (fun _=>Fd.og_word (by decide)) fun _=>Fd.og_int ?_) fun _=>Fd.og_ty
   show _≤Vl.quoV x.n y.n
   unfold Vl.quoV
   rw [mends_no h0 g0,if_neg (by decide)]
   have:=Int.tdiv_nonneg h0 g0
   omega
  ·refine Fd.og_ite (fun _=>Fd.og_ite (fun _=>Fd.og_word (by decide)) fun hz=>Fd.og_int ?_) fun _=>Fd.og_ty
   show _≤Vl.remV x.n y.n
   unfold Vl.remV
   rw [mends_no h0 g0,if_neg (by decide)]
   have:=Int.tmod_nonneg y.n h0
   omega
theorem op_wf {op:Int} (h1:1≤op) (h2:op≤14):(Lit.int .i64 op).wf=true:=by
 have:op=1∨op=2∨op=3∨op=4∨op=5∨op=6∨op=7∨op=8∨op=9∨op=10∨op=11∨op=12∨op=13∨op=14:=by omega
 rcases this with rfl | rfl | rfl | rfl | rfl | rfl | rfl | rfl | rfl | rfl | rfl | rfl | rfl | rfl <;> decide
theorem un_deed {w:World} {fb:Nat} (h:Tb w fb) {op:Int} (h1:1≤op) (h2:op≤2):∃ mu F bb,w.cell? ⟨fb,1,none⟩=some (.map (some mu))∧(∀ W,Below w.heap.size w W→(Instr.lookup 50 (.map (some mu)) (.int .i64 op) false).run Tryz.prog W = .ok (deedF 1 F bb) W)∧(∀ args w,(callFunc F args).run Tryz.prog w = .ok (.enter F args) w)∧∀ x,Fd.CN x→∀ W,Below w.heap.size w W→∀ g cc,W.cell? ⟨g,0,none⟩=some (Fd.dn x)→Calls Tryz.prog F #[.slice (some ⟨g,0,none⟩) 1 cc,.pointer (some ⟨bb,0,none⟩)] W (Vl.TupPost (Vl.DoK W (Vl.unOut op (Fd.tn x)))):=by
 obtain ⟨mu,b,c,g1,g2,g3,g4⟩:=h.uns
 have hw:=op_wf (op:=op) h1 (by omega)
 have hop:op=1∨op=2:=by omega
 have look:=fun (W:World) (hb:Below w.heap.size w W)=>Vl.un_look op b c mu W hw (Vl.map_below g2 hb)
 rcases hop with rfl | rfl
 ·refine ⟨mu,127,b,g1,look,Vl.en_of Tryz.func127 (by kernel_rfl) (by kernel_rfl),fun x hx W hb g cc hc=>?_⟩
  exact Vl.unB_do (Fd.tn x) W b g cc 0 _ ((hb.cell (p:=⟨b,0,none⟩) (World.block_lt_of_cell? w ⟨b,0,none⟩ g3)).trans g3) hc (Fd.dn_dat hx.c W 0)
 ·refine ⟨mu,128,c,g1,look,Vl.en_of Tryz.func128 (by kernel_rfl) (by kernel_rfl),fun x hx W hb g cc hc=>?_⟩
  exact Vl.unI_do (Fd.tn x) (Fd.tn_good hx).2.2 W c g cc 0 _ ((hb.cell (p:=⟨c,0,none⟩) (World.block_lt_of_cell? w ⟨c,0,none⟩ g4)).trans g4) hc (Fd.dn_dat hx.c W 0)
theorem bin_deed {w:World} {fb:Nat} (h:Tb w fb) {op:Int} (h1:1≤op) (h2:op≤14):∃ mo F bb,w.cell? ⟨fb,0,none⟩=some (.map (some mo))∧(∀ W,Below w.heap.size w W→(Instr.lookup 50 (.map (some mo)) (.int .i64 op) false).run Tryz.prog W = .ok (deedF 2 F bb) W)∧(∀ args w,(callFunc F args).run Tryz.prog w = .ok (.enter F args) w)∧∀ x y,Fd.CN x→Fd.CN y→∀ W,Below w.heap.size w W→∀ g cc,g < W.heap.size→W.cell? ⟨g,0,none⟩=some (Fd.dn x)→W.cell? ⟨g,1,none⟩=some (Fd.dn y)→Calls Tryz.prog F #[.slice (some ⟨g,0,none⟩) 2 cc,.pointer (some ⟨bb,0,none⟩)] W (Vl.TupPost (Vl.DoK W (Vl.binOut op (Fd.tn x) (Fd.tn y)))):=by
 obtain ⟨w0,l,g1,hT⟩:=h.ops
 have hw:=op_wf (op:=op) h1 h2
 have hlen:l.length=14:=hT.len
 have hi:(op - 1).toNat < l.length:=by omega
 have hi2:(op - 1).toNat < Vl.opRs.length:=by show _ < 14;omega
 obtain ⟨lo,hi',hlo,hD⟩:=hT.deeds _ hi hi2
 have htv:Vl.tabV l op=deedF 2 (l[(op - 1).toNat]).1 (l[(op - 1).toNat]).2:=by
  unfold Vl.tabV
  rw [if_pos h1,List.getElem?_eq_getElem hi]
  rfl
 refine ⟨w0.heap.size,(l[(op - 1).toNat]).1,(l[(op - 1).toNat]).2,g1,fun W hb=>?_,hD.en,fun x y hx hy W hb g cc hg c0 c1=>?_⟩
 ·rw [← htv]
  exact Vl.tab_look l op w0.heap.size _ W hw (Vl.map_below hT.map hb)
 ·have hbo:Vl.binOut op (Fd.tn x) (Fd.tn y)=Vl.opRs[(op - 1).toNat] (Fd.tn x) (Fd.tn y):=by
   unfold Vl.binOut
   rw [List.getElem?_eq_getElem hi2]
  rw [hbo]
  obtain ⟨a1,a2,a3⟩:=Fd.tn_good hx
  obtain ⟨b1,b2,b3⟩:=Fd.tn_good hy
  exact hD.does W ((Vl.Same.refl hD.size).below hb) (h.gi.below hb) _ _ a1 b1 a2 b2 a3 b3 g cc 0 0 _ _ hg c0 c1 (Fd.dn_dat hx.c W 0) (Fd.dn_dat hy.c W 0)
theorem FillPost.an {B:Nat→Prop} {w w1:World} {y:Fd} {e:Ending} {w':World} (h:FillPost (fun q=>B q∨(w.heap.size≤q∧q < w1.heap.size)) w1 y e w') (hb:Below w.heap.size w w1):∃ z,e = .returned z∧AnPost B w y z w':=by
 obtain ⟨z,rfl,h1,h2⟩:=h
 refine ⟨z,rfl,Fd.Pt.go h1 (fun q e=>?_) (fun _ _=>rfl),hb.trans (h2.mono hb.size)⟩
 have:=h2.size
 have:=hb.size
 rcases e with (e | e) | e
 ·exact .inl e
 ·exact .inr ⟨e.1,by omega⟩
 ·exact .inr ⟨by omega,e.2⟩
set_option maxRecDepth 100000 in
set_option maxHeartbeats 4000000 in
theorem unAnew_any {fb f:Nat} (o m c0:Int) (t:ByteArray) (p b:Int) (k:Fd) (B:Nat→Prop) (sp:Option Addr) (sc:Nat) (w:World) (hA:Anw Fd.O fb f B w ⟨6,o,m,t,c0⟩ p b [k] sp sc) (hGk:Fd.Good k) (ho:1≤o∧o≤2) :
  Calls Tryz.prog 254 #[Ip.ag 6 o m 1 t (.slice sp 1 sc),pt fb] w fun e w'=>∃ z,e = .returned z∧AnPost B w (Fd.fold Fd.O (f+1) (.mk ⟨6,o,m,t,c0⟩ p b [k])) z w':=by
 have HF:=hide (show Fd.fold Fd.O (f+1) (.mk ⟨6,o,m,t,c0⟩ p b [k])=_ from (Fd.fold_succ Fd.O f ⟨6,o,m,t,c0⟩ p b [k]).trans (Fd.fin6 Fd.O (Fd.fold Fd.O f) (x:=⟨6,o,m,t,c0⟩) rfl p b (Fd.fold Fd.O f k)))
 have HGK:=hide (Fd.good_fold Fd.fine_O f k hGk)
 have HST:=hide hA.stem
 have HB:=hide hA.inB
 have hmap:[k].map (Fd.fold Fd.O f)=[Fd.fold Fd.O f k]:=rfl
 rw [hmap] at HST
 have HE:Hid ([k].length=1):=hide rfl
 rw [HE.out] at HST
 obtain ⟨mu,F,bb,hmu,hlook,hen,hdo⟩:=un_deed hA.tb ho.1 ho.2
 have HLK:=hide hlook
 have HEN:=hide hen
 have HDO:=hide hdo
 have hfl:=hA.tb.lt
 clear hA hGk hmap HE hlook hen hdo ho
 generalize Fd.fold Fd.O f k=k' at *
 have b0:Below w.heap.size w (w.alloc (stO 194 6 o m 1 t (.slice sp 1 sc))):=bA _
 have HB0:=hide b0
 have hz0:w.heap.size < (w.alloc (stO 194 6 o m 1 t (.slice sp 1 sc))).heap.size:=by simp
 have hx0:=heap_alloc_new' w (stO 194 6 o m 1 t (.slice sp 1 sc))
 obtain ⟨a0,a1,a2,a3,a4,a5⟩:=stO_cells hx0
 have am:=(b0.cell (p:=⟨fb,1,none⟩) hfl).trans hmu
 have al:=HLK.out _ b0
 have ald:=HLK.out _ b0.drew
 have HX0:=hide hx0
 have HAM:=hide am
 have HEQ:Hid (Fd.doneOf ⟨6,o,m,t,c0⟩ p b [k'] (Vl.unOut o (Fd.tn k'.x))=Fd.fold Fd.O (f+1) (.mk ⟨6,o,m,t,c0⟩ p b [k])):=hide (by
  rw [HF.out]
  unfold Fd.doneOf
  by_cases hc:Fd.isC k'.x
  ·rw [if_pos (fun y hy=>by simp only [List.mem_cons,List.not_mem_nil,or_false] at hy;rw [hy];exact hc),if_pos hc]
   rfl
  ·rw [if_neg (fun h=>hc (h k' (by simp))),if_neg hc])
 clear hmu HF
 go_enter Tryz.func254,Tryz.ntmps254
 go_wp2_with fail
 generalize hW0:w.alloc (stO 194 6 o m 1 t (.slice sp 1 sc))=W0 at *
 clear hW0 hx0 b0
 go_region_held3 (fun W=>W.cell? ⟨fb,1,none⟩=some (.map (some mu))∧W.cell? ⟨w.heap.size,0,none⟩=some (.int .i64 6)∧W.cell? ⟨w.heap.size,1,none⟩=some (.int .i64 o)∧W.cell? ⟨w.heap.size,2,none⟩=some (.int .i64 m)∧W.cell? ⟨w.heap.size,3,none⟩=some (.string t)∧W.cell? ⟨w.heap.size,4,none⟩=some (.int .i64 1)∧W.cell? ⟨w.heap.size,5,none⟩=some (.slice sp 1 sc)∧(Instr.lookup 50 (.map (some mu)) (.int .i64 o) false).run Tryz.prog W = .ok (deedF 1 F bb) W) (go_keep) (first
  | (refine step_callF rfl 248 [.tmp 16,.tmp 17] _ rfl [Ip.ag 6 o m 1 t (.slice sp 1 sc),pt fb] (by simp [Act.eval]) Tryz.f248 Tryz.func248 (by kernel_rfl) (by kernel_rfl) (fun r w5=>∃ t5 u5,r = .iface t5 u5∧AnPost B w (.mk ⟨6,o,m,t,c0⟩ p b [k']) (.iface t5 u5) w5∧Below W0.heap.size W0 w5) ((HST.out W0.drew HB0.out.drew).mono (fun _ _ ⟨v,q1,q2⟩=>by obtain ⟨t5,u5,q4⟩:=q2.1.iface;subst q4;exact ⟨_,q1,t5,u5,rfl,q2.from HB0.out.drew,drewF q2.2⟩)) ?_;rintro r w5 ⟨t5,u5,rfl,hp5,hb5⟩;have sm:=(hb5.cell (p:=⟨fb,1,none⟩) (Nat.lt_of_lt_of_le hfl HB0.out.size)).trans am;obtain ⟨s0,s1,s2,s3,s4,s5⟩:=stO_cells ((hb5.block w.heap.size hz0).trans HX0.out);have slk:=HLK.out w5 hp5.2)
  | (refine step_callF rfl 238 [.tmp 5,.tmp 14,.tmp 18] _ rfl [pt fb,deedF 1 F bb,.iface t5 u5] (by simp [Act.eval]) Tryz.f238 Tryz.func238 (by kernel_rfl) (by kernel_rfl) (fun r w6=>∃ t6 u6,r = .iface t6 u6∧AnPost B w (Fd.fold Fd.O (f+1) (.mk ⟨6,o,m,t,c0⟩ p b [k])) (.iface t6 u6) w6∧Below w5.heap.size w5 w6) ((done_any ⟨6,o,m,t,c0⟩ p b [k'] (by simp) (by simp) (fun q=>B q∨(w.heap.size≤q∧q < w5.heap.size)) (.iface t5 u5) (pt fb) 1 F bb (Vl.unOut o (Fd.tn k'.x)) w5 (fun q e=>e.elim (fun e=>Nat.lt_of_lt_of_le (HB.out q e) hp5.2.size) (fun e=>e.2)) hp5.1 HEN.out (Fd.ok_un o _) (fun _=>(Fd.og_un o _).1) (fun _=>(Fd.og_un o _).2) (fun hall W hW g cc _ hcs=>HDO.out k'.x (HGK.out.const (hall k' (by simp))).1 W (hp5.2.trans (hW.mono hp5.2.size)) g cc (hcs 0 _ rfl))).mono (fun _ _ q=>by have qb:=q;obtain ⟨_,_,_,qb3⟩:=qb;obtain ⟨z,q1,q2⟩:=FillPost.an q hp5.2;obtain ⟨t6,u6,q4⟩:=q2.1.iface;subst q4;exact ⟨_,q1,t6,u6,rfl,HEQ.out ▸ q2,qb3⟩)) ?_;rintro r w6 ⟨t6,u6,rfl,hp6,hb6⟩;have rm:=(hb6.cell (p:=⟨fb,1,none⟩) (Nat.lt_of_lt_of_le hfl hp5.2.size)).trans sm;obtain ⟨r0,r1,r2,r3,r4,r5⟩:=stO_cells ((hb6.block w.heap.size (Nat.lt_of_lt_of_le hz0 hb5.size)).trans ((hb5.block w.heap.size hz0).trans HX0.out));have rlk:=HLK.out w6 hp6.2))
 all_goals
  have HR:=hide hp6
  clear hp6 hp5 hb5 hb6
  go_wp2
  go_ret
  exact ⟨_,rfl,HR.out⟩
set_option maxRecDepth 100000 in
set_option maxHeartbeats 4000000 in
theorem binAnew_any {fb f:Nat} (o m c0:Int) (t:ByteArray) (p b:Int) (k l:Fd) (B:Nat→Prop) (sp:Option Addr) (sc:Nat) (w:World) (hA:Anw Fd.O fb f B w ⟨7,o,m,t,c0⟩ p b [k,l] sp sc) (hGk:Fd.Good k) (hGl:Fd.Good l) (ho:1≤o∧o≤14) :
  Calls Tryz.prog 261 #[Ip.ag 7 o m 2 t (.slice sp 2 sc),pt fb] w fun e w'=>∃ z,e = .returned z∧AnPost B w (Fd.fold Fd.O (f+1) (.mk ⟨7,o,m,t,c0⟩ p b [k,l])) z w':=by
 have HF:=hide (show Fd.fold Fd.O (f+1) (.mk ⟨7,o,m,t,c0⟩ p b [k,l])=_ from (Fd.fold_succ Fd.O f ⟨7,o,m,t,c0⟩ p b [k,l]).trans (Fd.fin7 Fd.O (Fd.fold Fd.O f) (x:=⟨7,o,m,t,c0⟩) rfl p b (Fd.fold Fd.O f k) (Fd.fold Fd.O f l)))
 have HGK:=hide (Fd.good_fold Fd.fine_O f k hGk)
 have HGL:=hide (Fd.good_fold Fd.fine_O f l hGl)
 have HST:=hide hA.stem
 have HB:=hide hA.inB
 have hmap:[k,l].map (Fd.fold Fd.O f)=[Fd.fold Fd.O f k,Fd.fold Fd.O f l]:=rfl
 rw [hmap] at HST
 have HE:Hid ([k,l].length=2):=hide rfl
 rw [HE.out] at HST
 obtain ⟨mo,F,bb,hmo,hlook,hen,hdo⟩:=bin_deed hA.tb ho.1 ho.2
 have HLK:=hide hlook
 have HEN:=hide hen
 have HDO:=hide hdo
 have hfl:=hA.tb.lt
 have HMO:=hide hmo
 clear hA hGk hGl hmap HE hlook hen hdo ho hmo
 generalize Fd.fold Fd.O f k=k' at *
 generalize Fd.fold Fd.O f l=l' at *
 have b0:Below w.heap.size w (w.alloc (stO 195 7 o m 2 t (.slice sp 2 sc))):=bA _
 have HB0:=hide b0
 have HX0:=hide (heap_alloc_new' w (stO 195 7 o m 2 t (.slice sp 2 sc)))
 have HZ0:Hid (w.heap.size < (w.alloc (stO 195 7 o m 2 t (.slice sp 2 sc))).heap.size):=hide (by simp)
 clear b0
 go_enter Tryz.func261,Tryz.ntmps261
 go_wp2_with fail
 refine (HST.out _ HB0.out).mono ?_
 rintro e w1 ⟨z1,rfl,hp1⟩
 have HX1:=hide ((hp1.2.block w.heap.size HZ0.out).trans HX0.out)
 have hz1:=Nat.lt_of_lt_of_le HZ0.out hp1.2.size
 have HP1:=hide (hp1.from HB0.out)
 clear hp1 HST HB0 HX0 HZ0
 obtain ⟨g1,c1,v0,v1,rfl,hg1,hv0,hv1,hk',hl'⟩:=Fd.pt_two HP1.out.1
 have hgl:g1 < w1.heap.size:=hg1.elim (fun e=>Nat.lt_of_lt_of_le (HB.out g1 e) HP1.out.2.size) (fun e=>e.2)
 obtain ⟨p0,n0,cc0,hr0⟩:=Fd.pt_root hk'
 subst hr0
 have HK':=hide hk'
 have HV0:=hide hv0
 have hmk:=meth_kids 7 o m 2 t (.slice (some ⟨g1,0,none⟩) 2 c1)
 have HKD:=hide (fun w=>ikids_at 7 o m 2 t (.slice (some ⟨g1,0,none⟩) 2 c1) ⟨_,_,_,rfl⟩ w)
 have hms:=meth_self k'.x.kind k'.x.op k'.x.n (k'.ks.length:Nat) k'.x.text (.slice p0 n0 cc0)
 have HSF:=hide (fun w=>iself_at k'.x.kind k'.x.op k'.x.n (k'.ks.length:Nat) k'.x.text (.slice p0 n0 cc0) ⟨_,_,_,rfl⟩ w)
 have hkc:k'.x.kind=2→((k'.ks.length:Nat):Int)=0:=fun h=>by rw [(HGK.out.const ⟨by omega,by omega⟩).2];rfl
 have E1:=eql_bool (fun h=>(HGK.out.const h).1) (k'.ks.length:Nat) 1 hkc
 have E0:=eql_bool (fun h=>(HGK.out.const h).1) (k'.ks.length:Nat) 0 hkc
 have HSTOP:Hid (Fd.stops o k'.x→∀ W,Below w1.heap.size w1 W→AnPost B w (Fd.fold Fd.O (f+1) (.mk ⟨7,o,m,t,c0⟩ p b [k,l])) (Ip.pv (Fd.nk k'.x k'.ks.length) (.slice p0 n0 cc0)) W):=hide (fun hs W hb=>by
  rw [HF.out,if_pos hs]
  exact (show AnPost B w k' _ w1 from ⟨HK'.out,HP1.out.2⟩).below HB.out hb)
 have HEQ:Hid (¬ Fd.stops o k'.x→Fd.doneOf ⟨7,o,m,t,c0⟩ p b [k',l'] (Vl.binOut o (Fd.tn k'.x) (Fd.tn l'.x))=Fd.fold Fd.O (f+1) (.mk ⟨7,o,m,t,c0⟩ p b [k,l])):=hide (fun hs=>by
  rw [HF.out,if_neg hs]
  unfold Fd.doneOf
  by_cases hc:Fd.isC k'.x∧Fd.isC l'.x
  ·rw [if_pos (fun y hy=>by simp only [List.mem_cons,List.not_mem_nil,or_false] at hy;rcases hy with hy | hy <;> rw [hy];exact hc.1;exact hc.2),if_pos hc]
   rfl
  ·rw [if_neg (fun h=>hc ⟨h k' (by simp),h l' (by simp)⟩),if_neg hc])
 have HDN:Hid (¬ Fd.stops o k'.x→∀ W,Below w1.heap.size w1 W→Calls Tryz.prog 238 #[pt fb,deedF 2 F bb,Ip.pv (Fd.nk ⟨7,o,m,t,c0⟩ 2) (.slice (some ⟨g1,0,none⟩) 2 c1)] W fun e w6=>∃ r,e = .returned r∧∃ t6 u6,r = .iface t6 u6∧AnPost B w (Fd.fold Fd.O (f+1) (.mk ⟨7,o,m,t,c0⟩ p b [k,l])) (.iface t6 u6) w6∧Below W.heap.size W w6):=hide (fun hs W hb=>by
  have hq:=HP1.out.below HB.out hb
  refine (done_any ⟨7,o,m,t,c0⟩ p b [k',l'] (by simp) (by simp) (fun q=>B q∨(w.heap.size≤q∧q < W.heap.size)) _ (pt fb) 2 F bb (Vl.binOut o (Fd.tn k'.x) (Fd.tn l'.x)) W (fun q e=>e.elim (fun e=>Nat.lt_of_lt_of_le (HB.out q e) hq.2.size) (fun e=>e.2)) hq.1 HEN.out (Fd.ok_bin o _ _) ?_ ?_ (fun hall W2 hW g cc hg hcs=>HDO.out k'.x l'.x (HGK.out.const (hall k' (by simp))).1 (HGL.out.const (hall l' (by simp))).1 W2 (hq.2.trans (hW.mono hq.2.size)) g cc hg (hcs 0 _ rfl) (hcs 1 _ rfl))).mono (fun _ _ q=>?_)
  ·exact fun hall=>(Fd.og_bin o _ _ (HGK.out.const (hall k' (by simp))).1 (HGL.out.const (hall l' (by simp))).1).1
  ·exact fun hall=>(Fd.og_bin o _ _ (HGK.out.const (hall k' (by simp))).1 (HGL.out.const (hall l' (by simp))).1).2
  ·have qb:=q
   obtain ⟨_,_,_,qb3⟩:=qb
   obtain ⟨z,q1,q2⟩:=FillPost.an q hq.2
   obtain ⟨t6,u6,q4⟩:=q2.1.iface
   subst q4
   exact ⟨_,q1,t6,u6,rfl,HEQ.out hs ▸ q2,qb3⟩)
 have hnk:Ip.pv (Fd.nk k'.x k'.ks.length) (.slice p0 n0 cc0)=Ip.pv ⟨k'.x.kind,k'.x.op,k'.x.n,k'.x.text,(k'.ks.length:Nat)⟩ (.slice p0 n0 cc0):=rfl
 rw [hnk] at HV0 HSTOP
 have hcase:(o=1∧decide (k'.x.kind=2∧k'.x.n=1)=true∧Fd.stops o k'.x)∨(o=1∧decide (k'.x.kind=2∧k'.x.n=1)=false∧¬ Fd.stops o k'.x)∨(o=2∧decide (k'.x.kind=2∧k'.x.n=0)=true∧Fd.stops o k'.x)∨(o=2∧decide (k'.x.kind=2∧k'.x.n=0)=false∧¬ Fd.stops o k'.x)∨(o≠1∧o≠2):=by
  by_cases h1:o=1
  ·by_cases h2:k'.x.kind=2∧k'.x.n=1
   ·exact .inl ⟨h1,decide_eq_true h2,h2.1,.inl ⟨h1,h2.2⟩⟩
   ·exact .inr (.inl ⟨h1,decide_eq_false h2,fun e=>h2 ⟨e.1,e.2.elim (fun e=>e.2) (fun e=>by omega)⟩⟩)
  ·by_cases h1':o=2
   ·by_cases h2:k'.x.kind=2∧k'.x.n=0
    ·exact .inr (.inr (.inl ⟨h1',decide_eq_true h2,h2.1,.inr ⟨h1',h2.2⟩⟩))
    ·exact .inr (.inr (.inr (.inl ⟨h1',decide_eq_false h2,fun e=>h2 ⟨e.1,e.2.elim (fun e=>by omega) (fun e=>e.2)⟩⟩)))
   ·exact .inr (.inr (.inr (.inr ⟨h1,h1'⟩)))
 have HCS:=hide hcase
 clear hk' hl' hv0 hv1 hnk hkc HGK HGL hcase HF HEQ HDO HEN
 unfold Fd.nk Ip.pv at *
 go_wp2_with fail
 refine (HKD.out _).mono ?_
 rintro e w2 ⟨rfl,hb2⟩
 have HB2:=hide hb2
 have e0:=(hb2.cell (p:=⟨g1,0,none⟩) hgl).trans HV0.out
 obtain ⟨q0,q1,q2,q3,q4,q5⟩:=stO_cells ((hb2.block w.heap.size hz1).trans HX1.out)
 clear hb2 HKD
 have Z:∀ W,Below w1.heap.size w1 W→Hid ((W.cell? ⟨fb,0,none⟩=some (.map (some mo))∧W.cell? ⟨w.heap.size,1,none⟩=some (.int .i64 o))∧(Instr.lookup 50 (.map (some mo)) (.int .i64 o) false).run Tryz.prog W = .ok (deedF 2 F bb) W∧(Instr.lookup 50 (.map (some mo)) (.int .i64 o) false).run Tryz.prog W.drew = .ok (deedF 2 F bb) W.drew):=fun W hb=>hide ⟨⟨((HP1.out.2.trans (hb.mono HP1.out.2.size)).cell (p:=⟨fb,0,none⟩) hfl).trans HMO.out,(stO_cells ((hb.block w.heap.size hz1).trans HX1.out)).2.1⟩,HLK.out W (HP1.out.2.trans (hb.mono HP1.out.2.size)),HLK.out W.drew (HP1.out.2.trans (hb.mono HP1.out.2.size)).drew⟩
 have HZ:=hide Z
 clear Z
 rcases HCS.out with ⟨h1,d1,hs⟩ | ⟨h1,d1,hs⟩ | ⟨h1,d0,hs⟩ | ⟨h1,d0,hs⟩ | ⟨h1,h2⟩
 ·have t1:(o == 1)=true:=by simpa using h1
  rw [d1] at E1
  have HSP:=hide (HSTOP.out hs)
  clear HCS HSTOP h1 d1 hs E0 HDN
  go_wp2_with fail
  refine (HSF.out _).mono ?_
  rintro e w3 ⟨rfl,hb3⟩
  have HB3:=hide (HB2.out.trans (hb3.mono HB2.out.size))
  clear hb3
  go_wp2_with fail
  refine (truth1 _).mono ?_
  rintro e w4 ⟨rfl,hb4⟩
  have HR:=hide (HSP.out w4 (HB3.out.trans (hb4.mono HB3.out.size)))
  clear hb4
  go_wp2
  go_ret
  exact ⟨_,rfl,HR.out⟩
 ·have t1:(o == 1)=true:=by simpa using h1
  have t2:(o == 2)=false:=by simpa using (by omega:o≠2)
  rw [d1] at E1
  have HDM:=hide (HDN.out hs)
  clear HCS HSTOP h1 d1 hs E0 HDN
  go_wp2_with fail
  refine (HSF.out _).mono ?_
  rintro e w3 ⟨rfl,hb3⟩
  have HB3:=hide (HB2.out.trans (hb3.mono HB2.out.size))
  obtain ⟨q0,q1,q2,q3,q4,q5⟩:=stO_cells ((HB3.out.block w.heap.size hz1).trans HX1.out)
  clear hb3
  go_wp2_with fail
  refine (truth1 _).mono ?_
  rintro e w4 ⟨rfl,hb4⟩
  have HB4:=hide (HB3.out.trans (hb4.mono HB3.out.size))
  obtain ⟨q0,q1,q2,q3,q4,q5⟩:=stO_cells ((HB4.out.block w.heap.size hz1).trans HX1.out)
  obtain ⟨⟨z1,z2⟩,z3,z4⟩:=(HZ.out w4 HB4.out).out
  clear hb4
  go_wp2_with fail
  go_region_held3 (fun W=>W.cell? ⟨fb,0,none⟩=some (.map (some mo))∧W.cell? ⟨w.heap.size,1,none⟩=some (.int .i64 o)∧(Instr.lookup 50 (.map (some mo)) (.int .i64 o) false).run Tryz.prog W = .ok (deedF 2 F bb) W) (go_keep) (first
   | (refine step_callF rfl 238 [.tmp 41,.tmp 50,.tmp 51] _ rfl [pt fb,deedF 2 F bb,.iface (Ip.ty 7) (.agg #[.int .i64 7,.int .i64 o,.int .i64 m,.string t,.int .i64 2,.slice (some ⟨g1,0,none⟩) 2 c1])] (by simp [Act.eval]) Tryz.f238 Tryz.func238 (by kernel_rfl) (by kernel_rfl) _ (HDM.out w4.drew HB4.out.drew) ?_;rintro r w6 ⟨t6,u6,rfl,hp6,hb6⟩;obtain ⟨⟨y1,y2⟩,y3,y4⟩:=(HZ.out w6 (HB4.out.trans ((drewF hb6).mono HB4.out.size))).out))
  all_goals
   have HR:=hide hp6
   clear hp6 hb6
   go_wp2
   go_ret
   exact ⟨_,rfl,HR.out⟩
 ·have t1:(o == 1)=false:=by simpa using (by omega:o≠1)
  have t2:(o == 2)=true:=by simpa using h1
  rw [d0] at E0
  have HSP:=hide (HSTOP.out hs)
  clear HCS HSTOP h1 d0 hs E1 HDN
  go_wp2_with fail
  refine (HSF.out _).mono ?_
  rintro e w3 ⟨rfl,hb3⟩
  have HB3:=hide (HB2.out.trans (hb3.mono HB2.out.size))
  clear hb3
  go_wp2_with fail
  refine (truth0 _).mono ?_
  rintro e w4 ⟨rfl,hb4⟩
  have HR:=hide (HSP.out w4 (HB3.out.trans (hb4.mono HB3.out.size)))
  clear hb4
  go_wp2
  go_ret
  exact ⟨_,rfl,HR.out⟩
 ·have t1:(o == 1)=false:=by simpa using (by omega:o≠1)
  have t2:(o == 2)=true:=by simpa using h1
  rw [d0] at E0
  have HDM:=hide (HDN.out hs)
  clear HCS HSTOP h1 d0 hs E1 HDN
  go_wp2_with fail
  refine (HSF.out _).mono ?_
  rintro e w3 ⟨rfl,hb3⟩
  have HB3:=hide (HB2.out.trans (hb3.mono HB2.out.size))
  clear hb3
  go_wp2_with fail
  refine (truth0 _).mono ?_
  rintro e w4 ⟨rfl,hb4⟩
  have HB4:=hide (HB3.out.trans (hb4.mono HB3.out.size))
  obtain ⟨⟨z1,z2⟩,z3,z4⟩:=(HZ.out w4 HB4.out).out
  clear hb4
  go_wp2_with fail
  go_region_held3 (fun W=>W.cell? ⟨fb,0,none⟩=some (.map (some mo))∧W.cell? ⟨w.heap.size,1,none⟩=some (.int .i64 o)∧(Instr.lookup 50 (.map (some mo)) (.int .i64 o) false).run Tryz.prog W = .ok (deedF 2 F bb) W) (go_keep) (first
   | (refine step_callF rfl 238 [.tmp 41,.tmp 50,.tmp 51] _ rfl [pt fb,deedF 2 F bb,.iface (Ip.ty 7) (.agg #[.int .i64 7,.int .i64 o,.int .i64 m,.string t,.int .i64 2,.slice (some ⟨g1,0,none⟩) 2 c1])] (by simp [Act.eval]) Tryz.f238 Tryz.func238 (by kernel_rfl) (by kernel_rfl) _ (HDM.out w4.drew HB4.out.drew) ?_;rintro r w6 ⟨t6,u6,rfl,hp6,hb6⟩;obtain ⟨⟨y1,y2⟩,y3,y4⟩:=(HZ.out w6 (HB4.out.trans ((drewF hb6).mono HB4.out.size))).out))
  all_goals
   have HR:=hide hp6
   clear hp6 hb6
   go_wp2
   go_ret
   exact ⟨_,rfl,HR.out⟩
 ·have t1:(o == 1)=false:=by simpa using h1
  have t2:(o == 2)=false:=by simpa using h2
  have HDM:=hide (HDN.out (fun e=>e.2.elim (fun e=>h1 e.1) (fun e=>h2 e.1)))
  obtain ⟨⟨z1,z2⟩,z3,z4⟩:=(HZ.out w2 HB2.out).out
  clear HCS HSTOP h1 h2 E0 E1 HDN
  go_wp2_with fail
  go_region_held3 (fun W=>W.cell? ⟨fb,0,none⟩=some (.map (some mo))∧W.cell? ⟨w.heap.size,1,none⟩=some (.int .i64 o)∧(Instr.lookup 50 (.map (some mo)) (.int .i64 o) false).run Tryz.prog W = .ok (deedF 2 F bb) W) (go_keep) (first
   | (refine step_callF rfl 238 [.tmp 41,.tmp 50,.tmp 51] _ rfl [pt fb,deedF 2 F bb,.iface (Ip.ty 7) (.agg #[.int .i64 7,.int .i64 o,.int .i64 m,.string t,.int .i64 2,.slice (some ⟨g1,0,none⟩) 2 c1])] (by simp [Act.eval]) Tryz.f238 Tryz.func238 (by kernel_rfl) (by kernel_rfl) _ (HDM.out w2.drew HB2.out.drew) ?_;rintro r w6 ⟨t6,u6,rfl,hp6,hb6⟩;obtain ⟨⟨y1,y2⟩,y3,y4⟩:=(HZ.out w6 (HB2.out.trans ((drewF hb6).mono HB2.out.size))).out))
  all_goals
   have HR:=hide hp6
   clear hp6 hb6
   go_wp2
   go_ret
   exact ⟨_,rfl,HR.out⟩
end Go.Proofs.YthbojbbmpcmoaaaGreatDoor
