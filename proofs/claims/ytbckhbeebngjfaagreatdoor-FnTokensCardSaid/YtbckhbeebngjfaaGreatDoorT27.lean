/- Tk9, Tkb, Hs, Ht, Hu. -/
import Derived.Test.YtbckhbeebngjfaaGreatDoorT23
import Derived.Test.YtbckhbeebngjfaaGreatDoorT24
import Derived.Test.YtbckhbeebngjfaaGreatDoorT25
import Derived.Test.YtbckhbeebngjfaaGreatDoorT26
import Derived.Test.YtbckhbeebngjfaaGreatDoorT17
import Derived.BigQuiet
namespace Go.Proofs.YtbckhbeebngjfaaGreatDoor
open Go.RowKit
variable (w0:World) (pb tg tc kg kc:Nat) (ns:List Tr.Nd) (ks:List (List Nat))
set_option maxRecDepth 100000 in
set_option maxHeartbeats 4000000 in
theorem inkP_2a (hI:Ink w0 pb tg tc kg kc ns ks) (k:Nat) (hk:k < ns.length) (hk2:k < ks.length) (_hn:ns.length≤5000) (_hm:ks.length≤5000) (hkd:ns[k].kind=2) (_htx:ns[k].text.size≤1000) (hxn:ns[k].n=0):Says w0 36 #[.pointer (some ⟨pb,0,none⟩),.int .i64 k] ((⟨#[102,97,108,115,101]⟩:ByteArray)):=by
 intro w hw
 obtain ⟨g,c,hrow0,hints0,hgc⟩:=hI.rows k hk2
 have HI:=hide (hI.below hw)
 have hrow:=(hw.cell (p:=⟨kg,k,none⟩) hI.kl).trans hrow0
 obtain ⟨n0,n1,n2,n3,n4⟩:=HI.out.nodes.2 k hk
 have c0:=HI.out.c0
 have c1:=HI.out.c1
 have hpl:=HI.out.pl
 have hkl:=HI.out.kl
 rw [hkd] at n0
 rw [hxn] at n2
 generalize hxt:ns[k].text=xt at *
 generalize ns[k].op=xo at *
 generalize ns[k].kids=xk at *
 generalize hks:ks[k]=ls at *
 have r1:Below w.heap.size w (w.alloc (.cells #[.int .i64 2,.int .i64 xo,.int .i64 0,.string xt,.int .i64 xk] 82)):=bA _
 have hw1:=hw.trans (r1.mono hw.size)
 have d1:=(r1.cell (p:=⟨pb,1,none⟩) hpl).trans c1
 have drow:=(r1.cell (p:=⟨kg,k,none⟩) hkl).trans hrow
 obtain ⟨x0,x1,x2,x3⟩:=node_box w ⟨2,xo,0,xt,xk⟩
 have HIS:=hide (fun q:KB (w.alloc (.cells #[.int .i64 2,.int .i64 xo,.int .i64 0,.string xt,.int .i64 xk] 82))=>hints0.below (hw1.trans (q.below.mono hw1.size)))
 have fo:∀ q:KB (w.alloc (.cells #[.int .i64 2,.int .i64 xo,.int .i64 0,.string xt,.int .i64 xk] 82)),q.w.cell? ⟨w.heap.size,1,none⟩=some (.int .i64 xo):=fun q=>(q.below.cell (p:=⟨w.heap.size,1,none⟩) (by simp)).trans x1
 have ft:∀ q:KB (w.alloc (.cells #[.int .i64 2,.int .i64 xo,.int .i64 0,.string xt,.int .i64 xk] 82)),q.w.cell? ⟨w.heap.size,3,none⟩=some (.string xt):=fun q=>(q.below.cell (p:=⟨w.heap.size,3,none⟩) (by simp)).trans x3
 have HQ:=hide (fun q:KB (w.alloc (.cells #[.int .i64 2,.int .i64 xo,.int .i64 0,.string xt,.int .i64 xk] 82))=>r1.trans (q.below.mono r1.size))
 haveI hne:Nonempty (KB (w.alloc (.cells #[.int .i64 2,.int .i64 xo,.int .i64 0,.string xt,.int .i64 xk] 82))):=⟨⟨_,Below.refl _ _⟩⟩
 have gt:=ft ⟨_,Below.refl _ _⟩
 have go:=fo ⟨_,Below.refl _ _⟩
 simp only [KB.w] at gt go
 clear r1 hints0 hw hw1 HIS hI HI
 go_enter Tryz.func36,Tryz.ntmps36
 go_wp2
 go_ret
 exact ⟨rfl,HQ.out ⟨_,bA _⟩⟩
set_option maxRecDepth 100000 in
set_option maxHeartbeats 4000000 in
theorem inkP_2b (hI:Ink w0 pb tg tc kg kc ns ks) (k:Nat) (hk:k < ns.length) (hk2:k < ks.length) (_hn:ns.length≤5000) (_hm:ks.length≤5000) (hkd:ns[k].kind=2) (_htx:ns[k].text.size≤1000) (hxn:ns[k].n=1):Says w0 36 #[.pointer (some ⟨pb,0,none⟩),.int .i64 k] ((⟨#[116,114,117,101]⟩:ByteArray)):=by
 intro w hw
 obtain ⟨g,c,hrow0,hints0,hgc⟩:=hI.rows k hk2
 have HI:=hide (hI.below hw)
 have hrow:=(hw.cell (p:=⟨kg,k,none⟩) hI.kl).trans hrow0
 obtain ⟨n0,n1,n2,n3,n4⟩:=HI.out.nodes.2 k hk
 have c0:=HI.out.c0
 have c1:=HI.out.c1
 have hpl:=HI.out.pl
 have hkl:=HI.out.kl
 rw [hkd] at n0
 rw [hxn] at n2
 generalize hxt:ns[k].text=xt at *
 generalize ns[k].op=xo at *
 generalize ns[k].kids=xk at *
 generalize hks:ks[k]=ls at *
 have r1:Below w.heap.size w (w.alloc (.cells #[.int .i64 2,.int .i64 xo,.int .i64 1,.string xt,.int .i64 xk] 82)):=bA _
 have hw1:=hw.trans (r1.mono hw.size)
 have d1:=(r1.cell (p:=⟨pb,1,none⟩) hpl).trans c1
 have drow:=(r1.cell (p:=⟨kg,k,none⟩) hkl).trans hrow
 obtain ⟨x0,x1,x2,x3⟩:=node_box w ⟨2,xo,1,xt,xk⟩
 have HIS:=hide (fun q:KB (w.alloc (.cells #[.int .i64 2,.int .i64 xo,.int .i64 1,.string xt,.int .i64 xk] 82))=>hints0.below (hw1.trans (q.below.mono hw1.size)))
 have fo:∀ q:KB (w.alloc (.cells #[.int .i64 2,.int .i64 xo,.int .i64 1,.string xt,.int .i64 xk] 82)),q.w.cell? ⟨w.heap.size,1,none⟩=some (.int .i64 xo):=fun q=>(q.below.cell (p:=⟨w.heap.size,1,none⟩) (by simp)).trans x1
 have ft:∀ q:KB (w.alloc (.cells #[.int .i64 2,.int .i64 xo,.int .i64 1,.string xt,.int .i64 xk] 82)),q.w.cell? ⟨w.heap.size,3,none⟩=some (.string xt):=fun q=>(q.below.cell (p:=⟨w.heap.size,3,none⟩) (by simp)).trans x3
 have HQ:=hide (fun q:KB (w.alloc (.cells #[.int .i64 2,.int .i64 xo,.int .i64 1,.string xt,.int .i64 xk] 82))=>r1.trans (q.below.mono r1.size))
 haveI hne:Nonempty (KB (w.alloc (.cells #[.int .i64 2,.int .i64 xo,.int .i64 1,.string xt,.int .i64 xk] 82))):=⟨⟨_,Below.refl _ _⟩⟩
 have gt:=ft ⟨_,Below.refl _ _⟩
 have go:=fo ⟨_,Below.refl _ _⟩
 simp only [KB.w] at gt go
 clear r1 hints0 hw hw1 HIS hI HI
 go_enter Tryz.func36,Tryz.ntmps36
 go_wp2
 go_ret
 exact ⟨rfl,HQ.out ⟨_,bA _⟩⟩
set_option maxRecDepth 100000 in
set_option maxHeartbeats 4000000 in
theorem inkP_24 (hI:Ink w0 pb tg tc kg kc ns ks) (k:Nat) (hk:k < ns.length) (hk2:k < ks.length) (_hn:ns.length≤5000) (_hm:ks.length≤5000) (hkd:ns[k].kind=24) (_htx:ns[k].text.size≤1000) (f:Nat→ByteArray) (hl:(ks[k]).length≤5000) (hmm:∀ y∈ks[k],(f y).size≤20000000) (hT:∀ i≤(ks[k]).length,(Tr.catted (fun y=>(f y).data.toList) ks[k] i).length≤40000000) (hS:∀ y∈ks[k],Says w0 36 #[.pointer (some ⟨pb,0,none⟩),.int .i64 y] (f y)):Says w0 36 #[.pointer (some ⟨pb,0,none⟩),.int .i64 k] (⟨(Tr.catted (fun y=>(f y).data.toList) ks[k] (ks[k]).length).toArray⟩):=by
 intro w hw
 obtain ⟨g,c,hrow0,hints0,hgc⟩:=hI.rows k hk2
 have HI:=hide (hI.below hw)
 have hrow:=(hw.cell (p:=⟨kg,k,none⟩) hI.kl).trans hrow0
 obtain ⟨n0,n1,n2,n3,n4⟩:=HI.out.nodes.2 k hk
 have c0:=HI.out.c0
 have c1:=HI.out.c1
 have hpl:=HI.out.pl
 have hkl:=HI.out.kl
 rw [hkd] at n0
 generalize hxt:ns[k].text=xt at *
 generalize ns[k].op=xo at *
 generalize ns[k].n=xn at *
 generalize ns[k].kids=xk at *
 generalize hks:ks[k]=ls at *
 have r1:Below w.heap.size w (w.alloc (.cells #[.int .i64 24,.int .i64 xo,.int .i64 xn,.string xt,.int .i64 xk] 82)):=bA _
 have hw1:=hw.trans (r1.mono hw.size)
 have d1:=(r1.cell (p:=⟨pb,1,none⟩) hpl).trans c1
 have drow:=(r1.cell (p:=⟨kg,k,none⟩) hkl).trans hrow
 obtain ⟨x0,x1,x2,x3⟩:=node_box w ⟨24,xo,xn,xt,xk⟩
 have HIS:=hide (fun q:KB (w.alloc (.cells #[.int .i64 24,.int .i64 xo,.int .i64 xn,.string xt,.int .i64 xk] 82))=>hints0.below (hw1.trans (q.below.mono hw1.size)))
 have fo:∀ q:KB (w.alloc (.cells #[.int .i64 24,.int .i64 xo,.int .i64 xn,.string xt,.int .i64 xk] 82)),q.w.cell? ⟨w.heap.size,1,none⟩=some (.int .i64 xo):=fun q=>(q.below.cell (p:=⟨w.heap.size,1,none⟩) (by simp)).trans x1
 have ft:∀ q:KB (w.alloc (.cells #[.int .i64 24,.int .i64 xo,.int .i64 xn,.string xt,.int .i64 xk] 82)),q.w.cell? ⟨w.heap.size,3,none⟩=some (.string xt):=fun q=>(q.below.cell (p:=⟨w.heap.size,3,none⟩) (by simp)).trans x3
 obtain ⟨i0,hii,hz0,hz1,hz2⟩:=info_parts Tryz.infoByte
 have HS:=hide hS
 have HM:=hide hmm
 have HT:=hide hT
 have HII:=hide (fun W (hb:Below w.heap.size w W)=>hints0.below (hw.trans (hb.mono hw.size)))
 have HW:=hide (fun W (hb:Below w.heap.size w W)=>hw.trans (hb.mono hw.size))
 clear hS hmm hT
 have HQ:=hide (fun q:KB (w.alloc (.cells #[.int .i64 24,.int .i64 xo,.int .i64 xn,.string xt,.int .i64 xk] 82))=>r1.trans (q.below.mono r1.size))
 haveI hne:Nonempty (KB (w.alloc (.cells #[.int .i64 24,.int .i64 xo,.int .i64 xn,.string xt,.int .i64 xk] 82))):=⟨⟨_,Below.refl _ _⟩⟩
 have gt:=ft ⟨_,Below.refl _ _⟩
 have go:=fo ⟨_,Below.refl _ _⟩
 simp only [KB.w] at gt go
 clear r1 hints0 hw hw1 HIS hI HI
 go_enter Tryz.func36,Tryz.ntmps36
 go_wp2
 go_loopw [8,9] (fun v i wr=>∃ (j gt cap:Nat) (t:List UInt8),j≤ls.length∧i = .int .i64 j∧v = .slice (some ⟨gt,0,none⟩) t.length cap∧wr.ownsRow w.heap.size 5 1 (.slice (some ⟨gt,0,none⟩) t.length cap) t.length (Tr.bytesOf t)∧Below w.heap.size w wr∧t=Tr.catted (fun y=>(f y).data.toList) ls j) (fun _ i _=>ls.length - (intOf i).toNat)
 case atStart =>
  exact ⟨0,w.heap.size+1,0,[],Nat.zero_le _,rfl,rfl,by have:=World.ownsRow_lit (base:=w.heap.size) (e:=5) (size:=1) (w.alloc (.cells #[.int .i64 24,.int .i64 xo,.int .i64 xn,.string xt,.int .i64 xk] 82)) #[] 0 (by simp) (by decide) rfl;rw [World.size_alloc] at this;exact this,(bA _).alloc (by simp) _,rfl⟩
 case round =>
  obtain ⟨j,gt,cap,t,hj,rfl,rfl,hown,hB,he⟩:=hrel
  have HE:=hide he
  have htl:t.length≤40000000:=by rw [he];exact HT.out j hj
  clear he
  by_cases hlt:j < ls.length
  ·have hmem:ls[j]∈ls:=List.getElem_mem hlt
   have hfs:=HM.out _ hmem
   have HC:=hide (HS.out _ hmem)
   have HJ:Hid (Tr.catted (fun y=>(f y).data.toList) ls (j+1)=Tr.catted (fun y=>(f y).data.toList) ls j++(f ls[j]).data.toList):=hide (by rw [Tr.catted];simp [hlt])
   obtain ⟨y,hy⟩:∃ y,ls[j]=y:=⟨_,rfl⟩
   rw [hy] at hfs HC HJ
   clear hmem
   have cj:=(HII.out wr hB).2 j hlt
   rw [hy] at cj
   simp only [Nat.zero_add] at cj
   have HCC:=hide (HC.out wr (HW.out wr hB))
   go_wp2_with fail
   refine HCC.out.mono ?_
   rintro e w1 ⟨rfl,b1⟩
   have O1:=row_below hown b1
   have B1:=hB.trans (b1.mono hB.size)
   clear hown b1
   go_wp2_with (at_builtin;refine Lib.wpList_append_own_string _ rfl _ _ 22 9 rfl w.heap.size 5 i0 Tryz.underlying22 Tryz.underlying9 hii hz0 hz1 hz2 _ _ _ rfl O1 (f y) rfl (by unfold maxLen;omega) (by omega) B1.size ?_)
   intro v4 w4 ho4 hg4 hn4
   obtain ⟨g6,cap6,rfl,O6,B6⟩:=app_text O1 B1 ho4 hg4 hn4
   clear ho4 hg4 O1 B1 hn4
   go_wp2
   go_roundw
   case rel=>exact ⟨j+1,g6,cap6,_,by omega,by go_num,rfl,O6,B6,by rw [HJ.out,HE.out]⟩
   case measure=>simp [intOf];omega
  ·have hjl:j=ls.length:=by omega
   subst hjl
   have hcv:=conv_row hown
   go_wp2
   go_ret
   exact ⟨by have e:=HE.out;subst e;rfl,hB⟩
theorem Ik.vgo_both (ns:List Tr.Nd):∀ (ds:List Tr.Nd) (ks:List (List Nat)) (hs:List Nat),Tr.vgo ns (ds.zip ks) hs=true→∀ k (h1:k < ds.length) (h2:k < ks.length),Tr.plain ds[k]=true∧Tr.kidsOk ns ds[k].kind ks[k]=true:=by
 intro ds
 induction ds with
 | nil=>intro ks hs _ k h1;simp at h1
 | cons d r ih =>
  intro ks hs hv k h1 h2
  cases ks with
  | nil=>simp at h2
  | cons x t =>
   simp only [List.zip_cons_cons,Tr.vgo,Bool.and_eq_true] at hv
   cases k with
   | zero=>exact ⟨hv.1.1.2,hv.1.2⟩
   | succ k=>exact ih t _ hv.2 k (by simpa using h1) (by simpa using h2)
theorem Ik.text_short {x:Tr.Nd} (h:Tr.plain x=true):x.text.size≤1000:=by
 unfold Tr.plain at h
 split at h
 ·cases h
 ·rename_i h0
  cases hk:Tr.textK x.kind
  ·have h1:(x.text.toList == [])=true:=by
    cases hc:(x.text.toList == [])
    ·exact absurd (by simp [hk,hc]) h0
    ·rfl
   rw [ByteArray.toList_eq] at h1
   have h2:x.text.data.toList=[]:=by simpa using h1
   have h3:x.text.data.toList.length=0:=by rw [h2];rfl
   have h4:x.text.size=x.text.data.toList.length:=rfl
   omega
  ·have n2:x.kind≠2:=fun e=>by rw [e] at hk;revert hk;decide
   have n3:x.kind≠3:=fun e=>by rw [e] at hk;revert hk;decide
   have n6:x.kind≠6:=fun e=>by rw [e] at hk;revert hk;decide
   have n7:x.kind≠7:=fun e=>by rw [e] at hk;revert hk;decide
   rw [if_neg n2,if_neg n3,if_neg n6,if_neg n7] at h
   split at h
   ·have:=of_decide_eq_true h
    omega
   ·split at h
    ·unfold Tr.pkgOk at h
     simp only [Bool.and_eq_true] at h
     have:=Tr.inr_true h.1
     omega
    ·simp only [hk,Bool.not_true,Bool.false_or] at h
     unfold Tr.nameOk at h
     simp only [Bool.and_eq_true] at h
     have:=Tr.inr_true h.1.1.1
     omega
theorem Ik.num {x:Tr.Nd} (h:Tr.plain x=true):(x.kind=2→x.n=0∨x.n=1)∧(x.kind=3→0≤x.n)∧(x.kind=6→x.op=1∨x.op=2)∧(x.kind=7→1≤x.op∧x.op≤14):=by
 unfold Tr.plain at h
 split at h
 ·cases h
 ·refine ⟨fun e=>?_,fun e=>?_,fun e=>?_,fun e=>?_⟩
  ·rw [e] at h;simpa using h
  ·rw [e] at h;simpa using h
  ·rw [e] at h
   have:=Tr.inr_true (a:=x.op) (by simpa using h:Tr.inr x.op 1 2=true)
   omega
  ·rw [e] at h
   exact Tr.inr_true (a:=x.op) (by simpa using h:Tr.inr x.op 1 14=true)
theorem Ik.one {α:Type} {l:List α} (h:l.length=1):∃ a,l=[a]:=by
 match l,h with
 | [a],_=>exact ⟨a,rfl⟩
theorem Ik.two {α:Type} {l:List α} (h:l.length=2):∃ a b,l=[a,b]:=by
 match l,h with
 | [a,b],_=>exact ⟨a,b,rfl⟩
theorem Ik.three {α:Type} {l:List α} (h:l.length=3):∃ a b c,l=[a,b,c]:=by
 match l,h with
 | [a,b,c],_=>exact ⟨a,b,c,rfl⟩
theorem Ik.lens {ns:List Tr.Nd} {d:Int} {l:List Nat} (h:Tr.kidsOk ns d l=true) :
  (1≤d∧d≤24)∧((d=6∨d=11∨d=17∨d=18∨d=21∨d=22)→l.length=1)∧((d=7∨d=10∨d=14)→l.length=2)∧(d=13→l.length=3)∧(d=16→l.length=2∨l.length=3)∧(d=19→l.length=0∨l.length=1)∧(d=12→l≠[])∧((d=15∨d=20)→l≠[]):=by
 have nil12:Tr.kidsOk ns 12 []=false:=by simp [Tr.kidsOk,Tr.firsts]
 have nil15:Tr.kidsOk ns 15 []=false:=by simp [Tr.kidsOk]
 have nil20:Tr.kidsOk ns 20 []=false:=by simp [Tr.kidsOk]
 refine ⟨?_,fun e=>?_,fun e=>?_,fun e=>?_,fun e=>?_,fun e=>?_,fun e1 e2=>(by rw [e1,e2,nil12] at h;cases h),fun e1 e2=>by rcases e1 with e1 | e1 <;> (rw [e1,e2] at h;simp [nil15,nil20] at h)⟩
 ·refine Classical.byContradiction fun hn=>?_
  unfold Tr.kidsOk at h
  rw [if_neg (by omega),if_neg (by omega),if_neg (by omega),if_neg (by omega),if_neg (by omega),if_neg (by omega),if_neg (by omega),if_neg (by omega),if_neg (by omega),if_neg (by omega),if_neg (by omega),if_neg (by omega)] at h
  cases h
 ·rcases e with e | e | e | e | e | e <;> (rw [e] at h;simp [Tr.kidsOk] at h;omega)
 ·rcases e with e | e | e <;> (rw [e] at h;simp [Tr.kidsOk] at h;omega)
 ·rw [e] at h;simp [Tr.kidsOk] at h;omega
 ·rw [e] at h;simp [Tr.kidsOk] at h;omega
 ·rw [e] at h;simp [Tr.kidsOk] at h;omega
theorem ink_step {w0:World} {pb tg tc kg kc:Nat} {ns:List Tr.Nd} {ks:List (List Nat)} (hI:Ink w0 pb tg tc kg kc ns ks) (hl:ks.length=ns.length) (hn:ns.length≤5000) (k:Nat) (hk:k < ns.length) (hk2:k < ks.length) (hp:Tr.plain ns[k]=true) (ho:Tr.kidsOk ns ns[k].kind ks[k]=true) (hs:(ks[k]).length≤5000) (hu:InkUp w0 pb ks k) (b:Nat) (hc:Ik.Cov ks b ks[k] k) :
  ∃ S:ByteArray,S.size+100≤3500*(k+1 - b)∧Says w0 36 #[.pointer (some ⟨pb,0,none⟩),.int .i64 k] S:=by
 have htx:=Ik.text_short hp
 obtain ⟨q2,q3,q6,q7⟩:=Ik.num hp
 obtain ⟨lr,l1,l2,l3,l16,l19,l12,l15⟩:=Ik.lens ho
 have hkn:k≤5000:=by omega
 have hm:ks.length≤5000:=by omega
 have hb:=hc.le
 obtain ⟨d,hd⟩:∃ d,ns[k].kind=d:=⟨_,rfl⟩
 rw [hd] at q2 q3 q6 q7 lr l1 l2 l3 l16 l19 l12 l15
 have hcases:d=1∨d=2∨d=3∨d=4∨d=5∨d=6∨d=7∨d=8∨d=9∨d=10∨d=11∨d=12∨d=13∨d=14∨d=15∨d=16∨d=17∨d=18∨d=19∨d=20∨d=21∨d=22∨d=23∨d=24:=by omega
 have hqs:=quote_size3 _ htx
 rcases hcases with e | e | e | e | e | e | e | e | e | e | e | e | e | e | e | e | e | e | e | e | e | e | e | e <;> rw [e] at hd
 ·exact ⟨_,(by simp only [sz_lit,List.size_toArray,List.length_cons,List.length_nil];omega),inkP_1 w0 pb tg tc kg kc ns ks hI k hk hk2 hn hm hd htx⟩
 ·rcases q2 e with e2 | e2
  ·exact ⟨_,(by simp only [sz_lit,List.size_toArray,List.length_cons,List.length_nil];omega),inkP_2a w0 pb tg tc kg kc ns ks hI k hk hk2 hn hm hd htx e2⟩
  ·exact ⟨_,(by simp only [sz_lit,List.size_toArray,List.length_cons,List.length_nil];omega),inkP_2b w0 pb tg tc kg kc ns ks hI k hk hk2 hn hm hd htx e2⟩
 ·have h0:=q3 e
  obtain ⟨m,hm2⟩:∃ m:Nat,ns[k].n=m:=⟨ns[k].n.toNat,by omega⟩
  obtain ⟨D,hD,hDD⟩:=dec_weak m
  exact ⟨D,by omega,inkP_3 w0 pb tg tc kg kc ns ks hI k hk hk2 hn hm hd htx m hm2 D hDD⟩
 ·exact ⟨_,by omega,inkP_4 w0 pb tg tc kg kc ns ks hI k hk hk2 hn hm hd htx⟩
 ·exact ⟨_,by omega,inkP_5 w0 pb tg tc kg kc ns ks hI k hk hk2 hn hm hd htx⟩
 ·rcases q6 e with e2 | e2
  ·obtain ⟨x,hx⟩:=Ik.one (l1 (by omega))
   rw [hx] at hc
   obtain ⟨A,a1,a2,a3,a4,a5,a6⟩:=hu.kid hkn hc (Nat.le_refl _)
   obtain ⟨A',a1',a''⟩:=inkE_any w0 pb tg tc kg kc ns ks hI x 3 A (by omega) (by omega) a5
   exact ⟨_,(by simp only [sz_add,sz_lit,List.size_toArray,List.length_cons,List.length_nil];omega),inkP_6a w0 pb tg tc kg kc ns ks hI k hk hk2 hn hm hd htx e2 x hx A' (by omega) a''⟩
  ·obtain ⟨x,hx⟩:=Ik.one (l1 (by omega))
   rw [hx] at hc
   obtain ⟨A,a1,a2,a3,a4,a5,a6⟩:=hu.kid hkn hc (Nat.le_refl _)
   obtain ⟨A',a1',a''⟩:=inkE_any w0 pb tg tc kg kc ns ks hI x 7 A (by omega) (by omega) a5
   exact ⟨_,(by simp only [sz_add,sz_lit,List.size_toArray,List.length_cons,List.length_nil];omega),inkP_6b w0 pb tg tc kg kc ns ks hI k hk hk2 hn hm hd htx e2 x hx A' (by omega) a''⟩
 ·obtain ⟨x,y,hx⟩:=Ik.two (l2 (by omega))
  rw [hx] at hc
  obtain ⟨A,a1,a2,a3,a4,a5,a6⟩:=hu.kid hkn hc (Nat.le_refl _)
  obtain ⟨C,c1,c2,c3,c4,c5,c6⟩:=hu.kid hkn a6 (Nat.le_refl _)
  have hop:=q7 e
  obtain ⟨op,hop2⟩:∃ op:Nat,ns[k].op=op:=⟨ns[k].op.toNat,by omega⟩
  obtain ⟨A',a1',a''⟩:=inkE_any w0 pb tg tc kg kc ns ks hI x (if Tr.rankB op=4 then 5 else Tr.rankB op) A (by omega) (by omega) a5
  obtain ⟨C',c1',c''⟩:=inkE_any w0 pb tg tc kg kc ns ks hI y (Tr.rankB op+1) C (by omega) (by omega) c5
  have hms:=mark_size op
  exact ⟨_,(by rw [sz_add,sz_add,sz_add,sz_add];simp only [sz_lit #[32]];have:(#[32]:Array UInt8).size=1:=rfl;omega),inkP_7 w0 pb tg tc kg kc ns ks hI k hk hk2 hn hm hd htx op hop2 (by omega) x y hx A' (by omega) a'' C' (by omega) c''⟩
 ·obtain ⟨L,s1,s2,s3⟩:=hu.list hkn hc (Nat.le_refl _) hs
  exact ⟨_,(by simp only [sz_add,sz_lit,List.size_toArray,List.length_cons,List.length_nil];omega),inkP_8 w0 pb tg tc kg kc ns ks hI k hk hk2 hn hm hd htx L s2 (fun g c=>s3 g 0 c)⟩
 ·obtain ⟨L,s1,s2,s3⟩:=hu.list hkn hc (Nat.le_refl _) hs
  exact ⟨_,(by simp only [sz_add,sz_lit,List.size_toArray,List.length_cons,List.length_nil];omega),inkP_9 w0 pb tg tc kg kc ns ks hI k hk hk2 hn hm hd htx L s2 (fun g c=>s3 g 0 c)⟩
 ·obtain ⟨x,y,hx⟩:=Ik.two (l2 (by omega))
  rw [hx] at hc
  obtain ⟨A,a1,a2,a3,a4,a5,a6⟩:=hu.kid hkn hc (Nat.le_refl _)
  obtain ⟨C,c1,c2,c3,c4,c5,c6⟩:=hu.kid hkn a6 (Nat.le_refl _)
  obtain ⟨A',a1',a''⟩:=inkE_any w0 pb tg tc kg kc ns ks hI x 8 A (by omega) (by omega) a5
  exact ⟨_,(by simp only [sz_add,sz_lit,List.size_toArray,List.length_cons,List.length_nil];omega),inkP_10 w0 pb tg tc kg kc ns ks hI k hk hk2 hn hm hd htx x y hx A' (by omega) a'' C c2 c5⟩
 ·obtain ⟨x,hx⟩:=Ik.one (l1 (by omega))
  rw [hx] at hc
  obtain ⟨A,a1,a2,a3,a4,a5,a6⟩:=hu.kid hkn hc (Nat.le_refl _)
  obtain ⟨A',a1',a''⟩:=inkE_any w0 pb tg tc kg kc ns ks hI x 8 A (by omega) (by omega) a5
  exact ⟨_,(by simp only [sz_add,sz_lit,List.size_toArray,List.length_cons,List.length_nil];omega),inkP_11 w0 pb tg tc kg kc ns ks hI k hk hk2 hn hm hd htx x hx A' (by omega) a''⟩
 ·obtain ⟨x,r,hx⟩:=List.exists_cons_of_ne_nil (l12 e)
  rw [hx] at hc hs
  rw [List.length_cons] at hs
  obtain ⟨A,a1,a2,a3,a4,a5,a6⟩:=hu.kid hkn hc (Nat.le_refl _)
  obtain ⟨L,s1,s2,s3⟩:=hu.list hkn a6 (Nat.le_refl _) (by omega)
  obtain ⟨A',a1',a''⟩:=inkE_any w0 pb tg tc kg kc ns ks hI x 8 A (by omega) (by omega) a5
  exact ⟨_,(by simp only [sz_add,sz_lit,List.size_toArray,List.length_cons,List.length_nil];omega),inkP_12 w0 pb tg tc kg kc ns ks hI k hk hk2 hn hm hd htx x r hx (by omega) A' (by omega) a'' L s2 s3⟩
 ·obtain ⟨x,y,z,hx⟩:=Ik.three (l3 (by omega))
  rw [hx] at hc
  obtain ⟨A,a1,a2,a3,a4,a5,a6⟩:=hu.kid hkn hc (Nat.le_refl _)
  obtain ⟨C,c1,c2,c3,c4,c5,c6⟩:=hu.kid hkn a6 (Nat.le_refl _)
  obtain ⟨D,d1,d2,d3,d4,d5,d6⟩:=hu.kid hkn c6 (Nat.le_refl _)
  exact ⟨_,(by simp only [sz_add,sz_lit,List.size_toArray,List.length_cons,List.length_nil];omega),inkP_13 w0 pb tg tc kg kc ns ks hI k hk hk2 hn hm hd htx x y z hx A a2 a5 C c2 c5 D d2 d5⟩
 ·obtain ⟨x,y,hx⟩:=Ik.two (l2 (by omega))
  rw [hx] at hc
  obtain ⟨A,a1,a2,a3,a4,a5,a6⟩:=hu.kid hkn hc (Nat.le_refl _)
  obtain ⟨C,c1,c2,c3,c4,c5,c6⟩:=hu.kid hkn a6 (Nat.le_refl _)
  exact ⟨_,(by simp only [sz_add,sz_lit,List.size_toArray,List.length_cons,List.length_nil];omega),inkP_14 w0 pb tg tc kg kc ns ks hI k hk hk2 hn hm hd htx x y hx A a2 a5 C c2 c5⟩
 ·obtain ⟨r,x,hx⟩:∃ r x,ks[k]=r++[x]:=⟨_,_,(List.dropLast_concat_getLast (l15 (by omega))).symm⟩
  rw [hx] at hc hs
  rw [List.length_append] at hs
  obtain ⟨m,hc1,hc2⟩:=Ik.Cov.split r hc
  have hm1:=hc1.le
  obtain ⟨A,a1,a2,a3,a4,a5,a6⟩:=hu.kid hkn hc2 (Nat.le_refl _)
  obtain ⟨L,s1,s2,s3⟩:=hu.list hkn hc1 (by omega) (by omega)
  exact ⟨_,(by simp only [sz_add,sz_lit,List.size_toArray,List.length_cons,List.length_nil];omega),inkP_15 w0 pb tg tc kg kc ns ks hI k hk hk2 hn hm hd htx x r hx (by omega) A a2 a5 L s2 (fun g c=>s3 g 0 c)⟩
 ·rcases l16 e with h2 | h3
  ·obtain ⟨x,y,hx⟩:=Ik.two h2
   rw [hx] at hc
   obtain ⟨A,a1,a2,a3,a4,a5,a6⟩:=hu.kid hkn hc (Nat.le_refl _)
   obtain ⟨C,c1,c2,c3,c4,c5,c6⟩:=hu.kid hkn a6 (Nat.le_refl _)
   exact ⟨_,(by simp only [sz_add,sz_lit,List.size_toArray,List.length_cons,List.length_nil];omega),inkP_16a w0 pb tg tc kg kc ns ks hI k hk hk2 hn hm hd htx x y hx A a2 a5 C c2 c5⟩
  ·obtain ⟨x,y,z,hx⟩:=Ik.three h3
   rw [hx] at hc
   obtain ⟨A,a1,a2,a3,a4,a5,a6⟩:=hu.kid hkn hc (Nat.le_refl _)
   obtain ⟨C,c1,c2,c3,c4,c5,c6⟩:=hu.kid hkn a6 (Nat.le_refl _)
   obtain ⟨D,d1,d2,d3,d4,d5,d6⟩:=hu.kid hkn c6 (Nat.le_refl _)
   exact ⟨_,(by simp only [sz_add,sz_lit,List.size_toArray,List.length_cons,List.length_nil];omega),inkP_16b w0 pb tg tc kg kc ns ks hI k hk hk2 hn hm hd htx x y z hx A a2 a5 C c2 c5 D d2 d5⟩
 ·obtain ⟨x,hx⟩:=Ik.one (l1 (by omega))
  rw [hx] at hc
  obtain ⟨A,a1,a2,a3,a4,a5,a6⟩:=hu.kid hkn hc (Nat.le_refl _)
  cases hno:Tr.nameOk ns[k].text
  ·exact ⟨_,(by rw [sz_add,sz_add];simp only [sz_lit #[58,32]];have:(#[58,32]:Array UInt8).size=2:=rfl;omega),inkP_17b w0 pb tg tc kg kc ns ks hI k hk hk2 hn hm hd htx hno x hx A a2 a5⟩
  ·exact ⟨_,(by simp only [sz_add,sz_lit,List.size_toArray,List.length_cons,List.length_nil];omega),inkP_17a w0 pb tg tc kg kc ns ks hI k hk hk2 hn hm hd htx hno x hx A a2 a5⟩
 ·obtain ⟨x,hx⟩:=Ik.one (l1 (by omega))
  rw [hx] at hc
  obtain ⟨A,a1,a2,a3,a4,a5,a6⟩:=hu.kid hkn hc (Nat.le_refl _)
  exact ⟨_,(by simp only [sz_add,sz_lit,List.size_toArray,List.length_cons,List.length_nil];omega),inkP_18 w0 pb tg tc kg kc ns ks hI k hk hk2 hn hm hd htx x hx A a2 a5⟩
 ·rcases l19 e with h0 | h1
  ·exact ⟨_,by omega,inkP_19a w0 pb tg tc kg kc ns ks hI k hk hk2 hn hm hd htx (List.eq_nil_of_length_eq_zero h0)⟩
  ·obtain ⟨x,hx⟩:=Ik.one h1
   rw [hx] at hc
   obtain ⟨A,a1,a2,a3,a4,a5,a6⟩:=hu.kid hkn hc (Nat.le_refl _)
   exact ⟨_,(by simp only [sz_add,sz_lit,List.size_toArray,List.length_cons,List.length_nil];omega),inkP_19b w0 pb tg tc kg kc ns ks hI k hk hk2 hn hm hd htx x hx A a2 a5⟩
 ·obtain ⟨r,x,hx⟩:∃ r x,ks[k]=r++[x]:=⟨_,_,(List.dropLast_concat_getLast (l15 (by omega))).symm⟩
  rw [hx] at hc hs
  rw [List.length_append] at hs
  obtain ⟨m,hc1,hc2⟩:=Ik.Cov.split r hc
  have hm1:=hc1.le
  obtain ⟨A,a1,a2,a3,a4,a5,a6⟩:=hu.kid hkn hc2 (Nat.le_refl _)
  obtain ⟨L,s1,s2,s3⟩:=hu.list hkn hc1 (by omega) (by omega)
  exact ⟨_,(by simp only [sz_add,sz_lit,List.size_toArray,List.length_cons,List.length_nil];omega),inkP_20 w0 pb tg tc kg kc ns ks hI k hk hk2 hn hm hd htx x r hx (by omega) A a2 a5 L s2 (fun g c=>s3 g 0 c)⟩
 ·obtain ⟨x,hx⟩:=Ik.one (l1 (by omega))
  rw [hx] at hc
  obtain ⟨A,a1,a2,a3,a4,a5,a6⟩:=hu.kid hkn hc (Nat.le_refl _)
  exact ⟨_,(by simp only [sz_add,sz_lit,List.size_toArray,List.length_cons,List.length_nil];omega),inkP_21 w0 pb tg tc kg kc ns ks hI k hk hk2 hn hm hd htx x hx A a2 a5⟩
 ·obtain ⟨x,hx⟩:=Ik.one (l1 (by omega))
  rw [hx] at hc
  obtain ⟨A,a1,a2,a3,a4,a5,a6⟩:=hu.kid hkn hc (Nat.le_refl _)
  exact ⟨_,(by simp only [sz_add,sz_lit,List.size_toArray,List.length_cons,List.length_nil];omega),inkP_22 w0 pb tg tc kg kc ns ks hI k hk hk2 hn hm hd htx x hx A a2 a5⟩
 ·obtain ⟨L,s1,s2,s3⟩:=hu.list hkn hc (Nat.le_refl _) hs
  exact ⟨_,(by rw [sz_add,sz_add,sz_add,sz_add];simp only [sz_lit #[108,111,97,100,32],sz_lit #[58,32],sz_lit #[59,10]];have:(#[108,111,97,100,32]:Array UInt8).size=5:=rfl;have:(#[58,32]:Array UInt8).size=2:=rfl;have:(#[59,10]:Array UInt8).size=2:=rfl;omega),inkP_23 w0 pb tg tc kg kc ns ks hI k hk hk2 hn hm hd htx L s2 (fun g c=>s3 g 0 c)⟩
 ·obtain ⟨f,hf⟩:=hu.f hc (Nat.le_refl _)
  have hj:=Ik.joined_len (f:=f) hc (fun y hy=>(hf y hy).1)
  have hsz:(⟨(Tr.catted (fun y=>(f y).data.toList) ks[k] (ks[k]).length).toArray⟩:ByteArray).size≤3500*(k - b):=by
   obtain ⟨m,hm3,_,_,h1⟩:=hj _ (Nat.le_refl _)
   rw [List.drop_length] at hm3
   cases hm3.nl
   rw [sz_lit,List.size_toArray]
   exact h1
  refine ⟨_,by omega,inkP_24 w0 pb tg tc kg kc ns ks hI k hk hk2 hn hm hd htx f hs (fun y hy=>?_) (fun i hi=>?_) (fun y hy=>(hf y hy).2.2.2)⟩
  ·obtain ⟨b',hb',_⟩:=(hf y hy).2.1
   have:=(hf y hy).1 b' hb'
   have:=(hf y hy).2.2.1
   omega
  ·obtain ⟨m,hm3,_,_,h1⟩:=hj i hi
   have:=hm3.le
   omega
theorem ink_all {w0:World} {pb tg tc kg kc:Nat} {ns:List Tr.Nd} (hI:Ink w0 pb tg tc kg kc ns (Tr.kids ns)) (hv:Tr.valid ns=true):∀ (m k:Nat),k < m→k < ns.length→∀ b,Ik.Cov (Tr.kids ns) b (Ik.kidsOf (Tr.kids ns) k) k→∃ S:ByteArray,S.size+100≤3500*(k+1 - b)∧Says w0 36 #[.pointer (some ⟨pb,0,none⟩),.int .i64 k] S:=by
 unfold Tr.valid at hv
 simp only [Bool.and_eq_true] at hv
 obtain ⟨⟨⟨h1,_⟩,h3⟩,h4⟩:=hv
 have hin:=Tr.inr_true h1
 have hkl:=Tr.kids_len h3
 intro m
 induction m with
 | zero=>intro k h;omega
 | succ m ih =>
  intro k hk hkn b hc
  have hk2:k < (Tr.kids ns).length:=by omega
  obtain ⟨hp,ho⟩:=Ik.vgo_both ns ns (Tr.kids ns) [] h4 k hkn hk2
  have hsh:=Tr.kids_short ns k hk2
  have e:Ik.kidsOf (Tr.kids ns) k=(Tr.kids ns)[k]:=by unfold Ik.kidsOf;rw [List.getElem?_eq_getElem hk2];rfl
  rw [e] at hc
  exact ink_step hI hkl (by omega) k hkn hk2 hp ho (by omega) (fun y b' hy hb'=>ih y (by omega) (by omega) b' hb') b hc
theorem ink_root {w0:World} {pb tg tc kg kc:Nat} {ns:List Tr.Nd} (hI:Ink w0 pb tg tc kg kc ns (Tr.kids ns)) (hv:Tr.valid ns=true):∃ S:ByteArray,S.size≤20000000∧Says w0 36 #[.pointer (some ⟨pb,0,none⟩),.int .i64 (ns.length - 1:Nat)] S:=by
 have hv':=hv
 unfold Tr.valid at hv'
 simp only [Bool.and_eq_true] at hv'
 obtain ⟨⟨⟨h1,_⟩,h3⟩,_⟩:=hv'
 have hin:=Tr.inr_true h1
 obtain ⟨hc,h0⟩:=Ik.root_cov h3
 obtain ⟨S,hs,hS⟩:=ink_all hI hv (ns.length) (ns.length - 1) (by omega) (by omega) 0 hc
 exact ⟨S,by omega,hS⟩
abbrev treeO:Obj:= .cells #[.slice none 0 0] 50
abbrev fltO (a b:Int):Obj:= .cells #[.int .i64 a,.int .i64 b] 26
structure PB (w W:World):Prop where
 B:Below w.heap.size w W
 z:w.heap.size+1 < W.heap.size
 t0:W.cell? ⟨w.heap.size,0,none⟩=some (.slice none 0 0)
 f0:W.cell? ⟨w.heap.size+1,0,none⟩=some (.int .i64 0)
 f1:W.cell? ⟨w.heap.size+1,1,none⟩=some (.int .i64 0)
 ft:W.frozen? ⟨w.heap.size,0,none⟩=false
 ff:∀ j,W.frozen? ⟨w.heap.size+1,j,none⟩=false
theorem PB.new (w:World):PB w ((w.alloc treeO).alloc (fltO 0 0)):=by
 have hb:=(Below.refl (w.heap.size+1) (w.alloc treeO)).alloc (by simp) (fltO 0 0)
 refine ⟨(bA _).alloc (by simp) _,by simp,(hb.cell (p:=⟨w.heap.size,0,none⟩) (Nat.lt_succ_self _)).trans (by simp),?_,?_,(hb.frozen (p:=⟨w.heap.size,0,none⟩) (Nat.lt_succ_self _)).trans (by simp),fun j=>?_⟩
 ·rw [World.cell?,show w.heap.size+1=(w.alloc treeO).heap.size from by simp,heap_alloc_new'];rfl
 ·rw [World.cell?,show w.heap.size+1=(w.alloc treeO).heap.size from by simp,heap_alloc_new'];rfl
 ·rw [World.frozen?,show w.heap.size+1=(w.alloc treeO).heap.size from by simp,heap_alloc_new'];simp
theorem PB.below {w W W':World} (h:PB w W) (hb:Below W.heap.size W W'):PB w W' :=
 ⟨h.B.trans (hb.mono h.B.size),Nat.lt_of_lt_of_le h.z hb.size,(hb.cell (p:=⟨w.heap.size,0,none⟩) (show w.heap.size < W.heap.size by have:=h.z;omega)).trans h.t0,(hb.cell (p:=⟨w.heap.size+1,0,none⟩) h.z).trans h.f0,(hb.cell (p:=⟨w.heap.size+1,1,none⟩) h.z).trans h.f1,(hb.frozen (p:=⟨w.heap.size,0,none⟩) (show w.heap.size < W.heap.size by have:=h.z;omega)).trans h.ft,fun j=>(hb.frozen (p:=⟨w.heap.size+1,j,none⟩) h.z).trans (h.ff j)⟩
set_option maxRecDepth 100000 in
set_option maxHeartbeats 2000000 in
theorem parse_fault (s:ByteArray) (w:World) (hs:s.size≤1048576) (hc:Sc.code s≠0) :
  Calls Tryz.prog 37 #[.string s] w fun e w'=>e = .returned (.tuple #[.agg #[.slice none 0 0],.agg #[.int .i64 (Sc.code s),.int .i64 (Sc.at_ s)]])∧Below w.heap.size w w':=by
 have HP0:=hide (PB.new w)
 have HQ:=hide (sscan_any s ((w.alloc treeO).alloc (fltO 0 0)) hs)
 have hci:¬ ((Sc.code s:Nat):Int)=0:=by omega
 have hcb:(((Sc.code s:Nat):Int) != 0)=true:=by simpa using hc
 go_enter Tryz.func37,Tryz.ntmps37
 go_wp2_with fail
 refine HQ.out.mono ?_
 rintro e w1 ⟨v,rfl,hown,hb1⟩
 have hp1:=HP0.out.below hb1
 have hp2:=hp1.below (bA (fltO (Sc.code s) (Sc.at_ s)))
 have t0:=hp2.t0
 have f0:=hp2.f0
 have f1:=hp2.f1
 have ft:=hp2.ft
 have ff0:=hp2.ff 0
 have ff1:=hp2.ff 1
 have hz:=hp1.z
 have HP2:=hide hp2
 clear hp1 hp2 hb1 hown HQ
 go_wp2
 go_region
 all_goals
  try go_wp2
  refine bodyPost_ret (v:= .tuple #[.agg #[.slice none 0 0],.agg #[.int .i64 (Sc.code s),.int .i64 (Sc.at_ s)]]) (by simp [results,Tryz.results37,go_sem,t0,f0,f1]) rfl ⟨rfl,?_⟩
  repeat (first | (refine Below.setCell ?_ (by show w.heap.size≤_;simp) _) | (refine Below.drew ?_))
  exact HP2.out.B
section
variable {ts:List Sc.T} {sz:Nat}
theorem Pr.stopB_bad (s:Pr.Dk):(Pr.stop ts sz s).bad=true:=by unfold Pr.stop;split;assumption;rfl
theorem Pr.needB_stop (s:Pr.Dk) (t:List UInt8):(Pr.need ts sz (Pr.stop ts sz s) t).bad=true:=by
 have h:=Pr.stopB_bad (ts:=ts) (sz:=sz) s
 have hi:Pr.is ts sz (Pr.stop ts sz s) t=false:=by unfold Pr.is;rw [h];rfl
 unfold Pr.need
 rw [hi]
 exact Pr.stopB_bad _
theorem Pr.pe_on (f:Nat) (s:Pr.Dk):(Pr.pe ts sz (f+1) .statement s).1.bad=true∨s.p < (Pr.pe ts sz (f+1) .statement s).1.p:=by
 have st:∀ (c:Pr.Cmd) (s:Pr.Dk),s.p≤ts.length→Pr.Stp ts s (Pr.pe ts sz f c s).1 (Pr.extra c):=Pr.pe_stp f
 unfold Pr.pe
 split
 ·rename_i hi
  have h1:(Pr.adv s).p≤ts.length:=Pr.is_lt hi
  exact .inr ((((((((Pr.Stp.refl h1).name (sz:=sz)).run st .params).need (sz:=sz) [61]).run st .e).put 20 0 0 (Pr.nameT ts sz (Pr.adv s)) ((Pr.pe ts sz f .params (Pr.name ts sz (Pr.adv s))).2+1)).need (sz:=sz) [59]).ge)
 ·split
  ·rename_i _ hi
   have h1:(Pr.adv s).p≤ts.length:=Pr.is_lt hi
   exact .inr (((((((Pr.Stp.refl h1).name (sz:=sz)).need (sz:=sz) [61]).run st .e).put 21 0 0 (Pr.nameT ts sz (Pr.adv s)) 1).need (sz:=sz) [59]).ge)
  ·split
   ·rename_i _ _ hi
    have h1:(Pr.adv s).p≤ts.length:=Pr.is_lt hi
    exact .inr (((((Pr.Stp.refl h1).run st .e).put 22 0 0 [] 1).need (sz:=sz) [59]).ge)
   ·split
    ·rename_i _ _ _ hi
     have h1:(Pr.adv s).p≤ts.length:=Pr.is_lt hi
     split
     ·rename_i hk
      have hl:(Pr.adv s).p < ts.length:=Pr.tok_lt (sz:=sz) (by simp only [beq_iff_eq] at hk;omega)
      exact .inr (((((((Pr.Stp.refl h1).advL hl).need (sz:=sz) [58]).run st (.loadL 0)).put 23 0 0 (Pr.tok ts sz (Pr.adv s)).text (Pr.pe ts sz f (.loadL 0) (Pr.need ts sz (Pr.adv (Pr.adv s)) [58])).2).need (sz:=sz) [59]).ge)
     ·exact .inl (Pr.stopB_bad _)
    ·exact .inl (Pr.needB_stop _ _)
theorem Pr.Cv.on {s:Pr.Dk} {r:Pr.Dk × Nat} (h:Pr.Cv ts sz .statement s r):r.1.bad=true∨s.p < r.1.p:=by
 obtain ⟨f,hf⟩:=h
 have:=Pr.pe_on (ts:=ts) (sz:=sz) f s
 rwa [hf (f+1) (by omega)] at this
end
def Pr.leftB (b:Nat) (ts:List Sc.T) (w:World):Nat :=
 match w.cell? ⟨b,3,none⟩ with
 | some (.bool true)=>0
 | _=>Pr.left b ts w+1
theorem DK.leftB {b tg tc:Nat} {ts:List Sc.T} {sz:Nat} {v:Value} {s:Pr.Dk} {w:World} (h:DK b tg tc ts sz v s w):Pr.leftB b ts w=if s.bad then 0 else ts.length - s.p+1:=by
 unfold Pr.leftB
 rw [h.c3,h.left]
 cases s.bad <;> rfl
theorem PB.gr {w W W':World} {b:Nat} {v v':Value} (h:PB w W) (hg:Pr.Gr b v v' W W') (hb:w.heap.size+1 < b) (hv:∀ q,v.ownBlock=some q→b < q):PB w W':=by
 have k:∀ q,q≤w.heap.size+1→W'.heap[q]?=W.heap[q]?:=fun q hq=>hg.mv.block q (by have:=h.z;omega) (fun e=>e.elim (fun e=>by omega) (fun e=>by have:=hv q e;omega))
 refine ⟨⟨hg.mv.os.trans h.B.os,hg.mv.tape.trans h.B.tape,hg.mv.output.trans h.B.output,Nat.le_trans h.B.size hg.mv.size,fun q hq=>(k q (by omega)).trans (h.B.block q hq)⟩,Nat.lt_of_lt_of_le h.z hg.mv.size,(World.cell?_of_block (a:=⟨w.heap.size,0,none⟩) (k w.heap.size (by omega))).trans h.t0,(World.cell?_of_block (a:=⟨w.heap.size+1,0,none⟩) (k (w.heap.size+1) (Nat.le_refl _))).trans h.f0,(World.cell?_of_block (a:=⟨w.heap.size+1,1,none⟩) (k (w.heap.size+1) (Nat.le_refl _))).trans h.f1,(World.frozen?_of_block (a:=⟨w.heap.size,0,none⟩) (k w.heap.size (by omega))).trans h.ft,fun j=>(World.frozen?_of_block (a:=⟨w.heap.size+1,j,none⟩) (k (w.heap.size+1) (Nat.le_refl _))).trans (h.ff j)⟩
theorem Tr.cellsOf_atP (l:List Tr.Nd) (i:Nat) (h:i < l.length):(Tr.cellsOf l)[i*5]?=some (.int .i64 l[i].kind)∧(Tr.cellsOf l)[i*5+1]?=some (.int .i64 l[i].op)∧(Tr.cellsOf l)[i*5+2]?=some (.int .i64 l[i].n)∧(Tr.cellsOf l)[i*5+3]?=some (.string l[i].text)∧(Tr.cellsOf l)[i*5+4]?=some (.int .i64 l[i].kids):=by
 induction l generalizing i with
 | nil=>simp at h
 | cons x r ih =>
  rw [show Tr.cellsOf (x :: r)=x.cells++Tr.cellsOf r from rfl]
  match i,h with
  | 0,_=>simp [Tr.Nd.cells]
  | i+1,h =>
   have:=ih i (by simpa using h)
   have hl:x.cells.length=5:=rfl
   refine ⟨?_,?_,?_,?_,?_⟩
   all_goals rw [List.getElem?_append_right (by omega),hl]
   ·rw [show (i+1)*5 - 5=i*5 from by omega];exact this.1
   ·rw [show (i+1)*5+1 - 5=i*5+1 from by omega];exact this.2.1
   ·rw [show (i+1)*5+2 - 5=i*5+2 from by omega];exact this.2.2.1
   ·rw [show (i+1)*5+3 - 5=i*5+3 from by omega];exact this.2.2.2.1
   ·rw [show (i+1)*5+4 - 5=i*5+4 from by omega];exact this.2.2.2.2
theorem nodesAt_row {w:World} {B g c:Nat} {l:List Tr.Nd} (h:w.ownsRow B 82 5 (.slice (some ⟨g,0,none⟩) l.length c) l.length (Tr.cellsOf l)):NodesAt w g l :=
 ⟨(h.lt g rfl).2,fun i hi=>by
  obtain ⟨a,b,c',d,e⟩:=Tr.cellsOf_atP l i hi
  exact ⟨row_cellP h a,row_cellP h b,row_cellP h c',row_cellP h d,row_cellP h e⟩⟩
def ParsePost (w:World) (r:List Tr.Nd × Nat × Nat) (e:Ending) (w':World):Prop:=∃ v,e = .returned (.tuple #[.agg #[v],.agg #[.int .i64 r.2.1,.int .i64 r.2.2]])∧w'.ownsRow w.heap.size 82 5 v r.1.length (Tr.cellsOf r.1)∧Below w.heap.size w w'
end Go.Proofs.YtbckhbeebngjfaaGreatDoor
