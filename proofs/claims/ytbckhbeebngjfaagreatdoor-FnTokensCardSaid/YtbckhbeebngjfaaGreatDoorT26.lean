/- Tk7, Tk8. -/
import Derived.Test.YtbckhbeebngjfaaGreatDoorT23
namespace Go.Proofs.YtbckhbeebngjfaaGreatDoor
open Go.RowKit
variable (w0:World) (pb tg tc kg kc:Nat) (ns:List Tr.Nd) (ks:List (List Nat))
set_option maxRecDepth 100000 in
set_option maxHeartbeats 4000000 in
theorem inkP_23 (hI:Ink w0 pb tg tc kg kc ns ks) (k:Nat) (hk:k < ns.length) (hk2:k < ks.length) (_hn:ns.length≤5000) (_hm:ks.length≤5000) (hkd:ns[k].kind=23) (_htx:ns[k].text.size≤1000) (L:ByteArray) (sL:L.size≤40000000) (hL:∀ g c,IntsAt w0 g 0 ks[k]→Says w0 55 #[.pointer (some ⟨pb,0,none⟩),.slice (some ⟨g,0,none⟩) (ks[k]).length c] L):Says w0 36 #[.pointer (some ⟨pb,0,none⟩),.int .i64 k] ((⟨#[108,111,97,100,32]⟩:ByteArray)++⟨(Tr.quote ns[k].text.data.toList).toArray⟩++(⟨#[58,32]⟩:ByteArray)++L++(⟨#[59,10]⟩:ByteArray)):=by
 intro w hw
 obtain ⟨g,c,hrow0,hints0,hgc⟩:=hI.rows k hk2
 have HI:=hide (hI.below hw)
 have hrow:=(hw.cell (p:=⟨kg,k,none⟩) hI.kl).trans hrow0
 obtain ⟨n0,n1,n2,n3,n4⟩:=HI.out.nodes.2 k hk
 have c0:=HI.out.c0
 have c1:=HI.out.c1
 have hpl:=HI.out.pl
 have hkl:=HI.out.kl
 rw [hkd] at n0
 generalize hxt:ns[k].text=xt at *
 generalize ns[k].op=xo at *
 generalize ns[k].n=xn at *
 generalize ns[k].kids=xk at *
 generalize hks:ks[k]=ls at *
 have r1:Below w.heap.size w (w.alloc (.cells #[.int .i64 23,.int .i64 xo,.int .i64 xn,.string xt,.int .i64 xk] 82)):=bA _
 have hw1:=hw.trans (r1.mono hw.size)
 have d1:=(r1.cell (p:=⟨pb,1,none⟩) hpl).trans c1
 have drow:=(r1.cell (p:=⟨kg,k,none⟩) hkl).trans hrow
 obtain ⟨x0,x1,x2,x3⟩:=node_box w ⟨23,xo,xn,xt,xk⟩
 have HIS:=hide (fun q:KB (w.alloc (.cells #[.int .i64 23,.int .i64 xo,.int .i64 xn,.string xt,.int .i64 xk] 82))=>hints0.below (hw1.trans (q.below.mono hw1.size)))
 have fo:∀ q:KB (w.alloc (.cells #[.int .i64 23,.int .i64 xo,.int .i64 xn,.string xt,.int .i64 xk] 82)),q.w.cell? ⟨w.heap.size,1,none⟩=some (.int .i64 xo):=fun q=>(q.below.cell (p:=⟨w.heap.size,1,none⟩) (by simp)).trans x1
 have ft:∀ q:KB (w.alloc (.cells #[.int .i64 23,.int .i64 xo,.int .i64 xn,.string xt,.int .i64 xk] 82)),q.w.cell? ⟨w.heap.size,3,none⟩=some (.string xt):=fun q=>(q.below.cell (p:=⟨w.heap.size,3,none⟩) (by simp)).trans x3
 have hql:(⟨(Tr.quote xt.data.toList).toArray⟩:ByteArray).size≤4000:=quote_size xt (by omega)
 have HA:=hide (fun q:KB (w.alloc (.cells #[.int .i64 23,.int .i64 xo,.int .i64 xn,.string xt,.int .i64 xk] 82))=>kb_call (fun w2 _=>quote_any xt w2 (by omega)) q)
 have HL:=hide (fun q=>Says.kb (hL g c hints0) hw1 q)
 generalize (⟨(Tr.quote xt.data.toList).toArray⟩:ByteArray)=QT at *
 have HQ:=hide (fun q:KB (w.alloc (.cells #[.int .i64 23,.int .i64 xo,.int .i64 xn,.string xt,.int .i64 xk] 82))=>r1.trans (q.below.mono r1.size))
 haveI hne:Nonempty (KB (w.alloc (.cells #[.int .i64 23,.int .i64 xo,.int .i64 xn,.string xt,.int .i64 xk] 82))):=⟨⟨_,Below.refl _ _⟩⟩
 have gt:=ft ⟨_,Below.refl _ _⟩
 have go:=fo ⟨_,Below.refl _ _⟩
 simp only [KB.w] at gt go
 clear r1 hints0 hw hw1 HIS hI HI
 go_enter Tryz.func36,Tryz.ntmps36
 go_wp2_with fail
 refine (HA.out ⟨_,Below.refl _ _⟩).mono ?_
 rintro e _ ⟨rfl,q,rfl⟩
 go_wp2_with fail
 refine (HL.out q).mono ?_
 rintro e _ ⟨rfl,q2,rfl⟩
 go_wp2
 go_ret
 exact ⟨rfl,HQ.out q2⟩
set_option maxRecDepth 100000 in
set_option maxHeartbeats 4000000 in
theorem inkP_17a (hI:Ink w0 pb tg tc kg kc ns ks) (k:Nat) (hk:k < ns.length) (hk2:k < ks.length) (_hn:ns.length≤5000) (_hm:ks.length≤5000) (hkd:ns[k].kind=17) (_htx:ns[k].text.size≤1000) (hno:Tr.nameOk ns[k].text=true) (a:Nat) (hks:ks[k]=[a]) (A:ByteArray) (sA:A.size≤20000000) (hA:Says w0 36 #[.pointer (some ⟨pb,0,none⟩),.int .i64 a] A):Says w0 36 #[.pointer (some ⟨pb,0,none⟩),.int .i64 k] (ns[k].text++(⟨#[58,32]⟩:ByteArray)++A):=by
 intro w hw
 obtain ⟨g,c,hrow0,hints0,hgc⟩:=hI.rows k hk2
 have HI:=hide (hI.below hw)
 have hrow:=(hw.cell (p:=⟨kg,k,none⟩) hI.kl).trans hrow0
 obtain ⟨n0,n1,n2,n3,n4⟩:=HI.out.nodes.2 k hk
 have c0:=HI.out.c0
 have c1:=HI.out.c1
 have hpl:=HI.out.pl
 have hkl:=HI.out.kl
 rw [hkd] at n0
 generalize hxt:ns[k].text=xt at *
 generalize ns[k].op=xo at *
 generalize ns[k].n=xn at *
 generalize ns[k].kids=xk at *
 rw [hks] at hrow0 hints0 hgc hrow
 have r1:Below w.heap.size w (w.alloc (.cells #[.int .i64 17,.int .i64 xo,.int .i64 xn,.string xt,.int .i64 xk] 82)):=bA _
 have hw1:=hw.trans (r1.mono hw.size)
 have d1:=(r1.cell (p:=⟨pb,1,none⟩) hpl).trans c1
 have drow:=(r1.cell (p:=⟨kg,k,none⟩) hkl).trans hrow
 obtain ⟨x0,x1,x2,x3⟩:=node_box w ⟨17,xo,xn,xt,xk⟩
 have HIS:=hide (fun q:KB (w.alloc (.cells #[.int .i64 17,.int .i64 xo,.int .i64 xn,.string xt,.int .i64 xk] 82))=>hints0.below (hw1.trans (q.below.mono hw1.size)))
 have fo:∀ q:KB (w.alloc (.cells #[.int .i64 17,.int .i64 xo,.int .i64 xn,.string xt,.int .i64 xk] 82)),q.w.cell? ⟨w.heap.size,1,none⟩=some (.int .i64 xo):=fun q=>(q.below.cell (p:=⟨w.heap.size,1,none⟩) (by simp)).trans x1
 have ft:∀ q:KB (w.alloc (.cells #[.int .i64 17,.int .i64 xo,.int .i64 xn,.string xt,.int .i64 xk] 82)),q.w.cell? ⟨w.heap.size,3,none⟩=some (.string xt):=fun q=>(q.below.cell (p:=⟨w.heap.size,3,none⟩) (by simp)).trans x3
 have fi0:∀ q:KB (w.alloc (.cells #[.int .i64 17,.int .i64 xo,.int .i64 xn,.string xt,.int .i64 xk] 82)),q.w.cell? ⟨g,0,none⟩=some (.int .i64 a):=fun q=>(HIS.out q).2 0 (by simp)
 have HA:=hide (fun q=>Says.kb hA hw1 q)
 have HN:=hide (fun q:KB (w.alloc (.cells #[.int .i64 17,.int .i64 xo,.int .i64 xn,.string xt,.int .i64 xk] 82))=>kb_call (fun w2 _=>nameOk_any xt w2) q)
 rw [hno] at HN
 have HQ:=hide (fun q:KB (w.alloc (.cells #[.int .i64 17,.int .i64 xo,.int .i64 xn,.string xt,.int .i64 xk] 82))=>r1.trans (q.below.mono r1.size))
 haveI hne:Nonempty (KB (w.alloc (.cells #[.int .i64 17,.int .i64 xo,.int .i64 xn,.string xt,.int .i64 xk] 82))):=⟨⟨_,Below.refl _ _⟩⟩
 have gt:=ft ⟨_,Below.refl _ _⟩
 have go:=fo ⟨_,Below.refl _ _⟩
 simp only [KB.w] at gt go
 clear r1 hints0 hw hw1 HIS hI HI
 go_enter Tryz.func36,Tryz.ntmps36
 go_wp2_with fail
 refine (HN.out ⟨_,Below.refl _ _⟩).mono ?_
 rintro e _ ⟨rfl,q0,rfl⟩
 go_wp2_with fail
 refine region_class (KB.w (w:=(w.alloc (.cells #[.int .i64 17,.int .i64 xo,.int .i64 xn,.string xt,.int .i64 xk] 82)))) (by kernel_rfl) (by kernel_rfl) ⟨⟨_,q0.below.drew⟩,rfl⟩ ?_
 repeat (go_big_quiet_step (first | with_reducible exact HA.out _))
 refine wpQuiet_nil ?_
 rintro _ ⟨q,rfl⟩
 go_wp2
 go_ret
 exact ⟨rfl,HQ.out q⟩
set_option maxRecDepth 100000 in
set_option maxHeartbeats 4000000 in
theorem inkP_17b (hI:Ink w0 pb tg tc kg kc ns ks) (k:Nat) (hk:k < ns.length) (hk2:k < ks.length) (_hn:ns.length≤5000) (_hm:ks.length≤5000) (hkd:ns[k].kind=17) (_htx:ns[k].text.size≤1000) (hno:Tr.nameOk ns[k].text=false) (a:Nat) (hks:ks[k]=[a]) (A:ByteArray) (sA:A.size≤20000000) (hA:Says w0 36 #[.pointer (some ⟨pb,0,none⟩),.int .i64 a] A):Says w0 36 #[.pointer (some ⟨pb,0,none⟩),.int .i64 k] (⟨(Tr.quote ns[k].text.data.toList).toArray⟩++(⟨#[58,32]⟩:ByteArray)++A):=by
 intro w hw
 obtain ⟨g,c,hrow0,hints0,hgc⟩:=hI.rows k hk2
 have HI:=hide (hI.below hw)
 have hrow:=(hw.cell (p:=⟨kg,k,none⟩) hI.kl).trans hrow0
 obtain ⟨n0,n1,n2,n3,n4⟩:=HI.out.nodes.2 k hk
 have c0:=HI.out.c0
 have c1:=HI.out.c1
 have hpl:=HI.out.pl
 have hkl:=HI.out.kl
 rw [hkd] at n0
 generalize hxt:ns[k].text=xt at *
 generalize ns[k].op=xo at *
 generalize ns[k].n=xn at *
 generalize ns[k].kids=xk at *
 rw [hks] at hrow0 hints0 hgc hrow
 have r1:Below w.heap.size w (w.alloc (.cells #[.int .i64 17,.int .i64 xo,.int .i64 xn,.string xt,.int .i64 xk] 82)):=bA _
 have hw1:=hw.trans (r1.mono hw.size)
 have d1:=(r1.cell (p:=⟨pb,1,none⟩) hpl).trans c1
 have drow:=(r1.cell (p:=⟨kg,k,none⟩) hkl).trans hrow
 obtain ⟨x0,x1,x2,x3⟩:=node_box w ⟨17,xo,xn,xt,xk⟩
 have HIS:=hide (fun q:KB (w.alloc (.cells #[.int .i64 17,.int .i64 xo,.int .i64 xn,.string xt,.int .i64 xk] 82))=>hints0.below (hw1.trans (q.below.mono hw1.size)))
 have fo:∀ q:KB (w.alloc (.cells #[.int .i64 17,.int .i64 xo,.int .i64 xn,.string xt,.int .i64 xk] 82)),q.w.cell? ⟨w.heap.size,1,none⟩=some (.int .i64 xo):=fun q=>(q.below.cell (p:=⟨w.heap.size,1,none⟩) (by simp)).trans x1
 have ft:∀ q:KB (w.alloc (.cells #[.int .i64 17,.int .i64 xo,.int .i64 xn,.string xt,.int .i64 xk] 82)),q.w.cell? ⟨w.heap.size,3,none⟩=some (.string xt):=fun q=>(q.below.cell (p:=⟨w.heap.size,3,none⟩) (by simp)).trans x3
 have fi0:∀ q:KB (w.alloc (.cells #[.int .i64 17,.int .i64 xo,.int .i64 xn,.string xt,.int .i64 xk] 82)),q.w.cell? ⟨g,0,none⟩=some (.int .i64 a):=fun q=>(HIS.out q).2 0 (by simp)
 have HA:=hide (fun q=>Says.kb hA hw1 q)
 have hql:(⟨(Tr.quote xt.data.toList).toArray⟩:ByteArray).size≤4000:=quote_size xt (by omega)
 have HT:=hide (fun q:KB (w.alloc (.cells #[.int .i64 17,.int .i64 xo,.int .i64 xn,.string xt,.int .i64 xk] 82))=>kb_call (fun w2 _=>quote_any xt w2 (by omega)) q)
 have HN:=hide (fun q:KB (w.alloc (.cells #[.int .i64 17,.int .i64 xo,.int .i64 xn,.string xt,.int .i64 xk] 82))=>kb_call (fun w2 _=>nameOk_any xt w2) q)
 rw [hno] at HN
 generalize (⟨(Tr.quote xt.data.toList).toArray⟩:ByteArray)=QT at *
 have HQ:=hide (fun q:KB (w.alloc (.cells #[.int .i64 17,.int .i64 xo,.int .i64 xn,.string xt,.int .i64 xk] 82))=>r1.trans (q.below.mono r1.size))
 haveI hne:Nonempty (KB (w.alloc (.cells #[.int .i64 17,.int .i64 xo,.int .i64 xn,.string xt,.int .i64 xk] 82))):=⟨⟨_,Below.refl _ _⟩⟩
 have gt:=ft ⟨_,Below.refl _ _⟩
 have go:=fo ⟨_,Below.refl _ _⟩
 simp only [KB.w] at gt go
 clear r1 hints0 hw hw1 HIS hI HI
 go_enter Tryz.func36,Tryz.ntmps36
 go_wp2_with fail
 refine (HN.out ⟨_,Below.refl _ _⟩).mono ?_
 rintro e _ ⟨rfl,q0,rfl⟩
 go_wp2_with fail
 refine region_class (KB.w (w:=(w.alloc (.cells #[.int .i64 17,.int .i64 xo,.int .i64 xn,.string xt,.int .i64 xk] 82)))) (by kernel_rfl) (by kernel_rfl) ⟨⟨_,q0.below.drew⟩,rfl⟩ ?_
 repeat (go_big_quiet_step (first | with_reducible exact HA.out _ | with_reducible exact HT.out _))
 refine wpQuiet_nil ?_
 rintro _ ⟨q,rfl⟩
 go_wp2
 go_ret
 exact ⟨rfl,HQ.out q⟩
set_option maxRecDepth 100000 in
set_option maxHeartbeats 4000000 in
theorem inkP_19a (hI:Ink w0 pb tg tc kg kc ns ks) (k:Nat) (hk:k < ns.length) (hk2:k < ks.length) (_hn:ns.length≤5000) (_hm:ks.length≤5000) (hkd:ns[k].kind=19) (_htx:ns[k].text.size≤1000) (hks:ks[k]=[]):Says w0 36 #[.pointer (some ⟨pb,0,none⟩),.int .i64 k] (ns[k].text):=by
 intro w hw
 obtain ⟨g,c,hrow0,hints0,hgc⟩:=hI.rows k hk2
 have HI:=hide (hI.below hw)
 have hrow:=(hw.cell (p:=⟨kg,k,none⟩) hI.kl).trans hrow0
 obtain ⟨n0,n1,n2,n3,n4⟩:=HI.out.nodes.2 k hk
 have c0:=HI.out.c0
 have c1:=HI.out.c1
 have hpl:=HI.out.pl
 have hkl:=HI.out.kl
 rw [hkd] at n0
 generalize hxt:ns[k].text=xt at *
 generalize ns[k].op=xo at *
 generalize ns[k].n=xn at *
 generalize ns[k].kids=xk at *
 rw [hks] at hrow0 hints0 hgc hrow
 have r1:Below w.heap.size w (w.alloc (.cells #[.int .i64 19,.int .i64 xo,.int .i64 xn,.string xt,.int .i64 xk] 82)):=bA _
 have hw1:=hw.trans (r1.mono hw.size)
 have d1:=(r1.cell (p:=⟨pb,1,none⟩) hpl).trans c1
 have drow:=(r1.cell (p:=⟨kg,k,none⟩) hkl).trans hrow
 obtain ⟨x0,x1,x2,x3⟩:=node_box w ⟨19,xo,xn,xt,xk⟩
 have HIS:=hide (fun q:KB (w.alloc (.cells #[.int .i64 19,.int .i64 xo,.int .i64 xn,.string xt,.int .i64 xk] 82))=>hints0.below (hw1.trans (q.below.mono hw1.size)))
 have fo:∀ q:KB (w.alloc (.cells #[.int .i64 19,.int .i64 xo,.int .i64 xn,.string xt,.int .i64 xk] 82)),q.w.cell? ⟨w.heap.size,1,none⟩=some (.int .i64 xo):=fun q=>(q.below.cell (p:=⟨w.heap.size,1,none⟩) (by simp)).trans x1
 have ft:∀ q:KB (w.alloc (.cells #[.int .i64 19,.int .i64 xo,.int .i64 xn,.string xt,.int .i64 xk] 82)),q.w.cell? ⟨w.heap.size,3,none⟩=some (.string xt):=fun q=>(q.below.cell (p:=⟨w.heap.size,3,none⟩) (by simp)).trans x3
 have HQ:=hide (fun q:KB (w.alloc (.cells #[.int .i64 19,.int .i64 xo,.int .i64 xn,.string xt,.int .i64 xk] 82))=>r1.trans (q.below.mono r1.size))
 haveI hne:Nonempty (KB (w.alloc (.cells #[.int .i64 19,.int .i64 xo,.int .i64 xn,.string xt,.int .i64 xk] 82))):=⟨⟨_,Below.refl _ _⟩⟩
 have gt:=ft ⟨_,Below.refl _ _⟩
 have go:=fo ⟨_,Below.refl _ _⟩
 simp only [KB.w] at gt go
 clear r1 hints0 hw hw1 HIS hI HI
 go_enter Tryz.func36,Tryz.ntmps36
 go_wp2
 go_ret
 exact ⟨rfl,HQ.out ⟨_,Below.refl _ _⟩⟩
set_option maxRecDepth 100000 in
set_option maxHeartbeats 4000000 in
theorem inkP_19b (hI:Ink w0 pb tg tc kg kc ns ks) (k:Nat) (hk:k < ns.length) (hk2:k < ks.length) (_hn:ns.length≤5000) (_hm:ks.length≤5000) (hkd:ns[k].kind=19) (_htx:ns[k].text.size≤1000) (a:Nat) (hks:ks[k]=[a]) (A:ByteArray) (sA:A.size≤20000000) (hA:Says w0 36 #[.pointer (some ⟨pb,0,none⟩),.int .i64 a] A):Says w0 36 #[.pointer (some ⟨pb,0,none⟩),.int .i64 k] (ns[k].text++(⟨#[32,61,32]⟩:ByteArray)++A):=by
 intro w hw
 obtain ⟨g,c,hrow0,hints0,hgc⟩:=hI.rows k hk2
 have HI:=hide (hI.below hw)
 have hrow:=(hw.cell (p:=⟨kg,k,none⟩) hI.kl).trans hrow0
 obtain ⟨n0,n1,n2,n3,n4⟩:=HI.out.nodes.2 k hk
 have c0:=HI.out.c0
 have c1:=HI.out.c1
 have hpl:=HI.out.pl
 have hkl:=HI.out.kl
 rw [hkd] at n0
 generalize hxt:ns[k].text=xt at *
 generalize ns[k].op=xo at *
 generalize ns[k].n=xn at *
 generalize ns[k].kids=xk at *
 rw [hks] at hrow0 hints0 hgc hrow
 have r1:Below w.heap.size w (w.alloc (.cells #[.int .i64 19,.int .i64 xo,.int .i64 xn,.string xt,.int .i64 xk] 82)):=bA _
 have hw1:=hw.trans (r1.mono hw.size)
 have d1:=(r1.cell (p:=⟨pb,1,none⟩) hpl).trans c1
 have drow:=(r1.cell (p:=⟨kg,k,none⟩) hkl).trans hrow
 obtain ⟨x0,x1,x2,x3⟩:=node_box w ⟨19,xo,xn,xt,xk⟩
 have HIS:=hide (fun q:KB (w.alloc (.cells #[.int .i64 19,.int .i64 xo,.int .i64 xn,.string xt,.int .i64 xk] 82))=>hints0.below (hw1.trans (q.below.mono hw1.size)))
 have fo:∀ q:KB (w.alloc (.cells #[.int .i64 19,.int .i64 xo,.int .i64 xn,.string xt,.int .i64 xk] 82)),q.w.cell? ⟨w.heap.size,1,none⟩=some (.int .i64 xo):=fun q=>(q.below.cell (p:=⟨w.heap.size,1,none⟩) (by simp)).trans x1
 have ft:∀ q:KB (w.alloc (.cells #[.int .i64 19,.int .i64 xo,.int .i64 xn,.string xt,.int .i64 xk] 82)),q.w.cell? ⟨w.heap.size,3,none⟩=some (.string xt):=fun q=>(q.below.cell (p:=⟨w.heap.size,3,none⟩) (by simp)).trans x3
 have fi0:∀ q:KB (w.alloc (.cells #[.int .i64 19,.int .i64 xo,.int .i64 xn,.string xt,.int .i64 xk] 82)),q.w.cell? ⟨g,0,none⟩=some (.int .i64 a):=fun q=>(HIS.out q).2 0 (by simp)
 have HA:=hide (fun q=>Says.kb hA hw1 q)
 have HQ:=hide (fun q:KB (w.alloc (.cells #[.int .i64 19,.int .i64 xo,.int .i64 xn,.string xt,.int .i64 xk] 82))=>r1.trans (q.below.mono r1.size))
 haveI hne:Nonempty (KB (w.alloc (.cells #[.int .i64 19,.int .i64 xo,.int .i64 xn,.string xt,.int .i64 xk] 82))):=⟨⟨_,Below.refl _ _⟩⟩
 have gt:=ft ⟨_,Below.refl _ _⟩
 have go:=fo ⟨_,Below.refl _ _⟩
 simp only [KB.w] at gt go
 clear r1 hints0 hw hw1 HIS hI HI
 go_enter Tryz.func36,Tryz.ntmps36
 go_wp2_with fail
 refine region_class (KB.w (w:=(w.alloc (.cells #[.int .i64 19,.int .i64 xo,.int .i64 xn,.string xt,.int .i64 xk] 82)))) (by kernel_rfl) (by kernel_rfl) ⟨⟨_,(Below.refl _ _).drew⟩,rfl⟩ ?_
 repeat (go_big_quiet_step (first | with_reducible exact HA.out _))
 refine wpQuiet_nil ?_
 rintro _ ⟨q,rfl⟩
 go_wp2
 go_ret
 exact ⟨rfl,HQ.out q⟩
variable (w0:World) (pb tg tc kg kc:Nat) (ns:List Tr.Nd) (ks:List (List Nat))
set_option maxRecDepth 100000 in
set_option maxHeartbeats 4000000 in
theorem inkP_12 (hI:Ink w0 pb tg tc kg kc ns ks) (k:Nat) (hk:k < ns.length) (hk2:k < ks.length) (_hn:ns.length≤5000) (_hm:ks.length≤5000) (hkd:ns[k].kind=12) (_htx:ns[k].text.size≤1000) (a:Nat) (ls:List Nat) (hks:ks[k]=a :: ls) (hl:ls.length≤5000) (A:ByteArray) (sA:A.size≤20000002) (hA:Says w0 53 #[.pointer (some ⟨pb,0,none⟩),.int .i64 a,.int .i64 8] A) (L:ByteArray) (sL:L.size≤40000000) (hL:∀ g o c,IntsAt w0 g o ls→Says w0 55 #[.pointer (some ⟨pb,0,none⟩),.slice (some ⟨g,o,none⟩) ls.length c] L):Says w0 36 #[.pointer (some ⟨pb,0,none⟩),.int .i64 k] (A++(⟨#[40]⟩:ByteArray)++L++(⟨#[41]⟩:ByteArray)):=by
 intro w hw
 obtain ⟨g,c,hrow0,hints0,hgc⟩:=hI.rows k hk2
 have HI:=hide (hI.below hw)
 have hrow:=(hw.cell (p:=⟨kg,k,none⟩) hI.kl).trans hrow0
 obtain ⟨n0,n1,n2,n3,n4⟩:=HI.out.nodes.2 k hk
 have c0:=HI.out.c0
 have c1:=HI.out.c1
 have hpl:=HI.out.pl
 have hkl:=HI.out.kl
 rw [hkd] at n0
 generalize hxt:ns[k].text=xt at *
 generalize ns[k].op=xo at *
 generalize ns[k].n=xn at *
 generalize ns[k].kids=xk at *
 rw [hks] at hrow0 hints0 hgc hrow
 have r1:Below w.heap.size w (w.alloc (.cells #[.int .i64 12,.int .i64 xo,.int .i64 xn,.string xt,.int .i64 xk] 82)):=bA _
 have hw1:=hw.trans (r1.mono hw.size)
 have d1:=(r1.cell (p:=⟨pb,1,none⟩) hpl).trans c1
 have drow:=(r1.cell (p:=⟨kg,k,none⟩) hkl).trans hrow
 obtain ⟨x0,x1,x2,x3⟩:=node_box w ⟨12,xo,xn,xt,xk⟩
 have HIS:=hide (fun q:KB (w.alloc (.cells #[.int .i64 12,.int .i64 xo,.int .i64 xn,.string xt,.int .i64 xk] 82))=>hints0.below (hw1.trans (q.below.mono hw1.size)))
 have fo:∀ q:KB (w.alloc (.cells #[.int .i64 12,.int .i64 xo,.int .i64 xn,.string xt,.int .i64 xk] 82)),q.w.cell? ⟨w.heap.size,1,none⟩=some (.int .i64 xo):=fun q=>(q.below.cell (p:=⟨w.heap.size,1,none⟩) (by simp)).trans x1
 have ft:∀ q:KB (w.alloc (.cells #[.int .i64 12,.int .i64 xo,.int .i64 xn,.string xt,.int .i64 xk] 82)),q.w.cell? ⟨w.heap.size,3,none⟩=some (.string xt):=fun q=>(q.below.cell (p:=⟨w.heap.size,3,none⟩) (by simp)).trans x3
 have fi0:∀ q:KB (w.alloc (.cells #[.int .i64 12,.int .i64 xo,.int .i64 xn,.string xt,.int .i64 xk] 82)),q.w.cell? ⟨g,0,none⟩=some (.int .i64 a):=fun q=>(HIS.out q).2 0 (by simp)
 have HA:=hide (fun q=>Says.kb hA hw1 q)
 rw [List.length_cons] at hgc hrow drow
 have hLL:Says w0 55 #[.pointer (some ⟨pb,0,none⟩),.slice (if c=1 then some ⟨g,0,none⟩ else some ⟨g,1,none⟩) ls.length (c - 1)] L:=by
  by_cases h1:c=1
  ·rw [if_pos h1]
   have h0:ls=[]:=List.eq_nil_of_length_eq_zero (by omega)
   exact hL g 0 _ ⟨hints0.1,fun j hj=>by rw [h0] at hj;exact absurd hj (Nat.not_lt_zero _)⟩
  ·rw [if_neg h1]
   exact hL g 1 _ (hints0.drop 1)
 have HL:=hide (fun q=>Says.kb hLL hw1 q)
 have HQ:=hide (fun q:KB (w.alloc (.cells #[.int .i64 12,.int .i64 xo,.int .i64 xn,.string xt,.int .i64 xk] 82))=>r1.trans (q.below.mono r1.size))
 haveI hne:Nonempty (KB (w.alloc (.cells #[.int .i64 12,.int .i64 xo,.int .i64 xn,.string xt,.int .i64 xk] 82))):=⟨⟨_,Below.refl _ _⟩⟩
 have gt:=ft ⟨_,Below.refl _ _⟩
 have go:=fo ⟨_,Below.refl _ _⟩
 simp only [KB.w] at gt go
 clear r1 hints0 hw hw1 HIS hI HI
 go_enter Tryz.func36,Tryz.ntmps36
 go_wp2_with fail
 refine region_class (KB.w (w:=(w.alloc (.cells #[.int .i64 12,.int .i64 xo,.int .i64 xn,.string xt,.int .i64 xk] 82)))) (by kernel_rfl) (by kernel_rfl) ⟨⟨_,(Below.refl _ _).drew⟩,rfl⟩ ?_
 repeat (go_big_quiet_step (first | with_reducible exact HA.out _ | with_reducible exact HL.out _))
 refine wpQuiet_nil ?_
 rintro _ ⟨q,rfl⟩
 go_wp2
 all_goals (go_ret;exact ⟨rfl,HQ.out q⟩)
set_option maxRecDepth 100000 in
set_option maxHeartbeats 4000000 in
theorem inkP_15 (hI:Ink w0 pb tg tc kg kc ns ks) (k:Nat) (hk:k < ns.length) (hk2:k < ks.length) (_hn:ns.length≤5000) (_hm:ks.length≤5000) (hkd:ns[k].kind=15) (_htx:ns[k].text.size≤1000) (a:Nat) (ls:List Nat) (hks:ks[k]=ls++[a]) (hl:ls.length≤5000) (A:ByteArray) (sA:A.size≤20000000) (hA:Says w0 36 #[.pointer (some ⟨pb,0,none⟩),.int .i64 a] A) (L:ByteArray) (sL:L.size≤40000000) (hL:∀ g c,IntsAt w0 g 0 ls→Says w0 55 #[.pointer (some ⟨pb,0,none⟩),.slice (some ⟨g,0,none⟩) (ls).length c] L):Says w0 36 #[.pointer (some ⟨pb,0,none⟩),.int .i64 k] ((⟨#[102,110,40]⟩:ByteArray)++L++(⟨#[41,32,61,62,32]⟩:ByteArray)++A):=by
 intro w hw
 obtain ⟨g,c,hrow0,hints0,hgc⟩:=hI.rows k hk2
 have HI:=hide (hI.below hw)
 have hrow:=(hw.cell (p:=⟨kg,k,none⟩) hI.kl).trans hrow0
 obtain ⟨n0,n1,n2,n3,n4⟩:=HI.out.nodes.2 k hk
 have c0:=HI.out.c0
 have c1:=HI.out.c1
 have hpl:=HI.out.pl
 have hkl:=HI.out.kl
 rw [hkd] at n0
 generalize hxt:ns[k].text=xt at *
 generalize ns[k].op=xo at *
 generalize ns[k].n=xn at *
 generalize ns[k].kids=xk at *
 rw [hks] at hrow0 hints0 hgc hrow
 have r1:Below w.heap.size w (w.alloc (.cells #[.int .i64 15,.int .i64 xo,.int .i64 xn,.string xt,.int .i64 xk] 82)):=bA _
 have hw1:=hw.trans (r1.mono hw.size)
 have d1:=(r1.cell (p:=⟨pb,1,none⟩) hpl).trans c1
 have drow:=(r1.cell (p:=⟨kg,k,none⟩) hkl).trans hrow
 obtain ⟨x0,x1,x2,x3⟩:=node_box w ⟨15,xo,xn,xt,xk⟩
 have HIS:=hide (fun q:KB (w.alloc (.cells #[.int .i64 15,.int .i64 xo,.int .i64 xn,.string xt,.int .i64 xk] 82))=>hints0.below (hw1.trans (q.below.mono hw1.size)))
 have fo:∀ q:KB (w.alloc (.cells #[.int .i64 15,.int .i64 xo,.int .i64 xn,.string xt,.int .i64 xk] 82)),q.w.cell? ⟨w.heap.size,1,none⟩=some (.int .i64 xo):=fun q=>(q.below.cell (p:=⟨w.heap.size,1,none⟩) (by simp)).trans x1
 have ft:∀ q:KB (w.alloc (.cells #[.int .i64 15,.int .i64 xo,.int .i64 xn,.string xt,.int .i64 xk] 82)),q.w.cell? ⟨w.heap.size,3,none⟩=some (.string xt):=fun q=>(q.below.cell (p:=⟨w.heap.size,3,none⟩) (by simp)).trans x3
 have HA:=hide (fun q=>Says.kb hA hw1 q)
 have hel:(ls++[a]).length=ls.length+1:=by simp
 have HL:=hide (fun q=>Says.kb (hL g c (ints_take hints0)) hw1 q)
 have fi0:∀ q:KB (w.alloc (.cells #[.int .i64 15,.int .i64 xo,.int .i64 xn,.string xt,.int .i64 xk] 82)),q.w.cell? ⟨g,ls.length,none⟩=some (.int .i64 a):=fun q=>by have:=(HIS.out q).2 ls.length (by simp);simpa using this
 rw [hel] at hgc hrow drow
 have el:IntKind.i64.wrap ((ls.length:Int)+1 - 1)=(ls.length:Int):=by rw [IntKind.wrap_i64];omega
 clear hel hrow0
 have HQ:=hide (fun q:KB (w.alloc (.cells #[.int .i64 15,.int .i64 xo,.int .i64 xn,.string xt,.int .i64 xk] 82))=>r1.trans (q.below.mono r1.size))
 haveI hne:Nonempty (KB (w.alloc (.cells #[.int .i64 15,.int .i64 xo,.int .i64 xn,.string xt,.int .i64 xk] 82))):=⟨⟨_,Below.refl _ _⟩⟩
 have gt:=ft ⟨_,Below.refl _ _⟩
 have go:=fo ⟨_,Below.refl _ _⟩
 simp only [KB.w] at gt go
 clear r1 hints0 hw hw1 HIS hI HI
 go_enter Tryz.func36,Tryz.ntmps36
 go_wp2_with fail
 refine region_class (KB.w (w:=(w.alloc (.cells #[.int .i64 15,.int .i64 xo,.int .i64 xn,.string xt,.int .i64 xk] 82)))) (by kernel_rfl) (by kernel_rfl) ⟨⟨_,(Below.refl _ _).drew⟩,rfl⟩ ?_
 repeat (go_big_quiet_step (first | with_reducible exact HA.out _ | with_reducible exact HL.out _))
 refine wpQuiet_nil ?_
 rintro _ ⟨q,rfl⟩
 go_wp2
 go_ret
 exact ⟨rfl,HQ.out q⟩
set_option maxRecDepth 100000 in
set_option maxHeartbeats 4000000 in
theorem inkP_20 (hI:Ink w0 pb tg tc kg kc ns ks) (k:Nat) (hk:k < ns.length) (hk2:k < ks.length) (_hn:ns.length≤5000) (_hm:ks.length≤5000) (hkd:ns[k].kind=20) (_htx:ns[k].text.size≤1000) (a:Nat) (ls:List Nat) (hks:ks[k]=ls++[a]) (hl:ls.length≤5000) (A:ByteArray) (sA:A.size≤20000000) (hA:Says w0 36 #[.pointer (some ⟨pb,0,none⟩),.int .i64 a] A) (L:ByteArray) (sL:L.size≤40000000) (hL:∀ g c,IntsAt w0 g 0 ls→Says w0 55 #[.pointer (some ⟨pb,0,none⟩),.slice (some ⟨g,0,none⟩) (ls).length c] L):Says w0 36 #[.pointer (some ⟨pb,0,none⟩),.int .i64 k] ((⟨#[100,101,102,32]⟩:ByteArray)++ns[k].text++(⟨#[40]⟩:ByteArray)++L++(⟨#[41,32,61,32]⟩:ByteArray)++A++(⟨#[59,10]⟩:ByteArray)):=by
 intro w hw
 obtain ⟨g,c,hrow0,hints0,hgc⟩:=hI.rows k hk2
 have HI:=hide (hI.below hw)
 have hrow:=(hw.cell (p:=⟨kg,k,none⟩) hI.kl).trans hrow0
 obtain ⟨n0,n1,n2,n3,n4⟩:=HI.out.nodes.2 k hk
 have c0:=HI.out.c0
 have c1:=HI.out.c1
 have hpl:=HI.out.pl
 have hkl:=HI.out.kl
 rw [hkd] at n0
 generalize hxt:ns[k].text=xt at *
 generalize ns[k].op=xo at *
 generalize ns[k].n=xn at *
 generalize ns[k].kids=xk at *
 rw [hks] at hrow0 hints0 hgc hrow
 have r1:Below w.heap.size w (w.alloc (.cells #[.int .i64 20,.int .i64 xo,.int .i64 xn,.string xt,.int .i64 xk] 82)):=bA _
 have hw1:=hw.trans (r1.mono hw.size)
 have d1:=(r1.cell (p:=⟨pb,1,none⟩) hpl).trans c1
 have drow:=(r1.cell (p:=⟨kg,k,none⟩) hkl).trans hrow
 obtain ⟨x0,x1,x2,x3⟩:=node_box w ⟨20,xo,xn,xt,xk⟩
 have HIS:=hide (fun q:KB (w.alloc (.cells #[.int .i64 20,.int .i64 xo,.int .i64 xn,.string xt,.int .i64 xk] 82))=>hints0.below (hw1.trans (q.below.mono hw1.size)))
 have fo:∀ q:KB (w.alloc (.cells #[.int .i64 20,.int .i64 xo,.int .i64 xn,.string xt,.int .i64 xk] 82)),q.w.cell? ⟨w.heap.size,1,none⟩=some (.int .i64 xo):=fun q=>(q.below.cell (p:=⟨w.heap.size,1,none⟩) (by simp)).trans x1
 have ft:∀ q:KB (w.alloc (.cells #[.int .i64 20,.int .i64 xo,.int .i64 xn,.string xt,.int .i64 xk] 82)),q.w.cell? ⟨w.heap.size,3,none⟩=some (.string xt):=fun q=>(q.below.cell (p:=⟨w.heap.size,3,none⟩) (by simp)).trans x3
 have HA:=hide (fun q=>Says.kb hA hw1 q)
 have hel:(ls++[a]).length=ls.length+1:=by simp
 have HL:=hide (fun q=>Says.kb (hL g c (ints_take hints0)) hw1 q)
 have fi0:∀ q:KB (w.alloc (.cells #[.int .i64 20,.int .i64 xo,.int .i64 xn,.string xt,.int .i64 xk] 82)),q.w.cell? ⟨g,ls.length,none⟩=some (.int .i64 a):=fun q=>by have:=(HIS.out q).2 ls.length (by simp);simpa using this
 rw [hel] at hgc hrow drow
 have el:IntKind.i64.wrap ((ls.length:Int)+1 - 1)=(ls.length:Int):=by rw [IntKind.wrap_i64];omega
 clear hel hrow0
 have HQ:=hide (fun q:KB (w.alloc (.cells #[.int .i64 20,.int .i64 xo,.int .i64 xn,.string xt,.int .i64 xk] 82))=>r1.trans (q.below.mono r1.size))
 haveI hne:Nonempty (KB (w.alloc (.cells #[.int .i64 20,.int .i64 xo,.int .i64 xn,.string xt,.int .i64 xk] 82))):=⟨⟨_,Below.refl _ _⟩⟩
 have gt:=ft ⟨_,Below.refl _ _⟩
 have go:=fo ⟨_,Below.refl _ _⟩
 simp only [KB.w] at gt go
 clear r1 hints0 hw hw1 HIS hI HI
 go_enter Tryz.func36,Tryz.ntmps36
 go_wp2_with fail
 refine region_class (KB.w (w:=(w.alloc (.cells #[.int .i64 20,.int .i64 xo,.int .i64 xn,.string xt,.int .i64 xk] 82)))) (by kernel_rfl) (by kernel_rfl) ⟨⟨_,(Below.refl _ _).drew⟩,rfl⟩ ?_
 repeat (go_big_quiet_step (first | with_reducible exact HA.out _ | with_reducible exact HL.out _))
 refine wpQuiet_nil ?_
 rintro _ ⟨q,rfl⟩
 go_wp2
 go_ret
 exact ⟨rfl,HQ.out q⟩
set_option maxRecDepth 100000 in
set_option maxHeartbeats 4000000 in
theorem inkP_16a (hI:Ink w0 pb tg tc kg kc ns ks) (k:Nat) (hk:k < ns.length) (hk2:k < ks.length) (_hn:ns.length≤5000) (_hm:ks.length≤5000) (hkd:ns[k].kind=16) (_htx:ns[k].text.size≤1000) (a b:Nat) (hks:ks[k]=[a,b]) (A:ByteArray) (sA:A.size≤20000000) (hA:Says w0 36 #[.pointer (some ⟨pb,0,none⟩),.int .i64 a] A) (C:ByteArray) (sC:C.size≤20000000) (hC:Says w0 36 #[.pointer (some ⟨pb,0,none⟩),.int .i64 b] C):Says w0 36 #[.pointer (some ⟨pb,0,none⟩),.int .i64 k] ((⟨#[91]⟩:ByteArray)++C++(⟨#[32,102,111,114,32]⟩:ByteArray)++ns[k].text++(⟨#[32,105,110,32]⟩:ByteArray)++A++(⟨#[93]⟩:ByteArray)):=by
 intro w hw
 obtain ⟨g,c,hrow0,hints0,hgc⟩:=hI.rows k hk2
 have HI:=hide (hI.below hw)
 have hrow:=(hw.cell (p:=⟨kg,k,none⟩) hI.kl).trans hrow0
 obtain ⟨n0,n1,n2,n3,n4⟩:=HI.out.nodes.2 k hk
 have c0:=HI.out.c0
 have c1:=HI.out.c1
 have hpl:=HI.out.pl
 have hkl:=HI.out.kl
 rw [hkd] at n0
 generalize hxt:ns[k].text=xt at *
 generalize ns[k].op=xo at *
 generalize ns[k].n=xn at *
 generalize ns[k].kids=xk at *
 rw [hks] at hrow0 hints0 hgc hrow
 have r1:Below w.heap.size w (w.alloc (.cells #[.int .i64 16,.int .i64 xo,.int .i64 xn,.string xt,.int .i64 xk] 82)):=bA _
 have hw1:=hw.trans (r1.mono hw.size)
 have d1:=(r1.cell (p:=⟨pb,1,none⟩) hpl).trans c1
 have drow:=(r1.cell (p:=⟨kg,k,none⟩) hkl).trans hrow
 obtain ⟨x0,x1,x2,x3⟩:=node_box w ⟨16,xo,xn,xt,xk⟩
 have HIS:=hide (fun q:KB (w.alloc (.cells #[.int .i64 16,.int .i64 xo,.int .i64 xn,.string xt,.int .i64 xk] 82))=>hints0.below (hw1.trans (q.below.mono hw1.size)))
 have fo:∀ q:KB (w.alloc (.cells #[.int .i64 16,.int .i64 xo,.int .i64 xn,.string xt,.int .i64 xk] 82)),q.w.cell? ⟨w.heap.size,1,none⟩=some (.int .i64 xo):=fun q=>(q.below.cell (p:=⟨w.heap.size,1,none⟩) (by simp)).trans x1
 have ft:∀ q:KB (w.alloc (.cells #[.int .i64 16,.int .i64 xo,.int .i64 xn,.string xt,.int .i64 xk] 82)),q.w.cell? ⟨w.heap.size,3,none⟩=some (.string xt):=fun q=>(q.below.cell (p:=⟨w.heap.size,3,none⟩) (by simp)).trans x3
 have fi0:∀ q:KB (w.alloc (.cells #[.int .i64 16,.int .i64 xo,.int .i64 xn,.string xt,.int .i64 xk] 82)),q.w.cell? ⟨g,0,none⟩=some (.int .i64 a):=fun q=>(HIS.out q).2 0 (by simp)
 have fi1:∀ q:KB (w.alloc (.cells #[.int .i64 16,.int .i64 xo,.int .i64 xn,.string xt,.int .i64 xk] 82)),q.w.cell? ⟨g,1,none⟩=some (.int .i64 b):=fun q=>(HIS.out q).2 1 (by simp)
 have HA:=hide (fun q=>Says.kb hA hw1 q)
 have HC:=hide (fun q=>Says.kb hC hw1 q)
 have HQ:=hide (fun q:KB (w.alloc (.cells #[.int .i64 16,.int .i64 xo,.int .i64 xn,.string xt,.int .i64 xk] 82))=>r1.trans (q.below.mono r1.size))
 haveI hne:Nonempty (KB (w.alloc (.cells #[.int .i64 16,.int .i64 xo,.int .i64 xn,.string xt,.int .i64 xk] 82))):=⟨⟨_,Below.refl _ _⟩⟩
 have gt:=ft ⟨_,Below.refl _ _⟩
 have go:=fo ⟨_,Below.refl _ _⟩
 simp only [KB.w] at gt go
 clear r1 hints0 hw hw1 HIS hI HI
 go_enter Tryz.func36,Tryz.ntmps36
 go_wp2_with fail
 refine region_class (KB.w (w:=(w.alloc (.cells #[.int .i64 16,.int .i64 xo,.int .i64 xn,.string xt,.int .i64 xk] 82)))) (by kernel_rfl) (by kernel_rfl) ⟨⟨_,(Below.refl _ _).drew⟩,rfl⟩ ?_
 repeat (go_big_quiet_step (first | with_reducible exact HA.out _ | with_reducible exact HC.out _))
 refine wpQuiet_nil ?_
 rintro _ ⟨q,rfl⟩
 go_wp2
 go_ret
 exact ⟨rfl,HQ.out q⟩
set_option maxRecDepth 100000 in
set_option maxHeartbeats 4000000 in
theorem inkP_16b (hI:Ink w0 pb tg tc kg kc ns ks) (k:Nat) (hk:k < ns.length) (hk2:k < ks.length) (_hn:ns.length≤5000) (_hm:ks.length≤5000) (hkd:ns[k].kind=16) (_htx:ns[k].text.size≤1000) (a b d:Nat) (hks:ks[k]=[a,b,d]) (A:ByteArray) (sA:A.size≤20000000) (hA:Says w0 36 #[.pointer (some ⟨pb,0,none⟩),.int .i64 a] A) (C:ByteArray) (sC:C.size≤20000000) (hC:Says w0 36 #[.pointer (some ⟨pb,0,none⟩),.int .i64 b] C) (D:ByteArray) (sD:D.size≤20000000) (hD:Says w0 36 #[.pointer (some ⟨pb,0,none⟩),.int .i64 d] D):Says w0 36 #[.pointer (some ⟨pb,0,none⟩),.int .i64 k] ((⟨#[91]⟩:ByteArray)++C++(⟨#[32,102,111,114,32]⟩:ByteArray)++ns[k].text++(⟨#[32,105,110,32]⟩:ByteArray)++A++(⟨#[32,105,102,32]⟩:ByteArray)++D++(⟨#[93]⟩:ByteArray)):=by
 intro w hw
 obtain ⟨g,c,hrow0,hints0,hgc⟩:=hI.rows k hk2
 have HI:=hide (hI.below hw)
 have hrow:=(hw.cell (p:=⟨kg,k,none⟩) hI.kl).trans hrow0
 obtain ⟨n0,n1,n2,n3,n4⟩:=HI.out.nodes.2 k hk
 have c0:=HI.out.c0
 have c1:=HI.out.c1
 have hpl:=HI.out.pl
 have hkl:=HI.out.kl
 rw [hkd] at n0
 generalize hxt:ns[k].text=xt at *
 generalize ns[k].op=xo at *
 generalize ns[k].n=xn at *
 generalize ns[k].kids=xk at *
 rw [hks] at hrow0 hints0 hgc hrow
 have r1:Below w.heap.size w (w.alloc (.cells #[.int .i64 16,.int .i64 xo,.int .i64 xn,.string xt,.int .i64 xk] 82)):=bA _
 have hw1:=hw.trans (r1.mono hw.size)
 have d1:=(r1.cell (p:=⟨pb,1,none⟩) hpl).trans c1
 have drow:=(r1.cell (p:=⟨kg,k,none⟩) hkl).trans hrow
 obtain ⟨x0,x1,x2,x3⟩:=node_box w ⟨16,xo,xn,xt,xk⟩
 have HIS:=hide (fun q:KB (w.alloc (.cells #[.int .i64 16,.int .i64 xo,.int .i64 xn,.string xt,.int .i64 xk] 82))=>hints0.below (hw1.trans (q.below.mono hw1.size)))
 have fo:∀ q:KB (w.alloc (.cells #[.int .i64 16,.int .i64 xo,.int .i64 xn,.string xt,.int .i64 xk] 82)),q.w.cell? ⟨w.heap.size,1,none⟩=some (.int .i64 xo):=fun q=>(q.below.cell (p:=⟨w.heap.size,1,none⟩) (by simp)).trans x1
 have ft:∀ q:KB (w.alloc (.cells #[.int .i64 16,.int .i64 xo,.int .i64 xn,.string xt,.int .i64 xk] 82)),q.w.cell? ⟨w.heap.size,3,none⟩=some (.string xt):=fun q=>(q.below.cell (p:=⟨w.heap.size,3,none⟩) (by simp)).trans x3
 have fi0:∀ q:KB (w.alloc (.cells #[.int .i64 16,.int .i64 xo,.int .i64 xn,.string xt,.int .i64 xk] 82)),q.w.cell? ⟨g,0,none⟩=some (.int .i64 a):=fun q=>(HIS.out q).2 0 (by simp)
 have fi1:∀ q:KB (w.alloc (.cells #[.int .i64 16,.int .i64 xo,.int .i64 xn,.string xt,.int .i64 xk] 82)),q.w.cell? ⟨g,1,none⟩=some (.int .i64 b):=fun q=>(HIS.out q).2 1 (by simp)
 have fi2:∀ q:KB (w.alloc (.cells #[.int .i64 16,.int .i64 xo,.int .i64 xn,.string xt,.int .i64 xk] 82)),q.w.cell? ⟨g,2,none⟩=some (.int .i64 d):=fun q=>(HIS.out q).2 2 (by simp)
 have HA:=hide (fun q=>Says.kb hA hw1 q)
 have HC:=hide (fun q=>Says.kb hC hw1 q)
 have HD:=hide (fun q=>Says.kb hD hw1 q)
 have HQ:=hide (fun q:KB (w.alloc (.cells #[.int .i64 16,.int .i64 xo,.int .i64 xn,.string xt,.int .i64 xk] 82))=>r1.trans (q.below.mono r1.size))
 haveI hne:Nonempty (KB (w.alloc (.cells #[.int .i64 16,.int .i64 xo,.int .i64 xn,.string xt,.int .i64 xk] 82))):=⟨⟨_,Below.refl _ _⟩⟩
 have gt:=ft ⟨_,Below.refl _ _⟩
 have go:=fo ⟨_,Below.refl _ _⟩
 simp only [KB.w] at gt go
 clear r1 hints0 hw hw1 HIS hI HI
 go_enter Tryz.func36,Tryz.ntmps36
 go_wp2_with fail
 refine region_class (KB.w (w:=(w.alloc (.cells #[.int .i64 16,.int .i64 xo,.int .i64 xn,.string xt,.int .i64 xk] 82)))) (by kernel_rfl) (by kernel_rfl) ⟨⟨_,(Below.refl _ _).drew⟩,rfl⟩ ?_
 repeat (go_big_quiet_step (first | with_reducible exact HA.out _ | with_reducible exact HC.out _ | with_reducible exact HD.out _))
 refine wpQuiet_nil ?_
 rintro _ ⟨q,rfl⟩
 have gd:=fi2 q
 go_wp2_with fail
 refine (HD.out q).mono ?_
 rintro e _ ⟨rfl,q2,rfl⟩
 go_wp2
 go_ret
 exact ⟨rfl,HQ.out q2⟩
end Go.Proofs.YtbckhbeebngjfaaGreatDoor
