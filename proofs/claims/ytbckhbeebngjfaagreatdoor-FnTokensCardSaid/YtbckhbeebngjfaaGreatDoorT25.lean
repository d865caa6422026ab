/- Tk6. -/
import Derived.Test.YtbckhbeebngjfaaGreatDoorT23
namespace Go.Proofs.YtbckhbeebngjfaaGreatDoor
open Go.RowKit
variable (w0:World) (pb tg tc kg kc:Nat) (ns:List Tr.Nd) (ks:List (List Nat))
set_option maxRecDepth 100000 in
set_option maxHeartbeats 4000000 in
theorem inkP_1 (hI:Ink w0 pb tg tc kg kc ns ks) (k:Nat) (hk:k < ns.length) (hk2:k < ks.length) (_hn:ns.length≤5000) (_hm:ks.length≤5000) (hkd:ns[k].kind=1) (_htx:ns[k].text.size≤1000):Says w0 36 #[.pointer (some ⟨pb,0,none⟩),.int .i64 k] ((⟨#[110,111,110,101]⟩:ByteArray)):=by
 intro w hw
 obtain ⟨g,c,hrow0,hints0,hgc⟩:=hI.rows k hk2
 have HI:=hide (hI.below hw)
 have hrow:=(hw.cell (p:=⟨kg,k,none⟩) hI.kl).trans hrow0
 obtain ⟨n0,n1,n2,n3,n4⟩:=HI.out.nodes.2 k hk
 have c0:=HI.out.c0
 have c1:=HI.out.c1
 have hpl:=HI.out.pl
 have hkl:=HI.out.kl
 rw [hkd] at n0
 generalize hxt:ns[k].text=xt at *
 generalize ns[k].op=xo at *
 generalize ns[k].n=xn at *
 generalize ns[k].kids=xk at *
 generalize hks:ks[k]=ls at *
 have r1:Below w.heap.size w (w.alloc (.cells #[.int .i64 1,.int .i64 xo,.int .i64 xn,.string xt,.int .i64 xk] 82)):=bA _
 have hw1:=hw.trans (r1.mono hw.size)
 have d1:=(r1.cell (p:=⟨pb,1,none⟩) hpl).trans c1
 have drow:=(r1.cell (p:=⟨kg,k,none⟩) hkl).trans hrow
 obtain ⟨x0,x1,x2,x3⟩:=node_box w ⟨1,xo,xn,xt,xk⟩
 have HIS:=hide (fun q:KB (w.alloc (.cells #[.int .i64 1,.int .i64 xo,.int .i64 xn,.string xt,.int .i64 xk] 82))=>hints0.below (hw1.trans (q.below.mono hw1.size)))
 have fo:∀ q:KB (w.alloc (.cells #[.int .i64 1,.int .i64 xo,.int .i64 xn,.string xt,.int .i64 xk] 82)),q.w.cell? ⟨w.heap.size,1,none⟩=some (.int .i64 xo):=fun q=>(q.below.cell (p:=⟨w.heap.size,1,none⟩) (by simp)).trans x1
 have ft:∀ q:KB (w.alloc (.cells #[.int .i64 1,.int .i64 xo,.int .i64 xn,.string xt,.int .i64 xk] 82)),q.w.cell? ⟨w.heap.size,3,none⟩=some (.string xt):=fun q=>(q.below.cell (p:=⟨w.heap.size,3,none⟩) (by simp)).trans x3
 have HQ:=hide (fun q:KB (w.alloc (.cells #[.int .i64 1,.int .i64 xo,.int .i64 xn,.string xt,.int .i64 xk] 82))=>r1.trans (q.below.mono r1.size))
 haveI hne:Nonempty (KB (w.alloc (.cells #[.int .i64 1,.int .i64 xo,.int .i64 xn,.string xt,.int .i64 xk] 82))):=⟨⟨_,Below.refl _ _⟩⟩
 have gt:=ft ⟨_,Below.refl _ _⟩
 have go:=fo ⟨_,Below.refl _ _⟩
 simp only [KB.w] at gt go
 clear r1 hints0 hw hw1 HIS hI HI
 go_enter Tryz.func36,Tryz.ntmps36
 go_wp2
 go_ret
 exact ⟨rfl,HQ.out ⟨_,Below.refl _ _⟩⟩
set_option maxRecDepth 100000 in
set_option maxHeartbeats 4000000 in
theorem inkP_3 (hI:Ink w0 pb tg tc kg kc ns ks) (k:Nat) (hk:k < ns.length) (hk2:k < ks.length) (_hn:ns.length≤5000) (_hm:ks.length≤5000) (hkd:ns[k].kind=3) (_htx:ns[k].text.size≤1000) (m:Nat) (hxn:ns[k].n=m) (D:ByteArray) (hD:∀ w,Calls Tryz.prog 20 #[.int .i64 m] w fun e w'=>e = .returned (.string D)∧Below w.heap.size w w'):Says w0 36 #[.pointer (some ⟨pb,0,none⟩),.int .i64 k] (D):=by
 intro w hw
 obtain ⟨g,c,hrow0,hints0,hgc⟩:=hI.rows k hk2
 have HI:=hide (hI.below hw)
 have hrow:=(hw.cell (p:=⟨kg,k,none⟩) hI.kl).trans hrow0
 obtain ⟨n0,n1,n2,n3,n4⟩:=HI.out.nodes.2 k hk
 have c0:=HI.out.c0
 have c1:=HI.out.c1
 have hpl:=HI.out.pl
 have hkl:=HI.out.kl
 rw [hkd] at n0
 rw [hxn] at n2
 generalize hxt:ns[k].text=xt at *
 generalize ns[k].op=xo at *
 generalize ns[k].kids=xk at *
 generalize hks:ks[k]=ls at *
 have r1:Below w.heap.size w (w.alloc (.cells #[.int .i64 3,.int .i64 xo,.int .i64 (m:Int),.string xt,.int .i64 xk] 82)):=bA _
 have hw1:=hw.trans (r1.mono hw.size)
 have d1:=(r1.cell (p:=⟨pb,1,none⟩) hpl).trans c1
 have drow:=(r1.cell (p:=⟨kg,k,none⟩) hkl).trans hrow
 obtain ⟨x0,x1,x2,x3⟩:=node_box w ⟨3,xo,(m:Int),xt,xk⟩
 have HIS:=hide (fun q:KB (w.alloc (.cells #[.int .i64 3,.int .i64 xo,.int .i64 (m:Int),.string xt,.int .i64 xk] 82))=>hints0.below (hw1.trans (q.below.mono hw1.size)))
 have fo:∀ q:KB (w.alloc (.cells #[.int .i64 3,.int .i64 xo,.int .i64 (m:Int),.string xt,.int .i64 xk] 82)),q.w.cell? ⟨w.heap.size,1,none⟩=some (.int .i64 xo):=fun q=>(q.below.cell (p:=⟨w.heap.size,1,none⟩) (by simp)).trans x1
 have ft:∀ q:KB (w.alloc (.cells #[.int .i64 3,.int .i64 xo,.int .i64 (m:Int),.string xt,.int .i64 xk] 82)),q.w.cell? ⟨w.heap.size,3,none⟩=some (.string xt):=fun q=>(q.below.cell (p:=⟨w.heap.size,3,none⟩) (by simp)).trans x3
 have HA:=hide (fun q:KB (w.alloc (.cells #[.int .i64 3,.int .i64 xo,.int .i64 (m:Int),.string xt,.int .i64 xk] 82))=>kb_call (fun w2 _=>hD w2) q)
 have gn:((w.alloc (.cells #[.int .i64 3,.int .i64 xo,.int .i64 (m:Int),.string xt,.int .i64 xk] 82))).cell? ⟨w.heap.size,2,none⟩=some (.int .i64 (m:Int)):=x2
 have HQ:=hide (fun q:KB (w.alloc (.cells #[.int .i64 3,.int .i64 xo,.int .i64 (m:Int),.string xt,.int .i64 xk] 82))=>r1.trans (q.below.mono r1.size))
 haveI hne:Nonempty (KB (w.alloc (.cells #[.int .i64 3,.int .i64 xo,.int .i64 (m:Int),.string xt,.int .i64 xk] 82))):=⟨⟨_,Below.refl _ _⟩⟩
 have gt:=ft ⟨_,Below.refl _ _⟩
 have go:=fo ⟨_,Below.refl _ _⟩
 simp only [KB.w] at gt go
 clear r1 hints0 hw hw1 HIS hI HI
 go_enter Tryz.func36,Tryz.ntmps36
 go_wp2_with fail
 refine (HA.out ⟨_,Below.refl _ _⟩).mono ?_
 rintro e _ ⟨rfl,q,rfl⟩
 go_wp2
 go_ret
 exact ⟨rfl,HQ.out q⟩
set_option maxRecDepth 100000 in
set_option maxHeartbeats 4000000 in
theorem inkP_4 (hI:Ink w0 pb tg tc kg kc ns ks) (k:Nat) (hk:k < ns.length) (hk2:k < ks.length) (_hn:ns.length≤5000) (_hm:ks.length≤5000) (hkd:ns[k].kind=4) (_htx:ns[k].text.size≤1000):Says w0 36 #[.pointer (some ⟨pb,0,none⟩),.int .i64 k] (⟨(Tr.quote ns[k].text.data.toList).toArray⟩):=by
 intro w hw
 obtain ⟨g,c,hrow0,hints0,hgc⟩:=hI.rows k hk2
 have HI:=hide (hI.below hw)
 have hrow:=(hw.cell (p:=⟨kg,k,none⟩) hI.kl).trans hrow0
 obtain ⟨n0,n1,n2,n3,n4⟩:=HI.out.nodes.2 k hk
 have c0:=HI.out.c0
 have c1:=HI.out.c1
 have hpl:=HI.out.pl
 have hkl:=HI.out.kl
 rw [hkd] at n0
 generalize hxt:ns[k].text=xt at *
 generalize ns[k].op=xo at *
 generalize ns[k].n=xn at *
 generalize ns[k].kids=xk at *
 generalize hks:ks[k]=ls at *
 have r1:Below w.heap.size w (w.alloc (.cells #[.int .i64 4,.int .i64 xo,.int .i64 xn,.string xt,.int .i64 xk] 82)):=bA _
 have hw1:=hw.trans (r1.mono hw.size)
 have d1:=(r1.cell (p:=⟨pb,1,none⟩) hpl).trans c1
 have drow:=(r1.cell (p:=⟨kg,k,none⟩) hkl).trans hrow
 obtain ⟨x0,x1,x2,x3⟩:=node_box w ⟨4,xo,xn,xt,xk⟩
 have HIS:=hide (fun q:KB (w.alloc (.cells #[.int .i64 4,.int .i64 xo,.int .i64 xn,.string xt,.int .i64 xk] 82))=>hints0.below (hw1.trans (q.below.mono hw1.size)))
 have fo:∀ q:KB (w.alloc (.cells #[.int .i64 4,.int .i64 xo,.int .i64 xn,.string xt,.int .i64 xk] 82)),q.w.cell? ⟨w.heap.size,1,none⟩=some (.int .i64 xo):=fun q=>(q.below.cell (p:=⟨w.heap.size,1,none⟩) (by simp)).trans x1
 have ft:∀ q:KB (w.alloc (.cells #[.int .i64 4,.int .i64 xo,.int .i64 xn,.string xt,.int .i64 xk] 82)),q.w.cell? ⟨w.heap.size,3,none⟩=some (.string xt):=fun q=>(q.below.cell (p:=⟨w.heap.size,3,none⟩) (by simp)).trans x3
 have HA:=hide (fun q:KB (w.alloc (.cells #[.int .i64 4,.int .i64 xo,.int .i64 xn,.string xt,.int .i64 xk] 82))=>kb_call (fun w2 _=>quote_any xt w2 (by omega)) q)
 have HQ:=hide (fun q:KB (w.alloc (.cells #[.int .i64 4,.int .i64 xo,.int .i64 xn,.string xt,.int .i64 xk] 82))=>r1.trans (q.below.mono r1.size))
 haveI hne:Nonempty (KB (w.alloc (.cells #[.int .i64 4,.int .i64 xo,.int .i64 xn,.string xt,.int .i64 xk] 82))):=⟨⟨_,Below.refl _ _⟩⟩
 have gt:=ft ⟨_,Below.refl _ _⟩
 have go:=fo ⟨_,Below.refl _ _⟩
 simp only [KB.w] at gt go
 clear r1 hints0 hw hw1 HIS hI HI
 go_enter Tryz.func36,Tryz.ntmps36
 go_wp2_with fail
 refine (HA.out ⟨_,Below.refl _ _⟩).mono ?_
 rintro e _ ⟨rfl,q,rfl⟩
 go_wp2
 go_ret
 exact ⟨rfl,HQ.out q⟩
set_option maxRecDepth 100000 in
set_option maxHeartbeats 4000000 in
theorem inkP_5 (hI:Ink w0 pb tg tc kg kc ns ks) (k:Nat) (hk:k < ns.length) (hk2:k < ks.length) (_hn:ns.length≤5000) (_hm:ks.length≤5000) (hkd:ns[k].kind=5) (_htx:ns[k].text.size≤1000):Says w0 36 #[.pointer (some ⟨pb,0,none⟩),.int .i64 k] (ns[k].text):=by
 intro w hw
 obtain ⟨g,c,hrow0,hints0,hgc⟩:=hI.rows k hk2
 have HI:=hide (hI.below hw)
 have hrow:=(hw.cell (p:=⟨kg,k,none⟩) hI.kl).trans hrow0
 obtain ⟨n0,n1,n2,n3,n4⟩:=HI.out.nodes.2 k hk
 have c0:=HI.out.c0
 have c1:=HI.out.c1
 have hpl:=HI.out.pl
 have hkl:=HI.out.kl
 rw [hkd] at n0
 generalize hxt:ns[k].text=xt at *
 generalize ns[k].op=xo at *
 generalize ns[k].n=xn at *
 generalize ns[k].kids=xk at *
 generalize hks:ks[k]=ls at *
 have r1:Below w.heap.size w (w.alloc (.cells #[.int .i64 5,.int .i64 xo,.int .i64 xn,.string xt,.int .i64 xk] 82)):=bA _
 have hw1:=hw.trans (r1.mono hw.size)
 have d1:=(r1.cell (p:=⟨pb,1,none⟩) hpl).trans c1
 have drow:=(r1.cell (p:=⟨kg,k,none⟩) hkl).trans hrow
 obtain ⟨x0,x1,x2,x3⟩:=node_box w ⟨5,xo,xn,xt,xk⟩
 have HIS:=hide (fun q:KB (w.alloc (.cells #[.int .i64 5,.int .i64 xo,.int .i64 xn,.string xt,.int .i64 xk] 82))=>hints0.below (hw1.trans (q.below.mono hw1.size)))
 have fo:∀ q:KB (w.alloc (.cells #[.int .i64 5,.int .i64 xo,.int .i64 xn,.string xt,.int .i64 xk] 82)),q.w.cell? ⟨w.heap.size,1,none⟩=some (.int .i64 xo):=fun q=>(q.below.cell (p:=⟨w.heap.size,1,none⟩) (by simp)).trans x1
 have ft:∀ q:KB (w.alloc (.cells #[.int .i64 5,.int .i64 xo,.int .i64 xn,.string xt,.int .i64 xk] 82)),q.w.cell? ⟨w.heap.size,3,none⟩=some (.string xt):=fun q=>(q.below.cell (p:=⟨w.heap.size,3,none⟩) (by simp)).trans x3
 have HQ:=hide (fun q:KB (w.alloc (.cells #[.int .i64 5,.int .i64 xo,.int .i64 xn,.string xt,.int .i64 xk] 82))=>r1.trans (q.below.mono r1.size))
 haveI hne:Nonempty (KB (w.alloc (.cells #[.int .i64 5,.int .i64 xo,.int .i64 xn,.string xt,.int .i64 xk] 82))):=⟨⟨_,Below.refl _ _⟩⟩
 have gt:=ft ⟨_,Below.refl _ _⟩
 have go:=fo ⟨_,Below.refl _ _⟩
 simp only [KB.w] at gt go
 clear r1 hints0 hw hw1 HIS hI HI
 go_enter Tryz.func36,Tryz.ntmps36
 go_wp2
 go_ret
 exact ⟨rfl,HQ.out ⟨_,Below.refl _ _⟩⟩
set_option maxRecDepth 100000 in
set_option maxHeartbeats 4000000 in
theorem inkP_6a (hI:Ink w0 pb tg tc kg kc ns ks) (k:Nat) (hk:k < ns.length) (hk2:k < ks.length) (_hn:ns.length≤5000) (_hm:ks.length≤5000) (hkd:ns[k].kind=6) (_htx:ns[k].text.size≤1000) (hxo:ns[k].op=1) (a:Nat) (hks:ks[k]=[a]) (A:ByteArray) (sA:A.size≤20000002) (hA:Says w0 53 #[.pointer (some ⟨pb,0,none⟩),.int .i64 a,.int .i64 3] A):Says w0 36 #[.pointer (some ⟨pb,0,none⟩),.int .i64 k] ((⟨#[110,111,116,32]⟩:ByteArray)++A):=by
 intro w hw
 obtain ⟨g,c,hrow0,hints0,hgc⟩:=hI.rows k hk2
 have HI:=hide (hI.below hw)
 have hrow:=(hw.cell (p:=⟨kg,k,none⟩) hI.kl).trans hrow0
 obtain ⟨n0,n1,n2,n3,n4⟩:=HI.out.nodes.2 k hk
 have c0:=HI.out.c0
 have c1:=HI.out.c1
 have hpl:=HI.out.pl
 have hkl:=HI.out.kl
 rw [hkd] at n0
 rw [hxo] at n1
 generalize hxt:ns[k].text=xt at *
 generalize ns[k].n=xn at *
 generalize ns[k].kids=xk at *
 rw [hks] at hrow0 hints0 hgc hrow
 have r1:Below w.heap.size w (w.alloc (.cells #[.int .i64 6,.int .i64 1,.int .i64 xn,.string xt,.int .i64 xk] 82)):=bA _
 have hw1:=hw.trans (r1.mono hw.size)
 have d1:=(r1.cell (p:=⟨pb,1,none⟩) hpl).trans c1
 have drow:=(r1.cell (p:=⟨kg,k,none⟩) hkl).trans hrow
 obtain ⟨x0,x1,x2,x3⟩:=node_box w ⟨6,1,xn,xt,xk⟩
 have HIS:=hide (fun q:KB (w.alloc (.cells #[.int .i64 6,.int .i64 1,.int .i64 xn,.string xt,.int .i64 xk] 82))=>hints0.below (hw1.trans (q.below.mono hw1.size)))
 have fo:∀ q:KB (w.alloc (.cells #[.int .i64 6,.int .i64 1,.int .i64 xn,.string xt,.int .i64 xk] 82)),q.w.cell? ⟨w.heap.size,1,none⟩=some (.int .i64 1):=fun q=>(q.below.cell (p:=⟨w.heap.size,1,none⟩) (by simp)).trans x1
 have ft:∀ q:KB (w.alloc (.cells #[.int .i64 6,.int .i64 1,.int .i64 xn,.string xt,.int .i64 xk] 82)),q.w.cell? ⟨w.heap.size,3,none⟩=some (.string xt):=fun q=>(q.below.cell (p:=⟨w.heap.size,3,none⟩) (by simp)).trans x3
 have fi0:∀ q:KB (w.alloc (.cells #[.int .i64 6,.int .i64 1,.int .i64 xn,.string xt,.int .i64 xk] 82)),q.w.cell? ⟨g,0,none⟩=some (.int .i64 a):=fun q=>(HIS.out q).2 0 (by simp)
 have HA:=hide (fun q=>Says.kb hA hw1 q)
 have gi:=fi0 ⟨_,Below.refl _ _⟩
 simp only [KB.w] at gi
 have HQ:=hide (fun q:KB (w.alloc (.cells #[.int .i64 6,.int .i64 1,.int .i64 xn,.string xt,.int .i64 xk] 82))=>r1.trans (q.below.mono r1.size))
 haveI hne:Nonempty (KB (w.alloc (.cells #[.int .i64 6,.int .i64 1,.int .i64 xn,.string xt,.int .i64 xk] 82))):=⟨⟨_,Below.refl _ _⟩⟩
 have gt:=ft ⟨_,Below.refl _ _⟩
 have go:=fo ⟨_,Below.refl _ _⟩
 simp only [KB.w] at gt go
 clear r1 hints0 hw hw1 HIS hI HI
 go_enter Tryz.func36,Tryz.ntmps36
 go_wp2_with fail
 refine (HA.out ⟨_,Below.refl _ _⟩).mono ?_
 rintro e _ ⟨rfl,q,rfl⟩
 go_wp2
 go_ret
 exact ⟨rfl,HQ.out q⟩
set_option maxRecDepth 100000 in
set_option maxHeartbeats 4000000 in
theorem inkP_6b (hI:Ink w0 pb tg tc kg kc ns ks) (k:Nat) (hk:k < ns.length) (hk2:k < ks.length) (_hn:ns.length≤5000) (_hm:ks.length≤5000) (hkd:ns[k].kind=6) (_htx:ns[k].text.size≤1000) (hxo:ns[k].op=2) (a:Nat) (hks:ks[k]=[a]) (A:ByteArray) (sA:A.size≤20000002) (hA:Says w0 53 #[.pointer (some ⟨pb,0,none⟩),.int .i64 a,.int .i64 7] A):Says w0 36 #[.pointer (some ⟨pb,0,none⟩),.int .i64 k] ((⟨#[45]⟩:ByteArray)++A):=by
 intro w hw
 obtain ⟨g,c,hrow0,hints0,hgc⟩:=hI.rows k hk2
 have HI:=hide (hI.below hw)
 have hrow:=(hw.cell (p:=⟨kg,k,none⟩) hI.kl).trans hrow0
 obtain ⟨n0,n1,n2,n3,n4⟩:=HI.out.nodes.2 k hk
 have c0:=HI.out.c0
 have c1:=HI.out.c1
 have hpl:=HI.out.pl
 have hkl:=HI.out.kl
 rw [hkd] at n0
 rw [hxo] at n1
 generalize hxt:ns[k].text=xt at *
 generalize ns[k].n=xn at *
 generalize ns[k].kids=xk at *
 rw [hks] at hrow0 hints0 hgc hrow
 have r1:Below w.heap.size w (w.alloc (.cells #[.int .i64 6,.int .i64 2,.int .i64 xn,.string xt,.int .i64 xk] 82)):=bA _
 have hw1:=hw.trans (r1.mono hw.size)
 have d1:=(r1.cell (p:=⟨pb,1,none⟩) hpl).trans c1
 have drow:=(r1.cell (p:=⟨kg,k,none⟩) hkl).trans hrow
 obtain ⟨x0,x1,x2,x3⟩:=node_box w ⟨6,2,xn,xt,xk⟩
 have HIS:=hide (fun q:KB (w.alloc (.cells #[.int .i64 6,.int .i64 2,.int .i64 xn,.string xt,.int .i64 xk] 82))=>hints0.below (hw1.trans (q.below.mono hw1.size)))
 have fo:∀ q:KB (w.alloc (.cells #[.int .i64 6,.int .i64 2,.int .i64 xn,.string xt,.int .i64 xk] 82)),q.w.cell? ⟨w.heap.size,1,none⟩=some (.int .i64 2):=fun q=>(q.below.cell (p:=⟨w.heap.size,1,none⟩) (by simp)).trans x1
 have ft:∀ q:KB (w.alloc (.cells #[.int .i64 6,.int .i64 2,.int .i64 xn,.string xt,.int .i64 xk] 82)),q.w.cell? ⟨w.heap.size,3,none⟩=some (.string xt):=fun q=>(q.below.cell (p:=⟨w.heap.size,3,none⟩) (by simp)).trans x3
 have fi0:∀ q:KB (w.alloc (.cells #[.int .i64 6,.int .i64 2,.int .i64 xn,.string xt,.int .i64 xk] 82)),q.w.cell? ⟨g,0,none⟩=some (.int .i64 a):=fun q=>(HIS.out q).2 0 (by simp)
 have HA:=hide (fun q=>Says.kb hA hw1 q)
 have gi:=fi0 ⟨_,Below.refl _ _⟩
 simp only [KB.w] at gi
 have HQ:=hide (fun q:KB (w.alloc (.cells #[.int .i64 6,.int .i64 2,.int .i64 xn,.string xt,.int .i64 xk] 82))=>r1.trans (q.below.mono r1.size))
 haveI hne:Nonempty (KB (w.alloc (.cells #[.int .i64 6,.int .i64 2,.int .i64 xn,.string xt,.int .i64 xk] 82))):=⟨⟨_,Below.refl _ _⟩⟩
 have gt:=ft ⟨_,Below.refl _ _⟩
 have go:=fo ⟨_,Below.refl _ _⟩
 simp only [KB.w] at gt go
 clear r1 hints0 hw hw1 HIS hI HI
 go_enter Tryz.func36,Tryz.ntmps36
 go_wp2_with fail
 refine (HA.out ⟨_,Below.refl _ _⟩).mono ?_
 rintro e _ ⟨rfl,q,rfl⟩
 go_wp2
 go_ret
 exact ⟨rfl,HQ.out q⟩
set_option maxRecDepth 100000 in
set_option maxHeartbeats 4000000 in
theorem inkP_7 (hI:Ink w0 pb tg tc kg kc ns ks) (k:Nat) (hk:k < ns.length) (hk2:k < ks.length) (_hn:ns.length≤5000) (_hm:ks.length≤5000) (hkd:ns[k].kind=7) (_htx:ns[k].text.size≤1000) (op:Nat) (hxo:ns[k].op=op) (h14:op < 15) (a b:Nat) (hks:ks[k]=[a,b]) (A:ByteArray) (sA:A.size≤20000002) (hA:Says w0 53 #[.pointer (some ⟨pb,0,none⟩),.int .i64 a,.int .i64 (if Tr.rankB op=4 then 5 else Tr.rankB op)] A) (C:ByteArray) (sC:C.size≤20000002) (hC:Says w0 53 #[.pointer (some ⟨pb,0,none⟩),.int .i64 b,.int .i64 (Tr.rankB op+1)] C):Says w0 36 #[.pointer (some ⟨pb,0,none⟩),.int .i64 k] (A++⟨#[32]⟩++⟨(Tr.markOf op).toArray⟩++⟨#[32]⟩++C):=by
 intro w hw
 obtain ⟨g,c,hrow0,hints0,hgc⟩:=hI.rows k hk2
 have HI:=hide (hI.below hw)
 have hrow:=(hw.cell (p:=⟨kg,k,none⟩) hI.kl).trans hrow0
 obtain ⟨n0,n1,n2,n3,n4⟩:=HI.out.nodes.2 k hk
 have c0:=HI.out.c0
 have c1:=HI.out.c1
 have hpl:=HI.out.pl
 have hkl:=HI.out.kl
 rw [hkd] at n0
 rw [hxo] at n1
 generalize hxt:ns[k].text=xt at *
 generalize ns[k].n=xn at *
 generalize ns[k].kids=xk at *
 rw [hks] at hrow0 hints0 hgc hrow
 have r1:Below w.heap.size w (w.alloc (.cells #[.int .i64 7,.int .i64 (op:Int),.int .i64 xn,.string xt,.int .i64 xk] 82)):=bA _
 have hw1:=hw.trans (r1.mono hw.size)
 have d1:=(r1.cell (p:=⟨pb,1,none⟩) hpl).trans c1
 have drow:=(r1.cell (p:=⟨kg,k,none⟩) hkl).trans hrow
 obtain ⟨x0,x1,x2,x3⟩:=node_box w ⟨7,(op:Int),xn,xt,xk⟩
 have HIS:=hide (fun q:KB (w.alloc (.cells #[.int .i64 7,.int .i64 (op:Int),.int .i64 xn,.string xt,.int .i64 xk] 82))=>hints0.below (hw1.trans (q.below.mono hw1.size)))
 have fo:∀ q:KB (w.alloc (.cells #[.int .i64 7,.int .i64 (op:Int),.int .i64 xn,.string xt,.int .i64 xk] 82)),q.w.cell? ⟨w.heap.size,1,none⟩=some (.int .i64 (op:Int)):=fun q=>(q.below.cell (p:=⟨w.heap.size,1,none⟩) (by simp)).trans x1
 have ft:∀ q:KB (w.alloc (.cells #[.int .i64 7,.int .i64 (op:Int),.int .i64 xn,.string xt,.int .i64 xk] 82)),q.w.cell? ⟨w.heap.size,3,none⟩=some (.string xt):=fun q=>(q.below.cell (p:=⟨w.heap.size,3,none⟩) (by simp)).trans x3
 have HA:=hide (fun q=>Says.kb (inkBin_any w0 pb 7 xn xk xt op a b g c A C h14 hints0 (by omega) (by omega) hA hC) hw1 q)
 have HQ:=hide (fun q:KB (w.alloc (.cells #[.int .i64 7,.int .i64 (op:Int),.int .i64 xn,.string xt,.int .i64 xk] 82))=>r1.trans (q.below.mono r1.size))
 haveI hne:Nonempty (KB (w.alloc (.cells #[.int .i64 7,.int .i64 (op:Int),.int .i64 xn,.string xt,.int .i64 xk] 82))):=⟨⟨_,Below.refl _ _⟩⟩
 have gt:=ft ⟨_,Below.refl _ _⟩
 have go:=fo ⟨_,Below.refl _ _⟩
 simp only [KB.w] at gt go
 clear r1 hints0 hw hw1 HIS hI HI
 go_enter Tryz.func36,Tryz.ntmps36
 go_wp2_with fail
 refine (HA.out ⟨_,Below.refl _ _⟩).mono ?_
 rintro e _ ⟨rfl,q,rfl⟩
 go_wp2
 go_ret
 exact ⟨rfl,HQ.out q⟩
set_option maxRecDepth 100000 in
set_option maxHeartbeats 4000000 in
theorem inkP_8 (hI:Ink w0 pb tg tc kg kc ns ks) (k:Nat) (hk:k < ns.length) (hk2:k < ks.length) (_hn:ns.length≤5000) (_hm:ks.length≤5000) (hkd:ns[k].kind=8) (_htx:ns[k].text.size≤1000) (L:ByteArray) (sL:L.size≤40000000) (hL:∀ g c,IntsAt w0 g 0 ks[k]→Says w0 55 #[.pointer (some ⟨pb,0,none⟩),.slice (some ⟨g,0,none⟩) (ks[k]).length c] L):Says w0 36 #[.pointer (some ⟨pb,0,none⟩),.int .i64 k] ((⟨#[91]⟩:ByteArray)++L++(⟨#[93]⟩:ByteArray)):=by
 intro w hw
 obtain ⟨g,c,hrow0,hints0,hgc⟩:=hI.rows k hk2
 have HI:=hide (hI.below hw)
 have hrow:=(hw.cell (p:=⟨kg,k,none⟩) hI.kl).trans hrow0
 obtain ⟨n0,n1,n2,n3,n4⟩:=HI.out.nodes.2 k hk
 have c0:=HI.out.c0
 have c1:=HI.out.c1
 have hpl:=HI.out.pl
 have hkl:=HI.out.kl
 rw [hkd] at n0
 generalize hxt:ns[k].text=xt at *
 generalize ns[k].op=xo at *
 generalize ns[k].n=xn at *
 generalize ns[k].kids=xk at *
 generalize hks:ks[k]=ls at *
 have r1:Below w.heap.size w (w.alloc (.cells #[.int .i64 8,.int .i64 xo,.int .i64 xn,.string xt,.int .i64 xk] 82)):=bA _
 have hw1:=hw.trans (r1.mono hw.size)
 have d1:=(r1.cell (p:=⟨pb,1,none⟩) hpl).trans c1
 have drow:=(r1.cell (p:=⟨kg,k,none⟩) hkl).trans hrow
 obtain ⟨x0,x1,x2,x3⟩:=node_box w ⟨8,xo,xn,xt,xk⟩
 have HIS:=hide (fun q:KB (w.alloc (.cells #[.int .i64 8,.int .i64 xo,.int .i64 xn,.string xt,.int .i64 xk] 82))=>hints0.below (hw1.trans (q.below.mono hw1.size)))
 have fo:∀ q:KB (w.alloc (.cells #[.int .i64 8,.int .i64 xo,.int .i64 xn,.string xt,.int .i64 xk] 82)),q.w.cell? ⟨w.heap.size,1,none⟩=some (.int .i64 xo):=fun q=>(q.below.cell (p:=⟨w.heap.size,1,none⟩) (by simp)).trans x1
 have ft:∀ q:KB (w.alloc (.cells #[.int .i64 8,.int .i64 xo,.int .i64 xn,.string xt,.int .i64 xk] 82)),q.w.cell? ⟨w.heap.size,3,none⟩=some (.string xt):=fun q=>(q.below.cell (p:=⟨w.heap.size,3,none⟩) (by simp)).trans x3
 have HA:=hide (fun q=>Says.kb (hL g c hints0) hw1 q)
 have HQ:=hide (fun q:KB (w.alloc (.cells #[.int .i64 8,.int .i64 xo,.int .i64 xn,.string xt,.int .i64 xk] 82))=>r1.trans (q.below.mono r1.size))
 haveI hne:Nonempty (KB (w.alloc (.cells #[.int .i64 8,.int .i64 xo,.int .i64 xn,.string xt,.int .i64 xk] 82))):=⟨⟨_,Below.refl _ _⟩⟩
 have gt:=ft ⟨_,Below.refl _ _⟩
 have go:=fo ⟨_,Below.refl _ _⟩
 simp only [KB.w] at gt go
 clear r1 hints0 hw hw1 HIS hI HI
 go_enter Tryz.func36,Tryz.ntmps36
 go_wp2_with fail
 refine (HA.out ⟨_,Below.refl _ _⟩).mono ?_
 rintro e _ ⟨rfl,q,rfl⟩
 go_wp2
 go_ret
 exact ⟨rfl,HQ.out q⟩
set_option maxRecDepth 100000 in
set_option maxHeartbeats 4000000 in
theorem inkP_9 (hI:Ink w0 pb tg tc kg kc ns ks) (k:Nat) (hk:k < ns.length) (hk2:k < ks.length) (_hn:ns.length≤5000) (_hm:ks.length≤5000) (hkd:ns[k].kind=9) (_htx:ns[k].text.size≤1000) (L:ByteArray) (sL:L.size≤40000000) (hL:∀ g c,IntsAt w0 g 0 ks[k]→Says w0 55 #[.pointer (some ⟨pb,0,none⟩),.slice (some ⟨g,0,none⟩) (ks[k]).length c] L):Says w0 36 #[.pointer (some ⟨pb,0,none⟩),.int .i64 k] ((⟨#[123]⟩:ByteArray)++L++(⟨#[125]⟩:ByteArray)):=by
 intro w hw
 obtain ⟨g,c,hrow0,hints0,hgc⟩:=hI.rows k hk2
 have HI:=hide (hI.below hw)
 have hrow:=(hw.cell (p:=⟨kg,k,none⟩) hI.kl).trans hrow0
 obtain ⟨n0,n1,n2,n3,n4⟩:=HI.out.nodes.2 k hk
 have c0:=HI.out.c0
 have c1:=HI.out.c1
 have hpl:=HI.out.pl
 have hkl:=HI.out.kl
 rw [hkd] at n0
 generalize hxt:ns[k].text=xt at *
 generalize ns[k].op=xo at *
 generalize ns[k].n=xn at *
 generalize ns[k].kids=xk at *
 generalize hks:ks[k]=ls at *
 have r1:Below w.heap.size w (w.alloc (.cells #[.int .i64 9,.int .i64 xo,.int .i64 xn,.string xt,.int .i64 xk] 82)):=bA _
 have hw1:=hw.trans (r1.mono hw.size)
 have d1:=(r1.cell (p:=⟨pb,1,none⟩) hpl).trans c1
 have drow:=(r1.cell (p:=⟨kg,k,none⟩) hkl).trans hrow
 obtain ⟨x0,x1,x2,x3⟩:=node_box w ⟨9,xo,xn,xt,xk⟩
 have HIS:=hide (fun q:KB (w.alloc (.cells #[.int .i64 9,.int .i64 xo,.int .i64 xn,.string xt,.int .i64 xk] 82))=>hints0.below (hw1.trans (q.below.mono hw1.size)))
 have fo:∀ q:KB (w.alloc (.cells #[.int .i64 9,.int .i64 xo,.int .i64 xn,.string xt,.int .i64 xk] 82)),q.w.cell? ⟨w.heap.size,1,none⟩=some (.int .i64 xo):=fun q=>(q.below.cell (p:=⟨w.heap.size,1,none⟩) (by simp)).trans x1
 have ft:∀ q:KB (w.alloc (.cells #[.int .i64 9,.int .i64 xo,.int .i64 xn,.string xt,.int .i64 xk] 82)),q.w.cell? ⟨w.heap.size,3,none⟩=some (.string xt):=fun q=>(q.below.cell (p:=⟨w.heap.size,3,none⟩) (by simp)).trans x3
 have HA:=hide (fun q=>Says.kb (hL g c hints0) hw1 q)
 have HQ:=hide (fun q:KB (w.alloc (.cells #[.int .i64 9,.int .i64 xo,.int .i64 xn,.string xt,.int .i64 xk] 82))=>r1.trans (q.below.mono r1.size))
 haveI hne:Nonempty (KB (w.alloc (.cells #[.int .i64 9,.int .i64 xo,.int .i64 xn,.string xt,.int .i64 xk] 82))):=⟨⟨_,Below.refl _ _⟩⟩
 have gt:=ft ⟨_,Below.refl _ _⟩
 have go:=fo ⟨_,Below.refl _ _⟩
 simp only [KB.w] at gt go
 clear r1 hints0 hw hw1 HIS hI HI
 go_enter Tryz.func36,Tryz.ntmps36
 go_wp2_with fail
 refine (HA.out ⟨_,Below.refl _ _⟩).mono ?_
 rintro e _ ⟨rfl,q,rfl⟩
 go_wp2
 go_ret
 exact ⟨rfl,HQ.out q⟩
set_option maxRecDepth 100000 in
set_option maxHeartbeats 4000000 in
theorem inkP_22 (hI:Ink w0 pb tg tc kg kc ns ks) (k:Nat) (hk:k < ns.length) (hk2:k < ks.length) (_hn:ns.length≤5000) (_hm:ks.length≤5000) (hkd:ns[k].kind=22) (_htx:ns[k].text.size≤1000) (a:Nat) (hks:ks[k]=[a]) (A:ByteArray) (sA:A.size≤20000000) (hA:Says w0 36 #[.pointer (some ⟨pb,0,none⟩),.int .i64 a] A):Says w0 36 #[.pointer (some ⟨pb,0,none⟩),.int .i64 k] ((⟨#[101,109,105,116,32]⟩:ByteArray)++A++(⟨#[59,10]⟩:ByteArray)):=by
 intro w hw
 obtain ⟨g,c,hrow0,hints0,hgc⟩:=hI.rows k hk2
 have HI:=hide (hI.below hw)
 have hrow:=(hw.cell (p:=⟨kg,k,none⟩) hI.kl).trans hrow0
 obtain ⟨n0,n1,n2,n3,n4⟩:=HI.out.nodes.2 k hk
 have c0:=HI.out.c0
 have c1:=HI.out.c1
 have hpl:=HI.out.pl
 have hkl:=HI.out.kl
 rw [hkd] at n0
 generalize hxt:ns[k].text=xt at *
 generalize ns[k].op=xo at *
 generalize ns[k].n=xn at *
 generalize ns[k].kids=xk at *
 rw [hks] at hrow0 hints0 hgc hrow
 have r1:Below w.heap.size w (w.alloc (.cells #[.int .i64 22,.int .i64 xo,.int .i64 xn,.string xt,.int .i64 xk] 82)):=bA _
 have hw1:=hw.trans (r1.mono hw.size)
 have d1:=(r1.cell (p:=⟨pb,1,none⟩) hpl).trans c1
 have drow:=(r1.cell (p:=⟨kg,k,none⟩) hkl).trans hrow
 obtain ⟨x0,x1,x2,x3⟩:=node_box w ⟨22,xo,xn,xt,xk⟩
 have HIS:=hide (fun q:KB (w.alloc (.cells #[.int .i64 22,.int .i64 xo,.int .i64 xn,.string xt,.int .i64 xk] 82))=>hints0.below (hw1.trans (q.below.mono hw1.size)))
 have fo:∀ q:KB (w.alloc (.cells #[.int .i64 22,.int .i64 xo,.int .i64 xn,.string xt,.int .i64 xk] 82)),q.w.cell? ⟨w.heap.size,1,none⟩=some (.int .i64 xo):=fun q=>(q.below.cell (p:=⟨w.heap.size,1,none⟩) (by simp)).trans x1
 have ft:∀ q:KB (w.alloc (.cells #[.int .i64 22,.int .i64 xo,.int .i64 xn,.string xt,.int .i64 xk] 82)),q.w.cell? ⟨w.heap.size,3,none⟩=some (.string xt):=fun q=>(q.below.cell (p:=⟨w.heap.size,3,none⟩) (by simp)).trans x3
 have fi0:∀ q:KB (w.alloc (.cells #[.int .i64 22,.int .i64 xo,.int .i64 xn,.string xt,.int .i64 xk] 82)),q.w.cell? ⟨g,0,none⟩=some (.int .i64 a):=fun q=>(HIS.out q).2 0 (by simp)
 have HA:=hide (fun q=>Says.kb hA hw1 q)
 have gi:=fi0 ⟨_,Below.refl _ _⟩
 simp only [KB.w] at gi
 have HQ:=hide (fun q:KB (w.alloc (.cells #[.int .i64 22,.int .i64 xo,.int .i64 xn,.string xt,.int .i64 xk] 82))=>r1.trans (q.below.mono r1.size))
 haveI hne:Nonempty (KB (w.alloc (.cells #[.int .i64 22,.int .i64 xo,.int .i64 xn,.string xt,.int .i64 xk] 82))):=⟨⟨_,Below.refl _ _⟩⟩
 have gt:=ft ⟨_,Below.refl _ _⟩
 have go:=fo ⟨_,Below.refl _ _⟩
 simp only [KB.w] at gt go
 clear r1 hints0 hw hw1 HIS hI HI
 go_enter Tryz.func36,Tryz.ntmps36
 go_wp2_with fail
 refine (HA.out ⟨_,Below.refl _ _⟩).mono ?_
 rintro e _ ⟨rfl,q,rfl⟩
 go_wp2
 go_ret
 exact ⟨rfl,HQ.out q⟩
end Go.Proofs.YtbckhbeebngjfaaGreatDoor
