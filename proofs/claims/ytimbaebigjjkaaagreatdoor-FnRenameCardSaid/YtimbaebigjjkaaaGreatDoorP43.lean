/- Nk, Kj. -/
import Derived.Test.YtimbaebigjjkaaaGreatDoorP39
import Derived.Test.YtimbaebigjjkaaaGreatDoorP41
import Derived.Test.YtimbaebigjjkaaaGreatDoorP42
import Derived.Deep.RegionHeld3
namespace Go.Proofs.YtimbaebigjjkaaaGreatDoor
open Go.RowKit
def KidsI (w:World) (kg U:Nat) (ks:List (List Nat)):Prop:=kg < w.heap.size∧U≤w.heap.size∧kg < U∧∀ k (h:k < ks.length),∃ v,w.cell? ⟨kg,k,none⟩=some v∧((v = .slice none 0 0∧ks[k]=[])∨∃ g c,v = .slice (some ⟨g,0,none⟩) (ks[k]).length c∧kg < g∧g < U∧(ks[k]).length≤c∧IntsAt w g 0 ks[k])
theorem KidsI.below {w w':World} {kg U:Nat} {ks:List (List Nat)} (h:KidsI w kg U ks) (hb:Below w.heap.size w w'):KidsI w' kg U ks:=by
 obtain ⟨h1,h2,h3,h4⟩:=h
 refine ⟨Nat.lt_of_lt_of_le h1 hb.size,Nat.le_trans h2 hb.size,h3,fun k hk=>?_⟩
 obtain ⟨v,a,b⟩:=h4 k hk
 refine ⟨v,(hb.cell (p:=⟨kg,k,none⟩) h1).trans a,?_⟩
 rcases b with b | ⟨g,c,b1,b2,b3,b4,b5⟩
 ·exact .inl b
 ·exact .inr ⟨g,c,b1,b2,b3,b4,b5.below hb⟩
theorem KidsI.of_kd {w:World} {n:Nat} {v3:Value} {vs:List Value} {ks:List (List Nat)} {op:List Nat} {wr:World} (h:Kd w n n v3 vs ks op wr):KidsI wr w.heap.size wr.heap.size ks:=by
 have hsz:=h.sz
 refine ⟨hsz,Nat.le_refl _,hsz,fun k hk=>?_⟩
 obtain ⟨v,hv,hp⟩:=h.rows k hk
 have hkl:=h.kl
 have hvl:=h.vl
 refine ⟨v,?_,?_⟩
 ·rw [h.kr.cellAt k (by omega),List.getElem?_append_left (by omega)];exact hv
 ·rcases hp with hp | ⟨g,c,b1,b2,_,b4,b5⟩
  ·exact .inl hp
  ·exact .inr ⟨g,c,b1,by omega,b5.1,b4,b5⟩
abbrev bdO (tg tc kg bg cg n:Nat):Obj:= .cells #[.slice (some ⟨tg,0,none⟩) n tc,.slice (some ⟨kg,0,none⟩) n n,.slice (some ⟨bg,0,none⟩) n n,.slice (some ⟨cg,0,none⟩) n n] 62
theorem bind_made (ns:List Tr.Nd) (ks:List (List Nat)) (tg tc kg U cg bg:Nat) (W:World) (hK:KidsI W kg U ks) (hl:ks.length=ns.length) (hx:∀ x∈ns,x.text.size≤1048576) (ht:NodesAt W tg ns) (h1:cg < kg∨U≤cg) (h2:bg < kg∨U≤bg) (h3:cg≠bg) (h4:tg≠cg) (h5:tg≠bg) (s:Tr.St)
  (hc:W.ownsRow 0 3 1 (.slice (some ⟨cg,0,none⟩) ns.length ns.length) ns.length (s.codes.map vi)) (hb:W.ownsRow 0 3 1 (.slice (some ⟨bg,0,none⟩) ns.length ns.length) ns.length (s.binds.map vi)) :
  Ix ns ks W.heap.size tg tc kg ns.length cg bg (W.alloc (bdO tg tc kg bg cg ns.length))∧Dy ns.length cg bg s (W.alloc (bdO tg tc kg bg cg ns.length))∧Below W.heap.size W (W.alloc (bdO tg tc kg bg cg ns.length)):=by
 have hB:Below W.heap.size W (W.alloc (bdO tg tc kg bg cg ns.length)):=bA _
 have d:=Xi W (bdO tg tc kg bg cg ns.length)
 have hcl:=(hc.lt cg rfl).2
 have hbl:=(hb.lt bg rfl).2
 obtain ⟨k1,k2,k3,k4⟩:=hK.below hB
 have hsz:(W.alloc (bdO tg tc kg bg cg ns.length)).heap.size=W.heap.size+1:=by simp
 refine ⟨⟨by omega,by omega,h4,h5,by omega,by omega,by omega,k1,?_,?_,?_,?_,ht.below hB,hx,hl,fun k hk=>?_⟩,⟨h3,hc.alloc _,hb.alloc _⟩,hB⟩
 ·rw [World.cell?,d];rfl
 ·rw [World.cell?,d];rfl
 ·rw [World.cell?,d];rfl
 ·rw [World.cell?,d];rfl
 ·obtain ⟨v,a,b⟩:=k4 k hk
  refine ⟨v,a,?_⟩
  rcases b with ⟨b1,b2⟩ | ⟨g,c,b1,b2,b3,b4,b5⟩
  ·exact .inl ⟨none,0,b1,b2⟩
  ·exact .inr ⟨g,0,c,b1,by omega,by omega,b4,b5⟩
set_option maxRecDepth 100000 in
set_option maxHeartbeats 400000 in
theorem QP (ns:List Tr.Nd) (ks:List (List Nat)) (wb tg tc kg kc cg bg:Nat) (s:Tr.St) (w:World) (hn:ns.length≤5000) (hF:Ix ns ks wb tg tc kg kc cg bg w) (hD:Dy ns.length cg bg s w) :
  Calls Tryz.prog 29 #[.pointer (some ⟨wb,0,none⟩)] w fun e w'=>e = .returned (.agg #[.int .i64 (XT s.codes 0).1,.int .i64 (XT s.codes 0).2])∧Below w.heap.size w w':=by
 have hB:Below w.heap.size w (w.alloc (.cells #[.int .i64 0,.int .i64 0] 37)):=bA _
 have f3:=(hB.cell (p:=⟨wb,3,none⟩) hF.wlt).trans hF.f3
 have hlen:=hD.lens.1
 have HD:=X1 (hD.below hB)
 clear hF hD
 go_enter Tryz.func29,Tryz.ntmps29
 go_wp2
 go_loopw [10] (fun t wr=>∃ i:Nat,i≤ns.length∧t = .int .i64 i∧wr=w.alloc (.cells #[.int .i64 0,.int .i64 0] 37)∧XT s.codes 0=XT (s.codes.drop i) i) (fun t _=>ns.length - (intOf t).toNat)
 case atStart=>exact ⟨0,Nat.zero_le _,rfl,rfl,rfl⟩
 case round =>
  obtain ⟨i,hi,rfl,rfl,he⟩:=hrel
  have HE:=X1 he
  clear he
  by_cases hlt:i < ns.length
  ·have hc:=(HD.o.cellC i hlt).1
   have HS:=X1 (JZ s.codes i (by omega))
   rw [List.getElem?_eq_getElem (by omega),Option.getD_some] at hc
   generalize s.codes[i]=z at *
   by_cases hz:z=0
   ·subst hz
    have a:Hid (XT s.codes 0=XT (s.codes.drop (i+1)) (i+1)):=X1 (by rw [HE.o,HS.o,if_pos rfl])
    go_wp2
    go_roundw
    case rel=>exact ⟨i+1,by omega,by go_num,by trivial,a.o⟩
    case measure=>simp [intOf];omega
   ·have hzb:(z == 0)=false:=by simpa using hz
    have a:Hid (XT s.codes 0=(z,i)):=X1 (by rw [HE.o,HS.o,if_neg hz])
    go_wp2
    refine bodyPost_ret (v:= .agg #[.int .i64 z,.int .i64 i]) (by simp [results,Tryz.results29,go_sem]) rfl ⟨by rw [a.o],?_⟩
    exact bA _
  ·have a:Hid (XT s.codes 0=(0,0)):=X1 (by rw [HE.o,List.drop_of_length_le (by omega)];rfl)
   go_wp2
   refine bodyPost_ret (v:= .agg #[.int .i64 0,.int .i64 0]) (by simp [results,Tryz.results29,go_sem]) rfl ⟨by rw [a.o];rfl,?_⟩
   exact bA _
theorem undrew {B:Nat} {W w':World} (h:Below B W.drew w'):Below B W w':=⟨h.os,h.tape,h.output,h.size,h.block⟩
def Bd (ns:List Tr.Nd) (ks:List (List Nat)) (tg tc:Nat) (w:World) (v4:Value) (wx:World):Prop :=
 ∃ wb kg cg bg,v4 = .pointer (some ⟨wb,0,none⟩)∧w.heap.size≤wb∧w.heap.size≤cg∧w.heap.size≤bg∧Ix ns ks wb tg tc kg ns.length cg bg wx∧Dy ns.length cg bg ⟨List.replicate ns.length 0,List.replicate ns.length 0⟩ wx∧Below w.heap.size w wx
theorem bind_a {ns:List Tr.Nd} {ks:List (List Nat)} {tg tc kg cg bg z:Nat} {w w':World} (hn:ns.length≤5000) (hK:KidsI w' kg w'.heap.size ks) (hl:ks.length=ns.length) (hx:∀ x∈ns,x.text.size≤1048576) (ht:NodesAt w tg ns) (hB:Below w.heap.size w w')
  (hcb:cg=w'.heap.size∧bg=w'.heap.size+1∨cg=w'.heap.size+1∧bg=w'.heap.size) (hz:z=w'.heap.size+1+1):Bd ns ks tg tc w (.pointer (some ⟨z,0,none⟩)) (((w'.alloc (mdO ns.length)).alloc (mdO ns.length)).alloc (bdO tg tc kg bg cg ns.length)):=by
 have m0:=Kz w' ns.length 0 (Nat.zero_le _) (by unfold maxLen;omega)
 have m1:=Kz (w'.alloc (mdO ns.length)) ns.length 0 (Nat.zero_le _) (by unfold maxLen;omega)
 rw [World.size_alloc] at m1
 have b:Below w'.heap.size w' ((w'.alloc (mdO ns.length)).alloc (mdO ns.length)):=(bA _).alloc (by simp) _
 have htl:=ht.1
 have hsz:=hB.size
 have hw:((w'.alloc (mdO ns.length)).alloc (mdO ns.length)).heap.size=z:=by rw [World.size_alloc,World.size_alloc,hz]
 have ht2:NodesAt ((w'.alloc (mdO ns.length)).alloc (mdO ns.length)) tg ns:=ht.below (hB.trans (b.mono hsz))
 have a:=bind_made ns ks tg tc kg w'.heap.size cg bg _ (hK.below b) hl hx ht2 (by omega) (by omega) (by omega) (by omega) (by omega) ⟨List.replicate ns.length 0,List.replicate ns.length 0⟩
  (by rcases hcb with ⟨rfl,rfl⟩ | ⟨rfl,rfl⟩;exact m0.alloc _;exact m1) (by rcases hcb with ⟨rfl,rfl⟩ | ⟨rfl,rfl⟩;exact m1;exact m0.alloc _)
 rw [hw] at a
 exact ⟨z,kg,cg,bg,rfl,by omega,by omega,by omega,a.1,a.2.1,hB.trans ((b.mono hsz).trans (a.2.2.mono (by omega)))⟩
theorem bind_b {ns:List Tr.Nd} {ks:List (List Nat)} {tg tc kg cg bg z x:Nat} {w X w':World} (hxs:X.heap.size=x) (hn:ns.length≤5000) (hK:KidsI w' kg w'.heap.size ks) (hkg:kg=x+1) (hl:ks.length=ns.length) (hx:∀ x∈ns,x.text.size≤1048576) (ht:NodesAt w tg ns) (hX:Below w.heap.size w X) (hB:Below (x+1) (X.alloc (mdO ns.length)) w')
  (hcb:cg=x∧bg=w'.heap.size∨cg=w'.heap.size∧bg=x) (hz:z=w'.heap.size+1):Bd ns ks tg tc w (.pointer (some ⟨z,0,none⟩)) ((w'.alloc (mdO ns.length)).alloc (bdO tg tc kg bg cg ns.length)):=by
 subst hxs
 have m0:=Kz X ns.length 0 (Nat.zero_le _) (by unfold maxLen;omega)
 have m0':=Y5 m0 (hB.block X.heap.size (Nat.lt_succ_self _))
 have m1:=Kz w' ns.length 0 (Nat.zero_le _) (by unfold maxLen;omega)
 have b:Below w'.heap.size w' (w'.alloc (mdO ns.length)):=bA _
 have htl:=ht.1
 have hsx:=hX.size
 have hsz:=hB.size
 rw [World.size_alloc] at hsz
 have hw:(w'.alloc (mdO ns.length)).heap.size=z:=by rw [World.size_alloc,hz]
 have hXw:Below w.heap.size w w':=(hX.alloc (by omega) (mdO ns.length)).trans (hB.mono (by omega))
 have ht2:NodesAt (w'.alloc (mdO ns.length)) tg ns:=ht.below (hXw.trans (b.mono (by omega)))
 have a:=bind_made ns ks tg tc kg w'.heap.size cg bg _ (hK.below b) hl hx ht2 (by omega) (by omega) (by omega) (by omega) (by omega) ⟨List.replicate ns.length 0,List.replicate ns.length 0⟩
  (by rcases hcb with ⟨rfl,rfl⟩ | ⟨rfl,rfl⟩;exact m0'.alloc _;exact m1) (by rcases hcb with ⟨rfl,rfl⟩ | ⟨rfl,rfl⟩;exact m1;exact m0'.alloc _)
 rw [hw] at a
 exact ⟨z,kg,cg,bg,rfl,by omega,by omega,by omega,a.1,a.2.1,hXw.trans ((b.mono (by omega)).trans (a.2.2.mono (by omega)))⟩
theorem bind_c {ns:List Tr.Nd} {ks:List (List Nat)} {tg tc kg cg bg z x:Nat} {w X w':World} (hxs:X.heap.size=x) (hn:ns.length≤5000) (hK:KidsI w' kg w'.heap.size ks) (hkg:kg=x+1+1) (hl:ks.length=ns.length) (hx:∀ x∈ns,x.text.size≤1048576) (ht:NodesAt w tg ns) (hX:Below w.heap.size w X) (hB:Below (x+1+1) ((X.alloc (mdO ns.length)).alloc (mdO ns.length)) w')
  (hcb:cg=x∧bg=x+1∨cg=x+1∧bg=x) (hz:z=w'.heap.size):Bd ns ks tg tc w (.pointer (some ⟨z,0,none⟩)) (w'.alloc (bdO tg tc kg bg cg ns.length)):=by
 subst hxs
 have m0:=(Kz X ns.length 0 (Nat.zero_le _) (by unfold maxLen;omega)).alloc (mdO ns.length)
 have m1:=Kz (X.alloc (mdO ns.length)) ns.length 0 (Nat.zero_le _) (by unfold maxLen;omega)
 rw [World.size_alloc] at m1
 have m0':=Y5 m0 (hB.block X.heap.size (by omega))
 have m1':=Y5 m1 (hB.block (X.heap.size+1) (by omega))
 have htl:=ht.1
 have hsx:=hX.size
 have hsz:=hB.size
 rw [World.size_alloc,World.size_alloc] at hsz
 have hXw:Below w.heap.size w w':=((hX.alloc (by omega) (mdO ns.length)).alloc (by simp;omega) (mdO ns.length)).trans (hB.mono (by omega))
 have a:=bind_made ns ks tg tc kg w'.heap.size cg bg w' hK hl hx (ht.below hXw) (by omega) (by omega) (by omega) (by omega) (by omega) ⟨List.replicate ns.length 0,List.replicate ns.length 0⟩
  (by rcases hcb with ⟨rfl,rfl⟩ | ⟨rfl,rfl⟩;exact m0';exact m1') (by rcases hcb with ⟨rfl,rfl⟩ | ⟨rfl,rfl⟩;exact m1';exact m0')
 rw [← hz] at a
 exact ⟨z,kg,cg,bg,rfl,by omega,by omega,by omega,a.1,a.2.1,hXw.trans (a.2.2.mono (by omega))⟩
set_option maxRecDepth 100000 in
set_option maxHeartbeats 1000000 in
theorem JK (ns:List Tr.Nd) (tg tc:Nat) (w:World) (hn1:1≤ns.length) (hn5:ns.length≤5000) (hgood:XY ns=true)
  (hlen:∀ k (h:k < (Xf ns).length),((Xf ns)[k]).length≤5000∧(X4 ns k=14→((Xf ns)[k]).length=2)∧(X4 ns k=16→1≤((Xf ns)[k]).length)∧(X4 ns k=15∨X4 ns k=20→1≤((Xf ns)[k]).length))
  (hx:∀ x∈ns,x.text.size≤1048576) (hG:GlobB w) (ht:NodesAt w tg ns) :
  Calls Tryz.prog 28 #[.agg #[.slice (some ⟨tg,0,none⟩) ns.length tc]] w fun e w'=>∃ wb kg kc cg bg,e = .returned (.pointer (some ⟨wb,0,none⟩))∧Ix ns (Xf ns) wb tg tc kg kc cg bg w'∧Dy ns.length cg bg (XW ns (Xf ns) ns.length (ns.length - 1) [YX] (YV ns.length)) w'∧w.heap.size≤cg∧w.heap.size≤bg∧Below w.heap.size w w':=by
 have r1:Below w.heap.size w (w.alloc (.cells #[.slice (some ⟨tg,0,none⟩) ns.length tc] 25)):=bA _
 have g:=Zs hgood
 have l:=K5 ns
 have hmk:=make_eq ns.length hn5
 have HPL:=X1 (fun w' (hb:Below w.heap.size w w')=>places_any ns tg tc w' hn5 hgood (ht.below hb))
 have HLN:=X1 hlen
 have HLT:=X1 l
 have HT:=X1 ht
 have HX:=X1 hx
 have HG:=X1 hG
 clear hlen l ht hx hG
 generalize hks:Xf ns=ks at *
 go_enter Tryz.func28,Tryz.ntmps28
 have d:(w.alloc (.cells #[.slice (some ⟨tg,0,none⟩) ns.length tc] 25)).cell? ⟨w.heap.size,0,none⟩=some (.slice (some ⟨tg,0,none⟩) ns.length tc):=by simp
 have n:Hid (∀ (W:World) (z:Nat),Below w.heap.size w W→W.heap.size=z→Calls Tryz.prog 50 #[.slice (some ⟨tg,0,none⟩) ns.length tc] W fun e w'=>e = .returned (.slice (some ⟨z,0,none⟩) ns.length ns.length)∧(KidsI w' z w'.heap.size ks∧Below z W w'∧z < w'.heap.size)):=X1 (by
  rintro W z hb rfl
  refine (HPL.o W hb).mono ?_
  rintro e w' ⟨vs,v3,op,rfl,hk⟩
  exact ⟨rfl,KidsI.of_kd hk,hk.B,hk.sz⟩)
 clear HPL
 have r:Hid ((w.alloc (.cells #[.slice (some ⟨tg,0,none⟩) ns.length tc] 25)).heap.size=w.heap.size+1):=X1 (by simp)
 have q:=X1 (show Below w.heap.size w (w.alloc (.cells #[.slice (some ⟨tg,0,none⟩) ns.length tc] 25)).drew from r1.drew)
 have HR1:=X1 (show Below w.heap.size w ((w.alloc (.cells #[.slice (some ⟨tg,0,none⟩) ns.length tc] 25)).alloc (mdO ns.length)).drew from (r1.alloc (by simp) _).drew)
 have HR2:=X1 (show Below w.heap.size w (((w.alloc (.cells #[.slice (some ⟨tg,0,none⟩) ns.length tc] 25)).alloc (mdO ns.length)).alloc (mdO ns.length)).drew from ((r1.alloc (by simp) _).alloc (by rw [World.size_alloc,World.size_alloc];omega) _).drew)
 have HS0:Hid ((w.alloc (.cells #[.slice (some ⟨tg,0,none⟩) ns.length tc] 25)).drew.heap.size=w.heap.size+1):=X1 (by show (w.alloc (.cells #[.slice (some ⟨tg,0,none⟩) ns.length tc] 25)).heap.size=_;simp)
 have HS1:Hid (((w.alloc (.cells #[.slice (some ⟨tg,0,none⟩) ns.length tc] 25)).alloc (mdO ns.length)).drew.heap.size=w.heap.size+1+1):=X1 (by show ((w.alloc (.cells #[.slice (some ⟨tg,0,none⟩) ns.length tc] 25)).alloc (mdO ns.length)).heap.size=_;simp)
 have HS2:Hid ((((w.alloc (.cells #[.slice (some ⟨tg,0,none⟩) ns.length tc] 25)).alloc (mdO ns.length)).alloc (mdO ns.length)).drew.heap.size=w.heap.size+1+1+1):=X1 (by show (((w.alloc (.cells #[.slice (some ⟨tg,0,none⟩) ns.length tc] 25)).alloc (mdO ns.length)).alloc (mdO ns.length)).heap.size=_;simp)
 have f:((w.alloc (.cells #[.slice (some ⟨tg,0,none⟩) ns.length tc] 25)).alloc (mdO ns.length)).cell? ⟨w.heap.size,0,none⟩=some (.slice (some ⟨tg,0,none⟩) ns.length tc):=(((Below.refl (w.heap.size+1) _).alloc (by simp) _).cell (p:=⟨w.heap.size,0,none⟩) (Nat.lt_succ_self _)).trans d
 have a0:(((w.alloc (.cells #[.slice (some ⟨tg,0,none⟩) ns.length tc] 25)).alloc (mdO ns.length)).alloc (mdO ns.length)).cell? ⟨w.heap.size,0,none⟩=some (.slice (some ⟨tg,0,none⟩) ns.length tc):=(((Below.refl (w.heap.size+1) _).alloc (by simp) _).cell (p:=⟨w.heap.size,0,none⟩) (Nat.lt_succ_self _)).trans f
 go_upto_region 2 with fail
 go_cut [4] from 9 to 20 (fun v4 wx=>Bd ns ks tg tc w v4 wx)
 case first =>
  go_region_held3 (fun w'=>w'.cell? ⟨w.heap.size,0,none⟩=some (.slice (some ⟨tg,0,none⟩) ns.length tc)) (go_keep) (first
   | (refine Kj rfl 50 (.tmp 12) 23 rfl (.slice (some ⟨tg,0,none⟩) ns.length tc) (.slice (some ⟨w.heap.size+1,0,none⟩) ns.length ns.length) (by simp [Act.eval]) Tryz.f50 Tryz.func50 (by kernel_rfl) (by kernel_rfl) _ (n.o _ (w.heap.size+1) q.o HS0.o) ?_;intro w5 a;have hbx:w5.cell? ⟨w.heap.size,0,none⟩=some (.slice (some ⟨tg,0,none⟩) ns.length tc):=(a.2.1.cell (p:=⟨w.heap.size,0,none⟩) (show w.heap.size < w.heap.size+1 by omega)).trans d)
   | (refine Kj rfl 50 (.tmp 12) 23 rfl (.slice (some ⟨tg,0,none⟩) ns.length tc) (.slice (some ⟨w.heap.size+1+1,0,none⟩) ns.length ns.length) (by simp [Act.eval]) Tryz.f50 Tryz.func50 (by kernel_rfl) (by kernel_rfl) _ (n.o _ (w.heap.size+1+1) HR1.o HS1.o) ?_;intro w5 a;have hbx:w5.cell? ⟨w.heap.size,0,none⟩=some (.slice (some ⟨tg,0,none⟩) ns.length tc):=(a.2.1.cell (p:=⟨w.heap.size,0,none⟩) (show w.heap.size < w.heap.size+1+1 by omega)).trans f)
   | (refine Kj rfl 50 (.tmp 12) 23 rfl (.slice (some ⟨tg,0,none⟩) ns.length tc) (.slice (some ⟨w.heap.size+1+1+1,0,none⟩) ns.length ns.length) (by simp [Act.eval]) Tryz.f50 Tryz.func50 (by kernel_rfl) (by kernel_rfl) _ (n.o _ (w.heap.size+1+1+1) HR2.o HS2.o) ?_;intro w5 a;have hbx:w5.cell? ⟨w.heap.size,0,none⟩=some (.slice (some ⟨tg,0,none⟩) ns.length tc):=(a.2.1.cell (p:=⟨w.heap.size,0,none⟩) (show w.heap.size < w.heap.size+1+1+1 by omega)).trans a0)
   | fail)
  all_goals
   go_wp2_with fail
   go_meet
   case rel =>
    first
    | exact bind_a hn5 a.1 g HX.o HT.o (q.o.trans (a.2.1.mono (by omega))) (.inl ⟨rfl,rfl⟩) rfl
    | exact bind_a hn5 a.1 g HX.o HT.o (q.o.trans (a.2.1.mono (by omega))) (.inr ⟨rfl,rfl⟩) rfl
    | exact bind_b r.o hn5 a.1 rfl g HX.o HT.o r1 (undrew a.2.1) (.inl ⟨rfl,rfl⟩) rfl
    | exact bind_b r.o hn5 a.1 rfl g HX.o HT.o r1 (undrew a.2.1) (.inr ⟨rfl,rfl⟩) rfl
    | exact bind_c r.o hn5 a.1 rfl g HX.o HT.o r1 (undrew a.2.1) (.inl ⟨rfl,rfl⟩) rfl
    | exact bind_c r.o hn5 a.1 rfl g HX.o HT.o r1 (undrew a.2.1) (.inr ⟨rfl,rfl⟩) rfl
 case rest =>
  obtain ⟨wb,kg,cg,bg,rfl,hwb,hcg,hbg,A,u,hBx⟩:=hcut
  have HIX:=X1 A
  have f2:=A.f2
  have v:=X1 hBx
  have hcl:=(u.c.lt cg rfl).2
  have hbl:=(u.b.lt bg rfl).2
  have HDY:=X1 u
  clear A u hBx n q HR1 HR2 HS0 HS1 HS2 d f a0
  go_wp2
  go_loopw [25] (fun t wr=>∃ i:Nat,i≤ns.length∧t = .int .i64 i∧Kp cg bg wc wr∧Dy ns.length cg bg ⟨List.replicate ns.length 0,List.replicate i (-1)++List.replicate (ns.length - i) 0⟩ wr) (fun t _=>ns.length - (intOf t).toNat)
  case atStart=>exact ⟨0,Nat.zero_le _,rfl,Kp.refl _ _ _,HDY.o⟩
  case round =>
   obtain ⟨i,hi,rfl,hK,s⟩:=hrel
   have HFr:=X1 (HIX.o.kept hK)
   have f2r:=HFr.o.f2
   have y:=X1 s
   by_cases l:i < ns.length
   ·obtain ⟨cb,fb⟩:=s.cellB i l
    have HRS:=X1 (rep_set ns.length i l)
    clear s
    go_wp2
    go_roundw
    case rel =>
     refine ⟨i+1,by omega,by go_num,hK.setCell _ _ (.inr rfl),?_⟩
     have:=y.o.setB i (-1)
     rw [HRS.o] at this
     exact this
    case measure=>simp [intOf];omega
   ·obtain rfl:i=ns.length:=by omega
    have hst:(⟨List.replicate ns.length 0,List.replicate ns.length (-1)++List.replicate (ns.length - ns.length) 0⟩:Tr.St)=YV ns.length:=by unfold YV;rw [Nat.sub_self,List.replicate_zero,List.append_nil]
    rw [hst] at y
    obtain ⟨m,hm⟩:∃ m,ns.length=m+1:=⟨ns.length - 1,by omega⟩
    have hsz:=hK.size
    have hgl:=HG.o.1
    have hszx:=v.o.size
    have HGr:Hid (GlobB wr):=X1 ⟨by omega,fun j hj=>((hK.cell (p:=⟨0,j,none⟩) (show 0 < wc.heap.size by omega) (show 0≠cg by omega) (show 0≠bg by omega)).trans (v.o.cell (p:=⟨0,j,none⟩) hgl)).trans (HG.o.2 j hj)⟩
    clear s hst
    have HM1:Hid (ns.length - 1=m):=X1 (by omega)
    have hmi:(ns.length:Int)=(m:Int)+1:=by omega
    go_wp2_with fail
    refine (QQ cg bg _ HGr.o (by omega) (by omega)).mono ?_
    rintro e w6 ⟨rfl,C,a1⟩
    have HWK:=X1 (walk_any ns ks wb tg tc kg ns.length cg bg hn5 HLT.o HLN.o ns.length m _ _ _ w6 (by omega) (by omega) (HFr.o.kept (Kp.of_below C)) (y.o.below C) a1)
    clear a1
    go_wp2_with fail
    refine HWK.o.mono ?_
    rintro e w7 ⟨rfl,hk7,hd7⟩
    have HK7:=X1 ((hK.below C).trans hk7)
    go_wp2
    go_ret
    refine ⟨wb,kg,ns.length,cg,bg,rfl,HIX.o.kept HK7.o,?_,hcg,hbg,?_⟩
    ·rw [HM1.o];exact hd7
    ·have h7:=HK7.o
     have hx:=v.o
     exact ⟨h7.os.trans hx.os,h7.tape.trans hx.tape,h7.output.trans hx.output,Nat.le_trans hx.size h7.size,fun b hb=>(h7.block b (by omega) (by omega) (by omega)).trans (hx.block b hb)⟩
def Xz (ns:List Tr.Nd):Bool:=(Xk ns).1 == 0
theorem YH {ns:List Tr.Nd} (h:Xz ns=true):XS ns=true:=by
 unfold Xz Xk at h
 cases hv:XS ns
 ·rw [hv] at h;simp at h
 ·rfl
def Xe (ns:List Tr.Nd):List Int:=if Xz ns=true then (YT ns (Xf ns)).binds else []
def Za (k:Int):Bool:=k == 14 || k == 16
def XB:List Tr.Nd→Nat→List Nat
 | [],_=>[]
 | d :: r,i=>(if Za d.kind=true then [i] else [])++XB r (i+1)
def Y9 (ns:List Tr.Nd):List Nat:=if Xz ns=true then XB ns 0 else []
theorem Tr.localsGo_at (ns:List Tr.Nd) (i:Nat) (h:i < ns.length):XB (ns.drop i) i=(if Za ns[i].kind=true then [i] else [])++XB (ns.drop (i+1)) (i+1):=by
 rw [List.drop_eq_getElem_cons h];rfl
set_option maxRecDepth 100000 in
set_option maxHeartbeats 2000000 in
theorem binds_any (ns:List Tr.Nd) (tg tc:Nat) (w:World) (hn:ns.length≤1048576) (ht:NodesAt w tg ns) :
  Calls Tryz.prog 26 #[.agg #[.slice (some ⟨tg,0,none⟩) ns.length tc]] w fun e w'=>∃ g,e = .returned (.slice (some ⟨g,0,none⟩) (Xe ns).length (Xe ns).length)∧w.heap.size≤g∧w'.ownsRow 0 3 1 (.slice (some ⟨g,0,none⟩) (Xe ns).length (Xe ns).length) (Xe ns).length ((Xe ns).map vi)∧Below w.heap.size w w':=by
 have r1:Below w.heap.size w (w.alloc (.cells #[.slice (some ⟨tg,0,none⟩) ns.length tc] 25)):=bA _
 have f:=X1 (fits_any ns tg tc _ hn (ht.below r1))
 have HT:=X1 ht
 clear ht
 cases hf:Xz ns
 ·have a:=f.o
  rw [show ((Xk ns).1 == 0)=false from hf] at a
  replace a:=X1 a
  have HB:Hid (Xe ns=[]):=X1 (by unfold Xe;rw [hf];rfl)
  go_enter Tryz.func26,Tryz.ntmps26
  go_wp2_with fail
  refine a.o.mono ?_
  rintro e w1 ⟨rfl,d⟩
  have c:=r1.trans (d.mono (by simp))
  go_wp2
  go_ret
  refine ⟨w1.heap.size,by rw [HB.o];rfl,c.size,?_,c.alloc c.size _⟩
  rw [HB.o]
  exact World.ownsRow_lit (base:=0) (e:=3) (size:=1) w1 #[] 0 (Nat.zero_le _) (Nat.zero_le _) rfl
 ·obtain ⟨hn1,hn5,a0,a1⟩:=Yx (YH hf)
  have a:=f.o
  rw [show ((Xk ns).1 == 0)=true from hf] at a
  replace a:=X1 a
  have HB:Hid (Xe ns=(YT ns (Xf ns)).binds):=X1 (by unfold Xe;rw [hf];rfl)
  have HLK:=X1 (fun w' (hb:Below w.heap.size w w')=>look_any ns tg tc w' hn1 hn5 a0 a1 (HT.o.below hb))
  clear a1 f
  go_enter Tryz.func26,Tryz.ntmps26
  go_wp2_with fail
  refine a.o.mono ?_
  rintro e w1 ⟨rfl,d⟩
  have c:=r1.trans (d.mono (by simp))
  have b0:w1.cell? ⟨w.heap.size,0,none⟩=some (.slice (some ⟨tg,0,none⟩) ns.length tc):=(d.cell (p:=⟨w.heap.size,0,none⟩) (by simp)).trans (by simp)
  clear d
  go_wp2_with fail
  refine (HLK.o _ c).mono ?_
  rintro e w2 ⟨wb,kg,kc,cg,bg,rfl,hF,hD,hcg,hbg,hb2⟩
  have hF3:=hF.f3
  have hbl:=hD.lens.2
  have hB2:=c.trans (hb2.mono c.size)
  have HDD:=X1 hD
  have hz:=c.size
  clear hb2 hF hD HLK b0
  go_wp2
  go_ret
  refine ⟨bg,?_,by omega,?_,hB2⟩
  ·rw [HB.o,hbl];rfl
  ·rw [HB.o,hbl];exact HDD.o.b
end Go.Proofs.YtimbaebigjjkaaaGreatDoor
