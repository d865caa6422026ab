/- Fq2, Nk, Fw1. -/
import Derived.Test.YthbojbbmpcmoaaaGreatDoorCards
import Derived.Test.YthbojbbmpcmoaaaGreatDoorTie
import Derived.Test.YthbojbbmpcmoaaaGreatDoorZ28
import Derived.Test.YthbojbbmpcmoaaaGreatDoorZ04
import Derived.Test.YthbojbbmpcmoaaaGreatDoorZ34
import Derived.Deep.Slices
import Derived.ProofKit
import Derived.LaidMore
import Derived.OpenShut
import Derived.OpenVars
import Derived.Stop.Joined
import Derived.Stop.LaidErr
import Derived.Test.YthbojbbmpcmoaaaGreatDoorZ15
import Derived.Deep.RegionHeld3
import Derived.Test.YthbojbbmpcmoaaaGreatDoorZ31
import Derived.Test.YthbojbbmpcmoaaaGreatDoorZ18
namespace Go.Proofs.YthbojbbmpcmoaaaGreatDoor
open Go.ChangeShapes Go.WideShapes Go.ChangeAt Go.RowKit Go.ChangeMaps
theorem own:ownKnob Tryz.prog.godebug=none:=by kernel_rfl
theorem laidOut:laidOutB Tryz.prog=true:=by kernel_rfl
theorem cellsNd:Tryz.prog.cellsOf 63=5:=by kernel_rfl
theorem cellsInt:Tryz.prog.cellsOf 3=1:=by kernel_rfl
theorem cellsInt64:Tryz.prog.cellsOf 2=1:=by kernel_rfl
theorem cellsStr:Tryz.prog.cellsOf 9=1:=by kernel_rfl
theorem cellsSl:Tryz.prog.cellsOf 22=1:=by kernel_rfl
theorem cellsTr:Tryz.prog.cellsOf 24=1:=by kernel_rfl
theorem wf_lt {n:Int} (h:(Lit.int .i64 n).wf=true):n < 9223372036854775808:=by
 have h2:(decide (IntKind.i64.min≤n) && decide (n≤IntKind.i64.max))=true:=h
 simp only [Bool.and_eq_true,decide_eq_true_eq] at h2
 rw [show IntKind.i64.max=9223372036854775807 from by decide] at h2
 omega
section
variable {H:Type} {enc:TypeId × Value→H} {W:World} {sp:Nat→Bool}
set_option maxRecDepth 100000 in
theorem one_node {n:Nat} {cs:List Value} {x:DataW H × List MemPlace} (h:DataW.trod enc Tryz.prog W 0 sp true n 63 cs=some x) :
  ∃ d:Tr.Nd,cs=d.cells∧d.text.size≤maxLen∧(Lit.int .i64 d.n).wf=true:=by
 obtain ⟨xs,m,_,_,hl,hxl,hf⟩:=DataW.trod_struct Tryz.underlying63 h
 rw [cellsNd] at hl
 match cs,hl with
 | [c0,c1,c2,c3,c4],_ =>
  match xs,hxl with
  | [y0,y1,y2,y3,y4],_ =>
   have g0:=hf 0 _ rfl
   have g1:=hf 1 _ rfl
   have g2:=hf 2 _ rfl
   have g3:=hf 3 _ rfl
   have g4:=hf 4 _ rfl
   simp [cellsInt,cellsInt64,cellsStr] at g0 g1 g2 g3 g4
   obtain ⟨k0,e0,_⟩:=DataW.trod_int Tryz.underlying3 g0
   obtain ⟨k1,e1,_⟩:=DataW.trod_int Tryz.underlying3 g1
   obtain ⟨k2,e2,_,hw⟩:=DataW.trod_int Tryz.underlying2 g2
   obtain ⟨s,e3,_,hs⟩:=DataW.trod_string Tryz.underlying9 g3
   obtain ⟨k4,e4,_⟩:=DataW.trod_int Tryz.underlying3 g4
   cases e0;cases e1;cases e2;cases e3;cases e4
   exact ⟨⟨k0,k1,k2,s,k4⟩,rfl,hs,hw⟩
theorem open_nodes {n:Nat} {v:Value} {x:DataW H × List MemPlace} (h:DataW.trod enc Tryz.prog W 0 (fun _=>true) true n 22 [v]=some x) :
  ∃ l,NodesV W v l∧l.length≤maxLen∧∀ d∈l,d.text.size≤maxLen∧(Lit.int .i64 d.n).wf=true:=by
 rcases Deep.open_slice Tryz.underlying22 h with ⟨hc,_⟩ | ⟨a,len,cap,m,k,D,Pl,hc,_,hlc,hcm,hm,_,hx⟩
 ·cases hc
  exact ⟨[],.inl ⟨none,0,rfl,rfl⟩,by simp,fun d hd=>by cases hd⟩
 ·cases hc
  have hm2:m=cap:=by simpa using hm
  rw [cellsNd] at hx
  have each:∀ i,i < len→∃ d:Tr.Nd,(∀ j,j < 5→W.cell? ((a.add (i*5)).add j)=d.cells[j]?)∧d.text.size≤maxLen∧(Lit.int .i64 d.n).wf=true:=by
   intro i hi
   obtain ⟨cs,h1,h2⟩:=hx i (by omega)
   obtain ⟨d,rfl,hs⟩:=one_node h2
   exact ⟨d,(World.cells?_some h1).2.2,hs⟩
  haveI:Inhabited Tr.Nd:=⟨⟨0,0,0,⟨#[]⟩,0⟩⟩
  obtain ⟨f,hf⟩:=Deep.choose_lt each
  have hlen:((List.range len).map f).length=len:=by simp
  refine ⟨(List.range len).map f,?_,by rw [hlen];omega,fun d hd=>?_⟩
  ·by_cases h0:len=0
   ·subst h0;exact .inl ⟨_,_,rfl,rfl⟩
   ·have hc0:=(hf 0 (by omega)).1 0 (by omega)
    rw [Deep.add_add,Nat.zero_mul,Nat.zero_add] at hc0
    obtain ⟨b,o,s⟩:=a
    have hs:s=none:=by
     cases s with
     | none=>rfl
     | some q =>
      simp only [Addr.add,if_true,World.cell?,Tr.Nd.cells] at hc0
      split at hc0 <;> simp at hc0
    subst hs
    refine .inr ⟨b,o,cap,by rw [hlen],?_,fun i hi=>?_⟩
    ·exact World.block_lt_of_cell? W ⟨b,o,none⟩ (show W.cell? ⟨b,o,none⟩=some (.int .i64 (f 0).kind) from by simpa [Addr.add,Tr.Nd.cells] using hc0)
    ·have hi2:i < len:=by rwa [hlen] at hi
     have q:=(hf i hi2).1
     have e:((List.range len).map f)[i]=f i:=by simp
     rw [e]
     have q0:=q 0 (by omega)
     have q1:=q 1 (by omega)
     have q2:=q 2 (by omega)
     have q3:=q 3 (by omega)
     have q4:=q 4 (by omega)
     rw [Deep.add_add,add_plain] at q0 q1 q2 q3 q4
     simp only [Nat.add_zero,← Nat.add_assoc] at q0 q1 q2 q3 q4
     exact ⟨q0,q1,q2,q3,q4⟩
  ·obtain ⟨i,hi,rfl⟩:=List.mem_map.1 hd
   exact (hf i (List.mem_range.1 hi)).2
theorem one_cell {cs:Array Value} (h:cs.size=1):∃ v,cs=#[v]:=by
 obtain ⟨l⟩:=cs
 match l,h with
 | [v],_=>exact ⟨v,rfl⟩
set_option maxRecDepth 100000 in
theorem open_tree {base:Nat} {v0:Value} {d0:DataW H} {p:List MemPlace} (hval:Value.okWide Tryz.prog W .any base 24 v0) (h0:DataW.Trod enc Tryz.prog W 0 (fun _=>true) true 24 v0 d0 p) :
  ∃ v l,v0 = .agg #[v]∧NodesV W v l∧l.length≤9223372036854775807∧(∀ d∈l,d.text.size≤9223372036854775807)∧∀ d∈l,d.n < 9223372036854775808:=by
 obtain ⟨cs,rfl,hcs⟩:=okWide_struct Tryz.underlying24 hval
 obtain ⟨fuel,hf⟩:=h0
 obtain ⟨y0,n,_,_,hy⟩:=trod_struct1 Tryz.underlying24 hf
 rw [cellsTr] at hcs
 obtain ⟨v,rfl⟩:=one_cell hcs
 have hy2:DataW.trod enc Tryz.prog W 0 (fun _=>true) true n 22 [v]=some y0:=by simpa [Value.cells,cellsSl] using hy
 obtain ⟨l,hN,hl,hx⟩:=open_nodes hy2
 unfold maxLen at hl hx
 exact ⟨v,l,rfl,hN,hl,fun d hd=>(hx d hd).1,fun d hd=>wf_lt (hx d hd).2⟩
end
theorem gBuilt:Tryz.prog.globalNamed "loop.example/kilnclay/impl.builtNames"=some 0:=by kernel_rfl
theorem tBuilt:(Tryz.prog.globals[0]?).map (·.type)=some 238:=by kernel_rfl
theorem lit_built:Rows.laid_loop_example_kilnclay_impl_builtNames=DataW.agg (H:=Unit) (builtBA.map fun b => .lit (.string b.data.toList)):=rfl
theorem glob_of {W:World} (h:laidMetH Tryz.prog [("loop.example/kilnclay/impl.builtNames",Rows.laid_loop_example_kilnclay_impl_builtNames)] W):GlobB W:=by
 rw [MakeChecks.laidMetH_plain _ _ _ (by kernel_rfl)] at h
 obtain ⟨ps,⟨g0,t0,cs0,f0,p0,q0,hg0,ht0,hv0,hd0,_,e0⟩,_,hrows⟩:=h
 obtain rfl:=Option.some.inj (gBuilt.symm.trans hg0)
 obtain rfl:=Option.some.inj (tBuilt.symm.trans ht0)
 rw [lit_built] at hd0
 obtain ⟨xs,m,_,hx,hl,hxl,hall⟩:=DataW.trod_array Tryz.underlying238 hd0
 have hmap:builtBA.map (fun b=>(DataW.lit (.string b.data.toList):DataW Unit))=xs.map (·.1):=by
  have:=congrArg Prod.fst hx
  injection this
 have hcell:∀ j (h:j < builtBA.length),W.cell? ⟨0,j,none⟩=some (.string builtBA[j]):=by
  intro j hj
  have hj15:j < 15:=hj
  have hq:=hall j hj15
  rw [cellsStr,Nat.mul_one,List.getElem?_eq_getElem (by omega)] at hq
  obtain ⟨s,hs,hxs,_⟩:=DataW.trod_string Tryz.underlying9 hq
  have hm:(builtBA.map (fun b=>(DataW.lit (.string b.data.toList):DataW Unit)))[j]?=(xs.map (·.1))[j]?:=by rw [hmap]
  rw [List.getElem?_map,List.getElem?_map,List.getElem?_eq_getElem hj,List.getElem?_eq_getElem (by omega),hxs] at hm
  have hb:builtBA[j]'hj=s:=by
   simp only [Option.map_some,Option.some.injEq,DataW.lit.injEq,Lit.string.injEq] at hm
   exact ByteArray.ext (Array.toList_inj.1 hm)
  rw [World.var?_cell gBuilt hv0 j,hb]
  have h1:((cs0.toList.drop j).take 1)[0]?=some (.string s):=by rw [hs];rfl
  rw [List.getElem?_take,if_pos (by omega),List.getElem?_drop,Nat.add_zero] at h1
  simpa using h1
 exact ⟨World.block_lt_of_cell? W ⟨0,0,none⟩ (hcell 0 (by decide)),hcell⟩
end Go.Proofs.YthbojbbmpcmoaaaGreatDoor
namespace Go.Proofs.YthbojbbmpcmoaaaGreatDoor
open Go.RowKit
def KidsI (w:World) (kg U:Nat) (ks:List (List Nat)):Prop:=kg < w.heap.size∧U≤w.heap.size∧kg < U∧∀ k (h:k < ks.length),∃ v,w.cell? ⟨kg,k,none⟩=some v∧((v = .slice none 0 0∧ks[k]=[])∨∃ g c,v = .slice (some ⟨g,0,none⟩) (ks[k]).length c∧kg < g∧g < U∧(ks[k]).length≤c∧IntsAt w g 0 ks[k])
theorem KidsI.below {w w':World} {kg U:Nat} {ks:List (List Nat)} (h:KidsI w kg U ks) (hb:Below w.heap.size w w'):KidsI w' kg U ks:=by
 obtain ⟨h1,h2,h3,h4⟩:=h
 refine ⟨Nat.lt_of_lt_of_le h1 hb.size,Nat.le_trans h2 hb.size,h3,fun k hk=>?_⟩
 obtain ⟨v,a,b⟩:=h4 k hk
 refine ⟨v,(hb.cell (p:=⟨kg,k,none⟩) h1).trans a,?_⟩
 rcases b with b | ⟨g,c,b1,b2,b3,b4,b5⟩
 ·exact .inl b
 ·exact .inr ⟨g,c,b1,b2,b3,b4,b5.below hb⟩
theorem KidsI.of_kd {w:World} {n:Nat} {v3:Value} {vs:List Value} {ks:List (List Nat)} {op:List Nat} {wr:World} (h:Kd w n n v3 vs ks op wr):KidsI wr w.heap.size wr.heap.size ks:=by
 have hsz:=h.sz
 refine ⟨hsz,Nat.le_refl _,hsz,fun k hk=>?_⟩
 obtain ⟨v,hv,hp⟩:=h.rows k hk
 have hkl:=h.kl
 have hvl:=h.vl
 refine ⟨v,?_,?_⟩
 ·rw [h.kr.cellAt k (by omega),List.getElem?_append_left (by omega)];exact hv
 ·rcases hp with hp | ⟨g,c,b1,b2,_,b4,b5⟩
  ·exact .inl hp
  ·exact .inr ⟨g,c,b1,by omega,b5.1,b4,b5⟩
abbrev bdO (tg tc kg bg cg n:Nat):Obj:= .cells #[.slice (some ⟨tg,0,none⟩) n tc,.slice (some ⟨kg,0,none⟩) n n,.slice (some ⟨bg,0,none⟩) n n,.slice (some ⟨cg,0,none⟩) n n] 164
theorem bind_made (ns:List Tr.Nd) (ks:List (List Nat)) (tg tc kg U cg bg:Nat) (W:World) (hK:KidsI W kg U ks) (hl:ks.length=ns.length) (hx:∀ x∈ns,x.text.size≤1048576) (ht:NodesAt W tg ns) (h1:cg < kg∨U≤cg) (h2:bg < kg∨U≤bg) (h3:cg≠bg) (h4:tg≠cg) (h5:tg≠bg) (s:Tr.St)
  (hc:W.ownsRow 0 3 1 (.slice (some ⟨cg,0,none⟩) ns.length ns.length) ns.length (s.codes.map vi)) (hb:W.ownsRow 0 3 1 (.slice (some ⟨bg,0,none⟩) ns.length ns.length) ns.length (s.binds.map vi)) :
  Ix ns ks W.heap.size tg tc kg ns.length cg bg (W.alloc (bdO tg tc kg bg cg ns.length))∧Dy ns.length cg bg s (W.alloc (bdO tg tc kg bg cg ns.length))∧Below W.heap.size W (W.alloc (bdO tg tc kg bg cg ns.length)):=by
 have hB:Below W.heap.size W (W.alloc (bdO tg tc kg bg cg ns.length)):=bA _
 have hnew:=heap_alloc_new' W (bdO tg tc kg bg cg ns.length)
 have hcl:=(hc.lt cg rfl).2
 have hbl:=(hb.lt bg rfl).2
 obtain ⟨k1,k2,k3,k4⟩:=hK.below hB
 have hsz:(W.alloc (bdO tg tc kg bg cg ns.length)).heap.size=W.heap.size+1:=by simp
 refine ⟨⟨by omega,by omega,h4,h5,by omega,by omega,by omega,k1,?_,?_,?_,?_,ht.below hB,hx,hl,fun k hk=>?_⟩,⟨h3,hc.alloc _,hb.alloc _⟩,hB⟩
 ·rw [World.cell?,hnew];rfl
 ·rw [World.cell?,hnew];rfl
 ·rw [World.cell?,hnew];rfl
 ·rw [World.cell?,hnew];rfl
 ·obtain ⟨v,a,b⟩:=k4 k hk
  refine ⟨v,a,?_⟩
  rcases b with ⟨b1,b2⟩ | ⟨g,c,b1,b2,b3,b4,b5⟩
  ·exact .inl ⟨none,0,b1,b2⟩
  ·exact .inr ⟨g,0,c,b1,by omega,by omega,b4,b5⟩
set_option maxRecDepth 100000 in
set_option maxHeartbeats 400000 in
theorem firstFault_any (ns:List Tr.Nd) (ks:List (List Nat)) (wb tg tc kg kc cg bg:Nat) (s:Tr.St) (w:World) (hn:ns.length≤5000) (hF:Ix ns ks wb tg tc kg kc cg bg w) (hD:Dy ns.length cg bg s w) :
  Calls Tryz.prog 38 #[.pointer (some ⟨wb,0,none⟩)] w fun e w'=>e = .returned (.agg #[.int .i64 (Tr.firstC s.codes 0).1,.int .i64 (Tr.firstC s.codes 0).2])∧Below w.heap.size w w':=by
 have hB:Below w.heap.size w (w.alloc (.cells #[.int .i64 0,.int .i64 0] 47)):=bA _
 have f3:=(hB.cell (p:=⟨wb,3,none⟩) hF.wlt).trans hF.f3
 have hlen:=hD.lens.1
 have HD:=hide (hD.below hB)
 clear hF hD
 go_enter Tryz.func38,Tryz.ntmps38
 go_wp2
 go_loopw [10] (fun t wr=>∃ i:Nat,i≤ns.length∧t = .int .i64 i∧wr=w.alloc (.cells #[.int .i64 0,.int .i64 0] 47)∧Tr.firstC s.codes 0=Tr.firstC (s.codes.drop i) i) (fun t _=>ns.length - (intOf t).toNat)
 case atStart=>exact ⟨0,Nat.zero_le _,rfl,rfl,rfl⟩
 case round =>
  obtain ⟨i,hi,rfl,rfl,he⟩:=hrel
  have HE:=hide he
  clear he
  by_cases hlt:i < ns.length
  ·have hc:=(HD.out.cellC i hlt).1
   have HS:=hide (Tr.firstC_at s.codes i (by omega))
   rw [List.getElem?_eq_getElem (by omega),Option.getD_some] at hc
   generalize s.codes[i]=z at *
   by_cases hz:z=0
   ·subst hz
    have HS2:Hid (Tr.firstC s.codes 0=Tr.firstC (s.codes.drop (i+1)) (i+1)):=hide (by rw [HE.out,HS.out,if_pos rfl])
    go_wp2
    go_roundw
    case rel=>exact ⟨i+1,by omega,by go_num,by trivial,HS2.out⟩
    case measure=>simp [intOf];omega
   ·have hzb:(z == 0)=false:=by simpa using hz
    have HS2:Hid (Tr.firstC s.codes 0=(z,i)):=hide (by rw [HE.out,HS.out,if_neg hz])
    go_wp2
    refine bodyPost_ret (v:= .agg #[.int .i64 z,.int .i64 i]) (by simp [results,Tryz.results38,go_sem]) rfl ⟨by rw [HS2.out],?_⟩
    exact bA _
  ·have HS2:Hid (Tr.firstC s.codes 0=(0,0)):=hide (by rw [HE.out,List.drop_of_length_le (by omega)];rfl)
   go_wp2
   refine bodyPost_ret (v:= .agg #[.int .i64 0,.int .i64 0]) (by simp [results,Tryz.results38,go_sem]) rfl ⟨by rw [HS2.out];rfl,?_⟩
   exact bA _
theorem undrew {B:Nat} {W w':World} (h:Below B W.drew w'):Below B W w':=⟨h.os,h.tape,h.output,h.size,h.block⟩
def Bd (ns:List Tr.Nd) (ks:List (List Nat)) (tg tc:Nat) (w:World) (v4:Value) (wx:World):Prop :=
 ∃ wb kg cg bg,v4 = .pointer (some ⟨wb,0,none⟩)∧w.heap.size≤wb∧w.heap.size≤cg∧w.heap.size≤bg∧Ix ns ks wb tg tc kg ns.length cg bg wx∧Dy ns.length cg bg ⟨List.replicate ns.length 0,List.replicate ns.length 0⟩ wx∧Below w.heap.size w wx
theorem bind_a {ns:List Tr.Nd} {ks:List (List Nat)} {tg tc kg cg bg z:Nat} {w w':World} (hn:ns.length≤5000) (hK:KidsI w' kg w'.heap.size ks) (hl:ks.length=ns.length) (hx:∀ x∈ns,x.text.size≤1048576) (ht:NodesAt w tg ns) (hB:Below w.heap.size w w')
  (hcb:cg=w'.heap.size∧bg=w'.heap.size+1∨cg=w'.heap.size+1∧bg=w'.heap.size) (hz:z=w'.heap.size+1+1):Bd ns ks tg tc w (.pointer (some ⟨z,0,none⟩)) (((w'.alloc (mdO ns.length)).alloc (mdO ns.length)).alloc (bdO tg tc kg bg cg ns.length)):=by
 have m0:=made_row w' ns.length 0 (Nat.zero_le _) (by unfold maxLen;omega)
 have m1:=made_row (w'.alloc (mdO ns.length)) ns.length 0 (Nat.zero_le _) (by unfold maxLen;omega)
 rw [World.size_alloc] at m1
 have hB1:Below w'.heap.size w' ((w'.alloc (mdO ns.length)).alloc (mdO ns.length)):=(bA _).alloc (by simp) _
 have htl:=ht.1
 have hsz:=hB.size
 have hw:((w'.alloc (mdO ns.length)).alloc (mdO ns.length)).heap.size=z:=by rw [World.size_alloc,World.size_alloc,hz]
 have ht2:NodesAt ((w'.alloc (mdO ns.length)).alloc (mdO ns.length)) tg ns:=ht.below (hB.trans (hB1.mono hsz))
 have hbm:=bind_made ns ks tg tc kg w'.heap.size cg bg _ (hK.below hB1) hl hx ht2 (by omega) (by omega) (by omega) (by omega) (by omega) ⟨List.replicate ns.length 0,List.replicate ns.length 0⟩
  (by rcases hcb with ⟨rfl,rfl⟩ | ⟨rfl,rfl⟩;exact m0.alloc _;exact m1) (by rcases hcb with ⟨rfl,rfl⟩ | ⟨rfl,rfl⟩;exact m1;exact m0.alloc _)
 rw [hw] at hbm
 exact ⟨z,kg,cg,bg,rfl,by omega,by omega,by omega,hbm.1,hbm.2.1,hB.trans ((hB1.mono hsz).trans (hbm.2.2.mono (by omega)))⟩
theorem bind_b {ns:List Tr.Nd} {ks:List (List Nat)} {tg tc kg cg bg z x:Nat} {w X w':World} (hxs:X.heap.size=x) (hn:ns.length≤5000) (hK:KidsI w' kg w'.heap.size ks) (hkg:kg=x+1) (hl:ks.length=ns.length) (hx:∀ x∈ns,x.text.size≤1048576) (ht:NodesAt w tg ns) (hX:Below w.heap.size w X) (hB:Below (x+1) (X.alloc (mdO ns.length)) w')
  (hcb:cg=x∧bg=w'.heap.size∨cg=w'.heap.size∧bg=x) (hz:z=w'.heap.size+1):Bd ns ks tg tc w (.pointer (some ⟨z,0,none⟩)) ((w'.alloc (mdO ns.length)).alloc (bdO tg tc kg bg cg ns.length)):=by
 subst hxs
 have m0:=made_row X ns.length 0 (Nat.zero_le _) (by unfold maxLen;omega)
 have m0':=row_same m0 (hB.block X.heap.size (Nat.lt_succ_self _))
 have m1:=made_row w' ns.length 0 (Nat.zero_le _) (by unfold maxLen;omega)
 have hB1:Below w'.heap.size w' (w'.alloc (mdO ns.length)):=bA _
 have htl:=ht.1
 have hsx:=hX.size
 have hsz:=hB.size
 rw [World.size_alloc] at hsz
 have hw:(w'.alloc (mdO ns.length)).heap.size=z:=by rw [World.size_alloc,hz]
 have hXw:Below w.heap.size w w':=(hX.alloc (by omega) (mdO ns.length)).trans (hB.mono (by omega))
 have ht2:NodesAt (w'.alloc (mdO ns.length)) tg ns:=ht.below (hXw.trans (hB1.mono (by omega)))
 have hbm:=bind_made ns ks tg tc kg w'.heap.size cg bg _ (hK.below hB1) hl hx ht2 (by omega) (by omega) (by omega) (by omega) (by omega) ⟨List.replicate ns.length 0,List.replicate ns.length 0⟩
  (by rcases hcb with ⟨rfl,rfl⟩ | ⟨rfl,rfl⟩;exact m0'.alloc _;exact m1) (by rcases hcb with ⟨rfl,rfl⟩ | ⟨rfl,rfl⟩;exact m1;exact m0'.alloc _)
 rw [hw] at hbm
 exact ⟨z,kg,cg,bg,rfl,by omega,by omega,by omega,hbm.1,hbm.2.1,hXw.trans ((hB1.mono (by omega)).trans (hbm.2.2.mono (by omega)))⟩
theorem bind_c {ns:List Tr.Nd} {ks:List (List Nat)} {tg tc kg cg bg z x:Nat} {w X w':World} (hxs:X.heap.size=x) (hn:ns.length≤5000) (hK:KidsI w' kg w'.heap.size ks) (hkg:kg=x+1+1) (hl:ks.length=ns.length) (hx:∀ x∈ns,x.text.size≤1048576) (ht:NodesAt w tg ns) (hX:Below w.heap.size w X) (hB:Below (x+1+1) ((X.alloc (mdO ns.length)).alloc (mdO ns.length)) w')
  (hcb:cg=x∧bg=x+1∨cg=x+1∧bg=x) (hz:z=w'.heap.size):Bd ns ks tg tc w (.pointer (some ⟨z,0,none⟩)) (w'.alloc (bdO tg tc kg bg cg ns.length)):=by
 subst hxs
 have m0:=(made_row X ns.length 0 (Nat.zero_le _) (by unfold maxLen;omega)).alloc (mdO ns.length)
 have m1:=made_row (X.alloc (mdO ns.length)) ns.length 0 (Nat.zero_le _) (by unfold maxLen;omega)
 rw [World.size_alloc] at m1
 have m0':=row_same m0 (hB.block X.heap.size (by omega))
 have m1':=row_same m1 (hB.block (X.heap.size+1) (by omega))
 have htl:=ht.1
 have hsx:=hX.size
 have hsz:=hB.size
 rw [World.size_alloc,World.size_alloc] at hsz
 have hXw:Below w.heap.size w w':=((hX.alloc (by omega) (mdO ns.length)).alloc (by simp;omega) (mdO ns.length)).trans (hB.mono (by omega))
 have hbm:=bind_made ns ks tg tc kg w'.heap.size cg bg w' hK hl hx (ht.below hXw) (by omega) (by omega) (by omega) (by omega) (by omega) ⟨List.replicate ns.length 0,List.replicate ns.length 0⟩
  (by rcases hcb with ⟨rfl,rfl⟩ | ⟨rfl,rfl⟩;exact m0';exact m1') (by rcases hcb with ⟨rfl,rfl⟩ | ⟨rfl,rfl⟩;exact m1';exact m0')
 rw [← hz] at hbm
 exact ⟨z,kg,cg,bg,rfl,by omega,by omega,by omega,hbm.1,hbm.2.1,hXw.trans (hbm.2.2.mono (by omega))⟩
set_option maxRecDepth 100000 in
set_option maxHeartbeats 1000000 in
theorem bindTree_any (ns:List Tr.Nd) (tg tc:Nat) (w:World) (hn1:1≤ns.length) (hn5:ns.length≤5000) (hgood:Tr.kidsGood ns=true)
  (hlen:∀ k (h:k < (Tr.kids ns).length),((Tr.kids ns)[k]).length≤5000∧(Tr.kindOf ns k=14→((Tr.kids ns)[k]).length=2)∧(Tr.kindOf ns k=16→1≤((Tr.kids ns)[k]).length)∧(Tr.kindOf ns k=15∨Tr.kindOf ns k=20→1≤((Tr.kids ns)[k]).length))
  (hx:∀ x∈ns,x.text.size≤1048576) (hG:GlobB w) (ht:NodesAt w tg ns) :
  Calls Tryz.prog 37 #[.agg #[.slice (some ⟨tg,0,none⟩) ns.length tc]] w fun e w'=>∃ wb kg kc cg bg,e = .returned (.pointer (some ⟨wb,0,none⟩))∧Ix ns (Tr.kids ns) wb tg tc kg kc cg bg w'∧Dy ns.length cg bg (Tr.iwalk ns (Tr.kids ns) ns.length (ns.length - 1) [Tr.builtSp] (Tr.st0 ns.length)) w'∧w.heap.size≤cg∧w.heap.size≤bg∧Below w.heap.size w w':=by
 have r1:Below w.heap.size w (w.alloc (.cells #[.slice (some ⟨tg,0,none⟩) ns.length tc] 28)):=bA _
 have hkl:=Tr.kids_len hgood
 have hlt:=Tr.kids_lt ns
 have hmk:=make_eq ns.length hn5
 have HPL:=hide (fun w' (hb:Below w.heap.size w w')=>places_any ns tg tc w' hn5 hgood (ht.below hb))
 have HLN:=hide hlen
 have HLT:=hide hlt
 have HT:=hide ht
 have HX:=hide hx
 have HG:=hide hG
 clear hlen hlt ht hx hG
 generalize hks:Tr.kids ns=ks at *
 go_enter Tryz.func37,Tryz.ntmps37
 have hbx0:(w.alloc (.cells #[.slice (some ⟨tg,0,none⟩) ns.length tc] 28)).cell? ⟨w.heap.size,0,none⟩=some (.slice (some ⟨tg,0,none⟩) ns.length tc):=by simp
 have HPC:Hid (∀ (W:World) (z:Nat),Below w.heap.size w W→W.heap.size=z→Calls Tryz.prog 98 #[.slice (some ⟨tg,0,none⟩) ns.length tc] W fun e w'=>e = .returned (.slice (some ⟨z,0,none⟩) ns.length ns.length)∧(KidsI w' z w'.heap.size ks∧Below z W w'∧z < w'.heap.size)):=hide (by
  rintro W z hb rfl
  refine (HPL.out W hb).mono ?_
  rintro e w' ⟨vs,v3,op,rfl,hk⟩
  exact ⟨rfl,KidsI.of_kd hk,hk.B,hk.sz⟩)
 clear HPL
 have HXS:Hid ((w.alloc (.cells #[.slice (some ⟨tg,0,none⟩) ns.length tc] 28)).heap.size=w.heap.size+1):=hide (by simp)
 have HR0:=hide (show Below w.heap.size w (w.alloc (.cells #[.slice (some ⟨tg,0,none⟩) ns.length tc] 28)).drew from r1.drew)
 have HR1:=hide (show Below w.heap.size w ((w.alloc (.cells #[.slice (some ⟨tg,0,none⟩) ns.length tc] 28)).alloc (mdO ns.length)).drew from (r1.alloc (by simp) _).drew)
 have HR2:=hide (show Below w.heap.size w (((w.alloc (.cells #[.slice (some ⟨tg,0,none⟩) ns.length tc] 28)).alloc (mdO ns.length)).alloc (mdO ns.length)).drew from ((r1.alloc (by simp) _).alloc (by rw [World.size_alloc,World.size_alloc];omega) _).drew)
 have HS0:Hid ((w.alloc (.cells #[.slice (some ⟨tg,0,none⟩) ns.length tc] 28)).drew.heap.size=w.heap.size+1):=hide (by show (w.alloc (.cells #[.slice (some ⟨tg,0,none⟩) ns.length tc] 28)).heap.size=_;simp)
 have HS1:Hid (((w.alloc (.cells #[.slice (some ⟨tg,0,none⟩) ns.length tc] 28)).alloc (mdO ns.length)).drew.heap.size=w.heap.size+1+1):=hide (by show ((w.alloc (.cells #[.slice (some ⟨tg,0,none⟩) ns.length tc] 28)).alloc (mdO ns.length)).heap.size=_;simp)
 have HS2:Hid ((((w.alloc (.cells #[.slice (some ⟨tg,0,none⟩) ns.length tc] 28)).alloc (mdO ns.length)).alloc (mdO ns.length)).drew.heap.size=w.heap.size+1+1+1):=hide (by show (((w.alloc (.cells #[.slice (some ⟨tg,0,none⟩) ns.length tc] 28)).alloc (mdO ns.length)).alloc (mdO ns.length)).heap.size=_;simp)
 have hbx1:((w.alloc (.cells #[.slice (some ⟨tg,0,none⟩) ns.length tc] 28)).alloc (mdO ns.length)).cell? ⟨w.heap.size,0,none⟩=some (.slice (some ⟨tg,0,none⟩) ns.length tc):=(((Below.refl (w.heap.size+1) _).alloc (by simp) _).cell (p:=⟨w.heap.size,0,none⟩) (Nat.lt_succ_self _)).trans hbx0
 have hbx2:(((w.alloc (.cells #[.slice (some ⟨tg,0,none⟩) ns.length tc] 28)).alloc (mdO ns.length)).alloc (mdO ns.length)).cell? ⟨w.heap.size,0,none⟩=some (.slice (some ⟨tg,0,none⟩) ns.length tc):=(((Below.refl (w.heap.size+1) _).alloc (by simp) _).cell (p:=⟨w.heap.size,0,none⟩) (Nat.lt_succ_self _)).trans hbx1
 go_upto_region 2 with fail
 go_cut [4] from 9 to 20 (fun v4 wx=>Bd ns ks tg tc w v4 wx)
 case first =>
  go_region_held3 (fun w'=>w'.cell? ⟨w.heap.size,0,none⟩=some (.slice (some ⟨tg,0,none⟩) ns.length tc)) (go_keep) (first
   | (refine step_call1 rfl 98 (.tmp 12) 26 rfl (.slice (some ⟨tg,0,none⟩) ns.length tc) (.slice (some ⟨w.heap.size+1,0,none⟩) ns.length ns.length) (by simp [Act.eval]) Tryz.f98 Tryz.func98 (by kernel_rfl) (by kernel_rfl) _ (HPC.out _ (w.heap.size+1) HR0.out HS0.out) ?_;intro w5 hw5;have hbx:w5.cell? ⟨w.heap.size,0,none⟩=some (.slice (some ⟨tg,0,none⟩) ns.length tc):=(hw5.2.1.cell (p:=⟨w.heap.size,0,none⟩) (show w.heap.size < w.heap.size+1 by omega)).trans hbx0)
   | (refine step_call1 rfl 98 (.tmp 12) 26 rfl (.slice (some ⟨tg,0,none⟩) ns.length tc) (.slice (some ⟨w.heap.size+1+1,0,none⟩) ns.length ns.length) (by simp [Act.eval]) Tryz.f98 Tryz.func98 (by kernel_rfl) (by kernel_rfl) _ (HPC.out _ (w.heap.size+1+1) HR1.out HS1.out) ?_;intro w5 hw5;have hbx:w5.cell? ⟨w.heap.size,0,none⟩=some (.slice (some ⟨tg,0,none⟩) ns.length tc):=(hw5.2.1.cell (p:=⟨w.heap.size,0,none⟩) (show w.heap.size < w.heap.size+1+1 by omega)).trans hbx1)
   | (refine step_call1 rfl 98 (.tmp 12) 26 rfl (.slice (some ⟨tg,0,none⟩) ns.length tc) (.slice (some ⟨w.heap.size+1+1+1,0,none⟩) ns.length ns.length) (by simp [Act.eval]) Tryz.f98 Tryz.func98 (by kernel_rfl) (by kernel_rfl) _ (HPC.out _ (w.heap.size+1+1+1) HR2.out HS2.out) ?_;intro w5 hw5;have hbx:w5.cell? ⟨w.heap.size,0,none⟩=some (.slice (some ⟨tg,0,none⟩) ns.length tc):=(hw5.2.1.cell (p:=⟨w.heap.size,0,none⟩) (show w.heap.size < w.heap.size+1+1+1 by omega)).trans hbx2)
   | fail)
  all_goals
   go_wp2_with fail
   go_meet
   case rel =>
    first
    | exact bind_a hn5 hw5.1 hkl HX.out HT.out (HR0.out.trans (hw5.2.1.mono (by omega))) (.inl ⟨rfl,rfl⟩) rfl
    | exact bind_a hn5 hw5.1 hkl HX.out HT.out (HR0.out.trans (hw5.2.1.mono (by omega))) (.inr ⟨rfl,rfl⟩) rfl
    | exact bind_b HXS.out hn5 hw5.1 rfl hkl HX.out HT.out r1 (undrew hw5.2.1) (.inl ⟨rfl,rfl⟩) rfl
    | exact bind_b HXS.out hn5 hw5.1 rfl hkl HX.out HT.out r1 (undrew hw5.2.1) (.inr ⟨rfl,rfl⟩) rfl
    | exact bind_c HXS.out hn5 hw5.1 rfl hkl HX.out HT.out r1 (undrew hw5.2.1) (.inl ⟨rfl,rfl⟩) rfl
    | exact bind_c HXS.out hn5 hw5.1 rfl hkl HX.out HT.out r1 (undrew hw5.2.1) (.inr ⟨rfl,rfl⟩) rfl
 case rest =>
  obtain ⟨wb,kg,cg,bg,rfl,hwb,hcg,hbg,hIx,hDy,hBx⟩:=hcut
  have HIX:=hide hIx
  have f2:=hIx.f2
  have HBX:=hide hBx
  have hcl:=(hDy.c.lt cg rfl).2
  have hbl:=(hDy.b.lt bg rfl).2
  have HDY:=hide hDy
  clear hIx hDy hBx HPC HR0 HR1 HR2 HS0 HS1 HS2 hbx0 hbx1 hbx2
  go_wp2
  go_loopw [25] (fun t wr=>∃ i:Nat,i≤ns.length∧t = .int .i64 i∧Kp cg bg wc wr∧Dy ns.length cg bg ⟨List.replicate ns.length 0,List.replicate i (-1)++List.replicate (ns.length - i) 0⟩ wr) (fun t _=>ns.length - (intOf t).toNat)
  case atStart=>exact ⟨0,Nat.zero_le _,rfl,Kp.refl _ _ _,HDY.out⟩
  case round =>
   obtain ⟨i,hi,rfl,hK,hDr⟩:=hrel
   have HFr:=hide (HIX.out.kept hK)
   have f2r:=HFr.out.f2
   have HDr:=hide hDr
   by_cases hlt:i < ns.length
   ·obtain ⟨cb,fb⟩:=hDr.cellB i hlt
    have HRS:=hide (rep_set ns.length i hlt)
    clear hDr
    go_wp2
    go_roundw
    case rel =>
     refine ⟨i+1,by omega,by go_num,hK.setCell _ _ (.inr rfl),?_⟩
     have:=HDr.out.setB i (-1)
     rw [HRS.out] at this
     exact this
    case measure=>simp [intOf];omega
   ·obtain rfl:i=ns.length:=by omega
    have hst:(⟨List.replicate ns.length 0,List.replicate ns.length (-1)++List.replicate (ns.length - ns.length) 0⟩:Tr.St)=Tr.st0 ns.length:=by unfold Tr.st0;rw [Nat.sub_self,List.replicate_zero,List.append_nil]
    rw [hst] at HDr
    obtain ⟨m,hm⟩:∃ m,ns.length=m+1:=⟨ns.length - 1,by omega⟩
    have hsz:=hK.size
    have hgl:=HG.out.1
    have hszx:=HBX.out.size
    have HGr:Hid (GlobB wr):=hide ⟨by omega,fun j hj=>((hK.cell (p:=⟨0,j,none⟩) (show 0 < wc.heap.size by omega) (show 0≠cg by omega) (show 0≠bg by omega)).trans (HBX.out.cell (p:=⟨0,j,none⟩) hgl)).trans (HG.out.2 j hj)⟩
    clear hDr hst
    have HM1:Hid (ns.length - 1=m):=hide (by omega)
    have hmi:(ns.length:Int)=(m:Int)+1:=by omega
    go_wp2_with fail
    refine (builtScope_any cg bg _ HGr.out (by omega) (by omega)).mono ?_
    rintro e w6 ⟨rfl,hb6,hch6⟩
    have HWK:=hide (walk_any ns ks wb tg tc kg ns.length cg bg hn5 HLT.out HLN.out ns.length m _ _ _ w6 (by omega) (by omega) (HFr.out.kept (Kp.of_below hb6)) (HDr.out.below hb6) hch6)
    clear hch6
    go_wp2_with fail
    refine HWK.out.mono ?_
    rintro e w7 ⟨rfl,hk7,hd7⟩
    have HK7:=hide ((hK.below hb6).trans hk7)
    go_wp2
    go_ret
    refine ⟨wb,kg,ns.length,cg,bg,rfl,HIX.out.kept HK7.out,?_,hcg,hbg,?_⟩
    ·rw [HM1.out];exact hd7
    ·have h7:=HK7.out
     have hx:=HBX.out
     exact ⟨h7.os.trans hx.os,h7.tape.trans hx.tape,h7.output.trans hx.output,Nat.le_trans hx.size h7.size,fun b hb=>(h7.block b (by omega) (by omega) (by omega)).trans (hx.block b hb)⟩
structure AC (w:World) (g:Nat) (x:Tr.Nd):Prop where
 lt:g < w.heap.size
 c0:w.cell? ⟨g,0,none⟩=some (.int .i64 x.kind)
 c1:w.cell? ⟨g,1,none⟩=some (.int .i64 x.n)
 c2:w.cell? ⟨g,2,none⟩=some (.string x.text)
 c3:w.cell? ⟨g,3,none⟩=some (.int .i64 0)
theorem AC.below {w w':World} {g:Nat} {x:Tr.Nd} (h:AC w g x) (hb:Below w.heap.size w w'):AC w' g x :=
 ⟨Nat.lt_of_lt_of_le h.lt hb.size,(hb.cell (p:=⟨g,0,none⟩) h.lt).trans h.c0,(hb.cell (p:=⟨g,1,none⟩) h.lt).trans h.c1,(hb.cell (p:=⟨g,2,none⟩) h.lt).trans h.c2,(hb.cell (p:=⟨g,3,none⟩) h.lt).trans h.c3⟩
abbrev av (g c:Nat):Value:= .agg #[.slice (some ⟨g,0,none⟩) 1 c]
theorem VAt.ac {w:World} {v:Value} {x:Tr.Nd} (h:VAt w v x):∃ g c,v=av g c∧AC w g x:=by
 obtain ⟨g,c,h1,h2,h3,h4,h5,h6⟩:=h
 exact ⟨g,c,h1,h2,h3,h4,h5,h6⟩
theorem AC.vat {w:World} {g c:Nat} {x:Tr.Nd} (h:AC w g x):VAt w (av g c) x:=⟨g,c,rfl,h.lt,h.c0,h.c1,h.c2,h.c3⟩
theorem AC.set {w:World} {g b i:Nat} {u:Value} {x:Tr.Nd} (h:AC w g x) (hg:g≠b):AC (w.setCell ⟨b,i,none⟩ u) g x:=by
 have hc:∀ j,(w.setCell ⟨b,i,none⟩ u).cell? ⟨g,j,none⟩=w.cell? ⟨g,j,none⟩:=fun j=>World.cell?_of_block (w:=w) (a:=⟨g,j,none⟩) (heap_setOther hg)
 exact ⟨by rw [World.size_setCell];exact h.lt,(hc 0).trans h.c0,(hc 1).trans h.c1,(hc 2).trans h.c2,(hc 3).trans h.c3⟩
abbrev agA (x:Tr.Nd):Value:= .agg #[.int .i64 x.kind,.int .i64 x.n,.string x.text,.int .i64 0]
set_option maxHeartbeats 400000 in
theorem last1 (x:Tr.Nd) (g c:Nat) (w:World) (h:AC w g x):Calls Tryz.prog 83 #[av g c] w fun e w'=>e = .returned (agA x)∧Below w.heap.size w w':=by
 have r1:Below w.heap.size w ((w.alloc (.cells #[.slice (some ⟨g,0,none⟩) 1 c] 71)).alloc (.cells #[.int .i64 0,.int .i64 0,.string ⟨#[]⟩,.int .i64 0] 140)):=(bA _).alloc (by simp) _
 have d0:=(h.below r1).c0
 have d1:=(h.below r1).c1
 have d2:=(h.below r1).c2
 have d3:=(h.below r1).c3
 have hg:=h.lt
 clear h
 go_enter Tryz.func83,Tryz.ntmps83
 go_wp2
 refine bodyPost_ret (v:=agA x) (by simp [results,Tryz.results83,go_sem]) rfl ⟨rfl,?_⟩
 exact (bA _).alloc (by simp) _
theorem fldA0 (k n q:Int) (s:ByteArray) (w:World):(Instr.field 140 (.agg #[.int .i64 k,.int .i64 n,.string s,.int .i64 q]) 0).run Tryz.prog w = .ok (.int .i64 k) w:=by kernel_rfl
theorem fldA1 (k n q:Int) (s:ByteArray) (w:World):(Instr.field 140 (.agg #[.int .i64 k,.int .i64 n,.string s,.int .i64 q]) 1).run Tryz.prog w = .ok (.int .i64 n) w:=by kernel_rfl
theorem fldA2 (k n q:Int) (s:ByteArray) (w:World):(Instr.field 140 (.agg #[.int .i64 k,.int .i64 n,.string s,.int .i64 q]) 2).run Tryz.prog w = .ok (.string s) w:=by kernel_rfl
set_option maxHeartbeats 400000 in
theorem kind1 (x:Tr.Nd) (g c:Nat) (w:World) (h:AC w g x):Calls Tryz.prog 82 #[av g c] w fun e w'=>e = .returned (.int .i64 x.kind)∧Below w.heap.size w w':=by
 have hq:Below w.heap.size w (w.alloc (.cells #[.slice (some ⟨g,0,none⟩) 1 c] 71)):=bA _
 have HL:=hide (last1 x g c _ (h.below hq))
 clear h
 go_enter Tryz.func82,Tryz.ntmps82
 go_wp2_with fail
 refine HL.out.mono ?_
 rintro e w1 ⟨rfl,hb1⟩
 have HF:=fun w=>fldA0 x.kind x.n 0 x.text w
 go_wp2
 go_ret
 exact ⟨rfl,hq.trans (hb1.mono hq.size)⟩
set_option maxHeartbeats 400000 in
theorem noW (s:ByteArray) (w:World):Calls Tryz.prog 84 #[.string s] w fun e w'=>e = .returned (.tuple #[.agg #[.slice none 0 0],.string s])∧Below w.heap.size w w':=by
 go_enter Tryz.func84,Tryz.ntmps84
 go_wp2
 refine bodyPost_ret (v:= .tuple #[.agg #[.slice none 0 0],.string s]) (by simp [results,Tryz.results84,go_sem]) rfl ⟨rfl,?_⟩
 exact bA _
set_option maxRecDepth 100000 in
set_option maxHeartbeats 1000000 in
theorem kids1 (x:Tr.Nd) (g c:Nat) (w:World) (h:AC w g x):Calls Tryz.prog 134 #[av g c] w fun e w'=>∃ q,e = .returned (.tuple #[.slice (some ⟨q,0,none⟩) 0 0,.bool true])∧Below w.heap.size w w':=by
 have r1:Below w.heap.size w ((w.alloc (.cells #[.slice (some ⟨g,0,none⟩) 1 c] 71)).alloc (.cells #[] 3)):=(bA _).alloc (by simp) _
 have d3:=(h.below r1).c3
 have hg:=h.lt
 clear h
 go_enter Tryz.func134,Tryz.ntmps134
 go_wp2_with fail
 have HR1:=hide r1
 generalize hW:(w.alloc (.cells #[.slice (some ⟨g,0,none⟩) 1 c] 71)).alloc (.cells #[] 3)=W at *
 have k0:W.cell? ⟨w.heap.size,0,none⟩=some (.slice (some ⟨g,0,none⟩) 1 c):=by
  rw [← hW]
  exact ((bA (.cells #[] 3)).cell (p:=⟨w.heap.size,0,none⟩) (by simp)).trans (by simp)
 clear r1 hW
 go_loopw [4,5] (fun v4 v5 wr=>v4 = .slice (some ⟨w.heap.size+1,0,none⟩) 0 0∧v5 = .int .i64 0∧wr=W) (fun _ _ _=>0)
 case atStart=>exact ⟨rfl,rfl,rfl⟩
 case round =>
  obtain ⟨rfl,rfl,hwr⟩:=hrel
  have hwr:=hwr.symm
  subst hwr
  go_wp2_with fail
  go_loopw [7,8] (fun v7 v8 wr2=>(∃ q,v7 = .slice (some ⟨q,0,none⟩) 0 0)∧v8 = .int .i64 0∧Below W.heap.size W wr2) (fun _ _ _=>0)
  case atStart=>exact ⟨⟨_,rfl⟩,rfl,bA _⟩
  case round =>
   obtain ⟨⟨q,rfl⟩,rfl,hb2⟩:=hrel
   go_wp2
   go_ret2
   exact ⟨q,rfl,HR1.out.trans (hb2.mono HR1.out.size)⟩
set_option maxRecDepth 100000 in
set_option maxHeartbeats 2000000 in
theorem ok1 (x:Tr.Nd) (hx:Fd.CN x∨(x.kind=4∧x.n=0∧x.text.size≤1000)) (g c:Nat) (w:World) (h:AC w g x):Calls Tryz.prog 132 #[av g c,.int .i64 0] w fun e w'=>e = .returned (.bool true)∧Below w.heap.size w w':=by
 have HAC:=hide h
 have hq:Below w.heap.size w (w.alloc (.cells #[.slice (some ⟨g,0,none⟩) 1 c] 71)):=bA _
 have HQ:=hide hq
 have HKD:=hide (fun (w':World) (hb:Below w.heap.size w w')=>kids1 x g c w' (h.below hb))
 have HLS:=hide (fun (w':World) (hb:Below w.heap.size w w')=>last1 x g c w' (h.below hb))
 have K0:Hid ((w.alloc (.cells #[.slice (some ⟨g,0,none⟩) 1 c] 71)).cell? ⟨w.heap.size,0,none⟩=some (.slice (some ⟨g,0,none⟩) 1 c)∧w.heap.size < (w.alloc (.cells #[.slice (some ⟨g,0,none⟩) 1 c] 71)).heap.size):=hide ⟨by simp,by simp⟩
 have hk:(x.kind=1∧x.n=0∧x.text=⟨#[]⟩)∨(x.kind=2∧(x.n=0∨x.n=1)∧x.text=⟨#[]⟩)∨(x.kind=3∧x.text=⟨#[]⟩)∨(x.kind=4∧x.n=0∧x.text.size≤1000):=by
  rcases hx with hx | hx
  ·have hc:=hx.c
   unfold Fd.isC at hc
   have:x.kind=1∨x.kind=2∨x.kind=3∨x.kind=4:=by omega
   rcases this with e | e | e | e
   ·exact .inl ⟨e,hx.zero (by omega) (by omega),hx.text (by omega)⟩
   ·exact .inr (.inl ⟨e,hx.bit e,hx.text (by omega)⟩)
   ·exact .inr (.inr (.inl ⟨e,hx.text (by omega)⟩))
   ·exact .inr (.inr (.inr ⟨e,hx.zero (by omega) (by omega),hx.long⟩))
  ·exact .inr (.inr (.inr hx))
 obtain ⟨k,o,n,s,d⟩:=x
 simp only at hk
 clear h hq hx HAC
 have hcases:(k=1∧n=0∧s=⟨#[]⟩)∨(k=2∧n=0∧s=⟨#[]⟩)∨(k=2∧n=1∧s=⟨#[]⟩)∨(k=3∧s=⟨#[]⟩)∨(k=4∧n=0∧s.size≤1000):=by
  rcases hk with h | ⟨h,h2 | h2,h3⟩ | h | h
  ·exact .inl h
  ·exact .inr (.inl ⟨h,h2,h3⟩)
  ·exact .inr (.inr (.inl ⟨h,h2,h3⟩))
  ·exact .inr (.inr (.inr (.inl h)))
  ·exact .inr (.inr (.inr (.inr h)))
 clear hk
 rcases hcases with ⟨rfl,rfl,rfl⟩ | ⟨rfl,rfl,rfl⟩ | ⟨rfl,rfl,rfl⟩ | ⟨rfl,rfl⟩ | ⟨rfl,rfl,hs⟩
 all_goals
  go_enter Tryz.func132,Tryz.ntmps132
  go_wp2_with fail
  refine (HKD.out _ HQ.out).mono ?_
  rintro e w1 ⟨q,rfl,hb1⟩
  have HB1:=hide (HQ.out.trans (hb1.mono HQ.out.size))
  have k1:=(hb1.cell (p:=⟨w.heap.size,0,none⟩) K0.out.2).trans K0.out.1
  clear hb1
  go_wp2_with fail
  refine (HLS.out _ HB1.out).mono ?_
  rintro e w2 ⟨rfl,hb2⟩
  have HB2:=hide (HB1.out.trans (hb2.mono HB1.out.size))
  clear hb2 k1
  go_wp2_with fail
  first
   | (go_ret
      exact ⟨by first | rfl | exact ret_bool (decide_eq_true (by omega)),HB2.out.alloc HB2.out.size _⟩)
   | (go_loopw [9] (fun v9 wr=>v9 = .int .i64 0∧Below w.heap.size w wr) (fun _ _=>0)
      case atStart=>exact ⟨rfl,HB2.out.alloc HB2.out.size _⟩
      case round =>
       obtain ⟨rfl,hb⟩:=hrel
       go_wp2
       go_ret
       exact ⟨rfl,hb⟩)
set_option maxHeartbeats 400000 in
theorem valid1 (x:Tr.Nd) (hx:Fd.CN x∨(x.kind=4∧x.n=0∧x.text.size≤1000)) (g c:Nat) (w:World) (h:AC w g x):Calls Tryz.prog 81 #[av g c] w fun e w'=>e = .returned (.bool true)∧Below w.heap.size w w':=by
 have hq:Below w.heap.size w (w.alloc (.cells #[.slice (some ⟨g,0,none⟩) 1 c] 71)):=bA _
 have HO:=hide (ok1 x hx g c _ (h.below hq))
 clear h
 go_enter Tryz.func81,Tryz.ntmps81
 go_wp2_with fail
 refine HO.out.mono ?_
 rintro e w1 ⟨rfl,hb1⟩
 have HB:=hide (hq.trans (hb1.mono hq.size))
 clear hb1
 go_wp2
 go_ret
 exact ⟨rfl,HB.out⟩
end Go.Proofs.YthbojbbmpcmoaaaGreatDoor
