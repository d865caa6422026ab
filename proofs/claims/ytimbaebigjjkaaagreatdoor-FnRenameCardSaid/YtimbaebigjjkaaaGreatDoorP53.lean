/- Ru, Gk. -/
import Derived.Test.YtimbaebigjjkaaaGreatDoorP51
import Derived.Test.YtimbaebigjjkaaaGreatDoorP52
import Derived.Test.YtimbaebigjjkaaaGreatDoorP29
import Derived.Test.YtimbaebigjjkaaaGreatDoorP30
import Derived.Test.YtimbaebigjjkaaaGreatDoorP50
import Derived.Test.YtimbaebigjjkaaaGreatDoorCards
import Derived.Test.YtimbaebigjjkaaaGreatDoorTie
import Derived.Test.YtimbaebigjjkaaaGreatDoorP02
import Derived.Test.YtimbaebigjjkaaaGreatDoorP05
import Derived.Test.YtimbaebigjjkaaaGreatDoorP39
import Derived.Deep.Slices
import Derived.ProofKit
import Derived.LaidMore
import Derived.OpenShut
import Derived.OpenVars
import Derived.Stop.Joined
import Derived.Stop.LaidErr
namespace Go.Proofs.YtimbaebigjjkaaaGreatDoor
open Go.RowKit
theorem drawRename_all [LB] (m:Nat) (v:Value) (w:World) (h:ByV w v m) (hB:lowB≤w.heap.size):Calls Tryz.prog 4 #[v] w fun e w'=>DRk w e w' :=
 drawRename_any (fun rb vb n q w h hq=>program_any rb vb n (fun gb d kd HE hk=>record_any gb rb vb n d kd HE hk) (fun gb h1 h3=>def_any gb rb vb n h1 h3) q w h hq) (fun rb vb n=>spoilN_any rb vb n) m v w h hB
theorem drawRename_below (m:Nat) (v:Value) (w:World) (h:ByV w v m):Calls Tryz.prog 4 #[v] w fun e w'=>DrawnR w e w':=by
 have key:∀ I:Inhabited Bs,@lowB I=w.heap.size→Calls Tryz.prog 4 #[v] w fun e w'=>DrawnR w e w':=fun I hI=>by
  refine (drawRename_all m v w h (by rw [hI];exact Nat.le_refl _)).mono ?_
  rintro e w' ⟨v',l,a,nm,rfl,hn,hl,hs,ha,ht⟩
  exact ⟨v',l,a,nm,rfl,hn,hl,hs,ha,⟨ht.os,ht.tape,ht.output,ht.size,fun b hb=>ht.old b hb (by rw [hI];exact hb)⟩⟩
 exact key ⟨(show Bs from w.heap.size)⟩ rfl
end Go.Proofs.YtimbaebigjjkaaaGreatDoor
namespace Go.Proofs.YtimbaebigjjkaaaGreatDoor
open Go.ChangeShapes Go.WideShapes Go.ChangeAt Go.RowKit Go.ChangeMaps
theorem own:ownKnob Tryz.prog.godebug=none:=by kernel_rfl
theorem laidOut:laidOutB Tryz.prog=true:=by kernel_rfl
theorem cellsByte:Tryz.prog.cellsOf 5=1:=by kernel_rfl
theorem cellsStr:Tryz.prog.cellsOf 9=1:=by kernel_rfl
section
variable {H:Type} {enc:TypeId × Value→H} {W:World} {sp:Nat→Bool}
set_option maxRecDepth 100000 in
theorem open_bytes {n:Nat} {v:Value} {x:DataW H × List MemPlace} (h:DataW.trod enc Tryz.prog W 0 (fun _=>true) true n 22 [v]=some x) :
  ∃ m,ByV W v m:=by
 rcases Deep.open_slice1 Tryz.underlying22 cellsByte h with ⟨hc,_⟩ | ⟨a,len,cap,m,k,V,D,Pl,hc,_,hlc,hcm,hm,_,hx⟩
 ·cases hc
  exact ⟨0,.inl ⟨none,0,rfl,rfl⟩⟩
 ·cases hc
  have hm2:m=cap:=by simpa using hm
  by_cases h0:len=0
  ·subst h0;exact ⟨0,.inl ⟨_,_,rfl,rfl⟩⟩
  ·have a0:∀ i,i < len→∃ b:Nat,b < 256∧W.cell? (a.add i)=some (.int .u8 (b:Int)):=by
    intro i hi
    obtain ⟨h1,h2⟩:=hx i (by omega)
    obtain ⟨z,e,_,hw⟩:=DataW.trod_int Tryz.underlying5 h2
    have e2:V i = .int .u8 z:=by simpa using e
    simp [Lit.wf] at hw
    have q1:(0:Int)≤z:=hw.1
    have q2:z≤255:=hw.2
    exact ⟨z.toNat,by omega,by rw [h1,e2,Int.toNat_of_nonneg q1]⟩
   obtain ⟨b0,_,c⟩:=a0 0 (by omega)
   obtain ⟨b,o,s⟩:=a
   have hs:s=none:=by
    cases s with
    | none=>rfl
    | some q =>
     simp only [Addr.add,World.cell?] at c
     split at c <;> simp at c
   subst hs
   refine ⟨len,.inr ⟨b,o,cap,rfl,by omega,by omega,?_,fun i hi=>?_⟩⟩
   ·exact World.block_lt_of_cell? W ⟨b,o,none⟩ (show W.cell? ⟨b,o,none⟩=some (.int .u8 (b0:Int)) from by simpa [Addr.add] using c)
   ·obtain ⟨k,hk,hc⟩:=a0 i hi
    rw [Xl] at hc
    exact ⟨k,hk,hc⟩
theorem open_byteArg {v0:Value} {d0:DataW H} {p:List MemPlace} (hv:v0.cells=#[v0]) (h0:DataW.Trod enc Tryz.prog W 0 (fun _=>true) true 22 v0 d0 p) :
  ∃ m,ByV W v0 m:=by
 obtain ⟨fuel,hf⟩:=h0
 rw [hv] at hf
 exact open_bytes hf
end
theorem gBuilt:Tryz.prog.globalNamed "loop.example/kilnclay/impl.builtNames"=some 0:=by kernel_rfl
theorem tBuilt:(Tryz.prog.globals[0]?).map (·.type)=some 121:=by kernel_rfl
theorem lit_built:Rows.laid_loop_example_kilnclay_impl_builtNames=DataW.agg (H:=Unit) (builtBA.map fun b => .lit (.string b.data.toList)):=rfl
theorem glob_of {W:World} (h:laidMetH Tryz.prog [("loop.example/kilnclay/impl.builtNames",Rows.laid_loop_example_kilnclay_impl_builtNames)] W):GlobB W:=by
 rw [MakeChecks.laidMetH_plain _ _ _ (by kernel_rfl)] at h
 obtain ⟨ps,⟨g0,t0,cs0,f0,p0,q0,hg0,ht0,hv0,hd0,_,e0⟩,_,hrows⟩:=h
 obtain rfl:=Option.some.inj (gBuilt.symm.trans hg0)
 obtain rfl:=Option.some.inj (tBuilt.symm.trans ht0)
 rw [lit_built] at hd0
 obtain ⟨xs,m,_,hx,hl,hxl,a1⟩:=DataW.trod_array Tryz.underlying121 hd0
 have a3:builtBA.map (fun b=>(DataW.lit (.string b.data.toList):DataW Unit))=xs.map (·.1):=by
  have:=congrArg Prod.fst hx
  injection this
 have a0:∀ j (h:j < builtBA.length),W.cell? ⟨0,j,none⟩=some (.string builtBA[j]):=by
  intro j hj
  have a2:j < 15:=hj
  have hq:=a1 j a2
  rw [cellsStr,Nat.mul_one,List.getElem?_eq_getElem (by omega)] at hq
  obtain ⟨s,hs,hxs,_⟩:=DataW.trod_string Tryz.underlying9 hq
  have hm:(builtBA.map (fun b=>(DataW.lit (.string b.data.toList):DataW Unit)))[j]?=(xs.map (·.1))[j]?:=by rw [a3]
  rw [List.getElem?_map,List.getElem?_map,List.getElem?_eq_getElem hj,List.getElem?_eq_getElem (by omega),hxs] at hm
  have hb:builtBA[j]'hj=s:=by
   simp only [Option.map_some,Option.some.injEq,DataW.lit.injEq,Lit.string.injEq] at hm
   exact ByteArray.ext (Array.toList_inj.1 hm)
  rw [World.var?_cell gBuilt hv0 j,hb]
  have h1:((cs0.toList.drop j).take 1)[0]?=some (.string s):=by rw [hs];rfl
  rw [List.getElem?_take,if_pos (by omega),List.getElem?_drop,Nat.add_zero] at h1
  simpa using h1
 exact ⟨World.block_lt_of_cell? W ⟨0,0,none⟩ (a0 0 (by decide)),a0⟩
end Go.Proofs.YtimbaebigjjkaaaGreatDoor
