/- Tkp. -/
import Derived.Test.YtbckhbeebngjfaaGreatDoorCards
import Derived.Test.YtbckhbeebngjfaaGreatDoorTie
import Derived.Test.YtbckhbeebngjfaaGreatDoorT22
import Derived.Test.YtbckhbeebngjfaaGreatDoorT49
import Derived.Deep.Slices
import Derived.ProofKit
import Derived.LaidMore
import Derived.OpenShut
import Derived.OpenVars
import Derived.Stop.Joined
import Derived.Stop.LaidErr
namespace Go.Proofs.YtbckhbeebngjfaaGreatDoor
open Go.ChangeShapes Go.WideShapes Go.ChangeAt Go.RowKit Go.ChangeMaps
theorem own:ownKnob Tryz.prog.godebug=none:=by kernel_rfl
theorem laidOut:laidOutB Tryz.prog=true:=by kernel_rfl
theorem cellsByte:Tryz.prog.cellsOf 5=1:=by kernel_rfl
section
variable {H:Type} {enc:TypeId × Value→H} {W:World} {sp:Nat→Bool}
set_option maxRecDepth 100000 in
theorem open_bytes {n:Nat} {v:Value} {x:DataW H × List MemPlace} (h:DataW.trod enc Tryz.prog W 0 (fun _=>true) true n 22 [v]=some x) :
  ∃ m,ByV W v m:=by
 rcases Deep.open_slice1 Tryz.underlying22 cellsByte h with ⟨hc,_⟩ | ⟨a,len,cap,m,k,V,D,Pl,hc,_,hlc,hcm,hm,_,hx⟩
 ·cases hc
  exact ⟨0,.inl ⟨none,0,rfl,rfl⟩⟩
 ·cases hc
  have hm2:m=cap:=by simpa using hm
  by_cases h0:len=0
  ·subst h0;exact ⟨0,.inl ⟨_,_,rfl,rfl⟩⟩
  ·have each:∀ i,i < len→∃ b:Nat,b < 256∧W.cell? (a.add i)=some (.int .u8 (b:Int)):=by
    intro i hi
    obtain ⟨h1,h2⟩:=hx i (by omega)
    obtain ⟨z,e,_,hw⟩:=DataW.trod_int Tryz.underlying5 h2
    have e2:V i = .int .u8 z:=by simpa using e
    simp [Lit.wf] at hw
    have q1:(0:Int)≤z:=hw.1
    have q2:z≤255:=hw.2
    exact ⟨z.toNat,by omega,by rw [h1,e2,Int.toNat_of_nonneg q1]⟩
   obtain ⟨b0,_,hc0⟩:=each 0 (by omega)
   obtain ⟨b,o,s⟩:=a
   have hs:s=none:=by
    cases s with
    | none=>rfl
    | some q =>
     simp only [Addr.add,World.cell?] at hc0
     split at hc0 <;> simp at hc0
   subst hs
   refine ⟨len,.inr ⟨b,o,cap,rfl,by omega,by omega,?_,fun i hi=>?_⟩⟩
   ·exact World.block_lt_of_cell? W ⟨b,o,none⟩ (show W.cell? ⟨b,o,none⟩=some (.int .u8 (b0:Int)) from by simpa [Addr.add] using hc0)
   ·obtain ⟨k,hk,hc⟩:=each i hi
    rw [add_plainP] at hc
    exact ⟨k,hk,hc⟩
theorem open_byteArg {v0:Value} {d0:DataW H} {p:List MemPlace} (hv:v0.cells=#[v0]) (h0:DataW.Trod enc Tryz.prog W 0 (fun _=>true) true 22 v0 d0 p) :
  ∃ m,ByV W v0 m:=by
 obtain ⟨fuel,hf⟩:=h0
 rw [hv] at hf
 exact open_bytes hf
end
theorem iface_cell {P:Program} {n nm:String} {d:DataW Unit} {r:List (String × DataW Unit)} {W:World} {g:Nat} {ti:TypeId} {ms:Array (String × TypeId)}
  (h:laidMet P ((n,.iface nm d) :: r) W) (hg:P.globalNamed n=some g) (ht:(P.globals[g]?).map (·.type)=some ti) (hi:P.underlying ti=some (.interface ms)) :
  ∃ u v,W.cell? ⟨g,0,none⟩=some (.iface u v):=by
 obtain ⟨ps,⟨g0,t0,cs0,f0,p0,q0,hg0,ht0,hv0,hd0,_,e0⟩,_,hrows⟩:=h
 obtain rfl:=Option.some.inj (hg.symm.trans hg0)
 obtain rfl:=Option.some.inj (ht.symm.trans ht0)
 obtain ⟨f1,u,v,hcs,_,_⟩:=iface_of_trod hi hd0
 refine ⟨u,v,?_⟩
 have:=World.var?_cell hg0 hv0 0
 rw [Array.eq_one_of_toList hcs] at this
 simpa using this
theorem gRange:Tryz.prog.globalNamed "strconv.ErrRange"=some 2:=by kernel_rfl
theorem gSyntax:Tryz.prog.globalNamed "strconv.ErrSyntax"=some 1:=by kernel_rfl
theorem tRange:(Tryz.prog.globals[2]?).map (·.type)=some 106:=by kernel_rfl
theorem tSyntax:(Tryz.prog.globals[1]?).map (·.type)=some 106:=by kernel_rfl
theorem glob_of {W:World} (h:laidMetH Tryz.prog Rows.fnTokensRow.laid W):Glob W:=by
 rw [MakeChecks.laidMetH_plain _ _ _ (by kernel_rfl)] at h
 have h3:=h.tail.tail.tail
 obtain ⟨u2,v2,c2⟩:=iface_cell h3 gRange tRange Tryz.underlying106
 obtain ⟨u1,v1,c1⟩:=iface_cell h3.tail gSyntax tSyntax Tryz.underlying106
 exact ⟨⟨u1,v1,c1⟩,⟨u2,v2,c2⟩,World.block_lt_of_cell? W ⟨2,0,none⟩ c2⟩
theorem door_met (os:Os) (args:Array Value):laidMetH Tryz.prog Rows.fnTokensRow.laid ((World.doorLaid Tryz.prog 158 os).forCall (fun _ _=>0) ⟨#[],args,[]⟩).memory :=
 laidMetH_of_parts3 (fuel:=8) (laidMet_of_run' 8 (by kernel_rfl) (by kernel_rfl)) (by kernel_rfl) (by kernel_rfl)
set_option maxRecDepth 100000 in
set_option maxHeartbeats 1000000 in
theorem liftedT (os:Os) (started:os.Started) (H:Type) (enc:TypeId × Value→H) :
  ReturnsInHanded {} Tryz.checked os 3 .any (fun w args=>(Rows.fnTokensSpec.pre enc Tryz.prog Tryz.f3 [] false w args∧laidMetH Tryz.prog Rows.fnTokensRow.laid w)∧sizedMet enc Tryz.prog Tryz.f3 (OpenSpec.ofChange Rows.fnTokensSpec) false w args)
   (Rows.fnTokensSpec.post enc Tryz.prog Tryz.f3 false true false false):=by
 refine returnsInHanded_of_change_and (C:=Tryz.checked) (X:=fun w _=>laidMetH Tryz.prog Rows.fnTokensRow.laid w) (fun _ _ _ hh h=>h.of_heap hh) own started (by kernel_rfl) Tryz.func3
  (ChangeSpec.witness_shaped (enc:=enc) (C:=Tryz.checked) (os:=os) (X:=fun w _=>laidMetH Tryz.prog Rows.fnTokensRow.laid w) false (World.doorLaid Tryz.prog 158 os) #[.slice none 0 0] 8 rfl (World.shaped_of_RefB (by kernel_rfl) (by kernel_rfl)) (by kernel_rfl) (by kernel_rfl) (by kernel_rfl) (door_met os _)) ?_
 intro W base args ds gs before hval0 hW _ _ hL _
 have hval:∀ (j:Nat) t v,Tryz.f3.params[j]?=some t→args[j]?=some v→Value.okWide Tryz.prog W .any base t v:=hval0
 have hW':=hW
 obtain ⟨p,q,hA0,hV,rfl,hfz,hnd⟩:=hW
 have hA:DataW.TrodAll enc Tryz.prog W 0 (fun _=>true) true Tryz.f3.params.toList args.toList ds p:=hA0
 rw [Tryz.params3] at hA hval
 obtain ⟨v0,d0,rfl,rfl,h0⟩:=trodAll_one hA
 obtain ⟨rfl,rfl⟩:=trodVars_none hV
 have h0k:=h0
 have hlt:∀ x∈p,x.block < W.heap.size:=fun x hx=>by simpa using hW'.lt x (by simp [hx])
 obtain ⟨a0,l0,c0,rfl⟩:=okWide_slice Tryz.underlying22 (hval 0 22 v0 rfl rfl)
 obtain ⟨n,hN⟩:=open_byteArg rfl h0
 have hG:=glob_of hL
 clear hA0 hval0 hL
 refine (lawT_any (fun n v w h=>drawScan_below n v w h) n _ W hN hG).mono fun e W' ⟨he,hb⟩=>?_
 subst he
 exact ⟨_,rfl,[d0],[],_,[],p,[],hW',trodAll_mk1 (shut_bool Tryz.underlying4 _),trodAll_mk1 (Below.trod laidOut (by kernel_rfl) (of_decide_eq_true (by kernel_rfl)) h0k hb hlt),rfl,hb.frame _,fun h=>by cases h⟩
theorem saidT:Rows.FnTokensSaid :=
 OpenClaim.holds_of_wide 3 Tryz.f3 rfl rfl rfl rfl rfl rfl rfl ⟨rfl,rfl,rfl,rfl,rfl⟩ rfl rfl rfl rfl rfl (by kernel_rfl) Tryz.func3 (by kernel_rfl)
  (of_decide_eq_true (by kernel_rfl)) (by unfold Func.isWrapper;first | (rw [if_pos (by decide +kernel)];kernel_rfl) | (rw [if_neg (by decide +kernel)];exact ⟨rfl,rfl⟩))
  (fun os started H enc _=>liftedT os started H enc)
theorem plainT (f:FuncId) (fn:Func) (hf:Tryz.pinned.checked.prog.funcNamed Rows.fnTokensRow.func=some f) (hfn:Tryz.pinned.checked.prog.funcs[f]?=some fn) :
  true=Tryz.pinned.checked.prog.looks []∧∀ (j:Nat) t,fn.params[j]?=some t→Tryz.pinned.checked.prog.wantsStandIn t=false:=by
 obtain rfl:f=3:=Option.some.inj ((show Tryz.prog.funcNamed Rows.fnTokensRow.func=some 3 by kernel_rfl).symm.trans hf) |>.symm
 obtain rfl:fn=Tryz.f3:=(Option.some.inj (Tryz.func3.symm.trans hfn)).symm
 refine ⟨by kernel_rfl,fun j t ht=>?_⟩
 rw [Tryz.params3] at ht
 obtain rfl:t=22:=by simpa using Array.mem_of_getElem? ht
 exact (show Tryz.prog.wantsStandIn 22=false by kernel_rfl)
theorem cardT:Rows.FnTokensCardSaid :=
 Claim7.holds_tied_plain_at .later [] _ _ _ _ saidT (fun _ h=>by cases h) (by kernel_rfl) (fun _ h=>by cases h) fnTokens_row_tie rfl ⟨rfl,rfl⟩ (by kernel_rfl) rfl plainT (by kernel_rfl)
#print axioms cardT
end Go.Proofs.YtbckhbeebngjfaaGreatDoor
