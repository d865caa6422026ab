/- Rt. -/
import Derived.Test.YtimbaebigjjkaaaGreatDoorP53
import Derived.Test.YtimbaebigjjkaaaGreatDoorP52
namespace Go.Proofs.YtimbaebigjjkaaaGreatDoor
open Go.ChangeShapes Go.WideShapes Go.ChangeAt Go.RowKit Go.ChangeMaps
theorem door_metR (os:Os) (args:Array Value):laidMetH Tryz.prog Rows.fnRenameRow.laid ((World.doorLaid Tryz.prog 147 os).forCall (fun _ _=>0) ⟨#[],args,[]⟩).memory :=
 laidMetH_of_parts3 (fuel:=8) (laidMet_of_run' 8 (by kernel_rfl) (by kernel_rfl)) (by kernel_rfl) (by kernel_rfl)
set_option maxRecDepth 100000 in
set_option maxHeartbeats 1000000 in
theorem liftedR (os:Os) (started:os.Started) (H:Type) (enc:TypeId × Value→H) :
  ReturnsInHanded {} Tryz.checked os 3 .any (fun w args=>(Rows.fnRenameSpec.pre enc Tryz.prog Tryz.f3 [] false w args∧laidMetH Tryz.prog Rows.fnRenameRow.laid w)∧sizedMet enc Tryz.prog Tryz.f3 (OpenSpec.ofChange Rows.fnRenameSpec) false w args)
   (Rows.fnRenameSpec.post enc Tryz.prog Tryz.f3 false true false false):=by
 refine returnsInHanded_of_change_and (C:=Tryz.checked) (X:=fun w _=>laidMetH Tryz.prog Rows.fnRenameRow.laid w) (fun _ _ _ hh h=>h.of_heap hh) own started (by kernel_rfl) Tryz.func3
  (ChangeSpec.witness_shaped (enc:=enc) (C:=Tryz.checked) (os:=os) (X:=fun w _=>laidMetH Tryz.prog Rows.fnRenameRow.laid w) false (World.doorLaid Tryz.prog 147 os) #[.slice none 0 0] 8 rfl (World.shaped_of_RefB (by kernel_rfl) (by kernel_rfl)) (by kernel_rfl) (by kernel_rfl) (by kernel_rfl) (door_metR os _)) ?_
 intro W a3 args ds gs a4 a1 hW _ _ hL _
 have a2:∀ (j:Nat) t v,Tryz.f3.params[j]?=some t→args[j]?=some v→Value.okWide Tryz.prog W .any a3 t v:=a1
 have hW':=hW
 obtain ⟨p,q,hA0,hV,rfl,hfz,hnd⟩:=hW
 have hA:DataW.TrodAll enc Tryz.prog W 0 (fun _=>true) true Tryz.f3.params.toList args.toList ds p:=hA0
 rw [Tryz.params3] at hA a2
 obtain ⟨v0,d0,rfl,rfl,h0⟩:=trodAll_one hA
 have hVk:DataW.TrodVars enc Tryz.prog W (fun _=>true) ["loop.example/kilnclay/impl.builtNames"] gs q:=hV
 obtain ⟨_,_,_,_,dg,_,rfl,_⟩:=trodVars_one hVk
 have h0k:=h0
 have hlt:∀ x∈p,x.block < W.heap.size:=fun x hx=>by simpa using hW'.lt x (by simp [hx])
 obtain ⟨a0,l0,c0,rfl⟩:=okWide_slice Tryz.underlying22 (a2 0 22 v0 rfl rfl)
 obtain ⟨n,hN⟩:=open_byteArg rfl h0
 have hG:=glob_of hL
 clear hA0 a1 hL
 refine (lawR_any (fun n v w h=>drawRename_below n v w h) n _ W hN hG).mono fun e W' ⟨he,hb⟩=>?_
 subst he
 exact ⟨_,rfl,[d0],[dg],_,[],p,q,hW',trodAll_mk1 (shut_bool Tryz.underlying4 _),trodAll_mk1 (Below.trod laidOut (by kernel_rfl) (of_decide_eq_true (by kernel_rfl)) h0k hb hlt),Below.trodVars laidOut hb (by kernel_rfl) hVk,hb.frame _,fun h=>by cases h⟩
theorem saidR:Rows.FnRenameSaid :=
 OpenClaim.holds_of_wide 3 Tryz.f3 rfl rfl rfl rfl rfl rfl rfl ⟨rfl,rfl,rfl,rfl,rfl⟩ rfl rfl rfl rfl rfl (by kernel_rfl) Tryz.func3 (by kernel_rfl)
  (of_decide_eq_true (by kernel_rfl)) (by unfold Func.isWrapper;first | (rw [if_pos (by decide +kernel)];kernel_rfl) | (rw [if_neg (by decide +kernel)];exact ⟨rfl,rfl⟩))
  (fun os started H enc _=>liftedR os started H enc)
theorem plainR (f:FuncId) (fn:Func) (hf:Tryz.pinned.checked.prog.funcNamed Rows.fnRenameRow.func=some f) (hfn:Tryz.pinned.checked.prog.funcs[f]?=some fn) :
  false=Tryz.pinned.checked.prog.looks []∧∀ (j:Nat) t,fn.params[j]?=some t→Tryz.pinned.checked.prog.wantsStandIn t=false:=by
 obtain rfl:f=3:=Option.some.inj ((show Tryz.prog.funcNamed Rows.fnRenameRow.func=some 3 by kernel_rfl).symm.trans hf) |>.symm
 obtain rfl:fn=Tryz.f3:=(Option.some.inj (Tryz.func3.symm.trans hfn)).symm
 refine ⟨by kernel_rfl,fun j t ht=>?_⟩
 rw [Tryz.params3] at ht
 obtain rfl:t=22:=by simpa using Array.mem_of_getElem? ht
 exact (show Tryz.prog.wantsStandIn 22=false by kernel_rfl)
theorem cardR:Rows.FnRenameCardSaid :=
 Claim7.holds_tied_plain_at .later [] _ _ _ _ saidR (fun _ h=>by cases h) (by kernel_rfl) (fun _ h=>by cases h) fnRename_row_tie rfl ⟨rfl,rfl⟩ (by kernel_rfl) rfl plainR (by kernel_rfl)
#print axioms cardR
end Go.Proofs.YtimbaebigjjkaaaGreatDoor
