/- Ha, Hb. -/
import Derived.Test.YtbckhbeebngjfaaGreatDoorT03
namespace Go.Proofs.YtbckhbeebngjfaaGreatDoor
structure Pr.Dk where
 p:Nat
 bad:Bool
 place:Nat
 out:List Tr.Nd
def Pr.tok (ts:List Sc.T) (sz:Nat) (s:Pr.Dk):Sc.T:=ts[s.p]?.getD ⟨0,[],0,sz⟩
def Pr.adv (s:Pr.Dk):Pr.Dk:={s with p:=s.p+1}
def Pr.put (s:Pr.Dk) (k o n:Int) (t:List UInt8) (c:Nat):Pr.Dk:={s with out:=s.out++[⟨k,o,n,⟨t.toArray⟩,c⟩]}
def Pr.stop (ts:List Sc.T) (sz:Nat) (s:Pr.Dk):Pr.Dk:=if s.bad then s else {s with bad:=true,place:=(Pr.tok ts sz s).place}
def Pr.is (ts:List Sc.T) (sz:Nat) (s:Pr.Dk) (t:List UInt8):Bool:=!s.bad && ((Pr.tok ts sz s).kind == 2 || (Pr.tok ts sz s).kind == 5) && (Pr.tok ts sz s).text == t
def Pr.take (ts:List Sc.T) (sz:Nat) (s:Pr.Dk) (t:List UInt8):Pr.Dk:=if Pr.is ts sz s t then Pr.adv s else s
def Pr.need (ts:List Sc.T) (sz:Nat) (s:Pr.Dk) (t:List UInt8):Pr.Dk:=if Pr.is ts sz s t then Pr.adv s else Pr.stop ts sz s
def Pr.isName (ts:List Sc.T) (sz:Nat) (s:Pr.Dk):Bool:=!s.bad && (Pr.tok ts sz s).kind == 1
def Pr.nameT (ts:List Sc.T) (sz:Nat) (s:Pr.Dk):List UInt8:=if Pr.isName ts sz s then (Pr.tok ts sz s).text else []
def Pr.name (ts:List Sc.T) (sz:Nat) (s:Pr.Dk):Pr.Dk:=if Pr.isName ts sz s then Pr.adv s else Pr.stop ts sz s
def Pr.mark (op:Nat):List UInt8:=([[],[111,114],[97,110,100],[61,61],[33,61],[60],[60,61],[62],[62,61],[104,97,115],[43],[45],[42],[47],[37]]:List (List UInt8))[op]?.getD []
def Pr.rank (op:Nat):Nat:=if op≤2 then op else if op≤9 then 4 else if op≤11 then 5 else 6
def Pr.opFrom (ts:List Sc.T) (sz:Nat) (s:Pr.Dk) (r:Nat):Nat→Nat→Nat
 | 0,_=>0
 | f+1,o=>if Pr.rank o == r && Pr.is ts sz s (Pr.mark o) then o else Pr.opFrom ts sz s r f (o+1)
def Pr.op (ts:List Sc.T) (sz:Nat) (s:Pr.Dk) (r:Nat):Nat:=Pr.opFrom ts sz s r 14 1
def Pr.named (ts:List Sc.T) (sz:Nat) (s:Pr.Dk):Bool:=(Pr.tok ts sz s).kind == 1 && decide (s.p+1 < ts.length) && (Pr.tok ts sz (Pr.adv s)).kind == 5 && (Pr.tok ts sz (Pr.adv s)).text == [61]
structure Pr.Cmd where
 mk ::
 (t n:Nat)
 (b:Bool)
abbrev Pr.Cmd.e:Pr.Cmd:=⟨0,0,false⟩
abbrev Pr.Cmd.params:Pr.Cmd:=⟨1,0,false⟩
abbrev Pr.Cmd.paramsL (n:Nat):Pr.Cmd:=⟨2,n,false⟩
abbrev Pr.Cmd.ops (r:Nat):Pr.Cmd:=⟨3,r,false⟩
abbrev Pr.Cmd.opsL (r:Nat):Pr.Cmd:=⟨4,r,false⟩
abbrev Pr.Cmd.post:Pr.Cmd:=⟨5,0,false⟩
abbrev Pr.Cmd.postL:Pr.Cmd:=⟨6,0,false⟩
abbrev Pr.Cmd.args:Pr.Cmd:=⟨7,0,false⟩
abbrev Pr.Cmd.argsL (n:Nat) (nm:Bool):Pr.Cmd:=⟨8,n,nm⟩
abbrev Pr.Cmd.list:Pr.Cmd:=⟨9,0,false⟩
abbrev Pr.Cmd.listL (n:Nat):Pr.Cmd:=⟨10,n,false⟩
abbrev Pr.Cmd.record:Pr.Cmd:=⟨11,0,false⟩
abbrev Pr.Cmd.recordL (n:Nat):Pr.Cmd:=⟨12,n,false⟩
abbrev Pr.Cmd.single:Pr.Cmd:=⟨13,0,false⟩
abbrev Pr.Cmd.loadL (n:Nat):Pr.Cmd:=⟨14,n,false⟩
abbrev Pr.Cmd.statement:Pr.Cmd:=⟨15,0,false⟩
abbrev Pr.Cmd.fileL (n:Nat):Pr.Cmd:=⟨16,n,false⟩
theorem Pr.Cmd.elim {m:Pr.Cmd→Prop} (e:∀n b,m ⟨0,n,b⟩) (params:∀n b,m ⟨1,n,b⟩) (paramsL:∀n b,m ⟨2,n,b⟩) (ops:∀n b,m ⟨3,n,b⟩) (opsL:∀n b,m ⟨4,n,b⟩) (post:∀n b,m ⟨5,n,b⟩) (postL:∀n b,m ⟨6,n,b⟩) (args:∀n b,m ⟨7,n,b⟩) (argsL:∀n b,m ⟨8,n,b⟩) (list:∀n b,m ⟨9,n,b⟩) (listL:∀n b,m ⟨10,n,b⟩) (record:∀n b,m ⟨11,n,b⟩) (recordL:∀n b,m ⟨12,n,b⟩) (single:∀n b,m ⟨13,n,b⟩) (loadL:∀n b,m ⟨14,n,b⟩) (statement:∀n b,m ⟨15,n,b⟩) (fileL:∀n t b,m ⟨t+16,n,b⟩) (c:Pr.Cmd):m c:=by
 obtain ⟨t,n,b⟩:=c
 match t with
 | 0=>exact e n b
 | 1=>exact params n b
 | 2=>exact paramsL n b
 | 3=>exact ops n b
 | 4=>exact opsL n b
 | 5=>exact post n b
 | 6=>exact postL n b
 | 7=>exact args n b
 | 8=>exact argsL n b
 | 9=>exact list n b
 | 10=>exact listL n b
 | 11=>exact record n b
 | 12=>exact recordL n b
 | 13=>exact single n b
 | 14=>exact loadL n b
 | 15=>exact statement n b
 | t+16=>exact fileL n t b
def Pr.sLet:List UInt8:=[108,101,116]
def Pr.sIn:List UInt8:=[105,110]
def Pr.sIf:List UInt8:=[105,102]
def Pr.sThen:List UInt8:=[116,104,101,110]
def Pr.sElse:List UInt8:=[101,108,115,101]
def Pr.sFn:List UInt8:=[102,110]
def Pr.sNot:List UInt8:=[110,111,116]
def Pr.sFor:List UInt8:=[102,111,114]
def Pr.sNone:List UInt8:=[110,111,110,101]
def Pr.sFalse:List UInt8:=[102,97,108,115,101]
def Pr.sTrue:List UInt8:=[116,114,117,101]
def Pr.sDef:List UInt8:=[100,101,102]
def Pr.sEmit:List UInt8:=[101,109,105,116]
def Pr.sLoad:List UInt8:=[108,111,97,100]
section
variable (ts:List Sc.T) (sz:Nat)
def Pr.pe:Nat→Pr.Cmd→Pr.Dk→Pr.Dk × Nat
 | 0,_,s=>(s,0)
 | f+1,⟨0,_,_⟩,s =>
  if Pr.is ts sz s Pr.sLet then
   let s1:=(Pr.pe f .e (Pr.need ts sz (Pr.name ts sz (Pr.adv s)) [61])).1
   let s2:=(Pr.pe f .e (Pr.need ts sz s1 Pr.sIn)).1
   (Pr.put s2 14 0 0 (Pr.nameT ts sz (Pr.adv s)) 2,0)
  else if Pr.is ts sz s Pr.sIf then
   let s1:=(Pr.pe f .e (Pr.adv s)).1
   let s2:=(Pr.pe f .e (Pr.need ts sz s1 Pr.sThen)).1
   let s3:=(Pr.pe f .e (Pr.need ts sz s2 Pr.sElse)).1
   (Pr.put s3 13 0 0 [] 3,0)
  else if Pr.is ts sz s Pr.sFn then
   let r1:=Pr.pe f .params (Pr.adv s)
   let s2:=(Pr.pe f .e (Pr.need ts sz r1.1 [61,62])).1
   (Pr.put s2 15 0 0 [] (r1.2+1),0)
  else Pr.pe f (.ops 1) s
 | f+1,⟨1,_,_⟩,s =>
  let r:=Pr.pe f (.paramsL 0) (Pr.need ts sz s [40])
  (Pr.need ts sz r.1 [41],r.2)
 | f+1,⟨2,n,_⟩,s =>
  if s.bad then (s,n)
  else if n == 0 && Pr.is ts sz s [41] then (s,n)
  else
   let s1:=Pr.name ts sz s
   let s2:=if Pr.is ts sz s1 [61] then (Pr.pe f .e (Pr.adv s1)).1 else s1
   let s3:=Pr.put s2 19 0 0 (Pr.nameT ts sz s) (if Pr.is ts sz s1 [61] then 1 else 0)
   if Pr.is ts sz s3 [44] then Pr.pe f (.paramsL (n+1)) (Pr.adv s3) else (s3,n+1)
 | f+1,⟨3,r,_⟩,s =>
  if s.bad then (s,0)
  else if r == 3 then
   if Pr.is ts sz s Pr.sNot then
    let s1:=(Pr.pe f (.ops 3) (Pr.adv s)).1
    (Pr.put s1 6 1 0 [] 1,0)
   else Pr.pe f (.ops 4) s
  else if r == 7 then
   if Pr.is ts sz s [45] then
    let s1:=(Pr.pe f (.ops 7) (Pr.adv s)).1
    (Pr.put s1 6 2 0 [] 1,0)
   else Pr.pe f .post s
  else
   let s1:=(Pr.pe f (.ops (r+1)) s).1
   Pr.pe f (.opsL r) s1
 | f+1,⟨4,r,_⟩,s =>
  if Pr.op ts sz s r == 0 then (s,0)
  else
   let s1:=(Pr.pe f (.ops (r+1)) (Pr.adv s)).1
   let s2:=Pr.put s1 7 (Pr.op ts sz s r) 0 [] 2
   if r == 4 then (s2,0) else Pr.pe f (.opsL r) s2
 | f+1,⟨5,_,_⟩,s=>Pr.pe f .postL (Pr.pe f .single s).1
 | f+1,⟨6,_,_⟩,s =>
  if s.bad then (s,0)
  else if Pr.is ts sz s [40] then
   let r:=Pr.pe f .args (Pr.adv s)
   Pr.pe f .postL (Pr.put r.1 12 0 0 [] (1+r.2))
  else if Pr.is ts sz s [91] then
   let s1:=(Pr.pe f .e (Pr.adv s)).1
   Pr.pe f .postL (Pr.put (Pr.need ts sz s1 [93]) 10 0 0 [] 2)
  else if Pr.is ts sz s [46] then
   Pr.pe f .postL (Pr.put (Pr.name ts sz (Pr.adv s)) 11 0 0 (Pr.nameT ts sz (Pr.adv s)) 1)
  else (s,0)
 | f+1,⟨7,_,_⟩,s =>
  let r:=Pr.pe f (.argsL 0 false) s
  (Pr.need ts sz r.1 [41],r.2)
 | f+1,⟨8,n,nm⟩,s =>
  if s.bad then (s,n)
  else if n == 0 && Pr.is ts sz s [41] then (s,n)
  else
   let b:=nm || Pr.named ts sz s
   let s1:=if b then Pr.put (Pr.pe f .e (Pr.need ts sz (Pr.name ts sz s) [61])).1 18 0 0 (Pr.nameT ts sz s) 1 else (Pr.pe f .e s).1
   if Pr.is ts sz s1 [44] then Pr.pe f (.argsL (n+1) b) (Pr.adv s1) else (s1,n+1)
 | f+1,⟨9,_,_⟩,s =>
  if Pr.is ts sz s [93] then (Pr.put (Pr.adv s) 8 0 0 [] 0,0)
  else
   let s1:=(Pr.pe f .e s).1
   if Pr.is ts sz s1 Pr.sFor then
    let s2:={Pr.adv s1 with out:=s1.out.take s.out.length}
    let s3:=(Pr.pe f .e (Pr.need ts sz (Pr.name ts sz s2) Pr.sIn)).1
    let s4:={s3 with out:=s3.out++s1.out.drop s.out.length}
    let s5:=if Pr.is ts sz s4 Pr.sIf then (Pr.pe f .e (Pr.adv s4)).1 else s4
    (Pr.put (Pr.need ts sz s5 [93]) 16 0 0 (Pr.nameT ts sz s2) (if Pr.is ts sz s4 Pr.sIf then 3 else 2),0)
   else
    let r:=Pr.pe f (.listL 1) s1
    (Pr.put (Pr.need ts sz r.1 [93]) 8 0 0 [] r.2,0)
 | f+1,⟨10,n,_⟩,s =>
  if Pr.is ts sz s [44] then Pr.pe f (.listL (n+1)) (Pr.pe f .e (Pr.adv s)).1 else (s,n)
 | f+1,⟨11,_,_⟩,s =>
  let r:=Pr.pe f (.recordL 0) s
  (if r.2 % 2 == 1 then r.1 else Pr.put (Pr.need ts sz r.1 [125]) 9 0 0 [] (r.2 / 2),0)
 | f+1,⟨12,n,_⟩,s =>
  if s.bad then (s,2 * n)
  else if n == 0 && Pr.is ts sz s [125] then (s,2 * n)
  else if (Pr.tok ts sz s).kind == 1 || (Pr.tok ts sz s).kind == 4 then
   let s1:=(Pr.pe f .e (Pr.need ts sz (Pr.adv s) [58])).1
   let s2:=Pr.put s1 17 0 0 (Pr.tok ts sz s).text 1
   if Pr.is ts sz s2 [44] then Pr.pe f (.recordL (n+1)) (Pr.adv s2) else (s2,2*(n+1))
  else (Pr.stop ts sz s,2 * n+1)
 | f+1,⟨13,_,_⟩,s =>
  if s.bad then (s,0)
  else if (Pr.tok ts sz s).kind == 3 then (Pr.put (Pr.adv s) 3 0 (Pr.tok ts sz s).n [] 0,0)
  else if (Pr.tok ts sz s).kind == 4 then (Pr.put (Pr.adv s) 4 0 0 (Pr.tok ts sz s).text 0,0)
  else if (Pr.tok ts sz s).kind == 1 then (Pr.put (Pr.adv s) 5 0 0 (Pr.tok ts sz s).text 0,0)
  else if Pr.is ts sz s Pr.sNone then (Pr.put (Pr.adv s) 1 0 0 [] 0,0)
  else if Pr.is ts sz s Pr.sFalse then (Pr.put (Pr.adv s) 2 0 0 [] 0,0)
  else if Pr.is ts sz s Pr.sTrue then (Pr.put (Pr.adv s) 2 0 1 [] 0,0)
  else if Pr.is ts sz s [91] then Pr.pe f .list (Pr.adv s)
  else if Pr.is ts sz s [123] then Pr.pe f .record (Pr.adv s)
  else if Pr.is ts sz s [40] then (Pr.need ts sz (Pr.pe f .e (Pr.adv s)).1 [41],0)
  else (Pr.stop ts sz s,0)
 | f+1,⟨14,n,_⟩,s =>
  if s.bad then (s,n)
  else
   let s1:=Pr.put (Pr.name ts sz s) 5 0 0 (Pr.nameT ts sz s) 0
   if Pr.is ts sz s1 [44] then Pr.pe f (.loadL (n+1)) (Pr.adv s1) else (s1,n+1)
 | f+1,⟨15,_,_⟩,s =>
  if Pr.is ts sz s Pr.sDef then
   let s1:=Pr.name ts sz (Pr.adv s)
   let r:=Pr.pe f .params s1
   let s2:=(Pr.pe f .e (Pr.need ts sz r.1 [61])).1
   (Pr.need ts sz (Pr.put s2 20 0 0 (Pr.nameT ts sz (Pr.adv s)) (r.2+1)) [59],0)
  else if Pr.is ts sz s Pr.sLet then
   let s2:=(Pr.pe f .e (Pr.need ts sz (Pr.name ts sz (Pr.adv s)) [61])).1
   (Pr.need ts sz (Pr.put s2 21 0 0 (Pr.nameT ts sz (Pr.adv s)) 1) [59],0)
  else if Pr.is ts sz s Pr.sEmit then
   (Pr.need ts sz (Pr.put (Pr.pe f .e (Pr.adv s)).1 22 0 0 [] 1) [59],0)
  else if Pr.is ts sz s Pr.sLoad then
   if (Pr.tok ts sz (Pr.adv s)).kind == 4 then
    let r:=Pr.pe f (.loadL 0) (Pr.need ts sz (Pr.adv (Pr.adv s)) [58])
    (Pr.need ts sz (Pr.put r.1 23 0 0 (Pr.tok ts sz (Pr.adv s)).text r.2) [59],0)
   else (Pr.stop ts sz (Pr.adv s),0)
  else (Pr.need ts sz (Pr.stop ts sz s) [59],0)
 | f+1,⟨_+16,n,_⟩,s =>
  if s.bad || decide (ts.length≤s.p) then (s,n)
  else Pr.pe f (.fileL (n+1)) (Pr.pe f .statement s).1
def Pr.Cv (c:Pr.Cmd) (s:Pr.Dk) (r:Pr.Dk × Nat):Prop:=∃ f0,∀ f,f0≤f→Pr.pe ts sz f c s=r
end
def Pr.extra:Pr.Cmd→Nat
 | ⟨1,_,_⟩=>1 | ⟨2,_,_⟩=>1 | ⟨7,_,_⟩=>1 | ⟨8,_,_⟩=>1 | ⟨9,_,_⟩=>1 | ⟨11,_,_⟩=>1 | ⟨14,_,_⟩=>1
 | _=>0
def Pr.cnt:Pr.Cmd→Nat
 | ⟨2,n,_⟩=>n | ⟨8,n,_⟩=>n | ⟨10,n,_⟩=>n | ⟨12,n,_⟩=>n | ⟨14,n,_⟩=>n | ⟨_+16,n,_⟩=>n
 | _=>0
structure Pr.Stp (ts:List Sc.T) (s r:Pr.Dk) (x:Int):Prop where
 ge:s.p≤r.p
 le:r.p≤ts.length
 more:s.out.length≤r.out.length
 most:(r.out.length:Int)≤s.out.length+4*((r.p:Int) - s.p)+x
section
variable {ts:List Sc.T} {sz:Nat}
theorem Pr.tok_lt {s:Pr.Dk} (h:(Pr.tok ts sz s).kind≠0):s.p < ts.length:=by
 unfold Pr.tok at h
 by_cases hp:s.p < ts.length
 ·exact hp
 ·rw [List.getElem?_eq_none (by omega)] at h;simp at h
theorem Pr.is_lt {s:Pr.Dk} {t:List UInt8} (h:Pr.is ts sz s t=true):s.p < ts.length:=by
 apply Pr.tok_lt (sz:=sz)
 unfold Pr.is at h
 simp only [Bool.and_eq_true,Bool.or_eq_true,beq_iff_eq] at h
 omega
theorem Pr.isName_lt {s:Pr.Dk} (h:Pr.isName ts sz s=true):s.p < ts.length:=by
 apply Pr.tok_lt (sz:=sz)
 unfold Pr.isName at h
 simp only [Bool.and_eq_true,beq_iff_eq] at h
 omega
theorem Pr.opFrom_lt {s:Pr.Dk} {r:Nat}:∀ (f o:Nat),Pr.opFrom ts sz s r f o≠0→s.p < ts.length
 | 0,_,h=>by simp [Pr.opFrom] at h
 | f+1,o,h=>by
  unfold Pr.opFrom at h
  split at h
  ·rename_i hh;simp only [Bool.and_eq_true] at hh;exact Pr.is_lt hh.2
  ·exact Pr.opFrom_lt f _ h
theorem Pr.stop_p (s:Pr.Dk):(Pr.stop ts sz s).p=s.p:=by unfold Pr.stop;split <;> rfl
theorem Pr.stop_out (s:Pr.Dk):(Pr.stop ts sz s).out=s.out:=by unfold Pr.stop;split <;> rfl
theorem Pr.need_out (s:Pr.Dk) (t:List UInt8):(Pr.need ts sz s t).out=s.out:=by unfold Pr.need;split;rfl;exact Pr.stop_out s
theorem Pr.name_out (s:Pr.Dk):(Pr.name ts sz s).out=s.out:=by unfold Pr.name;split;rfl;exact Pr.stop_out s
theorem Pr.need_ge (s:Pr.Dk) (t:List UInt8):s.p≤(Pr.need ts sz s t).p:=by unfold Pr.need;split;exact Nat.le_succ _;exact Nat.le_of_eq (Pr.stop_p s).symm
theorem Pr.need_le (s:Pr.Dk) (t:List UInt8) (h:s.p≤ts.length):(Pr.need ts sz s t).p≤ts.length:=by
 unfold Pr.need;split
 ·rename_i hh;exact Pr.is_lt hh
 ·rw [Pr.stop_p];exact h
theorem Pr.name_ge (s:Pr.Dk):s.p≤(Pr.name ts sz s).p:=by unfold Pr.name;split;exact Nat.le_succ _;exact Nat.le_of_eq (Pr.stop_p s).symm
theorem Pr.name_le (s:Pr.Dk) (h:s.p≤ts.length):(Pr.name ts sz s).p≤ts.length:=by
 unfold Pr.name;split
 ·rename_i hh;exact Pr.isName_lt hh
 ·rw [Pr.stop_p];exact h
theorem Pr.name_gt {s:Pr.Dk} {t:List UInt8} (h:Pr.is ts sz (Pr.name ts sz s) t=true):(Pr.name ts sz s).p=s.p+1:=by
 unfold Pr.name at h ⊢
 split
 ·rfl
 ·rename_i hh
  rw [if_neg hh] at h
  exfalso
  have hb:(Pr.stop ts sz s).bad=true:=by unfold Pr.stop;split;assumption;rfl
  unfold Pr.is at h
  rw [hb] at h
  simp at h
@[simp] theorem Pr.adv_p (s:Pr.Dk):(Pr.adv s).p=s.p+1:=rfl
@[simp] theorem Pr.adv_out (s:Pr.Dk):(Pr.adv s).out=s.out:=rfl
@[simp] theorem Pr.put_p (s:Pr.Dk) (k o n:Int) (t:List UInt8) (c:Nat):(Pr.put s k o n t c).p=s.p:=rfl
@[simp] theorem Pr.put_len (s:Pr.Dk) (k o n:Int) (t:List UInt8) (c:Nat):(Pr.put s k o n t c).out.length=s.out.length+1:=by simp [Pr.put]
theorem Pr.op_lt {s:Pr.Dk} {r:Nat} (h:(Pr.op ts sz s r == 0)=false):s.p < ts.length:=Pr.opFrom_lt _ _ (fun e=>by unfold Pr.op at h;rw [e] at h;simp at h)
theorem Pr.Stp.refl {s:Pr.Dk} (h:s.p≤ts.length):Pr.Stp ts s s 0:=⟨Nat.le_refl _,h,Nat.le_refl _,by omega⟩
theorem Pr.Stp.mono {s r:Pr.Dk} {x y:Int} (h:Pr.Stp ts s r x) (hx:x≤y):Pr.Stp ts s r y:=⟨h.ge,h.le,h.more,by have:=h.most;omega⟩
theorem Pr.Stp.trans {s r q:Pr.Dk} {x y:Int} (h:Pr.Stp ts s r x) (k:Pr.Stp ts r q y):Pr.Stp ts s q (x+y):=⟨Nat.le_trans h.ge k.ge,k.le,Nat.le_trans h.more k.more,by have:=h.most;have:=k.most;omega⟩
theorem Pr.Stp.put {s r:Pr.Dk} {x:Int} (h:Pr.Stp ts s r x) (k o n:Int) (t:List UInt8) (c:Nat):Pr.Stp ts s (Pr.put r k o n t c) (x+1):=⟨h.ge,h.le,by rw [Pr.put_len];exact Nat.le_succ_of_le h.more,by rw [Pr.put_len,Pr.put_p];have:=h.most;omega⟩
theorem Pr.Stp.advL {s r:Pr.Dk} {x:Int} (h:Pr.Stp ts s r x) (hl:r.p < ts.length):Pr.Stp ts s (Pr.adv r) (x - 4):=⟨Nat.le_succ_of_le h.ge,hl,h.more,by rw [Pr.adv_p,Pr.adv_out];have:=h.most;omega⟩
theorem Pr.Stp.adv {s r:Pr.Dk} {x:Int} {t:List UInt8} (h:Pr.Stp ts s r x) (hl:Pr.is ts sz r t=true):Pr.Stp ts s (Pr.adv r) (x - 4):=h.advL (Pr.is_lt hl)
theorem Pr.Stp.stop {s r:Pr.Dk} {x:Int} (h:Pr.Stp ts s r x):Pr.Stp ts s (Pr.stop ts sz r) x:=⟨by rw [Pr.stop_p];exact h.ge,by rw [Pr.stop_p];exact h.le,by rw [Pr.stop_out];exact h.more,by rw [Pr.stop_p,Pr.stop_out];exact h.most⟩
theorem Pr.Stp.need {s r:Pr.Dk} {x:Int} (h:Pr.Stp ts s r x) (t:List UInt8):Pr.Stp ts s (Pr.need ts sz r t) x:=by
 unfold Pr.need;split
 ·rename_i hi;exact (h.adv hi).mono (by omega)
 ·exact h.stop
theorem Pr.Stp.name {s r:Pr.Dk} {x:Int} (h:Pr.Stp ts s r x):Pr.Stp ts s (Pr.name ts sz r) x:=by
 unfold Pr.name;split
 ·rename_i hi;exact (h.advL (Pr.isName_lt hi)).mono (by omega)
 ·exact h.stop
theorem Pr.Stp.swap {s s1 s2 s3:Pr.Dk} {x y:Int} (h:Pr.Stp ts s s1 x) (k:Pr.Stp ts s2 s3 y) (hp:s2.p=s1.p+1) (ho:s2.out.length=s.out.length):Pr.Stp ts s {s3 with out:=s3.out++s1.out.drop s.out.length} (x+y - 4):=by
 obtain ⟨a1,a2,a3,a4⟩:=h
 obtain ⟨b1,b2,b3,b4⟩:=k
 constructor <;> simp only [List.length_append,List.length_drop] <;> omega
theorem Pr.Stp.run {f:Nat} (ih:∀ (c:Pr.Cmd) (s:Pr.Dk),s.p≤ts.length→Pr.Stp ts s (Pr.pe ts sz f c s).1 (Pr.extra c)) {s r:Pr.Dk} {x:Int} (c:Pr.Cmd) (h:Pr.Stp ts s r x):Pr.Stp ts s (Pr.pe ts sz f c r).1 (x+Pr.extra c):=h.trans (ih c r h.le)
theorem Pr.pe_stp (f:Nat):∀ (c:Pr.Cmd) (s:Pr.Dk),s.p≤ts.length→Pr.Stp ts s (Pr.pe ts sz f c s).1 (Pr.extra c):=by
 induction f with
 | zero=>intro c s h;exact (Pr.Stp.refl h).mono (by omega)
 | succ f ih =>
  intro c s h
  cases c using Pr.Cmd.elim with
  | e | params | ops r | post | postL | args | listL n | fileL n=>unfold Pr.pe;repeat' (first | ((try dsimp only);apply Pr.Stp.mono;(repeat' (first | exact Pr.Stp.refl ‹_› | refine' Pr.Stp.put ?_ _ _ _ _ _ | refine' Pr.Stp.need ?_ _ | refine' Pr.Stp.name ?_ | refine' Pr.Stp.stop ?_ | refine' Pr.Stp.adv ?_ ‹_› | refine' Pr.Stp.advL ?_ ‹_› | refine' Pr.Stp.run ih _ ?_));(simp only [Pr.extra];omega)) | split)
  | paramsL n=>unfold Pr.pe;cases hb:Pr.is ts sz (Pr.name ts sz s) [61] <;> simp only [hb,Bool.false_eq_true,if_false,if_true] <;> repeat' (first | ((try dsimp only);apply Pr.Stp.mono;(repeat' (first | exact Pr.Stp.refl ‹_› | refine' Pr.Stp.put ?_ _ _ _ _ _ | refine' Pr.Stp.need ?_ _ | refine' Pr.Stp.name ?_ | refine' Pr.Stp.stop ?_ | refine' Pr.Stp.adv ?_ ‹_› | refine' Pr.Stp.advL ?_ ‹_› | refine' Pr.Stp.run ih _ ?_));(simp only [Pr.extra];omega)) | split)
  | opsL r =>
   unfold Pr.pe
   split
   ·((try dsimp only);apply Pr.Stp.mono;(repeat' (first | exact Pr.Stp.refl ‹_› | refine' Pr.Stp.put ?_ _ _ _ _ _ | refine' Pr.Stp.need ?_ _ | refine' Pr.Stp.name ?_ | refine' Pr.Stp.stop ?_ | refine' Pr.Stp.adv ?_ ‹_› | refine' Pr.Stp.advL ?_ ‹_› | refine' Pr.Stp.run ih _ ?_));(simp only [Pr.extra];omega))
   ·rename_i ho
    have hl:=Pr.op_lt (by simpa using ho)
    simp only
    split <;> ((try dsimp only);apply Pr.Stp.mono;(repeat' (first | exact Pr.Stp.refl ‹_› | refine' Pr.Stp.put ?_ _ _ _ _ _ | refine' Pr.Stp.need ?_ _ | refine' Pr.Stp.name ?_ | refine' Pr.Stp.stop ?_ | refine' Pr.Stp.adv ?_ ‹_› | refine' Pr.Stp.advL ?_ ‹_› | refine' Pr.Stp.run ih _ ?_));(simp only [Pr.extra];omega))
  | argsL n nm=>unfold Pr.pe;repeat' (first | ((try dsimp only);apply Pr.Stp.mono;(repeat' (first | exact Pr.Stp.refl ‹_› | refine' Pr.Stp.put ?_ _ _ _ _ _ | refine' Pr.Stp.need ?_ _ | refine' Pr.Stp.name ?_ | refine' Pr.Stp.stop ?_ | refine' Pr.Stp.adv ?_ ‹_› | refine' Pr.Stp.advL ?_ ‹_› | refine' Pr.Stp.run ih _ ?_));(simp only [Pr.extra];omega)) | split | simp only)
  | list =>
   unfold Pr.pe
   split
   ·((try dsimp only);apply Pr.Stp.mono;(repeat' (first | exact Pr.Stp.refl ‹_› | refine' Pr.Stp.put ?_ _ _ _ _ _ | refine' Pr.Stp.need ?_ _ | refine' Pr.Stp.name ?_ | refine' Pr.Stp.stop ?_ | refine' Pr.Stp.adv ?_ ‹_› | refine' Pr.Stp.advL ?_ ‹_› | refine' Pr.Stp.run ih _ ?_));(simp only [Pr.extra];omega))
   ·dsimp only
    have h1:=ih .e s h
    generalize (Pr.pe ts sz f .e s).1=s1 at *
    split
    ·rename_i hi
     have h2:Pr.Stp ts {Pr.adv s1 with out:=s1.out.take s.out.length} _ _:=(((Pr.Stp.refl (s:={Pr.adv s1 with out:=s1.out.take s.out.length}) (Pr.is_lt hi)).name (sz:=sz)).need (sz:=sz) Pr.sIn).run ih .e
     have h3:=h1.swap h2 rfl (by simp only [List.length_take];have:=h1.more;omega)
     generalize (Pr.pe ts sz f .e (Pr.need ts sz (Pr.name ts sz {Pr.adv s1 with out:=s1.out.take s.out.length}) Pr.sIn)).1=s3 at *
     generalize ({s3 with out:=s3.out++s1.out.drop s.out.length}:Pr.Dk)=s4 at *
     simp only [Pr.extra] at h3
     cases hb:Pr.is ts sz s4 Pr.sIf
     ·simp only [Bool.false_eq_true,if_false]
      exact ((h3.need _).put _ _ _ _ _).mono (by simp only [Pr.extra];omega)
     ·simp only [if_true]
      exact ((((h3.adv hb).run ih .e).need _).put _ _ _ _ _).mono (by simp only [Pr.extra];omega)
    ·exact (((h1.run ih (.listL 1)).need _).put _ _ _ _ _).mono (by simp only [Pr.extra];omega)
  | record =>
   unfold Pr.pe
   simp only
   split <;> ((try dsimp only);apply Pr.Stp.mono;(repeat' (first | exact Pr.Stp.refl ‹_› | refine' Pr.Stp.put ?_ _ _ _ _ _ | refine' Pr.Stp.need ?_ _ | refine' Pr.Stp.name ?_ | refine' Pr.Stp.stop ?_ | refine' Pr.Stp.adv ?_ ‹_› | refine' Pr.Stp.advL ?_ ‹_› | refine' Pr.Stp.run ih _ ?_));(simp only [Pr.extra];omega))
  | recordL n=>unfold Pr.pe;repeat' (first | ((try dsimp only);apply Pr.Stp.mono;(repeat' (first | exact Pr.Stp.refl ‹_› | refine' Pr.Stp.put ?_ _ _ _ _ _ | refine' Pr.Stp.need ?_ _ | refine' Pr.Stp.name ?_ | refine' Pr.Stp.stop ?_ | refine' Pr.Stp.adv ?_ ‹_› | refine' Pr.Stp.advL ?_ ‹_› | refine' Pr.Stp.run ih _ ?_));(simp only [Pr.extra];omega)) | (have hl:s.p < ts.length:=Pr.tok_lt (sz:=sz) (by simp only [Bool.or_eq_true,beq_iff_eq] at *;omega);simp only;split <;> ((try dsimp only);apply Pr.Stp.mono;(repeat' (first | exact Pr.Stp.refl ‹_› | refine' Pr.Stp.put ?_ _ _ _ _ _ | refine' Pr.Stp.need ?_ _ | refine' Pr.Stp.name ?_ | refine' Pr.Stp.stop ?_ | refine' Pr.Stp.adv ?_ ‹_› | refine' Pr.Stp.advL ?_ ‹_› | refine' Pr.Stp.run ih _ ?_));(simp only [Pr.extra];omega))) | split)
  | single =>
   unfold Pr.pe
   have hl:∀ k,k≠0→((Pr.tok ts sz s).kind == k)=true→s.p < ts.length:=fun k hk e=>Pr.tok_lt (sz:=sz) (by simp only [beq_iff_eq] at e;omega)
   repeat' (first | ((try dsimp only);apply Pr.Stp.mono;(repeat' (first | exact Pr.Stp.refl ‹_› | refine' Pr.Stp.put ?_ _ _ _ _ _ | refine' Pr.Stp.need ?_ _ | refine' Pr.Stp.name ?_ | refine' Pr.Stp.stop ?_ | refine' Pr.Stp.adv ?_ ‹_› | refine' Pr.Stp.advL ?_ ‹_› | refine' Pr.Stp.run ih _ ?_));(simp only [Pr.extra];omega)) | (have:s.p < ts.length:=(by first | exact hl 3 (by decide) ‹_› | exact hl 4 (by decide) ‹_› | exact hl 1 (by decide) ‹_›);((try dsimp only);apply Pr.Stp.mono;(repeat' (first | exact Pr.Stp.refl ‹_› | refine' Pr.Stp.put ?_ _ _ _ _ _ | refine' Pr.Stp.need ?_ _ | refine' Pr.Stp.name ?_ | refine' Pr.Stp.stop ?_ | refine' Pr.Stp.adv ?_ ‹_› | refine' Pr.Stp.advL ?_ ‹_› | refine' Pr.Stp.run ih _ ?_));(simp only [Pr.extra];omega))) | split)
  | loadL n=>unfold Pr.pe;repeat' (first | ((try dsimp only);apply Pr.Stp.mono;(repeat' (first | exact Pr.Stp.refl ‹_› | refine' Pr.Stp.put ?_ _ _ _ _ _ | refine' Pr.Stp.need ?_ _ | refine' Pr.Stp.name ?_ | refine' Pr.Stp.stop ?_ | refine' Pr.Stp.adv ?_ ‹_› | refine' Pr.Stp.advL ?_ ‹_› | refine' Pr.Stp.run ih _ ?_));(simp only [Pr.extra];omega)) | split | simp only)
  | statement=>unfold Pr.pe;repeat' (first | ((try dsimp only);apply Pr.Stp.mono;(repeat' (first | exact Pr.Stp.refl ‹_› | refine' Pr.Stp.put ?_ _ _ _ _ _ | refine' Pr.Stp.need ?_ _ | refine' Pr.Stp.name ?_ | refine' Pr.Stp.stop ?_ | refine' Pr.Stp.adv ?_ ‹_› | refine' Pr.Stp.advL ?_ ‹_› | refine' Pr.Stp.run ih _ ?_));(simp only [Pr.extra];omega)) | (have hl:(Pr.adv s).p < ts.length:=Pr.tok_lt (sz:=sz) (by simp only [beq_iff_eq] at *;omega);((try dsimp only);apply Pr.Stp.mono;(repeat' (first | exact Pr.Stp.refl ‹_› | refine' Pr.Stp.put ?_ _ _ _ _ _ | refine' Pr.Stp.need ?_ _ | refine' Pr.Stp.name ?_ | refine' Pr.Stp.stop ?_ | refine' Pr.Stp.adv ?_ ‹_› | refine' Pr.Stp.advL ?_ ‹_› | refine' Pr.Stp.run ih _ ?_));(simp only [Pr.extra];omega))) | split)
def Pr.isFile:Pr.Cmd→Bool
 | ⟨_+16,_,_⟩=>true
 | _=>false
theorem Pr.num_next {s r:Pr.Dk} {q:Pr.Dk × Nat} {n:Nat} {x y:Int} (h:Pr.Stp ts s r x) (hq:Pr.Stp ts (Pr.adv r) q.1 y) (hn:q.2≤2*(n+1+(q.1.p - (Pr.adv r).p))+3):q.2≤2*(n+(q.1.p - s.p))+3:=by
 have:=h.ge;have:=hq.ge
 rw [Pr.adv_p] at *
 omega
theorem Pr.pe_num (f:Nat):∀ (c:Pr.Cmd) (s:Pr.Dk),Pr.isFile c=false→s.p≤ts.length→(Pr.pe ts sz f c s).2≤2*(Pr.cnt c+((Pr.pe ts sz f c s).1.p - s.p))+3:=by
 induction f with
 | zero=>intro c s _ h;simp [Pr.pe]
 | succ f ih =>
  intro c s hc h
  have st:∀ (c:Pr.Cmd) (s:Pr.Dk),s.p≤ts.length→Pr.Stp ts s (Pr.pe ts sz f c s).1 (Pr.extra c):=Pr.pe_stp f
  cases c using Pr.Cmd.elim with
  | e =>
   unfold Pr.pe
   split
   ·exact Nat.zero_le _
   ·split
    ·exact Nat.zero_le _
    ·split
     ·exact Nat.zero_le _
     ·exact ih (.ops 1) s rfl h
  | params =>
   unfold Pr.pe
   dsimp only
   have a:=(Pr.Stp.refl h).need (sz:=sz) [40]
   have b:=ih (.paramsL 0) _ rfl a.le
   have c:=((st (.paramsL 0) _ a.le).need (sz:=sz) [41]).ge
   have d:=Pr.need_ge (ts:=ts) (sz:=sz) (Pr.pe ts sz f (.paramsL 0) (Pr.need ts sz s [40])).1 [41]
   have e:=a.ge
   simp only [Pr.cnt] at *
   omega
  | paramsL n =>
   unfold Pr.pe
   split
   ·simp only [Pr.cnt];omega
   ·split
    ·simp only [Pr.cnt];omega
    ·cases hb:Pr.is ts sz (Pr.name ts sz s) [61]
     ·simp only [hb,Bool.false_eq_true,if_false]
      split
      ·exact Pr.num_next (((Pr.Stp.refl h).name (sz:=sz)).put _ _ _ _ _) (st _ _ (Pr.is_lt ‹_›)) (ih _ _ rfl (Pr.is_lt ‹_›))
      ·simp only [Pr.cnt];omega
     ·simp only [hb,if_true]
      split
      ·exact Pr.num_next (((((Pr.Stp.refl h).name (sz:=sz)).adv hb).run st .e).put _ _ _ _ _) (st _ _ (Pr.is_lt ‹_›)) (ih _ _ rfl (Pr.is_lt ‹_›))
      ·simp only [Pr.cnt];omega
  | ops r =>
   unfold Pr.pe
   split
   ·exact Nat.zero_le _
   ·split
    ·split
     ·exact Nat.zero_le _
     ·exact ih (.ops 4) s rfl h
    ·split
     ·split
      ·exact Nat.zero_le _
      ·exact ih .post s rfl h
     ·dsimp only
      have a:=st (.ops (r+1)) s h
      have b:=ih (.opsL r) _ rfl a.le
      have c:=a.ge
      simp only [Pr.cnt] at *
      omega
  | opsL r =>
   unfold Pr.pe
   split
   ·exact Nat.zero_le _
   ·rename_i ho
    have hl:=Pr.op_lt (by simpa using ho)
    dsimp only
    split
    ·exact Nat.zero_le _
    ·have a:=(((Pr.Stp.refl h).advL hl).run st (.ops (r+1))).put 7 (Pr.op ts sz s r) 0 [] 2
     have b:=ih (.opsL r) _ rfl a.le
     have c:=a.ge
     simp only [Pr.cnt] at *
     omega
  | post =>
   unfold Pr.pe
   have a:=st .single s h
   have b:=ih .postL _ rfl a.le
   have c:=a.ge
   simp only [Pr.cnt] at *
   omega
  | postL =>
   unfold Pr.pe
   split
   ·exact Nat.zero_le _
   ·split
    ·dsimp only
     have a:=(((Pr.Stp.refl h).adv ‹_›).run st .args).put 12 0 0 [] (1+(Pr.pe ts sz f .args (Pr.adv s)).2)
     have b:=ih .postL _ rfl a.le
     have c:=a.ge
     simp only [Pr.cnt] at *
     omega
    ·split
     ·dsimp only
      have a:=((((Pr.Stp.refl h).adv ‹_›).run st .e).need (sz:=sz) [93]).put 10 0 0 [] 2
      have b:=ih .postL _ rfl a.le
      have c:=a.ge
      simp only [Pr.cnt] at *
      omega
     ·split
      ·have a:=(((Pr.Stp.refl h).adv ‹_›).name (sz:=sz)).put 11 0 0 (Pr.nameT ts sz (Pr.adv s)) 1
       have b:=ih .postL _ rfl a.le
       have c:=a.ge
       simp only [Pr.cnt] at *
       omega
      ·exact Nat.zero_le _
  | args =>
   unfold Pr.pe
   dsimp only
   have b:=ih (.argsL 0 false) _ rfl h
   have d:=Pr.need_ge (ts:=ts) (sz:=sz) (Pr.pe ts sz f (.argsL 0 false) s).1 [41]
   simp only [Pr.cnt] at *
   omega
  | argsL n nm =>
   unfold Pr.pe
   split
   ·simp only [Pr.cnt];omega
   ·split
    ·simp only [Pr.cnt];omega
    ·dsimp only
     split
     ·split
      ·exact Pr.num_next (((((Pr.Stp.refl h).name (sz:=sz)).need (sz:=sz) [61]).run st .e).put _ _ _ _ _) (st _ _ (Pr.is_lt ‹_›)) (ih _ _ rfl (Pr.is_lt ‹_›))
      ·simp only [Pr.cnt];omega
     ·split
      ·exact Pr.num_next ((Pr.Stp.refl h).run st .e) (st _ _ (Pr.is_lt ‹_›)) (ih _ _ rfl (Pr.is_lt ‹_›))
      ·simp only [Pr.cnt];omega
  | list =>
   unfold Pr.pe
   split
   ·exact Nat.zero_le _
   ·dsimp only
    split <;> exact Nat.zero_le _
  | listL n =>
   unfold Pr.pe
   split
   ·have a:=((Pr.Stp.refl h).adv ‹_›).run st .e
    have b:=ih (.listL (n+1)) _ rfl a.le
    have c:=a.ge
    have d:=(st .e (Pr.adv s) (Pr.is_lt ‹_›)).ge
    have e:=(st (.listL (n+1)) _ a.le).ge
    rw [Pr.adv_p] at d
    simp only [Pr.cnt] at *
    omega
   ·simp only [Pr.cnt];omega
  | record=>unfold Pr.pe;exact Nat.zero_le _
  | recordL n =>
   unfold Pr.pe
   split
   ·simp only [Pr.cnt];omega
   ·split
    ·simp only [Pr.cnt];omega
    ·split
     ·rename_i hk
      have hl:s.p < ts.length:=Pr.tok_lt (sz:=sz) (by simp only [Bool.or_eq_true,beq_iff_eq] at hk;omega)
      dsimp only
      split
      ·exact Pr.num_next (((((Pr.Stp.refl h).advL hl).need (sz:=sz) [58]).run st .e).put _ _ _ _ _) (st _ _ (Pr.is_lt ‹_›)) (ih _ _ rfl (Pr.is_lt ‹_›))
      ·simp only [Pr.cnt];omega
     ·simp only [Pr.cnt];omega
  | single =>
   unfold Pr.pe
   repeat' (first | exact Nat.zero_le _ | (split))
   ·have b:=ih .list (Pr.adv s) rfl (Pr.is_lt (by assumption))
    simp only [Pr.cnt,Pr.adv_p] at *
    omega
   ·have b:=ih .record (Pr.adv s) rfl (Pr.is_lt (by assumption))
    simp only [Pr.cnt,Pr.adv_p] at *
    omega
  | loadL n =>
   unfold Pr.pe
   split
   ·simp only [Pr.cnt];omega
   ·dsimp only
    split
    ·exact Pr.num_next (((Pr.Stp.refl h).name (sz:=sz)).put _ _ _ _ _) (st _ _ (Pr.is_lt ‹_›)) (ih _ _ rfl (Pr.is_lt ‹_›))
    ·simp only [Pr.cnt];omega
  | statement =>
   unfold Pr.pe
   repeat' (first | exact Nat.zero_le _ | (split))
  | fileL n=>exact absurd hc (by simp [Pr.isFile])
end
end Go.Proofs.YtbckhbeebngjfaaGreatDoor
