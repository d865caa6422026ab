/- Hb. -/
import Derived.Test.YthbfdaifgnhkbaaGreatDoorM02
namespace Go.Proofs.YthbfdaifgnhkbaaGreatDoor
def X4:Pr.Cmd→Nat
 | ⟨1,_,_⟩=>1 | ⟨2,_,_⟩=>1 | ⟨7,_,_⟩=>1 | ⟨8,_,_⟩=>1 | ⟨9,_,_⟩=>1 | ⟨11,_,_⟩=>1 | ⟨14,_,_⟩=>1
 | _=>0
def Yn:Pr.Cmd→Nat
 | ⟨2,n,_⟩=>n | ⟨8,n,_⟩=>n | ⟨10,n,_⟩=>n | ⟨12,n,_⟩=>n | ⟨14,n,_⟩=>n | ⟨_+16,n,_⟩=>n
 | _=>0
structure Pr.Stp (ts:List Sc.T) (s r:Pr.Dk) (x:Int):Prop where
 ge:s.p≤r.p
 le:r.p≤ts.length
 more:s.out.length≤r.out.length
 most:(r.out.length:Int)≤s.out.length+4*((r.p:Int) - s.p)+x
section
variable {ts:List Sc.T} {sz:Nat}
theorem YE {s:Pr.Dk} (h:(X2 ts sz s).kind≠0):s.p < ts.length:=by
 unfold X2 at h
 by_cases hp:s.p < ts.length
 ·exact hp
 ·rw [List.getElem?_eq_none (by omega)] at h;simp at h
theorem Xy {s:Pr.Dk} {t:List UInt8} (h:X9 ts sz s t=true):s.p < ts.length:=by
 apply YE (sz:=sz)
 unfold X9 at h
 simp only [Bool.and_eq_true,Bool.or_eq_true,beq_iff_eq] at h
 omega
theorem Jj {s:Pr.Dk} (h:ZQ ts sz s=true):s.p < ts.length:=by
 apply YE (sz:=sz)
 unfold ZQ at h
 simp only [Bool.and_eq_true,beq_iff_eq] at h
 omega
theorem Jh {s:Pr.Dk} {r:Nat}:∀ (f o:Nat),YX ts sz s r f o≠0→s.p < ts.length
 | 0,_,h=>by simp [YX] at h
 | f+1,o,h=>by
  unfold YX at h
  split at h
  ·rename_i hh;simp only [Bool.and_eq_true] at hh;exact Xy hh.2
  ·exact Jh f _ h
theorem QF (s:Pr.Dk):(Ye ts sz s).p=s.p:=by unfold Ye;split <;> rfl
theorem Pr.stop_out (s:Pr.Dk):(Ye ts sz s).out=s.out:=by unfold Ye;split <;> rfl
theorem Pr.need_ge (s:Pr.Dk) (t:List UInt8):s.p≤(Xl ts sz s t).p:=by unfold Xl;split;exact Nat.le_succ _;exact Nat.le_of_eq (QF s).symm
theorem Pr.name_gt {s:Pr.Dk} {t:List UInt8} (h:X9 ts sz (XD ts sz s) t=true):(XD ts sz s).p=s.p+1:=by
 unfold XD at h ⊢
 split
 ·rfl
 ·rename_i hh
  rw [if_neg hh] at h
  exfalso
  have hb:(Ye ts sz s).bad=true:=by unfold Ye;split;assumption;rfl
  unfold X9 at h
  rw [hb] at h
  simp at h
@[simp] theorem Pr.adv_p (s:Pr.Dk):(X5 s).p=s.p+1:=rfl
@[simp] theorem Pr.adv_out (s:Pr.Dk):(X5 s).out=s.out:=rfl
@[simp] theorem Pr.put_p (s:Pr.Dk) (k o n:Int) (t:List UInt8) (c:Nat):(Xg s k o n t c).p=s.p:=rfl
@[simp] theorem Pr.put_len (s:Pr.Dk) (k o n:Int) (t:List UInt8) (c:Nat):(Xg s k o n t c).out.length=s.out.length+1:=by simp [Xg]
theorem Pr.op_lt {s:Pr.Dk} {r:Nat} (h:(ZO ts sz s r == 0)=false):s.p < ts.length:=Jh _ _ (fun e=>by unfold ZO at h;rw [e] at h;simp at h)
theorem Pr.Stp.refl {s:Pr.Dk} (h:s.p≤ts.length):Pr.Stp ts s s 0:=⟨Nat.le_refl _,h,Nat.le_refl _,by omega⟩
theorem Pr.Stp.mono {s r:Pr.Dk} {x y:Int} (h:Pr.Stp ts s r x) (hx:x≤y):Pr.Stp ts s r y:=⟨h.ge,h.le,h.more,by have:=h.most;omega⟩
theorem Pr.Stp.trans {s r q:Pr.Dk} {x y:Int} (h:Pr.Stp ts s r x) (k:Pr.Stp ts r q y):Pr.Stp ts s q (x+y):=⟨Nat.le_trans h.ge k.ge,k.le,Nat.le_trans h.more k.more,by have:=h.most;have:=k.most;omega⟩
theorem Pr.Stp.put {s r:Pr.Dk} {x:Int} (h:Pr.Stp ts s r x) (k o n:Int) (t:List UInt8) (c:Nat):Pr.Stp ts s (Xg r k o n t c) (x+1):=⟨h.ge,h.le,by rw [Pr.put_len];exact Nat.le_succ_of_le h.more,by rw [Pr.put_len,Pr.put_p];have:=h.most;omega⟩
theorem Pr.Stp.advL {s r:Pr.Dk} {x:Int} (h:Pr.Stp ts s r x) (hl:r.p < ts.length):Pr.Stp ts s (X5 r) (x - 4):=⟨Nat.le_succ_of_le h.ge,hl,h.more,by rw [Pr.adv_p,Pr.adv_out];have:=h.most;omega⟩
theorem Pr.Stp.adv {s r:Pr.Dk} {x:Int} {t:List UInt8} (h:Pr.Stp ts s r x) (hl:X9 ts sz r t=true):Pr.Stp ts s (X5 r) (x - 4):=h.advL (Xy hl)
theorem Pr.Stp.stop {s r:Pr.Dk} {x:Int} (h:Pr.Stp ts s r x):Pr.Stp ts s (Ye ts sz r) x:=⟨by rw [QF];exact h.ge,by rw [QF];exact h.le,by rw [Pr.stop_out];exact h.more,by rw [QF,Pr.stop_out];exact h.most⟩
theorem Pr.Stp.need {s r:Pr.Dk} {x:Int} (h:Pr.Stp ts s r x) (t:List UInt8):Pr.Stp ts s (Xl ts sz r t) x:=by
 unfold Xl;split
 ·rename_i hi;exact (h.adv hi).mono (by omega)
 ·exact h.stop
theorem Pr.Stp.name {s r:Pr.Dk} {x:Int} (h:Pr.Stp ts s r x):Pr.Stp ts s (XD ts sz r) x:=by
 unfold XD;split
 ·rename_i hi;exact (h.advL (Jj hi)).mono (by omega)
 ·exact h.stop
theorem Pr.Stp.swap {s s1 s2 s3:Pr.Dk} {x y:Int} (h:Pr.Stp ts s s1 x) (k:Pr.Stp ts s2 s3 y) (hp:s2.p=s1.p+1) (ho:s2.out.length=s.out.length):Pr.Stp ts s {s3 with out:=s3.out++s1.out.drop s.out.length} (x+y - 4):=by
 obtain ⟨a1,a2,a3,a4⟩:=h
 obtain ⟨b1,b2,b3,b4⟩:=k
 constructor <;> simp only [List.length_append,List.length_drop] <;> omega
theorem Pr.Stp.run {f:Nat} (ih:∀ (c:Pr.Cmd) (s:Pr.Dk),s.p≤ts.length→Pr.Stp ts s (Xe ts sz f c s).1 (X4 c)) {s r:Pr.Dk} {x:Int} (c:Pr.Cmd) (h:Pr.Stp ts s r x):Pr.Stp ts s (Xe ts sz f c r).1 (x+X4 c):=h.trans (ih c r h.le)
theorem Pr.pe_stp (f:Nat):∀ (c:Pr.Cmd) (s:Pr.Dk),s.p≤ts.length→Pr.Stp ts s (Xe ts sz f c s).1 (X4 c):=by
 induction f with
 | zero=>intro c s h;exact (Pr.Stp.refl h).mono (by omega)
 | succ f ih =>
  intro c s h
  cases c using Pr.Cmd.elim with
  | e | params | ops r | post | postL | args | listL n | fileL n=>unfold Xe;repeat' (first | ((try dsimp only);apply Pr.Stp.mono;(repeat' (first | exact Pr.Stp.refl ‹_› | refine' Pr.Stp.put ?_ _ _ _ _ _ | refine' Pr.Stp.need ?_ _ | refine' Pr.Stp.name ?_ | refine' Pr.Stp.stop ?_ | refine' Pr.Stp.adv ?_ ‹_› | refine' Pr.Stp.advL ?_ ‹_› | refine' Pr.Stp.run ih _ ?_));(simp only [X4];omega)) | split)
  | paramsL n=>unfold Xe;cases hb:X9 ts sz (XD ts sz s) [61] <;> simp only [hb,Bool.false_eq_true,if_false,if_true] <;> repeat' (first | ((try dsimp only);apply Pr.Stp.mono;(repeat' (first | exact Pr.Stp.refl ‹_› | refine' Pr.Stp.put ?_ _ _ _ _ _ | refine' Pr.Stp.need ?_ _ | refine' Pr.Stp.name ?_ | refine' Pr.Stp.stop ?_ | refine' Pr.Stp.adv ?_ ‹_› | refine' Pr.Stp.advL ?_ ‹_› | refine' Pr.Stp.run ih _ ?_));(simp only [X4];omega)) | split)
  | opsL r =>
   unfold Xe
   split
   ·((try dsimp only);apply Pr.Stp.mono;(repeat' (first | exact Pr.Stp.refl ‹_› | refine' Pr.Stp.put ?_ _ _ _ _ _ | refine' Pr.Stp.need ?_ _ | refine' Pr.Stp.name ?_ | refine' Pr.Stp.stop ?_ | refine' Pr.Stp.adv ?_ ‹_› | refine' Pr.Stp.advL ?_ ‹_› | refine' Pr.Stp.run ih _ ?_));(simp only [X4];omega))
   ·rename_i ho
    have hl:=Pr.op_lt (by simpa using ho)
    simp only
    split <;> ((try dsimp only);apply Pr.Stp.mono;(repeat' (first | exact Pr.Stp.refl ‹_› | refine' Pr.Stp.put ?_ _ _ _ _ _ | refine' Pr.Stp.need ?_ _ | refine' Pr.Stp.name ?_ | refine' Pr.Stp.stop ?_ | refine' Pr.Stp.adv ?_ ‹_› | refine' Pr.Stp.advL ?_ ‹_› | refine' Pr.Stp.run ih _ ?_));(simp only [X4];omega))
  | argsL n nm=>unfold Xe;repeat' (first | ((try dsimp only);apply Pr.Stp.mono;(repeat' (first | exact Pr.Stp.refl ‹_› | refine' Pr.Stp.put ?_ _ _ _ _ _ | refine' Pr.Stp.need ?_ _ | refine' Pr.Stp.name ?_ | refine' Pr.Stp.stop ?_ | refine' Pr.Stp.adv ?_ ‹_› | refine' Pr.Stp.advL ?_ ‹_› | refine' Pr.Stp.run ih _ ?_));(simp only [X4];omega)) | split | simp only)
  | list =>
   unfold Xe
   split
   ·((try dsimp only);apply Pr.Stp.mono;(repeat' (first | exact Pr.Stp.refl ‹_› | refine' Pr.Stp.put ?_ _ _ _ _ _ | refine' Pr.Stp.need ?_ _ | refine' Pr.Stp.name ?_ | refine' Pr.Stp.stop ?_ | refine' Pr.Stp.adv ?_ ‹_› | refine' Pr.Stp.advL ?_ ‹_› | refine' Pr.Stp.run ih _ ?_));(simp only [X4];omega))
   ·dsimp only
    have h1:=ih .e s h
    generalize (Xe ts sz f .e s).1=s1 at *
    split
    ·rename_i hi
     have h2:Pr.Stp ts {X5 s1 with out:=s1.out.take s.out.length} _ _:=(((Pr.Stp.refl (s:={X5 s1 with out:=s1.out.take s.out.length}) (Xy hi)).name (sz:=sz)).need (sz:=sz) Zi).run ih .e
     have h3:=h1.swap h2 rfl (by simp only [List.length_take];have:=h1.more;omega)
     generalize (Xe ts sz f .e (Xl ts sz (XD ts sz {X5 s1 with out:=s1.out.take s.out.length}) Zi)).1=s3 at *
     generalize ({s3 with out:=s3.out++s1.out.drop s.out.length}:Pr.Dk)=s4 at *
     simp only [X4] at h3
     cases hb:X9 ts sz s4 YW
     ·simp only [Bool.false_eq_true,if_false]
      exact ((h3.need _).put _ _ _ _ _).mono (by simp only [X4];omega)
     ·simp only [if_true]
      exact ((((h3.adv hb).run ih .e).need _).put _ _ _ _ _).mono (by simp only [X4];omega)
    ·exact (((h1.run ih (.listL 1)).need _).put _ _ _ _ _).mono (by simp only [X4];omega)
  | record =>
   unfold Xe
   simp only
   split <;> ((try dsimp only);apply Pr.Stp.mono;(repeat' (first | exact Pr.Stp.refl ‹_› | refine' Pr.Stp.put ?_ _ _ _ _ _ | refine' Pr.Stp.need ?_ _ | refine' Pr.Stp.name ?_ | refine' Pr.Stp.stop ?_ | refine' Pr.Stp.adv ?_ ‹_› | refine' Pr.Stp.advL ?_ ‹_› | refine' Pr.Stp.run ih _ ?_));(simp only [X4];omega))
  | recordL n=>unfold Xe;repeat' (first | ((try dsimp only);apply Pr.Stp.mono;(repeat' (first | exact Pr.Stp.refl ‹_› | refine' Pr.Stp.put ?_ _ _ _ _ _ | refine' Pr.Stp.need ?_ _ | refine' Pr.Stp.name ?_ | refine' Pr.Stp.stop ?_ | refine' Pr.Stp.adv ?_ ‹_› | refine' Pr.Stp.advL ?_ ‹_› | refine' Pr.Stp.run ih _ ?_));(simp only [X4];omega)) | (have hl:s.p < ts.length:=YE (sz:=sz) (by simp only [Bool.or_eq_true,beq_iff_eq] at *;omega);simp only;split <;> ((try dsimp only);apply Pr.Stp.mono;(repeat' (first | exact Pr.Stp.refl ‹_› | refine' Pr.Stp.put ?_ _ _ _ _ _ | refine' Pr.Stp.need ?_ _ | refine' Pr.Stp.name ?_ | refine' Pr.Stp.stop ?_ | refine' Pr.Stp.adv ?_ ‹_› | refine' Pr.Stp.advL ?_ ‹_› | refine' Pr.Stp.run ih _ ?_));(simp only [X4];omega))) | split)
  | single =>
   unfold Xe
   have hl:∀ k,k≠0→((X2 ts sz s).kind == k)=true→s.p < ts.length:=fun k hk e=>YE (sz:=sz) (by simp only [beq_iff_eq] at e;omega)
   repeat' (first | ((try dsimp only);apply Pr.Stp.mono;(repeat' (first | exact Pr.Stp.refl ‹_› | refine' Pr.Stp.put ?_ _ _ _ _ _ | refine' Pr.Stp.need ?_ _ | refine' Pr.Stp.name ?_ | refine' Pr.Stp.stop ?_ | refine' Pr.Stp.adv ?_ ‹_› | refine' Pr.Stp.advL ?_ ‹_› | refine' Pr.Stp.run ih _ ?_));(simp only [X4];omega)) | (have:s.p < ts.length:=(by first | exact hl 3 (by decide) ‹_› | exact hl 4 (by decide) ‹_› | exact hl 1 (by decide) ‹_›);((try dsimp only);apply Pr.Stp.mono;(repeat' (first | exact Pr.Stp.refl ‹_› | refine' Pr.Stp.put ?_ _ _ _ _ _ | refine' Pr.Stp.need ?_ _ | refine' Pr.Stp.name ?_ | refine' Pr.Stp.stop ?_ | refine' Pr.Stp.adv ?_ ‹_› | refine' Pr.Stp.advL ?_ ‹_› | refine' Pr.Stp.run ih _ ?_));(simp only [X4];omega))) | split)
  | loadL n=>unfold Xe;repeat' (first | ((try dsimp only);apply Pr.Stp.mono;(repeat' (first | exact Pr.Stp.refl ‹_› | refine' Pr.Stp.put ?_ _ _ _ _ _ | refine' Pr.Stp.need ?_ _ | refine' Pr.Stp.name ?_ | refine' Pr.Stp.stop ?_ | refine' Pr.Stp.adv ?_ ‹_› | refine' Pr.Stp.advL ?_ ‹_› | refine' Pr.Stp.run ih _ ?_));(simp only [X4];omega)) | split | simp only)
  | statement=>unfold Xe;repeat' (first | ((try dsimp only);apply Pr.Stp.mono;(repeat' (first | exact Pr.Stp.refl ‹_› | refine' Pr.Stp.put ?_ _ _ _ _ _ | refine' Pr.Stp.need ?_ _ | refine' Pr.Stp.name ?_ | refine' Pr.Stp.stop ?_ | refine' Pr.Stp.adv ?_ ‹_› | refine' Pr.Stp.advL ?_ ‹_› | refine' Pr.Stp.run ih _ ?_));(simp only [X4];omega)) | (have hl:(X5 s).p < ts.length:=YE (sz:=sz) (by simp only [beq_iff_eq] at *;omega);((try dsimp only);apply Pr.Stp.mono;(repeat' (first | exact Pr.Stp.refl ‹_› | refine' Pr.Stp.put ?_ _ _ _ _ _ | refine' Pr.Stp.need ?_ _ | refine' Pr.Stp.name ?_ | refine' Pr.Stp.stop ?_ | refine' Pr.Stp.adv ?_ ‹_› | refine' Pr.Stp.advL ?_ ‹_› | refine' Pr.Stp.run ih _ ?_));(simp only [X4];omega))) | split)
def Pr.isFile:Pr.Cmd→Bool
 | ⟨_+16,_,_⟩=>true
 | _=>false
theorem ZP {s r:Pr.Dk} {q:Pr.Dk × Nat} {n:Nat} {x y:Int} (h:Pr.Stp ts s r x) (hq:Pr.Stp ts (X5 r) q.1 y) (hn:q.2≤2*(n+1+(q.1.p - (X5 r).p))+3):q.2≤2*(n+(q.1.p - s.p))+3:=by
 have:=h.ge;have:=hq.ge
 rw [Pr.adv_p] at *
 omega
theorem Pr.pe_num (f:Nat):∀ (c:Pr.Cmd) (s:Pr.Dk),Pr.isFile c=false→s.p≤ts.length→(Xe ts sz f c s).2≤2*(Yn c+((Xe ts sz f c s).1.p - s.p))+3:=by
 induction f with
 | zero=>intro c s _ h;simp [Xe]
 | succ f ih =>
  intro c s hc h
  have st:∀ (c:Pr.Cmd) (s:Pr.Dk),s.p≤ts.length→Pr.Stp ts s (Xe ts sz f c s).1 (X4 c):=Pr.pe_stp f
  cases c using Pr.Cmd.elim with
  | e =>
   unfold Xe
   split
   ·exact Nat.zero_le _
   ·split
    ·exact Nat.zero_le _
    ·split
     ·exact Nat.zero_le _
     ·exact ih (.ops 1) s rfl h
  | params =>
   unfold Xe
   dsimp only
   have a:=(Pr.Stp.refl h).need (sz:=sz) [40]
   have b:=ih (.paramsL 0) _ rfl a.le
   have c:=((st (.paramsL 0) _ a.le).need (sz:=sz) [41]).ge
   have d:=Pr.need_ge (ts:=ts) (sz:=sz) (Xe ts sz f (.paramsL 0) (Xl ts sz s [40])).1 [41]
   have e:=a.ge
   simp only [Yn] at *
   omega
  | paramsL n =>
   unfold Xe
   split
   ·simp only [Yn];omega
   ·split
    ·simp only [Yn];omega
    ·cases hb:X9 ts sz (XD ts sz s) [61]
     ·simp only [hb,Bool.false_eq_true,if_false]
      split
      ·exact ZP (((Pr.Stp.refl h).name (sz:=sz)).put _ _ _ _ _) (st _ _ (Xy ‹_›)) (ih _ _ rfl (Xy ‹_›))
      ·simp only [Yn];omega
     ·simp only [hb,if_true]
      split
      ·exact ZP (((((Pr.Stp.refl h).name (sz:=sz)).adv hb).run st .e).put _ _ _ _ _) (st _ _ (Xy ‹_›)) (ih _ _ rfl (Xy ‹_›))
      ·simp only [Yn];omega
  | ops r =>
   unfold Xe
   split
   ·exact Nat.zero_le _
   ·split
    ·split
     ·exact Nat.zero_le _
     ·exact ih (.ops 4) s rfl h
    ·split
     ·split
      ·exact Nat.zero_le _
      ·exact ih .post s rfl h
     ·dsimp only
      have a:=st (.ops (r+1)) s h
      have b:=ih (.opsL r) _ rfl a.le
      have c:=a.ge
      simp only [Yn] at *
      omega
  | opsL r =>
   unfold Xe
   split
   ·exact Nat.zero_le _
   ·rename_i ho
    have hl:=Pr.op_lt (by simpa using ho)
    dsimp only
    split
    ·exact Nat.zero_le _
    ·have a:=(((Pr.Stp.refl h).advL hl).run st (.ops (r+1))).put 7 (ZO ts sz s r) 0 [] 2
     have b:=ih (.opsL r) _ rfl a.le
     have c:=a.ge
     simp only [Yn] at *
     omega
  | post =>
   unfold Xe
   have a:=st .single s h
   have b:=ih .postL _ rfl a.le
   have c:=a.ge
   simp only [Yn] at *
   omega
  | postL =>
   unfold Xe
   split
   ·exact Nat.zero_le _
   ·split
    ·dsimp only
     have a:=(((Pr.Stp.refl h).adv ‹_›).run st .args).put 12 0 0 [] (1+(Xe ts sz f .args (X5 s)).2)
     have b:=ih .postL _ rfl a.le
     have c:=a.ge
     simp only [Yn] at *
     omega
    ·split
     ·dsimp only
      have a:=((((Pr.Stp.refl h).adv ‹_›).run st .e).need (sz:=sz) [93]).put 10 0 0 [] 2
      have b:=ih .postL _ rfl a.le
      have c:=a.ge
      simp only [Yn] at *
      omega
     ·split
      ·have a:=(((Pr.Stp.refl h).adv ‹_›).name (sz:=sz)).put 11 0 0 (Xa ts sz (X5 s)) 1
       have b:=ih .postL _ rfl a.le
       have c:=a.ge
       simp only [Yn] at *
       omega
      ·exact Nat.zero_le _
  | args =>
   unfold Xe
   dsimp only
   have b:=ih (.argsL 0 false) _ rfl h
   have d:=Pr.need_ge (ts:=ts) (sz:=sz) (Xe ts sz f (.argsL 0 false) s).1 [41]
   simp only [Yn] at *
   omega
  | argsL n nm =>
   unfold Xe
   split
   ·simp only [Yn];omega
   ·split
    ·simp only [Yn];omega
    ·dsimp only
     split
     ·split
      ·exact ZP (((((Pr.Stp.refl h).name (sz:=sz)).need (sz:=sz) [61]).run st .e).put _ _ _ _ _) (st _ _ (Xy ‹_›)) (ih _ _ rfl (Xy ‹_›))
      ·simp only [Yn];omega
     ·split
      ·exact ZP ((Pr.Stp.refl h).run st .e) (st _ _ (Xy ‹_›)) (ih _ _ rfl (Xy ‹_›))
      ·simp only [Yn];omega
  | list =>
   unfold Xe
   split
   ·exact Nat.zero_le _
   ·dsimp only
    split <;> exact Nat.zero_le _
  | listL n =>
   unfold Xe
   split
   ·have a:=((Pr.Stp.refl h).adv ‹_›).run st .e
    have b:=ih (.listL (n+1)) _ rfl a.le
    have c:=a.ge
    have d:=(st .e (X5 s) (Xy ‹_›)).ge
    have e:=(st (.listL (n+1)) _ a.le).ge
    rw [Pr.adv_p] at d
    simp only [Yn] at *
    omega
   ·simp only [Yn];omega
  | record=>unfold Xe;exact Nat.zero_le _
  | recordL n =>
   unfold Xe
   split
   ·simp only [Yn];omega
   ·split
    ·simp only [Yn];omega
    ·split
     ·rename_i hk
      have hl:s.p < ts.length:=YE (sz:=sz) (by simp only [Bool.or_eq_true,beq_iff_eq] at hk;omega)
      dsimp only
      split
      ·exact ZP (((((Pr.Stp.refl h).advL hl).need (sz:=sz) [58]).run st .e).put _ _ _ _ _) (st _ _ (Xy ‹_›)) (ih _ _ rfl (Xy ‹_›))
      ·simp only [Yn];omega
     ·simp only [Yn];omega
  | single =>
   unfold Xe
   repeat' (first | exact Nat.zero_le _ | (split))
   ·have b:=ih .list (X5 s) rfl (Xy (by assumption))
    simp only [Yn,Pr.adv_p] at *
    omega
   ·have b:=ih .record (X5 s) rfl (Xy (by assumption))
    simp only [Yn,Pr.adv_p] at *
    omega
  | loadL n =>
   unfold Xe
   split
   ·simp only [Yn];omega
   ·dsimp only
    split
    ·exact ZP (((Pr.Stp.refl h).name (sz:=sz)).put _ _ _ _ _) (st _ _ (Xy ‹_›)) (ih _ _ rfl (Xy ‹_›))
    ·simp only [Yn];omega
  | statement =>
   unfold Xe
   repeat' (first | exact Nat.zero_le _ | (split))
  | fileL n=>exact absurd hc (by simp [Pr.isFile])
end
end Go.Proofs.YthbfdaifgnhkbaaGreatDoor
