/- Hb. -/
import Derived.Test.YtimbaebigjjkaaaGreatDoorP02
namespace Go.Proofs.YtimbaebigjjkaaaGreatDoor
def X6:Pr.Cmd→Nat
 | ⟨1,_,_⟩=>1 | ⟨2,_,_⟩=>1 | ⟨7,_,_⟩=>1 | ⟨8,_,_⟩=>1 | ⟨9,_,_⟩=>1 | ⟨11,_,_⟩=>1 | ⟨14,_,_⟩=>1
 | _=>0
def YE:Pr.Cmd→Nat
 | ⟨2,n,_⟩=>n | ⟨8,n,_⟩=>n | ⟨10,n,_⟩=>n | ⟨12,n,_⟩=>n | ⟨14,n,_⟩=>n | ⟨_+16,n,_⟩=>n
 | _=>0
structure Pr.Stp (ts:List Sc.T) (s r:Pr.Dk) (x:Int):Prop where
 ge:s.p≤r.p
 le:r.p≤ts.length
 more:s.o.length≤r.o.length
 most:(r.o.length:Int)≤s.o.length+4*((r.p:Int) - s.p)+x
section
variable {ts:List Sc.T} {sz:Nat}
theorem YY {s:Pr.Dk} (h:(X3 ts sz s).kind≠0):s.p < ts.length:=by
 unfold X3 at h
 by_cases hp:s.p < ts.length
 ·exact hp
 ·rw [List.getElem?_eq_none (by omega)] at h;simp at h
theorem XG {s:Pr.Dk} {t:List UInt8} (h:Xa ts sz s t=true):s.p < ts.length:=by
 apply YY (sz:=sz)
 unfold Xa at h
 simp only [Bool.and_eq_true,Bool.or_eq_true,beq_iff_eq] at h
 omega
theorem U9 {s:Pr.Dk} (h:Ke ts sz s=true):s.p < ts.length:=by
 apply YY (sz:=sz)
 unfold Ke at h
 simp only [Bool.and_eq_true,beq_iff_eq] at h
 omega
theorem U7 {s:Pr.Dk} {r:Nat}:∀ (f o:Nat),Zp ts sz s r f o≠0→s.p < ts.length
 | 0,_,h=>by simp [Zp] at h
 | f+1,o,h=>by
  unfold Zp at h
  split at h
  ·rename_i hh;simp only [Bool.and_eq_true] at hh;exact XG hh.2
  ·exact U7 f _ h
theorem Jh (s:Pr.Dk):(Yt ts sz s).p=s.p:=by unfold Yt;split <;> rfl
theorem Pr.stop_out (s:Pr.Dk):(Yt ts sz s).o=s.o:=by unfold Yt;split <;> rfl
theorem Pr.need_ge (s:Pr.Dk) (t:List UInt8):s.p≤(Xr ts sz s t).p:=by unfold Xr;split;exact Nat.le_succ _;exact Nat.le_of_eq (Jh s).symm
theorem Pr.name_gt {s:Pr.Dk} {t:List UInt8} (h:Xa ts sz (XP ts sz s) t=true):(XP ts sz s).p=s.p+1:=by
 unfold XP at h ⊢
 split
 ·rfl
 ·rename_i hh
  rw [if_neg hh] at h
  exfalso
  have hb:(Yt ts sz s).bad=true:=by unfold Yt;split;assumption;rfl
  unfold Xa at h
  rw [hb] at h
  simp at h
@[simp] theorem Pr.adv_p (s:Pr.Dk):(X7 s).p=s.p+1:=rfl
@[simp] theorem Pr.adv_out (s:Pr.Dk):(X7 s).o=s.o:=rfl
@[simp] theorem Pr.put_p (s:Pr.Dk) (k o n:Int) (t:List UInt8) (c:Nat):(Xj s k o n t c).p=s.p:=rfl
@[simp] theorem Pr.put_len (s:Pr.Dk) (k o n:Int) (t:List UInt8) (c:Nat):(Xj s k o n t c).o.length=s.o.length+1:=by simp [Xj]
theorem Pr.op_lt {s:Pr.Dk} {r:Nat} (h:(Kb ts sz s r == 0)=false):s.p < ts.length:=U7 _ _ (fun e=>by unfold Kb at h;rw [e] at h;simp at h)
theorem Pr.Stp.refl {s:Pr.Dk} (h:s.p≤ts.length):Pr.Stp ts s s 0:=⟨Nat.le_refl _,h,Nat.le_refl _,by omega⟩
theorem Pr.Stp.mono {s r:Pr.Dk} {x y:Int} (h:Pr.Stp ts s r x) (hx:x≤y):Pr.Stp ts s r y:=⟨h.ge,h.le,h.more,by have:=h.most;omega⟩
theorem Pr.Stp.trans {s r q:Pr.Dk} {x y:Int} (h:Pr.Stp ts s r x) (k:Pr.Stp ts r q y):Pr.Stp ts s q (x+y):=⟨Nat.le_trans h.ge k.ge,k.le,Nat.le_trans h.more k.more,by have:=h.most;have:=k.most;omega⟩
theorem Pr.Stp.put {s r:Pr.Dk} {x:Int} (h:Pr.Stp ts s r x) (k o n:Int) (t:List UInt8) (c:Nat):Pr.Stp ts s (Xj r k o n t c) (x+1):=⟨h.ge,h.le,by rw [Pr.put_len];exact Nat.le_succ_of_le h.more,by rw [Pr.put_len,Pr.put_p];have:=h.most;omega⟩
theorem Pr.Stp.advL {s r:Pr.Dk} {x:Int} (h:Pr.Stp ts s r x) (hl:r.p < ts.length):Pr.Stp ts s (X7 r) (x - 4):=⟨Nat.le_succ_of_le h.ge,hl,h.more,by rw [Pr.adv_p,Pr.adv_out];have:=h.most;omega⟩
theorem Pr.Stp.adv {s r:Pr.Dk} {x:Int} {t:List UInt8} (h:Pr.Stp ts s r x) (hl:Xa ts sz r t=true):Pr.Stp ts s (X7 r) (x - 4):=h.advL (XG hl)
theorem Pr.Stp.stop {s r:Pr.Dk} {x:Int} (h:Pr.Stp ts s r x):Pr.Stp ts s (Yt ts sz r) x:=⟨by rw [Jh];exact h.ge,by rw [Jh];exact h.le,by rw [Pr.stop_out];exact h.more,by rw [Jh,Pr.stop_out];exact h.most⟩
theorem Pr.Stp.need {s r:Pr.Dk} {x:Int} (h:Pr.Stp ts s r x) (t:List UInt8):Pr.Stp ts s (Xr ts sz r t) x:=by
 unfold Xr;split
 ·rename_i hi;exact (h.adv hi).mono (by omega)
 ·exact h.stop
theorem Pr.Stp.name {s r:Pr.Dk} {x:Int} (h:Pr.Stp ts s r x):Pr.Stp ts s (XP ts sz r) x:=by
 unfold XP;split
 ·rename_i hi;exact (h.advL (U9 hi)).mono (by omega)
 ·exact h.stop
theorem Pr.Stp.swap {s s1 s2 s3:Pr.Dk} {x y:Int} (h:Pr.Stp ts s s1 x) (k:Pr.Stp ts s2 s3 y) (hp:s2.p=s1.p+1) (ho:s2.o.length=s.o.length):Pr.Stp ts s {s3 with o:=s3.o++s1.o.drop s.o.length} (x+y - 4):=by
 obtain ⟨a1,a2,a3,a4⟩:=h
 obtain ⟨b1,b2,b3,b4⟩:=k
 constructor <;> simp only [List.length_append,List.length_drop] <;> omega
theorem Pr.Stp.run {f:Nat} (ih:∀ (c:Pr.Cmd) (s:Pr.Dk),s.p≤ts.length→Pr.Stp ts s (Xh ts sz f c s).1 (X6 c)) {s r:Pr.Dk} {x:Int} (c:Pr.Cmd) (h:Pr.Stp ts s r x):Pr.Stp ts s (Xh ts sz f c r).1 (x+X6 c):=h.trans (ih c r h.le)
theorem Pr.pe_stp (f:Nat):∀ (c:Pr.Cmd) (s:Pr.Dk),s.p≤ts.length→Pr.Stp ts s (Xh ts sz f c s).1 (X6 c):=by
 induction f with
 | zero=>intro c s h;exact (Pr.Stp.refl h).mono (by omega)
 | succ f ih =>
  intro c s h
  cases c using Pr.Cmd.elim with
  | e | params | ops r | post | postL | args | listL n | fileL n=>unfold Xh;repeat' (first | ((try dsimp only);apply Pr.Stp.mono;(repeat' (first | exact Pr.Stp.refl ‹_› | refine' Pr.Stp.put ?_ _ _ _ _ _ | refine' Pr.Stp.need ?_ _ | refine' Pr.Stp.name ?_ | refine' Pr.Stp.stop ?_ | refine' Pr.Stp.adv ?_ ‹_› | refine' Pr.Stp.advL ?_ ‹_› | refine' Pr.Stp.run ih _ ?_));(simp only [X6];omega)) | split)
  | paramsL n=>unfold Xh;cases hb:Xa ts sz (XP ts sz s) [61] <;> simp only [hb,Bool.false_eq_true,if_false,if_true] <;> repeat' (first | ((try dsimp only);apply Pr.Stp.mono;(repeat' (first | exact Pr.Stp.refl ‹_› | refine' Pr.Stp.put ?_ _ _ _ _ _ | refine' Pr.Stp.need ?_ _ | refine' Pr.Stp.name ?_ | refine' Pr.Stp.stop ?_ | refine' Pr.Stp.adv ?_ ‹_› | refine' Pr.Stp.advL ?_ ‹_› | refine' Pr.Stp.run ih _ ?_));(simp only [X6];omega)) | split)
  | opsL r =>
   unfold Xh
   split
   ·((try dsimp only);apply Pr.Stp.mono;(repeat' (first | exact Pr.Stp.refl ‹_› | refine' Pr.Stp.put ?_ _ _ _ _ _ | refine' Pr.Stp.need ?_ _ | refine' Pr.Stp.name ?_ | refine' Pr.Stp.stop ?_ | refine' Pr.Stp.adv ?_ ‹_› | refine' Pr.Stp.advL ?_ ‹_› | refine' Pr.Stp.run ih _ ?_));(simp only [X6];omega))
   ·rename_i ho
    have hl:=Pr.op_lt (by simpa using ho)
    simp only
    split <;> ((try dsimp only);apply Pr.Stp.mono;(repeat' (first | exact Pr.Stp.refl ‹_› | refine' Pr.Stp.put ?_ _ _ _ _ _ | refine' Pr.Stp.need ?_ _ | refine' Pr.Stp.name ?_ | refine' Pr.Stp.stop ?_ | refine' Pr.Stp.adv ?_ ‹_› | refine' Pr.Stp.advL ?_ ‹_› | refine' Pr.Stp.run ih _ ?_));(simp only [X6];omega))
  | argsL n nm=>unfold Xh;repeat' (first | ((try dsimp only);apply Pr.Stp.mono;(repeat' (first | exact Pr.Stp.refl ‹_› | refine' Pr.Stp.put ?_ _ _ _ _ _ | refine' Pr.Stp.need ?_ _ | refine' Pr.Stp.name ?_ | refine' Pr.Stp.stop ?_ | refine' Pr.Stp.adv ?_ ‹_› | refine' Pr.Stp.advL ?_ ‹_› | refine' Pr.Stp.run ih _ ?_));(simp only [X6];omega)) | split | simp only)
  | list =>
   unfold Xh
   split
   ·((try dsimp only);apply Pr.Stp.mono;(repeat' (first | exact Pr.Stp.refl ‹_› | refine' Pr.Stp.put ?_ _ _ _ _ _ | refine' Pr.Stp.need ?_ _ | refine' Pr.Stp.name ?_ | refine' Pr.Stp.stop ?_ | refine' Pr.Stp.adv ?_ ‹_› | refine' Pr.Stp.advL ?_ ‹_› | refine' Pr.Stp.run ih _ ?_));(simp only [X6];omega))
   ·dsimp only
    have h1:=ih .e s h
    generalize (Xh ts sz f .e s).1=s1 at *
    split
    ·rename_i hi
     have h2:Pr.Stp ts {X7 s1 with o:=s1.o.take s.o.length} _ _:=(((Pr.Stp.refl (s:={X7 s1 with o:=s1.o.take s.o.length}) (XG hi)).name (sz:=sz)).need (sz:=sz) ZD).run ih .e
     have h3:=h1.swap h2 rfl (by simp only [List.length_take];have:=h1.more;omega)
     generalize (Xh ts sz f .e (Xr ts sz (XP ts sz {X7 s1 with o:=s1.o.take s.o.length}) ZD)).1=s3 at *
     generalize ({s3 with o:=s3.o++s1.o.drop s.o.length}:Pr.Dk)=s4 at *
     simp only [X6] at h3
     cases hb:Xa ts sz s4 Zo
     ·simp only [Bool.false_eq_true,if_false]
      exact ((h3.need _).put _ _ _ _ _).mono (by simp only [X6];omega)
     ·simp only [if_true]
      exact ((((h3.adv hb).run ih .e).need _).put _ _ _ _ _).mono (by simp only [X6];omega)
    ·exact (((h1.run ih (.listL 1)).need _).put _ _ _ _ _).mono (by simp only [X6];omega)
  | record =>
   unfold Xh
   simp only
   split <;> ((try dsimp only);apply Pr.Stp.mono;(repeat' (first | exact Pr.Stp.refl ‹_› | refine' Pr.Stp.put ?_ _ _ _ _ _ | refine' Pr.Stp.need ?_ _ | refine' Pr.Stp.name ?_ | refine' Pr.Stp.stop ?_ | refine' Pr.Stp.adv ?_ ‹_› | refine' Pr.Stp.advL ?_ ‹_› | refine' Pr.Stp.run ih _ ?_));(simp only [X6];omega))
  | recordL n=>unfold Xh;repeat' (first | ((try dsimp only);apply Pr.Stp.mono;(repeat' (first | exact Pr.Stp.refl ‹_› | refine' Pr.Stp.put ?_ _ _ _ _ _ | refine' Pr.Stp.need ?_ _ | refine' Pr.Stp.name ?_ | refine' Pr.Stp.stop ?_ | refine' Pr.Stp.adv ?_ ‹_› | refine' Pr.Stp.advL ?_ ‹_› | refine' Pr.Stp.run ih _ ?_));(simp only [X6];omega)) | (have hl:s.p < ts.length:=YY (sz:=sz) (by simp only [Bool.or_eq_true,beq_iff_eq] at *;omega);simp only;split <;> ((try dsimp only);apply Pr.Stp.mono;(repeat' (first | exact Pr.Stp.refl ‹_› | refine' Pr.Stp.put ?_ _ _ _ _ _ | refine' Pr.Stp.need ?_ _ | refine' Pr.Stp.name ?_ | refine' Pr.Stp.stop ?_ | refine' Pr.Stp.adv ?_ ‹_› | refine' Pr.Stp.advL ?_ ‹_› | refine' Pr.Stp.run ih _ ?_));(simp only [X6];omega))) | split)
  | single =>
   unfold Xh
   have hl:∀ k,k≠0→((X3 ts sz s).kind == k)=true→s.p < ts.length:=fun k hk e=>YY (sz:=sz) (by simp only [beq_iff_eq] at e;omega)
   repeat' (first | ((try dsimp only);apply Pr.Stp.mono;(repeat' (first | exact Pr.Stp.refl ‹_› | refine' Pr.Stp.put ?_ _ _ _ _ _ | refine' Pr.Stp.need ?_ _ | refine' Pr.Stp.name ?_ | refine' Pr.Stp.stop ?_ | refine' Pr.Stp.adv ?_ ‹_› | refine' Pr.Stp.advL ?_ ‹_› | refine' Pr.Stp.run ih _ ?_));(simp only [X6];omega)) | (have:s.p < ts.length:=(by first | exact hl 3 (by decide) ‹_› | exact hl 4 (by decide) ‹_› | exact hl 1 (by decide) ‹_›);((try dsimp only);apply Pr.Stp.mono;(repeat' (first | exact Pr.Stp.refl ‹_› | refine' Pr.Stp.put ?_ _ _ _ _ _ | refine' Pr.Stp.need ?_ _ | refine' Pr.Stp.name ?_ | refine' Pr.Stp.stop ?_ | refine' Pr.Stp.adv ?_ ‹_› | refine' Pr.Stp.advL ?_ ‹_› | refine' Pr.Stp.run ih _ ?_));(simp only [X6];omega))) | split)
  | loadL n=>unfold Xh;repeat' (first | ((try dsimp only);apply Pr.Stp.mono;(repeat' (first | exact Pr.Stp.refl ‹_› | refine' Pr.Stp.put ?_ _ _ _ _ _ | refine' Pr.Stp.need ?_ _ | refine' Pr.Stp.name ?_ | refine' Pr.Stp.stop ?_ | refine' Pr.Stp.adv ?_ ‹_› | refine' Pr.Stp.advL ?_ ‹_› | refine' Pr.Stp.run ih _ ?_));(simp only [X6];omega)) | split | simp only)
  | statement=>unfold Xh;repeat' (first | ((try dsimp only);apply Pr.Stp.mono;(repeat' (first | exact Pr.Stp.refl ‹_› | refine' Pr.Stp.put ?_ _ _ _ _ _ | refine' Pr.Stp.need ?_ _ | refine' Pr.Stp.name ?_ | refine' Pr.Stp.stop ?_ | refine' Pr.Stp.adv ?_ ‹_› | refine' Pr.Stp.advL ?_ ‹_› | refine' Pr.Stp.run ih _ ?_));(simp only [X6];omega)) | (have hl:(X7 s).p < ts.length:=YY (sz:=sz) (by simp only [beq_iff_eq] at *;omega);((try dsimp only);apply Pr.Stp.mono;(repeat' (first | exact Pr.Stp.refl ‹_› | refine' Pr.Stp.put ?_ _ _ _ _ _ | refine' Pr.Stp.need ?_ _ | refine' Pr.Stp.name ?_ | refine' Pr.Stp.stop ?_ | refine' Pr.Stp.adv ?_ ‹_› | refine' Pr.Stp.advL ?_ ‹_› | refine' Pr.Stp.run ih _ ?_));(simp only [X6];omega))) | split)
def Pr.isFile:Pr.Cmd→Bool
 | ⟨_+16,_,_⟩=>true
 | _=>false
theorem Kc {s r:Pr.Dk} {q:Pr.Dk × Nat} {n:Nat} {x y:Int} (h:Pr.Stp ts s r x) (hq:Pr.Stp ts (X7 r) q.1 y) (hn:q.2≤2*(n+1+(q.1.p - (X7 r).p))+3):q.2≤2*(n+(q.1.p - s.p))+3:=by
 have:=h.ge;have:=hq.ge
 rw [Pr.adv_p] at *
 omega
theorem Pr.pe_num (f:Nat):∀ (c:Pr.Cmd) (s:Pr.Dk),Pr.isFile c=false→s.p≤ts.length→(Xh ts sz f c s).2≤2*(YE c+((Xh ts sz f c s).1.p - s.p))+3:=by
 induction f with
 | zero=>intro c s _ h;simp [Xh]
 | succ f ih =>
  intro c s hc h
  have st:∀ (c:Pr.Cmd) (s:Pr.Dk),s.p≤ts.length→Pr.Stp ts s (Xh ts sz f c s).1 (X6 c):=Pr.pe_stp f
  cases c using Pr.Cmd.elim with
  | e =>
   unfold Xh
   split
   ·exact Nat.zero_le _
   ·split
    ·exact Nat.zero_le _
    ·split
     ·exact Nat.zero_le _
     ·exact ih (.ops 1) s rfl h
  | params =>
   unfold Xh
   dsimp only
   have a:=(Pr.Stp.refl h).need (sz:=sz) [40]
   have b:=ih (.paramsL 0) _ rfl a.le
   have c:=((st (.paramsL 0) _ a.le).need (sz:=sz) [41]).ge
   have d:=Pr.need_ge (ts:=ts) (sz:=sz) (Xh ts sz f (.paramsL 0) (Xr ts sz s [40])).1 [41]
   have e:=a.ge
   simp only [YE] at *
   omega
  | paramsL n =>
   unfold Xh
   split
   ·simp only [YE];omega
   ·split
    ·simp only [YE];omega
    ·cases hb:Xa ts sz (XP ts sz s) [61]
     ·simp only [hb,Bool.false_eq_true,if_false]
      split
      ·exact Kc (((Pr.Stp.refl h).name (sz:=sz)).put _ _ _ _ _) (st _ _ (XG ‹_›)) (ih _ _ rfl (XG ‹_›))
      ·simp only [YE];omega
     ·simp only [hb,if_true]
      split
      ·exact Kc (((((Pr.Stp.refl h).name (sz:=sz)).adv hb).run st .e).put _ _ _ _ _) (st _ _ (XG ‹_›)) (ih _ _ rfl (XG ‹_›))
      ·simp only [YE];omega
  | ops r =>
   unfold Xh
   split
   ·exact Nat.zero_le _
   ·split
    ·split
     ·exact Nat.zero_le _
     ·exact ih (.ops 4) s rfl h
    ·split
     ·split
      ·exact Nat.zero_le _
      ·exact ih .post s rfl h
     ·dsimp only
      have a:=st (.ops (r+1)) s h
      have b:=ih (.opsL r) _ rfl a.le
      have c:=a.ge
      simp only [YE] at *
      omega
  | opsL r =>
   unfold Xh
   split
   ·exact Nat.zero_le _
   ·rename_i ho
    have hl:=Pr.op_lt (by simpa using ho)
    dsimp only
    split
    ·exact Nat.zero_le _
    ·have a:=(((Pr.Stp.refl h).advL hl).run st (.ops (r+1))).put 7 (Kb ts sz s r) 0 [] 2
     have b:=ih (.opsL r) _ rfl a.le
     have c:=a.ge
     simp only [YE] at *
     omega
  | post =>
   unfold Xh
   have a:=st .single s h
   have b:=ih .postL _ rfl a.le
   have c:=a.ge
   simp only [YE] at *
   omega
  | postL =>
   unfold Xh
   split
   ·exact Nat.zero_le _
   ·split
    ·dsimp only
     have a:=(((Pr.Stp.refl h).adv ‹_›).run st .args).put 12 0 0 [] (1+(Xh ts sz f .args (X7 s)).2)
     have b:=ih .postL _ rfl a.le
     have c:=a.ge
     simp only [YE] at *
     omega
    ·split
     ·dsimp only
      have a:=((((Pr.Stp.refl h).adv ‹_›).run st .e).need (sz:=sz) [93]).put 10 0 0 [] 2
      have b:=ih .postL _ rfl a.le
      have c:=a.ge
      simp only [YE] at *
      omega
     ·split
      ·have a:=(((Pr.Stp.refl h).adv ‹_›).name (sz:=sz)).put 11 0 0 (Xd ts sz (X7 s)) 1
       have b:=ih .postL _ rfl a.le
       have c:=a.ge
       simp only [YE] at *
       omega
      ·exact Nat.zero_le _
  | args =>
   unfold Xh
   dsimp only
   have b:=ih (.argsL 0 false) _ rfl h
   have d:=Pr.need_ge (ts:=ts) (sz:=sz) (Xh ts sz f (.argsL 0 false) s).1 [41]
   simp only [YE] at *
   omega
  | argsL n nm =>
   unfold Xh
   split
   ·simp only [YE];omega
   ·split
    ·simp only [YE];omega
    ·dsimp only
     split
     ·split
      ·exact Kc (((((Pr.Stp.refl h).name (sz:=sz)).need (sz:=sz) [61]).run st .e).put _ _ _ _ _) (st _ _ (XG ‹_›)) (ih _ _ rfl (XG ‹_›))
      ·simp only [YE];omega
     ·split
      ·exact Kc ((Pr.Stp.refl h).run st .e) (st _ _ (XG ‹_›)) (ih _ _ rfl (XG ‹_›))
      ·simp only [YE];omega
  | list =>
   unfold Xh
   split
   ·exact Nat.zero_le _
   ·dsimp only
    split <;> exact Nat.zero_le _
  | listL n =>
   unfold Xh
   split
   ·have a:=((Pr.Stp.refl h).adv ‹_›).run st .e
    have b:=ih (.listL (n+1)) _ rfl a.le
    have c:=a.ge
    have d:=(st .e (X7 s) (XG ‹_›)).ge
    have e:=(st (.listL (n+1)) _ a.le).ge
    rw [Pr.adv_p] at d
    simp only [YE] at *
    omega
   ·simp only [YE];omega
  | record=>unfold Xh;exact Nat.zero_le _
  | recordL n =>
   unfold Xh
   split
   ·simp only [YE];omega
   ·split
    ·simp only [YE];omega
    ·split
     ·rename_i hk
      have hl:s.p < ts.length:=YY (sz:=sz) (by simp only [Bool.or_eq_true,beq_iff_eq] at hk;omega)
      dsimp only
      split
      ·exact Kc (((((Pr.Stp.refl h).advL hl).need (sz:=sz) [58]).run st .e).put _ _ _ _ _) (st _ _ (XG ‹_›)) (ih _ _ rfl (XG ‹_›))
      ·simp only [YE];omega
     ·simp only [YE];omega
  | single =>
   unfold Xh
   repeat' (first | exact Nat.zero_le _ | (split))
   ·have b:=ih .list (X7 s) rfl (XG (by assumption))
    simp only [YE,Pr.adv_p] at *
    omega
   ·have b:=ih .record (X7 s) rfl (XG (by assumption))
    simp only [YE,Pr.adv_p] at *
    omega
  | loadL n =>
   unfold Xh
   split
   ·simp only [YE];omega
   ·dsimp only
    split
    ·exact Kc (((Pr.Stp.refl h).name (sz:=sz)).put _ _ _ _ _) (st _ _ (XG ‹_›)) (ih _ _ rfl (XG ‹_›))
    ·simp only [YE];omega
  | statement =>
   unfold Xh
   repeat' (first | exact Nat.zero_le _ | (split))
  | fileL n=>exact absurd hc (by simp [Pr.isFile])
end
end Go.Proofs.YtimbaebigjjkaaaGreatDoor
