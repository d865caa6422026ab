import Derived.Test.YtaeafhenpjnhiaaGreatDoorE01
namespace Go.Proofs.YtaeafhenpjnhiaaGreatDoor
structure Pr.Dk where
 p:Nat
 bad:Bool
 place:Nat
 o:List Nd
def X3(ts:List Sc.T)(sz:Nat)(s:Pr.Dk):Sc.T:=ts[s.p]?.getD ⟨0,[],0,sz⟩
def X2(s:Pr.Dk):Pr.Dk:={s with p:=s.p+1}
def X9(s:Pr.Dk)(k o n:Int)(t:List UInt8)(c:Nat):Pr.Dk:={s with o:=s.o++[⟨k,o,n,⟨t.toArray⟩,c⟩]}
def Z0(ts:List Sc.T)(sz:Nat)(s:Pr.Dk):Pr.Dk:=if s.bad then s else {s with bad:=true,place:=(X3 ts sz s).place}
def X4(ts:List Sc.T)(sz:Nat)(s:Pr.Dk)(t:List UInt8):Bool:=!s.bad&&((X3 ts sz s).kind==2||(X3 ts sz s).kind==5)&&(X3 ts sz s).text==t
def V7(ts:List Sc.T)(sz:Nat)(s:Pr.Dk)(t:List UInt8):Pr.Dk:=if X4 ts sz s t then X2 s else s
def Xd(ts:List Sc.T)(sz:Nat)(s:Pr.Dk)(t:List UInt8):Pr.Dk:=if X4 ts sz s t then X2 s else Z0 ts sz s
def K2(ts:List Sc.T)(sz:Nat)(s:Pr.Dk):Bool:=!s.bad&&(X3 ts sz s).kind==1
def Xe(ts:List Sc.T)(sz:Nat)(s:Pr.Dk):List UInt8:=if K2 ts sz s then(X3 ts sz s).text else[]
def Xm(ts:List Sc.T)(sz:Nat)(s:Pr.Dk):Pr.Dk:=if K2 ts sz s then X2 s else Z0 ts sz s
def Yd(op:Nat):List UInt8:=([[],[111,114],[97,110,100],[61,61],[33,61],[60],[60,61],[62],[62,61],[104,97,115],[43],[45],[42],[47],[37]]:List (List UInt8))[op]?.getD []
def Xi(op:Nat):Nat:=if op<=2 then op else if op<=9 then 4 else if op<=11 then 5 else 6
def Ks(ts:List Sc.T)(sz:Nat)(s:Pr.Dk)(r:Nat):Nat->Nat->Nat
 | 0,_=>0
 | f+1,o=>if Xi o==r&&X4 ts sz s (Yd o)then o else Ks ts sz s r f (o+1)
def YT(ts:List Sc.T)(sz:Nat)(s:Pr.Dk)(r:Nat):Nat:=Ks ts sz s r 14 1
def Yl(ts:List Sc.T)(sz:Nat)(s:Pr.Dk):Bool:=(X3 ts sz s).kind==1&&decide (s.p+1<ts.length)&&(X3 ts sz (X2 s)).kind==5&&(X3 ts sz (X2 s)).text==[61]
structure Zb where
 mk ::
 (t n:Nat)
 (b:Bool)
abbrev Zb.e:=Zb.mk 0 0 false
abbrev Zb.params:=Zb.mk 1 0 false
abbrev Zb.Yn (n:Nat):=Zb.mk 2 n false
abbrev Zb.ops (r:Nat):=Zb.mk 3 r false
abbrev Zb.opsL (r:Nat):=Zb.mk 4 r false
abbrev Zb.post:=Zb.mk 5 0 false
abbrev Zb.Yr:=Zb.mk 6 0 false
abbrev Zb.args:=Zb.mk 7 0 false
abbrev Zb.argsL (n:Nat)(nm:Bool):=Zb.mk 8 n nm
abbrev Zb.list:=Zb.mk 9 0 false
abbrev Zb.Zl (n:Nat):=Zb.mk 10 n false
abbrev Zb.record:=Zb.mk 11 0 false
abbrev Zb.recordL (n:Nat):=Zb.mk 12 n false
abbrev Zb.single:=Zb.mk 13 0 false
abbrev Zb.YX (n:Nat):=Zb.mk 14 n false
abbrev Zb.statement:=Zb.mk 15 0 false
abbrev Zb.fileL (n:Nat):=Zb.mk 16 n false
theorem Zb.elim {m:Zb->Prop}(e:∀n b,m ⟨0,n,b⟩)(params:∀n b,m ⟨1,n,b⟩)(Yn:∀n b,m ⟨2,n,b⟩)(ops:∀n b,m ⟨3,n,b⟩)(opsL:∀n b,m ⟨4,n,b⟩)(post:∀n b,m ⟨5,n,b⟩)(Yr:∀n b,m ⟨6,n,b⟩)(args:∀n b,m ⟨7,n,b⟩)(argsL:∀n b,m ⟨8,n,b⟩)(list:∀n b,m ⟨9,n,b⟩)(Zl:∀n b,m ⟨10,n,b⟩)(record:∀n b,m ⟨11,n,b⟩)(recordL:∀n b,m ⟨12,n,b⟩)(single:∀n b,m ⟨13,n,b⟩)(YX:∀n b,m ⟨14,n,b⟩)(statement:∀n b,m ⟨15,n,b⟩)(fileL:∀n t b,m ⟨t+16,n,b⟩)(c:Zb):m c:=by
 obtain ⟨t,n,b⟩:=c
 match t with
 |0=>exact e n b
 |1=>exact params n b
 |2=>exact Yn n b
 |3=>exact ops n b
 |4=>exact opsL n b
 |5=>exact post n b
 |6=>exact Yr n b
 |7=>exact args n b
 |8=>exact argsL n b
 |9=>exact list n b
 |10=>exact Zl n b
 |11=>exact record n b
 |12=>exact recordL n b
 |13=>exact single n b
 |14=>exact YX n b
 |15=>exact statement n b
 | t+16=>exact fileL n t b
def XM:List UInt8:=[108,101,116]
def Y1:List UInt8:=[105,110]
def XR:List UInt8:=[105,102]
def Qi:List UInt8:=[116,104,101,110]
def Qq:List UInt8:=[101,108,115,101]
def Zz:List UInt8:=[102,110]
def Zk:List UInt8:=[110,111,116]
def Zr:List UInt8:=[102,111,114]
def Zj:List UInt8:=[110,111,110,101]
def ZK:List UInt8:=[102,97,108,115,101]
def K4:List UInt8:=[116,114,117,101]
def Z7:List UInt8:=[100,101,102]
def K3:List UInt8:=[101,109,105,116]
def Kj:List UInt8:=[108,111,97,100]
section
variable (ts:List Sc.T) (sz:Nat)
def Xc:Nat->Zb->Pr.Dk->Pr.Dk × Nat
 | 0,_,s=>(s,0)
 | f+1,.mk 0 _ _,s=>
  if X4 ts sz s XM then
   let s1:=(Xc f .e (Xd ts sz (Xm ts sz (X2 s)) [61])).1
   let s2:=(Xc f .e (Xd ts sz s1 Y1)).1
   (X9 s2 14 0 0 (Xe ts sz (X2 s)) 2,0)
  else if X4 ts sz s XR then
   let s1:=(Xc f .e (X2 s)).1
   let s2:=(Xc f .e (Xd ts sz s1 Qi)).1
   let s3:=(Xc f .e (Xd ts sz s2 Qq)).1
   (X9 s3 13 0 0 [] 3,0)
  else if X4 ts sz s Zz then
   let r1:=Xc f .params (X2 s)
   let s2:=(Xc f .e (Xd ts sz r1.1 [61,62])).1
   (X9 s2 15 0 0 [] (r1.2+1),0)
  else Xc f (.ops 1) s
 | f+1,.mk 1 _ _,s=>
  let r:=Xc f (.Yn 0) (Xd ts sz s [40])
  (Xd ts sz r.1 [41],r.2)
 | f+1,.mk 2 n _,s=>
  if s.bad then(s,n)
  else if n==0&&X4 ts sz s [41]then(s,n)
  else
   let s1:=Xm ts sz s
   let s2:=if X4 ts sz s1 [61]then(Xc f .e (X2 s1)).1 else s1
   let s3:=X9 s2 19 0 0 (Xe ts sz s) (if X4 ts sz s1 [61]then 1 else 0)
   if X4 ts sz s3 [44]then Xc f (.Yn (n+1)) (X2 s3)else(s3,n+1)
 | f+1,.mk 3 r _,s=>
  if s.bad then(s,0)
  else if r==3 then
   if X4 ts sz s Zk then
    let s1:=(Xc f (.ops 3) (X2 s)).1
    (X9 s1 6 1 0 [] 1,0)
   else Xc f (.ops 4) s
  else if r==7 then
   if X4 ts sz s [45]then
    let s1:=(Xc f (.ops 7) (X2 s)).1
    (X9 s1 6 2 0 [] 1,0)
   else Xc f .post s
  else
   let s1:=(Xc f (.ops (r+1)) s).1
   Xc f (.opsL r) s1
 | f+1,.mk 4 r _,s=>
  if YT ts sz s r==0 then(s,0)
  else
   let s1:=(Xc f (.ops (r+1)) (X2 s)).1
   let s2:=X9 s1 7 (YT ts sz s r) 0 [] 2
   if r==4 then(s2,0)else Xc f (.opsL r) s2
 | f+1,.mk 5 _ _,s=>Xc f .Yr (Xc f .single s).1
 | f+1,.mk 6 _ _,s=>
  if s.bad then(s,0)
  else if X4 ts sz s [40]then
   let r:=Xc f .args (X2 s)
   Xc f .Yr (X9 r.1 12 0 0 [] (1+r.2))
  else if X4 ts sz s [91]then
   let s1:=(Xc f .e (X2 s)).1
   Xc f .Yr (X9 (Xd ts sz s1 [93]) 10 0 0 [] 2)
  else if X4 ts sz s [46]then
   Xc f .Yr (X9 (Xm ts sz (X2 s)) 11 0 0 (Xe ts sz (X2 s)) 1)
  else(s,0)
 | f+1,.mk 7 _ _,s=>
  let r:=Xc f (.argsL 0 false) s
  (Xd ts sz r.1 [41],r.2)
 | f+1,.mk 8 n nm,s=>
  if s.bad then(s,n)
  else if n==0&&X4 ts sz s [41]then(s,n)
  else
   let b:=nm||Yl ts sz s
   let s1:=if b then X9 (Xc f .e (Xd ts sz (Xm ts sz s) [61])).1 18 0 0 (Xe ts sz s) 1 else(Xc f .e s).1
   if X4 ts sz s1 [44]then Xc f (.argsL (n+1) b) (X2 s1)else(s1,n+1)
 | f+1,.mk 9 _ _,s=>
  if X4 ts sz s [93]then(X9 (X2 s) 8 0 0 [] 0,0)
  else
   let s1:=(Xc f .e s).1
   if X4 ts sz s1 Zr then
    let s2:={X2 s1 with o:=s1.o.take s.o.length}
    let s3:=(Xc f .e (Xd ts sz (Xm ts sz s2) Y1)).1
    let s4:={s3 with o:=s3.o++s1.o.drop s.o.length}
    let s5:=if X4 ts sz s4 XR then(Xc f .e (X2 s4)).1 else s4
    (X9 (Xd ts sz s5 [93]) 16 0 0 (Xe ts sz s2) (if X4 ts sz s4 XR then 3 else 2),0)
   else
    let r:=Xc f (.Zl 1) s1
    (X9 (Xd ts sz r.1 [93]) 8 0 0 [] r.2,0)
 | f+1,.mk 10 n _,s=>
  if X4 ts sz s [44]then Xc f (.Zl (n+1)) (Xc f .e (X2 s)).1 else(s,n)
 | f+1,.mk 11 _ _,s=>
  let r:=Xc f (.recordL 0) s
  (if r.2%2==1 then r.1 else X9 (Xd ts sz r.1 [125]) 9 0 0 [] (r.2 / 2),0)
 | f+1,.mk 12 n _,s=>
  if s.bad then(s,2*n)
  else if n==0&&X4 ts sz s [125]then(s,2*n)
  else if(X3 ts sz s).kind==1||(X3 ts sz s).kind==4 then
   let s1:=(Xc f .e (Xd ts sz (X2 s) [58])).1
   let s2:=X9 s1 17 0 0 (X3 ts sz s).text 1
   if X4 ts sz s2 [44]then Xc f (.recordL (n+1)) (X2 s2)else(s2,2*(n+1))
  else(Z0 ts sz s,2*n+1)
 | f+1,.mk 13 _ _,s=>
  if s.bad then(s,0)
  else if(X3 ts sz s).kind==3 then(X9 (X2 s) 3 0 (X3 ts sz s).n [] 0,0)
  else if(X3 ts sz s).kind==4 then(X9 (X2 s) 4 0 0 (X3 ts sz s).text 0,0)
  else if(X3 ts sz s).kind==1 then(X9 (X2 s) 5 0 0 (X3 ts sz s).text 0,0)
  else if X4 ts sz s Zj then(X9 (X2 s) 1 0 0 [] 0,0)
  else if X4 ts sz s ZK then(X9 (X2 s) 2 0 0 [] 0,0)
  else if X4 ts sz s K4 then(X9 (X2 s) 2 0 1 [] 0,0)
  else if X4 ts sz s [91]then Xc f .list (X2 s)
  else if X4 ts sz s [123]then Xc f .record (X2 s)
  else if X4 ts sz s [40]then(Xd ts sz (Xc f .e (X2 s)).1 [41],0)
  else(Z0 ts sz s,0)
 | f+1,.mk 14 n _,s=>
  if s.bad then(s,n)
  else
   let s1:=X9 (Xm ts sz s) 5 0 0 (Xe ts sz s) 0
   if X4 ts sz s1 [44]then Xc f (.YX (n+1)) (X2 s1)else(s1,n+1)
 | f+1,.mk 15 _ _,s=>
  if X4 ts sz s Z7 then
   let s1:=Xm ts sz (X2 s)
   let r:=Xc f .params s1
   let s2:=(Xc f .e (Xd ts sz r.1 [61])).1
   (Xd ts sz (X9 s2 20 0 0 (Xe ts sz (X2 s)) (r.2+1)) [59],0)
  else if X4 ts sz s XM then
   let s2:=(Xc f .e (Xd ts sz (Xm ts sz (X2 s)) [61])).1
   (Xd ts sz (X9 s2 21 0 0 (Xe ts sz (X2 s)) 1) [59],0)
  else if X4 ts sz s K3 then
   (Xd ts sz (X9 (Xc f .e (X2 s)).1 22 0 0 [] 1) [59],0)
  else if X4 ts sz s Kj then
   if(X3 ts sz (X2 s)).kind==4 then
    let r:=Xc f (.YX 0) (Xd ts sz (X2 (X2 s)) [58])
    (Xd ts sz (X9 r.1 23 0 0 (X3 ts sz (X2 s)).text r.2) [59],0)
   else(Z0 ts sz (X2 s),0)
  else(Xd ts sz (Z0 ts sz s) [59],0)
 | f+1,⟨_+16,n,_⟩,s=>
  if s.bad||decide (ts.length<=s.p)then(s,n)
  else Xc f (.fileL (n+1)) (Xc f .statement s).1
def Pr.Cv(c:Zb)(s:Pr.Dk)(r:Pr.Dk × Nat):Prop:=∃f0,∀f,f0<=f->Xc ts sz f c s=r
end
def XX:Zb->Nat
 | ⟨1,_,_⟩=>1 | ⟨2,_,_⟩=>1 | ⟨7,_,_⟩=>1 | ⟨8,_,_⟩=>1 | ⟨9,_,_⟩=>1 | ⟨11,_,_⟩=>1 | ⟨14,_,_⟩=>1
 | _=>0
def Zf:Zb->Nat
 | ⟨2,n,_⟩=>n | ⟨8,n,_⟩=>n | ⟨10,n,_⟩=>n | ⟨12,n,_⟩=>n | ⟨14,n,_⟩=>n | ⟨_+16,n,_⟩=>n
 | _=>0
structure Pr.Stp (ts:List Sc.T) (s r:Pr.Dk) (x:Int):Prop where
 ge:s.p<=r.p
 le:r.p<=ts.length
 more:s.o.length<=r.o.length
 XP:(r.o.length:Int)<=s.o.length+4*((r.p:Int)-s.p)+x
section
variable {ts:List Sc.T} {sz:Nat}
theorem QB{s:Pr.Dk}(h:(X3 ts sz s).kind≠0):s.p<ts.length:=by
 unfold X3 at h;by_cases a:s.p<ts.length
 .exact a
 .rw[Dp (by omega)]at h;simp at h
theorem Yb{s:Pr.Dk}{t:List UInt8}(h:X4 ts sz s t=true):s.p<ts.length:=by
 apply QB (sz:=sz);unfold X4 at h;simp only[XE,UX,Ql]at h;omega
theorem RB{s:Pr.Dk}(h:K2 ts sz s=true):s.p<ts.length:=by
 apply QB (sz:=sz);unfold K2 at h;simp only[XE,Ql]at h;omega
theorem RH{s:Pr.Dk}{r:Nat}:∀(f o:Nat),Ks ts sz s r f o≠0->s.p<ts.length
 | 0,_,h=>by simp[Ks]at h
 | f+1,o,h=>by
  unfold Ks at h;split at h
  .rename_i a;simp only[XE]at a;exact Yb a.2
  .exact RH f _ h
theorem Io(s:Pr.Dk):(Z0 ts sz s).p=s.p:=by unfold Z0;split<;>rfl
theorem DA(s:Pr.Dk):(Z0 ts sz s).o=s.o:=by unfold Z0;split<;>rfl
theorem F9(s:Pr.Dk)(t:List UInt8):(Xd ts sz s t).o=s.o:=by unfold Xd;split;rfl;exact DA s
theorem F6(s:Pr.Dk):(Xm ts sz s).o=s.o:=by unfold Xm;split;rfl;exact DA s
theorem RE(s:Pr.Dk)(t:List UInt8):s.p<=(Xd ts sz s t).p:=by unfold Xd;split;exact Qy _;exact Nat.le_of_eq (Io s).symm
theorem Y3x{s:Pr.Dk}{t:List UInt8}(h:X4 ts sz (Xm ts sz s) t=true):(Xm ts sz s).p=s.p+1:=by
 unfold Xm at h⊢;split
 .rfl
 .rename_i d;rw[X6 d]at h;exfalso;have a:(Z0 ts sz s).bad=true:=by unfold Z0;split;assumption;rfl
  unfold X4 at h;rw[a]at h;simp at h
@[simp] theorem Pr.adv_p (s:Pr.Dk):(X2 s).p=s.p+1:=rfl
@[simp] theorem Pr.adv_out (s:Pr.Dk):(X2 s).o=s.o:=rfl
@[simp] theorem Pr.put_p (s:Pr.Dk) (k o n:Int) (t:List UInt8) (c:Nat):(X9 s k o n t c).p=s.p:=rfl
@[simp] theorem Pr.put_len (s:Pr.Dk) (k o n:Int) (t:List UInt8) (c:Nat):(X9 s k o n t c).o.length=s.o.length+1:=by simp[X9]
theorem Mt{s:Pr.Dk}{r:Nat}(h:(YT ts sz s r==0)=false):s.p<ts.length:=RH _ _ (fun e=>by unfold YT at h;rw[e]at h;simp at h)
theorem Pr.Stp.refl{s:Pr.Dk}(h:s.p<=ts.length):Pr.Stp ts s s 0:=⟨X5 _,h,X5 _,by omega⟩
theorem Pr.Stp.mono{s r:Pr.Dk}{x y:Int}(h:Pr.Stp ts s r x)(a:x<=y):Pr.Stp ts s r y:=⟨h.ge,h.le,h.more,by have:=h.XP;omega⟩
theorem Pr.Stp.trans{s r q:Pr.Dk}{x y:Int}(h:Pr.Stp ts s r x)(k:Pr.Stp ts r q y):Pr.Stp ts s q (x+y):=⟨Xz h.ge k.ge,k.le,Xz h.more k.more,by have:=h.XP;have:=k.XP;omega⟩
theorem Pr.Stp.put{s r:Pr.Dk}{x:Int}(h:Pr.Stp ts s r x)(k o n:Int)(t:List UInt8)(c:Nat):Pr.Stp ts s (X9 r k o n t c) (x+1):=⟨h.ge,h.le,by rw[Pr.put_len];exact Nat.le_succ_of_le h.more,by rw[Pr.put_len,Pr.put_p];have:=h.XP;omega⟩
theorem Pr.Stp.Z6{s r:Pr.Dk}{x:Int}(h:Pr.Stp ts s r x)(a:r.p<ts.length):Pr.Stp ts s (X2 r) (x-4):=⟨Nat.le_succ_of_le h.ge,a,h.more,by rw[Pr.adv_p,Pr.adv_out];have:=h.XP;omega⟩
theorem Pr.Stp.adv{s r:Pr.Dk}{x:Int}{t:List UInt8}(h:Pr.Stp ts s r x)(a:X4 ts sz r t=true):Pr.Stp ts s (X2 r) (x-4):=h.Z6 (Yb a)
theorem Pr.Stp.stop{s r:Pr.Dk}{x:Int}(h:Pr.Stp ts s r x):Pr.Stp ts s (Z0 ts sz r) x:=⟨by rw[Io];exact h.ge,by rw[Io];exact h.le,by rw[DA];exact h.more,by rw[Io,DA];exact h.XP⟩
theorem Pr.Stp.X7{s r:Pr.Dk}{x:Int}(h:Pr.Stp ts s r x)(t:List UInt8):Pr.Stp ts s (Xd ts sz r t) x:=by
 unfold Xd;split
 .rename_i hi;exact(h.adv hi).mono (by omega)
 .exact h.stop
theorem Pr.Stp.name{s r:Pr.Dk}{x:Int}(h:Pr.Stp ts s r x):Pr.Stp ts s (Xm ts sz r) x:=by
 unfold Xm;split
 .rename_i hi;exact(h.Z6 (RB hi)).mono (by omega)
 .exact h.stop
theorem Pr.Stp.swap{s a d g:Pr.Dk}{x y:Int}(h:Pr.Stp ts s a x)(k:Pr.Stp ts d g y)(E:d.p=a.p+1)(C:d.o.length=s.o.length):Pr.Stp ts s {g with o:=g.o++a.o.drop s.o.length} (x+y-4):=by
 obtain⟨j,m,n,r⟩:=h;obtain⟨u,v,A,B⟩:=k;constructor<;>simp only[Xj,YC]<;>omega
theorem Pr.Stp.run{f:Nat}(a:∀(c:Zb) (s:Pr.Dk),s.p<=ts.length->Pr.Stp ts s (Xc ts sz f c s).1 (XX c)){s r:Pr.Dk}{x:Int}(c:Zb)(h:Pr.Stp ts s r x):Pr.Stp ts s (Xc ts sz f c r).1 (x+XX c):=h.trans (a c r h.le)
theorem Mu(f:Nat):∀(c:Zb) (s:Pr.Dk),s.p<=ts.length->Pr.Stp ts s (Xc ts sz f c s).1 (XX c):=by
 induction f with
 | zero=>intro c s h;exact(Pr.Stp.refl h).mono (by omega)
 | succ f a=>
  intro c s h;cases c using Zb.elim with
  | e|params|ops r|post|Yr|args|Zl n|fileL n|argsL n nm|YX n=>unfold Xc;repeat' (first|((try dsimp only);apply Pr.Stp.mono;(repeat' (first|exact Pr.Stp.refl ‹_› | refine' Pr.Stp.put ?_ _ _ _ _ _|refine' Pr.Stp.X7 ?_ _|refine' Pr.Stp.name ?_|refine' Pr.Stp.stop ?_|refine' Pr.Stp.adv ?_ ‹_› | refine' Pr.Stp.Z6 ?_ ‹_› | refine' Pr.Stp.run a _ ?_));(simp only[XX];omega))|split|simp only)
  | Yn n=>unfold Xc;cases u:X4 ts sz (Xm ts sz s) [61]<;>simp only[u,Jq,Kl,Kv]<;>repeat' (first|((try dsimp only);apply Pr.Stp.mono;(repeat' (first|exact Pr.Stp.refl ‹_› | refine' Pr.Stp.put ?_ _ _ _ _ _|refine' Pr.Stp.X7 ?_ _|refine' Pr.Stp.name ?_|refine' Pr.Stp.stop ?_|refine' Pr.Stp.adv ?_ ‹_› | refine' Pr.Stp.Z6 ?_ ‹_› | refine' Pr.Stp.run a _ ?_));(simp only[XX];omega))|split)
  | opsL r=>
   unfold Xc;split
   ·((try dsimp only);apply Pr.Stp.mono;(repeat' (first|exact Pr.Stp.refl ‹_› | refine' Pr.Stp.put ?_ _ _ _ _ _|refine' Pr.Stp.X7 ?_ _|refine' Pr.Stp.name ?_|refine' Pr.Stp.stop ?_|refine' Pr.Stp.adv ?_ ‹_› | refine' Pr.Stp.Z6 ?_ ‹_› | refine' Pr.Stp.run a _ ?_));(simp only[XX];omega))
   .rename_i A;have g:=Mt (by simpa using A);simp only;split<;>((try dsimp only);apply Pr.Stp.mono;(repeat' (first|exact Pr.Stp.refl ‹_› | refine' Pr.Stp.put ?_ _ _ _ _ _|refine' Pr.Stp.X7 ?_ _|refine' Pr.Stp.name ?_|refine' Pr.Stp.stop ?_|refine' Pr.Stp.adv ?_ ‹_› | refine' Pr.Stp.Z6 ?_ ‹_› | refine' Pr.Stp.run a _ ?_));(simp only[XX];omega))
  | list=>
   unfold Xc;split
   ·((try dsimp only);apply Pr.Stp.mono;(repeat' (first|exact Pr.Stp.refl ‹_› | refine' Pr.Stp.put ?_ _ _ _ _ _|refine' Pr.Stp.X7 ?_ _|refine' Pr.Stp.name ?_|refine' Pr.Stp.stop ?_|refine' Pr.Stp.adv ?_ ‹_› | refine' Pr.Stp.Z6 ?_ ‹_› | refine' Pr.Stp.run a _ ?_));(simp only[XX];omega))
   .dsimp only
    have j:=a .e s h;generalize(Xc ts sz f .e s).1=d at *;split
    .rename_i hi;have y:Pr.Stp ts {X2 d with o:=d.o.take s.o.length} _ _:=(((Pr.Stp.refl (s:={X2 d with o:=d.o.take s.o.length}) (Yb hi)).name (sz:=sz)).X7 (sz:=sz) Y1).run a .e;have m:=j.swap y rfl (by simp only[YO];have:=j.more;omega);generalize(Xc ts sz f .e (Xd ts sz (Xm ts sz {X2 d with o:=d.o.take s.o.length}) Y1)).1=v at *;generalize({v with o:=v.o++d.o.drop s.o.length}:Pr.Dk)=B at *;simp only[XX]at m;cases u:X4 ts sz B XR
     .simp only[Jq,Kl];exact((m.X7 _).put _ _ _ _ _).mono (by simp only[XX];omega)
     .simp only[Kv];exact((((m.adv u).run a .e).X7 _).put _ _ _ _ _).mono (by simp only[XX];omega)
    .exact(((j.run a (.Zl 1)).X7 _).put _ _ _ _ _).mono (by simp only[XX];omega)
  | record=>
   unfold Xc;simp only;split<;>((try dsimp only);apply Pr.Stp.mono;(repeat' (first|exact Pr.Stp.refl ‹_› | refine' Pr.Stp.put ?_ _ _ _ _ _|refine' Pr.Stp.X7 ?_ _|refine' Pr.Stp.name ?_|refine' Pr.Stp.stop ?_|refine' Pr.Stp.adv ?_ ‹_› | refine' Pr.Stp.Z6 ?_ ‹_› | refine' Pr.Stp.run a _ ?_));(simp only[XX];omega))
  | recordL n=>unfold Xc;repeat' (first|((try dsimp only);apply Pr.Stp.mono;(repeat' (first|exact Pr.Stp.refl ‹_› | refine' Pr.Stp.put ?_ _ _ _ _ _|refine' Pr.Stp.X7 ?_ _|refine' Pr.Stp.name ?_|refine' Pr.Stp.stop ?_|refine' Pr.Stp.adv ?_ ‹_› | refine' Pr.Stp.Z6 ?_ ‹_› | refine' Pr.Stp.run a _ ?_));(simp only[XX];omega))|(have g:s.p<ts.length:=QB (sz:=sz) (by simp only[UX,Ql]at *;omega);simp only;split)|split)
  | single=>
   unfold Xc;have g:∀k,k≠0->((X3 ts sz s).kind==k)=true->s.p<ts.length:=fun k C e=>QB (sz:=sz) (by simp only[Ql]at e;omega);repeat' (first|((try dsimp only);apply Pr.Stp.mono;(repeat' (first|exact Pr.Stp.refl ‹_› | refine' Pr.Stp.put ?_ _ _ _ _ _|refine' Pr.Stp.X7 ?_ _|refine' Pr.Stp.name ?_|refine' Pr.Stp.stop ?_|refine' Pr.Stp.adv ?_ ‹_› | refine' Pr.Stp.Z6 ?_ ‹_› | refine' Pr.Stp.run a _ ?_));(simp only[XX];omega))|(have:s.p<ts.length:=(by first|exact g 3 (by decide) ‹_› | exact g 4 (by decide) ‹_› | exact g 1 (by decide) ‹_›))|split)
  | statement=>unfold Xc;repeat' (first|((try dsimp only);apply Pr.Stp.mono;(repeat' (first|exact Pr.Stp.refl ‹_› | refine' Pr.Stp.put ?_ _ _ _ _ _|refine' Pr.Stp.X7 ?_ _|refine' Pr.Stp.name ?_|refine' Pr.Stp.stop ?_|refine' Pr.Stp.adv ?_ ‹_› | refine' Pr.Stp.Z6 ?_ ‹_› | refine' Pr.Stp.run a _ ?_));(simp only[XX];omega))|(have g:(X2 s).p<ts.length:=QB (sz:=sz) (by simp only[Ql]at *;omega))|split)
def Mq:Zb->Bool
 | ⟨_+16,_,_⟩=>true
 | _=>false
theorem Ww{s r:Pr.Dk}{q:Pr.Dk × Nat}{n:Nat}{x y:Int}(h:Pr.Stp ts s r x)(a:Pr.Stp ts (X2 r) q.1 y)(d:q.2<=2*(n+1+(q.1.p-(X2 r).p))+3):q.2<=2*(n+(q.1.p-s.p))+3:=by
 have:=h.ge;have:=a.ge;rw[Pr.adv_p]at *;omega
theorem Ff(f:Nat):∀(c:Zb) (s:Pr.Dk),Mq c=false->s.p<=ts.length->(Xc ts sz f c s).2<=2*(Zf c+((Xc ts sz f c s).1.p-s.p))+3:=by
 induction f with
 | zero=>intro c s _ h;simp[Xc]
 | succ f g=>
  intro c s m h;have st:∀(c:Zb) (s:Pr.Dk),s.p<=ts.length->Pr.Stp ts s (Xc ts sz f c s).1 (XX c):=Mu f;cases c using Zb.elim with
  | e=>
   unfold Xc;split
   .exact Xb _
   .split
    .exact Xb _
    .split
     .exact Xb _
     .exact g (.ops 1) s rfl h
  | params=>
   unfold Xc
   dsimp only
   have a:=(Pr.Stp.refl h).X7 (sz:=sz) [40];have b:=g (.Yn 0) _ rfl a.le;have c:=((st (.Yn 0) _ a.le).X7 (sz:=sz) [41]).ge;have d:=RE (ts:=ts) (sz:=sz) (Xc ts sz f (.Yn 0) (Xd ts sz s [40])).1 [41];have e:=a.ge;simp only[Zf]at *;omega
  | Yn n=>
   unfold Xc;split
   .simp only[Zf];omega
   .split
    .simp only[Zf];omega
    .cases j:X4 ts sz (Xm ts sz s) [61]
     .simp only[j,Jq,Kl];split
      .exact Ww (((Pr.Stp.refl h).name (sz:=sz)).put _ _ _ _ _) (st _ _ (Yb ‹_›)) (g _ _ rfl (Yb ‹_›))
      .simp only[Zf];omega
     .simp only[j,Kv];split
      .exact Ww (((((Pr.Stp.refl h).name (sz:=sz)).adv j).run st .e).put _ _ _ _ _) (st _ _ (Yb ‹_›)) (g _ _ rfl (Yb ‹_›))
      .simp only[Zf];omega
  | ops r=>
   unfold Xc;split
   .exact Xb _
   .split
    .split
     .exact Xb _
     .exact g (.ops 4) s rfl h
    .split
     .split
      .exact Xb _
      .exact g .post s rfl h
     .dsimp only
      have a:=st (.ops (r+1)) s h;have b:=g (.opsL r) _ rfl a.le;have c:=a.ge;simp only[Zf]at *;omega
  | opsL r=>
   unfold Xc;split
   .exact Xb _
   .rename_i v;have k:=Mt (by simpa using v)
    dsimp only
    split
    .exact Xb _
    .have a:=(((Pr.Stp.refl h).Z6 k).run st (.ops (r+1))).put 7 (YT ts sz s r) 0 [] 2;have b:=g (.opsL r) _ rfl a.le;have c:=a.ge;simp only[Zf]at *;omega
  | post=>
   unfold Xc;have a:=st .single s h;have b:=g .Yr _ rfl a.le;have c:=a.ge;simp only[Zf]at *;omega
  | Yr=>
   unfold Xc;split
   .exact Xb _
   .split
    .dsimp only
     have a:=(((Pr.Stp.refl h).adv ‹_›).run st .args).put 12 0 0 [] (1+(Xc ts sz f .args (X2 s)).2);have b:=g .Yr _ rfl a.le;have c:=a.ge;simp only[Zf]at *;omega
    .split
     .dsimp only
      have a:=((((Pr.Stp.refl h).adv ‹_›).run st .e).X7 (sz:=sz) [93]).put 10 0 0 [] 2;have b:=g .Yr _ rfl a.le;have c:=a.ge;simp only[Zf]at *;omega
     .split
      .have a:=(((Pr.Stp.refl h).adv ‹_›).name (sz:=sz)).put 11 0 0 (Xe ts sz (X2 s)) 1;have b:=g .Yr _ rfl a.le;have c:=a.ge;simp only[Zf]at *;omega
      .exact Xb _
  | args=>
   unfold Xc
   dsimp only
   have b:=g (.argsL 0 false) _ rfl h;have d:=RE (ts:=ts) (sz:=sz) (Xc ts sz f (.argsL 0 false) s).1 [41];simp only[Zf]at *;omega
  | argsL n nm=>
   unfold Xc;split
   .simp only[Zf];omega
   .split
    .simp only[Zf];omega
    .dsimp only
     split
     .split
      .exact Ww (((((Pr.Stp.refl h).name (sz:=sz)).X7 (sz:=sz) [61]).run st .e).put _ _ _ _ _) (st _ _ (Yb ‹_›)) (g _ _ rfl (Yb ‹_›))
      .simp only[Zf];omega
     .split
      .exact Ww ((Pr.Stp.refl h).run st .e) (st _ _ (Yb ‹_›)) (g _ _ rfl (Yb ‹_›))
      .simp only[Zf];omega
  | list=>
   unfold Xc;split
   .exact Xb _
   .dsimp only
    split<;>exact Xb _
  | Zl n=>
   unfold Xc;split
   .have a:=((Pr.Stp.refl h).adv ‹_›).run st .e;have b:=g (.Zl (n+1)) _ rfl a.le;have c:=a.ge;have d:=(st .e (X2 s) (Yb ‹_›)).ge;have e:=(st (.Zl (n+1)) _ a.le).ge;rw[Pr.adv_p]at d;simp only[Zf]at *;omega
   .simp only[Zf];omega
  | record=>unfold Xc;exact Xb _
  | recordL n=>
   unfold Xc;split
   .simp only[Zf];omega
   .split
    .simp only[Zf];omega
    .split
     .rename_i u;have k:s.p<ts.length:=QB (sz:=sz) (by simp only[UX,Ql]at u;omega)
      dsimp only
      split
      .exact Ww (((((Pr.Stp.refl h).Z6 k).X7 (sz:=sz) [58]).run st .e).put _ _ _ _ _) (st _ _ (Yb ‹_›)) (g _ _ rfl (Yb ‹_›))
      .simp only[Zf];omega
     .simp only[Zf];omega
  | single=>
   unfold Xc;repeat' (first|exact Xb _|(split))
   .have b:=g .list (X2 s) rfl (Yb (by assumption));simp only[Zf,Pr.adv_p]at *;omega
   .have b:=g .record (X2 s) rfl (Yb (by assumption));simp only[Zf,Pr.adv_p]at *;omega
  | YX n=>
   unfold Xc;split
   .simp only[Zf];omega
   .dsimp only
    split
    .exact Ww (((Pr.Stp.refl h).name (sz:=sz)).put _ _ _ _ _) (st _ _ (Yb ‹_›)) (g _ _ rfl (Yb ‹_›))
    .simp only[Zf];omega
  | statement=>
   unfold Xc;repeat' (first|exact Xb _|(split))
  | fileL n=>exact absurd m (by simp[Mq])
end
structure Fd where
 mk ::
 (x':Nd)
 (p' b':Int)
 (ks':List Fd)
namespace Fd
def x:Fd->Nd | .mk x _ _ _=>x
def p:Fd->Int | .mk _ p _ _=>p
def b:Fd->Int | .mk _ _ b _=>b
def ks:Fd->List Fd | .mk _ _ _ ks=>ks
def size:Fd->Nat
 | .mk _ _ _ ks=>1+Jn ks
 where
 Jn:List Fd->Nat
 | []=>0
 | t::r=>t.size+Jn r
abbrev Jn:=size.Jn
theorem UU(x:Nd)(p b:Int)(ks:List Fd):(Fd.mk x p b ks).size=1+Jn ks:=by simp[size]
theorem Y1g:Jn []=0:=by simp[size.Jn]
theorem PJ(t:Fd)(r:List Fd):Jn (t::r)=t.size+Jn r:=by simp[size.Jn]
theorem size_pos(t:Fd):0<t.size:=by cases t;rw[UU];omega
theorem Wc{t:Fd}{l:List Fd}(h:t∈l):t.size<=Jn l:=by
 induction l with
 | nil=>cases h
 | cons a r d=>
  rw[PJ];rcases Kr.1 h with rfl|h
  .omega
  .have:=d h;omega
def upd(e:ByteArray->Int)(t:ByteArray)(m:Int):ByteArray->Int:=fun s=>if s=t then m else e s
def more(U:Int->Prop)(m:Int):Int->Prop:=fun z=>U z\/z=m
def Ok:(ByteArray->Int)->(Int->Prop)->Fd->Prop
 | e,U,.mk x p b ks=>
  if x.kind=5 then b=e x.text/\ks=[]
  else if x.kind=14\/x.kind=16 then ¬U p/\okA e U (upd e x.text p) (more U p) ks
  else if x.kind=15 then okP e U ks
  else x.kind<20/\okL e U ks
 where
 okL:(ByteArray->Int)->(Int->Prop)->List Fd->Prop
 | _,_,[]=>True
 | e,U,t::r=>Ok e U t/\okL e U r
 okA:(ByteArray->Int)->(Int->Prop)->(ByteArray->Int)->(Int->Prop)->List Fd->Prop
 | _,_,_,_,[]=>True
 | e,U,e',U',t::r=>Ok e U t/\okL e' U' r
 okP:(ByteArray->Int)->(Int->Prop)->List Fd->Prop
 | _,_,[]=>True
 | e,U,t::r=>Ok e U t/\(r≠[]->t.x.kind=19/\¬U t.p)/\okP (upd e t.x.text t.p) (more U t.p) r
def Y3z(m:Int)(c:Nd):Fd->Fd
 | .mk x p b ks=>if x.kind=5/\b=m then .mk c (-1) (-1) []else .mk x p b (replL m c ks)
 where
 replL (m:Int) (c:Nd):List Fd->List Fd
 | []=>[]
 | t::r=>Y3z m c t::replL m c r
