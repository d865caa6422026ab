/- Hc. -/
import Derived.Test.YtimbaebigjjkaaaGreatDoorP03
namespace Go.Proofs.YtimbaebigjjkaaaGreatDoor
set_option linter.unusedSimpArgs false
section
variable {ts:List Sc.T} {sz:Nat}
theorem Pr.Cv.stp {c:Pr.Cmd} {s:Pr.Dk} {r:Pr.Dk × Nat} (h:Pr.Cv ts sz c s r) (hs:s.p≤ts.length):Pr.Stp ts s r.1 (X6 c):=by
 obtain ⟨f,hf⟩:=h
 have:=Pr.pe_stp (ts:=ts) (sz:=sz) f c s hs
 rwa [hf f (Nat.le_refl _)] at this
theorem Pr.Cv.num {c:Pr.Cmd} {s:Pr.Dk} {r:Pr.Dk × Nat} (h:Pr.Cv ts sz c s r) (hc:Pr.isFile c=false) (hs:s.p≤ts.length):r.2≤2*(YE c+(r.1.p - s.p))+3:=by
 obtain ⟨f,hf⟩:=h
 have:=Pr.pe_num (ts:=ts) (sz:=sz) f c s hc hs
 rwa [hf f (Nat.le_refl _)] at this
theorem Pr.Cv.e_let {s:Pr.Dk} {r1 r2:Pr.Dk × Nat}  (h0:Xa ts sz s YS=true) (k0:Pr.Cv ts sz .e (Xr ts sz (XP ts sz (X7 s)) [61]) r1) (k1:Pr.Cv ts sz .e (Xr ts sz r1.1 ZD) r2):Pr.Cv ts sz .e s (Xj r2.1 14 0 0 (Xd ts sz (X7 s)) 2,0):=by
 obtain ⟨f0,g0⟩:=k0
 obtain ⟨f1,g1⟩:=k1
 refine ⟨f0+f1+1,fun f hf=>?_⟩
 obtain ⟨g,rfl⟩:∃ g,f=g+1:=⟨f - 1,by omega⟩
 unfold Xh
 simp [h0,g0 g (by omega),g1 g (by omega)]
theorem Pr.Cv.e_if {s:Pr.Dk} {r1 r2 r3:Pr.Dk × Nat}  (h0:Xa ts sz s YS=false) (h1:Xa ts sz s Zo=true) (k0:Pr.Cv ts sz .e (X7 s) r1) (k1:Pr.Cv ts sz .e (Xr ts sz r1.1 J4) r2) (k2:Pr.Cv ts sz .e (Xr ts sz r2.1 J5) r3):Pr.Cv ts sz .e s (Xj r3.1 13 0 0 [] 3,0):=by
 obtain ⟨f0,g0⟩:=k0
 obtain ⟨f1,g1⟩:=k1
 obtain ⟨f2,g2⟩:=k2
 refine ⟨f0+f1+f2+1,fun f hf=>?_⟩
 obtain ⟨g,rfl⟩:∃ g,f=g+1:=⟨f - 1,by omega⟩
 unfold Xh
 simp [h0,h1,g0 g (by omega),g1 g (by omega),g2 g (by omega)]
theorem Pr.Cv.e_fn {s:Pr.Dk} {r1 r2:Pr.Dk × Nat}  (h0:Xa ts sz s YS=false) (h1:Xa ts sz s Zo=false) (h2:Xa ts sz s Pr.sFn=true) (k0:Pr.Cv ts sz .params (X7 s) r1) (k1:Pr.Cv ts sz .e (Xr ts sz r1.1 [61,62]) r2):Pr.Cv ts sz .e s (Xj r2.1 15 0 0 [] (r1.2+1),0):=by
 obtain ⟨f0,g0⟩:=k0
 obtain ⟨f1,g1⟩:=k1
 refine ⟨f0+f1+1,fun f hf=>?_⟩
 obtain ⟨g,rfl⟩:∃ g,f=g+1:=⟨f - 1,by omega⟩
 unfold Xh
 simp [h0,h1,h2,g0 g (by omega),g1 g (by omega)]
theorem Pr.Cv.e_ops {s:Pr.Dk} {r1:Pr.Dk × Nat}  (h0:Xa ts sz s YS=false) (h1:Xa ts sz s Zo=false) (h2:Xa ts sz s Pr.sFn=false) (k0:Pr.Cv ts sz (.ops 1) s r1):Pr.Cv ts sz .e s r1:=by
 obtain ⟨f0,g0⟩:=k0
 refine ⟨f0+1,fun f hf=>?_⟩
 obtain ⟨g,rfl⟩:∃ g,f=g+1:=⟨f - 1,by omega⟩
 unfold Xh
 simp [h0,h1,h2,g0 g (by omega)]
theorem Pr.Cv.params {s:Pr.Dk} {r1:Pr.Dk × Nat}   (k0:Pr.Cv ts sz (.paramsL 0) (Xr ts sz s [40]) r1):Pr.Cv ts sz .params s (Xr ts sz r1.1 [41],r1.2):=by
 obtain ⟨f0,g0⟩:=k0
 refine ⟨f0+1,fun f hf=>?_⟩
 obtain ⟨g,rfl⟩:∃ g,f=g+1:=⟨f - 1,by omega⟩
 unfold Xh
 simp [g0 g (by omega)]
theorem Pr.Cv.paramsL_bad {s:Pr.Dk} {n:Nat}  (h0:s.bad=true) :Pr.Cv ts sz (.paramsL n) s (s,n):=by
 refine ⟨1,fun f hf=>?_⟩
 obtain ⟨g,rfl⟩:∃ g,f=g+1:=⟨f - 1,by omega⟩
 unfold Xh
 simp [h0]
theorem Pr.Cv.paramsL_end {s:Pr.Dk}  (h0:s.bad=false) (h1:Xa ts sz s [41]=true) :Pr.Cv ts sz (.paramsL 0) s (s,0):=by
 refine ⟨1,fun f hf=>?_⟩
 obtain ⟨g,rfl⟩:∃ g,f=g+1:=⟨f - 1,by omega⟩
 unfold Xh
 simp [h0,h1]
theorem Pr.Cv.paramsL_val {s:Pr.Dk} {n:Nat} {r1 r2:Pr.Dk × Nat}  (h0:s.bad=false) (h1:(n == 0 && Xa ts sz s [41])=false) (h2:Xa ts sz (XP ts sz s) [61]=true) (h3:Xa ts sz (Xj r1.1 19 0 0 (Xd ts sz s) 1) [44]=true) (k0:Pr.Cv ts sz .e (X7 (XP ts sz s)) r1) (k1:Pr.Cv ts sz (.paramsL (n+1)) (X7 (Xj r1.1 19 0 0 (Xd ts sz s) 1)) r2):Pr.Cv ts sz (.paramsL n) s r2:=by
 obtain ⟨f0,g0⟩:=k0
 obtain ⟨f1,g1⟩:=k1
 refine ⟨f0+f1+1,fun f hf=>?_⟩
 obtain ⟨g,rfl⟩:∃ g,f=g+1:=⟨f - 1,by omega⟩
 unfold Xh
 simp [h0,h1,h2,h3,g0 g (by omega),g1 g (by omega)]
theorem Pr.Cv.paramsL_valEnd {s:Pr.Dk} {n:Nat} {r1:Pr.Dk × Nat}  (h0:s.bad=false) (h1:(n == 0 && Xa ts sz s [41])=false) (h2:Xa ts sz (XP ts sz s) [61]=true) (h3:Xa ts sz (Xj r1.1 19 0 0 (Xd ts sz s) 1) [44]=false) (k0:Pr.Cv ts sz .e (X7 (XP ts sz s)) r1):Pr.Cv ts sz (.paramsL n) s (Xj r1.1 19 0 0 (Xd ts sz s) 1,n+1):=by
 obtain ⟨f0,g0⟩:=k0
 refine ⟨f0+1,fun f hf=>?_⟩
 obtain ⟨g,rfl⟩:∃ g,f=g+1:=⟨f - 1,by omega⟩
 unfold Xh
 simp [h0,h1,h2,h3,g0 g (by omega)]
theorem Pr.Cv.paramsL_no {s:Pr.Dk} {n:Nat} {r2:Pr.Dk × Nat}  (h0:s.bad=false) (h1:(n == 0 && Xa ts sz s [41])=false) (h2:Xa ts sz (XP ts sz s) [61]=false) (h3:Xa ts sz (Xj (XP ts sz s) 19 0 0 (Xd ts sz s) 0) [44]=true) (k0:Pr.Cv ts sz (.paramsL (n+1)) (X7 (Xj (XP ts sz s) 19 0 0 (Xd ts sz s) 0)) r2):Pr.Cv ts sz (.paramsL n) s r2:=by
 obtain ⟨f0,g0⟩:=k0
 refine ⟨f0+1,fun f hf=>?_⟩
 obtain ⟨g,rfl⟩:∃ g,f=g+1:=⟨f - 1,by omega⟩
 unfold Xh
 simp [h0,h1,h2,h3,g0 g (by omega)]
theorem Pr.Cv.paramsL_noEnd {s:Pr.Dk} {n:Nat}  (h0:s.bad=false) (h1:(n == 0 && Xa ts sz s [41])=false) (h2:Xa ts sz (XP ts sz s) [61]=false) (h3:Xa ts sz (Xj (XP ts sz s) 19 0 0 (Xd ts sz s) 0) [44]=false) :Pr.Cv ts sz (.paramsL n) s (Xj (XP ts sz s) 19 0 0 (Xd ts sz s) 0,n+1):=by
 refine ⟨1,fun f hf=>?_⟩
 obtain ⟨g,rfl⟩:∃ g,f=g+1:=⟨f - 1,by omega⟩
 unfold Xh
 simp [h0,h1,h2,h3]
theorem Pr.Cv.ops_bad {s:Pr.Dk} {r:Nat}  (h0:s.bad=true) :Pr.Cv ts sz (.ops r) s (s,0):=by
 refine ⟨1,fun f hf=>?_⟩
 obtain ⟨g,rfl⟩:∃ g,f=g+1:=⟨f - 1,by omega⟩
 unfold Xh
 simp [h0]
theorem Pr.Cv.ops_not {s:Pr.Dk} {r1:Pr.Dk × Nat}  (h0:s.bad=false) (h1:Xa ts sz s Ji=true) (k0:Pr.Cv ts sz (.ops 3) (X7 s) r1):Pr.Cv ts sz (.ops 3) s (Xj r1.1 6 1 0 [] 1,0):=by
 obtain ⟨f0,g0⟩:=k0
 refine ⟨f0+1,fun f hf=>?_⟩
 obtain ⟨g,rfl⟩:∃ g,f=g+1:=⟨f - 1,by omega⟩
 unfold Xh
 simp [h0,h1,g0 g (by omega)]
theorem Pr.Cv.ops_3 {s:Pr.Dk} {r1:Pr.Dk × Nat}  (h0:s.bad=false) (h1:Xa ts sz s Ji=false) (k0:Pr.Cv ts sz (.ops 4) s r1):Pr.Cv ts sz (.ops 3) s r1:=by
 obtain ⟨f0,g0⟩:=k0
 refine ⟨f0+1,fun f hf=>?_⟩
 obtain ⟨g,rfl⟩:∃ g,f=g+1:=⟨f - 1,by omega⟩
 unfold Xh
 simp [h0,h1,g0 g (by omega)]
theorem Pr.Cv.ops_neg {s:Pr.Dk} {r1:Pr.Dk × Nat}  (h0:s.bad=false) (h1:((7:Nat) == 3)=false) (h2:Xa ts sz s [45]=true) (k0:Pr.Cv ts sz (.ops 7) (X7 s) r1):Pr.Cv ts sz (.ops 7) s (Xj r1.1 6 2 0 [] 1,0):=by
 obtain ⟨f0,g0⟩:=k0
 refine ⟨f0+1,fun f hf=>?_⟩
 obtain ⟨g,rfl⟩:∃ g,f=g+1:=⟨f - 1,by omega⟩
 unfold Xh
 simp [h0,h1,h2,g0 g (by omega)]
theorem Pr.Cv.ops_7 {s:Pr.Dk} {r1:Pr.Dk × Nat}  (h0:s.bad=false) (h1:((7:Nat) == 3)=false) (h2:Xa ts sz s [45]=false) (k0:Pr.Cv ts sz .post s r1):Pr.Cv ts sz (.ops 7) s r1:=by
 obtain ⟨f0,g0⟩:=k0
 refine ⟨f0+1,fun f hf=>?_⟩
 obtain ⟨g,rfl⟩:∃ g,f=g+1:=⟨f - 1,by omega⟩
 unfold Xh
 simp [h0,h1,h2,g0 g (by omega)]
theorem Pr.Cv.ops_r {s:Pr.Dk} {r:Nat} {r1 r2:Pr.Dk × Nat}  (h0:s.bad=false) (h1:(r == 3)=false) (h2:(r == 7)=false) (k0:Pr.Cv ts sz (.ops (r+1)) s r1) (k1:Pr.Cv ts sz (.opsL r) r1.1 r2):Pr.Cv ts sz (.ops r) s r2:=by
 obtain ⟨f0,g0⟩:=k0
 obtain ⟨f1,g1⟩:=k1
 refine ⟨f0+f1+1,fun f hf=>?_⟩
 obtain ⟨g,rfl⟩:∃ g,f=g+1:=⟨f - 1,by omega⟩
 unfold Xh
 simp [h0,h1,h2,g0 g (by omega),g1 g (by omega)]
theorem Pr.Cv.opsL_end {s:Pr.Dk} {r:Nat}  (h0:(Kb ts sz s r == 0)=true) :Pr.Cv ts sz (.opsL r) s (s,0):=by
 refine ⟨1,fun f hf=>?_⟩
 obtain ⟨g,rfl⟩:∃ g,f=g+1:=⟨f - 1,by omega⟩
 unfold Xh
 simp [h0]
theorem Pr.Cv.opsL_4 {s:Pr.Dk} {r1:Pr.Dk × Nat}  (h0:(Kb ts sz s 4 == 0)=false) (k0:Pr.Cv ts sz (.ops (4+1)) (X7 s) r1):Pr.Cv ts sz (.opsL 4) s (Xj r1.1 7 (Kb ts sz s 4) 0 [] 2,0):=by
 obtain ⟨f0,g0⟩:=k0
 refine ⟨f0+1,fun f hf=>?_⟩
 obtain ⟨g,rfl⟩:∃ g,f=g+1:=⟨f - 1,by omega⟩
 unfold Xh
 simp [h0,g0 g (by omega)]
theorem Pr.Cv.opsL_go {s:Pr.Dk} {r:Nat} {r1 r2:Pr.Dk × Nat}  (h0:(Kb ts sz s r == 0)=false) (h1:(r == 4)=false) (k0:Pr.Cv ts sz (.ops (r+1)) (X7 s) r1) (k1:Pr.Cv ts sz (.opsL r) (Xj r1.1 7 (Kb ts sz s r) 0 [] 2) r2):Pr.Cv ts sz (.opsL r) s r2:=by
 obtain ⟨f0,g0⟩:=k0
 obtain ⟨f1,g1⟩:=k1
 refine ⟨f0+f1+1,fun f hf=>?_⟩
 obtain ⟨g,rfl⟩:∃ g,f=g+1:=⟨f - 1,by omega⟩
 unfold Xh
 simp [h0,h1,g0 g (by omega),g1 g (by omega)]
theorem Pr.Cv.post {s:Pr.Dk} {r1 r2:Pr.Dk × Nat}   (k0:Pr.Cv ts sz .single s r1) (k1:Pr.Cv ts sz .postL r1.1 r2):Pr.Cv ts sz .post s r2:=by
 obtain ⟨f0,g0⟩:=k0
 obtain ⟨f1,g1⟩:=k1
 refine ⟨f0+f1+1,fun f hf=>?_⟩
 obtain ⟨g,rfl⟩:∃ g,f=g+1:=⟨f - 1,by omega⟩
 unfold Xh
 simp [g0 g (by omega),g1 g (by omega)]
theorem Pr.Cv.postL_bad {s:Pr.Dk}  (h0:s.bad=true) :Pr.Cv ts sz .postL s (s,0):=by
 refine ⟨1,fun f hf=>?_⟩
 obtain ⟨g,rfl⟩:∃ g,f=g+1:=⟨f - 1,by omega⟩
 unfold Xh
 simp [h0]
theorem Pr.Cv.postL_call {s:Pr.Dk} {r1 r2:Pr.Dk × Nat}  (h0:s.bad=false) (h1:Xa ts sz s [40]=true) (k0:Pr.Cv ts sz .args (X7 s) r1) (k1:Pr.Cv ts sz .postL (Xj r1.1 12 0 0 [] (1+r1.2)) r2):Pr.Cv ts sz .postL s r2:=by
 obtain ⟨f0,g0⟩:=k0
 obtain ⟨f1,g1⟩:=k1
 refine ⟨f0+f1+1,fun f hf=>?_⟩
 obtain ⟨g,rfl⟩:∃ g,f=g+1:=⟨f - 1,by omega⟩
 unfold Xh
 simp [h0,h1,g0 g (by omega),g1 g (by omega)]
theorem Pr.Cv.postL_index {s:Pr.Dk} {r1 r2:Pr.Dk × Nat}  (h0:s.bad=false) (h1:Xa ts sz s [40]=false) (h2:Xa ts sz s [91]=true) (k0:Pr.Cv ts sz .e (X7 s) r1) (k1:Pr.Cv ts sz .postL (Xj (Xr ts sz r1.1 [93]) 10 0 0 [] 2) r2):Pr.Cv ts sz .postL s r2:=by
 obtain ⟨f0,g0⟩:=k0
 obtain ⟨f1,g1⟩:=k1
 refine ⟨f0+f1+1,fun f hf=>?_⟩
 obtain ⟨g,rfl⟩:∃ g,f=g+1:=⟨f - 1,by omega⟩
 unfold Xh
 simp [h0,h1,h2,g0 g (by omega),g1 g (by omega)]
theorem Pr.Cv.postL_dot {s:Pr.Dk} {r2:Pr.Dk × Nat}  (h0:s.bad=false) (h1:Xa ts sz s [40]=false) (h2:Xa ts sz s [91]=false) (h3:Xa ts sz s [46]=true) (k0:Pr.Cv ts sz .postL (Xj (XP ts sz (X7 s)) 11 0 0 (Xd ts sz (X7 s)) 1) r2):Pr.Cv ts sz .postL s r2:=by
 obtain ⟨f0,g0⟩:=k0
 refine ⟨f0+1,fun f hf=>?_⟩
 obtain ⟨g,rfl⟩:∃ g,f=g+1:=⟨f - 1,by omega⟩
 unfold Xh
 simp [h0,h1,h2,h3,g0 g (by omega)]
theorem Pr.Cv.postL_end {s:Pr.Dk}  (h0:s.bad=false) (h1:Xa ts sz s [40]=false) (h2:Xa ts sz s [91]=false) (h3:Xa ts sz s [46]=false) :Pr.Cv ts sz .postL s (s,0):=by
 refine ⟨1,fun f hf=>?_⟩
 obtain ⟨g,rfl⟩:∃ g,f=g+1:=⟨f - 1,by omega⟩
 unfold Xh
 simp [h0,h1,h2,h3]
theorem Pr.Cv.args {s:Pr.Dk} {r1:Pr.Dk × Nat}   (k0:Pr.Cv ts sz (.argsL 0 false) s r1):Pr.Cv ts sz .args s (Xr ts sz r1.1 [41],r1.2):=by
 obtain ⟨f0,g0⟩:=k0
 refine ⟨f0+1,fun f hf=>?_⟩
 obtain ⟨g,rfl⟩:∃ g,f=g+1:=⟨f - 1,by omega⟩
 unfold Xh
 simp [g0 g (by omega)]
theorem Pr.Cv.argsL_bad {s:Pr.Dk} {n:Nat} {b:Bool}  (h0:s.bad=true) :Pr.Cv ts sz (.argsL n b) s (s,n):=by
 refine ⟨1,fun f hf=>?_⟩
 obtain ⟨g,rfl⟩:∃ g,f=g+1:=⟨f - 1,by omega⟩
 unfold Xh
 simp [h0]
theorem Pr.Cv.argsL_end {s:Pr.Dk} {b:Bool}  (h0:s.bad=false) (h1:Xa ts sz s [41]=true) :Pr.Cv ts sz (.argsL 0 b) s (s,0):=by
 refine ⟨1,fun f hf=>?_⟩
 obtain ⟨g,rfl⟩:∃ g,f=g+1:=⟨f - 1,by omega⟩
 unfold Xh
 simp [h0,h1]
theorem Pr.Cv.argsL_named {s:Pr.Dk} {n:Nat} {b:Bool} {r1 r2:Pr.Dk × Nat}  (h0:s.bad=false) (h1:(n == 0 && Xa ts sz s [41])=false) (h2:(b || Ym ts sz s)=true) (h3:Xa ts sz (Xj r1.1 18 0 0 (Xd ts sz s) 1) [44]=true) (k0:Pr.Cv ts sz .e (Xr ts sz (XP ts sz s) [61]) r1) (k1:Pr.Cv ts sz (.argsL (n+1) true) (X7 (Xj r1.1 18 0 0 (Xd ts sz s) 1)) r2):Pr.Cv ts sz (.argsL n b) s r2:=by
 obtain ⟨f0,g0⟩:=k0
 obtain ⟨f1,g1⟩:=k1
 refine ⟨f0+f1+1,fun f hf=>?_⟩
 obtain ⟨g,rfl⟩:∃ g,f=g+1:=⟨f - 1,by omega⟩
 unfold Xh
 simp [h0,h1,h2,h3,g0 g (by omega),g1 g (by omega)]
theorem Pr.Cv.argsL_namedEnd {s:Pr.Dk} {n:Nat} {b:Bool} {r1:Pr.Dk × Nat}  (h0:s.bad=false) (h1:(n == 0 && Xa ts sz s [41])=false) (h2:(b || Ym ts sz s)=true) (h3:Xa ts sz (Xj r1.1 18 0 0 (Xd ts sz s) 1) [44]=false) (k0:Pr.Cv ts sz .e (Xr ts sz (XP ts sz s) [61]) r1):Pr.Cv ts sz (.argsL n b) s (Xj r1.1 18 0 0 (Xd ts sz s) 1,n+1):=by
 obtain ⟨f0,g0⟩:=k0
 refine ⟨f0+1,fun f hf=>?_⟩
 obtain ⟨g,rfl⟩:∃ g,f=g+1:=⟨f - 1,by omega⟩
 unfold Xh
 simp [h0,h1,h2,h3,g0 g (by omega)]
theorem Pr.Cv.argsL_plain {s:Pr.Dk} {n:Nat} {b:Bool} {r1 r2:Pr.Dk × Nat}  (h0:s.bad=false) (h1:(n == 0 && Xa ts sz s [41])=false) (h2:(b || Ym ts sz s)=false) (h3:Xa ts sz r1.1 [44]=true) (k0:Pr.Cv ts sz .e s r1) (k1:Pr.Cv ts sz (.argsL (n+1) false) (X7 r1.1) r2):Pr.Cv ts sz (.argsL n b) s r2:=by
 obtain ⟨f0,g0⟩:=k0
 obtain ⟨f1,g1⟩:=k1
 refine ⟨f0+f1+1,fun f hf=>?_⟩
 obtain ⟨g,rfl⟩:∃ g,f=g+1:=⟨f - 1,by omega⟩
 unfold Xh
 simp [h0,h1,h2,h3,g0 g (by omega),g1 g (by omega)]
theorem Pr.Cv.argsL_plainEnd {s:Pr.Dk} {n:Nat} {b:Bool} {r1:Pr.Dk × Nat}  (h0:s.bad=false) (h1:(n == 0 && Xa ts sz s [41])=false) (h2:(b || Ym ts sz s)=false) (h3:Xa ts sz r1.1 [44]=false) (k0:Pr.Cv ts sz .e s r1):Pr.Cv ts sz (.argsL n b) s (r1.1,n+1):=by
 obtain ⟨f0,g0⟩:=k0
 refine ⟨f0+1,fun f hf=>?_⟩
 obtain ⟨g,rfl⟩:∃ g,f=g+1:=⟨f - 1,by omega⟩
 unfold Xh
 simp [h0,h1,h2,h3,g0 g (by omega)]
theorem Pr.Cv.list_nil {s:Pr.Dk}  (h0:Xa ts sz s [93]=true) :Pr.Cv ts sz .list s (Xj (X7 s) 8 0 0 [] 0,0):=by
 refine ⟨1,fun f hf=>?_⟩
 obtain ⟨g,rfl⟩:∃ g,f=g+1:=⟨f - 1,by omega⟩
 unfold Xh
 simp [h0]
theorem Pr.Cv.list_list {s:Pr.Dk} {r1 r2:Pr.Dk × Nat}  (h0:Xa ts sz s [93]=false) (h1:Xa ts sz r1.1 QE=false) (k0:Pr.Cv ts sz .e s r1) (k1:Pr.Cv ts sz (.listL 1) r1.1 r2):Pr.Cv ts sz .list s (Xj (Xr ts sz r2.1 [93]) 8 0 0 [] r2.2,0):=by
 obtain ⟨f0,g0⟩:=k0
 obtain ⟨f1,g1⟩:=k1
 refine ⟨f0+f1+1,fun f hf=>?_⟩
 obtain ⟨g,rfl⟩:∃ g,f=g+1:=⟨f - 1,by omega⟩
 unfold Xh
 simp [h0,h1,g0 g (by omega),g1 g (by omega)]
theorem Pr.Cv.list_for {s:Pr.Dk} {r1 r2:Pr.Dk × Nat}  (h0:Xa ts sz s [93]=false) (h1:Xa ts sz r1.1 QE=true) (h2:Xa ts sz {r2.1 with o:=r2.1.o++r1.1.o.drop s.o.length} Zo=false) (k0:Pr.Cv ts sz .e s r1) (k1:Pr.Cv ts sz .e (Xr ts sz (XP ts sz {X7 r1.1 with o:=r1.1.o.take s.o.length}) ZD) r2):Pr.Cv ts sz .list s (Xj (Xr ts sz {r2.1 with o:=r2.1.o++r1.1.o.drop s.o.length} [93]) 16 0 0 (Xd ts sz {X7 r1.1 with o:=r1.1.o.take s.o.length}) 2,0):=by
 obtain ⟨f0,g0⟩:=k0
 obtain ⟨f1,g1⟩:=k1
 refine ⟨f0+f1+1,fun f hf=>?_⟩
 obtain ⟨g,rfl⟩:∃ g,f=g+1:=⟨f - 1,by omega⟩
 unfold Xh
 simp only [h0,h1,h2,g0 g (by omega),g1 g (by omega),if_true,Bool.false_eq_true,if_false,ite_true,ite_false,Bool.and_true,Bool.and_false,Bool.or_false,Bool.false_or,Bool.true_or,Bool.or_true,Bool.true_and,Bool.false_and,beq_self_eq_true]
theorem Pr.Cv.list_forIf {s:Pr.Dk} {r1 r2 r3:Pr.Dk × Nat}  (h0:Xa ts sz s [93]=false) (h1:Xa ts sz r1.1 QE=true) (h2:Xa ts sz {r2.1 with o:=r2.1.o++r1.1.o.drop s.o.length} Zo=true) (k0:Pr.Cv ts sz .e s r1) (k1:Pr.Cv ts sz .e (Xr ts sz (XP ts sz {X7 r1.1 with o:=r1.1.o.take s.o.length}) ZD) r2) (k2:Pr.Cv ts sz .e (X7 {r2.1 with o:=r2.1.o++r1.1.o.drop s.o.length}) r3):Pr.Cv ts sz .list s (Xj (Xr ts sz r3.1 [93]) 16 0 0 (Xd ts sz {X7 r1.1 with o:=r1.1.o.take s.o.length}) 3,0):=by
 obtain ⟨f0,g0⟩:=k0
 obtain ⟨f1,g1⟩:=k1
 obtain ⟨f2,g2⟩:=k2
 refine ⟨f0+f1+f2+1,fun f hf=>?_⟩
 obtain ⟨g,rfl⟩:∃ g,f=g+1:=⟨f - 1,by omega⟩
 unfold Xh
 simp only [h0,h1,h2,g0 g (by omega),g1 g (by omega),g2 g (by omega),if_true,Bool.false_eq_true,if_false,ite_true,ite_false,Bool.and_true,Bool.and_false,Bool.or_false,Bool.false_or,Bool.true_or,Bool.or_true,Bool.true_and,Bool.false_and,beq_self_eq_true]
theorem Pr.Cv.listL_go {s:Pr.Dk} {n:Nat} {r1 r2:Pr.Dk × Nat}  (h0:Xa ts sz s [44]=true) (k0:Pr.Cv ts sz .e (X7 s) r1) (k1:Pr.Cv ts sz (.listL (n+1)) r1.1 r2):Pr.Cv ts sz (.listL n) s r2:=by
 obtain ⟨f0,g0⟩:=k0
 obtain ⟨f1,g1⟩:=k1
 refine ⟨f0+f1+1,fun f hf=>?_⟩
 obtain ⟨g,rfl⟩:∃ g,f=g+1:=⟨f - 1,by omega⟩
 unfold Xh
 simp [h0,g0 g (by omega),g1 g (by omega)]
theorem Pr.Cv.listL_end {s:Pr.Dk} {n:Nat}  (h0:Xa ts sz s [44]=false) :Pr.Cv ts sz (.listL n) s (s,n):=by
 refine ⟨1,fun f hf=>?_⟩
 obtain ⟨g,rfl⟩:∃ g,f=g+1:=⟨f - 1,by omega⟩
 unfold Xh
 simp [h0]
theorem Pr.Cv.record_ok {s:Pr.Dk} {r1:Pr.Dk × Nat}  (h0:(r1.2 % 2 == 1)=false) (k0:Pr.Cv ts sz (.recordL 0) s r1):Pr.Cv ts sz .record s (Xj (Xr ts sz r1.1 [125]) 9 0 0 [] (r1.2 / 2),0):=by
 obtain ⟨f0,g0⟩:=k0
 refine ⟨f0+1,fun f hf=>?_⟩
 obtain ⟨g,rfl⟩:∃ g,f=g+1:=⟨f - 1,by omega⟩
 unfold Xh
 simp [h0,g0 g (by omega)]
theorem Pr.Cv.record_bad {s:Pr.Dk} {r1:Pr.Dk × Nat}  (h0:(r1.2 % 2 == 1)=true) (k0:Pr.Cv ts sz (.recordL 0) s r1):Pr.Cv ts sz .record s (r1.1,0):=by
 obtain ⟨f0,g0⟩:=k0
 refine ⟨f0+1,fun f hf=>?_⟩
 obtain ⟨g,rfl⟩:∃ g,f=g+1:=⟨f - 1,by omega⟩
 unfold Xh
 simp [h0,g0 g (by omega)]
theorem Pr.Cv.recordL_bad {s:Pr.Dk} {n:Nat}  (h0:s.bad=true) :Pr.Cv ts sz (.recordL n) s (s,2 * n):=by
 refine ⟨1,fun f hf=>?_⟩
 obtain ⟨g,rfl⟩:∃ g,f=g+1:=⟨f - 1,by omega⟩
 unfold Xh
 simp [h0]
theorem Pr.Cv.recordL_end {s:Pr.Dk}  (h0:s.bad=false) (h1:Xa ts sz s [125]=true) :Pr.Cv ts sz (.recordL 0) s (s,2*0):=by
 refine ⟨1,fun f hf=>?_⟩
 obtain ⟨g,rfl⟩:∃ g,f=g+1:=⟨f - 1,by omega⟩
 unfold Xh
 simp [h0,h1]
theorem Pr.Cv.recordL_go {s:Pr.Dk} {n:Nat} {r1 r2:Pr.Dk × Nat}  (h0:s.bad=false) (h1:(n == 0 && Xa ts sz s [125])=false) (h2:((X3 ts sz s).kind == 1 || (X3 ts sz s).kind == 4)=true) (h3:Xa ts sz (Xj r1.1 17 0 0 (X3 ts sz s).text 1) [44]=true) (k0:Pr.Cv ts sz .e (Xr ts sz (X7 s) [58]) r1) (k1:Pr.Cv ts sz (.recordL (n+1)) (X7 (Xj r1.1 17 0 0 (X3 ts sz s).text 1)) r2):Pr.Cv ts sz (.recordL n) s r2:=by
 obtain ⟨f0,g0⟩:=k0
 obtain ⟨f1,g1⟩:=k1
 refine ⟨f0+f1+1,fun f hf=>?_⟩
 obtain ⟨g,rfl⟩:∃ g,f=g+1:=⟨f - 1,by omega⟩
 unfold Xh
 simp [h0,h1,h2,h3,g0 g (by omega),g1 g (by omega)]
theorem Pr.Cv.recordL_last {s:Pr.Dk} {n:Nat} {r1:Pr.Dk × Nat}  (h0:s.bad=false) (h1:(n == 0 && Xa ts sz s [125])=false) (h2:((X3 ts sz s).kind == 1 || (X3 ts sz s).kind == 4)=true) (h3:Xa ts sz (Xj r1.1 17 0 0 (X3 ts sz s).text 1) [44]=false) (k0:Pr.Cv ts sz .e (Xr ts sz (X7 s) [58]) r1):Pr.Cv ts sz (.recordL n) s (Xj r1.1 17 0 0 (X3 ts sz s).text 1,2*(n+1)):=by
 obtain ⟨f0,g0⟩:=k0
 refine ⟨f0+1,fun f hf=>?_⟩
 obtain ⟨g,rfl⟩:∃ g,f=g+1:=⟨f - 1,by omega⟩
 unfold Xh
 simp [h0,h1,h2,h3,g0 g (by omega)]
theorem Pr.Cv.recordL_stop {s:Pr.Dk} {n:Nat}  (h0:s.bad=false) (h1:(n == 0 && Xa ts sz s [125])=false) (h2:((X3 ts sz s).kind == 1 || (X3 ts sz s).kind == 4)=false) :Pr.Cv ts sz (.recordL n) s (Yt ts sz s,2 * n+1):=by
 refine ⟨1,fun f hf=>?_⟩
 obtain ⟨g,rfl⟩:∃ g,f=g+1:=⟨f - 1,by omega⟩
 unfold Xh
 simp [h0,h1,h2]
theorem Pr.Cv.single_bad {s:Pr.Dk}  (h0:s.bad=true) :Pr.Cv ts sz .single s (s,0):=by
 refine ⟨1,fun f hf=>?_⟩
 obtain ⟨g,rfl⟩:∃ g,f=g+1:=⟨f - 1,by omega⟩
 unfold Xh
 simp [h0]
theorem Pr.Cv.single_int {s:Pr.Dk}  (h0:s.bad=false) (h1:((X3 ts sz s).kind == 3)=true) :Pr.Cv ts sz .single s (Xj (X7 s) 3 0 (X3 ts sz s).n [] 0,0):=by
 refine ⟨1,fun f hf=>?_⟩
 obtain ⟨g,rfl⟩:∃ g,f=g+1:=⟨f - 1,by omega⟩
 unfold Xh
 simp [h0,h1]
theorem Pr.Cv.single_text {s:Pr.Dk}  (h0:s.bad=false) (h1:((X3 ts sz s).kind == 3)=false) (h2:((X3 ts sz s).kind == 4)=true) :Pr.Cv ts sz .single s (Xj (X7 s) 4 0 0 (X3 ts sz s).text 0,0):=by
 refine ⟨1,fun f hf=>?_⟩
 obtain ⟨g,rfl⟩:∃ g,f=g+1:=⟨f - 1,by omega⟩
 unfold Xh
 simp [h0,h1,h2]
theorem Pr.Cv.single_name {s:Pr.Dk}  (h0:s.bad=false) (h1:((X3 ts sz s).kind == 3)=false) (h2:((X3 ts sz s).kind == 4)=false) (h3:((X3 ts sz s).kind == 1)=true) :Pr.Cv ts sz .single s (Xj (X7 s) 5 0 0 (X3 ts sz s).text 0,0):=by
 refine ⟨1,fun f hf=>?_⟩
 obtain ⟨g,rfl⟩:∃ g,f=g+1:=⟨f - 1,by omega⟩
 unfold Xh
 simp [h0,h1,h2,h3]
theorem Pr.Cv.single_none {s:Pr.Dk}  (h0:s.bad=false) (h1:((X3 ts sz s).kind == 3)=false) (h2:((X3 ts sz s).kind == 4)=false) (h3:((X3 ts sz s).kind == 1)=false) (h4:Xa ts sz s Zd=true) :Pr.Cv ts sz .single s (Xj (X7 s) 1 0 0 [] 0,0):=by
 refine ⟨1,fun f hf=>?_⟩
 obtain ⟨g,rfl⟩:∃ g,f=g+1:=⟨f - 1,by omega⟩
 unfold Xh
 simp [h0,h1,h2,h3,h4]
theorem Pr.Cv.single_false {s:Pr.Dk}  (h0:s.bad=false) (h1:((X3 ts sz s).kind == 3)=false) (h2:((X3 ts sz s).kind == 4)=false) (h3:((X3 ts sz s).kind == 1)=false) (h4:Xa ts sz s Zd=false) (h5:Xa ts sz s Z8=true) :Pr.Cv ts sz .single s (Xj (X7 s) 2 0 0 [] 0,0):=by
 refine ⟨1,fun f hf=>?_⟩
 obtain ⟨g,rfl⟩:∃ g,f=g+1:=⟨f - 1,by omega⟩
 unfold Xh
 simp [h0,h1,h2,h3,h4,h5]
theorem Pr.Cv.single_true {s:Pr.Dk}  (h0:s.bad=false) (h1:((X3 ts sz s).kind == 3)=false) (h2:((X3 ts sz s).kind == 4)=false) (h3:((X3 ts sz s).kind == 1)=false) (h4:Xa ts sz s Zd=false) (h5:Xa ts sz s Z8=false) (h6:Xa ts sz s ZI=true) :Pr.Cv ts sz .single s (Xj (X7 s) 2 0 1 [] 0,0):=by
 refine ⟨1,fun f hf=>?_⟩
 obtain ⟨g,rfl⟩:∃ g,f=g+1:=⟨f - 1,by omega⟩
 unfold Xh
 simp [h0,h1,h2,h3,h4,h5,h6]
theorem Pr.Cv.single_list {s:Pr.Dk} {r1:Pr.Dk × Nat}  (h0:s.bad=false) (h1:((X3 ts sz s).kind == 3)=false) (h2:((X3 ts sz s).kind == 4)=false) (h3:((X3 ts sz s).kind == 1)=false) (h4:Xa ts sz s Zd=false) (h5:Xa ts sz s Z8=false) (h6:Xa ts sz s ZI=false) (h7:Xa ts sz s [91]=true) (k0:Pr.Cv ts sz .list (X7 s) r1):Pr.Cv ts sz .single s r1:=by
 obtain ⟨f0,g0⟩:=k0
 refine ⟨f0+1,fun f hf=>?_⟩
 obtain ⟨g,rfl⟩:∃ g,f=g+1:=⟨f - 1,by omega⟩
 unfold Xh
 simp [h0,h1,h2,h3,h4,h5,h6,h7,g0 g (by omega)]
theorem Pr.Cv.single_record {s:Pr.Dk} {r1:Pr.Dk × Nat}  (h0:s.bad=false) (h1:((X3 ts sz s).kind == 3)=false) (h2:((X3 ts sz s).kind == 4)=false) (h3:((X3 ts sz s).kind == 1)=false) (h4:Xa ts sz s Zd=false) (h5:Xa ts sz s Z8=false) (h6:Xa ts sz s ZI=false) (h7:Xa ts sz s [91]=false) (h8:Xa ts sz s [123]=true) (k0:Pr.Cv ts sz .record (X7 s) r1):Pr.Cv ts sz .single s r1:=by
 obtain ⟨f0,g0⟩:=k0
 refine ⟨f0+1,fun f hf=>?_⟩
 obtain ⟨g,rfl⟩:∃ g,f=g+1:=⟨f - 1,by omega⟩
 unfold Xh
 simp [h0,h1,h2,h3,h4,h5,h6,h7,h8,g0 g (by omega)]
theorem Pr.Cv.single_round {s:Pr.Dk} {r1:Pr.Dk × Nat}  (h0:s.bad=false) (h1:((X3 ts sz s).kind == 3)=false) (h2:((X3 ts sz s).kind == 4)=false) (h3:((X3 ts sz s).kind == 1)=false) (h4:Xa ts sz s Zd=false) (h5:Xa ts sz s Z8=false) (h6:Xa ts sz s ZI=false) (h7:Xa ts sz s [91]=false) (h8:Xa ts sz s [123]=false) (h9:Xa ts sz s [40]=true) (k0:Pr.Cv ts sz .e (X7 s) r1):Pr.Cv ts sz .single s (Xr ts sz r1.1 [41],0):=by
 obtain ⟨f0,g0⟩:=k0
 refine ⟨f0+1,fun f hf=>?_⟩
 obtain ⟨g,rfl⟩:∃ g,f=g+1:=⟨f - 1,by omega⟩
 unfold Xh
 simp [h0,h1,h2,h3,h4,h5,h6,h7,h8,h9,g0 g (by omega)]
theorem Pr.Cv.single_stop {s:Pr.Dk}  (h0:s.bad=false) (h1:((X3 ts sz s).kind == 3)=false) (h2:((X3 ts sz s).kind == 4)=false) (h3:((X3 ts sz s).kind == 1)=false) (h4:Xa ts sz s Zd=false) (h5:Xa ts sz s Z8=false) (h6:Xa ts sz s ZI=false) (h7:Xa ts sz s [91]=false) (h8:Xa ts sz s [123]=false) (h9:Xa ts sz s [40]=false) :Pr.Cv ts sz .single s (Yt ts sz s,0):=by
 refine ⟨1,fun f hf=>?_⟩
 obtain ⟨g,rfl⟩:∃ g,f=g+1:=⟨f - 1,by omega⟩
 unfold Xh
 simp [h0,h1,h2,h3,h4,h5,h6,h7,h8,h9]
theorem Pr.Cv.loadL_bad {s:Pr.Dk} {n:Nat}  (h0:s.bad=true) :Pr.Cv ts sz (.loadL n) s (s,n):=by
 refine ⟨1,fun f hf=>?_⟩
 obtain ⟨g,rfl⟩:∃ g,f=g+1:=⟨f - 1,by omega⟩
 unfold Xh
 simp [h0]
theorem Pr.Cv.loadL_go {s:Pr.Dk} {n:Nat} {r1:Pr.Dk × Nat}  (h0:s.bad=false) (h1:Xa ts sz (Xj (XP ts sz s) 5 0 0 (Xd ts sz s) 0) [44]=true) (k0:Pr.Cv ts sz (.loadL (n+1)) (X7 (Xj (XP ts sz s) 5 0 0 (Xd ts sz s) 0)) r1):Pr.Cv ts sz (.loadL n) s r1:=by
 obtain ⟨f0,g0⟩:=k0
 refine ⟨f0+1,fun f hf=>?_⟩
 obtain ⟨g,rfl⟩:∃ g,f=g+1:=⟨f - 1,by omega⟩
 unfold Xh
 simp [h0,h1,g0 g (by omega)]
theorem Pr.Cv.loadL_last {s:Pr.Dk} {n:Nat}  (h0:s.bad=false) (h1:Xa ts sz (Xj (XP ts sz s) 5 0 0 (Xd ts sz s) 0) [44]=false) :Pr.Cv ts sz (.loadL n) s (Xj (XP ts sz s) 5 0 0 (Xd ts sz s) 0,n+1):=by
 refine ⟨1,fun f hf=>?_⟩
 obtain ⟨g,rfl⟩:∃ g,f=g+1:=⟨f - 1,by omega⟩
 unfold Xh
 simp [h0,h1]
theorem Pr.Cv.st_def {s:Pr.Dk} {r1 r2:Pr.Dk × Nat}  (h0:Xa ts sz s ZM=true) (k0:Pr.Cv ts sz .params (XP ts sz (X7 s)) r1) (k1:Pr.Cv ts sz .e (Xr ts sz r1.1 [61]) r2):Pr.Cv ts sz .statement s (Xr ts sz (Xj r2.1 20 0 0 (Xd ts sz (X7 s)) (r1.2+1)) [59],0):=by
 obtain ⟨f0,g0⟩:=k0
 obtain ⟨f1,g1⟩:=k1
 refine ⟨f0+f1+1,fun f hf=>?_⟩
 obtain ⟨g,rfl⟩:∃ g,f=g+1:=⟨f - 1,by omega⟩
 unfold Xh
 simp [h0,g0 g (by omega),g1 g (by omega)]
theorem Pr.Cv.st_let {s:Pr.Dk} {r1:Pr.Dk × Nat}  (h0:Xa ts sz s ZM=false) (h1:Xa ts sz s YS=true) (k0:Pr.Cv ts sz .e (Xr ts sz (XP ts sz (X7 s)) [61]) r1):Pr.Cv ts sz .statement s (Xr ts sz (Xj r1.1 21 0 0 (Xd ts sz (X7 s)) 1) [59],0):=by
 obtain ⟨f0,g0⟩:=k0
 refine ⟨f0+1,fun f hf=>?_⟩
 obtain ⟨g,rfl⟩:∃ g,f=g+1:=⟨f - 1,by omega⟩
 unfold Xh
 simp [h0,h1,g0 g (by omega)]
theorem Pr.Cv.st_emit {s:Pr.Dk} {r1:Pr.Dk × Nat}  (h0:Xa ts sz s ZM=false) (h1:Xa ts sz s YS=false) (h2:Xa ts sz s ZY=true) (k0:Pr.Cv ts sz .e (X7 s) r1):Pr.Cv ts sz .statement s (Xr ts sz (Xj r1.1 22 0 0 [] 1) [59],0):=by
 obtain ⟨f0,g0⟩:=k0
 refine ⟨f0+1,fun f hf=>?_⟩
 obtain ⟨g,rfl⟩:∃ g,f=g+1:=⟨f - 1,by omega⟩
 unfold Xh
 simp [h0,h1,h2,g0 g (by omega)]
theorem Pr.Cv.st_load {s:Pr.Dk} {r1:Pr.Dk × Nat}  (h0:Xa ts sz s ZM=false) (h1:Xa ts sz s YS=false) (h2:Xa ts sz s ZY=false) (h3:Xa ts sz s KE=true) (h4:((X3 ts sz (X7 s)).kind == 4)=true) (k0:Pr.Cv ts sz (.loadL 0) (Xr ts sz (X7 (X7 s)) [58]) r1):Pr.Cv ts sz .statement s (Xr ts sz (Xj r1.1 23 0 0 (X3 ts sz (X7 s)).text r1.2) [59],0):=by
 obtain ⟨f0,g0⟩:=k0
 refine ⟨f0+1,fun f hf=>?_⟩
 obtain ⟨g,rfl⟩:∃ g,f=g+1:=⟨f - 1,by omega⟩
 unfold Xh
 simp [h0,h1,h2,h3,h4,g0 g (by omega)]
theorem Pr.Cv.st_loadNo {s:Pr.Dk}  (h0:Xa ts sz s ZM=false) (h1:Xa ts sz s YS=false) (h2:Xa ts sz s ZY=false) (h3:Xa ts sz s KE=true) (h4:((X3 ts sz (X7 s)).kind == 4)=false) :Pr.Cv ts sz .statement s (Yt ts sz (X7 s),0):=by
 refine ⟨1,fun f hf=>?_⟩
 obtain ⟨g,rfl⟩:∃ g,f=g+1:=⟨f - 1,by omega⟩
 unfold Xh
 simp [h0,h1,h2,h3,h4]
theorem Pr.Cv.st_stop {s:Pr.Dk}  (h0:Xa ts sz s ZM=false) (h1:Xa ts sz s YS=false) (h2:Xa ts sz s ZY=false) (h3:Xa ts sz s KE=false) :Pr.Cv ts sz .statement s (Xr ts sz (Yt ts sz s) [59],0):=by
 refine ⟨1,fun f hf=>?_⟩
 obtain ⟨g,rfl⟩:∃ g,f=g+1:=⟨f - 1,by omega⟩
 unfold Xh
 simp [h0,h1,h2,h3]
theorem Pr.Cv.fileL_end {s:Pr.Dk} {n:Nat}  (h0:(s.bad || decide (ts.length≤s.p))=true) :Pr.Cv ts sz (.fileL n) s (s,n):=by
 refine ⟨1,fun f hf=>?_⟩
 obtain ⟨g,rfl⟩:∃ g,f=g+1:=⟨f - 1,by omega⟩
 unfold Xh
 simp [h0]
theorem Pr.Cv.fileL_go {s:Pr.Dk} {n:Nat} {r1 r2:Pr.Dk × Nat}  (h0:(s.bad || decide (ts.length≤s.p))=false) (k0:Pr.Cv ts sz .statement s r1) (k1:Pr.Cv ts sz (.fileL (n+1)) r1.1 r2):Pr.Cv ts sz (.fileL n) s r2:=by
 obtain ⟨f0,g0⟩:=k0
 obtain ⟨f1,g1⟩:=k1
 refine ⟨f0+f1+1,fun f hf=>?_⟩
 obtain ⟨g,rfl⟩:∃ g,f=g+1:=⟨f - 1,by omega⟩
 unfold Xh
 simp [h0,g0 g (by omega),g1 g (by omega)]
end
end Go.Proofs.YtimbaebigjjkaaaGreatDoor
