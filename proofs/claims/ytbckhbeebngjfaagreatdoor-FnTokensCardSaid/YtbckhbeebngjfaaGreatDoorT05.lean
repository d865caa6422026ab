/- Hc. -/
import Derived.Test.YtbckhbeebngjfaaGreatDoorT04
namespace Go.Proofs.YtbckhbeebngjfaaGreatDoor
set_option linter.unusedSimpArgs false
section
variable {ts:List Sc.T} {sz:Nat}
theorem Pr.Cv.same {c:Pr.Cmd} {s:Pr.Dk} {r q:Pr.Dk × Nat} (h:Pr.Cv ts sz c s r) (k:Pr.Cv ts sz c s q):r=q:=by
 obtain ⟨f,hf⟩:=h;obtain ⟨g,hg⟩:=k
 exact (hf (f+g) (by omega)).symm.trans (hg (f+g) (by omega))
theorem Pr.Cv.stp {c:Pr.Cmd} {s:Pr.Dk} {r:Pr.Dk × Nat} (h:Pr.Cv ts sz c s r) (hs:s.p≤ts.length):Pr.Stp ts s r.1 (Pr.extra c):=by
 obtain ⟨f,hf⟩:=h
 have:=Pr.pe_stp (ts:=ts) (sz:=sz) f c s hs
 rwa [hf f (Nat.le_refl _)] at this
theorem Pr.Cv.num {c:Pr.Cmd} {s:Pr.Dk} {r:Pr.Dk × Nat} (h:Pr.Cv ts sz c s r) (hc:Pr.isFile c=false) (hs:s.p≤ts.length):r.2≤2*(Pr.cnt c+(r.1.p - s.p))+3:=by
 obtain ⟨f,hf⟩:=h
 have:=Pr.pe_num (ts:=ts) (sz:=sz) f c s hc hs
 rwa [hf f (Nat.le_refl _)] at this
theorem Pr.Cv.e_let {s:Pr.Dk} {r1 r2:Pr.Dk × Nat}  (h0:Pr.is ts sz s Pr.sLet=true) (k0:Pr.Cv ts sz .e (Pr.need ts sz (Pr.name ts sz (Pr.adv s)) [61]) r1) (k1:Pr.Cv ts sz .e (Pr.need ts sz r1.1 Pr.sIn) r2):Pr.Cv ts sz .e s (Pr.put r2.1 14 0 0 (Pr.nameT ts sz (Pr.adv s)) 2,0):=by
 obtain ⟨f0,g0⟩:=k0
 obtain ⟨f1,g1⟩:=k1
 refine ⟨f0+f1+1,fun f hf=>?_⟩
 obtain ⟨g,rfl⟩:∃ g,f=g+1:=⟨f - 1,by omega⟩
 unfold Pr.pe
 simp [h0,g0 g (by omega),g1 g (by omega)]
theorem Pr.Cv.e_if {s:Pr.Dk} {r1 r2 r3:Pr.Dk × Nat}  (h0:Pr.is ts sz s Pr.sLet=false) (h1:Pr.is ts sz s Pr.sIf=true) (k0:Pr.Cv ts sz .e (Pr.adv s) r1) (k1:Pr.Cv ts sz .e (Pr.need ts sz r1.1 Pr.sThen) r2) (k2:Pr.Cv ts sz .e (Pr.need ts sz r2.1 Pr.sElse) r3):Pr.Cv ts sz .e s (Pr.put r3.1 13 0 0 [] 3,0):=by
 obtain ⟨f0,g0⟩:=k0
 obtain ⟨f1,g1⟩:=k1
 obtain ⟨f2,g2⟩:=k2
 refine ⟨f0+f1+f2+1,fun f hf=>?_⟩
 obtain ⟨g,rfl⟩:∃ g,f=g+1:=⟨f - 1,by omega⟩
 unfold Pr.pe
 simp [h0,h1,g0 g (by omega),g1 g (by omega),g2 g (by omega)]
theorem Pr.Cv.e_fn {s:Pr.Dk} {r1 r2:Pr.Dk × Nat}  (h0:Pr.is ts sz s Pr.sLet=false) (h1:Pr.is ts sz s Pr.sIf=false) (h2:Pr.is ts sz s Pr.sFn=true) (k0:Pr.Cv ts sz .params (Pr.adv s) r1) (k1:Pr.Cv ts sz .e (Pr.need ts sz r1.1 [61,62]) r2):Pr.Cv ts sz .e s (Pr.put r2.1 15 0 0 [] (r1.2+1),0):=by
 obtain ⟨f0,g0⟩:=k0
 obtain ⟨f1,g1⟩:=k1
 refine ⟨f0+f1+1,fun f hf=>?_⟩
 obtain ⟨g,rfl⟩:∃ g,f=g+1:=⟨f - 1,by omega⟩
 unfold Pr.pe
 simp [h0,h1,h2,g0 g (by omega),g1 g (by omega)]
theorem Pr.Cv.e_ops {s:Pr.Dk} {r1:Pr.Dk × Nat}  (h0:Pr.is ts sz s Pr.sLet=false) (h1:Pr.is ts sz s Pr.sIf=false) (h2:Pr.is ts sz s Pr.sFn=false) (k0:Pr.Cv ts sz (.ops 1) s r1):Pr.Cv ts sz .e s r1:=by
 obtain ⟨f0,g0⟩:=k0
 refine ⟨f0+1,fun f hf=>?_⟩
 obtain ⟨g,rfl⟩:∃ g,f=g+1:=⟨f - 1,by omega⟩
 unfold Pr.pe
 simp [h0,h1,h2,g0 g (by omega)]
theorem Pr.Cv.params {s:Pr.Dk} {r1:Pr.Dk × Nat}   (k0:Pr.Cv ts sz (.paramsL 0) (Pr.need ts sz s [40]) r1):Pr.Cv ts sz .params s (Pr.need ts sz r1.1 [41],r1.2):=by
 obtain ⟨f0,g0⟩:=k0
 refine ⟨f0+1,fun f hf=>?_⟩
 obtain ⟨g,rfl⟩:∃ g,f=g+1:=⟨f - 1,by omega⟩
 unfold Pr.pe
 simp [g0 g (by omega)]
theorem Pr.Cv.paramsL_bad {s:Pr.Dk} {n:Nat}  (h0:s.bad=true) :Pr.Cv ts sz (.paramsL n) s (s,n):=by
 refine ⟨1,fun f hf=>?_⟩
 obtain ⟨g,rfl⟩:∃ g,f=g+1:=⟨f - 1,by omega⟩
 unfold Pr.pe
 simp [h0]
theorem Pr.Cv.paramsL_end {s:Pr.Dk}  (h0:s.bad=false) (h1:Pr.is ts sz s [41]=true) :Pr.Cv ts sz (.paramsL 0) s (s,0):=by
 refine ⟨1,fun f hf=>?_⟩
 obtain ⟨g,rfl⟩:∃ g,f=g+1:=⟨f - 1,by omega⟩
 unfold Pr.pe
 simp [h0,h1]
theorem Pr.Cv.paramsL_val {s:Pr.Dk} {n:Nat} {r1 r2:Pr.Dk × Nat}  (h0:s.bad=false) (h1:(n == 0 && Pr.is ts sz s [41])=false) (h2:Pr.is ts sz (Pr.name ts sz s) [61]=true) (h3:Pr.is ts sz (Pr.put r1.1 19 0 0 (Pr.nameT ts sz s) 1) [44]=true) (k0:Pr.Cv ts sz .e (Pr.adv (Pr.name ts sz s)) r1) (k1:Pr.Cv ts sz (.paramsL (n+1)) (Pr.adv (Pr.put r1.1 19 0 0 (Pr.nameT ts sz s) 1)) r2):Pr.Cv ts sz (.paramsL n) s r2:=by
 obtain ⟨f0,g0⟩:=k0
 obtain ⟨f1,g1⟩:=k1
 refine ⟨f0+f1+1,fun f hf=>?_⟩
 obtain ⟨g,rfl⟩:∃ g,f=g+1:=⟨f - 1,by omega⟩
 unfold Pr.pe
 simp [h0,h1,h2,h3,g0 g (by omega),g1 g (by omega)]
theorem Pr.Cv.paramsL_valEnd {s:Pr.Dk} {n:Nat} {r1:Pr.Dk × Nat}  (h0:s.bad=false) (h1:(n == 0 && Pr.is ts sz s [41])=false) (h2:Pr.is ts sz (Pr.name ts sz s) [61]=true) (h3:Pr.is ts sz (Pr.put r1.1 19 0 0 (Pr.nameT ts sz s) 1) [44]=false) (k0:Pr.Cv ts sz .e (Pr.adv (Pr.name ts sz s)) r1):Pr.Cv ts sz (.paramsL n) s (Pr.put r1.1 19 0 0 (Pr.nameT ts sz s) 1,n+1):=by
 obtain ⟨f0,g0⟩:=k0
 refine ⟨f0+1,fun f hf=>?_⟩
 obtain ⟨g,rfl⟩:∃ g,f=g+1:=⟨f - 1,by omega⟩
 unfold Pr.pe
 simp [h0,h1,h2,h3,g0 g (by omega)]
theorem Pr.Cv.paramsL_no {s:Pr.Dk} {n:Nat} {r2:Pr.Dk × Nat}  (h0:s.bad=false) (h1:(n == 0 && Pr.is ts sz s [41])=false) (h2:Pr.is ts sz (Pr.name ts sz s) [61]=false) (h3:Pr.is ts sz (Pr.put (Pr.name ts sz s) 19 0 0 (Pr.nameT ts sz s) 0) [44]=true) (k0:Pr.Cv ts sz (.paramsL (n+1)) (Pr.adv (Pr.put (Pr.name ts sz s) 19 0 0 (Pr.nameT ts sz s) 0)) r2):Pr.Cv ts sz (.paramsL n) s r2:=by
 obtain ⟨f0,g0⟩:=k0
 refine ⟨f0+1,fun f hf=>?_⟩
 obtain ⟨g,rfl⟩:∃ g,f=g+1:=⟨f - 1,by omega⟩
 unfold Pr.pe
 simp [h0,h1,h2,h3,g0 g (by omega)]
theorem Pr.Cv.paramsL_noEnd {s:Pr.Dk} {n:Nat}  (h0:s.bad=false) (h1:(n == 0 && Pr.is ts sz s [41])=false) (h2:Pr.is ts sz (Pr.name ts sz s) [61]=false) (h3:Pr.is ts sz (Pr.put (Pr.name ts sz s) 19 0 0 (Pr.nameT ts sz s) 0) [44]=false) :Pr.Cv ts sz (.paramsL n) s (Pr.put (Pr.name ts sz s) 19 0 0 (Pr.nameT ts sz s) 0,n+1):=by
 refine ⟨1,fun f hf=>?_⟩
 obtain ⟨g,rfl⟩:∃ g,f=g+1:=⟨f - 1,by omega⟩
 unfold Pr.pe
 simp [h0,h1,h2,h3]
theorem Pr.Cv.ops_bad {s:Pr.Dk} {r:Nat}  (h0:s.bad=true) :Pr.Cv ts sz (.ops r) s (s,0):=by
 refine ⟨1,fun f hf=>?_⟩
 obtain ⟨g,rfl⟩:∃ g,f=g+1:=⟨f - 1,by omega⟩
 unfold Pr.pe
 simp [h0]
theorem Pr.Cv.ops_not {s:Pr.Dk} {r1:Pr.Dk × Nat}  (h0:s.bad=false) (h1:Pr.is ts sz s Pr.sNot=true) (k0:Pr.Cv ts sz (.ops 3) (Pr.adv s) r1):Pr.Cv ts sz (.ops 3) s (Pr.put r1.1 6 1 0 [] 1,0):=by
 obtain ⟨f0,g0⟩:=k0
 refine ⟨f0+1,fun f hf=>?_⟩
 obtain ⟨g,rfl⟩:∃ g,f=g+1:=⟨f - 1,by omega⟩
 unfold Pr.pe
 simp [h0,h1,g0 g (by omega)]
theorem Pr.Cv.ops_3 {s:Pr.Dk} {r1:Pr.Dk × Nat}  (h0:s.bad=false) (h1:Pr.is ts sz s Pr.sNot=false) (k0:Pr.Cv ts sz (.ops 4) s r1):Pr.Cv ts sz (.ops 3) s r1:=by
 obtain ⟨f0,g0⟩:=k0
 refine ⟨f0+1,fun f hf=>?_⟩
 obtain ⟨g,rfl⟩:∃ g,f=g+1:=⟨f - 1,by omega⟩
 unfold Pr.pe
 simp [h0,h1,g0 g (by omega)]
theorem Pr.Cv.ops_neg {s:Pr.Dk} {r1:Pr.Dk × Nat}  (h0:s.bad=false) (h1:((7:Nat) == 3)=false) (h2:Pr.is ts sz s [45]=true) (k0:Pr.Cv ts sz (.ops 7) (Pr.adv s) r1):Pr.Cv ts sz (.ops 7) s (Pr.put r1.1 6 2 0 [] 1,0):=by
 obtain ⟨f0,g0⟩:=k0
 refine ⟨f0+1,fun f hf=>?_⟩
 obtain ⟨g,rfl⟩:∃ g,f=g+1:=⟨f - 1,by omega⟩
 unfold Pr.pe
 simp [h0,h1,h2,g0 g (by omega)]
theorem Pr.Cv.ops_7 {s:Pr.Dk} {r1:Pr.Dk × Nat}  (h0:s.bad=false) (h1:((7:Nat) == 3)=false) (h2:Pr.is ts sz s [45]=false) (k0:Pr.Cv ts sz .post s r1):Pr.Cv ts sz (.ops 7) s r1:=by
 obtain ⟨f0,g0⟩:=k0
 refine ⟨f0+1,fun f hf=>?_⟩
 obtain ⟨g,rfl⟩:∃ g,f=g+1:=⟨f - 1,by omega⟩
 unfold Pr.pe
 simp [h0,h1,h2,g0 g (by omega)]
theorem Pr.Cv.ops_r {s:Pr.Dk} {r:Nat} {r1 r2:Pr.Dk × Nat}  (h0:s.bad=false) (h1:(r == 3)=false) (h2:(r == 7)=false) (k0:Pr.Cv ts sz (.ops (r+1)) s r1) (k1:Pr.Cv ts sz (.opsL r) r1.1 r2):Pr.Cv ts sz (.ops r) s r2:=by
 obtain ⟨f0,g0⟩:=k0
 obtain ⟨f1,g1⟩:=k1
 refine ⟨f0+f1+1,fun f hf=>?_⟩
 obtain ⟨g,rfl⟩:∃ g,f=g+1:=⟨f - 1,by omega⟩
 unfold Pr.pe
 simp [h0,h1,h2,g0 g (by omega),g1 g (by omega)]
theorem Pr.Cv.opsL_end {s:Pr.Dk} {r:Nat}  (h0:(Pr.op ts sz s r == 0)=true) :Pr.Cv ts sz (.opsL r) s (s,0):=by
 refine ⟨1,fun f hf=>?_⟩
 obtain ⟨g,rfl⟩:∃ g,f=g+1:=⟨f - 1,by omega⟩
 unfold Pr.pe
 simp [h0]
theorem Pr.Cv.opsL_4 {s:Pr.Dk} {r1:Pr.Dk × Nat}  (h0:(Pr.op ts sz s 4 == 0)=false) (k0:Pr.Cv ts sz (.ops (4+1)) (Pr.adv s) r1):Pr.Cv ts sz (.opsL 4) s (Pr.put r1.1 7 (Pr.op ts sz s 4) 0 [] 2,0):=by
 obtain ⟨f0,g0⟩:=k0
 refine ⟨f0+1,fun f hf=>?_⟩
 obtain ⟨g,rfl⟩:∃ g,f=g+1:=⟨f - 1,by omega⟩
 unfold Pr.pe
 simp [h0,g0 g (by omega)]
theorem Pr.Cv.opsL_go {s:Pr.Dk} {r:Nat} {r1 r2:Pr.Dk × Nat}  (h0:(Pr.op ts sz s r == 0)=false) (h1:(r == 4)=false) (k0:Pr.Cv ts sz (.ops (r+1)) (Pr.adv s) r1) (k1:Pr.Cv ts sz (.opsL r) (Pr.put r1.1 7 (Pr.op ts sz s r) 0 [] 2) r2):Pr.Cv ts sz (.opsL r) s r2:=by
 obtain ⟨f0,g0⟩:=k0
 obtain ⟨f1,g1⟩:=k1
 refine ⟨f0+f1+1,fun f hf=>?_⟩
 obtain ⟨g,rfl⟩:∃ g,f=g+1:=⟨f - 1,by omega⟩
 unfold Pr.pe
 simp [h0,h1,g0 g (by omega),g1 g (by omega)]
theorem Pr.Cv.post {s:Pr.Dk} {r1 r2:Pr.Dk × Nat}   (k0:Pr.Cv ts sz .single s r1) (k1:Pr.Cv ts sz .postL r1.1 r2):Pr.Cv ts sz .post s r2:=by
 obtain ⟨f0,g0⟩:=k0
 obtain ⟨f1,g1⟩:=k1
 refine ⟨f0+f1+1,fun f hf=>?_⟩
 obtain ⟨g,rfl⟩:∃ g,f=g+1:=⟨f - 1,by omega⟩
 unfold Pr.pe
 simp [g0 g (by omega),g1 g (by omega)]
theorem Pr.Cv.postL_bad {s:Pr.Dk}  (h0:s.bad=true) :Pr.Cv ts sz .postL s (s,0):=by
 refine ⟨1,fun f hf=>?_⟩
 obtain ⟨g,rfl⟩:∃ g,f=g+1:=⟨f - 1,by omega⟩
 unfold Pr.pe
 simp [h0]
theorem Pr.Cv.postL_call {s:Pr.Dk} {r1 r2:Pr.Dk × Nat}  (h0:s.bad=false) (h1:Pr.is ts sz s [40]=true) (k0:Pr.Cv ts sz .args (Pr.adv s) r1) (k1:Pr.Cv ts sz .postL (Pr.put r1.1 12 0 0 [] (1+r1.2)) r2):Pr.Cv ts sz .postL s r2:=by
 obtain ⟨f0,g0⟩:=k0
 obtain ⟨f1,g1⟩:=k1
 refine ⟨f0+f1+1,fun f hf=>?_⟩
 obtain ⟨g,rfl⟩:∃ g,f=g+1:=⟨f - 1,by omega⟩
 unfold Pr.pe
 simp [h0,h1,g0 g (by omega),g1 g (by omega)]
theorem Pr.Cv.postL_index {s:Pr.Dk} {r1 r2:Pr.Dk × Nat}  (h0:s.bad=false) (h1:Pr.is ts sz s [40]=false) (h2:Pr.is ts sz s [91]=true) (k0:Pr.Cv ts sz .e (Pr.adv s) r1) (k1:Pr.Cv ts sz .postL (Pr.put (Pr.need ts sz r1.1 [93]) 10 0 0 [] 2) r2):Pr.Cv ts sz .postL s r2:=by
 obtain ⟨f0,g0⟩:=k0
 obtain ⟨f1,g1⟩:=k1
 refine ⟨f0+f1+1,fun f hf=>?_⟩
 obtain ⟨g,rfl⟩:∃ g,f=g+1:=⟨f - 1,by omega⟩
 unfold Pr.pe
 simp [h0,h1,h2,g0 g (by omega),g1 g (by omega)]
theorem Pr.Cv.postL_dot {s:Pr.Dk} {r2:Pr.Dk × Nat}  (h0:s.bad=false) (h1:Pr.is ts sz s [40]=false) (h2:Pr.is ts sz s [91]=false) (h3:Pr.is ts sz s [46]=true) (k0:Pr.Cv ts sz .postL (Pr.put (Pr.name ts sz (Pr.adv s)) 11 0 0 (Pr.nameT ts sz (Pr.adv s)) 1) r2):Pr.Cv ts sz .postL s r2:=by
 obtain ⟨f0,g0⟩:=k0
 refine ⟨f0+1,fun f hf=>?_⟩
 obtain ⟨g,rfl⟩:∃ g,f=g+1:=⟨f - 1,by omega⟩
 unfold Pr.pe
 simp [h0,h1,h2,h3,g0 g (by omega)]
theorem Pr.Cv.postL_end {s:Pr.Dk}  (h0:s.bad=false) (h1:Pr.is ts sz s [40]=false) (h2:Pr.is ts sz s [91]=false) (h3:Pr.is ts sz s [46]=false) :Pr.Cv ts sz .postL s (s,0):=by
 refine ⟨1,fun f hf=>?_⟩
 obtain ⟨g,rfl⟩:∃ g,f=g+1:=⟨f - 1,by omega⟩
 unfold Pr.pe
 simp [h0,h1,h2,h3]
theorem Pr.Cv.args {s:Pr.Dk} {r1:Pr.Dk × Nat}   (k0:Pr.Cv ts sz (.argsL 0 false) s r1):Pr.Cv ts sz .args s (Pr.need ts sz r1.1 [41],r1.2):=by
 obtain ⟨f0,g0⟩:=k0
 refine ⟨f0+1,fun f hf=>?_⟩
 obtain ⟨g,rfl⟩:∃ g,f=g+1:=⟨f - 1,by omega⟩
 unfold Pr.pe
 simp [g0 g (by omega)]
theorem Pr.Cv.argsL_bad {s:Pr.Dk} {n:Nat} {b:Bool}  (h0:s.bad=true) :Pr.Cv ts sz (.argsL n b) s (s,n):=by
 refine ⟨1,fun f hf=>?_⟩
 obtain ⟨g,rfl⟩:∃ g,f=g+1:=⟨f - 1,by omega⟩
 unfold Pr.pe
 simp [h0]
theorem Pr.Cv.argsL_end {s:Pr.Dk} {b:Bool}  (h0:s.bad=false) (h1:Pr.is ts sz s [41]=true) :Pr.Cv ts sz (.argsL 0 b) s (s,0):=by
 refine ⟨1,fun f hf=>?_⟩
 obtain ⟨g,rfl⟩:∃ g,f=g+1:=⟨f - 1,by omega⟩
 unfold Pr.pe
 simp [h0,h1]
theorem Pr.Cv.argsL_named {s:Pr.Dk} {n:Nat} {b:Bool} {r1 r2:Pr.Dk × Nat}  (h0:s.bad=false) (h1:(n == 0 && Pr.is ts sz s [41])=false) (h2:(b || Pr.named ts sz s)=true) (h3:Pr.is ts sz (Pr.put r1.1 18 0 0 (Pr.nameT ts sz s) 1) [44]=true) (k0:Pr.Cv ts sz .e (Pr.need ts sz (Pr.name ts sz s) [61]) r1) (k1:Pr.Cv ts sz (.argsL (n+1) true) (Pr.adv (Pr.put r1.1 18 0 0 (Pr.nameT ts sz s) 1)) r2):Pr.Cv ts sz (.argsL n b) s r2:=by
 obtain ⟨f0,g0⟩:=k0
 obtain ⟨f1,g1⟩:=k1
 refine ⟨f0+f1+1,fun f hf=>?_⟩
 obtain ⟨g,rfl⟩:∃ g,f=g+1:=⟨f - 1,by omega⟩
 unfold Pr.pe
 simp [h0,h1,h2,h3,g0 g (by omega),g1 g (by omega)]
theorem Pr.Cv.argsL_namedEnd {s:Pr.Dk} {n:Nat} {b:Bool} {r1:Pr.Dk × Nat}  (h0:s.bad=false) (h1:(n == 0 && Pr.is ts sz s [41])=false) (h2:(b || Pr.named ts sz s)=true) (h3:Pr.is ts sz (Pr.put r1.1 18 0 0 (Pr.nameT ts sz s) 1) [44]=false) (k0:Pr.Cv ts sz .e (Pr.need ts sz (Pr.name ts sz s) [61]) r1):Pr.Cv ts sz (.argsL n b) s (Pr.put r1.1 18 0 0 (Pr.nameT ts sz s) 1,n+1):=by
 obtain ⟨f0,g0⟩:=k0
 refine ⟨f0+1,fun f hf=>?_⟩
 obtain ⟨g,rfl⟩:∃ g,f=g+1:=⟨f - 1,by omega⟩
 unfold Pr.pe
 simp [h0,h1,h2,h3,g0 g (by omega)]
theorem Pr.Cv.argsL_plain {s:Pr.Dk} {n:Nat} {b:Bool} {r1 r2:Pr.Dk × Nat}  (h0:s.bad=false) (h1:(n == 0 && Pr.is ts sz s [41])=false) (h2:(b || Pr.named ts sz s)=false) (h3:Pr.is ts sz r1.1 [44]=true) (k0:Pr.Cv ts sz .e s r1) (k1:Pr.Cv ts sz (.argsL (n+1) false) (Pr.adv r1.1) r2):Pr.Cv ts sz (.argsL n b) s r2:=by
 obtain ⟨f0,g0⟩:=k0
 obtain ⟨f1,g1⟩:=k1
 refine ⟨f0+f1+1,fun f hf=>?_⟩
 obtain ⟨g,rfl⟩:∃ g,f=g+1:=⟨f - 1,by omega⟩
 unfold Pr.pe
 simp [h0,h1,h2,h3,g0 g (by omega),g1 g (by omega)]
theorem Pr.Cv.argsL_plainEnd {s:Pr.Dk} {n:Nat} {b:Bool} {r1:Pr.Dk × Nat}  (h0:s.bad=false) (h1:(n == 0 && Pr.is ts sz s [41])=false) (h2:(b || Pr.named ts sz s)=false) (h3:Pr.is ts sz r1.1 [44]=false) (k0:Pr.Cv ts sz .e s r1):Pr.Cv ts sz (.argsL n b) s (r1.1,n+1):=by
 obtain ⟨f0,g0⟩:=k0
 refine ⟨f0+1,fun f hf=>?_⟩
 obtain ⟨g,rfl⟩:∃ g,f=g+1:=⟨f - 1,by omega⟩
 unfold Pr.pe
 simp [h0,h1,h2,h3,g0 g (by omega)]
theorem Pr.Cv.list_nil {s:Pr.Dk}  (h0:Pr.is ts sz s [93]=true) :Pr.Cv ts sz .list s (Pr.put (Pr.adv s) 8 0 0 [] 0,0):=by
 refine ⟨1,fun f hf=>?_⟩
 obtain ⟨g,rfl⟩:∃ g,f=g+1:=⟨f - 1,by omega⟩
 unfold Pr.pe
 simp [h0]
theorem Pr.Cv.list_list {s:Pr.Dk} {r1 r2:Pr.Dk × Nat}  (h0:Pr.is ts sz s [93]=false) (h1:Pr.is ts sz r1.1 Pr.sFor=false) (k0:Pr.Cv ts sz .e s r1) (k1:Pr.Cv ts sz (.listL 1) r1.1 r2):Pr.Cv ts sz .list s (Pr.put (Pr.need ts sz r2.1 [93]) 8 0 0 [] r2.2,0):=by
 obtain ⟨f0,g0⟩:=k0
 obtain ⟨f1,g1⟩:=k1
 refine ⟨f0+f1+1,fun f hf=>?_⟩
 obtain ⟨g,rfl⟩:∃ g,f=g+1:=⟨f - 1,by omega⟩
 unfold Pr.pe
 simp [h0,h1,g0 g (by omega),g1 g (by omega)]
def Pr.cut (s r:Pr.Dk):Pr.Dk:={Pr.adv r with out:=r.out.take s.out.length}
def Pr.back (s r q:Pr.Dk):Pr.Dk:={q with out:=q.out++r.out.drop s.out.length}
theorem Pr.Cv.list_for {s:Pr.Dk} {r1 r2:Pr.Dk × Nat}  (h0:Pr.is ts sz s [93]=false) (h1:Pr.is ts sz r1.1 Pr.sFor=true) (h2:Pr.is ts sz {r2.1 with out:=r2.1.out++r1.1.out.drop s.out.length} Pr.sIf=false) (k0:Pr.Cv ts sz .e s r1) (k1:Pr.Cv ts sz .e (Pr.need ts sz (Pr.name ts sz {Pr.adv r1.1 with out:=r1.1.out.take s.out.length}) Pr.sIn) r2):Pr.Cv ts sz .list s (Pr.put (Pr.need ts sz {r2.1 with out:=r2.1.out++r1.1.out.drop s.out.length} [93]) 16 0 0 (Pr.nameT ts sz {Pr.adv r1.1 with out:=r1.1.out.take s.out.length}) 2,0):=by
 obtain ⟨f0,g0⟩:=k0
 obtain ⟨f1,g1⟩:=k1
 refine ⟨f0+f1+1,fun f hf=>?_⟩
 obtain ⟨g,rfl⟩:∃ g,f=g+1:=⟨f - 1,by omega⟩
 unfold Pr.pe
 simp only [h0,h1,h2,g0 g (by omega),g1 g (by omega),if_true,Bool.false_eq_true,if_false,ite_true,ite_false,Bool.and_true,Bool.and_false,Bool.or_false,Bool.false_or,Bool.true_or,Bool.or_true,Bool.true_and,Bool.false_and,beq_self_eq_true]
theorem Pr.Cv.list_forIf {s:Pr.Dk} {r1 r2 r3:Pr.Dk × Nat}  (h0:Pr.is ts sz s [93]=false) (h1:Pr.is ts sz r1.1 Pr.sFor=true) (h2:Pr.is ts sz {r2.1 with out:=r2.1.out++r1.1.out.drop s.out.length} Pr.sIf=true) (k0:Pr.Cv ts sz .e s r1) (k1:Pr.Cv ts sz .e (Pr.need ts sz (Pr.name ts sz {Pr.adv r1.1 with out:=r1.1.out.take s.out.length}) Pr.sIn) r2) (k2:Pr.Cv ts sz .e (Pr.adv {r2.1 with out:=r2.1.out++r1.1.out.drop s.out.length}) r3):Pr.Cv ts sz .list s (Pr.put (Pr.need ts sz r3.1 [93]) 16 0 0 (Pr.nameT ts sz {Pr.adv r1.1 with out:=r1.1.out.take s.out.length}) 3,0):=by
 obtain ⟨f0,g0⟩:=k0
 obtain ⟨f1,g1⟩:=k1
 obtain ⟨f2,g2⟩:=k2
 refine ⟨f0+f1+f2+1,fun f hf=>?_⟩
 obtain ⟨g,rfl⟩:∃ g,f=g+1:=⟨f - 1,by omega⟩
 unfold Pr.pe
 simp only [h0,h1,h2,g0 g (by omega),g1 g (by omega),g2 g (by omega),if_true,Bool.false_eq_true,if_false,ite_true,ite_false,Bool.and_true,Bool.and_false,Bool.or_false,Bool.false_or,Bool.true_or,Bool.or_true,Bool.true_and,Bool.false_and,beq_self_eq_true]
theorem Pr.Cv.listL_go {s:Pr.Dk} {n:Nat} {r1 r2:Pr.Dk × Nat}  (h0:Pr.is ts sz s [44]=true) (k0:Pr.Cv ts sz .e (Pr.adv s) r1) (k1:Pr.Cv ts sz (.listL (n+1)) r1.1 r2):Pr.Cv ts sz (.listL n) s r2:=by
 obtain ⟨f0,g0⟩:=k0
 obtain ⟨f1,g1⟩:=k1
 refine ⟨f0+f1+1,fun f hf=>?_⟩
 obtain ⟨g,rfl⟩:∃ g,f=g+1:=⟨f - 1,by omega⟩
 unfold Pr.pe
 simp [h0,g0 g (by omega),g1 g (by omega)]
theorem Pr.Cv.listL_end {s:Pr.Dk} {n:Nat}  (h0:Pr.is ts sz s [44]=false) :Pr.Cv ts sz (.listL n) s (s,n):=by
 refine ⟨1,fun f hf=>?_⟩
 obtain ⟨g,rfl⟩:∃ g,f=g+1:=⟨f - 1,by omega⟩
 unfold Pr.pe
 simp [h0]
theorem Pr.Cv.record_ok {s:Pr.Dk} {r1:Pr.Dk × Nat}  (h0:(r1.2 % 2 == 1)=false) (k0:Pr.Cv ts sz (.recordL 0) s r1):Pr.Cv ts sz .record s (Pr.put (Pr.need ts sz r1.1 [125]) 9 0 0 [] (r1.2 / 2),0):=by
 obtain ⟨f0,g0⟩:=k0
 refine ⟨f0+1,fun f hf=>?_⟩
 obtain ⟨g,rfl⟩:∃ g,f=g+1:=⟨f - 1,by omega⟩
 unfold Pr.pe
 simp [h0,g0 g (by omega)]
theorem Pr.Cv.record_bad {s:Pr.Dk} {r1:Pr.Dk × Nat}  (h0:(r1.2 % 2 == 1)=true) (k0:Pr.Cv ts sz (.recordL 0) s r1):Pr.Cv ts sz .record s (r1.1,0):=by
 obtain ⟨f0,g0⟩:=k0
 refine ⟨f0+1,fun f hf=>?_⟩
 obtain ⟨g,rfl⟩:∃ g,f=g+1:=⟨f - 1,by omega⟩
 unfold Pr.pe
 simp [h0,g0 g (by omega)]
theorem Pr.Cv.recordL_bad {s:Pr.Dk} {n:Nat}  (h0:s.bad=true) :Pr.Cv ts sz (.recordL n) s (s,2 * n):=by
 refine ⟨1,fun f hf=>?_⟩
 obtain ⟨g,rfl⟩:∃ g,f=g+1:=⟨f - 1,by omega⟩
 unfold Pr.pe
 simp [h0]
theorem Pr.Cv.recordL_end {s:Pr.Dk}  (h0:s.bad=false) (h1:Pr.is ts sz s [125]=true) :Pr.Cv ts sz (.recordL 0) s (s,2*0):=by
 refine ⟨1,fun f hf=>?_⟩
 obtain ⟨g,rfl⟩:∃ g,f=g+1:=⟨f - 1,by omega⟩
 unfold Pr.pe
 simp [h0,h1]
theorem Pr.Cv.recordL_go {s:Pr.Dk} {n:Nat} {r1 r2:Pr.Dk × Nat}  (h0:s.bad=false) (h1:(n == 0 && Pr.is ts sz s [125])=false) (h2:((Pr.tok ts sz s).kind == 1 || (Pr.tok ts sz s).kind == 4)=true) (h3:Pr.is ts sz (Pr.put r1.1 17 0 0 (Pr.tok ts sz s).text 1) [44]=true) (k0:Pr.Cv ts sz .e (Pr.need ts sz (Pr.adv s) [58]) r1) (k1:Pr.Cv ts sz (.recordL (n+1)) (Pr.adv (Pr.put r1.1 17 0 0 (Pr.tok ts sz s).text 1)) r2):Pr.Cv ts sz (.recordL n) s r2:=by
 obtain ⟨f0,g0⟩:=k0
 obtain ⟨f1,g1⟩:=k1
 refine ⟨f0+f1+1,fun f hf=>?_⟩
 obtain ⟨g,rfl⟩:∃ g,f=g+1:=⟨f - 1,by omega⟩
 unfold Pr.pe
 simp [h0,h1,h2,h3,g0 g (by omega),g1 g (by omega)]
theorem Pr.Cv.recordL_last {s:Pr.Dk} {n:Nat} {r1:Pr.Dk × Nat}  (h0:s.bad=false) (h1:(n == 0 && Pr.is ts sz s [125])=false) (h2:((Pr.tok ts sz s).kind == 1 || (Pr.tok ts sz s).kind == 4)=true) (h3:Pr.is ts sz (Pr.put r1.1 17 0 0 (Pr.tok ts sz s).text 1) [44]=false) (k0:Pr.Cv ts sz .e (Pr.need ts sz (Pr.adv s) [58]) r1):Pr.Cv ts sz (.recordL n) s (Pr.put r1.1 17 0 0 (Pr.tok ts sz s).text 1,2*(n+1)):=by
 obtain ⟨f0,g0⟩:=k0
 refine ⟨f0+1,fun f hf=>?_⟩
 obtain ⟨g,rfl⟩:∃ g,f=g+1:=⟨f - 1,by omega⟩
 unfold Pr.pe
 simp [h0,h1,h2,h3,g0 g (by omega)]
theorem Pr.Cv.recordL_stop {s:Pr.Dk} {n:Nat}  (h0:s.bad=false) (h1:(n == 0 && Pr.is ts sz s [125])=false) (h2:((Pr.tok ts sz s).kind == 1 || (Pr.tok ts sz s).kind == 4)=false) :Pr.Cv ts sz (.recordL n) s (Pr.stop ts sz s,2 * n+1):=by
 refine ⟨1,fun f hf=>?_⟩
 obtain ⟨g,rfl⟩:∃ g,f=g+1:=⟨f - 1,by omega⟩
 unfold Pr.pe
 simp [h0,h1,h2]
theorem Pr.Cv.single_bad {s:Pr.Dk}  (h0:s.bad=true) :Pr.Cv ts sz .single s (s,0):=by
 refine ⟨1,fun f hf=>?_⟩
 obtain ⟨g,rfl⟩:∃ g,f=g+1:=⟨f - 1,by omega⟩
 unfold Pr.pe
 simp [h0]
theorem Pr.Cv.single_int {s:Pr.Dk}  (h0:s.bad=false) (h1:((Pr.tok ts sz s).kind == 3)=true) :Pr.Cv ts sz .single s (Pr.put (Pr.adv s) 3 0 (Pr.tok ts sz s).n [] 0,0):=by
 refine ⟨1,fun f hf=>?_⟩
 obtain ⟨g,rfl⟩:∃ g,f=g+1:=⟨f - 1,by omega⟩
 unfold Pr.pe
 simp [h0,h1]
theorem Pr.Cv.single_text {s:Pr.Dk}  (h0:s.bad=false) (h1:((Pr.tok ts sz s).kind == 3)=false) (h2:((Pr.tok ts sz s).kind == 4)=true) :Pr.Cv ts sz .single s (Pr.put (Pr.adv s) 4 0 0 (Pr.tok ts sz s).text 0,0):=by
 refine ⟨1,fun f hf=>?_⟩
 obtain ⟨g,rfl⟩:∃ g,f=g+1:=⟨f - 1,by omega⟩
 unfold Pr.pe
 simp [h0,h1,h2]
theorem Pr.Cv.single_name {s:Pr.Dk}  (h0:s.bad=false) (h1:((Pr.tok ts sz s).kind == 3)=false) (h2:((Pr.tok ts sz s).kind == 4)=false) (h3:((Pr.tok ts sz s).kind == 1)=true) :Pr.Cv ts sz .single s (Pr.put (Pr.adv s) 5 0 0 (Pr.tok ts sz s).text 0,0):=by
 refine ⟨1,fun f hf=>?_⟩
 obtain ⟨g,rfl⟩:∃ g,f=g+1:=⟨f - 1,by omega⟩
 unfold Pr.pe
 simp [h0,h1,h2,h3]
theorem Pr.Cv.single_none {s:Pr.Dk}  (h0:s.bad=false) (h1:((Pr.tok ts sz s).kind == 3)=false) (h2:((Pr.tok ts sz s).kind == 4)=false) (h3:((Pr.tok ts sz s).kind == 1)=false) (h4:Pr.is ts sz s Pr.sNone=true) :Pr.Cv ts sz .single s (Pr.put (Pr.adv s) 1 0 0 [] 0,0):=by
 refine ⟨1,fun f hf=>?_⟩
 obtain ⟨g,rfl⟩:∃ g,f=g+1:=⟨f - 1,by omega⟩
 unfold Pr.pe
 simp [h0,h1,h2,h3,h4]
theorem Pr.Cv.single_false {s:Pr.Dk}  (h0:s.bad=false) (h1:((Pr.tok ts sz s).kind == 3)=false) (h2:((Pr.tok ts sz s).kind == 4)=false) (h3:((Pr.tok ts sz s).kind == 1)=false) (h4:Pr.is ts sz s Pr.sNone=false) (h5:Pr.is ts sz s Pr.sFalse=true) :Pr.Cv ts sz .single s (Pr.put (Pr.adv s) 2 0 0 [] 0,0):=by
 refine ⟨1,fun f hf=>?_⟩
 obtain ⟨g,rfl⟩:∃ g,f=g+1:=⟨f - 1,by omega⟩
 unfold Pr.pe
 simp [h0,h1,h2,h3,h4,h5]
theorem Pr.Cv.single_true {s:Pr.Dk}  (h0:s.bad=false) (h1:((Pr.tok ts sz s).kind == 3)=false) (h2:((Pr.tok ts sz s).kind == 4)=false) (h3:((Pr.tok ts sz s).kind == 1)=false) (h4:Pr.is ts sz s Pr.sNone=false) (h5:Pr.is ts sz s Pr.sFalse=false) (h6:Pr.is ts sz s Pr.sTrue=true) :Pr.Cv ts sz .single s (Pr.put (Pr.adv s) 2 0 1 [] 0,0):=by
 refine ⟨1,fun f hf=>?_⟩
 obtain ⟨g,rfl⟩:∃ g,f=g+1:=⟨f - 1,by omega⟩
 unfold Pr.pe
 simp [h0,h1,h2,h3,h4,h5,h6]
theorem Pr.Cv.single_list {s:Pr.Dk} {r1:Pr.Dk × Nat}  (h0:s.bad=false) (h1:((Pr.tok ts sz s).kind == 3)=false) (h2:((Pr.tok ts sz s).kind == 4)=false) (h3:((Pr.tok ts sz s).kind == 1)=false) (h4:Pr.is ts sz s Pr.sNone=false) (h5:Pr.is ts sz s Pr.sFalse=false) (h6:Pr.is ts sz s Pr.sTrue=false) (h7:Pr.is ts sz s [91]=true) (k0:Pr.Cv ts sz .list (Pr.adv s) r1):Pr.Cv ts sz .single s r1:=by
 obtain ⟨f0,g0⟩:=k0
 refine ⟨f0+1,fun f hf=>?_⟩
 obtain ⟨g,rfl⟩:∃ g,f=g+1:=⟨f - 1,by omega⟩
 unfold Pr.pe
 simp [h0,h1,h2,h3,h4,h5,h6,h7,g0 g (by omega)]
theorem Pr.Cv.single_record {s:Pr.Dk} {r1:Pr.Dk × Nat}  (h0:s.bad=false) (h1:((Pr.tok ts sz s).kind == 3)=false) (h2:((Pr.tok ts sz s).kind == 4)=false) (h3:((Pr.tok ts sz s).kind == 1)=false) (h4:Pr.is ts sz s Pr.sNone=false) (h5:Pr.is ts sz s Pr.sFalse=false) (h6:Pr.is ts sz s Pr.sTrue=false) (h7:Pr.is ts sz s [91]=false) (h8:Pr.is ts sz s [123]=true) (k0:Pr.Cv ts sz .record (Pr.adv s) r1):Pr.Cv ts sz .single s r1:=by
 obtain ⟨f0,g0⟩:=k0
 refine ⟨f0+1,fun f hf=>?_⟩
 obtain ⟨g,rfl⟩:∃ g,f=g+1:=⟨f - 1,by omega⟩
 unfold Pr.pe
 simp [h0,h1,h2,h3,h4,h5,h6,h7,h8,g0 g (by omega)]
theorem Pr.Cv.single_round {s:Pr.Dk} {r1:Pr.Dk × Nat}  (h0:s.bad=false) (h1:((Pr.tok ts sz s).kind == 3)=false) (h2:((Pr.tok ts sz s).kind == 4)=false) (h3:((Pr.tok ts sz s).kind == 1)=false) (h4:Pr.is ts sz s Pr.sNone=false) (h5:Pr.is ts sz s Pr.sFalse=false) (h6:Pr.is ts sz s Pr.sTrue=false) (h7:Pr.is ts sz s [91]=false) (h8:Pr.is ts sz s [123]=false) (h9:Pr.is ts sz s [40]=true) (k0:Pr.Cv ts sz .e (Pr.adv s) r1):Pr.Cv ts sz .single s (Pr.need ts sz r1.1 [41],0):=by
 obtain ⟨f0,g0⟩:=k0
 refine ⟨f0+1,fun f hf=>?_⟩
 obtain ⟨g,rfl⟩:∃ g,f=g+1:=⟨f - 1,by omega⟩
 unfold Pr.pe
 simp [h0,h1,h2,h3,h4,h5,h6,h7,h8,h9,g0 g (by omega)]
theorem Pr.Cv.single_stop {s:Pr.Dk}  (h0:s.bad=false) (h1:((Pr.tok ts sz s).kind == 3)=false) (h2:((Pr.tok ts sz s).kind == 4)=false) (h3:((Pr.tok ts sz s).kind == 1)=false) (h4:Pr.is ts sz s Pr.sNone=false) (h5:Pr.is ts sz s Pr.sFalse=false) (h6:Pr.is ts sz s Pr.sTrue=false) (h7:Pr.is ts sz s [91]=false) (h8:Pr.is ts sz s [123]=false) (h9:Pr.is ts sz s [40]=false) :Pr.Cv ts sz .single s (Pr.stop ts sz s,0):=by
 refine ⟨1,fun f hf=>?_⟩
 obtain ⟨g,rfl⟩:∃ g,f=g+1:=⟨f - 1,by omega⟩
 unfold Pr.pe
 simp [h0,h1,h2,h3,h4,h5,h6,h7,h8,h9]
theorem Pr.Cv.loadL_bad {s:Pr.Dk} {n:Nat}  (h0:s.bad=true) :Pr.Cv ts sz (.loadL n) s (s,n):=by
 refine ⟨1,fun f hf=>?_⟩
 obtain ⟨g,rfl⟩:∃ g,f=g+1:=⟨f - 1,by omega⟩
 unfold Pr.pe
 simp [h0]
theorem Pr.Cv.loadL_go {s:Pr.Dk} {n:Nat} {r1:Pr.Dk × Nat}  (h0:s.bad=false) (h1:Pr.is ts sz (Pr.put (Pr.name ts sz s) 5 0 0 (Pr.nameT ts sz s) 0) [44]=true) (k0:Pr.Cv ts sz (.loadL (n+1)) (Pr.adv (Pr.put (Pr.name ts sz s) 5 0 0 (Pr.nameT ts sz s) 0)) r1):Pr.Cv ts sz (.loadL n) s r1:=by
 obtain ⟨f0,g0⟩:=k0
 refine ⟨f0+1,fun f hf=>?_⟩
 obtain ⟨g,rfl⟩:∃ g,f=g+1:=⟨f - 1,by omega⟩
 unfold Pr.pe
 simp [h0,h1,g0 g (by omega)]
theorem Pr.Cv.loadL_last {s:Pr.Dk} {n:Nat}  (h0:s.bad=false) (h1:Pr.is ts sz (Pr.put (Pr.name ts sz s) 5 0 0 (Pr.nameT ts sz s) 0) [44]=false) :Pr.Cv ts sz (.loadL n) s (Pr.put (Pr.name ts sz s) 5 0 0 (Pr.nameT ts sz s) 0,n+1):=by
 refine ⟨1,fun f hf=>?_⟩
 obtain ⟨g,rfl⟩:∃ g,f=g+1:=⟨f - 1,by omega⟩
 unfold Pr.pe
 simp [h0,h1]
theorem Pr.Cv.st_def {s:Pr.Dk} {r1 r2:Pr.Dk × Nat}  (h0:Pr.is ts sz s Pr.sDef=true) (k0:Pr.Cv ts sz .params (Pr.name ts sz (Pr.adv s)) r1) (k1:Pr.Cv ts sz .e (Pr.need ts sz r1.1 [61]) r2):Pr.Cv ts sz .statement s (Pr.need ts sz (Pr.put r2.1 20 0 0 (Pr.nameT ts sz (Pr.adv s)) (r1.2+1)) [59],0):=by
 obtain ⟨f0,g0⟩:=k0
 obtain ⟨f1,g1⟩:=k1
 refine ⟨f0+f1+1,fun f hf=>?_⟩
 obtain ⟨g,rfl⟩:∃ g,f=g+1:=⟨f - 1,by omega⟩
 unfold Pr.pe
 simp [h0,g0 g (by omega),g1 g (by omega)]
theorem Pr.Cv.st_let {s:Pr.Dk} {r1:Pr.Dk × Nat}  (h0:Pr.is ts sz s Pr.sDef=false) (h1:Pr.is ts sz s Pr.sLet=true) (k0:Pr.Cv ts sz .e (Pr.need ts sz (Pr.name ts sz (Pr.adv s)) [61]) r1):Pr.Cv ts sz .statement s (Pr.need ts sz (Pr.put r1.1 21 0 0 (Pr.nameT ts sz (Pr.adv s)) 1) [59],0):=by
 obtain ⟨f0,g0⟩:=k0
 refine ⟨f0+1,fun f hf=>?_⟩
 obtain ⟨g,rfl⟩:∃ g,f=g+1:=⟨f - 1,by omega⟩
 unfold Pr.pe
 simp [h0,h1,g0 g (by omega)]
theorem Pr.Cv.st_emit {s:Pr.Dk} {r1:Pr.Dk × Nat}  (h0:Pr.is ts sz s Pr.sDef=false) (h1:Pr.is ts sz s Pr.sLet=false) (h2:Pr.is ts sz s Pr.sEmit=true) (k0:Pr.Cv ts sz .e (Pr.adv s) r1):Pr.Cv ts sz .statement s (Pr.need ts sz (Pr.put r1.1 22 0 0 [] 1) [59],0):=by
 obtain ⟨f0,g0⟩:=k0
 refine ⟨f0+1,fun f hf=>?_⟩
 obtain ⟨g,rfl⟩:∃ g,f=g+1:=⟨f - 1,by omega⟩
 unfold Pr.pe
 simp [h0,h1,h2,g0 g (by omega)]
theorem Pr.Cv.st_load {s:Pr.Dk} {r1:Pr.Dk × Nat}  (h0:Pr.is ts sz s Pr.sDef=false) (h1:Pr.is ts sz s Pr.sLet=false) (h2:Pr.is ts sz s Pr.sEmit=false) (h3:Pr.is ts sz s Pr.sLoad=true) (h4:((Pr.tok ts sz (Pr.adv s)).kind == 4)=true) (k0:Pr.Cv ts sz (.loadL 0) (Pr.need ts sz (Pr.adv (Pr.adv s)) [58]) r1):Pr.Cv ts sz .statement s (Pr.need ts sz (Pr.put r1.1 23 0 0 (Pr.tok ts sz (Pr.adv s)).text r1.2) [59],0):=by
 obtain ⟨f0,g0⟩:=k0
 refine ⟨f0+1,fun f hf=>?_⟩
 obtain ⟨g,rfl⟩:∃ g,f=g+1:=⟨f - 1,by omega⟩
 unfold Pr.pe
 simp [h0,h1,h2,h3,h4,g0 g (by omega)]
theorem Pr.Cv.st_loadNo {s:Pr.Dk}  (h0:Pr.is ts sz s Pr.sDef=false) (h1:Pr.is ts sz s Pr.sLet=false) (h2:Pr.is ts sz s Pr.sEmit=false) (h3:Pr.is ts sz s Pr.sLoad=true) (h4:((Pr.tok ts sz (Pr.adv s)).kind == 4)=false) :Pr.Cv ts sz .statement s (Pr.stop ts sz (Pr.adv s),0):=by
 refine ⟨1,fun f hf=>?_⟩
 obtain ⟨g,rfl⟩:∃ g,f=g+1:=⟨f - 1,by omega⟩
 unfold Pr.pe
 simp [h0,h1,h2,h3,h4]
theorem Pr.Cv.st_stop {s:Pr.Dk}  (h0:Pr.is ts sz s Pr.sDef=false) (h1:Pr.is ts sz s Pr.sLet=false) (h2:Pr.is ts sz s Pr.sEmit=false) (h3:Pr.is ts sz s Pr.sLoad=false) :Pr.Cv ts sz .statement s (Pr.need ts sz (Pr.stop ts sz s) [59],0):=by
 refine ⟨1,fun f hf=>?_⟩
 obtain ⟨g,rfl⟩:∃ g,f=g+1:=⟨f - 1,by omega⟩
 unfold Pr.pe
 simp [h0,h1,h2,h3]
theorem Pr.Cv.fileL_end {s:Pr.Dk} {n:Nat}  (h0:(s.bad || decide (ts.length≤s.p))=true) :Pr.Cv ts sz (.fileL n) s (s,n):=by
 refine ⟨1,fun f hf=>?_⟩
 obtain ⟨g,rfl⟩:∃ g,f=g+1:=⟨f - 1,by omega⟩
 unfold Pr.pe
 simp [h0]
theorem Pr.Cv.fileL_go {s:Pr.Dk} {n:Nat} {r1 r2:Pr.Dk × Nat}  (h0:(s.bad || decide (ts.length≤s.p))=false) (k0:Pr.Cv ts sz .statement s r1) (k1:Pr.Cv ts sz (.fileL (n+1)) r1.1 r2):Pr.Cv ts sz (.fileL n) s r2:=by
 obtain ⟨f0,g0⟩:=k0
 obtain ⟨f1,g1⟩:=k1
 refine ⟨f0+f1+1,fun f hf=>?_⟩
 obtain ⟨g,rfl⟩:∃ g,f=g+1:=⟨f - 1,by omega⟩
 unfold Pr.pe
 simp [h0,g0 g (by omega),g1 g (by omega)]
end
end Go.Proofs.YtbckhbeebngjfaaGreatDoor
