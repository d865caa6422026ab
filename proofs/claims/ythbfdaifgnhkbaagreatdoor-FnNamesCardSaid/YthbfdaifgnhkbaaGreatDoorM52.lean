/- Ja, Jf, Nm. -/
import Derived.Test.YthbfdaifgnhkbaaGreatDoorM27
import Derived.Test.YthbfdaifgnhkbaaGreatDoorM45
import Derived.Test.YthbfdaifgnhkbaaGreatDoorM49
import Derived.Test.YthbfdaifgnhkbaaGreatDoorM50
import Derived.Test.YthbfdaifgnhkbaaGreatDoorM51
namespace Go.Proofs.YthbfdaifgnhkbaaGreatDoor
open Go.RowKit
def YG (ns:List Tr.Nd) (hs:List Nat) (x:Nat):Tr.Gr:=⟨ns[x]?.getD ⟨0,0,0,⟨#[]⟩,0⟩,hs[x]?.getD 0⟩
theorem Tr.G_kind (ns:List Tr.Nd) (hs:List Nat) (x:Nat):(YG ns hs x).nd.kind=X6 ns x:=by
 unfold YG X6
 cases h:ns[x]? <;> simp
theorem Tr.over_G (ns:List Tr.Nd) (hs:List Nat) (ls:List Nat) (h:Nat):Ya (ls.map (YG ns hs)) h=XY hs ls h:=by
 induction ls generalizing h with
 | nil=>rfl
 | cons x r ih=>simp only [List.map_cons,Ya,XY];rw [ih];rfl
theorem ZU (ns:List Tr.Nd) (hs:List Nat) (a b:Int) (ls:List Nat) (p:Int→Bool) (hp:∀ k,p k=(decide (a≤k) && decide (k≤b))):Xm a b (ls.map (YG ns hs))=Xt ns p ls:=by
 induction ls with
 | nil=>rfl
 | cons x r ih =>
  simp only [Xm,List.map_cons,List.all_cons,Xt] at ih ⊢
  rw [ih,Tr.G_kind,hp]
theorem Tr.allK_E (ns:List Tr.Nd) (ls:List Nat):Xt ns (fun k=>Xj k 1 16) ls=decide (XG ns ls=ls.length):=by
 induction ls with
 | nil=>rfl
 | cons x r ih =>
  have h1:=Z4 ns r
  rw [Bool.eq_iff_iff,decide_eq_true_iff]
  have e1:Xt ns (fun k=>Xj k 1 16) (x :: r)=(Y2 ns x && Xt ns (fun k=>Xj k 1 16) r):=rfl
  have e2:XG ns (x :: r)=(if Y2 ns x=true then 1 else 0)+XG ns r:=rfl
  rw [e1,e2,ih,List.length_cons,Bool.and_eq_true,decide_eq_true_iff]
  by_cases h:Y2 ns x=true
  ·rw [if_pos h];simp only [h,true_and];omega
  ·rw [if_neg h];simp only [h,Bool.false_eq_true,false_and,false_iff];omega
theorem Kr (k a b:Int):Xj k a b=(decide (a≤k) && decide (k≤b)):=by unfold Xj;rw [Bool.eq_iff_iff];simp
theorem Tr.between_E (ns:List Tr.Nd) (hs:List Nat) (ls:List Nat):Xm 1 16 (ls.map (YG ns hs))=decide (XG ns ls=ls.length):=by
 rw [ZU ns hs 1 16 ls (fun k=>Xj k 1 16) (fun k=>Kr k 1 16),Tr.allK_E]
theorem Kc (ns:List Tr.Nd) (hs:List Nat) (a:Int) (ls:List Nat):Xm a a (ls.map (YG ns hs))=Xt ns (fun k=>k == a) ls :=
 ZU ns hs a a ls _ fun k=>by rw [Bool.eq_iff_iff];simp;omega
theorem Tr.differ_G (ns:List Tr.Nd) (hs:List Nat) (ls:List Nat) (hin:∀ x∈ls,x < ns.length):YC (ls.map (YG ns hs))=Z0 ns ls:=by
 unfold YC Z0
 rw [Bool.eq_iff_iff,decide_eq_true_iff,decide_eq_true_iff,List.map_map,List.nodup_iff_pairwise_ne,List.pairwise_map,List.pairwise_iff_getElem]
 have hg:∀ i (h:i < ls.length),ns[ls[i]]?.map (·.text)=some (YG ns hs ls[i]).nd.text:=by
  intro i h
  have:=hin _ (List.getElem_mem h)
  simp [YG,this]
 constructor
 ·intro h i hi k hk e
  rw [hg i hi,hg k (by omega)] at e
  exact h k i (by omega) hi hk (Option.some.inj e)
 ·intro h i j hi hj hij e
  refine h j hj i hij ?_
  rw [hg j hj,hg i hi]
  exact congrArg some e
theorem Ja (ns:List Tr.Nd) (ls:List Nat):XA ns ls≤ls.length:=by
 induction ls with
 | nil=>exact Nat.le_refl _
 | cons x r ih=>simp only [XA,List.length_cons];split <;> omega
theorem Tr.firsts_take (ns:List Tr.Nd) (ls:List Nat):Xt ns (fun k=>Xj k 1 16) (ls.take (XA ns ls))=true:=by
 induction ls with
 | nil=>rfl
 | cons x r ih =>
  simp only [XA]
  by_cases h:Y2 ns x=true
  ·rw [if_pos h,Nat.add_comm,List.take_succ_cons,Xt,ih]
   have h2:Xj (X6 ns x) 1 16=true:=h
   rw [h2];rfl
  ·rw [if_neg h];rfl
theorem Tr.firsts_eq (ns:List Tr.Nd) (ls:List Nat) (p:Nat) (hp:p≤ls.length) (h1:Xt ns (fun k=>Xj k 1 16) (ls.take p)=true) (h2:Xt ns (fun k=>k == 18) (ls.drop p)=true):XA ns ls=p:=by
 induction ls generalizing p with
 | nil=>simp at hp;subst hp;rfl
 | cons x r ih =>
  match p,hp with
  | 0,_ =>
   simp only [List.drop_zero,Xt,Bool.and_eq_true,beq_iff_eq] at h2
   have:Y2 ns x=false:=by unfold Y2;rw [h2.1];rfl
   simp [XA,this]
  | p+1,hp =>
   simp only [List.take_succ_cons,Xt,Bool.and_eq_true] at h1
   have h3:Y2 ns x=true:=h1.1
   have:=ih p (by simpa using hp) h1.2 (by simpa using h2)
   simp [XA,h3,this];omega
theorem Tr.tw_named (ns:List Tr.Nd) (hs:List Nat) (ls:List Nat):((ls.map (YG ns hs)).takeWhile fun g=>g.nd.kind != 18).length=(ls.takeWhile fun x=>X6 ns x != 18).length:=by
 induction ls with
 | nil=>rfl
 | cons x r ih =>
  simp only [List.map_cons,List.takeWhile_cons,Tr.G_kind]
  cases (X6 ns x != 18)
  ·rfl
  ·simp [ih]
theorem Tr.tw_eq (ns:List Tr.Nd) (ls:List Nat) (p:Nat) (hp:p≤ls.length) (h1:Xt ns (fun k=>Xj k 1 16) (ls.take p)=true) (h2:Xt ns (fun k=>k == 18) (ls.drop p)=true):(ls.takeWhile fun x=>X6 ns x != 18).length=p:=by
 induction ls generalizing p with
 | nil=>simp at hp;subst hp;rfl
 | cons x r ih =>
  match p,hp with
  | 0,_ =>
   simp only [List.drop_zero,Xt,Bool.and_eq_true,beq_iff_eq] at h2
   simp [h2.1]
  | p+1,hp =>
   simp only [List.take_succ_cons,Xt,Bool.and_eq_true] at h1
   have:=ih p (by simpa using hp) h1.2 (by simpa using h2)
   have h3:(X6 ns x != 18)=true:=by
    have:=YR h1.1
    rw [bne_iff_ne];omega
   simp [h3,this]
theorem Tr.call_ok (ns:List Tr.Nd) (hs:List Nat) (ls:List Nat) (hin:∀ x∈ls,x < ns.length) (h1:1≤ls.length) :
  (Xm 1 16 ((ls.map (YG ns hs)).take (Yg (ls.map (YG ns hs)))) && Xm 18 18 ((ls.map (YG ns hs)).drop (Yg (ls.map (YG ns hs)))) && YC ((ls.map (YG ns hs)).drop (Yg (ls.map (YG ns hs))))) =
  (Xt ns (fun x=>x == 18) (ls.drop (XA ns ls)) && decide (1≤(XA ns ls:Int)) && Z0 ns (ls.drop (XA ns ls))):=by
 obtain ⟨x,r,rfl⟩:∃ x r,ls=x :: r:=by
  cases ls with
  | nil=>simp at h1
  | cons x r=>exact ⟨x,r,rfl⟩
 have hP:Yg ((x :: r).map (YG ns hs))=1+(r.takeWhile fun x=>X6 ns x != 18).length:=by
  unfold Yg
  rw [List.map_cons,List.drop_one,List.tail_cons,Tr.tw_named]
 rw [hP,← List.map_take,← List.map_drop]
 generalize hq:(r.takeWhile fun x=>X6 ns x != 18).length=q
 have hqr:q≤r.length:=by rw [← hq];exact (List.takeWhile_sublist _).length_le
 rw [ZU ns hs 1 16 _ (fun k=>Xj k 1 16) (fun k=>Kr k 1 16),Kc,Tr.differ_G ns hs _ (fun y hy=>hin y (List.mem_of_mem_drop hy))]
 rw [Bool.eq_iff_iff]
 simp only [Bool.and_eq_true,decide_eq_true_iff]
 constructor
 ·rintro ⟨⟨a,b⟩,c⟩
  have e:=Tr.firsts_eq ns (x :: r) (1+q) (by simp;omega) a b
  rw [e]
  exact ⟨⟨b,by omega⟩,c⟩
 ·rintro ⟨⟨a,b⟩,c⟩
  have hf:=Ja ns (x :: r)
  have ht:=Tr.firsts_take ns (x :: r)
  have e:1+q=XA ns (x :: r):=by
   obtain ⟨f,hf1⟩:∃ f,XA ns (x :: r)=f+1:=⟨XA ns (x :: r) - 1,by omega⟩
   rw [hf1] at ht a hf
   simp only [List.take_succ_cons,Xt,Bool.and_eq_true] at ht
   have:=Tr.tw_eq ns r f (by simpa using hf) ht.2 (by simpa using a)
   omega
  rw [e]
  exact ⟨⟨ht,a⟩,c⟩
theorem Tr.last_ok (ns:List Tr.Nd) (hs:List Nat) (ls:List Nat) (h1:1≤ls.length) :
  (Xm 19 19 ((ls.map (YG ns hs)).take (ls.length - 1)) && Xm 1 16 ((ls.map (YG ns hs)).drop (ls.length - 1))) =
  (Xt ns (fun x=>x == 19) ls.dropLast && (ls.getLast?.map (Y2 ns) == some true)):=by
 have hne:ls≠[]:=by intro e;simp [e] at h1
 have e1:ls.take (ls.length - 1)=ls.dropLast:=(List.dropLast_eq_take).symm
 have e2:ls.drop (ls.length - 1)=[ls.getLast hne]:=by
  rw [List.drop_eq_getElem_cons (by omega),List.drop_of_length_le (by omega),List.getLast_eq_getElem]
 rw [← List.map_take,← List.map_drop,e1,e2,Kc,ZU ns hs 1 16 _ (fun k=>Xj k 1 16) (fun k=>Kr k 1 16),List.getLast?_eq_some_getLast hne]
 congr 1
 simp only [Xt,Bool.and_true,Option.map_some]
 unfold Y2
 cases Xj (X6 ns (ls.getLast hne)) 1 16 <;> rfl
set_option maxHeartbeats 1000000 in
theorem Tr.ok_eq (ns:List Tr.Nd) (hs:List Nat) (k:Int) (ls:List Nat) (hin:∀ x∈ls,x < ns.length):(YI k ls.length && Yd k (ls.map (YG ns hs)))=Xo ns k ls:=by
 have he:=Z4 ns ls
 by_cases h9:k=9
 ·subst h9
  have c:YI 9 ls.length=decide (0≤(ls.length:Int)∧(ls.length:Int)≤200):=rfl
  have f:Yd 9 (ls.map (YG ns hs))=(Xm 17 17 (ls.map (YG ns hs)) && YC (ls.map (YG ns hs))):=rfl
  have g:Xo ns 9 ls=(Xt ns (fun x=>x == 17) ls && decide ((ls.length:Int)≤200) && Z0 ns ls):=rfl
  rw [c,f,g,Kc,Tr.differ_G ns hs ls hin]
  rw [Bool.eq_iff_iff];simp;grind
 by_cases h12:k=12
 ·subst h12
  have c:YI 12 ls.length=decide (1≤(ls.length:Int)∧(ls.length:Int)≤9):=rfl
  have g:Xo ns 12 ls=(Xt ns (fun x=>x == 18) (ls.drop (XA ns ls)) && decide (1≤(XA ns ls:Int)) && decide ((ls.length:Int) - 1≤8) && Z0 ns (ls.drop (XA ns ls))):=rfl
  have hf:=Ja ns ls
  by_cases h1:1≤ls.length
  ·have q:=Tr.call_ok ns hs ls hin h1
   have f:Yd 12 (ls.map (YG ns hs))=(Xm 1 16 ((ls.map (YG ns hs)).take (Yg (ls.map (YG ns hs)))) && Xm 18 18 ((ls.map (YG ns hs)).drop (Yg (ls.map (YG ns hs)))) && YC ((ls.map (YG ns hs)).drop (Yg (ls.map (YG ns hs))))):=rfl
   rw [c,f,g,q]
   have e1:decide (1≤(ls.length:Int)∧(ls.length:Int)≤9)=decide ((ls.length:Int) - 1≤8):=by rw [Bool.eq_iff_iff];simp;omega
   rw [e1]
   cases decide ((ls.length:Int) - 1≤8) <;> simp
  ·have e1:decide (1≤(ls.length:Int)∧(ls.length:Int)≤9)=false:=by simp;omega
   have e2:decide (1≤(XA ns ls:Int))=false:=by simp;omega
   rw [c,g,e1,e2];simp
 by_cases h15:k=15∨k=20
 ·have c:YI k ls.length=decide (1≤(ls.length:Int)∧(ls.length:Int)≤9):=by rcases h15 with rfl | rfl <;> rfl
  have g:Xo ns k ls=(Xt ns (fun x=>x == 19) ls.dropLast && (ls.getLast?.map (Y2 ns) == some true) && decide ((ls.length:Int) - 1≤8)):=by rcases h15 with rfl | rfl <;> rfl
  have f:Yd k (ls.map (YG ns hs))=(Xm 19 19 ((ls.map (YG ns hs)).take ((ls.map (YG ns hs)).length - 1)) && Xm 1 16 ((ls.map (YG ns hs)).drop ((ls.map (YG ns hs)).length - 1))):=by rcases h15 with rfl | rfl <;> rfl
  rw [List.length_map] at f
  by_cases h1:1≤ls.length
  ·rw [c,f,g,Tr.last_ok ns hs ls h1]
   have e1:decide (1≤(ls.length:Int)∧(ls.length:Int)≤9)=decide ((ls.length:Int) - 1≤8):=by rw [Bool.eq_iff_iff];simp;omega
   rw [e1]
   cases decide ((ls.length:Int) - 1≤8) <;> simp
  ·have e1:decide (1≤(ls.length:Int)∧(ls.length:Int)≤9)=false:=by simp;omega
   have e0:ls=[]:=List.eq_nil_of_length_eq_zero (by omega)
   rw [c,g,e1,e0];simp
 by_cases h23:k=23
 ·subst h23
  have c:YI 23 ls.length=decide (1≤(ls.length:Int)∧(ls.length:Int)≤200):=rfl
  have f:Yd 23 (ls.map (YG ns hs))=Xm 5 5 (ls.map (YG ns hs)):=rfl
  have g:Xo ns 23 ls=(Xt ns (fun x=>x == 5) ls && Xj ls.length 1 200):=rfl
  rw [c,f,g,Kc,Kr,Bool.decide_and,Bool.and_comm]
 by_cases h24:k=24
 ·subst h24
  have c:YI 24 ls.length=decide (0≤(ls.length:Int)∧(ls.length:Int)≤200):=rfl
  have f:Yd 24 (ls.map (YG ns hs))=Xm 20 23 (ls.map (YG ns hs)):=rfl
  have g:Xo ns 24 ls=(Xt ns (fun x=>Xj x 20 23) ls && decide ((ls.length:Int)≤200)):=rfl
  rw [c,f,g,ZU ns hs 20 23 _ (fun k=>Xj k 20 23) (fun k=>Kr k 20 23)]
  rw [Bool.eq_iff_iff];simp;grind
 have f:Yd k (ls.map (YG ns hs))=decide (XG ns ls=ls.length):=by
  unfold Yd
  rw [if_neg h9,if_neg h12,if_neg h15,if_neg h23,if_neg h24,Tr.between_E]
 rw [f]
 unfold YI Xo
 simp only [h9,h12,h23,h24,if_false,false_or,or_false]
 have h15':=not_or.1 h15
 simp only [h15'.1,h15'.2,if_false,or_self]
 by_cases a1:k=1∨k=2∨k=3∨k=4∨k=5
 ·simp only [a1,if_true];rw [Bool.eq_iff_iff];simp only [Bool.and_eq_true,decide_eq_true_iff];omega
 simp only [a1,if_false]
 by_cases a2:k=6∨k=11∨k=17∨k=18∨k=21∨k=22
 ·simp only [a2,if_true];rw [Bool.eq_iff_iff];simp only [Bool.and_eq_true,decide_eq_true_iff];omega
 simp only [a2,if_false]
 by_cases a3:k=7∨k=10∨k=14
 ·simp only [a3,if_true];rw [Bool.eq_iff_iff];simp only [Bool.and_eq_true,decide_eq_true_iff];omega
 simp only [a3,if_false]
 by_cases a4:k=13
 ·simp only [a4,if_true];rw [Bool.eq_iff_iff];simp only [Bool.and_eq_true,decide_eq_true_iff];omega
 simp only [a4,if_false]
 by_cases a5:k=16
 ·simp only [a5,if_true];rw [Bool.eq_iff_iff];simp only [Bool.and_eq_true,decide_eq_true_iff];omega
 simp only [a5,if_false]
 by_cases a6:k=19
 ·simp only [a6,if_true];rw [Bool.eq_iff_iff];simp only [Bool.and_eq_true,decide_eq_true_iff];omega
 simp only [a6,if_false]
 by_cases a7:k=8
 ·simp only [a7,if_true];rw [Bool.eq_iff_iff];simp only [Bool.and_eq_true,decide_eq_true_iff];omega
 simp only [a7,if_false]
 rw [Bool.eq_iff_iff];simp only [Bool.and_eq_true,decide_eq_true_iff,Bool.false_eq_true,iff_false];omega
def KX (ns:List Tr.Nd):List (Tr.Nd × List Nat)→Bool
 | []=>true
 | (d,k) :: r=>Xb d && Xo ns d.kind k && KX ns r
def YU:List (List Nat)→List Nat→List Nat
 | [],hs=>hs
 | k :: r,hs=>YU r (hs++[XY hs k 0])
theorem Tr.hrun_pre (ks:List (List Nat)) (hs:List Nat):∃ t,YU ks hs=hs++t∧t.length=ks.length:=by
 induction ks generalizing hs with
 | nil=>exact ⟨[],by simp [YU]⟩
 | cons k r ih =>
  obtain ⟨t,h1,h2⟩:=ih (hs++[XY hs k 0])
  exact ⟨XY hs k 0 :: t,by rw [YU,h1];simp,by simp [h2]⟩
theorem Tr.vgo_eq (ns:List Tr.Nd) (ds:List Tr.Nd) (ks:List (List Nat)) (hs:List Nat) (h:ds.length=ks.length) (h50:∀ x∈hs,x≤50) :
  (Zx ns (ds.zip ks) hs=true)↔(KX ns (ds.zip ks)=true∧∀ x∈YU ks hs,x≤50):=by
 induction ds generalizing ks hs with
 | nil =>
  cases ks with
  | nil=>simp [Zx,KX,YU];exact h50
  | cons k r=>simp at h
 | cons d r ih =>
  cases ks with
  | nil=>simp at h
  | cons k t =>
   simp only [List.zip_cons_cons,Zx,KX,YU,Bool.and_eq_true]
   by_cases hc:50 < XY hs k 0
   ·have e:(!decide (50 < XY hs k 0))=false:=by simp [hc]
    rw [e]
    simp only [Bool.false_eq_true,false_and,false_iff]
    rintro ⟨_,q⟩
    obtain ⟨u,h1,_⟩:=Tr.hrun_pre t (hs++[XY hs k 0])
    have:=q (XY hs k 0) (by rw [h1];simp)
    omega
   ·have e:(!decide (50 < XY hs k 0))=true:=by simp;omega
    rw [e,ih t (hs++[XY hs k 0]) (by simpa using h) (fun x hx=>by
     rcases List.mem_append.1 hx with hx | hx
     ·exact h50 x hx
     ·have:x=XY hs k 0:=by simpa using hx
      omega)]
    simp only [true_and,and_assoc]
theorem Tr.G_more (ns:List Tr.Nd) (hs:List Nat) (y x:Nat) (h:x < hs.length):YG ns (hs++[y]) x=YG ns hs x:=by
 unfold YG;rw [List.getElem?_append_left h]
theorem Tr.irun_eq (ns:List Tr.Nd):∀ (m i:Nat) (op hs:List Nat),m=ns.length - i→i≤ns.length→hs.length=i→(∀ x∈op,x < i) →
  YP (ns.drop i) (op.map (YG ns hs))=match (Xr (ns.drop i) i op).2 with
   | none=>none
   | some fin=>if KX ns ((ns.drop i).zip (Xr (ns.drop i) i op).1)=true then some (fin.map (YG ns (YU (Xr (ns.drop i) i op).1 hs))) else none:=by
 intro m
 induction m with
 | zero =>
  intro i op hs hm hi hl hop
  have e:ns.drop i=[]:=List.drop_of_length_le (by omega)
  rw [e];rfl
 | succ m ih =>
  intro i op hs hm hi hl hop
  have hlt:i < ns.length:=by omega
  rw [List.drop_eq_getElem_cons hlt]
  by_cases hk:ns[i].kids < 0∨(op.length:Int) < ns[i].kids
  ·rw [YP,if_pos (by rw [List.length_map];exact hk),Xr,if_pos hk]
  ·obtain ⟨k,hk1⟩:∃ k:Nat,ns[i].kids=k:=⟨ns[i].kids.toNat,by omega⟩
   rw [YP,if_neg (by rw [List.length_map];exact hk),Xr,if_neg hk]
   have hsub:(op.map (YG ns hs)).length - ns[i].kids.toNat=op.length - ns[i].kids.toNat:=by rw [List.length_map]
   rw [hsub]
   generalize hq:op.length - ns[i].kids.toNat=q
   have hql:(op.drop q).length=k:=by simp;omega
   have hin:∀ x∈op.drop q,x < ns.length:=fun x hx=>Nat.lt_trans (hop x (List.mem_of_mem_drop hx)) hlt
   rw [← List.map_drop,← List.map_take]
   have hok:Yu ns[i] ((op.drop q).map (YG ns hs))=(Xb ns[i] && Xo ns ns[i].kind (op.drop q)):=by
    unfold Yu
    rw [Bool.and_assoc,hk1,← hql,Tr.ok_eq ns hs _ _ hin]
   rw [hok]
   have hmap:(op.take q).map (YG ns hs)++[(⟨ns[i],Ya ((op.drop q).map (YG ns hs)) 0⟩:Tr.Gr)]=(op.take q++[i]).map (YG ns (hs++[XY hs (op.drop q) 0])):=by
    rw [List.map_append]
    congr 1
    ·apply List.map_congr_left
     intro x hx
     rw [Tr.G_more _ _ _ _ (by rw [hl];exact hop x (List.mem_of_mem_take hx))]
    ·have h3:YG ns (hs++[XY hs (op.drop q) 0]) i=⟨ns[i],XY hs (op.drop q) 0⟩:=by
      unfold YG
      rw [List.getElem?_eq_getElem hlt,List.getElem?_append_right (by omega),hl,Nat.sub_self];rfl
     rw [Tr.over_G,List.map_cons,List.map_nil,h3]
   have hnext:=ih (i+1) (op.take q++[i]) (hs++[XY hs (op.drop q) 0]) (by omega) (by omega) (by simp [hl]) (fun x hx=>by
    rcases List.mem_append.1 hx with hx | hx
    ·have:=hop x (List.mem_of_mem_take hx);omega
    ·have:x=i:=by simpa using hx
     omega)
   simp only [List.zip_cons_cons,KX,YU]
   by_cases hc:(Xb ns[i] && Xo ns ns[i].kind (op.drop q))=true
   ·rw [if_pos hc,hmap,hnext]
    simp only [hc,Bool.true_and]
   ·rw [if_neg hc]
    have hc2:(Xb ns[i] && Xo ns ns[i].kind (op.drop q))=false:=by simpa using hc
    simp only [hc2,Bool.false_and,Bool.false_eq_true,if_false]
    cases (Xr (ns.drop (i+1)) (i+1) (op.take q++[i])).2 <;> rfl
theorem Tr.hmax_ge (hs ls:List Nat) (h:Nat):h≤XY hs ls h∧∀ x∈ls,hs[x]?.getD 0+1≤XY hs ls h:=by
 induction ls generalizing h with
 | nil=>simp [XY]
 | cons y r ih =>
  rw [XY]
  have q:=ih (if h < hs[y]?.getD 0+1 then hs[y]?.getD 0+1 else h)
  have g1:h≤(if h < hs[y]?.getD 0+1 then hs[y]?.getD 0+1 else h)∧hs[y]?.getD 0+1≤(if h < hs[y]?.getD 0+1 then hs[y]?.getD 0+1 else h):=by split <;> omega
  refine ⟨by omega,fun x hx=>?_⟩
  rcases List.mem_cons.1 hx with rfl | hx
  ·omega
  ·exact q.2 x hx
theorem Tr.high_open (ds:List Tr.Nd):∀ (i:Nat) (op hs:List Nat),hs.length=i→(∀ x∈op,x < i)→(∀ y∈hs,∃ x∈op,y≤hs[x]?.getD 0) →
  ∀ fin,(Xr ds i op).2=some fin→∀ y∈YU (Xr ds i op).1 hs,∃ x∈fin,y≤(YU (Xr ds i op).1 hs)[x]?.getD 0:=by
 induction ds with
 | nil =>
  intro i op hs _ _ h fin hf
  simp only [Xr,Option.some.injEq] at hf
  subst hf
  exact h
 | cons d r ih =>
  intro i op hs hl hop h fin hf
  by_cases hk:d.kids < 0∨(op.length:Int) < d.kids
  ·rw [Xr,if_pos hk] at hf;cases hf
  ·rw [Xr,if_neg hk] at hf ⊢
   generalize hq:op.length - d.kids.toNat=q at *
   simp only [YU]
   refine ih (i+1) (op.take q++[i]) (hs++[XY hs (op.drop q) 0]) (by simp [hl]) ?_ ?_ fin hf
   ·intro x hx
    rcases List.mem_append.1 hx with hx | hx
    ·have:=hop x (List.mem_of_mem_take hx);omega
    ·have:x=i:=by simpa using hx
     omega
   ·intro y hy
    have hnew:(hs++[XY hs (op.drop q) 0])[i]?.getD 0=XY hs (op.drop q) 0:=by simp [← hl]
    rcases List.mem_append.1 hy with hy | hy
    ·obtain ⟨x,hx,hle⟩:=h y hy
     have hxl:x < hs.length:=by rw [hl];exact hop x hx
     rw [← List.take_append_drop q op] at hx
     rcases List.mem_append.1 hx with hx | hx
     ·exact ⟨x,by simp [hx],by rw [List.getElem?_append_left hxl];exact hle⟩
     ·have:=(Tr.hmax_ge hs (op.drop q) 0).2 x hx
      exact ⟨i,by simp,by rw [hnew];omega⟩
    ·have:y=XY hs (op.drop q) 0:=by simpa using hy
     exact ⟨i,by simp,by rw [hnew];omega⟩
theorem Tr.krun_last (ds:List Tr.Nd):∀ (i:Nat) (op:List Nat),(ds=[]→op.getLast?=some (i - 1)∧1≤i)→∀ fin,(Xr ds i op).2=some fin→fin.getLast?=some (i+ds.length - 1):=by
 induction ds with
 | nil =>
  intro i op h fin hf
  simp only [Xr,Option.some.injEq] at hf
  subst hf
  simpa using (h rfl).1
 | cons d r ih =>
  intro i op h fin hf
  by_cases hk:d.kids < 0∨(op.length:Int) < d.kids
  ·rw [Xr,if_pos hk] at hf;cases hf
  ·rw [Xr,if_neg hk] at hf
   have:=ih (i+1) _ (fun _=>⟨by simp,by omega⟩) fin hf
   rw [this,List.length_cons]
   congr 1;omega
theorem J7 (ns:List Tr.Nd):Y5 ns=XR ns:=by
 have hI:=Tr.irun_eq ns ns.length 0 [] [] (by simp) (Nat.zero_le _) rfl (fun x h=>by cases h)
 rw [List.drop_zero,List.map_nil] at hI
 unfold Y5 XR
 by_cases h0:ns=[]
 ·subst h0;rfl
 have hpos:1≤ns.length:=by
  cases ns with
  | nil=>exact absurd rfl h0
  | cons x r=>simp
 have e1:Xj ns.length 1 5000=decide (ns.length≤5000):=by unfold Xj;rw [Bool.eq_iff_iff];simp;omega
 rw [e1,hI,Bool.and_assoc,Bool.and_assoc]
 congr 1
 have hkg:Y3 ns=match (Xr ns 0 []).2 with
  | none=>false
  | some op=>op.length == 1:=rfl
 have hkd:Xk ns=(Xr ns 0 []).1:=rfl
 have hlen:=Tr.krun_len ns 0 []
 have hho:=Tr.high_open ns 0 [] [] rfl (fun x h=>by cases h) (fun x h=>by cases h)
 have hla:=Tr.krun_last ns 0 [] (fun h=>absurd h h0)
 rw [hkg,hkd]
 generalize hkr:Xr ns 0 []=kr at *
 obtain ⟨ks,fo⟩:=kr
 cases fo with
 | none=>simp [KA]
 | some fin =>
  have hkl:ks.length=ns.length:=hlen.2 (by simp)
  have hv:=Tr.vgo_eq ns ns ks [] hkl.symm (fun x h=>by cases h)
  have hlast:=hla fin rfl
  have hhigh:=hho fin rfl
  simp only at hv hhigh ⊢
  match fin,hlast with
  | [r],hlast =>
   have hr:r=ns.length - 1:=by simpa using hlast
   have hlk:Zt ns=(YG ns (YU ks []) r).nd.kind:=by
    rw [Tr.G_kind,hr]
    unfold Zt X6
    rw [List.getLast?_eq_getElem?]
    cases ns[ns.length - 1]? <;> rfl
   have hmem:(YU ks [])[r]?.getD 0∈YU ks []:=by
    obtain ⟨t,h1,h2⟩:=Tr.hrun_pre ks []
    have hl:r < (YU ks []).length:=by rw [h1];simp;omega
    rw [List.getElem?_eq_getElem hl]
    exact List.getElem_mem hl
   have hall:(∀ x∈YU ks [],x≤50)↔(YG ns (YU ks []) r).high≤50:=by
    constructor
    ·intro h;exact h _ hmem
    ·intro h x hx
     obtain ⟨y,hy,hle⟩:=hhigh x hx
     have:y=r:=by simpa using hy
     subst this
     exact Nat.le_trans hle h
   rw [hlk]
   by_cases hN:KX ns (ns.zip ks)=true
   ·rw [if_pos hN]
    simp only [List.map_cons,List.map_nil,KA]
    rw [Bool.eq_iff_iff]
    simp only [Bool.and_eq_true,decide_eq_true_iff,hv,hall,hN,true_and]
    simp
   ·rw [if_neg hN]
    have:Zx ns (ns.zip ks) []=false:=by
     rw [Bool.eq_false_iff]
     intro h
     exact hN (hv.1 h).1
    simp [KA,this]
  | [],hlast=>simp at hlast
  | a :: b :: t,_ =>
   have e2:((a :: b :: t).length == 1)=false:=by simp
   rw [e2]
   simp only [Bool.false_and,Bool.and_false]
   split <;> simp [KA]
set_option maxRecDepth 100000 in
set_option maxHeartbeats 1000000 in
theorem icheck_any (ns:List Tr.Nd) (tg tc:Nat) (w:World) (hn:ns.length≤1048576) (hx:∀ x∈ns,x.text.size≤1048576) (hG:GlobB w) (ht:NodesAt w tg ns) :
  Calls Tryz.prog 5 #[.agg #[.slice (some ⟨tg,0,none⟩) ns.length tc]] w fun e w'=>e = .returned (.agg #[.int .i64 (Xn ns).1,.int .i64 (Xn ns).2])∧Below w.heap.size w w':=by
 have r2:Below w.heap.size w ((w.alloc (.cells #[.slice (some ⟨tg,0,none⟩) ns.length tc] 25)).alloc (.cells #[.int .i64 0,.int .i64 0] 28)):=(bA _).alloc (by simp) _
 have HV:=X1 (ivalid_any ns tg tc _ hn hx (ht.below r2))
 rw [J7 ns] at HV
 have HT:=X1 ht
 have HG:=X1 hG
 have HX:=X1 hx
 clear ht hG hx
 cases hv:XR ns
 ·have HC:Hid (Xn ns=(11,0)):=X1 (by unfold Xn;rw [hv];rfl)
  rw [hv] at HV
  rw [HC.out]
  go_enter Tryz.func5,Tryz.ntmps5
  go_wp2_with fail
  refine HV.out.mono ?_
  rintro e w1 ⟨rfl,hb1⟩
  rw [World.size_alloc,World.size_alloc] at hb1
  obtain ⟨b0,b1,b2,b3,b4⟩:=boxes hb1
  have hB1:=r2.trans (hb1.mono (by omega))
  clear hb1
  go_wp2
  refine bodyPost_ret (v:= .agg #[.int .i64 11,.int .i64 0]) (by simp [results,Tryz.results5,go_sem,b1,b2]) rfl ⟨rfl,?_⟩
  exact (hB1.setCell (p:=⟨w.heap.size+1,0,none⟩) (by simp) _).setCell (p:=⟨w.heap.size+1,1,none⟩) (by simp) _
 ·obtain ⟨hn1,hn5,hgood,hlen⟩:=Za hv
  have HC:=X1 (Tr.ilook_eq hv).1
  rw [hv] at HV
  have HLK:=X1 (fun w' (hb:Below w.heap.size w w')=>J4 ns tg tc w' hn1 hn5 hgood hlen HX.out (HG.out.below hb) (HT.out.below hb))
  clear hlen
  go_enter Tryz.func5,Tryz.ntmps5
  go_wp2_with fail
  refine HV.out.mono ?_
  rintro e w1 ⟨rfl,hb1⟩
  rw [World.size_alloc,World.size_alloc] at hb1
  obtain ⟨b0,_⟩:=boxes hb1
  have hB1:=r2.trans (hb1.mono (by omega))
  have hz1:w.heap.size+1+1≤w1.heap.size:=by have:=hb1.size;simpa using this
  go_wp2_with fail
  refine (HLK.out _ hB1).mono ?_
  rintro e w2 ⟨wb,kg,kc,cg,bg,rfl,hF,hD,hcg,hbg,hb2⟩
  have hb12:=hb1.trans (hb2.mono hz1)
  have hB2:=hB1.trans (hb2.mono hB1.size)
  have hz2:w.heap.size+1+1≤w2.heap.size:=Nat.le_trans hz1 hb2.size
  have HFF:=X1 (Qk ns _ wb tg tc kg kc cg bg _ w2 hn5 hF hD)
  rw [show XJ (XP ns (Xk ns) ns.length (ns.length - 1) [Z5] (Z3 ns.length)).codes 0=Xn ns from HC.out] at HFF
  clear hF hD hb2 HV HLK
  go_wp2_with fail
  refine HFF.out.mono ?_
  rintro e w3 ⟨rfl,hb3⟩
  have hb13:=hb12.trans (hb3.mono hz2)
  obtain ⟨b0',b1,b2,b3,b4⟩:=boxes hb13
  have hB3:=hB2.trans (hb3.mono hB2.size)
  clear hb1 hb12 hb13 hb3 HFF b0
  go_wp2
  refine bodyPost_ret (v:= .agg #[.int .i64 (Xn ns).1,.int .i64 (Xn ns).2]) (by simp [results,Tryz.results5,go_sem,b1,b2]) rfl ⟨rfl,?_⟩
  exact (hB3.setCell (p:=⟨w.heap.size+1,0,none⟩) (by simp) _).setCell (p:=⟨w.heap.size+1,1,none⟩) (by simp) _
set_option maxRecDepth 100000 in
set_option maxHeartbeats 1000000 in
theorem ibinds_any (ns:List Tr.Nd) (tg tc:Nat) (w:World) (hn:ns.length≤1048576) (hx:∀ x∈ns,x.text.size≤1048576) (hG:GlobB w) (ht:NodesAt w tg ns) :
  Calls Tryz.prog 7 #[.agg #[.slice (some ⟨tg,0,none⟩) ns.length tc]] w fun e w'=>Below w.heap.size w w'∧((XV ns=false∧e = .returned (.slice none 0 0))∨XV ns=true∧(XC ns).length=ns.length∧∃ g,e = .returned (.slice (some ⟨g,0,none⟩) (XC ns).length (XC ns).length)∧w.heap.size≤g∧w'.ownsRow 0 3 1 (.slice (some ⟨g,0,none⟩) (XC ns).length (XC ns).length) (XC ns).length ((XC ns).map vi)):=by
 have r1:Below w.heap.size w (w.alloc (.cells #[.slice (some ⟨tg,0,none⟩) ns.length tc] 25)):=bA _
 have HV:=X1 (ivalid_any ns tg tc _ hn hx (ht.below r1))
 rw [J7 ns] at HV
 have HT:=X1 ht
 have HG:=X1 hG
 have HX:=X1 hx
 clear ht hG hx
 cases hv:XR ns
 ·have HC:Hid (XV ns=false):=X1 (by
   cases hf:XV ns
   ·rfl
   ·rw [KH hf] at hv;cases hv)
  rw [hv] at HV
  go_enter Tryz.func7,Tryz.ntmps7
  go_wp2_with fail
  refine HV.out.mono ?_
  rintro e w1 ⟨rfl,hb1⟩
  have hB1:=r1.trans (hb1.mono (by simp))
  clear hb1
  go_wp2
  go_ret
  exact ⟨hB1,.inl ⟨HC.out,rfl⟩⟩
 ·obtain ⟨hn1,hn5,hgood,hlen⟩:=Za hv
  have HC:=X1 (Tr.ilook_eq hv)
  rw [hv] at HV
  have HLK:=X1 (fun w' (hb:Below w.heap.size w w')=>J4 ns tg tc w' hn1 hn5 hgood hlen HX.out (HG.out.below hb) (HT.out.below hb))
  have HFC:=X1 (QM (ns:=ns))
  clear hlen
  go_enter Tryz.func7,Tryz.ntmps7
  go_wp2_with fail
  refine HV.out.mono ?_
  rintro e w1 ⟨rfl,hb1⟩
  have b0:w1.cell? ⟨w.heap.size,0,none⟩=some (.slice (some ⟨tg,0,none⟩) ns.length tc):=(hb1.cell (p:=⟨w.heap.size,0,none⟩) (by simp)).trans (by simp)
  have hB1:=r1.trans (hb1.mono (by simp))
  clear hb1
  go_wp2_with fail
  refine (HLK.out _ hB1).mono ?_
  rintro e w2 ⟨wb,kg,kc,cg,bg,rfl,hF,hD,hcg,hbg,hb2⟩
  have hB2:=hB1.trans (hb2.mono hB1.size)
  have HFF:=X1 (Qk ns _ wb tg tc kg kc cg bg _ w2 hn5 hF hD)
  rw [show XJ (XP ns (Xk ns) ns.length (ns.length - 1) [Z5] (Z3 ns.length)).codes 0=Xn ns from HC.out.1] at HFF
  have HFX:=X1 hF
  have HDX:=X1 hD
  have hz1:=hB1.size
  clear hF hD hb2 HV HLK b0
  go_wp2_with fail
  refine HFF.out.mono ?_
  rintro e w3 ⟨rfl,hb3⟩
  have hB3:=hB2.trans (hb3.mono hB2.size)
  have HF3:=X1 (HFX.out.kept (Kp.of_below hb3))
  have HD3:=X1 (HDX.out.below hb3)
  have f2:=HF3.out.f2
  have hne:=QM (ns:=ns)
  clear hb3 HFF HFX HDX
  cases hf:XV ns
  ·have hco:¬ ((Xn ns).1=0∧(Xn ns).2=0):=fun h=>by
    have:=HFC.out.2 (Prod.ext h.1 h.2)
    rw [hf] at this;cases this
   have HFN:Hid (XV ns=false):=X1 hf
   clear hne HFC HC hf
   by_cases h0:(Xn ns).1=0
   ·have h1:¬ ((Xn ns).2:Int)=0:=fun h=>hco ⟨h0,by omega⟩
    clear hco
    rw [h0]
    go_wp2
    all_goals
     go_ret
     exact ⟨hB3,.inl ⟨HFN.out,rfl⟩⟩
   ·clear hco
    go_wp2
    all_goals
     go_ret
     exact ⟨hB3,.inl ⟨HFN.out,rfl⟩⟩
  ·have hco:=HFC.out.1 hf
   have HBI:=X1 (HC.out.2 hf)
   have HFN:Hid (XV ns=true):=X1 hf
   have h0:(Xn ns).1=0:=by rw [hco]
   have h1:(Xn ns).2=0:=by rw [hco]
   have HLN:=X1 HD3.out.lens.2
   clear hne HFC HC hf hco
   rw [h0,h1]
   go_wp2
   go_ret
   have hbl:(XC ns).length=ns.length:=by rw [← HBI.out];exact HLN.out
   refine ⟨hB3,.inr ⟨HFN.out,hbl,bg,by rw [hbl];rfl,by omega,?_⟩⟩
   rw [hbl,← HBI.out]
   exact HD3.out.b
end Go.Proofs.YthbfdaifgnhkbaaGreatDoor
