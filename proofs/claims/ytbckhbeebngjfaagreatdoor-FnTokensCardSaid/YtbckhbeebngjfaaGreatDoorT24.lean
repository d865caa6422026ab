/- Tka, Tkd, Tk5. -/
import Derived.Test.YtbckhbeebngjfaaGreatDoorT23
namespace Go.Proofs.YtbckhbeebngjfaaGreatDoor
open Go.RowKit
def Ik.kidsOf (ks:List (List Nat)) (k:Nat):List Nat:=ks[k]?.getD []
def Ik.Cov (ks:List (List Nat)) (b:Nat) (l:List Nat) (e:Nat):Prop:=∀m:Nat→List Nat→Nat→Prop,(∀b,m b [] b)→(∀b x e r,m b (Ik.kidsOf ks x) x→m (x+1) r e→m b (x :: r) e)→m b l e
section
variable {ks:List (List Nat)} {b x e:Nat} {l r:List Nat}
theorem Ik.Cov.nil (b:Nat):Ik.Cov ks b [] b:=fun _ h _=>h b
theorem Ik.Cov.cons (h:Ik.Cov ks b (Ik.kidsOf ks x) x) (k:Ik.Cov ks (x+1) r e):Ik.Cov ks b (x :: r) e:=fun m n c=>c _ _ _ _ (h m n c) (k m n c)
theorem Ik.Cov.ind {m:∀b l e,Ik.Cov ks b l e→Prop} (nil:∀b,m b [] b (.nil b)) (cons:∀{b x e r} (h:Ik.Cov ks b (Ik.kidsOf ks x) x) (k:Ik.Cov ks (x+1) r e),m _ _ _ h→m _ _ _ k→m b (x :: r) e (.cons h k)) {b:Nat} {l:List Nat} {e:Nat} (h:Ik.Cov ks b l e):m b l e h:=(h (fun b l e=>∃h,m b l e h) (fun b=>⟨_,nil b⟩) (fun _ _ _ _ ⟨h,i⟩ ⟨k,j⟩=>⟨_,cons h k i j⟩)).2
theorem Ik.Cov.inv (h:Ik.Cov ks b l e):(l=[]→b=e)∧∀x r,l=x :: r→Ik.Cov ks b (Ik.kidsOf ks x) x∧Ik.Cov ks (x+1) r e:=by
 induction h using Ik.Cov.ind with
 | nil b=>exact ⟨fun _=>rfl,fun x r h=>(by cases h)⟩
 | cons h k _ _=>exact ⟨fun h=>(by cases h),fun x r e=>(by cases e;exact ⟨h,k⟩)⟩
theorem Ik.Cov.cas {m:Ik.Cov ks b (x :: r) e→Prop} (cons:∀(h:Ik.Cov ks b (Ik.kidsOf ks x) x) (k:Ik.Cov ks (x+1) r e),m (.cons h k)) (h:Ik.Cov ks b (x :: r) e):m h:=cons (h.inv.2 x r rfl).1 (h.inv.2 x r rfl).2
theorem Ik.Cov.nl (h:Ik.Cov ks b [] e):b=e:=h.inv.1 rfl
end
theorem Ik.Cov.le {ks:List (List Nat)} {b e:Nat} {l:List Nat} (h:Ik.Cov ks b l e):b≤e:=by
 induction h using Ik.Cov.ind with
 | nil b=>exact Nat.le_refl _
 | cons _ _ h1 h2=>omega
theorem Ik.Cov.mem {ks:List (List Nat)} {b e y:Nat} {l:List Nat} (h:Ik.Cov ks b l e) (hy:y∈l):b≤y∧y < e:=by
 induction h using Ik.Cov.ind with
 | nil b=>cases hy
 | cons h1 h2 _ h4 =>
  rcases List.mem_cons.1 hy with rfl | hy
  ·have:=h1.le;have:=h2.le;omega
  ·have:=h1.le;have:=h4 hy;omega
theorem Ik.Cov.append {ks:List (List Nat)} {b m e:Nat} {l1 l2:List Nat} (h:Ik.Cov ks b l1 m) (h2:Ik.Cov ks m l2 e):Ik.Cov ks b (l1++l2) e:=by
 induction h using Ik.Cov.ind with
 | nil b=>exact h2
 | cons a1 _ _ ih=>exact .cons a1 (ih h2)
theorem Ik.Cov.split {ks:List (List Nat)}:∀ (l1:List Nat) {l2:List Nat} {b e:Nat},Ik.Cov ks b (l1++l2) e→∃ m,Ik.Cov ks b l1 m∧Ik.Cov ks m l2 e
 | [],_,b,_,h=>⟨b,.nil b,h⟩
 | x :: r,_,_,_,h=>by
  cases h using Ik.Cov.cas with
  | cons h1 h2 =>
   obtain ⟨m,a1,a2⟩:=Ik.Cov.split r h2
   exact ⟨m,.cons h1 a1,a2⟩
theorem Ik.krun_cov (ks:List (List Nat)):∀ (ns:List Tr.Nd) (i:Nat) (op op':List Nat),ks.drop i=(Tr.krun ns i op).1→Ik.Cov ks 0 op i→(Tr.krun ns i op).2=some op'→Ik.Cov ks 0 op' (i+ns.length)
 | [],i,op,op',_,hc,he=>by
  rw [Tr.krun] at he
  cases he
  exact hc
 | x :: r,i,op,op',hd,hc,he=>by
  rw [Tr.krun] at hd he
  split at he
  ·cases he
  ·rename_i hk
   rw [if_neg hk] at hd
   simp only at hd he
   generalize op.length - x.kids.toNat=m at *
   have e0:ks[i]?=some (op.drop m):=by
    have:=congrArg (fun l=>l[0]?) hd
    simpa [List.getElem?_drop] using this
   have e1:ks.drop (i+1)=(Tr.krun r (i+1) (op.take m++[i])).1:=by
    have:=congrArg List.tail hd
    simpa [List.tail_drop] using this
   have ek:Ik.kidsOf ks i=op.drop m:=by unfold Ik.kidsOf;rw [e0];rfl
   obtain ⟨j,c1,c2⟩:=Ik.Cov.split (op.take m) (l2:=op.drop m) (by rw [List.take_append_drop];exact hc)
   have c3:Ik.Cov ks 0 (op.take m++[i]) (i+1):=c1.append (.cons (by rw [ek];exact c2) (.nil _))
   have:=Ik.krun_cov ks r (i+1) _ op' e1 c3 he
   rw [List.length_cons,show i+(r.length+1)=i+1+r.length from by omega]
   exact this
theorem Ik.root_cov {ns:List Tr.Nd} (h:Tr.kidsGood ns=true):Ik.Cov (Tr.kids ns) 0 (Ik.kidsOf (Tr.kids ns) (ns.length - 1)) (ns.length - 1)∧0 < ns.length:=by
 unfold Tr.kidsGood at h
 split at h
 ·cases h
 ·rename_i op ho
  have hl:op.length=1:=by simpa using h
  have hc:=Ik.krun_cov (Tr.kids ns) ns 0 [] op rfl (.nil 0) ho
  rw [Nat.zero_add] at hc
  generalize ns.length=n at hc ⊢
  match op,hl with
  | [r],_ =>
   cases hc using Ik.Cov.cas with
   | cons h1 h2 =>
    cases h2.nl
    exact ⟨by rw [Nat.add_sub_cancel];exact h1,by omega⟩
theorem Ik.Cov.uniq {ks:List (List Nat)} {b e:Nat} {l:List Nat} (h:Ik.Cov ks b l e):∀ {b':Nat},Ik.Cov ks b' l e→b=b':=by
 induction h using Ik.Cov.ind with
 | nil b=>intro b' h';exact h'.nl.symm
 | cons h1 h2 i1 i2=>intro b' h';cases h' using Ik.Cov.cas with | cons k1 k2=>exact i1 k1
theorem Ik.Cov.at {ks:List (List Nat)} {b e y:Nat} {l:List Nat} (h:Ik.Cov ks b l e):y∈l→∃ b',Ik.Cov ks b' (Ik.kidsOf ks y) y∧b≤b':=by
 induction h using Ik.Cov.ind with
 | nil b=>intro hy;cases hy
 | cons h1 h2 _ ih =>
  intro hy
  rcases List.mem_cons.1 hy with rfl | hy
  ·exact ⟨_,h1,Nat.le_refl _⟩
  ·obtain ⟨b',a1,a2⟩:=ih hy
   have:=h1.le
   exact ⟨b',a1,by omega⟩
theorem sz_lit (a:Array UInt8):(⟨a⟩:ByteArray).size=a.size:=rfl
theorem quote_size3 (s:ByteArray) (h:s.size≤1000):(⟨(Tr.quote s.data.toList).toArray⟩:ByteArray).size≤3002:=by
 have hf:∀ l:List UInt8,(l.flatMap Tr.qb).length≤3 * l.length:=by
  intro l
  induction l with
  | nil=>simp
  | cons b r ih=>have:=Tr.qb_len b;rw [List.flatMap_cons,List.length_append,List.length_cons];omega
 have e:s.data.toList.length=s.size:=Array.length_toList
 have:=hf s.data.toList
 show (Tr.quote s.data.toList).toArray.size≤3002
 rw [List.size_toArray]
 unfold Tr.quote
 rw [List.length_cons,List.length_append]
 simp only [List.length_cons,List.length_nil]
 omega
theorem dec_short (k:Nat):∀ n,n < 10 ^ (k+1)→(Tr.dec n).length≤k+1:=by
 induction k with
 | zero=>intro n h;rw [Tr.dec,dif_pos (by simpa using h)];simp
 | succ k ih =>
  intro n h
  rw [Tr.dec]
  split
  ·simp
  ·rw [List.length_append]
   have:=ih (n / 10) (by rw [Nat.pow_succ] at h;omega)
   simp only [List.length_cons,List.length_nil]
   omega
theorem dec_size (n:Nat) (h:n≤9223372036854775807):(⟨(Tr.dec n).toArray⟩:ByteArray).size≤19:=by
 rw [sz_lit,List.size_toArray]
 exact dec_short 18 n (Nat.lt_of_le_of_lt h (by decide))
def InkUp (w0:World) (pb:Nat) (ks:List (List Nat)) (k:Nat):Prop:=∀ y b,y < k→Ik.Cov ks b (Ik.kidsOf ks y) y→∃ S:ByteArray,S.size+100≤3500*(y+1 - b)∧Says w0 36 #[.pointer (some ⟨pb,0,none⟩),.int .i64 y] S
variable {w0:World} {pb:Nat} {ks:List (List Nat)} {k:Nat}
theorem InkUp.kid (h:InkUp w0 pb ks k) (hk:k≤5000) {b x e:Nat} {r:List Nat} (hc:Ik.Cov ks b (x :: r) e) (he:e≤k) :
  ∃ A:ByteArray,A.size+100≤3500*(x+1 - b)∧A.size≤20000000∧b≤x∧x < e∧Says w0 36 #[.pointer (some ⟨pb,0,none⟩),.int .i64 x] A∧Ik.Cov ks (x+1) r e:=by
 cases hc using Ik.Cov.cas with
 | cons h1 h2 =>
  have hb:=h1.le
  have hx:=h2.le
  obtain ⟨A,ha,hs⟩:=h x b (by omega) h1
  exact ⟨A,ha,by omega,hb,by omega,hs,h2⟩
theorem InkUp.f (h:InkUp w0 pb ks k) {b e:Nat} {ls:List Nat} (hc:Ik.Cov ks b ls e) (he:e≤k) :
  ∃ f:Nat→ByteArray,∀ y∈ls,(∀ b',Ik.Cov ks b' (Ik.kidsOf ks y) y→(f y).size+100≤3500*(y+1 - b'))∧(∃ b',Ik.Cov ks b' (Ik.kidsOf ks y) y∧b≤b')∧y < e∧Says w0 36 #[.pointer (some ⟨pb,0,none⟩),.int .i64 y] (f y):=by
 have key:∀ y∈ls,∃ S:ByteArray,(∀ b',Ik.Cov ks b' (Ik.kidsOf ks y) y→S.size+100≤3500*(y+1 - b'))∧(∃ b',Ik.Cov ks b' (Ik.kidsOf ks y) y∧b≤b')∧y < e∧Says w0 36 #[.pointer (some ⟨pb,0,none⟩),.int .i64 y] S:=by
  intro y hy
  obtain ⟨b',hb,hle⟩:=hc.at hy
  have hm:=hc.mem hy
  obtain ⟨S,hs,hS⟩:=h y b' (by omega) hb
  exact ⟨S,fun b2 h2=>by rw [← hb.uniq h2];exact hs,⟨b',hb,hle⟩,hm.2,hS⟩
 classical
 refine ⟨fun y=>if hy:y∈ls then Classical.choose (key y hy) else ⟨#[]⟩,fun y hy=>?_⟩
 simp only [dif_pos hy]
 exact Classical.choose_spec (key y hy)
theorem Ik.joined_len {f:Nat→ByteArray} {b e:Nat} {ls:List Nat} (hc:Ik.Cov ks b ls e) (hf:∀ y∈ls,∀ b',Ik.Cov ks b' (Ik.kidsOf ks y) y→(f y).size+100≤3500*(y+1 - b')) :
  ∀ i≤ls.length,∃ m,Ik.Cov ks m (ls.drop i) e∧b≤m∧(Tr.joined (fun y=>(f y).data.toList) ls i).length≤3500*(m - b)∧(Tr.catted (fun y=>(f y).data.toList) ls i).length≤3500*(m - b):=by
 intro i
 induction i with
 | zero=>intro _;exact ⟨b,hc,Nat.le_refl _,by simp [Tr.joined],by simp [Tr.catted]⟩
 | succ i ih =>
  intro hi
  obtain ⟨m,hm,hbm,hl,hl2⟩:=ih (by omega)
  rw [List.drop_eq_getElem_cons (by omega)] at hm
  cases hm using Ik.Cov.cas with
  | cons h1 h2 =>
   have h3:=hf _ (List.getElem_mem (by omega:i < ls.length)) _ h1
   have h4:=h1.le
   have e1:ls[i]?.getD 0=ls[i]:=by simp [show i < ls.length from by omega]
   have e2:(f ls[i]).data.toList.length=(f ls[i]).size:=Array.length_toList
   refine ⟨_,h2,by omega,?_,?_⟩
   ·rw [Tr.joined,List.length_append,List.length_append,e1,e2]
    have:(if i=0 then ([]:List UInt8) else [44,32]).length≤2:=by split <;> simp
    omega
   ·rw [Tr.catted,List.length_append,e1,e2]
    omega
theorem InkUp.list (h:InkUp w0 pb ks k) (hk:k≤5000) {b e:Nat} {ls:List Nat} (hc:Ik.Cov ks b ls e) (he:e≤k) (hl:ls.length≤5000) :
  ∃ L:ByteArray,L.size≤3500*(e - b)∧L.size≤40000000∧∀ g o c,IntsAt w0 g o ls→Says w0 55 #[.pointer (some ⟨pb,0,none⟩),.slice (some ⟨g,o,none⟩) ls.length c] L:=by
 obtain ⟨f,hf⟩:=h.f hc he
 have hj:=Ik.joined_len (f:=f) hc (fun y hy=>(hf y hy).1)
 have hsz:(⟨(Tr.joined (fun y=>(f y).data.toList) ls ls.length).toArray⟩:ByteArray).size≤3500*(e - b):=by
  obtain ⟨m,hm,_,h1,_⟩:=hj ls.length (Nat.le_refl _)
  rw [List.drop_length] at hm
  cases hm.nl
  rw [sz_lit,List.size_toArray]
  exact h1
 refine ⟨_,hsz,by omega,fun g o c hi=>inkList_any w0 pb f ls g o c hl hi (fun y hy=>?_) (fun i hi=>?_) (fun y hy=>(hf y hy).2.2.2)⟩
 ·obtain ⟨b',hb,_⟩:=(hf y hy).2.1
  have:=(hf y hy).1 b' hb
  have:=(hf y hy).2.2.1
  omega
 ·obtain ⟨m,hm,_,h1,_⟩:=hj i hi
  have:=hm.le
  omega
theorem one_byteW (W:World) (g:Nat) (x:Int) (h:W.cell? ⟨g,0,none⟩=some (.int .u8 x)):(convert 22 9 (.slice (some ⟨g,0,none⟩) 1 1)).run Tryz.prog W = .ok (.string (strOfNums [x])) W :=
 run_convert_bytes_arg (P:=Tryz.prog) W 22 5 Tryz.underlying22 Tryz.underlying5 g 0 1 1 [x] rfl (fun i hi=>by
  obtain rfl:i=0:=by omega
  simpa using h) 9 Tryz.underlying9
set_option maxRecDepth 100000 in
set_option maxHeartbeats 1000000 in
theorem dec_neg (n:Int) (h:n < 0):∃ S:ByteArray,S.size≤19∧∀ w,Calls Tryz.prog 20 #[.int .i64 n] w fun e w'=>e = .returned (.string S)∧Below w.heap.size w w':=by
 obtain ⟨y,hy⟩:∃ y,IntKind.i64.wrap (48+n)=y:=⟨_,rfl⟩
 obtain ⟨x,hx⟩:∃ x,IntKind.u8.wrap y=x:=⟨_,rfl⟩
 refine ⟨strOfNums [x],by simp [strOfNums,ByteArray.size],fun w=>?_⟩
 have h':n < 10:=by omega
 have hcv:=one_byteW (w.alloc (.cells #[.int .u8 x] 5)) w.heap.size x (by simp)
 clear h
 go_enter Tryz.func20,Tryz.ntmps20
 go_wp2
 go_ret
 exact ⟨rfl,bA _⟩
theorem dec_at (m:Int) (h1:-9223372036854775808≤m) (h2:m≤9223372036854775807):∃ S:ByteArray,S.size≤19∧∀ w,Calls Tryz.prog 20 #[.int .i64 m] w fun e w'=>e = .returned (.string S)∧Below w.heap.size w w':=by
 by_cases h:m < 0
 ·exact dec_neg m h
 ·obtain ⟨k,rfl⟩:∃ k:Nat,m=k:=⟨m.toNat,by omega⟩
  exact ⟨_,dec_size k (by omega),fun w=>dec_any k w (by omega)⟩
set_option maxRecDepth 100000 in
set_option maxHeartbeats 1000000 in
theorem dec_huge (n:Nat) (hn:9223372036854775807 < n):∃ S:ByteArray,S.size≤20∧∀ w,Calls Tryz.prog 20 #[.int .i64 n] w fun e w'=>e = .returned (.string S)∧Below w.heap.size w w':=by
 obtain ⟨m,hq⟩:∃ m,IntKind.i64.wrap ((n:Int) / 10)=m:=⟨_,rfl⟩
 have hm:-9223372036854775808≤m∧m≤9223372036854775807:=by rw [← hq,IntKind.wrap_i64];omega
 obtain ⟨S',hS',hC⟩:=dec_at m hm.1 hm.2
 have HI:=hide hC
 clear hC hm
 refine ⟨S'++⟨#[Tr.dg n]⟩,by rw [sz_add];have:(⟨#[Tr.dg n]⟩:ByteArray).size=1:=rfl;omega,fun w=>?_⟩
 have h':¬ ((n:Int) < 10):=by omega
 have ht:(n:Int).tmod 10=(n:Int) % 10:=Int.tmod_eq_emod_of_nonneg (by omega)
 have hr:IntKind.i64.wrap (48+(n:Int) % 10)=48+(n:Int) % 10:=by rw [IntKind.wrap_i64];omega
 have hu:IntKind.u8.wrap (48+(n:Int) % 10)=48+(n:Int) % 10:=by rw [IntKind.wrap_u8];omega
 have hcl:(w.alloc (.cells #[.int .u8 (48+(n:Int) % 10)] 5)).drew.cell? ⟨w.heap.size,0,none⟩=some (.int .u8 (48+(n:Int) % 10)):=cell_byte w _
 have hlen:¬ 9223372036854775807 < S'.size+1:=by omega
 have hcvD:=one_byte (w.alloc (.cells #[.int .u8 (48+(n:Int) % 10)] 5)).drew w.heap.size n _ rfl hcl
 have HCL:=hide hcl
 clear hcl
 go_enter Tryz.func20,Tryz.ntmps20
 go_wp2_with fail
 go_region_law (first
  | (refine step_call1 rfl 20 (.tmp 11) 2 rfl (.int .i64 m) (.string S') (by simp [Act.eval,Act.put]) Tryz.f20 Tryz.func20 (by kernel_rfl) (by kernel_rfl) _ (HI.out w.drew) ?_;intro w5 hb5;have hcvA:=one_byte (w5.alloc (.cells #[.int .u8 (48+(n:Int) % 10)] 5)) w5.heap.size n _ rfl (by simp))
  | (refine step_call1 rfl 20 (.tmp 11) 2 rfl (.int .i64 m) (.string S') (by first | (simp [Act.eval];done) | simp [Act.eval,Act.put]) Tryz.f20 Tryz.func20 (by kernel_rfl) (by kernel_rfl) _ (HI.out (w.alloc (.cells #[.int .u8 (48+(n:Int) % 10)] 5)).drew) ?_;intro w5 hb5;have hcvB:=one_byte w5 w.heap.size n (48+(n:Int) % 10) rfl ((hb5.cell (p:=⟨w.heap.size,0,none⟩) (by show w.heap.size < (w.alloc (.cells #[.int .u8 (48+(n:Int) % 10)] 5)).heap.size;simp)).trans HCL.out)))
 all_goals
  go_wp2
  go_ret
  refine ⟨rfl,?_⟩
  first
   | exact (below_of_drew hb5).alloc hb5.size _
   | exact ((Below.refl _ w).alloc (Nat.le_refl _) _).trans ((below_of_drew hb5).mono (by simp))
theorem dec_weak (n:Nat):∃ S:ByteArray,S.size≤20∧∀ w,Calls Tryz.prog 20 #[.int .i64 n] w fun e w'=>e = .returned (.string S)∧Below w.heap.size w w':=by
 by_cases h:n≤9223372036854775807
 ·exact ⟨_,Nat.le_succ_of_le (dec_size n h),fun w=>dec_any n w h⟩
 ·exact dec_huge n (by omega)
variable (w0:World) (pb tg tc kg kc:Nat) (ns:List Tr.Nd) (ks:List (List Nat))
set_option maxRecDepth 100000 in
set_option maxHeartbeats 4000000 in
theorem inkP_13 (hI:Ink w0 pb tg tc kg kc ns ks) (k:Nat) (hk:k < ns.length) (hk2:k < ks.length) (_hn:ns.length≤5000) (_hm:ks.length≤5000) (hkd:ns[k].kind=13) (_htx:ns[k].text.size≤1000) (a b d:Nat) (hks:ks[k]=[a,b,d]) (A:ByteArray) (sA:A.size≤20000000) (hA:Says w0 36 #[.pointer (some ⟨pb,0,none⟩),.int .i64 a] A) (C:ByteArray) (sC:C.size≤20000000) (hC:Says w0 36 #[.pointer (some ⟨pb,0,none⟩),.int .i64 b] C) (D:ByteArray) (sD:D.size≤20000000) (hD:Says w0 36 #[.pointer (some ⟨pb,0,none⟩),.int .i64 d] D):Says w0 36 #[.pointer (some ⟨pb,0,none⟩),.int .i64 k] ((⟨#[105,102,32]⟩:ByteArray)++A++(⟨#[32,116,104,101,110,32]⟩:ByteArray)++C++(⟨#[32,101,108,115,101,32]⟩:ByteArray)++D):=by
 intro w hw
 obtain ⟨g,c,hrow0,hints0,hgc⟩:=hI.rows k hk2
 have HI:=hide (hI.below hw)
 have hrow:=(hw.cell (p:=⟨kg,k,none⟩) hI.kl).trans hrow0
 obtain ⟨n0,n1,n2,n3,n4⟩:=HI.out.nodes.2 k hk
 have c0:=HI.out.c0
 have c1:=HI.out.c1
 have hpl:=HI.out.pl
 have hkl:=HI.out.kl
 rw [hkd] at n0
 generalize hxt:ns[k].text=xt at *
 generalize ns[k].op=xo at *
 generalize ns[k].n=xn at *
 generalize ns[k].kids=xk at *
 rw [hks] at hrow0 hints0 hgc hrow
 have r1:Below w.heap.size w (w.alloc (.cells #[.int .i64 13,.int .i64 xo,.int .i64 xn,.string xt,.int .i64 xk] 82)):=bA _
 have hw1:=hw.trans (r1.mono hw.size)
 have d1:=(r1.cell (p:=⟨pb,1,none⟩) hpl).trans c1
 have drow:=(r1.cell (p:=⟨kg,k,none⟩) hkl).trans hrow
 obtain ⟨x0,x1,x2,x3⟩:=node_box w ⟨13,xo,xn,xt,xk⟩
 have HIS:=hide (fun q:KB (w.alloc (.cells #[.int .i64 13,.int .i64 xo,.int .i64 xn,.string xt,.int .i64 xk] 82))=>hints0.below (hw1.trans (q.below.mono hw1.size)))
 have fo:∀ q:KB (w.alloc (.cells #[.int .i64 13,.int .i64 xo,.int .i64 xn,.string xt,.int .i64 xk] 82)),q.w.cell? ⟨w.heap.size,1,none⟩=some (.int .i64 xo):=fun q=>(q.below.cell (p:=⟨w.heap.size,1,none⟩) (by simp)).trans x1
 have ft:∀ q:KB (w.alloc (.cells #[.int .i64 13,.int .i64 xo,.int .i64 xn,.string xt,.int .i64 xk] 82)),q.w.cell? ⟨w.heap.size,3,none⟩=some (.string xt):=fun q=>(q.below.cell (p:=⟨w.heap.size,3,none⟩) (by simp)).trans x3
 have fi0:∀ q:KB (w.alloc (.cells #[.int .i64 13,.int .i64 xo,.int .i64 xn,.string xt,.int .i64 xk] 82)),q.w.cell? ⟨g,0,none⟩=some (.int .i64 a):=fun q=>(HIS.out q).2 0 (by simp)
 have fi1:∀ q:KB (w.alloc (.cells #[.int .i64 13,.int .i64 xo,.int .i64 xn,.string xt,.int .i64 xk] 82)),q.w.cell? ⟨g,1,none⟩=some (.int .i64 b):=fun q=>(HIS.out q).2 1 (by simp)
 have fi2:∀ q:KB (w.alloc (.cells #[.int .i64 13,.int .i64 xo,.int .i64 xn,.string xt,.int .i64 xk] 82)),q.w.cell? ⟨g,2,none⟩=some (.int .i64 d):=fun q=>(HIS.out q).2 2 (by simp)
 have HA:=hide (fun q=>Says.kb hA hw1 q)
 have HC:=hide (fun q=>Says.kb hC hw1 q)
 have HD:=hide (fun q=>Says.kb hD hw1 q)
 have HQ:=hide (fun q:KB (w.alloc (.cells #[.int .i64 13,.int .i64 xo,.int .i64 xn,.string xt,.int .i64 xk] 82))=>r1.trans (q.below.mono r1.size))
 haveI hne:Nonempty (KB (w.alloc (.cells #[.int .i64 13,.int .i64 xo,.int .i64 xn,.string xt,.int .i64 xk] 82))):=⟨⟨_,Below.refl _ _⟩⟩
 have gt:=ft ⟨_,Below.refl _ _⟩
 have go:=fo ⟨_,Below.refl _ _⟩
 simp only [KB.w] at gt go
 clear r1 hints0 hrow0 hw hw1 HIS hI HI
 go_enter Tryz.func36,Tryz.ntmps36
 go_wp2_with fail
 refine region_class (KB.w (w:=(w.alloc (.cells #[.int .i64 13,.int .i64 xo,.int .i64 xn,.string xt,.int .i64 xk] 82)))) (by kernel_rfl) (by kernel_rfl) ⟨⟨_,(Below.refl _ _).drew⟩,rfl⟩ ?_
 repeat (go_big_quiet_step (first | with_reducible exact HA.out _ | with_reducible exact HC.out _ | with_reducible exact HD.out _))
 refine wpQuiet_nil ?_
 rintro _ ⟨q,rfl⟩
 go_wp2
 go_ret
 exact ⟨rfl,HQ.out q⟩
set_option maxRecDepth 100000 in
set_option maxHeartbeats 4000000 in
theorem inkP_10 (hI:Ink w0 pb tg tc kg kc ns ks) (k:Nat) (hk:k < ns.length) (hk2:k < ks.length) (_hn:ns.length≤5000) (_hm:ks.length≤5000) (hkd:ns[k].kind=10) (_htx:ns[k].text.size≤1000) (a b:Nat) (hks:ks[k]=[a,b]) (A:ByteArray) (sA:A.size≤20000002) (hA:Says w0 53 #[.pointer (some ⟨pb,0,none⟩),.int .i64 a,.int .i64 8] A) (C:ByteArray) (sC:C.size≤20000000) (hC:Says w0 36 #[.pointer (some ⟨pb,0,none⟩),.int .i64 b] C):Says w0 36 #[.pointer (some ⟨pb,0,none⟩),.int .i64 k] (A++(⟨#[91]⟩:ByteArray)++C++(⟨#[93]⟩:ByteArray)):=by
 intro w hw
 obtain ⟨g,c,hrow0,hints0,hgc⟩:=hI.rows k hk2
 have HI:=hide (hI.below hw)
 have hrow:=(hw.cell (p:=⟨kg,k,none⟩) hI.kl).trans hrow0
 obtain ⟨n0,n1,n2,n3,n4⟩:=HI.out.nodes.2 k hk
 have c0:=HI.out.c0
 have c1:=HI.out.c1
 have hpl:=HI.out.pl
 have hkl:=HI.out.kl
 rw [hkd] at n0
 generalize hxt:ns[k].text=xt at *
 generalize ns[k].op=xo at *
 generalize ns[k].n=xn at *
 generalize ns[k].kids=xk at *
 rw [hks] at hrow0 hints0 hgc hrow
 have r1:Below w.heap.size w (w.alloc (.cells #[.int .i64 10,.int .i64 xo,.int .i64 xn,.string xt,.int .i64 xk] 82)):=bA _
 have hw1:=hw.trans (r1.mono hw.size)
 have d1:=(r1.cell (p:=⟨pb,1,none⟩) hpl).trans c1
 have drow:=(r1.cell (p:=⟨kg,k,none⟩) hkl).trans hrow
 obtain ⟨x0,x1,x2,x3⟩:=node_box w ⟨10,xo,xn,xt,xk⟩
 have HIS:=hide (fun q:KB (w.alloc (.cells #[.int .i64 10,.int .i64 xo,.int .i64 xn,.string xt,.int .i64 xk] 82))=>hints0.below (hw1.trans (q.below.mono hw1.size)))
 have fo:∀ q:KB (w.alloc (.cells #[.int .i64 10,.int .i64 xo,.int .i64 xn,.string xt,.int .i64 xk] 82)),q.w.cell? ⟨w.heap.size,1,none⟩=some (.int .i64 xo):=fun q=>(q.below.cell (p:=⟨w.heap.size,1,none⟩) (by simp)).trans x1
 have ft:∀ q:KB (w.alloc (.cells #[.int .i64 10,.int .i64 xo,.int .i64 xn,.string xt,.int .i64 xk] 82)),q.w.cell? ⟨w.heap.size,3,none⟩=some (.string xt):=fun q=>(q.below.cell (p:=⟨w.heap.size,3,none⟩) (by simp)).trans x3
 have fi0:∀ q:KB (w.alloc (.cells #[.int .i64 10,.int .i64 xo,.int .i64 xn,.string xt,.int .i64 xk] 82)),q.w.cell? ⟨g,0,none⟩=some (.int .i64 a):=fun q=>(HIS.out q).2 0 (by simp)
 have fi1:∀ q:KB (w.alloc (.cells #[.int .i64 10,.int .i64 xo,.int .i64 xn,.string xt,.int .i64 xk] 82)),q.w.cell? ⟨g,1,none⟩=some (.int .i64 b):=fun q=>(HIS.out q).2 1 (by simp)
 have HA:=hide (fun q=>Says.kb hA hw1 q)
 have HC:=hide (fun q=>Says.kb hC hw1 q)
 have HQ:=hide (fun q:KB (w.alloc (.cells #[.int .i64 10,.int .i64 xo,.int .i64 xn,.string xt,.int .i64 xk] 82))=>r1.trans (q.below.mono r1.size))
 haveI hne:Nonempty (KB (w.alloc (.cells #[.int .i64 10,.int .i64 xo,.int .i64 xn,.string xt,.int .i64 xk] 82))):=⟨⟨_,Below.refl _ _⟩⟩
 have gt:=ft ⟨_,Below.refl _ _⟩
 have go:=fo ⟨_,Below.refl _ _⟩
 simp only [KB.w] at gt go
 clear r1 hints0 hrow0 hw hw1 HIS hI HI
 go_enter Tryz.func36,Tryz.ntmps36
 go_wp2_with fail
 refine region_class (KB.w (w:=(w.alloc (.cells #[.int .i64 10,.int .i64 xo,.int .i64 xn,.string xt,.int .i64 xk] 82)))) (by kernel_rfl) (by kernel_rfl) ⟨⟨_,(Below.refl _ _).drew⟩,rfl⟩ ?_
 repeat (go_big_quiet_step (first | with_reducible exact HA.out _ | with_reducible exact HC.out _))
 refine wpQuiet_nil ?_
 rintro _ ⟨q,rfl⟩
 go_wp2
 go_ret
 exact ⟨rfl,HQ.out q⟩
set_option maxRecDepth 100000 in
set_option maxHeartbeats 4000000 in
theorem inkP_11 (hI:Ink w0 pb tg tc kg kc ns ks) (k:Nat) (hk:k < ns.length) (hk2:k < ks.length) (_hn:ns.length≤5000) (_hm:ks.length≤5000) (hkd:ns[k].kind=11) (_htx:ns[k].text.size≤1000) (a:Nat) (hks:ks[k]=[a]) (A:ByteArray) (sA:A.size≤20000002) (hA:Says w0 53 #[.pointer (some ⟨pb,0,none⟩),.int .i64 a,.int .i64 8] A):Says w0 36 #[.pointer (some ⟨pb,0,none⟩),.int .i64 k] (A++(⟨#[46]⟩:ByteArray)++ns[k].text):=by
 intro w hw
 obtain ⟨g,c,hrow0,hints0,hgc⟩:=hI.rows k hk2
 have HI:=hide (hI.below hw)
 have hrow:=(hw.cell (p:=⟨kg,k,none⟩) hI.kl).trans hrow0
 obtain ⟨n0,n1,n2,n3,n4⟩:=HI.out.nodes.2 k hk
 have c0:=HI.out.c0
 have c1:=HI.out.c1
 have hpl:=HI.out.pl
 have hkl:=HI.out.kl
 rw [hkd] at n0
 generalize hxt:ns[k].text=xt at *
 generalize ns[k].op=xo at *
 generalize ns[k].n=xn at *
 generalize ns[k].kids=xk at *
 rw [hks] at hrow0 hints0 hgc hrow
 have r1:Below w.heap.size w (w.alloc (.cells #[.int .i64 11,.int .i64 xo,.int .i64 xn,.string xt,.int .i64 xk] 82)):=bA _
 have hw1:=hw.trans (r1.mono hw.size)
 have d1:=(r1.cell (p:=⟨pb,1,none⟩) hpl).trans c1
 have drow:=(r1.cell (p:=⟨kg,k,none⟩) hkl).trans hrow
 obtain ⟨x0,x1,x2,x3⟩:=node_box w ⟨11,xo,xn,xt,xk⟩
 have HIS:=hide (fun q:KB (w.alloc (.cells #[.int .i64 11,.int .i64 xo,.int .i64 xn,.string xt,.int .i64 xk] 82))=>hints0.below (hw1.trans (q.below.mono hw1.size)))
 have fo:∀ q:KB (w.alloc (.cells #[.int .i64 11,.int .i64 xo,.int .i64 xn,.string xt,.int .i64 xk] 82)),q.w.cell? ⟨w.heap.size,1,none⟩=some (.int .i64 xo):=fun q=>(q.below.cell (p:=⟨w.heap.size,1,none⟩) (by simp)).trans x1
 have ft:∀ q:KB (w.alloc (.cells #[.int .i64 11,.int .i64 xo,.int .i64 xn,.string xt,.int .i64 xk] 82)),q.w.cell? ⟨w.heap.size,3,none⟩=some (.string xt):=fun q=>(q.below.cell (p:=⟨w.heap.size,3,none⟩) (by simp)).trans x3
 have fi0:∀ q:KB (w.alloc (.cells #[.int .i64 11,.int .i64 xo,.int .i64 xn,.string xt,.int .i64 xk] 82)),q.w.cell? ⟨g,0,none⟩=some (.int .i64 a):=fun q=>(HIS.out q).2 0 (by simp)
 have HA:=hide (fun q=>Says.kb hA hw1 q)
 have HQ:=hide (fun q:KB (w.alloc (.cells #[.int .i64 11,.int .i64 xo,.int .i64 xn,.string xt,.int .i64 xk] 82))=>r1.trans (q.below.mono r1.size))
 haveI hne:Nonempty (KB (w.alloc (.cells #[.int .i64 11,.int .i64 xo,.int .i64 xn,.string xt,.int .i64 xk] 82))):=⟨⟨_,Below.refl _ _⟩⟩
 have gt:=ft ⟨_,Below.refl _ _⟩
 have go:=fo ⟨_,Below.refl _ _⟩
 simp only [KB.w] at gt go
 clear r1 hints0 hrow0 hw hw1 HIS hI HI
 go_enter Tryz.func36,Tryz.ntmps36
 go_wp2_with fail
 refine region_class (KB.w (w:=(w.alloc (.cells #[.int .i64 11,.int .i64 xo,.int .i64 xn,.string xt,.int .i64 xk] 82)))) (by kernel_rfl) (by kernel_rfl) ⟨⟨_,(Below.refl _ _).drew⟩,rfl⟩ ?_
 repeat (go_big_quiet_step (first | with_reducible exact HA.out _))
 refine wpQuiet_nil ?_
 rintro _ ⟨q,rfl⟩
 go_wp2
 go_ret
 exact ⟨rfl,HQ.out q⟩
set_option maxRecDepth 100000 in
set_option maxHeartbeats 4000000 in
theorem inkP_14 (hI:Ink w0 pb tg tc kg kc ns ks) (k:Nat) (hk:k < ns.length) (hk2:k < ks.length) (_hn:ns.length≤5000) (_hm:ks.length≤5000) (hkd:ns[k].kind=14) (_htx:ns[k].text.size≤1000) (a b:Nat) (hks:ks[k]=[a,b]) (A:ByteArray) (sA:A.size≤20000000) (hA:Says w0 36 #[.pointer (some ⟨pb,0,none⟩),.int .i64 a] A) (C:ByteArray) (sC:C.size≤20000000) (hC:Says w0 36 #[.pointer (some ⟨pb,0,none⟩),.int .i64 b] C):Says w0 36 #[.pointer (some ⟨pb,0,none⟩),.int .i64 k] ((⟨#[108,101,116,32]⟩:ByteArray)++ns[k].text++(⟨#[32,61,32]⟩:ByteArray)++A++(⟨#[32,105,110,32]⟩:ByteArray)++C):=by
 intro w hw
 obtain ⟨g,c,hrow0,hints0,hgc⟩:=hI.rows k hk2
 have HI:=hide (hI.below hw)
 have hrow:=(hw.cell (p:=⟨kg,k,none⟩) hI.kl).trans hrow0
 obtain ⟨n0,n1,n2,n3,n4⟩:=HI.out.nodes.2 k hk
 have c0:=HI.out.c0
 have c1:=HI.out.c1
 have hpl:=HI.out.pl
 have hkl:=HI.out.kl
 rw [hkd] at n0
 generalize hxt:ns[k].text=xt at *
 generalize ns[k].op=xo at *
 generalize ns[k].n=xn at *
 generalize ns[k].kids=xk at *
 rw [hks] at hrow0 hints0 hgc hrow
 have r1:Below w.heap.size w (w.alloc (.cells #[.int .i64 14,.int .i64 xo,.int .i64 xn,.string xt,.int .i64 xk] 82)):=bA _
 have hw1:=hw.trans (r1.mono hw.size)
 have d1:=(r1.cell (p:=⟨pb,1,none⟩) hpl).trans c1
 have drow:=(r1.cell (p:=⟨kg,k,none⟩) hkl).trans hrow
 obtain ⟨x0,x1,x2,x3⟩:=node_box w ⟨14,xo,xn,xt,xk⟩
 have HIS:=hide (fun q:KB (w.alloc (.cells #[.int .i64 14,.int .i64 xo,.int .i64 xn,.string xt,.int .i64 xk] 82))=>hints0.below (hw1.trans (q.below.mono hw1.size)))
 have fo:∀ q:KB (w.alloc (.cells #[.int .i64 14,.int .i64 xo,.int .i64 xn,.string xt,.int .i64 xk] 82)),q.w.cell? ⟨w.heap.size,1,none⟩=some (.int .i64 xo):=fun q=>(q.below.cell (p:=⟨w.heap.size,1,none⟩) (by simp)).trans x1
 have ft:∀ q:KB (w.alloc (.cells #[.int .i64 14,.int .i64 xo,.int .i64 xn,.string xt,.int .i64 xk] 82)),q.w.cell? ⟨w.heap.size,3,none⟩=some (.string xt):=fun q=>(q.below.cell (p:=⟨w.heap.size,3,none⟩) (by simp)).trans x3
 have fi0:∀ q:KB (w.alloc (.cells #[.int .i64 14,.int .i64 xo,.int .i64 xn,.string xt,.int .i64 xk] 82)),q.w.cell? ⟨g,0,none⟩=some (.int .i64 a):=fun q=>(HIS.out q).2 0 (by simp)
 have fi1:∀ q:KB (w.alloc (.cells #[.int .i64 14,.int .i64 xo,.int .i64 xn,.string xt,.int .i64 xk] 82)),q.w.cell? ⟨g,1,none⟩=some (.int .i64 b):=fun q=>(HIS.out q).2 1 (by simp)
 have HA:=hide (fun q=>Says.kb hA hw1 q)
 have HC:=hide (fun q=>Says.kb hC hw1 q)
 have HQ:=hide (fun q:KB (w.alloc (.cells #[.int .i64 14,.int .i64 xo,.int .i64 xn,.string xt,.int .i64 xk] 82))=>r1.trans (q.below.mono r1.size))
 haveI hne:Nonempty (KB (w.alloc (.cells #[.int .i64 14,.int .i64 xo,.int .i64 xn,.string xt,.int .i64 xk] 82))):=⟨⟨_,Below.refl _ _⟩⟩
 have gt:=ft ⟨_,Below.refl _ _⟩
 have go:=fo ⟨_,Below.refl _ _⟩
 simp only [KB.w] at gt go
 clear r1 hints0 hrow0 hw hw1 HIS hI HI
 go_enter Tryz.func36,Tryz.ntmps36
 go_wp2_with fail
 refine region_class (KB.w (w:=(w.alloc (.cells #[.int .i64 14,.int .i64 xo,.int .i64 xn,.string xt,.int .i64 xk] 82)))) (by kernel_rfl) (by kernel_rfl) ⟨⟨_,(Below.refl _ _).drew⟩,rfl⟩ ?_
 repeat (go_big_quiet_step (first | with_reducible exact HA.out _ | with_reducible exact HC.out _))
 refine wpQuiet_nil ?_
 rintro _ ⟨q,rfl⟩
 go_wp2
 go_ret
 exact ⟨rfl,HQ.out q⟩
set_option maxRecDepth 100000 in
set_option maxHeartbeats 4000000 in
theorem inkP_18 (hI:Ink w0 pb tg tc kg kc ns ks) (k:Nat) (hk:k < ns.length) (hk2:k < ks.length) (_hn:ns.length≤5000) (_hm:ks.length≤5000) (hkd:ns[k].kind=18) (_htx:ns[k].text.size≤1000) (a:Nat) (hks:ks[k]=[a]) (A:ByteArray) (sA:A.size≤20000000) (hA:Says w0 36 #[.pointer (some ⟨pb,0,none⟩),.int .i64 a] A):Says w0 36 #[.pointer (some ⟨pb,0,none⟩),.int .i64 k] (ns[k].text++(⟨#[32,61,32]⟩:ByteArray)++A):=by
 intro w hw
 obtain ⟨g,c,hrow0,hints0,hgc⟩:=hI.rows k hk2
 have HI:=hide (hI.below hw)
 have hrow:=(hw.cell (p:=⟨kg,k,none⟩) hI.kl).trans hrow0
 obtain ⟨n0,n1,n2,n3,n4⟩:=HI.out.nodes.2 k hk
 have c0:=HI.out.c0
 have c1:=HI.out.c1
 have hpl:=HI.out.pl
 have hkl:=HI.out.kl
 rw [hkd] at n0
 generalize hxt:ns[k].text=xt at *
 generalize ns[k].op=xo at *
 generalize ns[k].n=xn at *
 generalize ns[k].kids=xk at *
 rw [hks] at hrow0 hints0 hgc hrow
 have r1:Below w.heap.size w (w.alloc (.cells #[.int .i64 18,.int .i64 xo,.int .i64 xn,.string xt,.int .i64 xk] 82)):=bA _
 have hw1:=hw.trans (r1.mono hw.size)
 have d1:=(r1.cell (p:=⟨pb,1,none⟩) hpl).trans c1
 have drow:=(r1.cell (p:=⟨kg,k,none⟩) hkl).trans hrow
 obtain ⟨x0,x1,x2,x3⟩:=node_box w ⟨18,xo,xn,xt,xk⟩
 have HIS:=hide (fun q:KB (w.alloc (.cells #[.int .i64 18,.int .i64 xo,.int .i64 xn,.string xt,.int .i64 xk] 82))=>hints0.below (hw1.trans (q.below.mono hw1.size)))
 have fo:∀ q:KB (w.alloc (.cells #[.int .i64 18,.int .i64 xo,.int .i64 xn,.string xt,.int .i64 xk] 82)),q.w.cell? ⟨w.heap.size,1,none⟩=some (.int .i64 xo):=fun q=>(q.below.cell (p:=⟨w.heap.size,1,none⟩) (by simp)).trans x1
 have ft:∀ q:KB (w.alloc (.cells #[.int .i64 18,.int .i64 xo,.int .i64 xn,.string xt,.int .i64 xk] 82)),q.w.cell? ⟨w.heap.size,3,none⟩=some (.string xt):=fun q=>(q.below.cell (p:=⟨w.heap.size,3,none⟩) (by simp)).trans x3
 have fi0:∀ q:KB (w.alloc (.cells #[.int .i64 18,.int .i64 xo,.int .i64 xn,.string xt,.int .i64 xk] 82)),q.w.cell? ⟨g,0,none⟩=some (.int .i64 a):=fun q=>(HIS.out q).2 0 (by simp)
 have HA:=hide (fun q=>Says.kb hA hw1 q)
 have HQ:=hide (fun q:KB (w.alloc (.cells #[.int .i64 18,.int .i64 xo,.int .i64 xn,.string xt,.int .i64 xk] 82))=>r1.trans (q.below.mono r1.size))
 haveI hne:Nonempty (KB (w.alloc (.cells #[.int .i64 18,.int .i64 xo,.int .i64 xn,.string xt,.int .i64 xk] 82))):=⟨⟨_,Below.refl _ _⟩⟩
 have gt:=ft ⟨_,Below.refl _ _⟩
 have go:=fo ⟨_,Below.refl _ _⟩
 simp only [KB.w] at gt go
 clear r1 hints0 hrow0 hw hw1 HIS hI HI
 go_enter Tryz.func36,Tryz.ntmps36
 go_wp2_with fail
 refine region_class (KB.w (w:=(w.alloc (.cells #[.int .i64 18,.int .i64 xo,.int .i64 xn,.string xt,.int .i64 xk] 82)))) (by kernel_rfl) (by kernel_rfl) ⟨⟨_,(Below.refl _ _).drew⟩,rfl⟩ ?_
 repeat (go_big_quiet_step (first | with_reducible exact HA.out _))
 refine wpQuiet_nil ?_
 rintro _ ⟨q,rfl⟩
 go_wp2
 go_ret
 exact ⟨rfl,HQ.out q⟩
set_option maxRecDepth 100000 in
set_option maxHeartbeats 4000000 in
theorem inkP_21 (hI:Ink w0 pb tg tc kg kc ns ks) (k:Nat) (hk:k < ns.length) (hk2:k < ks.length) (_hn:ns.length≤5000) (_hm:ks.length≤5000) (hkd:ns[k].kind=21) (_htx:ns[k].text.size≤1000) (a:Nat) (hks:ks[k]=[a]) (A:ByteArray) (sA:A.size≤20000000) (hA:Says w0 36 #[.pointer (some ⟨pb,0,none⟩),.int .i64 a] A):Says w0 36 #[.pointer (some ⟨pb,0,none⟩),.int .i64 k] ((⟨#[108,101,116,32]⟩:ByteArray)++ns[k].text++(⟨#[32,61,32]⟩:ByteArray)++A++(⟨#[59,10]⟩:ByteArray)):=by
 intro w hw
 obtain ⟨g,c,hrow0,hints0,hgc⟩:=hI.rows k hk2
 have HI:=hide (hI.below hw)
 have hrow:=(hw.cell (p:=⟨kg,k,none⟩) hI.kl).trans hrow0
 obtain ⟨n0,n1,n2,n3,n4⟩:=HI.out.nodes.2 k hk
 have c0:=HI.out.c0
 have c1:=HI.out.c1
 have hpl:=HI.out.pl
 have hkl:=HI.out.kl
 rw [hkd] at n0
 generalize hxt:ns[k].text=xt at *
 generalize ns[k].op=xo at *
 generalize ns[k].n=xn at *
 generalize ns[k].kids=xk at *
 rw [hks] at hrow0 hints0 hgc hrow
 have r1:Below w.heap.size w (w.alloc (.cells #[.int .i64 21,.int .i64 xo,.int .i64 xn,.string xt,.int .i64 xk] 82)):=bA _
 have hw1:=hw.trans (r1.mono hw.size)
 have d1:=(r1.cell (p:=⟨pb,1,none⟩) hpl).trans c1
 have drow:=(r1.cell (p:=⟨kg,k,none⟩) hkl).trans hrow
 obtain ⟨x0,x1,x2,x3⟩:=node_box w ⟨21,xo,xn,xt,xk⟩
 have HIS:=hide (fun q:KB (w.alloc (.cells #[.int .i64 21,.int .i64 xo,.int .i64 xn,.string xt,.int .i64 xk] 82))=>hints0.below (hw1.trans (q.below.mono hw1.size)))
 have fo:∀ q:KB (w.alloc (.cells #[.int .i64 21,.int .i64 xo,.int .i64 xn,.string xt,.int .i64 xk] 82)),q.w.cell? ⟨w.heap.size,1,none⟩=some (.int .i64 xo):=fun q=>(q.below.cell (p:=⟨w.heap.size,1,none⟩) (by simp)).trans x1
 have ft:∀ q:KB (w.alloc (.cells #[.int .i64 21,.int .i64 xo,.int .i64 xn,.string xt,.int .i64 xk] 82)),q.w.cell? ⟨w.heap.size,3,none⟩=some (.string xt):=fun q=>(q.below.cell (p:=⟨w.heap.size,3,none⟩) (by simp)).trans x3
 have fi0:∀ q:KB (w.alloc (.cells #[.int .i64 21,.int .i64 xo,.int .i64 xn,.string xt,.int .i64 xk] 82)),q.w.cell? ⟨g,0,none⟩=some (.int .i64 a):=fun q=>(HIS.out q).2 0 (by simp)
 have HA:=hide (fun q=>Says.kb hA hw1 q)
 have HQ:=hide (fun q:KB (w.alloc (.cells #[.int .i64 21,.int .i64 xo,.int .i64 xn,.string xt,.int .i64 xk] 82))=>r1.trans (q.below.mono r1.size))
 haveI hne:Nonempty (KB (w.alloc (.cells #[.int .i64 21,.int .i64 xo,.int .i64 xn,.string xt,.int .i64 xk] 82))):=⟨⟨_,Below.refl _ _⟩⟩
 have gt:=ft ⟨_,Below.refl _ _⟩
 have go:=fo ⟨_,Below.refl _ _⟩
 simp only [KB.w] at gt go
 clear r1 hints0 hrow0 hw hw1 HIS hI HI
 go_enter Tryz.func36,Tryz.ntmps36
 go_wp2_with fail
 refine region_class (KB.w (w:=(w.alloc (.cells #[.int .i64 21,.int .i64 xo,.int .i64 xn,.string xt,.int .i64 xk] 82)))) (by kernel_rfl) (by kernel_rfl) ⟨⟨_,(Below.refl _ _).drew⟩,rfl⟩ ?_
 repeat (go_big_quiet_step (first | with_reducible exact HA.out _))
 refine wpQuiet_nil ?_
 rintro _ ⟨q,rfl⟩
 go_wp2
 go_ret
 exact ⟨rfl,HQ.out q⟩
end Go.Proofs.YtbckhbeebngjfaaGreatDoor
