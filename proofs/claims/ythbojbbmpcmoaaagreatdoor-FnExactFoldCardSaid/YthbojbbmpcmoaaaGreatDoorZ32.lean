/- Fos, Fow, Jf. -/
import Derived.Test.YthbojbbmpcmoaaaGreatDoorZ21
import Derived.Test.YthbojbbmpcmoaaaGreatDoorZ23
import Derived.Test.YthbojbbmpcmoaaaGreatDoorZ20
namespace Go.Proofs.YthbojbbmpcmoaaaGreatDoor
open Go.RowKit
def Meth1 (v:Value) (name:String) (u:Value) (w:World) (P:Value→World→Prop):Prop:=∃ f r,(callMethod v name #[u]).run Tryz.prog w = .ok (.enter f r) w∧Calls Tryz.prog f r w fun e w'=>∃ z,e = .returned z∧P z w'
theorem wpList_meth1 {ops:Array Oper} {Q:Exit→Act→World→Prop} {a:Act} {w:World} {rest:List Oper} {o:Oper} {name:String}
  (hg:o.guard=none) (x y:Operand) (ts:Array TypeId) (hop:o.op=Op.call {callee:=Callee.invoke x name,args:=#[y],argTypes:=ts})
  (v u:Value) (P:Value→World→Prop) (hx:a.eval x=v) (hy:a.eval y=u) (hv:Meth1 v name u w P) (hK:∀ z w',P z w'→wpList Tryz.prog ops Q rest (a.put o.dst z) w'):wpList Tryz.prog ops Q (o :: rest) a w:=by
 refine wpList_step (fun K hKK=>?_)
 have hw:Region.wanted o (yielded ops a.tmps)=true:=by simp [Region.wanted,hg]
 rw [if_pos hw]
 obtain ⟨f,r,hm,hC⟩:=hv
 unfold Oper.wp
 simp only [execOp,hop,resolve,invoke,List.map_toArray,List.map_nil,List.map_cons,hx,hy,Sem.run_bind,Sem.run_pure,Result.andThen_ok]
 simp [hm]
 refine hC.mono fun e w2 h=>?_
 obtain ⟨z,rfl,h2⟩:=h
 exact hKK _ _ (hK _ _ h2)
theorem call_openS {k:Int} (h14:k≠14) (h15:k≠15) (h16:k≠16) (o m c:Int) (t s:ByteArray) (sl:Value) (w:World):(callMethod (.iface (Ip.ty k) (Ip.ag k o m c t sl)) "loop.example/kilnclay/impl.open" #[.string s]).run Tryz.prog w = .ok (.enter 250 #[Ip.ag k o m c t sl,.string s]) w:=by
 have key:∀ T∈([193,194,195,196,197,198,199,200,201,205,206,207,208,209,210,211,212,213]:List TypeId),(callMethod (.iface T (Ip.ag k o m c t sl)) "loop.example/kilnclay/impl.open" #[.string s]).run Tryz.prog w = .ok (.enter 250 #[Ip.ag k o m c t sl,.string s]) w:=by
  clear h14 h15 h16
  intro T hT
  simp only [List.mem_cons,List.not_mem_nil,or_false] at hT
  rcases hT with rfl | rfl | rfl | rfl | rfl | rfl | rfl | rfl | rfl | rfl | rfl | rfl | rfl | rfl | rfl | rfl | rfl | rfl <;> kernel_rfl
 exact key _ (Ip.ty_stem h14 h15 h16)
theorem call_openL (o m c:Int) (t s:ByteArray) (sl:Value) (w:World):(callMethod (.iface (Ip.ty 14) (Ip.ag 14 o m c t sl)) "loop.example/kilnclay/impl.open" #[.string s]).run Tryz.prog w = .ok (.enter 277 #[Ip.ag 14 o m c t sl,.string s]) w:=by kernel_rfl
theorem call_openE (o m c:Int) (t s:ByteArray) (sl:Value) (w:World):(callMethod (.iface (Ip.ty 16) (Ip.ag 16 o m c t sl)) "loop.example/kilnclay/impl.open" #[.string s]).run Tryz.prog w = .ok (.enter 285 #[Ip.ag 16 o m c t sl,.string s]) w:=by kernel_rfl
theorem call_openF (o m c:Int) (t s:ByteArray) (sl:Value) (w:World):(callMethod (.iface (Ip.ty 15) (Ip.ag 15 o m c t sl)) "loop.example/kilnclay/impl.open" #[.string s]).run Tryz.prog w = .ok (.enter 282 #[Ip.ag 15 o m c t sl,.string s]) w:=by kernel_rfl
theorem open_any {B:Nat→Prop} (x:Tr.Nd) (ks:List Fd) (s:ByteArray) (sl:Value) (xs:List Value) (w:World) (hB:∀ q,B q→q < w.heap.size) (hr:w.ownsRow 0 56 1 sl ks.length xs) (hq:∀ q,sl.ownBlock=some q→B q) (hk:Fd.Pt.ptL B w ks xs) (hL:Fd.Loc x ks) (hl:ks.length≤1000000) :
  Meth1 (Ip.pv (Fd.nk x ks.length) sl) "loop.example/kilnclay/impl.open" (.string s) w fun z w'=>z = .int .i64 (Fd.opn s x ks:Nat)∧Below w.heap.size w w':=by
 obtain ⟨p,cp,rfl⟩:=row_formF hr
 obtain ⟨k,o,m,t,c⟩:=x
 have fin:∀ {f:FuncId} {r:Array Value} {n:Nat},n=Fd.opn s ⟨k,o,m,t,c⟩ ks→(Calls Tryz.prog f r w fun e w'=>e = .returned (.int .i64 (n:Int))∧Below w.heap.size w w')→Calls Tryz.prog f r w fun e w'=>∃ z,e = .returned z∧z = .int .i64 (Fd.opn s ⟨k,o,m,t,c⟩ ks:Nat)∧Below w.heap.size w w':=fun e h=>h.mono fun e' w' h2=>⟨_,h2.1,by rw [e],h2.2⟩
 by_cases h14:k=14
 ·subst h14
  refine ⟨_,_,call_openL _ _ _ _ _ _ _,fin ?_ (iopen_let 14 o m ks.length t s p ks.length cp w)⟩
  show _=Fd.opn s _ _
  unfold Fd.opn
  exact (if_pos (Or.inl rfl)).symm
 ·by_cases h16:k=16
  ·subst h16
   refine ⟨_,_,call_openE _ _ _ _ _ _ _,fin ?_ (iopen_each 16 o m ks.length t s p ks.length cp w)⟩
   show _=Fd.opn s _ _
   unfold Fd.opn
   exact (if_pos (Or.inr rfl)).symm
  ·by_cases h15:k=15
   ·subst h15
    refine ⟨_,_,call_openF _ _ _ _ _ _ _,fin ?_ (iopen_fn 15 o m ks.length t s ks _ xs w hr (fun q e=>hB q (hq q e)) (Fd.ptL_go hB (fun _ _=>rfl) hk) (hL.fn rfl) hl)⟩
    show _=Fd.opn s _ _
    unfold Fd.opn
    rw [if_neg (by show ¬ ((15:Int)=14∨(15:Int)=16);omega),if_pos rfl]
   ·refine ⟨_,_,call_openS h14 h15 h16 _ _ _ _ _ _ _,fin ?_ (iopen_stem k o m ks.length t s p ks.length cp w)⟩
    show _=Fd.opn s _ _
    unfold Fd.opn
    rw [if_neg (by show ¬ (k=14∨k=16);omega),if_neg h15]
theorem Fd.pt_set {B:Nat→Prop} {w:World} {g i:Nat} {z:Value} (hB:∀ q,B q→q≠g) {y:Fd} {u:Value} (h:Fd.Pt B w y u):Fd.Pt B (w.setCell ⟨g,i,none⟩ z) y u:=Fd.Pt.go h (fun _ e=>e) (fun q e=>heap_setOther (hB q e))
theorem Fd.ptL_set {B:Nat→Prop} {w:World} {g i:Nat} {z:Value} (hB:∀ q,B q→q≠g) {l:List Fd} {xs:List Value} (h:Fd.Pt.ptL B w l xs):Fd.Pt.ptL B (w.setCell ⟨g,i,none⟩ z) l xs:=Fd.ptL_go (fun _ e=>e) (fun q e=>heap_setOther (hB q e)) h
theorem Fd.ptL_put {B:Nat→Prop} {w:World} {t:Fd} {v:Value} (ht:Fd.Pt B w t v):∀ {l:List Fd} {xs:List Value} (i:Nat),Fd.Pt.ptL B w l xs→Fd.Pt.ptL B w (l.set i t) (xs.set i v)
 | [],xs,i,h=>by rw [(Fd.ptL_nil w xs).1 h];exact (Fd.ptL_nil _ _).2 (by simp)
 | y :: r,xs,0,h=>by
  obtain ⟨a,s,rfl,h1,h2⟩:=(Fd.ptL_cons w y r xs).1 h
  exact (Fd.ptL_cons _ _ _ _).2 ⟨v,s,rfl,ht,h2⟩
 | y :: r,xs,i+1,h=>by
  obtain ⟨a,s,rfl,h1,h2⟩:=(Fd.ptL_cons w y r xs).1 h
  exact (Fd.ptL_cons _ _ _ _).2 ⟨a,s.set i v,rfl,h1,Fd.ptL_put ht i h2⟩
theorem Fd.ptL_one {B:Nat→Prop} {w:World}:∀ {l:List Fd} {xs:List Value},Fd.Pt.ptL B w l xs→∀ u∈xs,u.oneCell'=true
 | [],xs,h,u,hu=>by rw [(Fd.ptL_nil w xs).1 h] at hu;cases hu
 | y :: r,xs,h,u,hu=>by
  obtain ⟨a,s,rfl,h1,h2⟩:=(Fd.ptL_cons w y r xs).1 h
  rcases List.mem_cons.1 hu with rfl | hu
  ·obtain ⟨t,z,rfl⟩:=h1.iface
   rfl
  ·exact Fd.ptL_one h2 u hu
theorem row_rowF {w:World} {p:Option Addr} {n c:Nat} {xs:List Value} (h:w.ownsRow 0 56 1 (.slice p n c) n xs) (hB:∀ q,(Value.slice p n c).ownBlock=some q→q < w.heap.size) (hl:xs.length=n):RowF w p xs:=by
 by_cases hn:0 < n
 ·obtain ⟨g,c',e⟩:=row_posF h hn
  cases e
  refine .inr ⟨g,0,rfl,hB g rfl,fun j u hu=>?_⟩
  rw [Nat.zero_add]
  exact row_cellF h hu
 ·exact .inl (List.eq_nil_of_length_eq_zero (by omega))
def Fd.part (t:ByteArray) (c:Tr.Nd) (ks:List Fd) (i:Nat):List Fd:=(ks.take i).map (Fd.fill t c)++ks.drop i
theorem Fd.part_len (t:ByteArray) (c:Tr.Nd) (ks:List Fd) (i:Nat) (h:i≤ks.length):(Fd.part t c ks i).length=ks.length:=by
 unfold Fd.part;rw [List.length_append,List.length_map,List.length_take,List.length_drop];omega
theorem Fd.part_at (t:ByteArray) (c:Tr.Nd) (ks:List Fd) (i:Nat) (h:i < ks.length):(Fd.part t c ks i)[i]?=some ks[i]:=by
 unfold Fd.part
 rw [List.getElem?_append_right (by rw [List.length_map,List.length_take];omega),List.length_map,List.length_take,Nat.min_eq_left (by omega),Nat.sub_self,List.getElem?_drop,Nat.add_zero,List.getElem?_eq_getElem h]
theorem Fd.part_succ (t:ByteArray) (c:Tr.Nd) (ks:List Fd) (i:Nat) (h:i < ks.length):(Fd.part t c ks i).set i (Fd.fill t c ks[i])=Fd.part t c ks (i+1):=by
 unfold Fd.part
 have hl:((ks.take i).map (Fd.fill t c)).length=i:=by rw [List.length_map,List.length_take];omega
 rw [List.set_append_right _ _ (by omega),hl,Nat.sub_self,List.drop_eq_getElem_cons h,List.set_cons_zero,List.take_succ_eq_append_getElem h,List.map_append,List.append_assoc]
 rfl
def FillPost (B:Nat→Prop) (w:World) (y:Fd) (e:Ending) (w':World):Prop:=∃ v,e = .returned v∧Fd.Pt (fun q=>B q∨(w.heap.size≤q∧q < w'.heap.size)) w' y v∧Below w.heap.size w w'
abbrev ndBox (k o m c:Int) (t:ByteArray):Obj:= .cells #[.int .i64 k,.int .i64 o,.int .i64 m,.string t,.int .i64 c] 64
theorem ndBox_cells {W:World} {g:Nat} {k o m c:Int} {t:ByteArray} (h:W.heap[g]?=some (ndBox k o m c t)):W.cell? ⟨g,0,none⟩=some (.int .i64 k)∧W.cell? ⟨g,1,none⟩=some (.int .i64 o)∧W.cell? ⟨g,2,none⟩=some (.int .i64 m)∧W.cell? ⟨g,3,none⟩=some (.string t)∧W.cell? ⟨g,4,none⟩=some (.int .i64 c):=by
 refine ⟨?_,?_,?_,?_,?_⟩ <;> (rw [World.cell?,h];rfl)
set_option maxRecDepth 100000 in
set_option maxHeartbeats 4000000 in
theorem filled_any (t:ByteArray) (c:Tr.Nd):∀ (n:Nat) (y:Fd),y.size≤n→y.size≤1000000→Fd.Good y→∀ (B:Nat→Prop) (u cv:Value) (w:World),(∀ q,B q→q < w.heap.size)→Fd.Pt B w y u→Fd.Pt B w (Fd.one c) cv→Calls Tryz.prog 280 #[u,.string t,cv] w (FillPost B w (Fd.fill t c y)):=by
 intro n
 induction n with
 | zero=>intro y hy;have:=Fd.size_pos y;omega
 | succ n ih =>
  intro y hy hM hG B u cv w hB h hc
  obtain ⟨x,p,b,ks⟩:=y
  rw [Fd.size_mk] at hy hM
  have hs:∀ t∈ks,t.size≤n∧t.size≤1000000:=fun t ht=>by have:=Fd.size_mem ht;exact ⟨by omega,by omega⟩
  have hkl:=Fd.len_size ks
  have hkm:ks.length≤1000000:=by omega
  obtain ⟨hL,hGk⟩:=(Fd.good_mk _ _ _ _).1 hG
  obtain ⟨sl,xs,hu,h2,h3,h4⟩:=(Fd.pt_mk _ _ _ _ _ _ _).1 h
  obtain ⟨sp,sc,hsl⟩:=row_formF h2
  subst hsl
  have hxl:=Fd.ptL_len h4
  have HO:=hide (fun (w':World) (hb:Below w.heap.size w w')=>open_any (B:=fun q=>q < w'.heap.size) x ks t (.slice sp ks.length sc) xs w' (fun _ e=>e) (row_ownF h2 (fun _ _=>Nat.zero_le _) (fun q e=>hb.block q (hB q (h3 q e)))) (fun q e=>Nat.lt_of_lt_of_le (hB q (h3 q e)) hb.size) (Fd.ptL_go (fun q e=>Nat.lt_of_lt_of_le (hB q e) hb.size) (fun q e=>hb.block q (hB q e)) h4) hL hkm)
  have HCL:=hide (fun (w':World) (hb:Below w.heap.size w w')=>cloneP_any xs sp ks.length sc w' hxl hkm (Fd.ptL_one h4) (row_rowF (row_ownF h2 (fun _ _=>Nat.zero_le _) (fun q e=>hb.block q (hB q (h3 q e)))) (fun q e=>Nat.lt_of_lt_of_le (hB q (h3 q e)) hb.size) hxl))
  have HP:=hide h4
  have HCV:=hide hc
  have HB:=hide hB
  have HIH:=hide ih
  have HGK:=hide hGk
  have HS:=hide hs
  have HXL:=hide hxl
  have hl0:x.kind=14∨x.kind=16→0 < ks.length:=fun h=>h.elim (fun h=>by rw [hL.bind h];decide) hL.each
  have hop:=Fd.opn_le t x ks hl0
  have HFO:Hid (¬ (x.kind=5∧x.text=t)→Fd.fill t c (.mk x p b ks) = .mk x p b (Fd.part t c ks (Fd.opn t x ks))):=hide (fun hx=>Fd.fill_open t c x p b ks hx hl0)
  obtain ⟨ct,cu,hcv⟩:=hc.iface
  subst hcv
  obtain ⟨k,o,m,tx,c0⟩:=x
  subst hu
  clear h h2 h3 h4 hc ih hGk hs hxl hG hL hB hl0
  have hmk:=meth_kids k o m (ks.length:Int) tx (.slice sp ks.length sc)
  have hms:=meth_self k o m (ks.length:Int) tx (.slice sp ks.length sc)
  have Q:=hide (iself_at k o m (ks.length:Int) tx (.slice sp ks.length sc) ⟨_,_,_,rfl⟩ w)
  have HKD:=hide (fun w=>ikids_at k o m (ks.length:Int) tx (.slice sp ks.length sc) ⟨_,_,_,rfl⟩ w)
  unfold Fd.nk Ip.pv at HO ⊢
  by_cases h5:k=5∧tx=t
  ·obtain ⟨h5k,h5t⟩:=h5
   have hfe:Fd.fill t c (.mk ⟨k,o,m,tx,c0⟩ p b ks)=Fd.one c:=by rw [Fd.fill_mk,if_pos ⟨h5k,h5t⟩];rfl
   rw [hfe]
   subst h5t
   have t5:(k == 5)=true:=by simpa using h5k
   clear HFO HO HCL HKD hmk hfe h5k
   go_enter Tryz.func280,Tryz.ntmps280
   go_wp2_with fail
   refine Q.out.mono ?_
   rintro e w1 ⟨rfl,hb1⟩
   have HB1:=hide (hb1.alloc hb1.size (ndBox k o m ks.length tx))
   clear hb1 Q
   go_wp2
   go_ret
   exact ⟨_,rfl,Fd.Pt.go HCV.out (fun q e => .inl e) (fun q e=>HB1.out.block q (HB.out q e)),HB1.out⟩
  ·have HFE:=hide (HFO.out h5)
   have hcase:(k == 5)=false∨((k == 5)=true∧(tx.toList == t.toList)=false):=by
    by_cases hk:k=5
    ·exact .inr ⟨by simpa using hk,text_ne (fun e=>h5 ⟨hk,e⟩)⟩
    ·exact .inl (by simpa using hk)
   clear HFO h5
   generalize hopn:Fd.opn t ⟨k,o,m,tx,c0⟩ ks=on at *
   have HOP:=hide hopn
   clear hopn
   rcases hcase with f5 | ⟨f5,f5t⟩
   all_goals
    go_enter Tryz.func280,Tryz.ntmps280
    go_wp2_with fail
    refine Q.out.mono ?_
    rintro e w1 ⟨rfl,hb1⟩
    have HB1:=hide (hb1.alloc hb1.size (ndBox k o m ks.length tx))
    have HX1:=hide (heap_alloc_new' w1 (ndBox k o m ks.length tx))
    have hz1:=hb1.size
    clear hb1 Q
    go_wp2_with fail
    refine (HKD.out _).mono ?_
    rintro e w2 ⟨rfl,hb2⟩
    have HB2:=hide (HB1.out.trans (hb2.mono HB1.out.size))
    have HX2:=hide ((hb2.block w1.heap.size (by simp)).trans HX1.out)
    clear hb2 HKD HB1 HX1
    go_wp2_with fail
    refine (HCL.out w2 HB2.out).mono ?_
    rintro e w3 ⟨v3,rfl,hr3,hb3⟩
    obtain ⟨p3,c3,hv3⟩:=row_formF hr3
    subst hv3
    have HR3:=hide hr3
    have HB3:=hide (HB2.out.trans (hb3.mono HB2.out.size))
    have hz2:=HB2.out.size
    have hl1:w1.heap.size < w2.heap.size:=by
     rcases Nat.lt_or_ge w1.heap.size w2.heap.size with h | h
     ·exact h
     ·have:=HX2.out;rw [Array.getElem?_eq_none h] at this;cases this
    have HX3:=hide ((hb3.block w1.heap.size hl1).trans HX2.out)
    have HOW:Hid (∀ q,(Value.slice p3 ks.length c3).ownBlock=some q→w2.heap.size≤q∧q < w3.heap.size):=hide (fun q e=>hr3.lt q e)
    clear hb3 HCL HB2 HX2 hr3
    go_wp2_with (show wpList _ _ _ ({dst:=_,op:=Op.call {callee:=Callee.invoke _ _,args:=_,argTypes:=_},type:=_,pos:=_,after:=_,guard:=_} :: _) _ _;refine wpList_meth1 rfl (.tmp 25) (.tmp 26) _ rfl _ _ _ (by first | (simp [Act.eval];done) | simp [Act.eval,Act.put]) (by first | (simp [Act.eval];done) | simp [Act.eval,Act.put]) (HO.out w3 HB3.out) ?_;rintro z w4 ⟨rfl,hb4⟩)
    have HB4:=hide (HB3.out.trans (hb4.mono HB3.out.size))
    have HR4:=hide (row_below HR3.out hb4)
    have hl3:w1.heap.size < w3.heap.size:=by
     rcases Nat.lt_or_ge w1.heap.size w3.heap.size with h | h
     ·exact h
     ·have:=HX3.out;rw [Array.getElem?_eq_none h] at this;cases this
    have HX4:=hide ((hb4.block w1.heap.size hl3).trans HX3.out)
    have hz3:=hb4.size
    have hn1:Hid (∀ q,(Value.slice p3 ks.length c3).ownBlock=some q→q≠w1.heap.size):=hide (fun q e=>by have:=(HOW.out q e).1;omega)
    clear hb4 HO HX3 HR3
    go_loopw [28] (fun iv wr=>∃ i:Nat,i≤on∧iv = .int .i64 (i:Int)∧Below w.heap.size w wr∧w4.heap.size≤wr.heap.size∧wr.heap[w1.heap.size]?=some (ndBox k o m ks.length tx)∧∃ zs,wr.ownsRow w2.heap.size 56 1 (.slice p3 ks.length c3) ks.length zs∧Fd.Pt.ptL (fun q=>(B q∨(w.heap.size≤q∧q < wr.heap.size))∧(Value.slice p3 ks.length c3).ownBlock≠some q) wr (Fd.part t c ks i) zs) (fun iv _=>on - (intOf iv).toNat)
    case atStart=>exact ⟨0,Nat.zero_le _,rfl,HB4.out,Nat.le_refl _,HX4.out,xs,HR4.out,Fd.ptL_go (fun q e=>⟨.inl e,fun e2=>by have:=(HOW.out q e2).1;have:=HB.out q e;omega⟩) (fun q e=>HB4.out.block q (HB.out q e)) HP.out⟩
    case round =>
     obtain ⟨i,hi,rfl,hBr,hz4,hxr,zs,hrow,hpl⟩:=hrel
     have HBR:=hide hBr
     have HXR:=hide hxr
     have HROW:=hide hrow
     have HPL:=hide hpl
     clear hBr hxr hrow hpl
     by_cases hlt:i < on
     ·have hlti:(i:Int) < (on:Int):=by omega
      have hik:i < ks.length:=by omega
      have hikz:(i:Int) < (ks.length:Int):=by omega
      obtain ⟨g3,c3',hsl2⟩:=row_posF HROW.out (by omega)
      cases hsl2
      have hpat:=Fd.part_at t c ks i hik
      obtain ⟨zi,hzi,htz0⟩:=Fd.ptL_get i HPL.out (by rw [Fd.part_len t c ks i (by omega)];exact hik)
      have htz:Fd.Pt (fun q=>(B q∨(w.heap.size≤q∧q < wr.heap.size))∧(Value.slice (some ⟨g3,0,none⟩) ks.length c3).ownBlock≠some q) wr ks[i] zi:=by
       have e:=List.getElem?_eq_getElem (l:=Fd.part t c ks i) (by rw [Fd.part_len t c ks i (by omega)];exact hik)
       rw [hpat] at e
       have e2:=Option.some.inj e
       rw [e2]
       exact htz0
      obtain ⟨zt,zu,hzf⟩:=htz.iface
      subst hzf
      have ke:wr.cell? ⟨g3,i,none⟩=some (.iface zt zu):=row_cellF HROW.out hzi
      have hg3:=HOW.out g3 rfl
      have HC:=hide (HIH.out ks[i] (HS.out _ (List.getElem_mem hik)).1 (HS.out _ (List.getElem_mem hik)).2 (HGK.out _ (List.getElem_mem hik)) (fun q=>(B q∨(w.heap.size≤q∧q < wr.heap.size))∧(Value.slice (some ⟨g3,0,none⟩) ks.length c3).ownBlock≠some q) (.iface zt zu) (.iface ct cu) wr (fun q e=>e.1.elim (fun e=>Nat.lt_of_lt_of_le (HB.out q e) HBR.out.size) (fun e=>e.2)) htz (Fd.Pt.go HCV.out (fun q e=>⟨.inl e,fun e2=>by cases e2;have:=HB.out g3 e;omega⟩) (fun q e=>HBR.out.block q (HB.out q e))))
      clear htz htz0 hpat hzi
      go_wp2_with fail
      refine HC.out.mono ?_
      rintro e w5 ⟨v5,rfl,hp5,hb5⟩
      obtain ⟨t5,u5,hv5⟩:=hp5.iface
      subst hv5
      have hr5:=row_below HROW.out hb5
      have hfz:=hr5.frozenAt i
      have hce:w5.cell? ⟨g3,i,none⟩=some (.iface zt zu):=(hb5.cell (p:=⟨g3,i,none⟩) (by show g3 < _;omega)).trans ke
      have HST:=hide (hr5.stored i (.iface t5 u5)).1
      have HB6:=hide ((HBR.out.trans (hb5.mono HBR.out.size)).setCell (p:=⟨g3,i,none⟩) (by show _≤g3;omega) (.iface t5 u5))
      have HX6:=hide ((heap_setOther (w:=w5) (i:=i) (v:= .iface t5 u5) (hn1.out g3 rfl).symm).trans ((hb5.block w1.heap.size (by omega)).trans HXR.out))
      have hz5:=hb5.size
      have hBI:∀ q,((B q∨(w.heap.size≤q∧q < wr.heap.size))∧(Value.slice (some ⟨g3,0,none⟩) ks.length c3).ownBlock≠some q)→(B q∨(w.heap.size≤q∧q < w5.heap.size))∧(Value.slice (some ⟨g3,0,none⟩) ks.length c3).ownBlock≠some q:=fun q e=>⟨e.1.elim .inl (fun e => .inr ⟨e.1,by omega⟩),e.2⟩
      have hq1:Fd.Pt.ptL (fun q=>(B q∨(w.heap.size≤q∧q < w5.heap.size))∧(Value.slice (some ⟨g3,0,none⟩) ks.length c3).ownBlock≠some q) w5 (Fd.part t c ks i) zs:=Fd.ptL_go hBI (fun q e=>hb5.block q (e.1.elim (fun e=>Nat.lt_of_lt_of_le (HB.out q e) HBR.out.size) (fun e=>e.2))) HPL.out
      have hq2:Fd.Pt (fun q=>(B q∨(w.heap.size≤q∧q < w5.heap.size))∧(Value.slice (some ⟨g3,0,none⟩) ks.length c3).ownBlock≠some q) w5 (Fd.fill t c ks[i]) (.iface t5 u5):=Fd.Pt.go hp5 (fun q e=>by
       rcases e with e | ⟨e1,e2⟩
       ·exact hBI q e
       ·have h1:=HBR.out.size
        refine ⟨.inr ⟨by omega,e2⟩,fun e3=>?_⟩
        have e4:g3=q:=Option.some.inj e3
        omega) (fun _ _=>rfl)
      have HQ:=hide (Fd.ptL_set (g:=g3) (i:=i) (z:= .iface t5 u5) (fun q e e2=>e.2 (by rw [e2];rfl)) (Fd.ptL_put hq2 i hq1))
      rw [Fd.part_succ t c ks i hik] at HQ
      clear hq1 hq2 hp5 hb5 hBI hr5 HC
      go_wp2
      go_roundw
      case rel=>exact ⟨i+1,by omega,by go_num,HB6.out,by rw [World.size_setCell];omega,HX6.out,_,HST.out,by rw [World.size_setCell];exact HQ.out⟩
      case measure=>simp [intOf];omega
     ·obtain rfl:i=on:=by omega
      have hlti:¬ ((i:Int) < (i:Int)):=by omega
      obtain ⟨b0,b1,b2,b3,b4⟩:=ndBox_cells HXR.out
      have HN:=hide (fun w=>newPart_any k o m ks.length tx p3 ks.length c3 w)
      go_wp2_with fail
      refine (HN.out _).mono ?_
      rintro e w6 ⟨rfl,hb6⟩
      have HB6:=hide (HBR.out.trans (hb6.mono HBR.out.size))
      have hz6:=hb6.size
      have HR6:=hide (row_below HROW.out hb6)
      have HP6:=hide (Fd.ptL_go (B':=fun q=>B q∨(w.heap.size≤q∧q < w6.heap.size)) (fun q e=>e.1.elim .inl (fun e => .inr ⟨e.1,by omega⟩)) (fun q e=>hb6.block q (e.1.elim (fun e=>Nat.lt_of_lt_of_le (HB.out q e) HBR.out.size) (fun e=>e.2))) HPL.out)
      have HPN:=hide (Fd.part_len t c ks i hop)
      unfold Ip.pv
      clear hb6
      go_wp2
      go_ret
      refine ⟨_,rfl,?_,HB6.out⟩
      rw [HFE.out]
      refine (Fd.pt_mk _ _ _ _ _ _ _).2 ⟨.slice p3 ks.length c3,zs,by rw [HPN.out];rfl,by rw [HPN.out];exact row_ownF HR6.out (fun _ _=>Nat.zero_le _) (fun _ _=>rfl),fun q e => .inr ⟨by have:=HB4.out.size;have:=(HOW.out q e).1;omega,by have:=(HOW.out q e).2;omega⟩,HP6.out⟩
def Tr.vgoN (ns:List Tr.Nd):List (Tr.Nd × List Nat)→Bool
 | []=>true
 | (d,k) :: r=>Tr.plain d && Tr.kidsOk ns d.kind k && Tr.vgoN ns r
def Tr.hrun:List (List Nat)→List Nat→List Nat
 | [],hs=>hs
 | k :: r,hs=>Tr.hrun r (hs++[Tr.hmax hs k 0])
theorem Tr.hrun_pre (ks:List (List Nat)) (hs:List Nat):∃ t,Tr.hrun ks hs=hs++t∧t.length=ks.length:=by
 induction ks generalizing hs with
 | nil=>exact ⟨[],by simp [Tr.hrun]⟩
 | cons k r ih =>
  obtain ⟨t,h1,h2⟩:=ih (hs++[Tr.hmax hs k 0])
  exact ⟨Tr.hmax hs k 0 :: t,by rw [Tr.hrun,h1];simp,by simp [h2]⟩
theorem Tr.vgo_eq (ns:List Tr.Nd) (ds:List Tr.Nd) (ks:List (List Nat)) (hs:List Nat) (h:ds.length=ks.length) (h50:∀ x∈hs,x≤50) :
  (Tr.vgo ns (ds.zip ks) hs=true)↔(Tr.vgoN ns (ds.zip ks)=true∧∀ x∈Tr.hrun ks hs,x≤50):=by
 induction ds generalizing ks hs with
 | nil =>
  cases ks with
  | nil=>simp [Tr.vgo,Tr.vgoN,Tr.hrun];exact h50
  | cons k r=>simp at h
 | cons d r ih =>
  cases ks with
  | nil=>simp at h
  | cons k t =>
   simp only [List.zip_cons_cons,Tr.vgo,Tr.vgoN,Tr.hrun,Bool.and_eq_true]
   by_cases hc:50 < Tr.hmax hs k 0
   ·have e:(!decide (50 < Tr.hmax hs k 0))=false:=by simp [hc]
    rw [e]
    simp only [Bool.false_eq_true,false_and,false_iff]
    rintro ⟨_,q⟩
    obtain ⟨u,h1,_⟩:=Tr.hrun_pre t (hs++[Tr.hmax hs k 0])
    have:=q (Tr.hmax hs k 0) (by rw [h1];simp)
    omega
   ·have e:(!decide (50 < Tr.hmax hs k 0))=true:=by simp;omega
    rw [e,ih t (hs++[Tr.hmax hs k 0]) (by simpa using h) (fun x hx=>by
     rcases List.mem_append.1 hx with hx | hx
     ·exact h50 x hx
     ·have:x=Tr.hmax hs k 0:=by simpa using hx
      omega)]
    simp only [true_and,and_assoc]
theorem Tr.G_more (ns:List Tr.Nd) (hs:List Nat) (y x:Nat) (h:x < hs.length):Tr.G ns (hs++[y]) x=Tr.G ns hs x:=by
 unfold Tr.G;rw [List.getElem?_append_left h]
theorem Tr.irun_eq (ns:List Tr.Nd):∀ (m i:Nat) (op hs:List Nat),m=ns.length - i→i≤ns.length→hs.length=i→(∀ x∈op,x < i) →
  Tr.irun (ns.drop i) (op.map (Tr.G ns hs))=match (Tr.krun (ns.drop i) i op).2 with
   | none=>none
   | some fin=>if Tr.vgoN ns ((ns.drop i).zip (Tr.krun (ns.drop i) i op).1)=true then some (fin.map (Tr.G ns (Tr.hrun (Tr.krun (ns.drop i) i op).1 hs))) else none:=by
 intro m
 induction m with
 | zero =>
  intro i op hs hm hi hl hop
  have e:ns.drop i=[]:=List.drop_of_length_le (by omega)
  rw [e];rfl
 | succ m ih =>
  intro i op hs hm hi hl hop
  have hlt:i < ns.length:=by omega
  rw [List.drop_eq_getElem_cons hlt]
  by_cases hk:ns[i].kids < 0∨(op.length:Int) < ns[i].kids
  ·rw [Tr.irun,if_pos (by rw [List.length_map];exact hk),Tr.krun,if_pos hk]
  ·obtain ⟨k,hk1⟩:∃ k:Nat,ns[i].kids=k:=⟨ns[i].kids.toNat,by omega⟩
   rw [Tr.irun,if_neg (by rw [List.length_map];exact hk),Tr.krun,if_neg hk]
   have hsub:(op.map (Tr.G ns hs)).length - ns[i].kids.toNat=op.length - ns[i].kids.toNat:=by rw [List.length_map]
   rw [hsub]
   generalize hq:op.length - ns[i].kids.toNat=q
   have hql:(op.drop q).length=k:=by simp;omega
   have hin:∀ x∈op.drop q,x < ns.length:=fun x hx=>Nat.lt_trans (hop x (List.mem_of_mem_drop hx)) hlt
   rw [← List.map_drop,← List.map_take]
   have hok:Tr.nodeOk ns[i] ((op.drop q).map (Tr.G ns hs))=(Tr.plain ns[i] && Tr.kidsOk ns ns[i].kind (op.drop q)):=by
    unfold Tr.nodeOk
    rw [Bool.and_assoc,hk1,← hql,Tr.ok_eq ns hs _ _ hin]
   rw [hok]
   have hmap:(op.take q).map (Tr.G ns hs)++[(⟨ns[i],Tr.over ((op.drop q).map (Tr.G ns hs)) 0⟩:Tr.Gr)]=(op.take q++[i]).map (Tr.G ns (hs++[Tr.hmax hs (op.drop q) 0])):=by
    rw [List.map_append]
    congr 1
    ·apply List.map_congr_left
     intro x hx
     rw [Tr.G_more _ _ _ _ (by rw [hl];exact hop x (List.mem_of_mem_take hx))]
    ·have h3:Tr.G ns (hs++[Tr.hmax hs (op.drop q) 0]) i=⟨ns[i],Tr.hmax hs (op.drop q) 0⟩:=by
      unfold Tr.G
      rw [List.getElem?_eq_getElem hlt,List.getElem?_append_right (by omega),hl,Nat.sub_self];rfl
     rw [Tr.over_G,List.map_cons,List.map_nil,h3]
   have hnext:=ih (i+1) (op.take q++[i]) (hs++[Tr.hmax hs (op.drop q) 0]) (by omega) (by omega) (by simp [hl]) (fun x hx=>by
    rcases List.mem_append.1 hx with hx | hx
    ·have:=hop x (List.mem_of_mem_take hx);omega
    ·have:x=i:=by simpa using hx
     omega)
   simp only [List.zip_cons_cons,Tr.vgoN,Tr.hrun]
   by_cases hc:(Tr.plain ns[i] && Tr.kidsOk ns ns[i].kind (op.drop q))=true
   ·rw [if_pos hc,hmap,hnext]
    simp only [hc,Bool.true_and]
   ·rw [if_neg hc]
    have hc2:(Tr.plain ns[i] && Tr.kidsOk ns ns[i].kind (op.drop q))=false:=by simpa using hc
    simp only [hc2,Bool.false_and,Bool.false_eq_true,if_false]
    cases (Tr.krun (ns.drop (i+1)) (i+1) (op.take q++[i])).2 <;> rfl
theorem Tr.hmax_ge (hs ls:List Nat) (h:Nat):h≤Tr.hmax hs ls h∧∀ x∈ls,hs[x]?.getD 0+1≤Tr.hmax hs ls h:=by
 induction ls generalizing h with
 | nil=>simp [Tr.hmax]
 | cons y r ih =>
  rw [Tr.hmax]
  have q:=ih (if h < hs[y]?.getD 0+1 then hs[y]?.getD 0+1 else h)
  have g1:h≤(if h < hs[y]?.getD 0+1 then hs[y]?.getD 0+1 else h)∧hs[y]?.getD 0+1≤(if h < hs[y]?.getD 0+1 then hs[y]?.getD 0+1 else h):=by split <;> omega
  refine ⟨by omega,fun x hx=>?_⟩
  rcases List.mem_cons.1 hx with rfl | hx
  ·omega
  ·exact q.2 x hx
theorem Tr.high_open (ds:List Tr.Nd):∀ (i:Nat) (op hs:List Nat),hs.length=i→(∀ x∈op,x < i)→(∀ y∈hs,∃ x∈op,y≤hs[x]?.getD 0) →
  ∀ fin,(Tr.krun ds i op).2=some fin→∀ y∈Tr.hrun (Tr.krun ds i op).1 hs,∃ x∈fin,y≤(Tr.hrun (Tr.krun ds i op).1 hs)[x]?.getD 0:=by
 induction ds with
 | nil =>
  intro i op hs _ _ h fin hf
  simp only [Tr.krun,Option.some.injEq] at hf
  subst hf
  exact h
 | cons d r ih =>
  intro i op hs hl hop h fin hf
  by_cases hk:d.kids < 0∨(op.length:Int) < d.kids
  ·rw [Tr.krun,if_pos hk] at hf;cases hf
  ·rw [Tr.krun,if_neg hk] at hf ⊢
   generalize hq:op.length - d.kids.toNat=q at *
   simp only [Tr.hrun]
   refine ih (i+1) (op.take q++[i]) (hs++[Tr.hmax hs (op.drop q) 0]) (by simp [hl]) ?_ ?_ fin hf
   ·intro x hx
    rcases List.mem_append.1 hx with hx | hx
    ·have:=hop x (List.mem_of_mem_take hx);omega
    ·have:x=i:=by simpa using hx
     omega
   ·intro y hy
    have hnew:(hs++[Tr.hmax hs (op.drop q) 0])[i]?.getD 0=Tr.hmax hs (op.drop q) 0:=by simp [← hl]
    rcases List.mem_append.1 hy with hy | hy
    ·obtain ⟨x,hx,hle⟩:=h y hy
     have hxl:x < hs.length:=by rw [hl];exact hop x hx
     rw [← List.take_append_drop q op] at hx
     rcases List.mem_append.1 hx with hx | hx
     ·exact ⟨x,by simp [hx],by rw [List.getElem?_append_left hxl];exact hle⟩
     ·have:=(Tr.hmax_ge hs (op.drop q) 0).2 x hx
      exact ⟨i,by simp,by rw [hnew];omega⟩
    ·have:y=Tr.hmax hs (op.drop q) 0:=by simpa using hy
     exact ⟨i,by simp,by rw [hnew];omega⟩
theorem Tr.krun_last (ds:List Tr.Nd):∀ (i:Nat) (op:List Nat),(ds=[]→op.getLast?=some (i - 1)∧1≤i)→∀ fin,(Tr.krun ds i op).2=some fin→fin.getLast?=some (i+ds.length - 1):=by
 induction ds with
 | nil =>
  intro i op h fin hf
  simp only [Tr.krun,Option.some.injEq] at hf
  subst hf
  simpa using (h rfl).1
 | cons d r ih =>
  intro i op h fin hf
  by_cases hk:d.kids < 0∨(op.length:Int) < d.kids
  ·rw [Tr.krun,if_pos hk] at hf;cases hf
  ·rw [Tr.krun,if_neg hk] at hf
   have:=ih (i+1) _ (fun _=>⟨by simp,by omega⟩) fin hf
   rw [this,List.length_cons]
   congr 1;omega
theorem Tr.ivalid_eq (ns:List Tr.Nd):Tr.ivalid ns=Tr.valid ns:=by
 have hI:=Tr.irun_eq ns ns.length 0 [] [] (by simp) (Nat.zero_le _) rfl (fun x h=>by cases h)
 rw [List.drop_zero,List.map_nil] at hI
 unfold Tr.ivalid Tr.valid
 by_cases h0:ns=[]
 ·subst h0;rfl
 have hpos:1≤ns.length:=by
  cases ns with
  | nil=>exact absurd rfl h0
  | cons x r=>simp
 have e1:Tr.inr ns.length 1 5000=decide (ns.length≤5000):=by unfold Tr.inr;rw [Bool.eq_iff_iff];simp;omega
 rw [e1,hI,Bool.and_assoc,Bool.and_assoc]
 congr 1
 have hkg:Tr.kidsGood ns=match (Tr.krun ns 0 []).2 with
  | none=>false
  | some op=>op.length == 1:=rfl
 have hkd:Tr.kids ns=(Tr.krun ns 0 []).1:=rfl
 have hlen:=Tr.krun_len ns 0 []
 have hho:=Tr.high_open ns 0 [] [] rfl (fun x h=>by cases h) (fun x h=>by cases h)
 have hla:=Tr.krun_last ns 0 [] (fun h=>absurd h h0)
 rw [hkg,hkd]
 generalize hkr:Tr.krun ns 0 []=kr at *
 obtain ⟨ks,fo⟩:=kr
 cases fo with
 | none=>simp [Tr.iend]
 | some fin =>
  have hkl:ks.length=ns.length:=hlen.2 (by simp)
  have hv:=Tr.vgo_eq ns ns ks [] hkl.symm (fun x h=>by cases h)
  have hlast:=hla fin rfl
  have hhigh:=hho fin rfl
  simp only at hv hhigh ⊢
  match fin,hlast with
  | [r],hlast =>
   have hr:r=ns.length - 1:=by simpa using hlast
   have hlk:Tr.lastKind ns=(Tr.G ns (Tr.hrun ks []) r).nd.kind:=by
    rw [Tr.G_kind,hr]
    unfold Tr.lastKind Tr.kindOf
    rw [List.getLast?_eq_getElem?]
    cases ns[ns.length - 1]? <;> rfl
   have hmem:(Tr.hrun ks [])[r]?.getD 0∈Tr.hrun ks []:=by
    obtain ⟨t,h1,h2⟩:=Tr.hrun_pre ks []
    have hl:r < (Tr.hrun ks []).length:=by rw [h1];simp;omega
    rw [List.getElem?_eq_getElem hl]
    exact List.getElem_mem hl
   have hall:(∀ x∈Tr.hrun ks [],x≤50)↔(Tr.G ns (Tr.hrun ks []) r).high≤50:=by
    constructor
    ·intro h;exact h _ hmem
    ·intro h x hx
     obtain ⟨y,hy,hle⟩:=hhigh x hx
     have:y=r:=by simpa using hy
     subst this
     exact Nat.le_trans hle h
   rw [hlk]
   by_cases hN:Tr.vgoN ns (ns.zip ks)=true
   ·rw [if_pos hN]
    simp only [List.map_cons,List.map_nil,Tr.iend]
    rw [Bool.eq_iff_iff]
    simp only [Bool.and_eq_true,decide_eq_true_iff,hv,hall,hN,true_and]
    simp
   ·rw [if_neg hN]
    have:Tr.vgo ns (ns.zip ks) []=false:=by
     rw [Bool.eq_false_iff]
     intro h
     exact hN (hv.1 h).1
    simp [Tr.iend,this]
  | [],hlast=>simp at hlast
  | a :: b :: t,_ =>
   have e2:((a :: b :: t).length == 1)=false:=by simp
   rw [e2]
   simp only [Bool.false_and,Bool.and_false]
   split <;> simp [Tr.iend]
end Go.Proofs.YthbojbbmpcmoaaaGreatDoor
