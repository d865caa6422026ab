/- Fpa, Fw3, Fw4, Fw5. -/
import Derived.Test.YthbojbbmpcmoaaaGreatDoorZ41
import Derived.Test.YthbojbbmpcmoaaaGreatDoorZ42
import Derived.Test.YthbojbbmpcmoaaaGreatDoorZ30
import Derived.Maps.AppendAt
import Derived.Deep.RegionHeld3
namespace Go.Proofs.YthbojbbmpcmoaaaGreatDoor
open Go.RowKit
theorem two_boxF (w:World) (t:Value):((w.alloc (.cells #[t] 28)).alloc (.cells #[.slice none 0 0] 28)).heap[w.heap.size]?=some (.cells #[t] 28)∧((w.alloc (.cells #[t] 28)).alloc (.cells #[.slice none 0 0] 28)).heap[w.heap.size+1]?=some (.cells #[.slice none 0 0] 28) :=
 ⟨((bA (.cells #[.slice none 0 0] 28)).block w.heap.size (by simp)).trans (heap_alloc_new' w _),by have:=heap_alloc_new' (w.alloc (.cells #[t] 28)) (.cells #[.slice none 0 0] 28);rw [World.size_alloc] at this;exact this⟩
theorem oneBox {W:World} {g:Nat} {v:Value} {t:TypeId} (h:W.heap[g]?=some (.cells #[v] t)):W.cell? ⟨g,0,none⟩=some v∧W.frozen? ⟨g,0,none⟩=false :=
 ⟨by rw [World.cell?,h];rfl,by rw [World.frozen?,h];simp⟩
set_option maxRecDepth 100000 in
set_option maxHeartbeats 4000000 in
theorem ifold_any (ns:List Tr.Nd) (tg tc:Nat) (w:World) (hn:ns.length≤1048576) (hx:∀ x∈ns,x.text.size≤1048576) (h64:∀ x∈ns,x.n < 9223372036854775808) (hG:GlobB w) (hGI:Vl.GI w) (ht:NodesAt w tg ns) :
  Calls Tryz.prog 7 #[.agg #[.slice (some ⟨tg,0,none⟩) ns.length tc]] w fun e w'=>FoldPost Fd.O ns w e w':=by
 have r2:Below w.heap.size w ((w.alloc (.cells #[.slice (some ⟨tg,0,none⟩) ns.length tc] 28)).alloc (.cells #[.slice none 0 0] 28)):=(bA _).alloc (by simp) _
 have HCK:=hide (icheck_any ns tg tc _ hn hx (hG.below r2) (ht.below r2))
 obtain ⟨x0,x1⟩:=two_boxF w (.slice (some ⟨tg,0,none⟩) ns.length tc)
 have HT:=hide ht
 have HGI:=hide hGI
 have H64:=hide h64
 have HFC:=hide (Tr.fits_codes (ns:=ns))
 have HX0:=hide x0
 have HX1:=hide x1
 clear ht hG hx x0 x1 h64 hGI
 go_enter Tryz.func7,Tryz.ntmps7
 go_wp2_with fail
 refine HCK.out.mono ?_
 rintro e w1 ⟨rfl,hb1⟩
 rw [World.size_alloc,World.size_alloc] at hb1
 have hB1:=r2.trans (hb1.mono (by omega))
 have HB1:=hide hB1
 have hz1:w.heap.size+1+1≤w1.heap.size:=by have:=hb1.size;simpa using this
 have HY0:=hide ((hb1.block w.heap.size (by omega)).trans HX0.out)
 have HY1:=hide ((hb1.block (w.heap.size+1) (by omega)).trans HX1.out)
 clear hb1 HCK HX0 HX1 r2
 cases hf:Tr.fitsOf ns
 ·have HR1:Hid (Fd.foldOf Fd.O ns=[]):=hide (by unfold Fd.foldOf;rw [hf];rfl)
  have hco:¬ ((Tr.checkOf ns).1=0∧(Tr.checkOf ns).2=0):=fun h=>by
   have:=HFC.out.2 (Prod.ext h.1 h.2)
   rw [hf] at this;cases this
  obtain ⟨y1,y2⟩:=oneBox HY1.out
  clear HFC hf hB1
  by_cases h0:(Tr.checkOf ns).1=0
  ·have h1:¬ ((Tr.checkOf ns).2:Int)=0:=fun h=>hco ⟨h0,by omega⟩
   clear hco
   rw [h0]
   go_wp2
   all_goals
    refine bodyPost_ret (v:= .agg #[.slice none 0 0]) (by simp [results,Tryz.results7,go_sem,y1]) rfl ⟨_,rfl,by rw [HR1.out];exact World.ownsRow_nil _ _ _ _,?_⟩
    exact HB1.out.setCell (p:=⟨w.heap.size+1,0,none⟩) (by simp) _
  ·clear hco
   go_wp2
   all_goals
    refine bodyPost_ret (v:= .agg #[.slice none 0 0]) (by simp [results,Tryz.results7,go_sem,y1]) rfl ⟨_,rfl,by rw [HR1.out];exact World.ownsRow_nil _ _ _ _,?_⟩
    exact HB1.out.setCell (p:=⟨w.heap.size+1,0,none⟩) (by simp) _
 ·have hco:=HFC.out.1 hf
  have h0:(Tr.checkOf ns).1=0:=by rw [hco]
  have h1:(Tr.checkOf ns).2=0:=by rw [hco]
  obtain ⟨hn1,hn5,hgood,_⟩:=Tr.valid_facts (Tr.fits_valid hf)
  obtain ⟨t1,t2,t3⟩:=Fd.fits_tree hf H64.out
  have HFI:=hide t1
  have HGO:=hide t2
  have HSZ:=hide t3
  have HGD:=hide hgood
  have HRE:Hid (Fd.foldOf Fd.O ns=Fd.give (Fd.fold Fd.O ns.length (Fd.tk ns (ns.length - 1)))):=hide (by unfold Fd.foldOf;rw [if_pos hf];rfl)
  clear HFC hco t1 t2 t3 hf hgood hB1
  rw [h0,h1]
  go_wp2_with fail
  refine (Vl.opTable_any w1).mono ?_
  rintro e w2 ⟨lt,rfl,hTab⟩
  have HTB:=hide hTab
  clear hTab
  go_wp2_with fail
  refine (Vl.unTable_any w2).mono ?_
  rintro e w3 ⟨ub,uc,rfl,hum,hub,huc,hb3⟩
  have hb12:=HTB.out.B
  have HB3:=hide (hb12.trans (hb3.mono hb12.size))
  have HTB3:=hide (HTB.out.below hb3)
  have HUM:=hide hum
  have HUB:=hide hub
  have HUC:=hide huc
  have hzz2:=HTB.out.z
  have hzz3:=hb3.size
  clear hb3 hb12 hum hub huc HTB
  have hb4:Below w3.heap.size w3 (w3.alloc (.cells #[.map (some w1.heap.size),.map (some w2.heap.size)] 53)):=bA _
  have HB4:=hide (HB3.out.trans (hb4.mono HB3.out.size))
  have HTF:Hid (Tb (w3.alloc (.cells #[.map (some w1.heap.size),.map (some w2.heap.size)] 53)) w3.heap.size):=hide ⟨by simp,(HGI.out.below HB1.out).below HB4.out,⟨w1,lt,by rw [World.cell?,heap_alloc_new'];rfl,HTB3.out.below hb4⟩,⟨w2.heap.size,ub,uc,by rw [World.cell?,heap_alloc_new'];rfl,Vl.map_below HUM.out hb4,(hb4.cell (p:=⟨ub,0,none⟩) (World.block_lt_of_cell? w3 ⟨ub,0,none⟩ HUB.out)).trans HUB.out,(hb4.cell (p:=⟨uc,0,none⟩) (World.block_lt_of_cell? w3 ⟨uc,0,none⟩ HUC.out)).trans HUC.out⟩⟩
  have HT4:=hide (HT.out.below (HB1.out.trans (HB4.out.mono HB1.out.size)))
  have k0:=(oneBox ((HB4.out.block w.heap.size (by omega)).trans HY0.out)).1
  clear hb4 HTB3 HUM HUB HUC HB3
  go_upto_region 4 with fail
  generalize hW4:w3.alloc (.cells #[.map (some w1.heap.size),.map (some w2.heap.size)] 53)=W4 at *
  clear hW4
  have HPO:=hide (partOf_any ns tg tc W4 hn5 hn1 HGD.out HT4.out)
  go_wp2_with fail
  refine HPO.out.mono ?_
  rintro e w5 ⟨v5,rfl,hp5,hb5⟩
  obtain ⟨t5,u5,hv5⟩:=hp5.iface
  subst hv5
  have HM:=hide (anew_all w3.heap.size ns.length (Fd.tk ns (ns.length - 1)) (Nat.le_of_eq HSZ.out) (by omega) HGO.out (.inr (.inr HFI.out)) (fun q=>W4.heap.size≤q∧q < w5.heap.size) (.iface t5 u5) w5 (fun q e=>e.2) (HTF.out.below hb5) hp5)
  have HB5:=hide (HB4.out.trans (hb5.mono HB4.out.size))
  clear hp5 hb5 HPO
  go_wp2_with (show wpList _ _ _ ({dst:=_,op:=Op.call {callee:=Callee.invoke _ _,args:=_,argTypes:=_},type:=_,pos:=_,after:=_,guard:=_} :: _) _ _;refine wpList_meth1 rfl (.tmp 14) (.tmp 15) _ rfl _ _ _ (by first | (simp [Act.eval];done) | simp [Act.eval,Act.put]) (by first | (simp [Act.eval];done) | simp [Act.eval,Act.put]) HM.out ?_;rintro z6 w6 ⟨hp6,hb6⟩;obtain ⟨t6,u6,hv6⟩:=hp6.iface;subst hv6)
  have hz5:=HB5.out.size
  have HB6:=hide (HB5.out.trans (hb6.mono HB5.out.size))
  have hz6:=HB6.out.size
  have hsf:=Fd.size_fold Fd.O ns.length (Fd.tk ns (ns.length - 1))
  have hsz:(Fd.tk ns (ns.length - 1)).size=ns.length:=HSZ.out
  have HGV:=hide (inodes_any w6.heap.size _ (Fd.fold Fd.O ns.length (Fd.tk ns (ns.length - 1))) (Nat.le_refl _) (.iface t6 u6) (.slice none 0 0) [] w6 (by rw [List.length_nil];omega) (Fd.Pt.go hp6 (fun q e=>⟨e.elim (fun e=>Nat.lt_of_lt_of_le e.2 hb6.size) (fun e=>e.2),fun e2=>by cases e2⟩) (fun _ _=>rfl)) (by simpa [Tr.cellsOf] using World.ownsRow_nil _ _ _ _) (Nat.le_refl _))
  rw [← HRE.out,List.nil_append] at HGV
  clear hp6 hb6 hsf hsz HM
  refine HGV.out.mono ?_
  rintro e w8 ⟨v8,rfl,hr8,hg8⟩
  obtain ⟨p8,c8,hv8⟩:=row_formF hr8
  subst hv8
  have hb8:Below w6.heap.size w6 w8:=hg8.below (B:=w6.heap.size) (fun q e=>by cases e) (Nat.le_refl _)
  have hB8:Below w1.heap.size w1 w8:=HB6.out.trans (hb8.mono HB6.out.size)
  have HB8:=hide (HB1.out.trans (hB8.mono HB1.out.size))
  obtain ⟨y1,y2⟩:=oneBox ((hB8.block (w.heap.size+1) (by omega)).trans HY1.out)
  have HR8:=hide hr8
  clear hr8 hg8 hb8 hB8
  go_wp2
  refine bodyPost_ret (v:= .agg #[.slice p8 (Fd.foldOf Fd.O ns).length c8]) (by simp [results,Tryz.results7,go_sem,y1]) rfl ⟨_,rfl,?_,?_⟩
  ·exact row_ownF HR8.out (fun q e=>by have:=(HR8.out.lt q e).1;omega) (fun q e=>heap_setOther (by have:=(HR8.out.lt q e).1;omega))
  ·exact HB8.out.setCell (p:=⟨w.heap.size+1,0,none⟩) (by show w.heap.size≤w.heap.size+1;omega) _
def SV (o:Vl.Out) (n:Nat) (v:Value) (w':World):Prop:=(Fd.raw o=none∧v = .slice none 0 0)∨∃ g c x,v = .slice (some ⟨g,0,none⟩) 1 c∧n≤g∧Fd.raw o=some x∧RC x∧AC w' g x
theorem SV.set {o:Vl.Out} {n n' b i:Nat} {v u:Value} {w':World} (h:SV o n v w') (hb:b < n) (hn:n'≤n):SV o n' v (w'.setCell ⟨b,i,none⟩ u):=by
 rcases h with h | ⟨g,c,x,h1,h2,h3,h4,h5⟩
 ·exact .inl h
 ·exact .inr ⟨g,c,x,h1,Nat.le_trans hn h2,h3,h4,h5.set (by omega)⟩
def SPost (o:Vl.Out) (w:World) (e:Ending) (w':World):Prop:=∃ p m c s,e = .returned (.tuple #[.agg #[.slice p m c],.string s])∧SV o w.heap.size (.slice p m c) w'∧Below w.heap.size w w'
theorem rc_cn {k n:Int} {s:ByteArray} (h:1≤k∧k≤4) (h1:k≠2→k≠3→n=0) (h2:k≠4→s=⟨#[]⟩):RC (Fd.cn k n s):=⟨h,rfl,rfl,h1,h2⟩
theorem sp_word {l:List UInt8} {s:ByteArray} {w w':World} (hb:Below w.heap.size w w'):SPost (.inl l) w (.returned (.tuple #[.agg #[.slice none 0 0],.string s])) w':=⟨none,0,0,s,rfl,.inl ⟨rfl,rfl⟩,hb⟩
theorem sp_bool {b:Bool} {g c:Nat} {s:ByteArray} {w w':World} (h:AC w' g (Fd.cn 2 (if b then 1 else 0) ⟨#[]⟩)) (hg:w.heap.size≤g) (hb:Below w.heap.size w w'):SPost (.inr (Vl.boolT b)) w (.returned (.tuple #[av g c,.string s])) w' :=
 ⟨_,_,_,s,rfl,.inr ⟨g,c,_,rfl,hg,rfl,rc_cn ⟨by show (1:Int)≤2;decide,by show (2:Int)≤4;decide⟩ (fun h=>absurd rfl h) (fun _=>rfl),h⟩,hb⟩
theorem sp_int {n:Int} {g c:Nat} {s:ByteArray} {w w':World} (h:AC w' g (Fd.cn 3 n ⟨#[]⟩)) (hg:w.heap.size≤g) (hb:Below w.heap.size w w'):SPost (.inr (Vl.intT n)) w (.returned (.tuple #[av g c,.string s])) w' :=
 ⟨_,_,_,s,rfl,.inr ⟨g,c,_,rfl,hg,rfl,rc_cn ⟨by show (1:Int)≤3;decide,by show (3:Int)≤4;decide⟩ (fun _ h=>absurd rfl h) (fun _=>rfl),h⟩,hb⟩
theorem sp_text {t:ByteArray} {g c:Nat} {s:ByteArray} {w w':World} (h:AC w' g (Fd.cn 4 0 t)) (hg:w.heap.size≤g) (hb:Below w.heap.size w w'):SPost (.inr (.mk 4 0 t [])) w (.returned (.tuple #[av g c,.string s])) w' :=
 ⟨_,_,_,s,rfl,.inr ⟨g,c,_,rfl,hg,rfl,rc_cn ⟨by show (1:Int)≤4;decide,by show (4:Int)≤4;decide⟩ (fun _ _=>rfl) (fun h=>absurd rfl h),h⟩,hb⟩
theorem SPost.vr {o:Vl.Out} {w:World} {e:Ending} {w':World} (h:SPost o w e w'):∃ p m c s r,e = .returned (.tuple #[.agg #[.slice p m c],.string s])∧VR w' (.agg #[.slice p m c]) r∧Fd.okC r=Fd.okC (Fd.raw o)∧Below w.heap.size w w':=by
 obtain ⟨p,m,c,s,h1,h2,h3⟩:=h
 rcases h2 with ⟨h4,h5⟩ | ⟨g,c',x,h4,_,h6,h7,h8⟩
 ·cases h5
  exact ⟨_,_,_,s,none,h1,⟨none,0,0,rfl,by decide⟩,by rw [h4],h3⟩
 ·cases h4
  exact ⟨_,_,_,s,some x,h1,⟨h8.vat,h7⟩,by rw [h6],h3⟩
structure UB (w:World) (va:Value) (W:World):Prop where
 B:Below w.heap.size w W
 a:W.cell? ⟨w.heap.size,0,none⟩=some va
 r:W.cell? ⟨w.heap.size+1,0,none⟩=some (.slice none 0 0)
 f:W.frozen? ⟨w.heap.size+1,0,none⟩=false
 z:w.heap.size+1 < W.heap.size
theorem UB.start (w:World) (va:Value):UB w va ((w.alloc (.cells #[va] 71)).alloc (.cells #[.slice none 0 0] 71)):=by
 have c1:=Vl.cell_new w va 71
 have c3:=Vl.cell_new (w.alloc (.cells #[va] 71)) (.slice none 0 0) 71
 simp only [World.size_alloc] at c3
 refine ⟨(bA _).alloc (by simp) _,?_,c3.1,c3.2,by simp⟩
 exact ((bA (.cells #[.slice none 0 0] 71)).cell (p:=⟨w.heap.size,0,none⟩) (by simp)).trans c1.1
theorem UB.below {w W W':World} {va:Value} (h:UB w va W) (hb:Below W.heap.size W W'):UB w va W':=by
 have hz:=h.z
 have e:∀ b,b≤w.heap.size+1→W'.cell? ⟨b,0,none⟩=W.cell? ⟨b,0,none⟩:=fun b hb'=>hb.cell (p:=⟨b,0,none⟩) (by show b < _;omega)
 exact ⟨h.B.trans (hb.mono h.B.size),(e _ (by omega)).trans h.a,(e _ (by omega)).trans h.r,(hb.frozen (p:=⟨w.heap.size+1,0,none⟩) (by show w.heap.size+1 < _;omega)).trans h.f,Nat.lt_of_lt_of_le hz hb.size⟩
theorem UB.set {w W:World} {va:Value} (h:UB w va W) (v:Value):Below w.heap.size w (W.setCell ⟨w.heap.size+1,0,none⟩ v):=h.B.setCell (p:=⟨w.heap.size+1,0,none⟩) (by show w.heap.size≤w.heap.size+1;omega) _
theorem bool5A (b:Bool) (w:World):Calls Tryz.prog 78 #[.bool b] w fun e w'=>∃ g,e = .returned (av g 1)∧w.heap.size≤g∧AC w' g (Fd.cn 2 (if b then 1 else 0) ⟨#[]⟩)∧Below w.heap.size w w' :=
 (Vl.bool5_any b w).mono fun _ _ ⟨g,h1,h2,h3,h4⟩=>⟨g,h2,h1,ac_of h3,h4⟩
theorem int5A (n:Int) (w:World):Calls Tryz.prog 79 #[.int .i64 n] w fun e w'=>∃ g,e = .returned (av g 1)∧w.heap.size≤g∧AC w' g (Fd.cn 3 n ⟨#[]⟩)∧Below w.heap.size w w' :=
 (Vl.int5_any n w).mono fun _ _ ⟨g,h1,h2,h3,h4⟩=>⟨g,h2,h1,ac_of h3,h4⟩
theorem text5A (s:ByteArray) (w:World):Calls Tryz.prog 80 #[.string s] w fun e w'=>∃ g,e = .returned (av g 1)∧w.heap.size≤g∧AC w' g (Fd.cn 4 0 s)∧Below w.heap.size w w' :=
 (Vl.text5_any s w).mono fun _ _ ⟨g,h1,h2,h3,h4⟩=>⟨g,h2,h1,ac_of h3,h4⟩
set_option maxRecDepth 100000 in
set_option maxHeartbeats 2000000 in
theorem specUn_any (op:Int) (hop:op=1∨op=2) (x:Tr.Nd) (hx:Fd.CN x) (g c:Nat) (w:World) (h:AC w g x):Calls Tryz.prog 30 #[.int .i64 op,av g c] w (SPost (Vl.unOut op (Fd.tn x)) w):=by
 have HV:=hide (fun (w':World) (hb:Below w.heap.size w w')=>valid1 x (.inl hx) g c w' (h.below hb))
 have HK:=hide (fun (w':World) (hb:Below w.heap.size w w')=>kind1 x g c w' (h.below hb))
 have HL:=hide (fun (w':World) (hb:Below w.heap.size w w')=>last1 x g c w' (h.below hb))
 have HF:=fun w=>fldA1 x.kind x.n 0 x.text w
 have hn0:=hx.n0
 have hn1:=hx.n1
 have hbit:=hx.bit
 have hc:=hx.c
 have o0:=UB.start w (.slice (some ⟨g,0,none⟩) 1 c)
 have O0:=hide o0
 have a0:=o0.a
 have hcase:(op=1∧x.kind=2∧x.n=0)∨(op=1∧x.kind=2∧x.n=1)∨(op=1∧x.kind≠2)∨(op=2∧x.kind=3)∨(op=2∧x.kind≠3):=by
  rcases hop with e | e
  ·by_cases h2:x.kind=2
   ·rcases hbit h2 with h3 | h3
    ·exact .inl ⟨e,h2,h3⟩
    ·exact .inr (.inl ⟨e,h2,h3⟩)
   ·exact .inr (.inr (.inl ⟨e,h2⟩))
  ·by_cases h2:x.kind=3
   ·exact .inr (.inr (.inr (.inl ⟨e,h2⟩)))
   ·exact .inr (.inr (.inr (.inr ⟨e,h2⟩)))
 have hun:Vl.unOut op (Fd.tn x)=if op=1 then (if x.kind=2 then .inr (Vl.boolT (!(x.n == 1))) else .inl Vl.tyW) else if x.kind=3 then Vl.numOut (Vl.fit64 (0 - x.n)) Vl.rgW else .inl Vl.tyW:=rfl
 rw [hun]
 obtain ⟨k,o,n,s,d⟩:=x
 simp only at hcase hn0 hn1 hbit
 clear h o0 hx hop hun hc
 rcases hcase with ⟨rfl,rfl,rfl⟩ | ⟨rfl,rfl,rfl⟩ | ⟨rfl,hk⟩ | ⟨rfl,rfl⟩ | ⟨rfl,hk⟩
 ·show Calls _ _ _ _ (SPost (.inr (Vl.boolT true)) w)
  go_enter Tryz.func30,Tryz.ntmps30
  go_wp2_with fail
  refine (HV.out _ O0.out.B).mono ?_
  rintro e w1 ⟨rfl,hb1⟩
  have O1:=hide (O0.out.below hb1)
  have a1:=O1.out.a
  clear hb1 a0
  go_wp2_with fail
  refine (HK.out _ O1.out.B).mono ?_
  rintro e w2 ⟨rfl,hb2⟩
  have O2:=hide (O1.out.below hb2)
  have a2:=O2.out.a
  clear hb2 a1
  go_wp2_with fail
  refine (HL.out _ O2.out.B).mono ?_
  rintro e w3 ⟨rfl,hb3⟩
  have O3:=hide (O2.out.below hb3)
  clear hb3 a2
  go_wp2_with fail
  refine (bool5A true _).mono ?_
  rintro e w4 ⟨ga,rfl,hga,hac,hb4⟩
  have O4:=hide (O3.out.below hb4)
  have r4:=O4.out.r
  have f4:=O4.out.f
  have HAC:=hide hac
  have hz3:=O3.out.z
  clear hb4 hac
  go_wp2
  refine bodyPost_ret (v:= .tuple #[av ga 1,.string ⟨#[]⟩]) (by simp [results,Tryz.results30,go_sem,r4]) rfl ?_
  exact sp_bool (HAC.out.set (by omega)) (by have:=O3.out.B.size;omega) (O4.out.set _)
 ·show Calls _ _ _ _ (SPost (.inr (Vl.boolT false)) w)
  go_enter Tryz.func30,Tryz.ntmps30
  go_wp2_with fail
  refine (HV.out _ O0.out.B).mono ?_
  rintro e w1 ⟨rfl,hb1⟩
  have O1:=hide (O0.out.below hb1)
  have a1:=O1.out.a
  clear hb1 a0
  go_wp2_with fail
  refine (HK.out _ O1.out.B).mono ?_
  rintro e w2 ⟨rfl,hb2⟩
  have O2:=hide (O1.out.below hb2)
  have a2:=O2.out.a
  clear hb2 a1
  go_wp2_with fail
  refine (HL.out _ O2.out.B).mono ?_
  rintro e w3 ⟨rfl,hb3⟩
  have O3:=hide (O2.out.below hb3)
  clear hb3 a2
  go_wp2_with fail
  refine (bool5A false _).mono ?_
  rintro e w4 ⟨ga,rfl,hga,hac,hb4⟩
  have O4:=hide (O3.out.below hb4)
  have r4:=O4.out.r
  have f4:=O4.out.f
  have HAC:=hide hac
  have hz3:=O3.out.z
  clear hb4 hac
  go_wp2
  refine bodyPost_ret (v:= .tuple #[av ga 1,.string ⟨#[]⟩]) (by simp [results,Tryz.results30,go_sem,r4]) rfl ?_
  exact sp_bool (HAC.out.set (by omega)) (by have:=O3.out.B.size;omega) (O4.out.set _)
 ·rw [if_pos rfl,if_neg hk]
  have tk:(k == 2)=false:=by simpa using hk
  go_enter Tryz.func30,Tryz.ntmps30
  go_wp2_with fail
  refine (HV.out _ O0.out.B).mono ?_
  rintro e w1 ⟨rfl,hb1⟩
  have O1:=hide (O0.out.below hb1)
  have a1:=O1.out.a
  clear hb1 a0
  go_wp2_with fail
  refine (HK.out _ O1.out.B).mono ?_
  rintro e w2 ⟨rfl,hb2⟩
  have O2:=hide (O1.out.below hb2)
  have a2:=O2.out.a
  clear hb2 a1
  go_wp2_with fail
  refine (HV.out _ O2.out.B).mono ?_
  rintro e w3 ⟨rfl,hb3⟩
  have O3:=hide (O2.out.below hb3)
  clear hb3 a2
  go_wp2_with fail
  refine (noW _ _).mono ?_
  rintro e w4 ⟨rfl,hb4⟩
  have O4:=hide (O3.out.below hb4)
  have r4:=O4.out.r
  have f4:=O4.out.f
  clear hb4
  go_wp2
  refine bodyPost_ret (v:= .tuple #[.agg #[.slice none 0 0],.string ⟨#[116,121,112,101]⟩]) (by simp [results,Tryz.results30,go_sem,r4]) rfl ?_
  exact sp_word (O4.out.set _)
 ·rw [if_neg (by decide),if_pos rfl]
  have hfit:Vl.numOut (Vl.fit64 (0 - n)) Vl.rgW = .inr (Vl.intT (-n)):=by
   unfold Vl.fit64
   rw [if_pos (by omega),Int.zero_sub]
   rfl
  rw [hfit]
  have tm:(n == -9223372036854775808)=false:=by simpa using (by omega:n≠ -9223372036854775808)
  have ew:IntKind.i64.wrap (-n) = -n:=by rw [IntKind.wrap_i64];omega
  go_enter Tryz.func30,Tryz.ntmps30
  go_wp2_with fail
  refine (HV.out _ O0.out.B).mono ?_
  rintro e w1 ⟨rfl,hb1⟩
  have O1:=hide (O0.out.below hb1)
  have a1:=O1.out.a
  clear hb1 a0
  go_wp2_with fail
  refine (HV.out _ O1.out.B).mono ?_
  rintro e w2 ⟨rfl,hb2⟩
  have O2:=hide (O1.out.below hb2)
  have a2:=O2.out.a
  clear hb2 a1
  go_wp2_with fail
  refine (HK.out _ O2.out.B).mono ?_
  rintro e w3 ⟨rfl,hb3⟩
  have O3:=hide (O2.out.below hb3)
  have a3:=O3.out.a
  clear hb3 a2
  go_wp2_with fail
  refine (HL.out _ O3.out.B).mono ?_
  rintro e w4 ⟨rfl,hb4⟩
  have O4:=hide (O3.out.below hb4)
  have a4:=O4.out.a
  clear hb4 a3
  go_wp2_with fail
  refine (HL.out _ O4.out.B).mono ?_
  rintro e w5 ⟨rfl,hb5⟩
  have O5:=hide (O4.out.below hb5)
  clear hb5 a4
  go_wp2_with fail
  refine (int5A _ _).mono ?_
  rintro e w6 ⟨ga,rfl,hga,hac,hb6⟩
  have O6:=hide (O5.out.below hb6)
  have r6:=O6.out.r
  have f6:=O6.out.f
  have HAC:=hide hac
  have hz5:=O5.out.z
  clear hb6 hac
  go_wp2
  refine bodyPost_ret (v:= .tuple #[av ga 1,.string ⟨#[]⟩]) (by simp [results,Tryz.results30,go_sem,r6]) rfl ?_
  exact sp_int (HAC.out.set (by omega)) (by have:=O5.out.B.size;omega) (O6.out.set _)
 ·rw [if_neg (by decide),if_neg hk]
  have tk:(k == 3)=false:=by simpa using hk
  go_enter Tryz.func30,Tryz.ntmps30
  go_wp2_with fail
  refine (HV.out _ O0.out.B).mono ?_
  rintro e w1 ⟨rfl,hb1⟩
  have O1:=hide (O0.out.below hb1)
  have a1:=O1.out.a
  clear hb1 a0
  go_wp2_with fail
  refine (HV.out _ O1.out.B).mono ?_
  rintro e w2 ⟨rfl,hb2⟩
  have O2:=hide (O1.out.below hb2)
  have a2:=O2.out.a
  clear hb2 a1
  go_wp2_with fail
  refine (HK.out _ O2.out.B).mono ?_
  rintro e w3 ⟨rfl,hb3⟩
  have O3:=hide (O2.out.below hb3)
  clear hb3 a2
  go_wp2_with fail
  refine (noW _ _).mono ?_
  rintro e w4 ⟨rfl,hb4⟩
  have O4:=hide (O3.out.below hb4)
  have r4:=O4.out.r
  have f4:=O4.out.f
  clear hb4
  go_wp2
  refine bodyPost_ret (v:= .tuple #[.agg #[.slice none 0 0],.string ⟨#[116,121,112,101]⟩]) (by simp [results,Tryz.results30,go_sem,r4]) rfl ?_
  exact sp_word (O4.out.set _)
theorem infoAtF:(Tryz.prog.info? 140).map (fun i=>(i.zero,i.size,i.bytes))=some (some (.agg #[.int .i64 0,.int .i64 0,.string ⟨#[]⟩,.int .i64 0]),4,40):=by kernel_rfl
set_option maxRecDepth 100000 in
set_option maxHeartbeats 2000000 in
theorem valid1No (t:ByteArray) (ht:1000 < t.size) (g c:Nat) (w:World) (h:AC w g (Fd.cn 4 0 t)):Calls Tryz.prog 81 #[av g c] w fun e w'=>e = .returned (.bool false)∧Below w.heap.size w w':=by
 have key:∀ w,AC w g (Fd.cn 4 0 t)→Calls Tryz.prog 132 #[av g c,.int .i64 0] w fun e w'=>e = .returned (.bool false)∧Below w.heap.size w w':=by
  intro w h
  have hq:Below w.heap.size w (w.alloc (.cells #[.slice (some ⟨g,0,none⟩) 1 c] 71)):=bA _
  have HQ:=hide hq
  have HKD:=hide (fun (w':World) (hb:Below w.heap.size w w')=>kids1 _ g c w' (h.below hb))
  have HLS:=hide (fun (w':World) (hb:Below w.heap.size w w')=>last1 _ g c w' (h.below hb))
  unfold agA Fd.cn at HLS
  have K0:Hid ((w.alloc (.cells #[.slice (some ⟨g,0,none⟩) 1 c] 71)).cell? ⟨w.heap.size,0,none⟩=some (.slice (some ⟨g,0,none⟩) 1 c)∧w.heap.size < (w.alloc (.cells #[.slice (some ⟨g,0,none⟩) 1 c] 71)).heap.size):=hide ⟨by simp,by simp⟩
  have hs:¬ ((t.size:Int)≤1000):=by omega
  clear h hq
  go_enter Tryz.func132,Tryz.ntmps132
  go_wp2_with fail
  refine (HKD.out _ HQ.out).mono ?_
  rintro e w1 ⟨q,rfl,hb1⟩
  have HB1:=hide (HQ.out.trans (hb1.mono HQ.out.size))
  have k1:=(hb1.cell (p:=⟨w.heap.size,0,none⟩) K0.out.2).trans K0.out.1
  clear hb1
  go_wp2_with fail
  refine (HLS.out _ HB1.out).mono ?_
  rintro e w2 ⟨rfl,hb2⟩
  have HB2:=hide (HB1.out.trans (hb2.mono HB1.out.size))
  clear hb2 k1
  go_wp2
  go_ret
  exact ⟨by first | rfl | exact Vl.ret_bool (decide_eq_false (by omega)),HB2.out.alloc HB2.out.size _⟩
 have hq:Below w.heap.size w (w.alloc (.cells #[.slice (some ⟨g,0,none⟩) 1 c] 71)):=bA _
 have HO:=hide (key _ (h.below hq))
 clear h key
 go_enter Tryz.func81,Tryz.ntmps81
 go_wp2_with fail
 refine HO.out.mono ?_
 rintro e w1 ⟨rfl,hb1⟩
 have HB:=hide (hq.trans (hb1.mono hq.size))
 clear hb1
 go_wp2
 go_ret
 exact ⟨rfl,HB.out⟩
set_option maxRecDepth 100000 in
set_option maxHeartbeats 2000000 in
theorem right1 (t:ByteArray) (g c:Nat) (w:World) (h:AC w g (Fd.cn 4 0 t)):Calls Tryz.prog 137 #[av g c] w (SPost (if t.size≤1000 then .inr (.mk 4 0 t []) else .inl Vl.lgW) w):=by
 obtain ⟨iN,hN,hNz,hNs,hNb⟩:=info_parts infoAtF
 have HA:=hide h
 have o0:=UB.start w (.slice (some ⟨g,0,none⟩) 1 c)
 have O0:=hide o0
 have a0:=o0.a
 by_cases ht:t.size≤1000
 ·rw [if_pos ht]
  have HV:=hide (fun (w':World) (hb:Below w.heap.size w w')=>valid1 _ (.inr ⟨rfl,rfl,ht⟩) g c w' (h.below hb))
  clear h o0 ht
  go_enter Tryz.func137,Tryz.ntmps137
  go_wp2_with fail
  refine (HV.out _ O0.out.B).mono ?_
  rintro e w1 ⟨rfl,hb1⟩
  have O1:=hide (O0.out.below hb1)
  have hz1:=O1.out.z
  have O2:=hide (O1.out.below ((Below.refl w1.heap.size w1).alloc (Nat.le_refl _) (.cells #[] 140)))
  have a2:=O2.out.a
  have hown:=World.ownsRow_lit (base:=w1.heap.size) (e:=140) (size:=4) w1 #[] 0 (Nat.le_refl _) (Nat.zero_le _) rfl
  have hat:=HA.out.below O2.out.B
  have HCL:Hid (∀ j u,([.int .i64 4,.int .i64 0,.string t,.int .i64 0]:List Value)[j]?=some u→(w1.alloc (.cells #[] 140)).cell? ((⟨g,0,none⟩:Addr).add j)=some u):=hide (fun j u hu=>by
   rw [Vl.add_plain,Nat.zero_add]
   match j,hu with
   | 0,hu=>cases hu;exact hat.c0
   | 1,hu=>cases hu;exact hat.c1
   | 2,hu=>cases hu;exact hat.c2
   | 3,hu=>cases hu;exact hat.c3
   | j+4,hu=>cases hu)
  clear hb1 a0 hat
  go_wp2_with (at_builtin;refine wpList_append_own_at _ rfl _ _ 69 rfl w1.heap.size 140 iN _ 4 40 Tryz.underlying69 hN hNz hNs hNb rfl (by decide) (.slice (some ⟨w1.heap.size,0,none⟩) 0 0) 0 [] rfl hown ⟨g,0,none⟩ 1 c [.int .i64 4,.int .i64 0,.string t,.int .i64 0] rfl rfl HCL.out (by intro z hz;simp only [List.mem_cons,List.not_mem_nil,or_false] at hz;rcases hz with rfl | rfl | rfl | rfl <;> rfl) (by unfold maxLen;omega) (by omega) (by simp) ?_)
  intro v3 w3 ho3 hg3 hni hbl
  obtain ⟨g3,c3,rfl⟩:=row_posF ho3 (by omega)
  have hg3l:=ho3.lt g3 rfl
  have hB3:Below w1.heap.size (w1.alloc (.cells #[] 140)) w3:=(Below.refl _ _).grown hg3 (by simp) (fun q e=>by simp [Value.ownBlock] at e;omega)
  have r3:=(hB3.cell (p:=⟨w.heap.size+1,0,none⟩) (by show w.heap.size+1 < _;omega)).trans O2.out.r
  have f3:=(hB3.frozen (p:=⟨w.heap.size+1,0,none⟩) (by show w.heap.size+1 < _;omega)).trans O2.out.f
  have HB3:=hide (O2.out.B.trans (hB3.mono (Nat.le_trans (Nat.le_succ _) (Nat.le_of_lt (Nat.lt_of_le_of_lt (Nat.le_refl _) hz1)))))
  have HAC:Hid (AC w3 g3 (Fd.cn 4 0 t)):=hide ⟨hg3l.2,row_cellF (j:=0) ho3 rfl,row_cellF (j:=1) ho3 rfl,row_cellF (j:=2) ho3 rfl,row_cellF (j:=3) ho3 rfl⟩
  clear ho3 hg3 hni hbl hB3
  go_wp2
  refine bodyPost_ret (v:= .tuple #[av g3 c3,.string ⟨#[]⟩]) (by simp [results,Tryz.results137,go_sem,r3]) rfl ?_
  exact sp_text (HAC.out.set (by omega)) (by omega) (HB3.out.setCell (p:=⟨w.heap.size+1,0,none⟩) (by show w.heap.size≤w.heap.size+1;omega) _)
 ·rw [if_neg ht]
  have HV:=hide (fun (w':World) (hb:Below w.heap.size w w')=>valid1No t (by omega) g c w' (h.below hb))
  clear h o0 ht
  go_enter Tryz.func137,Tryz.ntmps137
  go_wp2_with fail
  refine (HV.out _ O0.out.B).mono ?_
  rintro e w1 ⟨rfl,hb1⟩
  have O1:=hide (O0.out.below hb1)
  have r1:=O1.out.r
  have f1:=O1.out.f
  clear hb1
  go_wp2
  refine bodyPost_ret (v:= .tuple #[.agg #[.slice none 0 0],.string ⟨#[108,97,114,103,101]⟩]) (by simp [results,Tryz.results137,go_sem,r1]) rfl ?_
  exact sp_word (O1.out.set _)
structure OB (w:World) (va vb:Value) (W:World):Prop where
 B:Below w.heap.size w W
 a:W.cell? ⟨w.heap.size,0,none⟩=some va
 b:W.cell? ⟨w.heap.size+1,0,none⟩=some vb
 r:W.cell? ⟨w.heap.size+1+1,0,none⟩=some (.slice none 0 0)
 f:W.frozen? ⟨w.heap.size+1+1,0,none⟩=false
 z:w.heap.size+1+1 < W.heap.size
theorem OB.start (w:World) (va vb:Value):OB w va vb (((w.alloc (.cells #[va] 71)).alloc (.cells #[vb] 71)).alloc (.cells #[.slice none 0 0] 71)):=by
 have n1:∀ (X:World) (o:Obj) (b:Nat),b < X.heap.size→(X.alloc o).cell? ⟨b,0,none⟩=X.cell? ⟨b,0,none⟩:=fun X o b hb=>((Below.refl X.heap.size X).alloc (Nat.le_refl _) o).cell (p:=⟨b,0,none⟩) hb
 have c1:=Vl.cell_new w va 71
 have c2:=Vl.cell_new (w.alloc (.cells #[va] 71)) vb 71
 have c3:=Vl.cell_new ((w.alloc (.cells #[va] 71)).alloc (.cells #[vb] 71)) (.slice none 0 0) 71
 simp only [World.size_alloc] at c2 c3
 refine ⟨((bA _).alloc (by simp) _).alloc (by simp;omega) _,?_,?_,c3.1,c3.2,by simp⟩
 ·rw [n1 _ _ _ (by simp;omega),n1 _ _ _ (by simp)];exact c1.1
 ·rw [n1 _ _ _ (by simp)];exact c2.1
theorem OB.below {w W W':World} {va vb:Value} (h:OB w va vb W) (hb:Below W.heap.size W W'):OB w va vb W':=by
 have hz:=h.z
 have e:∀ b,b≤w.heap.size+1+1→W'.cell? ⟨b,0,none⟩=W.cell? ⟨b,0,none⟩:=fun b hb'=>hb.cell (p:=⟨b,0,none⟩) (by show b < _;omega)
 exact ⟨h.B.trans (hb.mono h.B.size),(e _ (by omega)).trans h.a,(e _ (by omega)).trans h.b,(e _ (by omega)).trans h.r,(hb.frozen (p:=⟨w.heap.size+1+1,0,none⟩) (by show w.heap.size+1+1 < _;omega)).trans h.f,Nat.lt_of_lt_of_le hz hb.size⟩
theorem OB.drew {w W:World} {va vb:Value} (h:OB w va vb W):OB w va vb W.drew:=⟨h.B.drew,h.a,h.b,h.r,h.f,h.z⟩
theorem OB.set {w W:World} {va vb:Value} (h:OB w va vb W) (v:Value):Below w.heap.size w (W.setCell ⟨w.heap.size+1+1,0,none⟩ v):=h.B.setCell (p:=⟨w.heap.size+1+1,0,none⟩) (by show w.heap.size≤w.heap.size+1+1;omega) _
theorem contains_in (s x:ByteArray):Lib.contains s.data.toList x.data.toList=Vl.inText s x:=by
 have hs:s.data.toList.length=s.size:=rfl
 have hxs:x.data.toList.length=x.size:=rfl
 rcases Lib.index_spec s.data.toList x.data.toList with ⟨h,hn⟩ | ⟨i,h,hi,ho,_⟩
 ·have e:Lib.contains s.data.toList x.data.toList=false:=by unfold Lib.contains;rw [h];rfl
  rw [e]
  refine (Eq.symm ?_)
  unfold Vl.inText
  rw [List.any_eq_false]
  intro i hi
  rw [List.mem_range] at hi
  unfold Vl.stands
  by_cases hr:i+x.size≤s.size
  ·have:=hn i (by omega)
   rw [Lib.occ_of_piece s x i hr] at this
   rw [this]
   simp
  ·simp [hr]
 ·have e:Lib.contains s.data.toList x.data.toList=true:=by unfold Lib.contains;rw [h];simp
  have hr:=Lib.index_room s.data.toList x.data.toList (by rw [h];omega)
  rw [h,hs,hxs] at hr
  rw [e]
  refine (Vl.inText_yes (i:=i) ?_).symm
  unfold Vl.stands
  rw [Lib.occ_of_piece s x i (by omega)] at ho
  rw [ho,decide_eq_true (by omega)]
  rfl
theorem has_yes {t u:Vl.T} (h:t.kind=4) (h':u.kind=4):Vl.hasAll t u = .inr (Vl.boolT (Vl.inText t.text u.text)):=by
 have e:Vl.twoTT Vl.containsR t u = .inr (Vl.boolT (Vl.inText t.text u.text)):=by
  unfold Vl.twoTT Vl.containsR
  rw [if_pos ⟨h,h'⟩,contains_in]
 unfold Vl.hasAll
 simp only [List.map_cons,List.map_nil,e]
 rfl
theorem has_no {t u:Vl.T} (h:¬ (t.kind=4∧u.kind=4)):Vl.hasAll t u = .inl Vl.tyW:=by
 have e:Vl.twoTT Vl.containsR t u = .inl Vl.tyW:=if_neg h
 unfold Vl.hasAll
 simp only [List.map_cons,List.map_nil,e]
 rfl
theorem add_ii {t u:Vl.T} (h:t.kind=3) (h':u.kind=3):Vl.addAll t u=Vl.numOut (Vl.fit64 (t.num+u.num)) Vl.rgW:=by
 have e:Vl.twoII Vl.addR t u=Vl.numOut (Vl.fit64 (t.num+u.num)) Vl.rgW:=if_pos ⟨h,h'⟩
 unfold Vl.addAll
 simp only [List.map_cons,List.map_nil,e]
 cases Vl.fit64 (t.num+u.num) <;> rfl
theorem add_tt {t u:Vl.T} (h:t.kind=4) (h':u.kind=4):Vl.addAll t u=if (t.text++u.text).size≤1000 then .inr (.mk 4 0 (t.text++u.text) []) else .inl Vl.lgW:=by
 have e1:Vl.twoII Vl.addR t u = .inl Vl.tyW:=if_neg (fun e=>by omega)
 have e:Vl.twoTT Vl.catR t u=if (t.text++u.text).size≤1000 then .inr (.mk 4 0 (t.text++u.text) []) else .inl Vl.lgW:=if_pos ⟨h,h'⟩
 unfold Vl.addAll
 simp only [List.map_cons,List.map_nil,e,e1]
 split <;> rfl
theorem add_no {t u:Vl.T} (h:¬ (t.kind=3∧u.kind=3)) (h':¬ (t.kind=4∧u.kind=4)):Vl.addAll t u = .inl Vl.tyW:=by
 have e1:Vl.twoII Vl.addR t u = .inl Vl.tyW:=if_neg h
 have e:Vl.twoTT Vl.catR t u = .inl Vl.tyW:=if_neg h'
 unfold Vl.addAll
 simp only [List.map_cons,List.map_nil,e,e1]
 rfl
set_option maxRecDepth 100000 in
set_option maxHeartbeats 2000000 in
theorem has1 (x y:Tr.Nd) (hx:Fd.CN x) (hy:Fd.CN y) (g c g' c':Nat) (w:World) (h:AC w g x) (h':AC w g' y):Calls Tryz.prog 87 #[av g c,av g' c'] w (SPost (Vl.hasAll (Fd.tn x) (Fd.tn y)) w):=by
 have HK1:=hide (fun (w':World) (hb:Below w.heap.size w w')=>kind1 x g c w' (h.below hb))
 have HK2:=hide (fun (w':World) (hb:Below w.heap.size w w')=>kind1 y g' c' w' (h'.below hb))
 have HL1:=hide (fun (w':World) (hb:Below w.heap.size w w')=>last1 x g c w' (h.below hb))
 have HL2:=hide (fun (w':World) (hb:Below w.heap.size w w')=>last1 y g' c' w' (h'.below hb))
 have HD1:=hide (fun (w':World) (hb:Below w.heap.size w w')=>kids1 x g c w' (h.below hb))
 have HD2:=hide (fun (w':World) (hb:Below w.heap.size w w')=>kids1 y g' c' w' (h'.below hb))
 have O0:=hide (OB.start w (.slice (some ⟨g,0,none⟩) 1 c) (.slice (some ⟨g',0,none⟩) 1 c'))
 have a0:=O0.out.a
 have b0:=O0.out.b
 have hcx:=hx.c
 unfold Fd.isC at hcx
 have F1:=fun w=>fldA2 x.kind x.n 0 x.text w
 have F2:=fun w=>fldA2 y.kind y.n 0 y.text w
 have HIN:=hide (fun w=>Vl.in6_any x.text y.text w (by have:=hx.long;omega) (by have:=hy.long;omega))
 clear h h'
 by_cases h4:x.kind=4
 ·have t4:(x.kind == 4)=true:=by simpa using h4
  by_cases h5:y.kind=4
  ·have t5:(y.kind == 4)=true:=by simpa using h5
   have HOUT:=hide (has_yes (t:=Fd.tn x) (u:=Fd.tn y) h4 h5)
   clear h4 h5 hcx hx hy
   cases hI:Vl.inText x.text y.text
   ·go_enter Tryz.func87,Tryz.ntmps87
    go_wp2_with fail
    refine (HD1.out _ O0.out.B).mono ?_
    rintro e w1 ⟨q1,rfl,hb1⟩
    have O1:=hide (O0.out.below hb1)
    have a1:=O1.out.a
    have b1:=O1.out.b
    clear hb1 a0 b0
    go_wp2_with fail
    refine (HK1.out _ O1.out.B).mono ?_
    rintro e w2 ⟨rfl,hb2⟩
    have O2:=hide (O1.out.below hb2)
    have a2:=O2.out.a
    have b2:=O2.out.b
    clear hb2 a1 b1
    go_wp2_with fail
    refine (HK2.out _ O2.out.B).mono ?_
    rintro e w3 ⟨rfl,hb3⟩
    have O3:=hide (O2.out.below hb3)
    have a3:=O3.out.a
    have b3:=O3.out.b
    clear hb3 a2 b2
    go_wp2_with fail
    go_region_held3 (fun w'=>w'.cell? ⟨w.heap.size,0,none⟩=some (.slice (some ⟨g,0,none⟩) 1 c)∧w'.cell? ⟨w.heap.size+1,0,none⟩=some (.slice (some ⟨g',0,none⟩) 1 c')) (go_keep) (first
     | (refine Vl.step_call1 rfl 83 (.tmp 23) 71 rfl (av g c) (agA x) (by simp [Act.eval]) Tryz.f83 Tryz.func83 (by kernel_rfl) (by kernel_rfl) _ (HL1.out _ O3.out.drew.B) ?_;intro w6 hw6;have ow6:=O3.out.drew.below hw6;have aw6:=ow6.a;have bw6:=ow6.b)
     | (refine Vl.step_call1 rfl 83 (.tmp 26) 71 rfl (av g' c') (agA y) (by simp [Act.eval]) Tryz.f83 Tryz.func83 (by kernel_rfl) (by kernel_rfl) _ (HL2.out _ ow6.B) ?_;intro w7 hw7;have ow7:=ow6.below hw7;have aw7:=ow7.a;have bw7:=ow7.b)
     | (refine step_callF rfl 135 [.tmp 25,.tmp 28,.const (.int .i64 0)] _ rfl [.string x.text,.string y.text,.int .i64 0] (by simp [Act.eval]) Tryz.f135 Tryz.func135 (by kernel_rfl) (by kernel_rfl) (fun r w'=>∃ z:Int,r = .int .i64 z∧decide (0≤z)=Vl.inText x.text y.text∧w7=w') ((HIN.out w7).mono (fun _ _ ⟨⟨z,y1,y2⟩,y3⟩=>⟨_,y1,z,rfl,y2,y3.symm⟩)) ?_;rintro r w7' ⟨z,rfl,hdz,rfl⟩;have hz:¬ 0≤z:=by have hq:=hdz;rw [hI] at hq;exact of_decide_eq_false hq)
     | (refine step_callF rfl 78 [.tmp 30] _ rfl [.bool false] (by first | (simp [Act.eval];done) | (simp [Act.eval];omega)) Tryz.f78 Tryz.func78 (by kernel_rfl) (by kernel_rfl) (fun r w8=>∃ ga,r=av ga 1∧w7.heap.size≤ga∧AC w8 ga (Fd.cn 2 (if false then 1 else 0) ⟨#[]⟩)∧Below w7.heap.size w7 w8) ((bool5A false w7).mono (fun _ _ ⟨ga,y1,y2,y3,y4⟩=>⟨_,y1,ga,rfl,y2,y3,y4⟩)) ?_;rintro r w8 ⟨ga,rfl,hga,hac,hb8⟩;have o8:=ow7.below hb8;have a8:=o8.a;have b8:=o8.b;have r8:=o8.r;have f8:=o8.f;have s0:=(World.cell?_setCell_other w8 ⟨w.heap.size+1+1,0,none⟩ ⟨w.heap.size,0,none⟩ (.slice (some ⟨ga,0,none⟩) 1 1) (by simp)).trans a8;have s1:=(World.cell?_setCell_other w8 ⟨w.heap.size+1+1,0,none⟩ ⟨w.heap.size+1,0,none⟩ (.slice (some ⟨ga,0,none⟩) 1 1) (by simp)).trans b8))
    have hz7:=ow7.z
    have O8:=hide o8
    have HAC:=hide hac
    have hB7:=ow7.B.size
    clear s0 s1 a8 b8 ow6 ow7 hw6 hw7 hb8 aw6 bw6 aw7 bw7 hac o8
    go_wp2
    refine bodyPost_ret (v:= .tuple #[av ga 1,.string ⟨#[]⟩]) (by simp [results,Tryz.results87,go_sem,r8]) rfl ?_
    rw [HOUT.out]
    show SPost (.inr (Vl.boolT (Vl.inText x.text y.text))) _ _ _
    rw [hI]
    exact sp_bool (HAC.out.set (by omega)) (by omega) (O8.out.set _)
   ·go_enter Tryz.func87,Tryz.ntmps87
    go_wp2_with fail
    refine (HD1.out _ O0.out.B).mono ?_
    rintro e w1 ⟨q1,rfl,hb1⟩
    have O1:=hide (O0.out.below hb1)
    have a1:=O1.out.a
    have b1:=O1.out.b
    clear hb1 a0 b0
    go_wp2_with fail
    refine (HK1.out _ O1.out.B).mono ?_
    rintro e w2 ⟨rfl,hb2⟩
    have O2:=hide (O1.out.below hb2)
    have a2:=O2.out.a
    have b2:=O2.out.b
    clear hb2 a1 b1
    go_wp2_with fail
    refine (HK2.out _ O2.out.B).mono ?_
    rintro e w3 ⟨rfl,hb3⟩
    have O3:=hide (O2.out.below hb3)
    have a3:=O3.out.a
    have b3:=O3.out.b
    clear hb3 a2 b2
    go_wp2_with fail
    go_region_held3 (fun w'=>w'.cell? ⟨w.heap.size,0,none⟩=some (.slice (some ⟨g,0,none⟩) 1 c)∧w'.cell? ⟨w.heap.size+1,0,none⟩=some (.slice (some ⟨g',0,none⟩) 1 c')) (go_keep) (first
     | (refine Vl.step_call1 rfl 83 (.tmp 23) 71 rfl (av g c) (agA x) (by simp [Act.eval]) Tryz.f83 Tryz.func83 (by kernel_rfl) (by kernel_rfl) _ (HL1.out _ O3.out.drew.B) ?_;intro w6 hw6;have ow6:=O3.out.drew.below hw6;have aw6:=ow6.a;have bw6:=ow6.b)
     | (refine Vl.step_call1 rfl 83 (.tmp 26) 71 rfl (av g' c') (agA y) (by simp [Act.eval]) Tryz.f83 Tryz.func83 (by kernel_rfl) (by kernel_rfl) _ (HL2.out _ ow6.B) ?_;intro w7 hw7;have ow7:=ow6.below hw7;have aw7:=ow7.a;have bw7:=ow7.b)
     | (refine step_callF rfl 135 [.tmp 25,.tmp 28,.const (.int .i64 0)] _ rfl [.string x.text,.string y.text,.int .i64 0] (by simp [Act.eval]) Tryz.f135 Tryz.func135 (by kernel_rfl) (by kernel_rfl) (fun r w'=>∃ z:Int,r = .int .i64 z∧decide (0≤z)=Vl.inText x.text y.text∧w7=w') ((HIN.out w7).mono (fun _ _ ⟨⟨z,y1,y2⟩,y3⟩=>⟨_,y1,z,rfl,y2,y3.symm⟩)) ?_;rintro r w7' ⟨z,rfl,hdz,rfl⟩;have hz:0≤z:=by have hq:=hdz;rw [hI] at hq;exact of_decide_eq_true hq)
     | (refine step_callF rfl 78 [.tmp 30] _ rfl [.bool true] (by first | (simp [Act.eval];done) | (simp [Act.eval];omega)) Tryz.f78 Tryz.func78 (by kernel_rfl) (by kernel_rfl) (fun r w8=>∃ ga,r=av ga 1∧w7.heap.size≤ga∧AC w8 ga (Fd.cn 2 (if true then 1 else 0) ⟨#[]⟩)∧Below w7.heap.size w7 w8) ((bool5A true w7).mono (fun _ _ ⟨ga,y1,y2,y3,y4⟩=>⟨_,y1,ga,rfl,y2,y3,y4⟩)) ?_;rintro r w8 ⟨ga,rfl,hga,hac,hb8⟩;have o8:=ow7.below hb8;have a8:=o8.a;have b8:=o8.b;have r8:=o8.r;have f8:=o8.f;have s0:=(World.cell?_setCell_other w8 ⟨w.heap.size+1+1,0,none⟩ ⟨w.heap.size,0,none⟩ (.slice (some ⟨ga,0,none⟩) 1 1) (by simp)).trans a8;have s1:=(World.cell?_setCell_other w8 ⟨w.heap.size+1+1,0,none⟩ ⟨w.heap.size+1,0,none⟩ (.slice (some ⟨ga,0,none⟩) 1 1) (by simp)).trans b8))
    have hz7:=ow7.z
    have O8:=hide o8
    have HAC:=hide hac
    have hB7:=ow7.B.size
    clear s0 s1 a8 b8 ow6 ow7 hw6 hw7 hb8 aw6 bw6 aw7 bw7 hac o8
    go_wp2
    refine bodyPost_ret (v:= .tuple #[av ga 1,.string ⟨#[]⟩]) (by simp [results,Tryz.results87,go_sem,r8]) rfl ?_
    rw [HOUT.out]
    show SPost (.inr (Vl.boolT (Vl.inText x.text y.text))) _ _ _
    rw [hI]
    exact sp_bool (HAC.out.set (by omega)) (by omega) (O8.out.set _)
  ·have t5:(y.kind == 4)=false:=by simpa using h5
   have HOUT:=hide (has_no (t:=Fd.tn x) (u:=Fd.tn y) (fun e=>h5 e.2))
   rw [HOUT.out]
   clear h4 h5 hcx hx hy
   go_enter Tryz.func87,Tryz.ntmps87
   go_wp2_with fail
   refine (HD1.out _ O0.out.B).mono ?_
   rintro e w1 ⟨q1,rfl,hb1⟩
   have O1:=hide (O0.out.below hb1)
   have a1:=O1.out.a
   have b1:=O1.out.b
   clear hb1 a0 b0
   go_wp2_with fail
   refine (HK1.out _ O1.out.B).mono ?_
   rintro e w2 ⟨rfl,hb2⟩
   have O2:=hide (O1.out.below hb2)
   have a2:=O2.out.a
   have b2:=O2.out.b
   clear hb2 a1 b1
   go_wp2_with fail
   refine (HK2.out _ O2.out.B).mono ?_
   rintro e w3 ⟨rfl,hb3⟩
   have O3:=hide (O2.out.below hb3)
   have a3:=O3.out.a
   have b3:=O3.out.b
   clear hb3 a2 b2
   go_wp2_with fail
   refine (noW _ _).mono ?_
   rintro e w4 ⟨rfl,hb4⟩
   have O4:=hide (O3.out.below hb4)
   have r4:=O4.out.r
   have f4:=O4.out.f
   clear hb4
   go_wp2
   refine bodyPost_ret (v:= .tuple #[.agg #[.slice none 0 0],.string ⟨#[116,121,112,101]⟩]) (by simp [results,Tryz.results87,go_sem,r4]) rfl ?_
   exact sp_word (O4.out.set _)
 ·have t4:(x.kind == 4)=false:=by simpa using h4
  have t5:(x.kind == 5)=false:=by simpa using (by omega:x.kind≠5)
  have t6:(x.kind == 6)=false:=by simpa using (by omega:x.kind≠6)
  have HOUT:=hide (has_no (t:=Fd.tn x) (u:=Fd.tn y) (fun e=>h4 e.1))
  rw [HOUT.out]
  clear h4 hcx hx hy
  go_enter Tryz.func87,Tryz.ntmps87
  go_wp2_with fail
  refine (HD1.out _ O0.out.B).mono ?_
  rintro e w1 ⟨q1,rfl,hb1⟩
  have O1:=hide (O0.out.below hb1)
  have a1:=O1.out.a
  have b1:=O1.out.b
  clear hb1 a0 b0
  go_wp2_with fail
  refine (HK1.out _ O1.out.B).mono ?_
  rintro e w2 ⟨rfl,hb2⟩
  have O2:=hide (O1.out.below hb2)
  have a2:=O2.out.a
  have b2:=O2.out.b
  clear hb2 a1 b1
  go_wp2_with fail
  refine (noW _ _).mono ?_
  rintro e w3 ⟨rfl,hb3⟩
  have O3:=hide (O2.out.below hb3)
  have r3:=O3.out.r
  have f3:=O3.out.f
  clear hb3
  go_wp2
  refine bodyPost_ret (v:= .tuple #[.agg #[.slice none 0 0],.string ⟨#[116,121,112,101]⟩]) (by simp [results,Tryz.results87,go_sem,r3]) rfl ?_
  exact sp_word (O3.out.set _)
end Go.Proofs.YthbojbbmpcmoaaaGreatDoor
