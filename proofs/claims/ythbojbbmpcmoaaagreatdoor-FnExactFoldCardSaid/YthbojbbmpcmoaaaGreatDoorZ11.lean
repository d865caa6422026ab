/- Ne, Nf, Qb. -/
import Derived.Test.YthbojbbmpcmoaaaGreatDoorZ10
import Derived.Test.YthbojbbmpcmoaaaGreatDoorProg
import Derived.WalkKit
import Derived.WalkSpells
import Derived.WalkLawsBesides
import Derived.Deep.DeepFit
import Derived.Deep.DeepMust
import Derived.Deep.QuietTactic
import Derived.BigQuiet
import Derived.Deep.RegionWith
import Derived.Deep.RegionLaw
import Derived.Maps.AppendAt
import Derived.Deep.RegionHeld3
import Derived.Lib.Strings
import Derived.WalkSmall
namespace Go.Proofs.YthbojbbmpcmoaaaGreatDoor
open Go.RowKit
abbrev scO (w:World) (p:Option Addr):Obj:= .cells #[.map (some w.heap.size),.pointer p] 237
theorem sc_new (w:World) (p:Option Addr):((w.alloc (.map #[] 0)).alloc (scO w p)).cell? ⟨w.heap.size+1,0,none⟩=some (.map (some w.heap.size))∧((w.alloc (.map #[] 0)).alloc (scO w p)).cell? ⟨w.heap.size+1,1,none⟩=some (.pointer p) ∧
  SpAt ((w.alloc (.map #[] 0)).alloc (scO w p)) w.heap.size []∧Below w.heap.size w ((w.alloc (.map #[] 0)).alloc (scO w p))∧((w.alloc (.map #[] 0)).alloc (scO w p)).heap.size=w.heap.size+1+1:=by
 have h:=heap_alloc_new' (w.alloc (.map #[] 0)) (scO w p)
 rw [World.size_alloc] at h
 refine ⟨by rw [World.cell?,h];rfl,by rw [World.cell?,h];rfl,?_,(bA _).alloc (by simp) _,by simp⟩
 have hb:=(Below.refl (w.heap.size+1) (w.alloc (.map #[] 0))).alloc (by simp) (scO w p)
 exact (SpAt.made w).same (hb.block _ (Nat.lt_succ_self _))
theorem Chain.inner {cg bg:Nat} {w wr:World} {p:Option Addr} {ch:List Tr.Sp} {sc:Tr.Sp} (h:Chain cg bg w w.heap.size p ch) (hK:Kp cg bg w wr) (c0:wr.cell? ⟨w.heap.size+1,0,none⟩=some (.map (some w.heap.size))) (c1:wr.cell? ⟨w.heap.size+1,1,none⟩=some (.pointer p))
  (hs:SpAt wr w.heap.size sc) (hz:w.heap.size+1 < wr.heap.size) (h1:cg < w.heap.size) (h2:bg < w.heap.size):Chain cg bg wr wr.heap.size (some ⟨w.heap.size+1,0,none⟩) (sc :: ch) :=
 ⟨w.heap.size+1,w.heap.size,p,rfl,hz,Nat.lt_succ_self _,by omega,by omega,by omega,by omega,c0,c1,hs,Chain.kept (Nat.le_refl _) (fun b hb=>hK.block b hb) h⟩
theorem Tr.ifn_at (G:Nat→List Tr.Sp→Tr.St→Tr.St) (ns:List Tr.Nd) (ks:List (List Nat)) (ls:List Nat) (i:Nat) (sc:Tr.Sp) (ch:List Tr.Sp) (df:Bool) (s:Tr.St) (h:i+1 < ls.length) :
  Tr.ifn G ns ks (ls.drop i) sc ch df s=Tr.ifn G ns ks (ls.drop (i+1)) (Tr.ipar G ns ks ls[i] sc ch df s).1 ch (df || !decide ((Tr.kidsOf ks ls[i]).length=0)) (Tr.ipar G ns ks ls[i] sc ch df s).2:=by
 rw [List.drop_eq_getElem_cons (show i < ls.length by omega),List.drop_eq_getElem_cons h];rfl
theorem Tr.ifn_last (G:Nat→List Tr.Sp→Tr.St→Tr.St) (ns:List Tr.Nd) (ks:List (List Nat)) (ls:List Nat) (i:Nat) (sc:Tr.Sp) (ch:List Tr.Sp) (df:Bool) (s:Tr.St) (h:i+1=ls.length) :
  Tr.ifn G ns ks (ls.drop i) sc ch df s=G (ls[i]'(by omega)) (sc :: ch) s:=by
 rw [List.drop_eq_getElem_cons (show i < ls.length by omega),List.drop_of_length_le (by omega)];rfl
theorem Tr.enterS_len (ns:List Tr.Nd) (k:Nat) (e:Tr.Sp × Tr.St):(Tr.enterS ns k e).1.length≤e.1.length+1:=by
 unfold Tr.enterS;split <;> simp
set_option maxRecDepth 100000 in
set_option maxHeartbeats 1000000 in
theorem ifn_any (ns:List Tr.Nd) (ks:List (List Nat)) (wb tg tc kg kc cg bg f:Nat) (G:Nat→List Tr.Sp→Tr.St→Tr.St) (hG:WkOk ns ks wb tg tc kg kc cg bg f G) (hn:ns.length≤5000) (ls:List Nat) (g o c:Nat) (ch:List Tr.Sp) (p:Option Addr) (s:Tr.St) (w:World)
  (hls:∀ x∈ls,x < f∧x < ns.length) (hl:ls.length≤5000) (hl1:1≤ls.length) (hkid:∀ k (h:k < ks.length),∀ x∈ks[k],x < k) (hkl:∀ k (h:k < ks.length),(ks[k]).length≤5000)
  (hF:Ix ns ks wb tg tc kg kc cg bg w) (hD:Dy ns.length cg bg s w) (hC:Chain cg bg w w.heap.size p ch) (hg1:g≠cg) (hg2:g≠bg) (hcap:ls.length≤c) (hI:IntsAt w g o ls) :
  Calls Tryz.prog 151 #[.pointer (some ⟨wb,0,none⟩),.slice (some ⟨g,o,none⟩) ls.length c,.pointer p] w fun e w'=>e = .returned (.tuple #[])∧Kp cg bg w w'∧Dy ns.length cg bg (Tr.ifn G ns ks ls [] ch false s) w':=by
 have hcl:=(hD.c.lt cg rfl).2
 have hbl:=(hD.b.lt bg rfl).2
 have HG:=hide hG
 have HF:=hide hF
 have HD:=hide hD
 have HC:=hide hC
 have HI:=hide hI
 have HLS:=hide hls
 have HKD:=hide hkid
 have HKL:=hide hkl
 obtain ⟨n0,n1,n2,n3,n4⟩:=sc_new w p
 have HN0:=hide n0
 have HN1:=hide n1
 have HN2:=hide n2
 have HN3:=hide n3
 have HN4:=hide n4
 obtain ⟨m,hm⟩:∃ m,ls.length=m+1:=⟨ls.length - 1,by omega⟩
 clear hG hF hD hC hI hls hkid hkl n0 n1 n2 n3 n4
 go_enter Tryz.func151,Tryz.ntmps151
 go_wp2_with fail
 refine (inside_any p w).mono ?_
 rintro e w1 ⟨rfl,hw1⟩
 have HW1:=hide hw1
 rw [← HW1.out] at HN0 HN1 HN2 HN3 HN4
 clear hw1
 go_wp2
 go_loopw [8,21] (fun v8 t wr=>∃ (i:Nat) (sc:Tr.Sp) (df:Bool) (si:Tr.St),i≤m∧t = .int .i64 i∧v8 = .bool df∧sc.length≤i∧Kp cg bg w wr∧w.heap.size+1 < wr.heap.size∧wr.cell? ⟨w.heap.size+1,0,none⟩=some (.map (some w.heap.size))∧wr.cell? ⟨w.heap.size+1,1,none⟩=some (.pointer p)∧SpAt wr w.heap.size sc ∧
   Dy ns.length cg bg si wr∧Tr.ifn G ns ks ls [] ch false s=Tr.ifn G ns ks (ls.drop i) sc ch df si) (fun _ t _=>m - (intOf t).toNat)
 case atStart=>exact ⟨0,[],false,s,Nat.zero_le _,rfl,rfl,Nat.le_refl _,Kp.of_below HN3.out,by rw [HN4.out];omega,HN0.out,HN1.out,HN2.out,HD.out.below HN3.out,rfl⟩
 case round =>
  obtain ⟨i,sc,df,si,hi,rfl,rfl,hsl,hK,hz,c0,c1,hsp,hDr,he⟩:=hrel
  have HE:=hide he
  have HDr:=hide hDr
  have HSP:=hide hsp
  have HC0:=hide c0
  have HC1:=hide c1
  clear he hDr hsp c0 c1
  have HFr:=hide (HF.out.kept hK)
  have HCH:=hide (HC.out.inner hK HC0.out HC1.out HSP.out hz hcl hbl)
  have hx:=(hK.cell (p:=⟨g,o+i,none⟩) HI.out.1 hg1 hg2).trans (HI.out.2 i (by omega))
  have hxl:=HLS.out _ (List.getElem_mem (by omega:i < ls.length))
  by_cases hlt:i < m
  ·have HS:=hide (Tr.ifn_at G ns ks ls i sc ch df si (by omega))
   have f1:=HFr.out.f1
   have hlp:ls[i] < ks.length:=by rw [HFr.out.len];exact hxl.2
   obtain ⟨v2,hkc,hpl⟩:=HFr.out.kids ls[i] hlp
   have HKO:Hid (Tr.kidsOf ks ls[i]=ks[ls[i]]):=hide (by simp [Tr.kidsOf,hlp])
   have hkd:=HKD.out ls[i] hlp
   have hkl:=HKL.out ls[i] hlp
   rw [HKO.out] at HS
   have HAL:=hide (all_any ns ks wb tg tc kg kc cg bg f G HG.out ks[ls[i]] v2 (sc :: ch) _ si wr (fun x hx=>by have:=hkd x hx;omega) (by omega) HFr.out HDr.out HCH.out hpl)
   obtain ⟨a2,c2,hv2⟩:∃ a c,v2 = .slice a (ks[ls[i]]).length c:=by
    rcases hpl with ⟨a,c,h,h'⟩ | ⟨g',o',c,h,_⟩
    ·exact ⟨a,c,by rw [h',h];rfl⟩
    ·exact ⟨_,c,h⟩
   subst hv2
   clear hkd hpl
   generalize ks[ls[i]]=kp at *
   generalize ls[i]=y at *
   have HIP:Hid (Tr.ipar G ns ks y sc ch df si=((Tr.enterS ns y (sc,Tr.all G kp (sc :: ch) si)).1,if df=true∧kp.length=0 then Tr.faultS y 10 (Tr.enterS ns y (sc,Tr.all G kp (sc :: ch) si)).2 else (Tr.enterS ns y (sc,Tr.all G kp (sc :: ch) si)).2)):=hide (by unfold Tr.ipar;rw [HKO.out])
   have hkpl:(kp.length:Int)≤5000:=by omega
   have HEL:=hide (Tr.enterS_len ns y (sc,Tr.all G kp (sc :: ch) si))
   go_wp2_with fail
   refine HAL.out.mono ?_
   rintro e w2 ⟨rfl,hk2,hd2⟩
   have c0':=(hk2.cell (p:=⟨w.heap.size+1,0,none⟩) hz (show w.heap.size+1≠cg by omega) (show w.heap.size+1≠bg by omega)).trans HC0.out
   have c1':=(hk2.cell (p:=⟨w.heap.size+1,1,none⟩) hz (show w.heap.size+1≠cg by omega) (show w.heap.size+1≠bg by omega)).trans HC1.out
   have hz2:=Nat.lt_of_lt_of_le hz hk2.size
   have HEN:=hide (enter_any ns ks wb tg tc kg kc cg bg y (w.heap.size+1) w.heap.size sc _ w2 hn hxl.2 (HFr.out.kept hk2) hd2 c0' (HSP.out.same (hk2.block _ (by omega) (by omega) (by omega))) (by omega) (by omega) (by omega))
   clear hd2
   go_wp2_with fail
   refine HEN.out.mono ?_
   rintro e w3 ⟨rfl,hu3,hd3,hs3⟩
   have c0'':=(hu3.cell (p:=⟨w.heap.size+1,0,none⟩) hz2 (show w.heap.size+1≠cg by omega) (show w.heap.size+1≠bg by omega) (show w.heap.size+1≠w.heap.size by omega)).trans c0'
   have c1'':=(hu3.cell (p:=⟨w.heap.size+1,1,none⟩) hz2 (show w.heap.size+1≠cg by omega) (show w.heap.size+1≠bg by omega) (show w.heap.size+1≠w.heap.size by omega)).trans c1'
   have hK3:=Ku.kp (hK.trans hk2) hu3 (Nat.le_refl _)
   have hz3:=Nat.lt_of_lt_of_le hz2 hu3.size
   have HC0'':=hide c0''
   have HC1'':=hide c1''
   have HD3:=hide hd3
   have HS3:=hide hs3
   clear c0' c1' c0'' c1'' hd3 hs3 hu3 HEN HAL
   cases df <;> (by_cases hk0:kp.length=0)
   ·go_wp2
    go_roundw
    case rel=>exact ⟨i+1,_,_,_,by omega,by go_num,rfl,by have:=HEL.out;omega,hK3,hz3,HC0''.out,HC1''.out,HS3.out,HD3.out,by rw [HE.out,HS.out,HIP.out];simp [hk0]⟩
    case measure=>simp [intOf];omega
   ·have hpos:(0:Int) < kp.length:=by omega
    go_wp2
    go_roundw
    case rel=>exact ⟨i+1,_,_,_,by omega,by go_num,rfl,by have:=HEL.out;omega,hK3,hz3,HC0''.out,HC1''.out,HS3.out,HD3.out,by rw [HE.out,HS.out,HIP.out];simp [hk0,Nat.pos_of_ne_zero hk0]⟩
    case measure=>simp [intOf];omega
   ·go_wp2_with fail
    refine (blame_any ns ks wb tg tc kg kc cg bg y 10 _ _ hxl.2 (HF.out.kept hK3) HD3.out).mono ?_
    rintro e w4 ⟨rfl,hk4,hd4⟩
    have c04:=(hk4.cell (p:=⟨w.heap.size+1,0,none⟩) hz3 (show w.heap.size+1≠cg by omega) (show w.heap.size+1≠bg by omega)).trans HC0''.out
    have c14:=(hk4.cell (p:=⟨w.heap.size+1,1,none⟩) hz3 (show w.heap.size+1≠cg by omega) (show w.heap.size+1≠bg by omega)).trans HC1''.out
    have HC04:=hide c04
    have HC14:=hide c14
    have HD4:=hide hd4
    clear c04 c14 hd4
    go_wp2
    go_roundw
    case rel=>exact ⟨i+1,_,_,_,by omega,by go_num,rfl,by have:=HEL.out;omega,hK3.trans hk4,Nat.lt_of_lt_of_le hz3 hk4.size,HC04.out,HC14.out,HS3.out.same (hk4.block _ (by omega) (by omega) (by omega)),HD4.out,by rw [HE.out,HS.out,HIP.out];simp [hk0]⟩
    case measure=>simp [intOf];omega
   ·have hpos:(0:Int) < kp.length:=by omega
    have hne:((kp.length:Int) == 0)=false:=by rw [beq_eq_false_iff_ne];omega
    go_wp2
    go_roundw
    case rel=>exact ⟨i+1,_,_,_,by omega,by go_num,rfl,by have:=HEL.out;omega,hK3,hz3,HC0''.out,HC1''.out,HS3.out,HD3.out,by rw [HE.out,HS.out,HIP.out];simp [hk0]⟩
    case measure=>simp [intOf];omega
  ·obtain rfl:i=m:=by omega
   have HS:=hide (Tr.ifn_last G ns ks ls i sc ch df si (by omega))
   have HGO:=hide (HG.out ls[i] _ (sc :: ch) si wr hxl.1 hxl.2 HFr.out HDr.out HCH.out)
   generalize ls[i]=y at *
   go_wp2_with fail
   refine HGO.out.mono ?_
   rintro e w2 ⟨rfl,hk2,hd2⟩
   go_wp2
   (first | go_end0 | refine bodyPost_ret (results_none rfl _ _ _) rfl ?_)
   exact ⟨rfl,hK.trans hk2,by rw [HE.out,HS.out];exact hd2⟩
theorem row_sameV {w w':World} {base size:Nat} {e:TypeId} {v:Value} {n:Nat} {xs:List Value} (h:w.ownsRow base e size v n xs) (hb:∀ g,base≤g→g < w.heap.size→w'.heap[g]?=w.heap[g]?):w'.ownsRow base e size v n xs:=by
 refine ⟨h.1,?_⟩
 rcases h.2 with h1 | ⟨g',cap',cur,hv,h2,h3,h4⟩
 ·exact .inl h1
 ·exact .inr ⟨g',cap',cur,hv,h2,(hb g' h2 (Array.getElem?_eq_some_iff.1 h3).1).trans h3,h4⟩
theorem Tr.ents_append (ns:List Tr.Nd) (a b:List Nat) (e:Tr.Sp × Tr.St):Tr.ents ns (a++b) e=Tr.ents ns b (Tr.ents ns a e):=by
 unfold Tr.ents;rw [List.foldl_append]
theorem Tr.ents_at (ns:List Tr.Nd) (ls:List Nat) (i:Nat) (e:Tr.Sp × Tr.St) (h:i < ls.length):Tr.ents ns (ls.take (i+1)) e=Tr.enterS ns ls[i] (Tr.ents ns (ls.take i) e):=by
 rw [List.take_succ_eq_append_getElem h,Tr.ents_append];rfl
theorem Tr.ents_len (ns:List Tr.Nd) (ls:List Nat) (e:Tr.Sp × Tr.St):(Tr.ents ns ls e).1.length≤e.1.length+ls.length:=by
 unfold Tr.ents
 induction ls generalizing e with
 | nil=>simp
 | cons x r ih =>
  rw [List.foldl_cons]
  have h1:=ih (Tr.enterS ns x e)
  have h2:=Tr.enterS_len ns x e
  rw [List.length_cons];omega
theorem Tr.flt_at (ns:List Tr.Nd) (ls:List Nat) (i:Nat) (h:i < ls.length):(ls.take (i+1)).filter (fun x=>Tr.kindOf ns x != 23)=(ls.take i).filter (fun x=>Tr.kindOf ns x != 23)++(if Tr.kindOf ns ls[i]=23 then [] else [ls[i]]):=by
 rw [List.take_succ_eq_append_getElem h,List.filter_append]
 congr 1
 by_cases e:Tr.kindOf ns ls[i]=23 <;> simp [e]
structure Fi (ns:List Tr.Nd) (cg bg:Nat) (w:World) (p:Option Addr) (sc:Tr.Sp) (s:Tr.St) (wr:World):Prop where
 kp:Kp cg bg w wr
 sz:w.heap.size+1 < wr.heap.size
 c0:wr.cell? ⟨w.heap.size+1,0,none⟩=some (.map (some w.heap.size))
 c1:wr.cell? ⟨w.heap.size+1,1,none⟩=some (.pointer p)
 sp:SpAt wr w.heap.size sc
 dy:Dy ns.length cg bg s wr
 l1:cg < w.heap.size
 l2:bg < w.heap.size
theorem Fi.start {ns:List Tr.Nd} {cg bg:Nat} {w:World} {p:Option Addr} {s:Tr.St} (hD:Dy ns.length cg bg s w):Fi ns cg bg w p [] s ((w.alloc (.map #[] 0)).alloc (scO w p)):=by
 obtain ⟨n0,n1,n2,n3,n4⟩:=sc_new w p
 exact ⟨Kp.of_below n3,by omega,n0,n1,n2,hD.below n3,(hD.c.lt cg rfl).2,(hD.b.lt bg rfl).2⟩
theorem Fi.enter {ns:List Tr.Nd} {cg bg:Nat} {w:World} {p:Option Addr} {sc sc':Tr.Sp} {s s':Tr.St} {wr wx:World} (h:Fi ns cg bg w p sc s wr) (hu:Ku cg bg w.heap.size wr wx) (hd:Dy ns.length cg bg s' wx) (hs:SpAt wx w.heap.size sc'):Fi ns cg bg w p sc' s' wx:=by
 have h1:=h.l1
 have h2:=h.l2
 refine ⟨Ku.kp h.kp hu (Nat.le_refl _),Nat.lt_of_lt_of_le h.sz hu.size,?_,?_,hs,hd,h.l1,h.l2⟩
 ·exact (hu.cell (p:=⟨w.heap.size+1,0,none⟩) h.sz (show w.heap.size+1≠cg by omega) (show w.heap.size+1≠bg by omega) (show w.heap.size+1≠w.heap.size by omega)).trans h.c0
 ·exact (hu.cell (p:=⟨w.heap.size+1,1,none⟩) h.sz (show w.heap.size+1≠cg by omega) (show w.heap.size+1≠bg by omega) (show w.heap.size+1≠w.heap.size by omega)).trans h.c1
theorem Fi.row {ns:List Tr.Nd} {cg bg:Nat} {w:World} {p:Option Addr} {sc:Tr.Sp} {s:Tr.St} {wr wx:World} (h:Fi ns cg bg w p sc s wr) (hu:Ku cg bg w.heap.size wr wx) {v:Value} {n:Nat} {xs:List Value} (ho:wr.ownsRow (w.heap.size+2) 3 1 v n xs):wx.ownsRow (w.heap.size+2) 3 1 v n xs:=by
 have h1:=h.l1
 have h2:=h.l2
 exact row_sameV ho fun g hg hl=>hu.block g hl (by omega) (by omega) (by omega)
theorem Fi.grown {ns:List Tr.Nd} {cg bg:Nat} {w:World} {p:Option Addr} {sc:Tr.Sp} {s:Tr.St} {wr wx:World} (h:Fi ns cg bg w p sc s wr) {row:Option Nat} (hg:wr.grownBy wx row) (hr:∀ q,row=some q→w.heap.size+2≤q):Fi ns cg bg w p sc s wx:=by
 have h1:=h.l1
 have h2:=h.l2
 have h3:=h.sz
 have hb:∀ b,b < w.heap.size+2→wx.heap[b]?=wr.heap[b]?:=fun b hb=>hg.block b (by omega) (fun e=>by have:=hr b e.symm;omega)
 exact ⟨h.kp.grown hg (fun q e=>by have:=hr q e;omega),Nat.lt_of_lt_of_le h.sz hg.size,(World.cell?_of_block (a:=⟨w.heap.size+1,0,none⟩) (hb (w.heap.size+1) (by omega))).trans h.c0,(World.cell?_of_block (a:=⟨w.heap.size+1,1,none⟩) (hb (w.heap.size+1) (by omega))).trans h.c1,h.sp.same (hb _ (by omega)),
  h.dy.grown hg (fun e=>by have:=hr _ e;omega) (fun e=>by have:=hr _ e;omega),h.l1,h.l2⟩
theorem Fi.alloc {ns:List Tr.Nd} {cg bg:Nat} {w:World} {p:Option Addr} {sc:Tr.Sp} {s:Tr.St} {wr:World} (h:Fi ns cg bg w p sc s wr) (o:Obj):Fi ns cg bg w p sc s (wr.alloc o) :=
 h.grown (World.grownBy_alloc wr o none) (fun q e=>by cases e)
theorem own_of {v:Value} {n:Nat} {w:World} {base:Nat} {e:TypeId} {size:Nat} {xs:List Value} (h:w.ownsRow base e size v n xs):∀ q,v.ownBlock=some q→base≤q:=fun q e=>(h.lt q e).1
theorem lens_of {v:Value} {n:Nat} {w:World} {base:Nat} {e:TypeId} {xs:List Value} (h:w.ownsRow base e 1 v n xs):∃ a c,v = .slice a n c:=by
 rcases h.2 with ⟨h1,h2⟩ | ⟨g',cap',cur,hv,_⟩
 ·refine ⟨none,0,?_⟩
  rw [h1]
  have:n=0:=by have:=h.1;simp [h2] at this;omega
  rw [this]
 ·exact ⟨_,_,hv⟩
theorem plv_of {cg bg:Nat} {w:World} {B:Nat} {v:Value} {ls:List Nat} (h:w.ownsRow B 3 1 v ls.length (ls.map vint)) (h1:cg < B) (h2:bg < B):PlV cg bg w v ls:=by
 have hh:=h
 rcases h.2 with ⟨h3,h4⟩ | ⟨g',cap',cur,hv,hb,_⟩
 ·exact .inl ⟨none,0,h3,by simpa using h4⟩
 ·subst hv
  exact .inr ⟨g',0,cap',rfl,by omega,by omega,(row_room hh).1,ints_of_row hh⟩
theorem flt_len (ns:List Tr.Nd) (ls:List Nat):(ls.filter fun x=>Tr.kindOf ns x != 23).length≤ls.length:=List.length_filter_le _ _
theorem Tr.makes_len (ns:List Tr.Nd) (ks:List (List Nat)) (hkl:∀ k,(Tr.kidsOf ks k).length≤5000) (ls:List Nat):(Tr.makesOf ns ks ls).length≤ls.length*5000:=by
 unfold Tr.makesOf
 induction ls with
 | nil=>simp
 | cons x r ih =>
  rw [List.flatMap_cons,List.length_append,List.length_cons]
  have:(Tr.mk1 ns ks x).length≤5000:=by
   unfold Tr.mk1
   split
   ·simp
   ·split
    ·exact hkl x
    ·simp
  omega
set_option maxRecDepth 100000 in
set_option maxHeartbeats 1000000 in
theorem ifile_some (ns:List Tr.Nd) (ks:List (List Nat)) (wb tg tc kg kc cg bg f:Nat) (G:Nat→List Tr.Sp→Tr.St→Tr.St) (hG:WkOk ns ks wb tg tc kg kc cg bg f G) (hn:ns.length≤5000) (ls:List Nat) (g o c:Nat) (ch:List Tr.Sp) (p:Option Addr) (s:Tr.St) (w:World)
  (hls:∀ x∈ls,x < f∧x < ns.length) (hl:ls.length≤5000) (hks:∀ k (h:k < ks.length),∀ x∈ks[k],x < ns.length) (hkl:∀ k,(Tr.kidsOf ks k).length≤5000)
  (hF:Ix ns ks wb tg tc kg kc cg bg w) (hD:Dy ns.length cg bg s w) (hC:Chain cg bg w w.heap.size p ch) (hg1:g≠cg) (hg2:g≠bg) (hI:IntsAt w g o ls) :
  Calls Tryz.prog 152 #[.pointer (some ⟨wb,0,none⟩),.slice (some ⟨g,o,none⟩) ls.length c,.pointer p] w fun e w'=>e = .returned (.tuple #[])∧Kp cg bg w w'∧Dy ns.length cg bg (Tr.ifile G ns ks ls ch s) w':=by
 obtain ⟨iI,hInt,hIz,hIs,hIb⟩:=info_parts Tryz.infoInt
 have HG:=hide hG
 have HF:=hide hF
 have HD:=hide hD
 have HC:=hide hC
 have HI:=hide hI
 have HLS:=hide hls
 have HKS:=hide hks
 have HKL:=hide hkl
 have HST:=hide (Fi.start (p:=p) hD)
 clear hG hF hD hC hI hls hks hkl
 go_enter Tryz.func152,Tryz.ntmps152
 go_wp2_with fail
 refine (inside_any p w).mono ?_
 rintro e w1 ⟨rfl,hw1⟩
 have HST1:Hid (Fi ns cg bg w p [] s w1):=hide (by rw [hw1];exact HST.out)
 clear hw1 HST
 go_wp2
 go_loopw [7,16] (fun v7 t wr=>∃ (i:Nat),i≤ls.length∧t = .int .i64 i∧Fi ns cg bg w p (Tr.ents ns (Tr.makesOf ns ks (ls.take i)) ([],s)).1 (Tr.ents ns (Tr.makesOf ns ks (ls.take i)) ([],s)).2 wr ∧
   wr.ownsRow (w.heap.size+2) 3 1 v7 ((ls.take i).filter (fun x=>Tr.kindOf ns x != 23)).length (((ls.take i).filter (fun x=>Tr.kindOf ns x != 23)).map vint)) (fun _ t _=>ls.length - (intOf t).toNat)
 case atStart=>exact ⟨0,Nat.zero_le _,rfl,HST1.out,⟨rfl,.inl ⟨rfl,rfl⟩⟩⟩
 case round =>
  obtain ⟨i,hi,rfl,hFi,ho⟩:=hrel
  have hsz:=hFi.sz
  have hl1:=hFi.l1
  have hl2:=hFi.l2
  have HFI:=hide hFi
  have HO:=hide ho
  have HIX:=hide (HF.out.kept hFi.kp)
  by_cases hlt:i < ls.length
  ·have hx:=(hFi.kp.cell (p:=⟨g,o+i,none⟩) HI.out.1 hg1 hg2).trans (HI.out.2 i hlt)
   have hxl:=HLS.out _ (List.getElem_mem hlt)
   have hlk:ls[i] < ks.length:=by rw [HIX.out.len];exact hxl.2
   have f0:=HIX.out.f0
   have f1:=HIX.out.f1
   obtain ⟨a0,_⟩:=HIX.out.nodes.2 ls[i] hxl.2
   obtain ⟨v2,hkc0,hpl⟩:=HF.out.kids ls[i] (by rw [HF.out.len];exact hxl.2)
   have hkc:=(hFi.kp.cell (p:=⟨kg,ls[i],none⟩) HF.out.klt HF.out.kg1 HF.out.kg2).trans hkc0
   obtain ⟨a7,c7,hv7⟩:=lens_of ho
   subst hv7
   clear hkc0
   have HM:=hide (Tr.makesOf_at ns ks ls i hlt)
   have HM1:=hide (show Tr.mk1 ns ks ls[i]=if ns[ls[i]].kind=20∨ns[ls[i]].kind=21 then [ls[i]] else if ns[ls[i]].kind=23 then ks[ls[i]] else [] by
    unfold Tr.mk1;rw [Tr.kindOf_at hxl.2,show Tr.kidsOf ks ls[i]=ks[ls[i]] from by simp [Tr.kidsOf,hlk]])
   have HFL:=hide (show (ls.take (i+1)).filter (fun x=>Tr.kindOf ns x != 23)=(ls.take i).filter (fun x=>Tr.kindOf ns x != 23)++(if ns[ls[i]].kind=23 then [] else [ls[i]]) by rw [Tr.flt_at ns ls i hlt,Tr.kindOf_at hxl.2])
   have hkk:=HKS.out ls[i] hlk
   have hk5:(ks[ls[i]]).length≤5000:=by have:=HKL.out ls[i];rwa [show Tr.kidsOf ks ls[i]=ks[ls[i]] from by simp [Tr.kidsOf,hlk]] at this
   have hel:=Tr.ents_len ns (Tr.makesOf ns ks (ls.take i)) ([],s)
   have hml:=Tr.makes_len ns ks HKL.out (ls.take i)
   have hfl:=flt_len ns (ls.take i)
   rw [List.length_take,Nat.min_eq_left hi] at hml hfl
   have hsl:(Tr.ents ns (Tr.makesOf ns ks (ls.take i)) ([],s)).1.length≤25000000:=by simp only [List.length_nil] at hel;omega
   have HE:=hide (Tr.ents_append ns (Tr.makesOf ns ks (ls.take i)) (Tr.mk1 ns ks ls[i]) ([],s))
   rw [← HM.out] at HE
   clear hFi ho hel hml HM
   generalize hee:Tr.ents ns (Tr.makesOf ns ks (ls.take i)) ([],s)=ee at *
   obtain ⟨sc,si⟩:=ee
   clear hee
   simp only at hsl
   generalize (ls.take i).filter (fun x=>Tr.kindOf ns x != 23)=fl at *
   generalize ns[ls[i]].kind=kx at *
   generalize ks[ls[i]]=kp at *
   generalize hyy:ls[i]=y at *
   by_cases h23:kx=23
   ·subst h23
    have HE2:Hid (Tr.ents ns (Tr.makesOf ns ks (ls.take (i+1))) ([],s)=Tr.ents ns kp (sc,si)):=hide (by rw [HE.out,HM1.out,if_neg (by omega),if_pos rfl])
    have HFL2:Hid ((ls.take (i+1)).filter (fun x=>Tr.kindOf ns x != 23)=fl):=hide (by rw [HFL.out,if_pos rfl,List.append_nil])
    clear HE HFL HM1
    rcases hpl with ⟨a2,c2,rfl,rfl⟩ | ⟨g2,o2,c2,rfl,hq1,hq2,hq3,hq4⟩
    ·go_wp2
     go_loopw [38] (fun t wq=>t = .int .i64 0∧wq=wr) (fun _ _=>0)
     case atStart=>exact ⟨rfl,rfl⟩
     case round =>
      obtain ⟨rfl,rfl⟩:=hrel
      go_wp2
      go_roundw
      case rel=>exact ⟨i+1,by omega,by go_num,by rw [HE2.out];exact HFI.out,by rw [HFL2.out];exact HO.out⟩
      case measure=>simp [intOf];omega
    ·have HQ4:=hide hq4
     have HKK:=hide hkk
     clear hq4 hkk
     go_wp2
     go_loopw [38] (fun t wq=>∃ j:Nat,j≤kp.length∧t = .int .i64 j∧Fi ns cg bg w p (Tr.ents ns (kp.take j) (sc,si)).1 (Tr.ents ns (kp.take j) (sc,si)).2 wq∧wq.ownsRow (w.heap.size+2) 3 1 (.slice a7 fl.length c7) fl.length (fl.map vint)) (fun t _=>kp.length - (intOf t).toNat)
     case atStart=>exact ⟨0,Nat.zero_le _,rfl,HFI.out,HO.out⟩
     case round =>
      obtain ⟨j,hj,rfl,hFq,hoq⟩:=hrel
      have HFQ:=hide hFq
      have HOQ:=hide hoq
      by_cases hlj:j < kp.length
      ·have hxj:=(hFq.kp.cell (p:=⟨g2,o2+j,none⟩) HQ4.out.1 hq1 hq2).trans (HQ4.out.2 j hlj)
       have HA:=hide (Tr.ents_at ns kp j (sc,si) hlj)
       have hkj:=HKK.out _ (List.getElem_mem hlj)
       have hel:=Tr.ents_len ns (kp.take j) (sc,si)
       rw [List.length_take,Nat.min_eq_left hj] at hel
       simp only at hel
       have HEN:=hide (enter_any ns ks wb tg tc kg kc cg bg kp[j] (w.heap.size+1) w.heap.size _ _ _ hn hkj (HF.out.kept hFq.kp) hFq.dy hFq.c0 hFq.sp (by omega) (by omega) (by omega))
       clear hFq hoq
       generalize kp[j]=z at *
       go_wp2_with fail
       refine HEN.out.mono ?_
       rintro e w3 ⟨rfl,hu3,hd3,hs3⟩
       go_wp2
       go_roundw
       case rel=>exact ⟨j+1,by omega,by go_num,by rw [HA.out];exact HFQ.out.enter hu3 hd3 hs3,HFQ.out.row hu3 HOQ.out⟩
       case measure=>simp [intOf];omega
      ·have ej:kp.take j=kp:=List.take_of_length_le (by omega)
       rw [ej] at HFQ
       clear hFq hoq
       go_wp2
       go_roundw
       case rel=>exact ⟨i+1,by omega,by go_num,by rw [HE2.out];exact HFQ.out,by rw [HFL2.out];exact HOQ.out⟩
       case measure=>simp [intOf];omega
   ·have q23:(kx == 23)=false:=by simpa using h23
    have HFL2:Hid ((ls.take (i+1)).filter (fun x=>Tr.kindOf ns x != 23)=fl++[y]):=hide (by rw [HFL.out,if_neg h23])
    clear HFL hpl hkc hkk
    by_cases h20:kx=20∨kx=21
    ·have HE2:Hid (Tr.ents ns (Tr.makesOf ns ks (ls.take (i+1))) ([],s)=Tr.enterS ns y (sc,si)):=hide (by rw [HE.out,HM1.out,if_pos h20];rfl)
     have HEN:=hide (enter_any ns ks wb tg tc kg kc cg bg y (w.heap.size+1) w.heap.size sc si wr hn hxl.2 HIX.out HFI.out.dy HFI.out.c0 HFI.out.sp (by omega) (by omega) (by omega))
     clear HE HM1
     rcases h20 with rfl | rfl
     all_goals
      go_wp2_with fail
      refine HEN.out.mono ?_
      rintro e w3 ⟨rfl,hu3,hd3,hs3⟩
      have HF3:=hide (HFI.out.enter hu3 hd3 hs3)
      have HO3:=hide (HFI.out.row hu3 HO.out)
      have hz3:=HF3.out.sz
      clear hu3 hd3 hs3 HEN
      go_wp2_with (at_builtin;refine wpList_append_own_at _ rfl _ _ 42 rfl (w.heap.size+2) 3 iI (.int .i64 0) 1 8 Tryz.underlying42 hInt hIz hIs hIb rfl (by decide) (.slice a7 fl.length c7) fl.length (fl.map vint) rfl (HO3.out.alloc _) ⟨w3.heap.size,0,none⟩ 1 1 [.int .i64 y] rfl rfl (cell_one _ _ _) (by simp [Value.oneCell']) (by unfold maxLen;omega) (by omega) (by simp;omega) ?_)
      intro v4 w4 hown4 hgrow4 hnil4 hat4
      have HF4:=hide ((HF3.out.alloc _).grown hgrow4 (own_of HO3.out))
      have HO4:Hid (w4.ownsRow (w.heap.size+2) 3 1 v4 (fl++[y]).length ((fl++[y]).map vint)):=hide (by rw [List.map_append,List.length_append];exact hown4)
      clear hgrow4 hnil4 hat4 hown4
      go_wp2
      go_roundw
      case rel=>exact ⟨i+1,by omega,by go_num,by rw [HE2.out];exact HF4.out,by rw [HFL2.out];exact HO4.out⟩
      case measure=>simp [intOf];omega
    ·have q20:(kx == 20)=false:=by simp;omega
     have q21:(kx == 21)=false:=by simp;omega
     have HE2:Hid (Tr.ents ns (Tr.makesOf ns ks (ls.take (i+1))) ([],s)=(sc,si)):=hide (by rw [HE.out,HM1.out,if_neg h20,if_neg h23];rfl)
     clear HE HM1
     go_wp2_with (at_builtin;refine wpList_append_own_at _ rfl _ _ 42 rfl (w.heap.size+2) 3 iI (.int .i64 0) 1 8 Tryz.underlying42 hInt hIz hIs hIb rfl (by decide) (.slice a7 fl.length c7) fl.length (fl.map vint) rfl (HO.out.alloc _) ⟨wr.heap.size,0,none⟩ 1 1 [.int .i64 y] rfl rfl (cell_one _ _ _) (by simp [Value.oneCell']) (by unfold maxLen;omega) (by omega) (by simp;omega) ?_)
     intro v4 w4 hown4 hgrow4 hnil4 hat4
     have HF4:=hide ((HFI.out.alloc _).grown hgrow4 (own_of HO.out))
     have HO4:Hid (w4.ownsRow (w.heap.size+2) 3 1 v4 (fl++[y]).length ((fl++[y]).map vint)):=hide (by rw [List.map_append,List.length_append];exact hown4)
     clear hgrow4 hnil4 hat4 hown4
     go_wp2
     go_roundw
     case rel=>exact ⟨i+1,by omega,by go_num,by rw [HE2.out];exact HF4.out,by rw [HFL2.out];exact HO4.out⟩
     case measure=>simp [intOf];omega
  ·have e:ls.take i=ls:=List.take_of_length_le (by omega)
   rw [e] at HFI HO
   have HCH:=hide (HC.out.inner HFI.out.kp HFI.out.c0 HFI.out.c1 HFI.out.sp HFI.out.sz hl1 hl2)
   have HAL:=hide (all_any ns ks wb tg tc kg kc cg bg f G HG.out (ls.filter fun x=>Tr.kindOf ns x != 23) _ _ _ _ wr (fun x hx=>HLS.out x (List.mem_filter.1 hx).1) (by have:=flt_len ns ls;omega) HIX.out HFI.out.dy HCH.out (plv_of HO.out (by omega) (by omega)))
   have HKR:=hide hFi.kp
   clear hFi ho
   go_wp2_with fail
   refine HAL.out.mono ?_
   rintro e w2 ⟨rfl,hk2,hd2⟩
   go_wp2
   (first | go_end0 | refine bodyPost_ret (results_none rfl _ _ _) rfl ?_)
   exact ⟨rfl,HKR.out.trans hk2,hd2⟩
end Go.Proofs.YthbojbbmpcmoaaaGreatDoor
namespace Go.Proofs.YthbojbbmpcmoaaaGreatDoor.Vl
open Go.RowKit T.atoms T.ok T.high T.good T.allPlain
theorem hide {p:Prop} (h:p):Hid p:=h
theorem ret_bool {a b:Bool} (h:a=b):Ending.returned (.bool a) = .returned (.bool b):=by rw [h]
theorem ret_int {k:IntKind} {a b:Int} (h:a=b):Ending.returned (.int k a) = .returned (.int k b):=by rw [h]
def AtomsO (w:World) (g o:Nat) (l:List At):Prop:=g < w.heap.size∧∀ i (h:i < l.length),w.cell? ⟨g,o+i*4,none⟩=some (.int .i64 l[i].kind)∧w.cell? ⟨g,o+i*4+1,none⟩=some (.int .i64 l[i].n)∧w.cell? ⟨g,o+i*4+2,none⟩=some (.string l[i].text)∧w.cell? ⟨g,o+i*4+3,none⟩=some (.int .i64 l[i].kids)
theorem AtomsO.below {w w':World} {g o:Nat} {l:List At} (h:AtomsO w g o l) (hb:Below w.heap.size w w'):AtomsO w' g o l:=by
 refine ⟨Nat.lt_of_lt_of_le h.1 hb.size,fun i hi=>?_⟩
 obtain ⟨a,b,c,d⟩:=h.2 i hi
 exact ⟨(hb.cell (p:=⟨g,o+i*4,none⟩) h.1).trans a,(hb.cell (p:=⟨g,o+i*4+1,none⟩) h.1).trans b,(hb.cell (p:=⟨g,o+i*4+2,none⟩) h.1).trans c,(hb.cell (p:=⟨g,o+i*4+3,none⟩) h.1).trans d⟩
theorem AtomsO.part {w:World} {g o:Nat} {l a b c:List At} (h:AtomsO w g o l) (e:l=a++b++c):AtomsO w g (o+a.length*4) b:=by
 refine ⟨h.1,fun i hi=>?_⟩
 have q:=h.2 (a.length+i) (by rw [e];simp;omega)
 have e2:l[a.length+i]'(by rw [e];simp;omega)=b[i]:=by
  subst e
  rw [List.getElem_append_left (by simp;omega),List.getElem_append_right (by omega)]
  simp
 rw [e2,show o+(a.length+i)*4=o+a.length*4+i*4 from by omega] at q
 exact q
def AtomsV (w:World) (v:Value) (l:List At):Prop:=(∃ p c,v = .slice p 0 c∧l=[])∨∃ g o c,v = .slice (some ⟨g,o,none⟩) l.length c∧AtomsO w g o l∧l.length≤c
theorem AtomsV.below {w w':World} {v:Value} {l:List At} (h:AtomsV w v l) (hb:Below w.heap.size w w'):AtomsV w' v l:=by
 rcases h with h | ⟨g,o,c,h1,h2,h3⟩
 ·exact .inl h
 ·exact .inr ⟨g,o,c,h1,h2.below hb,h3⟩
def vint (x:Nat):Value:= .int .i64 x
theorem vint_one (l:List Nat):∀ u∈l.map vint,u.oneCell'=true:=by
 intro u hu
 obtain ⟨x,_,rfl⟩:=List.mem_map.1 hu
 rfl
theorem heap_alloc_new (w:World) (o:Obj):(w.alloc o).heap[w.heap.size]?=some o:=(Go.MapKept.heap_alloc w o).1
theorem add_plain (g o j:Nat):((⟨g,o,none⟩:Addr).add j)=⟨g,o+j,none⟩:=by unfold Addr.add;split <;> simp_all
theorem cell_one (w:World) (u:Value) (t:TypeId):∀ (j:Nat) (x:Value),([u]:List Value)[j]?=some x→(w.alloc (.cells #[u] t)).cell? ((⟨w.heap.size,0,none⟩:Addr).add j)=some x:=by
 intro j x h
 rw [add_plain,Nat.zero_add,World.cell?,heap_alloc_new]
 simpa using h
theorem row_mono {w:World} {base base':Nat} {e:TypeId} {size:Nat} {v:Value} {n:Nat} {xs:List Value} (h:w.ownsRow base e size v n xs) (hb:base'≤base):w.ownsRow base' e size v n xs:=by
 refine ⟨h.1,?_⟩
 rcases h.2 with h | ⟨g,cap,cur,h1,h2,h3⟩
 ·exact .inl h
 ·exact .inr ⟨g,cap,cur,h1,Nat.le_trans hb h2,h3⟩
theorem row_take {w:World} {base size:Nat} {e:TypeId} {g n cap:Nat} {xs:List Value} (h:w.ownsRow base e size (.slice (some ⟨g,0,none⟩) n cap) n xs) (m:Nat) (hm:m≤n):w.ownsRow base e size (.slice (some ⟨g,0,none⟩) m cap) m (xs.take (m * size)):=by
 obtain ⟨h1,h2⟩:=h
 have hms:m * size≤n * size:=Nat.mul_le_mul_right _ hm
 refine ⟨by rw [List.length_take,h1];omega,.inr ?_⟩
 rcases h2 with ⟨h2,_⟩ | ⟨g',cap',cur,hv,hb,hg,hn,hc,hs,ht⟩
 ·cases h2
 ·cases hv
  refine ⟨g,cap,cur,rfl,hb,hg,by omega,hc,hs,?_⟩
  rw [← ht,List.take_take,Nat.min_eq_left hms]
theorem row_room {w:World} {base:Nat} {e:TypeId} {size g n cap:Nat} {xs:List Value} (h:w.ownsRow base e size (.slice (some ⟨g,0,none⟩) n cap) n xs):n≤cap∧base≤g∧g < w.heap.size:=by
 have hl:=h.lt g rfl
 rcases h.2 with ⟨h2,_⟩ | ⟨g',cap',cur,hv,hb,hg,hn,hc,hs,ht⟩
 ·cases h2
 ·cases hv;exact ⟨hn,hl.1,hl.2⟩
theorem row_below {w w1:World} {base:Nat} {e:TypeId} {size:Nat} {v:Value} {n:Nat} {xs:List Value} (h:w.ownsRow base e size v n xs) (hb:Below w.heap.size w w1):w1.ownsRow base e size v n xs:=by
 have hg:w.grownBy w1 none:=⟨hb.os,hb.tape,hb.output,hb.size,fun k hk _=>hb.block k hk⟩
 refine h.kept hg ?_
 cases hv:v.ownBlock with
 | none=>exact .inl rfl
 | some k=>exact .inr (by simp)
theorem lies_form {w2:World} {b size:Nat} {e:TypeId} {v2:Value} {n g H:Nat} {xs:List Value} (hown:w2.ownsRow b e size v2 n xs) (hnil:¬ v2 = .slice none 0 0)
  (hat:v2.ownBlock=some g∨v2.ownBlock=some H):∃ g2 c2,v2 = .slice (some ⟨g2,0,none⟩) n c2∧(g2=g∨g2=H):=by
 rcases hown.2 with ⟨h,_⟩ | ⟨g2,c2,_,h,_⟩
 ·exact absurd h hnil
 ·subst h
  refine ⟨g2,c2,rfl,?_⟩
  simpa [Value.ownBlock] using hat
theorem grown_block {w w2:World} {o:Obj} {row:Option Nat} (h:(w.alloc o).grownBy w2 row) (g:Nat) (hg:g < w.heap.size) (hne:some g≠row):w2.heap[g]?=w.heap[g]?:=by
 have:=(Below.refl w.heap.size w).alloc (Nat.le_refl _) o
 exact (h.block g (by simp;omega) hne).trans (this.block g hg)
theorem AtomsO.heap {w w':World} {g o:Nat} {l:List At} (h:AtomsO w g o l) (hb:w'.heap[g]?=w.heap[g]?):AtomsO w' g o l:=by
 have h1:=h.1
 refine ⟨?_,fun j hj=>?_⟩
 ·rcases Nat.lt_or_ge g w'.heap.size with q | q
  ·exact q
  ·rw [Array.getElem?_eq_none q,Array.getElem?_eq_getElem h1] at hb;cases hb
 ·have:=h.2 j hj
  simp only [World.cell?] at this ⊢
  rw [hb]
  exact this
def KidsAt (w:World) (vs:List Value) (ks:List T):Prop:=vs.length=ks.length∧∀ j (h:j < ks.length),∃ g o c,vs[j]?=some (.slice (some ⟨g,o,none⟩) (ks[j]).count c)∧AtomsO w g o (ks[j]).atoms∧(ks[j]).count≤c
theorem KidsAt.below {w w':World} {vs:List Value} {ks:List T} (h:KidsAt w vs ks) (hb:Below w.heap.size w w'):KidsAt w' vs ks:=by
 refine ⟨h.1,fun j hj=>?_⟩
 obtain ⟨g,o,c,a,b,d⟩:=h.2 j hj
 exact ⟨g,o,c,a,b.below hb,d⟩
theorem step_call1 {P:Program} {ops:Array Oper} {o:Oper} {a:Act} {w:World} {K:Act→World→Prop} {Q:Exit→Act→World→Prop} {E:Prop}
  (hg:o.guard=none) (f:FuncId) (x:Operand) (t:TypeId) (hop:o.op=Op.call {callee:=Callee.value (Operand.func f),args:=#[x],argTypes:=#[t]})
  (v r:Value) (hx:a.eval x=v) (fn:Func) (hfn:P.funcs[f]?=some fn) (hne:(fn.name == "runtime.NumGoroutine")=false) (hbd:fn.body.isNone=false) (R:World→Prop) (hC:Calls P f #[v] w fun e w'=>e = .returned r∧R w') (hK:∀ w',R w'→K (a.put o.dst r) w') :
  if Region.wanted o (yielded ops a.tmps)=true then Oper.wp P o a w K Q else E:=by
 have hw:Region.wanted o (yielded ops a.tmps)=true:=by simp [Region.wanted,hg]
 rw [if_pos hw]
 have h1:(callFunc f #[v]).run P w = .ok (.enter f #[v]) w:=by
  simp only [callFunc,Sem.run_bind,run_program,Result.andThen_ok,hfn,hne,hbd];rfl
 unfold Oper.wp
 simp only [execOp,hop,resolve,invoke,List.map_toArray,List.map_cons,List.map_nil,hx,Deferred.ofValue,Sem.run_bind]
 rw [show a.eval (Operand.func f)=Value.func (Fn.func f) #[] #[] from rfl]
 simp only [Sem.run_pure,Result.andThen_ok]
 simp [h1]
 refine hC.mono fun e w2 h=>?_
 obtain ⟨rfl,h2⟩:=h
 exact hK _ h2
theorem step_append_own {P:Program} {ops:Array Oper} {o:Oper} {a:Act} {w:World} {K:Act→World→Prop} {Q:Exit→Act→World→Prop} {E:Prop}
  (hgd:o.guard=none) (s x:Operand) (t:TypeId) (ho:o.op = .call {callee:= .builtin .append,args:=#[s,x],argTypes:=#[t,t]})
  (base:Nat) (e:TypeId) (i:TypeInfo) (z:Value) (size bytes:Nat) (ht:P.underlying t=some (.slice e)) (hi:P.info? e=some i) (hz:i.zero=some z)
  (hsize:i.size=size) (hby:i.bytes=bytes) (hzs:z.cells.size=size) (hsz:0 < size)
  (v:Value) (n:Nat) (xs:List Value) (hs:a.eval s=v) (hown:w.ownsRow base e size v n xs)
  (ad:Addr) (m c:Nat) (news:List Value) (hx:a.eval x = .slice (some ad) m c) (hl:news.length=m * size) (hnews:∀ j u,news[j]?=some u→w.cell? (ad.add j)=some u) (h1:∀ u∈news,u.oneCell'=true)
  (h63:n+m≤maxLen) (hbytes:(n+m) * bytes≤140737488355328) (hbase:base≤w.heap.size)
  (hK:∀ v' w',w'.ownsRow base e size v' (n+m) (xs++news)→w.grownBy w' v.ownBlock→(v' = .slice none 0 0↔v = .slice none 0 0∧m=0)→(v'.ownBlock=v.ownBlock∨v'.ownBlock=some w.heap.size)→K (a.put o.dst v') w') :
  if Region.wanted o (yielded ops a.tmps)=true then Oper.wp P o a w K Q else E:=by
 have hw:Region.wanted o (yielded ops a.tmps)=true:=by simp [Region.wanted,hgd]
 rw [if_pos hw]
 obtain ⟨v',w',hr,h2,h3,h4,h5⟩:=run_append_own_at (P:=P) w base t o.type e i z size bytes ht hi hz hsize hby hzs hsz v n xs hown ad m c news hl hnews h1 h63 hbytes hbase
 unfold Oper.wp execOp
 simp only [ho,resolve,invoke,builtin,Sem.run_bind,Sem.run_pure,Result.andThen_ok,List.map_toArray,List.map_cons,List.map_nil,hs,hx,hr]
 exact hK _ _ h2 h3 h4 h5
def KB (w:World):Type:={x:World // Below w.heap.size w x}
def KB.w {w:World} (q:KB w):World:=q.1
theorem KB.below {w:World} (q:KB w):Below w.heap.size w q.w:=q.2
theorem kb_call {P:Program} {f:FuncId} {args:Array Value} {r:Value} {w:World} (h:∀ w1,Below w.heap.size w w1→Calls P f args w1 fun e w'=>e = .returned r∧Below w1.heap.size w1 w') (q:KB w) :
  Calls P f args q.w fun e w''=>e = .returned r∧∃ q':KB w,w''=q'.w :=
 (h q.w q.2).mono fun _ w2 hw=>⟨hw.1,⟨⟨w2,q.2.trans (hw.2.mono q.2.size)⟩,rfl⟩⟩
theorem region_class {P:Program} {α:Type} (c:α→World) {id:Nat} {Q:Exit→Act→World→Prop} {a:Act} {w:World} {l:List Oper} (hm:P.follows .mixedOrders=true) (hB:Region.lexB .any l.toArray=true) (h0:∃ q,w.drewN 1=c q)
  (h:wpQuiet P l.toArray (fun w'=>∃ q,w'=c q) (fun a'=>∀ w',(∃ q,w'=c q)→Q .normal a' w') l a):(Code.region id l.toArray true).wp P Q a w :=
 wp_region_quiet (C:=fun w'=>∃ q,w'=c q) hm hB h0 (by simpa using h)
theorem Tryz.infoInt:(Tryz.prog.info? 3).map (fun i=>(i.zero,i.size,i.bytes))=some (some (.int .i64 0),1,8):=by kernel_rfl
theorem Tryz.infoVal:(Tryz.prog.info? 71).map (fun i=>(i.zero,i.size,i.bytes))=some (some (.agg #[.slice none 0 0]),1,24):=by kernel_rfl
end Go.Proofs.YthbojbbmpcmoaaaGreatDoor.Vl
