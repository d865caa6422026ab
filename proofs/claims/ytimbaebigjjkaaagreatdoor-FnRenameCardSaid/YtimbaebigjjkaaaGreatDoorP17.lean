/- Hv, Hw. -/
import Derived.Test.YtimbaebigjjkaaaGreatDoorP16
import Derived.BigQuiet
namespace Go.Proofs.YtimbaebigjjkaaaGreatDoor
open Go.RowKit
theorem rowLeP {w:World} {base base' size:Nat} {e:TypeId} {v:Value} {n:Nat} {xs:List Value} (h:w.ownsRow base e size v n xs) (hb:base'≤base):w.ownsRow base' e size v n xs:=by
 refine ⟨h.1,?_⟩
 rcases h.2 with h1 | ⟨g',cap',cur,hv,h2,h3⟩
 ·exact .inl h1
 ·exact .inr ⟨g',cap',cur,hv,Nat.le_trans hb h2,h3⟩
theorem U5 {q:Pr.Dk} {n:Nat} {l:List Tr.Nd} (hl:(Xj q 24 0 0 [] n).o=l) (hb:q.bad=false) (hv:XS l=false):ZA (q,n)=([],7,0):=by
 have e:q.o++[⟨24,0,0,⟨#[]⟩,(n:Int)⟩]=l:=hl
 unfold ZA
 rw [if_neg (by simp [hb]),if_neg (by simp only [e,hv];decide)]
theorem Js {q:Pr.Dk} {n:Nat} {l:List Tr.Nd} (hl:(Xj q 24 0 0 [] n).o=l) (hb:q.bad=false) (hv:XS l=true):ZA (q,n)=(l,0,0):=by
 have e:q.o++[⟨24,0,0,⟨#[]⟩,(n:Int)⟩]=l:=hl
 unfold ZA
 rw [if_neg (by simp [hb]),if_pos (by simp only [e,hv])]
 simp only [e]
set_option maxRecDepth 100000 in
set_option maxHeartbeats 4000000 in
theorem parse_toks (s:ByteArray) (w:World) (hs:s.size≤1048576) (hc:YK s=0) (hne:(Zt s)≠[]) :
  Calls Tryz.prog 32 #[.string s] w fun e w'=>∃ r,KY s r∧ParsePost w (ZA r) e w':=by
 have HP0:=X1 (PB.new w)
 have HQ:=X1 (sscan_any s ((w.alloc treeO).alloc (fltO 0 0)) hs)
 have hci:((YK s:Nat):Int)=0:=by omega
 have hln:=Sc.toks_lenP s
 have HCO:Hid (∀ r,Pr.Cv (Zt s) s.size (.fileL 0) K7 r→KY s r):=X1 (fun _ h=>h)
 rw [hci] at HQ
 have HNE:=X1 hne
 clear hci hne
 go_enter Tryz.func32,Tryz.ntmps32
 go_wp2_with fail
 refine HQ.o.mono ?_
 rintro e w1 ⟨v,rfl,I,hb1⟩
 have U:=(HP0.o.below hb1).below (bA (fltO 0 (YR s)))
 have hz2:=U.z
 generalize Zt s=ts at *
 rcases I.2 with ⟨_,h0⟩ | ⟨tg,tc,cur,hv,_⟩
 ·exact absurd (List.eq_nil_of_length_eq_zero h0) HNE.o
 ·subst hv
  have a4:=Yu I ((Below.refl w1.heap.size w1).alloc (Nat.le_refl _) (fltO 0 (YR s)))
  have hd:=DK.init (sz:=s.size) a4 (by omega)
  have hp3:=U.below (bA (.cells #[.slice (some ⟨tg,0,none⟩) ts.length tc,.int .i64 s.size,.int .i64 0,.bool false,.int .i64 0,.slice none 0 0] 104))
  rw [World.size_alloc] at hd
  have HD0:=X1 hd
  have Q:Hid (QF ts K7≤1000000):=X1 (by unfold QF K7;simp;omega)
  have HP3:=X1 hp3
  have HZ2:=X1 hz2
  clear hd U hp3 a4 I hb1 HQ hz2
  go_wp2_with fail
  go_loopw [7] (fun t wr=>∃ (n:Nat) (q:Pr.Dk) (vq:Value),t = .int .i64 n∧n≤q.p+1∧(q.bad=false→n≤q.p)∧DK (w1.heap.size+1) tg tc ts s.size vq q wr∧Pr.Gr (w1.heap.size+1) (.slice none 0 0) vq ((w1.alloc (fltO 0 (YR s))).alloc (.cells #[.slice (some ⟨tg,0,none⟩) ts.length tc,.int .i64 s.size,.int .i64 0,.bool false,.int .i64 0,.slice none 0 0] 104)) wr∧Pr.Stp ts K7 q 0∧∀ rr,Pr.Cv ts s.size (.fileL n) q rr→KY s rr) (fun _ wr=>J6 (w1.heap.size+1) ts wr)
  case atStart=>exact ⟨0,K7,_,rfl,Nat.zero_le _,fun _=>Nat.zero_le _,HD0.o,.refl _ _ _,.refl (Nat.zero_le _),HCO.o⟩
  case round =>
   obtain ⟨n,q,v30,rfl,hn1,hn2,d,a1,a5,a2⟩:=hrel
   have c0:=d.c0
   have c2:=d.c2
   have c3:=d.c3
   have hle:=d.le
   have m:=X1 d
   have D:=X1 a1
   have u:=X1 a5
   have F:=X1 a2
   clear d a1 a5 a2
   cases hbad:q.bad
   ·rw [hbad] at c3
    have hnp:=hn2 hbad
    by_cases hlt:q.p < ts.length
    ·have a3:(q.p:Int) < (ts.length:Int):=by omega
     have HF:=X1 (show (q.bad || decide (ts.length≤q.p))=false from by rw [hbad];simp;omega)
     have f:=m.o.below (Below.refl _ _).drew
     have A:=X1 f
     have E:=X1 (D.o.trans (.below (Below.refl _ _).drew))
     clear f
     go_wp2_with fail
     go_region
     all_goals
      have M:=X1 (Pr.statement_any _ _ _ _ _ q _ _ A.o (u.o.phi (by first | omega | (simp only [X6];omega)) (Nat.zero_le _) Q.o))
      go_wp2_with fail
      refine M.o.mono ?_
      rintro e32 y ⟨N,rfl,x,v32,i,j⟩
      have a6:=X1 x
      have C:=X1 i
      have a7:=X1 (E.o.trans j)
      have V:=x.stp hle
      have a9:Hid (Pr.Stp ts K7 N.1 0):=X1 ((u.o.trans V).mono (by simp only [X6];omega))
      have S:=x.on
      have HNA:=X1 (show n+1≤N.1.p+1 from by have:=V.ge;omega)
      have HNB:=X1 (show N.1.bad=false→n+1≤N.1.p from fun h=>by rcases S with h1 | h1;rw [h] at h1;cases h1;omega)
      have HM:=X1 (show J6 (w1.heap.size+1) ts y < J6 (w1.heap.size+1) ts wr from by
       rw [C.o.leftB,m.o.leftB,hbad]
       rcases S with h1 | h1
       ·rw [h1];simp
       ·have:=C.o.le
        simp only [Bool.false_eq_true,if_false]
        split <;> omega)
      clear x i j V S M
      go_wp2
      go_roundw
      case rel=>exact ⟨n+1,N.1,v32,by go_num,HNA.o,HNB.o,C.o,a7.o,a9.o,fun rr h=>F.o _ (Pr.Cv.fileL_go HF.o a6.o h)⟩
      case measure=>exact HM.o
    ·have a3:¬ (q.p:Int) < (ts.length:Int):=by omega
     have hltd:decide ((q.p:Int) < (ts.length:Int))=false:=by simpa using a3
     have HR:=X1 (F.o _ (Pr.Cv.fileL_end (by rw [hbad];simp;omega)))
     have f:=m.o.below (Below.refl _ _).drew
     have c3d:=f.c3
     rw [hbad] at c3d
     have A:=X1 f
     have E:=X1 (D.o.trans (.below (Below.refl _ _).drew))
     have hol:q.o.length≤100000000:=u.o.len (by first | omega | (simp only [X6];omega)) (Nat.zero_le _) Q.o
     have hol2:q.o.length≤1000000:=by have h1:=u.o.phi (by first | omega | (simp only [X6];omega)) (Nat.zero_le _) Q.o;unfold QF at h1;omega
     have hb4:w.heap.size+1 < w1.heap.size+1:=by have:=HZ2.o;simp at this;omega
     have HB4:=X1 hb4
     clear f hb4
     go_wp2_with fail
     go_region
     all_goals
      have M:=X1 (XR A.o hol 24 0 0 [] n)
      go_wp2_with fail
      refine M.o.mono ?_
      rintro e32 y ⟨rfl,v32,i,j⟩
      obtain ⟨L,hL⟩:∃ L,(Xj q 24 0 0 [] n).o=L:=⟨_,rfl⟩
      have hLl:L.length=q.o.length+1:=by rw [← hL,Pr.put_len]
      have P:=i.row
      rw [hL] at P
      rcases P.2 with ⟨_,h0⟩ | ⟨g,cp,cur2,hv,_⟩
      ·omega
      subst hv
      have k:=(HP3.o.gr (E.o.trans j) HB4.o (fun _ e=>by cases e)).below (bA (.cells #[.slice (some ⟨g,0,none⟩) L.length cp] 25))
      have c5:=i.c5
      have l:=Yu P ((Below.refl y.heap.size y).alloc (Nat.le_refl _) (.cells #[.slice (some ⟨g,0,none⟩) L.length cp] 25))
      have hll:L.length≤1048576:=by omega
      have HV:=X1 (valid_any L g cp _ hll (QL l))
      have a8:=X1 l
      have O:=X1 k
      have HLL:=X1 hL
      clear i j l k M P hL
      obtain ⟨bv,J⟩:∃ b,XS L=b:=⟨_,rfl⟩
      rw [J] at HV
      have HVL:=X1 J
      clear J hll hLl
      cases bv
      ·go_wp2_with fail
       refine HV.o.mono ?_
       rintro e33 w33 ⟨rfl,c⟩
       have a:=O.o.below c
       have t0:=a.t0
       have f0:=a.f0
       have f1:=a.f1
       have ft:=a.ft
       have ff0:=a.ff 0
       have ff1:=a.ff 1
       have H:=X1 a
       have K:=X1 (U5 HLL.o hbad HVL.o)
       clear c a
       go_wp2
       refine bodyPost_ret (v:= .tuple #[.agg #[.slice none 0 0],.agg #[.int .i64 7,.int .i64 0]]) (by simp [results,Tryz.results32,go_sem,t0,f0,f1]) rfl ⟨(q,n),HR.o,?_⟩
       rw [K.o]
       refine ⟨_,rfl,World.ownsRow_nil _ _ _ _,?_⟩
       repeat (first | (refine Below.setCell ?_ (by show w.heap.size≤_;simp) _) | (refine Below.drew ?_))
       exact H.o.B
      ·go_wp2_with fail
       refine HV.o.mono ?_
       rintro e33 w33 ⟨rfl,c⟩
       have a:=O.o.below c
       have t0:=a.t0
       have f0:=a.f0
       have f1:=a.f1
       have ft:=a.ft
       have ff0:=a.ff 0
       have ff1:=a.ff 1
       have x0:w33.cell? ⟨y.heap.size,0,none⟩=some (Value.slice (some ⟨g,0,none⟩) L.length cp):=(c.cell (p:=⟨y.heap.size,0,none⟩) (show y.heap.size < (y.alloc (.cells #[.slice (some ⟨g,0,none⟩) L.length cp] 25)).heap.size by simp)).trans (by simp [go_sem])
       have a0:=X1 (rowLeP (Yu a8.o c) (show w.heap.size+2≤w1.heap.size+1+1 by have:=HB4.o;omega))
       have H:=X1 a
       have K:=X1 (Js HLL.o hbad HVL.o)
       clear c a
       go_wp2
       refine bodyPost_ret (v:= .tuple #[.agg #[.slice (some ⟨g,0,none⟩) L.length cp],.agg #[.int .i64 0,.int .i64 0]]) (by simp [results,Tryz.results32,go_sem,t0,f0,f1]) rfl ⟨(q,n),HR.o,?_⟩
       rw [K.o]
       refine ⟨_,rfl,?_,?_⟩
       ·refine rowLeP (base:=w.heap.size+2) ?_ (by omega)
        repeat (refine ownsRow_setCell_below ?_ (by show _ < w.heap.size+2;simp) _)
        exact a0.o
       ·repeat (first | (refine Below.setCell ?_ (by show w.heap.size≤_;simp) _) | (refine Below.drew ?_))
        exact H.o.B
   ·rw [hbad] at c3
    have c4:=m.o.c4
    have k:=HP3.o.gr D.o (by have:=HZ2.o;simp at this;omega) (fun _ e=>by cases e)
    have t0:=k.t0
    have f0:=k.f0
    have f1:=k.f1
    have ft:=k.ft
    have ff0:=k.ff 0
    have ff1:=k.ff 1
    have O:=X1 k
    have HR:=X1 (F.o _ (Pr.Cv.fileL_end (by rw [hbad];rfl)))
    have K:=X1 (show ZA (q,n)=([],6,q.place) from by unfold ZA;simp [hbad])
    clear k
    go_wp2_with fail
    go_region
    all_goals
     go_wp2
     go_region
     all_goals
      try go_wp2
      refine bodyPost_ret (v:= .tuple #[.agg #[.slice none 0 0],.agg #[.int .i64 6,.int .i64 q.place]]) (by simp [results,Tryz.results32,go_sem,t0,f0,f1]) rfl ⟨(q,n),HR.o,?_⟩
      rw [K.o]
      refine ⟨_,rfl,World.ownsRow_nil _ _ _ _,?_⟩
      repeat (first | (refine Below.setCell ?_ (by show w.heap.size≤_;simp) _) | (refine Below.drew ?_))
      exact O.o.B
set_option maxRecDepth 100000 in
set_option maxHeartbeats 1000000 in
theorem put_first {b:Nat} {w:World} (hc:w.cell? ⟨b,5,none⟩=some (.slice none 0 0)) (hf:w.frozen? ⟨b,5,none⟩=false) (k o n:Int) (t:List UInt8) (c:Nat) :
  Calls Tryz.prog 60 #[.pointer (some ⟨b,0,none⟩),.agg #[.int .i64 k,.int .i64 o,.int .i64 n,.string ⟨t.toArray⟩,.int .i64 c]] w fun e w'=>e = .returned (.tuple #[])∧∃ v',w'.cell? ⟨b,5,none⟩=some v'∧w'.ownsRow (b+1) 35 5 v' 1 (Tr.Nd.cells ⟨k,o,n,⟨t.toArray⟩,c⟩)∧Pr.Gr b (.slice none 0 0) v' w w':=by
 obtain ⟨iN,hN,hNz,hNs,hNb⟩:=info_parts Tryz.infoNdP
 have hl:b < w.heap.size:=World.block_lt_of_cell? w ⟨b,5,none⟩ hc
 have bb:Below w.heap.size w (w.alloc (.cells #[.int .i64 k,.int .i64 o,.int .i64 n,.string ⟨t.toArray⟩,.int .i64 c] 35)):=bA _
 have c5:(w.alloc (.cells #[.int .i64 k,.int .i64 o,.int .i64 n,.string ⟨t.toArray⟩,.int .i64 c] 35)).cell? ⟨b,5,none⟩=some (.slice none 0 0):=(bb.cell (p:=⟨b,5,none⟩) hl).trans hc
 have f5:(w.alloc (.cells #[.int .i64 k,.int .i64 o,.int .i64 n,.string ⟨t.toArray⟩,.int .i64 c] 35)).frozen? ⟨b,5,none⟩=false:=(bb.frozen (p:=⟨b,5,none⟩) hl).trans hf
 have hz1:(w.alloc (.cells #[.int .i64 k,.int .i64 o,.int .i64 n,.string ⟨t.toArray⟩,.int .i64 c] 35)).heap.size=w.heap.size+1:=by simp
 have b2:Below w.heap.size w ((w.alloc (.cells #[.int .i64 k,.int .i64 o,.int .i64 n,.string ⟨t.toArray⟩,.int .i64 c] 35)).alloc (.cells #[.int .i64 k,.int .i64 o,.int .i64 n,.string ⟨t.toArray⟩,.int .i64 c] 35)).drew:=(bb.alloc (by simp) (.cells #[.int .i64 k,.int .i64 o,.int .i64 n,.string ⟨t.toArray⟩,.int .i64 c] 35)).drew
 have C3:=X1 ((b2.cell (p:=⟨b,5,none⟩) hl).trans hc)
 have F3:=X1 ((b2.frozen (p:=⟨b,5,none⟩) hl).trans hf)
 have G3:Hid (Pr.Gr b (.slice none 0 0) (.slice none 0 0) w ((w.alloc (.cells #[.int .i64 k,.int .i64 o,.int .i64 n,.string ⟨t.toArray⟩,.int .i64 c] 35)).alloc (.cells #[.int .i64 k,.int .i64 o,.int .i64 n,.string ⟨t.toArray⟩,.int .i64 c] 35)).drew):=X1 (.below b2)
 have L3:Hid (b < ((w.alloc (.cells #[.int .i64 k,.int .i64 o,.int .i64 n,.string ⟨t.toArray⟩,.int .i64 c] 35)).alloc (.cells #[.int .i64 k,.int .i64 o,.int .i64 n,.string ⟨t.toArray⟩,.int .i64 c] 35)).drew.heap.size):=X1 (Nat.lt_of_lt_of_le hl b2.size)
 clear b2 bb hc hf
 go_enter Tryz.func60,Tryz.ntmps60
 go_wp2_with fail
 go_region_law ((refine Ya rfl (.tmp 8) (.tmp 10) 23 rfl (b+1) 35 iN _ 5 48 Tryz.underlying23 hN hNz hNs hNb rfl (by decide) (.slice none 0 0) 0 [] (by simp [Act.eval]) (World.ownsRow_nil _ _ _ _) ⟨w.heap.size+1,0,none⟩ 1 1 [.int .i64 k,.int .i64 o,.int .i64 n,.string ⟨t.toArray⟩,.int .i64 c] (by simp [Act.eval]) rfl (Jy _ [_,_,_,_,_] _ _ (by simp)) (by simp [Value.oneCell']) (by unfold maxLen;omega) (by omega) (by have:=L3.o;omega) ?_;intro v5 w5 r1 r2 r3 r4;obtain ⟨p5,c5',rfl⟩:=Xc r1;have q5:=(World.cell?_of_block (a:=⟨b,5,none⟩) (r2.block b L3.o (fun e=>by cases e))).trans C3.o;have q6:=(World.frozen?_of_block (a:=⟨b,5,none⟩) (r2.block b L3.o (fun e=>by cases e))).trans F3.o))
 all_goals
  have HR1:=X1 r1
  have HR2:=X1 r2
  have HR4:=X1 r4
  have HQ5:=X1 q5
  clear r1 r2 r3 r4
  go_wp2
  (first | go_end0 | refine bodyPost_ret (results_none rfl _ _ _) rfl ?_)
  refine ⟨rfl,_,World.cell?_setCell_same _ _ _ HQ5.o,?_,(G3.o.trans (.grown HR2.o HR4.o)).trans (.set _ _ _ _ _)⟩
  exact J7 HR1.o (fun g hg' _=>Below.heap_setCell _ _ _ _ (show g≠b by omega))
set_option maxRecDepth 100000 in
set_option maxHeartbeats 4000000 in
theorem parse_none (s:ByteArray) (w:World) (hs:s.size≤1048576) (hc:YK s=0) (hne:Zt s=[]) :
  Calls Tryz.prog 32 #[.string s] w fun e w'=>∃ r,KY s r∧ParsePost w (ZA r) e w':=by
 have HP0:=X1 (PB.new w)
 have HQ:=X1 (sscan_any s ((w.alloc treeO).alloc (fltO 0 0)) hs)
 have hci:((YK s:Nat):Int)=0:=by omega
 have HR:Hid (KY s (K7,0)):=X1 (by unfold KY;rw [hne];exact Pr.Cv.fileL_end rfl)
 rw [hci,hne] at HQ
 clear hci hne
 go_enter Tryz.func32,Tryz.ntmps32
 go_wp2_with fail
 refine HQ.o.mono ?_
 rintro e w1 ⟨v,rfl,a2,hb1⟩
 have u:=(HP0.o.below hb1).below (bA (fltO 0 (YR s)))
 obtain ⟨tp,tq,hv⟩:=Xc a2
 simp only [List.length_nil] at hv
 subst hv
 have hb4:w.heap.size+1 < w1.heap.size+1:=by have:=u.z;simp at this;omega
 have HB4:=X1 hb4
 have hp3:=u.below (bA (.cells #[.slice tp 0 tq,.int .i64 s.size,.int .i64 0,.bool false,.int .i64 0,.slice none 0 0] 104))
 have c0:((w1.alloc (fltO 0 (YR s))).alloc (.cells #[.slice tp 0 tq,.int .i64 s.size,.int .i64 0,.bool false,.int .i64 0,.slice none 0 0] 104)).cell? ⟨w1.heap.size+1,0,none⟩=some (.slice tp 0 tq):=by rw [show w1.heap.size+1=(w1.alloc (fltO 0 (YR s))).heap.size from by simp];simp
 have c2:((w1.alloc (fltO 0 (YR s))).alloc (.cells #[.slice tp 0 tq,.int .i64 s.size,.int .i64 0,.bool false,.int .i64 0,.slice none 0 0] 104)).cell? ⟨w1.heap.size+1,2,none⟩=some (.int .i64 0):=by rw [show w1.heap.size+1=(w1.alloc (fltO 0 (YR s))).heap.size from by simp];simp
 have c3:((w1.alloc (fltO 0 (YR s))).alloc (.cells #[.slice tp 0 tq,.int .i64 s.size,.int .i64 0,.bool false,.int .i64 0,.slice none 0 0] 104)).cell? ⟨w1.heap.size+1,3,none⟩=some (.bool false):=by rw [show w1.heap.size+1=(w1.alloc (fltO 0 (YR s))).heap.size from by simp];simp
 have c5:((w1.alloc (fltO 0 (YR s))).alloc (.cells #[.slice tp 0 tq,.int .i64 s.size,.int .i64 0,.bool false,.int .i64 0,.slice none 0 0] 104)).cell? ⟨w1.heap.size+1,5,none⟩=some (.slice none 0 0):=by rw [show w1.heap.size+1=(w1.alloc (fltO 0 (YR s))).heap.size from by simp];simp
 have f5:((w1.alloc (fltO 0 (YR s))).alloc (.cells #[.slice tp 0 tq,.int .i64 s.size,.int .i64 0,.bool false,.int .i64 0,.slice none 0 0] 104)).frozen? ⟨w1.heap.size+1,5,none⟩=false:=by rw [show w1.heap.size+1=(w1.alloc (fltO 0 (YR s))).heap.size from by simp];simp
 have HP3:=X1 hp3
 obtain ⟨W2,q⟩:∃ W,(w1.alloc (fltO 0 (YR s))).alloc (.cells #[.slice tp 0 tq,.int .i64 s.size,.int .i64 0,.bool false,.int .i64 0,.slice none 0 0] 104)=W:=⟨_,rfl⟩
 rw [q] at c0 c2 c3 c5 f5 HP3
 have HC5:=X1 c5
 have HF5:=X1 f5
 have HW2:=X1 q
 clear u hp3 a2 hb1 HQ hb4 q c5 f5
 go_wp2_with fail
 rw [HW2.o]
 go_loopw [7] (fun t wr=>t = .int .i64 0∧wr=W2) (fun _ _=>0)
 case atStart=>exact ⟨rfl,rfl⟩
 case round =>
  obtain ⟨rfl,rfl⟩:=hrel
  have c3d:wr.drew.cell? ⟨w1.heap.size+1,3,none⟩=some (.bool false):=c3
  go_wp2_with fail
  go_region
  all_goals
   have Q32:=X1 (put_first (show wr.drew.cell? ⟨w1.heap.size+1,5,none⟩=_ from HC5.o) (show wr.drew.frozen? ⟨w1.heap.size+1,5,none⟩=_ from HF5.o) 24 0 0 [] 0)
   go_wp2_with fail
   refine Q32.o.mono ?_
   rintro e32 l ⟨rfl,v32,c5,m,a1⟩
   obtain ⟨L,hL⟩:∃ L,(Xj K7 24 0 0 [] 0).o=L:=⟨_,rfl⟩
   have hLl:L.length=1:=by rw [← hL,Pr.put_len];rfl
   have m:l.ownsRow (w1.heap.size+1+1) 35 5 v32 L.length (X2 L):=by rw [hLl,← hL];exact m
   rcases m.2 with ⟨_,h0⟩ | ⟨g,cp,cur2,hv,_⟩
   ·omega
   subst hv
   have hpb:=((HP3.o.below (Below.refl _ _).drew).gr a1 HB4.o (fun _ e=>by cases e)).below (bA (.cells #[.slice (some ⟨g,0,none⟩) L.length cp] 25))
   have i:=Yu m ((Below.refl l.heap.size l).alloc (Nat.le_refl _) (.cells #[.slice (some ⟨g,0,none⟩) L.length cp] 25))
   have hll:L.length≤1048576:=by omega
   have HV:=X1 (valid_any L g cp _ hll (QL i))
   have a3:=X1 i
   have HPB:=X1 hpb
   have HLL:=X1 hL
   clear a1 i hpb Q32 m hL
   obtain ⟨bv,k⟩:∃ b,XS L=b:=⟨_,rfl⟩
   rw [k] at HV
   have HVL:=X1 k
   clear k hll hLl
   cases bv
   ·go_wp2_with fail
    refine HV.o.mono ?_
    rintro e33 w33 ⟨rfl,f⟩
    have c:=HPB.o.below f
    have t0:=c.t0
    have f0:=c.f0
    have f1:=c.f1
    have ft:=c.ft
    have ff0:=c.ff 0
    have ff1:=c.ff 1
    have j:=X1 c
    have n:=X1 (U5 HLL.o rfl HVL.o)
    clear f c
    go_wp2
    refine bodyPost_ret (v:= .tuple #[.agg #[.slice none 0 0],.agg #[.int .i64 7,.int .i64 0]]) (by simp [results,Tryz.results32,go_sem,t0,f0,f1]) rfl ⟨(K7,0),HR.o,?_⟩
    rw [n.o]
    refine ⟨_,rfl,World.ownsRow_nil _ _ _ _,?_⟩
    repeat (first | (refine Below.setCell ?_ (by show w.heap.size≤_;simp) _) | (refine Below.drew ?_))
    exact j.o.B
   ·go_wp2_with fail
    refine HV.o.mono ?_
    rintro e33 w33 ⟨rfl,f⟩
    have c:=HPB.o.below f
    have t0:=c.t0
    have f0:=c.f0
    have f1:=c.f1
    have ft:=c.ft
    have ff0:=c.ff 0
    have ff1:=c.ff 1
    have x0:w33.cell? ⟨l.heap.size,0,none⟩=some (Value.slice (some ⟨g,0,none⟩) L.length cp):=(f.cell (p:=⟨l.heap.size,0,none⟩) (show l.heap.size < (l.alloc (.cells #[.slice (some ⟨g,0,none⟩) L.length cp] 25)).heap.size by simp)).trans (by simp [go_sem])
    have a0:=X1 (rowLeP (Yu a3.o f) (show w.heap.size+2≤w1.heap.size+1+1 by have:=HB4.o;omega))
    have j:=X1 c
    have n:=X1 (Js HLL.o rfl HVL.o)
    clear f c
    go_wp2
    refine bodyPost_ret (v:= .tuple #[.agg #[.slice (some ⟨g,0,none⟩) L.length cp],.agg #[.int .i64 0,.int .i64 0]]) (by simp [results,Tryz.results32,go_sem,t0,f0,f1]) rfl ⟨(K7,0),HR.o,?_⟩
    rw [n.o]
    refine ⟨_,rfl,?_,?_⟩
    ·refine rowLeP (base:=w.heap.size+2) ?_ (by omega)
     repeat (refine ownsRow_setCell_below ?_ (by show _ < w.heap.size+2;simp) _)
     exact a0.o
    ·repeat (first | (refine Below.setCell ?_ (by show w.heap.size≤_;simp) _) | (refine Below.drew ?_))
     exact j.o.B
def Pr.Parsed (s:ByteArray) (r:List Tr.Nd × Nat × Nat):Prop:=(YK s≠0∧r=([],YK s,YR s))∨(YK s=0∧∃ d,KY s d∧r=ZA d)
theorem sparse_any (s:ByteArray) (w:World) (hs:s.size≤1048576) :
  Calls Tryz.prog 32 #[.string s] w fun e w'=>∃ r,Pr.Parsed s r∧ParsePost w r e w':=by
 by_cases hc:YK s=0
 ·by_cases hn:Zt s=[]
  ·exact (parse_none s w hs hc hn).mono (fun e w' ⟨r,hr,hp⟩=>⟨_,.inr ⟨hc,r,hr,rfl⟩,hp⟩)
  ·exact (parse_toks s w hs hc hn).mono (fun e w' ⟨r,hr,hp⟩=>⟨_,.inr ⟨hc,r,hr,rfl⟩,hp⟩)
 ·exact (parse_fault s w hs hc).mono (fun e w' ⟨he,hb⟩=>⟨_,.inl ⟨hc,rfl⟩,_,he,World.ownsRow_nil _ _ _ _,hb⟩)
theorem Tr.valid_len {l:List Tr.Nd} (h:XS l=true):l.length≤5000:=by
 unfold XS at h
 simp only [Bool.and_eq_true] at h
 have:=Zh h.1.1.1
 omega
theorem Pr.Parsed.len {s:ByteArray} {r:List Tr.Nd × Nat × Nat} (h:Pr.Parsed s r):r.1.length≤5000:=by
 rcases h with ⟨h1,rfl⟩ | ⟨h1,d,hd,rfl⟩
 ·exact Nat.zero_le _
 ·unfold ZA
  split
  ·exact Nat.zero_le _
  ·split
   ·rename_i _ hv
    exact Tr.valid_len hv
   ·exact Nat.zero_le _
end Go.Proofs.YtimbaebigjjkaaaGreatDoor
