/- Hs, Ht, Hu, Hv, Hw. -/
import Derived.Test.YthbfdaifgnhkbaaGreatDoorM29
import Derived.BigQuiet
namespace Go.Proofs.YthbfdaifgnhkbaaGreatDoor
open Go.RowKit
abbrev treeO:Obj:= .cells #[.slice none 0 0] 25
abbrev fltO (a b:Int):Obj:= .cells #[.int .i64 a,.int .i64 b] 28
structure PB (w W:World):Prop where
 B:Below w.heap.size w W
 z:w.heap.size+1 < W.heap.size
 t0:W.cell? ⟨w.heap.size,0,none⟩=some (.slice none 0 0)
 f0:W.cell? ⟨w.heap.size+1,0,none⟩=some (.int .i64 0)
 f1:W.cell? ⟨w.heap.size+1,1,none⟩=some (.int .i64 0)
 ft:W.frozen? ⟨w.heap.size,0,none⟩=false
 ff:∀ j,W.frozen? ⟨w.heap.size+1,j,none⟩=false
theorem PB.new (w:World):PB w ((w.alloc treeO).alloc (fltO 0 0)):=by
 have hb:=(Below.refl (w.heap.size+1) (w.alloc treeO)).alloc (by simp) (fltO 0 0)
 refine ⟨(bA _).alloc (by simp) _,by simp,(hb.cell (p:=⟨w.heap.size,0,none⟩) (Nat.lt_succ_self _)).trans (by simp),?_,?_,(hb.frozen (p:=⟨w.heap.size,0,none⟩) (Nat.lt_succ_self _)).trans (by simp),fun j=>?_⟩
 ·rw [World.cell?,show w.heap.size+1=(w.alloc treeO).heap.size from by simp,Xf];rfl
 ·rw [World.cell?,show w.heap.size+1=(w.alloc treeO).heap.size from by simp,Xf];rfl
 ·rw [World.frozen?,show w.heap.size+1=(w.alloc treeO).heap.size from by simp,Xf];simp
theorem PB.below {w W W':World} (h:PB w W) (hb:Below W.heap.size W W'):PB w W' :=
 ⟨h.B.trans (hb.mono h.B.size),Nat.lt_of_lt_of_le h.z hb.size,(hb.cell (p:=⟨w.heap.size,0,none⟩) (show w.heap.size < W.heap.size by have:=h.z;omega)).trans h.t0,(hb.cell (p:=⟨w.heap.size+1,0,none⟩) h.z).trans h.f0,(hb.cell (p:=⟨w.heap.size+1,1,none⟩) h.z).trans h.f1,(hb.frozen (p:=⟨w.heap.size,0,none⟩) (show w.heap.size < W.heap.size by have:=h.z;omega)).trans h.ft,fun j=>(hb.frozen (p:=⟨w.heap.size+1,j,none⟩) h.z).trans (h.ff j)⟩
set_option maxRecDepth 100000 in
set_option maxHeartbeats 2000000 in
theorem parse_fault (s:ByteArray) (w:World) (hs:s.size≤1048576) (hc:Yr s≠0) :
  Calls Tryz.prog 36 #[.string s] w fun e w'=>e = .returned (.tuple #[.agg #[.slice none 0 0],.agg #[.int .i64 (Yr s),.int .i64 (Yy s)]])∧Below w.heap.size w w':=by
 have HP0:=X1 (PB.new w)
 have HQ:=X1 (sscan_any s ((w.alloc treeO).alloc (fltO 0 0)) hs)
 have hci:¬ ((Yr s:Nat):Int)=0:=by omega
 have hcb:(((Yr s:Nat):Int) != 0)=true:=by simpa using hc
 go_enter Tryz.func36,Tryz.ntmps36
 go_wp2_with fail
 refine HQ.out.mono ?_
 rintro e w1 ⟨v,rfl,hown,hb1⟩
 have hp1:=HP0.out.below hb1
 have hp2:=hp1.below (bA (fltO (Yr s) (Yy s)))
 have t0:=hp2.t0
 have f0:=hp2.f0
 have f1:=hp2.f1
 have ft:=hp2.ft
 have ff0:=hp2.ff 0
 have ff1:=hp2.ff 1
 have hz:=hp1.z
 have HP2:=X1 hp2
 clear hp1 hp2 hb1 hown HQ
 go_wp2
 go_region
 all_goals
  try go_wp2
  refine bodyPost_ret (v:= .tuple #[.agg #[.slice none 0 0],.agg #[.int .i64 (Yr s),.int .i64 (Yy s)]]) (by simp [results,Tryz.results36,go_sem,t0,f0,f1]) rfl ⟨rfl,?_⟩
  repeat (first | (refine Below.setCell ?_ (by show w.heap.size≤_;simp) _) | (refine Below.drew ?_))
  exact HP2.out.B
section
variable {ts:List Sc.T} {sz:Nat}
theorem Qr (s:Pr.Dk):(Ye ts sz s).bad=true:=by unfold Ye;split;assumption;rfl
theorem Pr.need_stop (s:Pr.Dk) (t:List UInt8):(Xl ts sz (Ye ts sz s) t).bad=true:=by
 have h:=Qr (ts:=ts) (sz:=sz) s
 have hi:X9 ts sz (Ye ts sz s) t=false:=by unfold X9;rw [h];rfl
 unfold Xl
 rw [hi]
 exact Qr _
theorem Pr.pe_on (f:Nat) (s:Pr.Dk):(Xe ts sz (f+1) .statement s).1.bad=true∨s.p < (Xe ts sz (f+1) .statement s).1.p:=by
 have st:∀ (c:Pr.Cmd) (s:Pr.Dk),s.p≤ts.length→Pr.Stp ts s (Xe ts sz f c s).1 (X4 c):=Pr.pe_stp f
 unfold Xe
 split
 ·rename_i hi
  have h1:(X5 s).p≤ts.length:=Xy hi
  exact .inr ((((((((Pr.Stp.refl h1).name (sz:=sz)).run st .params).need (sz:=sz) [61]).run st .e).put 20 0 0 (Xa ts sz (X5 s)) ((Xe ts sz f .params (XD ts sz (X5 s))).2+1)).need (sz:=sz) [59]).ge)
 ·split
  ·rename_i _ hi
   have h1:(X5 s).p≤ts.length:=Xy hi
   exact .inr (((((((Pr.Stp.refl h1).name (sz:=sz)).need (sz:=sz) [61]).run st .e).put 21 0 0 (Xa ts sz (X5 s)) 1).need (sz:=sz) [59]).ge)
  ·split
   ·rename_i _ _ hi
    have h1:(X5 s).p≤ts.length:=Xy hi
    exact .inr (((((Pr.Stp.refl h1).run st .e).put 22 0 0 [] 1).need (sz:=sz) [59]).ge)
   ·split
    ·rename_i _ _ _ hi
     have h1:(X5 s).p≤ts.length:=Xy hi
     split
     ·rename_i hk
      have hl:(X5 s).p < ts.length:=YE (sz:=sz) (by simp only [beq_iff_eq] at hk;omega)
      exact .inr (((((((Pr.Stp.refl h1).advL hl).need (sz:=sz) [58]).run st (.loadL 0)).put 23 0 0 (X2 ts sz (X5 s)).text (Xe ts sz f (.loadL 0) (Xl ts sz (X5 (X5 s)) [58])).2).need (sz:=sz) [59]).ge)
     ·exact .inl (Qr _)
    ·exact .inl (Pr.need_stop _ _)
theorem Pr.Cv.on {s:Pr.Dk} {r:Pr.Dk × Nat} (h:Pr.Cv ts sz .statement s r):r.1.bad=true∨s.p < r.1.p:=by
 obtain ⟨f,hf⟩:=h
 have:=Pr.pe_on (ts:=ts) (sz:=sz) f s
 rwa [hf (f+1) (by omega)] at this
end
def Qu (b:Nat) (ts:List Sc.T) (w:World):Nat :=
 match w.cell? ⟨b,3,none⟩ with
 | some (.bool true)=>0
 | _=>XE b ts w+1
theorem DK.leftB {b tg tc:Nat} {ts:List Sc.T} {sz:Nat} {v:Value} {s:Pr.Dk} {w:World} (h:DK b tg tc ts sz v s w):Qu b ts w=if s.bad then 0 else ts.length - s.p+1:=by
 unfold Qu
 rw [h.c3,h.left]
 cases s.bad <;> rfl
theorem PB.gr {w W W':World} {b:Nat} {v v':Value} (h:PB w W) (hg:Pr.Gr b v v' W W') (hb:w.heap.size+1 < b) (hv:∀ q,v.ownBlock=some q→b < q):PB w W':=by
 have k:∀ q,q≤w.heap.size+1→W'.heap[q]?=W.heap[q]?:=fun q hq=>hg.mv.block q (by have:=h.z;omega) (fun e=>e.elim (fun e=>by omega) (fun e=>by have:=hv q e;omega))
 refine ⟨⟨hg.mv.os.trans h.B.os,hg.mv.tape.trans h.B.tape,hg.mv.output.trans h.B.output,Nat.le_trans h.B.size hg.mv.size,fun q hq=>(k q (by omega)).trans (h.B.block q hq)⟩,Nat.lt_of_lt_of_le h.z hg.mv.size,(World.cell?_of_block (a:=⟨w.heap.size,0,none⟩) (k w.heap.size (by omega))).trans h.t0,(World.cell?_of_block (a:=⟨w.heap.size+1,0,none⟩) (k (w.heap.size+1) (Nat.le_refl _))).trans h.f0,(World.cell?_of_block (a:=⟨w.heap.size+1,1,none⟩) (k (w.heap.size+1) (Nat.le_refl _))).trans h.f1,(World.frozen?_of_block (a:=⟨w.heap.size,0,none⟩) (k w.heap.size (by omega))).trans h.ft,fun j=>(World.frozen?_of_block (a:=⟨w.heap.size+1,j,none⟩) (k (w.heap.size+1) (Nat.le_refl _))).trans (h.ff j)⟩
theorem Tr.cellsOf_atP (l:List Tr.Nd) (i:Nat) (h:i < l.length):(X3 l)[i*5]?=some (.int .i64 l[i].kind)∧(X3 l)[i*5+1]?=some (.int .i64 l[i].op)∧(X3 l)[i*5+2]?=some (.int .i64 l[i].n)∧(X3 l)[i*5+3]?=some (.string l[i].text)∧(X3 l)[i*5+4]?=some (.int .i64 l[i].kids):=by
 induction l generalizing i with
 | nil=>simp at h
 | cons x r ih =>
  rw [show X3 (x :: r)=x.cells++X3 r from rfl]
  match i,h with
  | 0,_=>simp [Tr.Nd.cells]
  | i+1,h =>
   have:=ih i (by simpa using h)
   have hl:x.cells.length=5:=rfl
   refine ⟨?_,?_,?_,?_,?_⟩
   all_goals rw [List.getElem?_append_right (by omega),hl]
   ·rw [show (i+1)*5 - 5=i*5 from by omega];exact this.1
   ·rw [show (i+1)*5+1 - 5=i*5+1 from by omega];exact this.2.1
   ·rw [show (i+1)*5+2 - 5=i*5+2 from by omega];exact this.2.2.1
   ·rw [show (i+1)*5+3 - 5=i*5+3 from by omega];exact this.2.2.2.1
   ·rw [show (i+1)*5+4 - 5=i*5+4 from by omega];exact this.2.2.2.2
theorem Qg {w:World} {B g c:Nat} {l:List Tr.Nd} (h:w.ownsRow B 33 5 (.slice (some ⟨g,0,none⟩) l.length c) l.length (X3 l)):NodesAt w g l :=
 ⟨(h.lt g rfl).2,fun i hi=>by
  obtain ⟨a,b,c',d,e⟩:=Tr.cellsOf_atP l i hi
  exact ⟨Zp h a,Zp h b,Zp h c',Zp h d,Zp h e⟩⟩
def ParsePost (w:World) (r:List Tr.Nd × Nat × Nat) (e:Ending) (w':World):Prop:=∃ v,e = .returned (.tuple #[.agg #[v],.agg #[.int .i64 r.2.1,.int .i64 r.2.2]])∧w'.ownsRow w.heap.size 33 5 v r.1.length (X3 r.1)∧Below w.heap.size w w'
theorem rowLeP {w:World} {base base' size:Nat} {e:TypeId} {v:Value} {n:Nat} {xs:List Value} (h:w.ownsRow base e size v n xs) (hb:base'≤base):w.ownsRow base' e size v n xs:=by
 refine ⟨h.1,?_⟩
 rcases h.2 with h1 | ⟨g',cap',cur,hv,h2,h3⟩
 ·exact .inl h1
 ·exact .inr ⟨g',cap',cur,hv,Nat.le_trans hb h2,h3⟩
theorem Jf {q:Pr.Dk} {n:Nat} {l:List Tr.Nd} (hl:(Xg q 24 0 0 [] n).out=l) (hb:q.bad=false) (hv:XR l=false):Zc (q,n)=([],7,0):=by
 have e:q.out++[⟨24,0,0,⟨#[]⟩,(n:Int)⟩]=l:=hl
 unfold Zc
 rw [if_neg (by simp [hb]),if_neg (by simp only [e,hv];decide)]
theorem QQ {q:Pr.Dk} {n:Nat} {l:List Tr.Nd} (hl:(Xg q 24 0 0 [] n).out=l) (hb:q.bad=false) (hv:XR l=true):Zc (q,n)=(l,0,0):=by
 have e:q.out++[⟨24,0,0,⟨#[]⟩,(n:Int)⟩]=l:=hl
 unfold Zc
 rw [if_neg (by simp [hb]),if_pos (by simp only [e,hv])]
 simp only [e]
set_option maxRecDepth 100000 in
set_option maxHeartbeats 4000000 in
theorem parse_toks (s:ByteArray) (w:World) (hs:s.size≤1048576) (hc:Yr s=0) (hne:(Z1 s)≠[]) :
  Calls Tryz.prog 36 #[.string s] w fun e w'=>∃ r,Kv s r∧ParsePost w (Zc r) e w':=by
 have HP0:=X1 (PB.new w)
 have HQ:=X1 (sscan_any s ((w.alloc treeO).alloc (fltO 0 0)) hs)
 have hci:((Yr s:Nat):Int)=0:=by omega
 have hln:=Sc.toks_lenP s
 have HCO:Hid (∀ r,Pr.Cv (Z1 s) s.size (.fileL 0) ZL r→Kv s r):=X1 (fun _ h=>h)
 rw [hci] at HQ
 have HNE:=X1 hne
 clear hci hne
 go_enter Tryz.func36,Tryz.ntmps36
 go_wp2_with fail
 refine HQ.out.mono ?_
 rintro e w1 ⟨v,rfl,hown,hb1⟩
 have hp2:=(HP0.out.below hb1).below (bA (fltO 0 (Yy s)))
 have hz2:=hp2.z
 generalize Z1 s=ts at *
 rcases hown.2 with ⟨_,h0⟩ | ⟨tg,tc,cur,hv,_⟩
 ·exact absurd (List.eq_nil_of_length_eq_zero h0) HNE.out
 ·subst hv
  have hrow:=Yq hown ((Below.refl w1.heap.size w1).alloc (Nat.le_refl _) (fltO 0 (Yy s)))
  have hd:=DK.init (sz:=s.size) hrow (by omega)
  have hp3:=hp2.below (bA (.cells #[.slice (some ⟨tg,0,none⟩) ts.length tc,.int .i64 s.size,.int .i64 0,.bool false,.int .i64 0,.slice none 0 0] 100))
  rw [World.size_alloc] at hd
  have HD0:=X1 hd
  have HPH:Hid (Qb ts ZL≤1000000):=X1 (by unfold Qb ZL;simp;omega)
  have HP3:=X1 hp3
  have HZ2:=X1 hz2
  clear hd hp2 hp3 hrow hown hb1 HQ hz2
  go_wp2_with fail
  go_loopw [7] (fun t wr=>∃ (n:Nat) (q:Pr.Dk) (vq:Value),t = .int .i64 n∧n≤q.p+1∧(q.bad=false→n≤q.p)∧DK (w1.heap.size+1) tg tc ts s.size vq q wr∧Pr.Gr (w1.heap.size+1) (.slice none 0 0) vq ((w1.alloc (fltO 0 (Yy s))).alloc (.cells #[.slice (some ⟨tg,0,none⟩) ts.length tc,.int .i64 s.size,.int .i64 0,.bool false,.int .i64 0,.slice none 0 0] 100)) wr∧Pr.Stp ts ZL q 0∧∀ rr,Pr.Cv ts s.size (.fileL n) q rr→Kv s rr) (fun _ wr=>Qu (w1.heap.size+1) ts wr)
  case atStart=>exact ⟨0,ZL,_,rfl,Nat.zero_le _,fun _=>Nat.zero_le _,HD0.out,.refl _ _ _,.refl (Nat.zero_le _),HCO.out⟩
  case round =>
   obtain ⟨n,q,v30,rfl,hn1,hn2,hd30,hg30,hs30,hi30⟩:=hrel
   have c0:=hd30.c0
   have c2:=hd30.c2
   have c3:=hd30.c3
   have hle:=hd30.le
   have HD30:=X1 hd30
   have HG30:=X1 hg30
   have HS30:=X1 hs30
   have HI30:=X1 hi30
   clear hd30 hg30 hs30 hi30
   cases hbad:q.bad
   ·rw [hbad] at c3
    have hnp:=hn2 hbad
    by_cases hlt:q.p < ts.length
    ·have hlti:(q.p:Int) < (ts.length:Int):=by omega
     have HF:=X1 (show (q.bad || decide (ts.length≤q.p))=false from by rw [hbad];simp;omega)
     have hd31:=HD30.out.below (Below.refl _ _).drew
     have HD31:=X1 hd31
     have HG31:=X1 (HG30.out.trans (.below (Below.refl _ _).drew))
     clear hd31
     go_wp2_with fail
     go_region
     all_goals
      have Q32:=X1 (Pr.statement_any _ _ _ _ _ q _ _ HD31.out (HS30.out.phi (by first | omega | (simp only [X4];omega)) (Nat.zero_le _) HPH.out))
      go_wp2_with fail
      refine Q32.out.mono ?_
      rintro e32 w32 ⟨r32,rfl,hc32,v32,hd32,hg32⟩
      have HC32:=X1 hc32
      have HD32:=X1 hd32
      have HG32:=X1 (HG31.out.trans hg32)
      have hst:=hc32.stp hle
      have HS32:Hid (Pr.Stp ts ZL r32.1 0):=X1 ((HS30.out.trans hst).mono (by simp only [X4];omega))
      have hon:=hc32.on
      have HNA:=X1 (show n+1≤r32.1.p+1 from by have:=hst.ge;omega)
      have HNB:=X1 (show r32.1.bad=false→n+1≤r32.1.p from fun h=>by rcases hon with h1 | h1;rw [h] at h1;cases h1;omega)
      have HM:=X1 (show Qu (w1.heap.size+1) ts w32 < Qu (w1.heap.size+1) ts wr from by
       rw [HD32.out.leftB,HD30.out.leftB,hbad]
       rcases hon with h1 | h1
       ·rw [h1];simp
       ·have:=HD32.out.le
        simp only [Bool.false_eq_true,if_false]
        split <;> omega)
      clear hc32 hd32 hg32 hst hon Q32
      go_wp2
      go_roundw
      case rel=>exact ⟨n+1,r32.1,v32,by go_num,HNA.out,HNB.out,HD32.out,HG32.out,HS32.out,fun rr h=>HI30.out _ (Pr.Cv.fileL_go HF.out HC32.out h)⟩
      case measure=>exact HM.out
    ·have hlti:¬ (q.p:Int) < (ts.length:Int):=by omega
     have hltd:decide ((q.p:Int) < (ts.length:Int))=false:=by simpa using hlti
     have HR:=X1 (HI30.out _ (Pr.Cv.fileL_end (by rw [hbad];simp;omega)))
     have hd31:=HD30.out.below (Below.refl _ _).drew
     have c3d:=hd31.c3
     rw [hbad] at c3d
     have HD31:=X1 hd31
     have HG31:=X1 (HG30.out.trans (.below (Below.refl _ _).drew))
     have hol:q.out.length≤100000000:=HS30.out.len (by first | omega | (simp only [X4];omega)) (Nat.zero_le _) HPH.out
     have hol2:q.out.length≤1000000:=by have h1:=HS30.out.phi (by first | omega | (simp only [X4];omega)) (Nat.zero_le _) HPH.out;unfold Qb at h1;omega
     have hb4:w.heap.size+1 < w1.heap.size+1:=by have:=HZ2.out;simp at this;omega
     have HB4:=X1 hb4
     clear hd31 hb4
     go_wp2_with fail
     go_region
     all_goals
      have Q32:=X1 (XF HD31.out hol 24 0 0 [] n)
      go_wp2_with fail
      refine Q32.out.mono ?_
      rintro e32 w32 ⟨rfl,v32,hd32,hg32⟩
      obtain ⟨L,hL⟩:∃ L,(Xg q 24 0 0 [] n).out=L:=⟨_,rfl⟩
      have hLl:L.length=q.out.length+1:=by rw [← hL,Pr.put_len]
      have hrL:=hd32.row
      rw [hL] at hrL
      rcases hrL.2 with ⟨_,h0⟩ | ⟨g,cp,cur2,hv,_⟩
      ·omega
      subst hv
      have hpb:=(HP3.out.gr (HG31.out.trans hg32) HB4.out (fun _ e=>by cases e)).below (bA (.cells #[.slice (some ⟨g,0,none⟩) L.length cp] 25))
      have c5:=hd32.c5
      have hrow3:=Yq hrL ((Below.refl w32.heap.size w32).alloc (Nat.le_refl _) (.cells #[.slice (some ⟨g,0,none⟩) L.length cp] 25))
      have hll:L.length≤1048576:=by omega
      have HV:=X1 (valid_any L g cp _ hll (Qg hrow3))
      have HROW:=X1 hrow3
      have HPB:=X1 hpb
      have HLL:=X1 hL
      clear hd32 hg32 hrow3 hpb Q32 hrL hL
      obtain ⟨bv,hval⟩:∃ b,XR L=b:=⟨_,rfl⟩
      rw [hval] at HV
      have HVL:=X1 hval
      clear hval hll hLl
      cases bv
      ·go_wp2_with fail
       refine HV.out.mono ?_
       rintro e33 w33 ⟨rfl,hb33⟩
       have hpb3:=HPB.out.below hb33
       have t0:=hpb3.t0
       have f0:=hpb3.f0
       have f1:=hpb3.f1
       have ft:=hpb3.ft
       have ff0:=hpb3.ff 0
       have ff1:=hpb3.ff 1
       have HPB3:=X1 hpb3
       have HRR:=X1 (Jf HLL.out hbad HVL.out)
       clear hb33 hpb3
       go_wp2
       refine bodyPost_ret (v:= .tuple #[.agg #[.slice none 0 0],.agg #[.int .i64 7,.int .i64 0]]) (by simp [results,Tryz.results36,go_sem,t0,f0,f1]) rfl ⟨(q,n),HR.out,?_⟩
       rw [HRR.out]
       refine ⟨_,rfl,World.ownsRow_nil _ _ _ _,?_⟩
       repeat (first | (refine Below.setCell ?_ (by show w.heap.size≤_;simp) _) | (refine Below.drew ?_))
       exact HPB3.out.B
      ·go_wp2_with fail
       refine HV.out.mono ?_
       rintro e33 w33 ⟨rfl,hb33⟩
       have hpb3:=HPB.out.below hb33
       have t0:=hpb3.t0
       have f0:=hpb3.f0
       have f1:=hpb3.f1
       have ft:=hpb3.ft
       have ff0:=hpb3.ff 0
       have ff1:=hpb3.ff 1
       have x0:w33.cell? ⟨w32.heap.size,0,none⟩=some (Value.slice (some ⟨g,0,none⟩) L.length cp):=(hb33.cell (p:=⟨w32.heap.size,0,none⟩) (show w32.heap.size < (w32.alloc (.cells #[.slice (some ⟨g,0,none⟩) L.length cp] 25)).heap.size by simp)).trans (by simp [go_sem])
       have HROW3:=X1 (rowLeP (Yq HROW.out hb33) (show w.heap.size+2≤w1.heap.size+1+1 by have:=HB4.out;omega))
       have HPB3:=X1 hpb3
       have HRR:=X1 (QQ HLL.out hbad HVL.out)
       clear hb33 hpb3
       go_wp2
       refine bodyPost_ret (v:= .tuple #[.agg #[.slice (some ⟨g,0,none⟩) L.length cp],.agg #[.int .i64 0,.int .i64 0]]) (by simp [results,Tryz.results36,go_sem,t0,f0,f1]) rfl ⟨(q,n),HR.out,?_⟩
       rw [HRR.out]
       refine ⟨_,rfl,?_,?_⟩
       ·refine rowLeP (base:=w.heap.size+2) ?_ (by omega)
        repeat (refine ownsRow_setCell_below ?_ (by show _ < w.heap.size+2;simp) _)
        exact HROW3.out
       ·repeat (first | (refine Below.setCell ?_ (by show w.heap.size≤_;simp) _) | (refine Below.drew ?_))
        exact HPB3.out.B
   ·rw [hbad] at c3
    have c4:=HD30.out.c4
    have hpb:=HP3.out.gr HG30.out (by have:=HZ2.out;simp at this;omega) (fun _ e=>by cases e)
    have t0:=hpb.t0
    have f0:=hpb.f0
    have f1:=hpb.f1
    have ft:=hpb.ft
    have ff0:=hpb.ff 0
    have ff1:=hpb.ff 1
    have HPB:=X1 hpb
    have HR:=X1 (HI30.out _ (Pr.Cv.fileL_end (by rw [hbad];rfl)))
    have HRR:=X1 (show Zc (q,n)=([],6,q.place) from by unfold Zc;simp [hbad])
    clear hpb
    go_wp2_with fail
    go_region
    all_goals
     go_wp2
     go_region
     all_goals
      try go_wp2
      refine bodyPost_ret (v:= .tuple #[.agg #[.slice none 0 0],.agg #[.int .i64 6,.int .i64 q.place]]) (by simp [results,Tryz.results36,go_sem,t0,f0,f1]) rfl ⟨(q,n),HR.out,?_⟩
      rw [HRR.out]
      refine ⟨_,rfl,World.ownsRow_nil _ _ _ _,?_⟩
      repeat (first | (refine Below.setCell ?_ (by show w.heap.size≤_;simp) _) | (refine Below.drew ?_))
      exact HPB.out.B
set_option maxRecDepth 100000 in
set_option maxHeartbeats 1000000 in
theorem put_first {b:Nat} {w:World} (hc:w.cell? ⟨b,5,none⟩=some (.slice none 0 0)) (hf:w.frozen? ⟨b,5,none⟩=false) (k o n:Int) (t:List UInt8) (c:Nat) :
  Calls Tryz.prog 59 #[.pointer (some ⟨b,0,none⟩),.agg #[.int .i64 k,.int .i64 o,.int .i64 n,.string ⟨t.toArray⟩,.int .i64 c]] w fun e w'=>e = .returned (.tuple #[])∧∃ v',w'.cell? ⟨b,5,none⟩=some v'∧w'.ownsRow (b+1) 33 5 v' 1 (Tr.Nd.cells ⟨k,o,n,⟨t.toArray⟩,c⟩)∧Pr.Gr b (.slice none 0 0) v' w w':=by
 obtain ⟨iN,hN,hNz,hNs,hNb⟩:=info_parts Tryz.infoNdP
 have hl:b < w.heap.size:=World.block_lt_of_cell? w ⟨b,5,none⟩ hc
 have bb:Below w.heap.size w (w.alloc (.cells #[.int .i64 k,.int .i64 o,.int .i64 n,.string ⟨t.toArray⟩,.int .i64 c] 33)):=bA _
 have c5:(w.alloc (.cells #[.int .i64 k,.int .i64 o,.int .i64 n,.string ⟨t.toArray⟩,.int .i64 c] 33)).cell? ⟨b,5,none⟩=some (.slice none 0 0):=(bb.cell (p:=⟨b,5,none⟩) hl).trans hc
 have f5:(w.alloc (.cells #[.int .i64 k,.int .i64 o,.int .i64 n,.string ⟨t.toArray⟩,.int .i64 c] 33)).frozen? ⟨b,5,none⟩=false:=(bb.frozen (p:=⟨b,5,none⟩) hl).trans hf
 have hz1:(w.alloc (.cells #[.int .i64 k,.int .i64 o,.int .i64 n,.string ⟨t.toArray⟩,.int .i64 c] 33)).heap.size=w.heap.size+1:=by simp
 have b2:Below w.heap.size w ((w.alloc (.cells #[.int .i64 k,.int .i64 o,.int .i64 n,.string ⟨t.toArray⟩,.int .i64 c] 33)).alloc (.cells #[.int .i64 k,.int .i64 o,.int .i64 n,.string ⟨t.toArray⟩,.int .i64 c] 33)).drew:=(bb.alloc (by simp) (.cells #[.int .i64 k,.int .i64 o,.int .i64 n,.string ⟨t.toArray⟩,.int .i64 c] 33)).drew
 have C3:=X1 ((b2.cell (p:=⟨b,5,none⟩) hl).trans hc)
 have F3:=X1 ((b2.frozen (p:=⟨b,5,none⟩) hl).trans hf)
 have G3:Hid (Pr.Gr b (.slice none 0 0) (.slice none 0 0) w ((w.alloc (.cells #[.int .i64 k,.int .i64 o,.int .i64 n,.string ⟨t.toArray⟩,.int .i64 c] 33)).alloc (.cells #[.int .i64 k,.int .i64 o,.int .i64 n,.string ⟨t.toArray⟩,.int .i64 c] 33)).drew):=X1 (.below b2)
 have L3:Hid (b < ((w.alloc (.cells #[.int .i64 k,.int .i64 o,.int .i64 n,.string ⟨t.toArray⟩,.int .i64 c] 33)).alloc (.cells #[.int .i64 k,.int .i64 o,.int .i64 n,.string ⟨t.toArray⟩,.int .i64 c] 33)).drew.heap.size):=X1 (Nat.lt_of_lt_of_le hl b2.size)
 clear b2 bb hc hf
 go_enter Tryz.func59,Tryz.ntmps59
 go_wp2_with fail
 go_region_law ((refine XZ rfl (.tmp 8) (.tmp 10) 23 rfl (b+1) 33 iN _ 5 48 Tryz.underlying23 hN hNz hNs hNb rfl (by decide) (.slice none 0 0) 0 [] (by simp [Act.eval]) (World.ownsRow_nil _ _ _ _) ⟨w.heap.size+1,0,none⟩ 1 1 [.int .i64 k,.int .i64 o,.int .i64 n,.string ⟨t.toArray⟩,.int .i64 c] (by simp [Act.eval]) rfl (QV _ [_,_,_,_,_] _ _ (by simp)) (by simp [Value.oneCell']) (by unfold maxLen;omega) (by omega) (by have:=L3.out;omega) ?_;intro v5 w5 r1 r2 r3 r4;obtain ⟨p5,c5',rfl⟩:=Xc r1;have q5:=(World.cell?_of_block (a:=⟨b,5,none⟩) (r2.block b L3.out (fun e=>by cases e))).trans C3.out;have q6:=(World.frozen?_of_block (a:=⟨b,5,none⟩) (r2.block b L3.out (fun e=>by cases e))).trans F3.out))
 all_goals
  have HR1:=X1 r1
  have HR2:=X1 r2
  have HR4:=X1 r4
  have HQ5:=X1 q5
  clear r1 r2 r3 r4
  go_wp2
  (first | go_end0 | refine bodyPost_ret (results_none rfl _ _ _) rfl ?_)
  refine ⟨rfl,_,World.cell?_setCell_same _ _ _ HQ5.out,?_,(G3.out.trans (.grown HR2.out HR4.out)).trans (.set _ _ _ _ _)⟩
  exact Qv HR1.out (fun g hg' _=>Below.heap_setCell _ _ _ _ (show g≠b by omega))
set_option maxRecDepth 100000 in
set_option maxHeartbeats 4000000 in
theorem parse_none (s:ByteArray) (w:World) (hs:s.size≤1048576) (hc:Yr s=0) (hne:Z1 s=[]) :
  Calls Tryz.prog 36 #[.string s] w fun e w'=>∃ r,Kv s r∧ParsePost w (Zc r) e w':=by
 have HP0:=X1 (PB.new w)
 have HQ:=X1 (sscan_any s ((w.alloc treeO).alloc (fltO 0 0)) hs)
 have hci:((Yr s:Nat):Int)=0:=by omega
 have HR:Hid (Kv s (ZL,0)):=X1 (by unfold Kv;rw [hne];exact Pr.Cv.fileL_end rfl)
 rw [hci,hne] at HQ
 clear hci hne
 go_enter Tryz.func36,Tryz.ntmps36
 go_wp2_with fail
 refine HQ.out.mono ?_
 rintro e w1 ⟨v,rfl,hown,hb1⟩
 have hp2:=(HP0.out.below hb1).below (bA (fltO 0 (Yy s)))
 obtain ⟨tp,tq,hv⟩:=Xc hown
 simp only [List.length_nil] at hv
 subst hv
 have hb4:w.heap.size+1 < w1.heap.size+1:=by have:=hp2.z;simp at this;omega
 have HB4:=X1 hb4
 have hp3:=hp2.below (bA (.cells #[.slice tp 0 tq,.int .i64 s.size,.int .i64 0,.bool false,.int .i64 0,.slice none 0 0] 100))
 have c0:((w1.alloc (fltO 0 (Yy s))).alloc (.cells #[.slice tp 0 tq,.int .i64 s.size,.int .i64 0,.bool false,.int .i64 0,.slice none 0 0] 100)).cell? ⟨w1.heap.size+1,0,none⟩=some (.slice tp 0 tq):=by rw [show w1.heap.size+1=(w1.alloc (fltO 0 (Yy s))).heap.size from by simp];simp
 have c2:((w1.alloc (fltO 0 (Yy s))).alloc (.cells #[.slice tp 0 tq,.int .i64 s.size,.int .i64 0,.bool false,.int .i64 0,.slice none 0 0] 100)).cell? ⟨w1.heap.size+1,2,none⟩=some (.int .i64 0):=by rw [show w1.heap.size+1=(w1.alloc (fltO 0 (Yy s))).heap.size from by simp];simp
 have c3:((w1.alloc (fltO 0 (Yy s))).alloc (.cells #[.slice tp 0 tq,.int .i64 s.size,.int .i64 0,.bool false,.int .i64 0,.slice none 0 0] 100)).cell? ⟨w1.heap.size+1,3,none⟩=some (.bool false):=by rw [show w1.heap.size+1=(w1.alloc (fltO 0 (Yy s))).heap.size from by simp];simp
 have c5:((w1.alloc (fltO 0 (Yy s))).alloc (.cells #[.slice tp 0 tq,.int .i64 s.size,.int .i64 0,.bool false,.int .i64 0,.slice none 0 0] 100)).cell? ⟨w1.heap.size+1,5,none⟩=some (.slice none 0 0):=by rw [show w1.heap.size+1=(w1.alloc (fltO 0 (Yy s))).heap.size from by simp];simp
 have f5:((w1.alloc (fltO 0 (Yy s))).alloc (.cells #[.slice tp 0 tq,.int .i64 s.size,.int .i64 0,.bool false,.int .i64 0,.slice none 0 0] 100)).frozen? ⟨w1.heap.size+1,5,none⟩=false:=by rw [show w1.heap.size+1=(w1.alloc (fltO 0 (Yy s))).heap.size from by simp];simp
 have HP3:=X1 hp3
 obtain ⟨W2,hW2⟩:∃ W,(w1.alloc (fltO 0 (Yy s))).alloc (.cells #[.slice tp 0 tq,.int .i64 s.size,.int .i64 0,.bool false,.int .i64 0,.slice none 0 0] 100)=W:=⟨_,rfl⟩
 rw [hW2] at c0 c2 c3 c5 f5 HP3
 have HC5:=X1 c5
 have HF5:=X1 f5
 have HW2:=X1 hW2
 clear hp2 hp3 hown hb1 HQ hb4 hW2 c5 f5
 go_wp2_with fail
 rw [HW2.out]
 go_loopw [7] (fun t wr=>t = .int .i64 0∧wr=W2) (fun _ _=>0)
 case atStart=>exact ⟨rfl,rfl⟩
 case round =>
  obtain ⟨rfl,rfl⟩:=hrel
  have c3d:wr.drew.cell? ⟨w1.heap.size+1,3,none⟩=some (.bool false):=c3
  go_wp2_with fail
  go_region
  all_goals
   have Q32:=X1 (put_first (show wr.drew.cell? ⟨w1.heap.size+1,5,none⟩=_ from HC5.out) (show wr.drew.frozen? ⟨w1.heap.size+1,5,none⟩=_ from HF5.out) 24 0 0 [] 0)
   go_wp2_with fail
   refine Q32.out.mono ?_
   rintro e32 w32 ⟨rfl,v32,c5,hrL,hg32⟩
   obtain ⟨L,hL⟩:∃ L,(Xg ZL 24 0 0 [] 0).out=L:=⟨_,rfl⟩
   have hLl:L.length=1:=by rw [← hL,Pr.put_len];rfl
   have hrL:w32.ownsRow (w1.heap.size+1+1) 33 5 v32 L.length (X3 L):=by rw [hLl,← hL];exact hrL
   rcases hrL.2 with ⟨_,h0⟩ | ⟨g,cp,cur2,hv,_⟩
   ·omega
   subst hv
   have hpb:=((HP3.out.below (Below.refl _ _).drew).gr hg32 HB4.out (fun _ e=>by cases e)).below (bA (.cells #[.slice (some ⟨g,0,none⟩) L.length cp] 25))
   have hrow3:=Yq hrL ((Below.refl w32.heap.size w32).alloc (Nat.le_refl _) (.cells #[.slice (some ⟨g,0,none⟩) L.length cp] 25))
   have hll:L.length≤1048576:=by omega
   have HV:=X1 (valid_any L g cp _ hll (Qg hrow3))
   have HROW:=X1 hrow3
   have HPB:=X1 hpb
   have HLL:=X1 hL
   clear hg32 hrow3 hpb Q32 hrL hL
   obtain ⟨bv,hval⟩:∃ b,XR L=b:=⟨_,rfl⟩
   rw [hval] at HV
   have HVL:=X1 hval
   clear hval hll hLl
   cases bv
   ·go_wp2_with fail
    refine HV.out.mono ?_
    rintro e33 w33 ⟨rfl,hb33⟩
    have hpb3:=HPB.out.below hb33
    have t0:=hpb3.t0
    have f0:=hpb3.f0
    have f1:=hpb3.f1
    have ft:=hpb3.ft
    have ff0:=hpb3.ff 0
    have ff1:=hpb3.ff 1
    have HPB3:=X1 hpb3
    have HRR:=X1 (Jf HLL.out rfl HVL.out)
    clear hb33 hpb3
    go_wp2
    refine bodyPost_ret (v:= .tuple #[.agg #[.slice none 0 0],.agg #[.int .i64 7,.int .i64 0]]) (by simp [results,Tryz.results36,go_sem,t0,f0,f1]) rfl ⟨(ZL,0),HR.out,?_⟩
    rw [HRR.out]
    refine ⟨_,rfl,World.ownsRow_nil _ _ _ _,?_⟩
    repeat (first | (refine Below.setCell ?_ (by show w.heap.size≤_;simp) _) | (refine Below.drew ?_))
    exact HPB3.out.B
   ·go_wp2_with fail
    refine HV.out.mono ?_
    rintro e33 w33 ⟨rfl,hb33⟩
    have hpb3:=HPB.out.below hb33
    have t0:=hpb3.t0
    have f0:=hpb3.f0
    have f1:=hpb3.f1
    have ft:=hpb3.ft
    have ff0:=hpb3.ff 0
    have ff1:=hpb3.ff 1
    have x0:w33.cell? ⟨w32.heap.size,0,none⟩=some (Value.slice (some ⟨g,0,none⟩) L.length cp):=(hb33.cell (p:=⟨w32.heap.size,0,none⟩) (show w32.heap.size < (w32.alloc (.cells #[.slice (some ⟨g,0,none⟩) L.length cp] 25)).heap.size by simp)).trans (by simp [go_sem])
    have HROW3:=X1 (rowLeP (Yq HROW.out hb33) (show w.heap.size+2≤w1.heap.size+1+1 by have:=HB4.out;omega))
    have HPB3:=X1 hpb3
    have HRR:=X1 (QQ HLL.out rfl HVL.out)
    clear hb33 hpb3
    go_wp2
    refine bodyPost_ret (v:= .tuple #[.agg #[.slice (some ⟨g,0,none⟩) L.length cp],.agg #[.int .i64 0,.int .i64 0]]) (by simp [results,Tryz.results36,go_sem,t0,f0,f1]) rfl ⟨(ZL,0),HR.out,?_⟩
    rw [HRR.out]
    refine ⟨_,rfl,?_,?_⟩
    ·refine rowLeP (base:=w.heap.size+2) ?_ (by omega)
     repeat (refine ownsRow_setCell_below ?_ (by show _ < w.heap.size+2;simp) _)
     exact HROW3.out
    ·repeat (first | (refine Below.setCell ?_ (by show w.heap.size≤_;simp) _) | (refine Below.drew ?_))
     exact HPB3.out.B
def Pr.Parsed (s:ByteArray) (r:List Tr.Nd × Nat × Nat):Prop:=(Yr s≠0∧r=([],Yr s,Yy s))∨(Yr s=0∧∃ d,Kv s d∧r=Zc d)
theorem sparse_any (s:ByteArray) (w:World) (hs:s.size≤1048576) :
  Calls Tryz.prog 36 #[.string s] w fun e w'=>∃ r,Pr.Parsed s r∧ParsePost w r e w':=by
 by_cases hc:Yr s=0
 ·by_cases hn:Z1 s=[]
  ·exact (parse_none s w hs hc hn).mono (fun e w' ⟨r,hr,hp⟩=>⟨_,.inr ⟨hc,r,hr,rfl⟩,hp⟩)
  ·exact (parse_toks s w hs hc hn).mono (fun e w' ⟨r,hr,hp⟩=>⟨_,.inr ⟨hc,r,hr,rfl⟩,hp⟩)
 ·exact (parse_fault s w hs hc).mono (fun e w' ⟨he,hb⟩=>⟨_,.inl ⟨hc,rfl⟩,_,he,World.ownsRow_nil _ _ _ _,hb⟩)
theorem Tr.valid_len {l:List Tr.Nd} (h:XR l=true):l.length≤5000:=by
 unfold XR at h
 simp only [Bool.and_eq_true] at h
 have:=YR h.1.1.1
 omega
theorem Pr.Parsed.len {s:ByteArray} {r:List Tr.Nd × Nat × Nat} (h:Pr.Parsed s r):r.1.length≤5000:=by
 rcases h with ⟨h1,rfl⟩ | ⟨h1,d,hd,rfl⟩
 ·exact Nat.zero_le _
 ·unfold Zc
  split
  ·exact Nat.zero_le _
  ·split
   ·rename_i _ hv
    exact Tr.valid_len hv
   ·exact Nat.zero_le _
end Go.Proofs.YthbfdaifgnhkbaaGreatDoor
